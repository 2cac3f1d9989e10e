import PyProof.Rows.All
import Wide.All
import OpenK.AllK
import Wide.FinOn
import PySem.Challenge.RW_stagecut_k33_rows_of_nets
import HandS.ForMost
import HandS.ForExc
import HandS.Codes
import HandS.StrMore
import HandS.IsInst
import HandS.More
import HandS.Zip
import HandS.WideBits
import HandS.CallLocal
import HandS.DictComp
import HandS.TupLe
import HandS.Conv
import HandS.Zip0
import HandS.TupAny
import HandS.Star
import HandS.ExcInit
import HandS.ExcField
import HandS.ExcIs
import KE.KExcIs
import HandS.RaiseMore
import HandS.NoneIn
import HandS.AnyAll
import HandS.ExcOwn
import HandS.TryOnly
import KE.BitLaws
import PyProof.SeqIndex
import HandS.EndTab
set_option Elab.async false
set_option linter.all false
set_option maxRecDepth 100000
set_option maxHeartbeats 8000000
set_option pp.maxSteps 500
/-! enumerate of a tuple. -/
namespace EnT
open PySem PySem.Spec PyProof.Rows L2
open PySem.Sem (wp)
open PySem.AutoSeq1 (wpAny_loadPart')
theorem draws_tup {prog : Program} {w : World} {A : Around} (hh : A.handled = none) (it tp : Addr) (hne : tp ≠ it) (vals : Array Value) :
    Draws prog w A it [it, tp] vals.size (fun i v => vals[i]? = some v) (fun i h => h.IsTupleIter it tp i ∧ h.IsTuple tp vals) where
  live := fun _ _ q => by
    obtain ⟨⟨ob, e, _⟩, _⟩ := q
    exact ⟨ob, e⟩
  frame := fun _ _ _ q k => ⟨q.1.at fun ob e => k it (by simp) ob e, q.2.at fun ob e => k tp (by simp) ob e⟩
  item := fun i s Q E hi q k => by
    refine RZ.nextOf_tuple_item q.1 q.2 (x := vals[i]) (by simp [hi]) fun hp q1 q2 => ?_
    exact k _ hp s.toks (by simp [hi]) ⟨q1, q.2.extBut q2.extBut hne⟩ q2
  done := fun s Q E q k => RZ.nextOf_tuple_end hh q.1 q.2 (by simp) k
abbrev itO (tp : Addr) : Obj := { cls := .type "tuple_iterator", data := .fields #[.ref tp, .int 0 0] }
abbrev enO (it : Addr) : Obj := { cls := .type "enumerate", data := .fields #[.none, .bool false, .ref it, rawInt 0, .none, .none] }
theorem new_enumT (tp : Addr) (vals : Array Value) (n : Nat) (dct : Option Addr) (sl : Array (Option Value)) :
    Meets (Builtin.«enumerate.__new__» ⟨[.type "enumerate", .ref tp], []⟩) (fun _ R s => s.heap.get? tp = some { cls := .type "tuple", dict := dct, data := .seq vals n, slots := sl } ∧
      R (.ok (.ret (.ref (s.heap.push (itO tp)).objs.size))) { s with heap := (s.heap.push (itO tp)).push (enO s.heap.objs.size) }) := by
  refine .of_wp fun prog w A R s hq => ?_
  obtain ⟨hp, gs, dd, tk, rest⟩ := s
  obtain ⟨ht, q⟩ := hq
  have sub := sub_enumerate
  have isT : Heap.IsTuple (Shared.heap ⟨hp, gs, dd, tk, rest⟩) tp vals := ⟨_, ht, rfl, n, rfl⟩
  wp_walk using wpAny_loadPart' ht
  refine wpAny_stack_any fun _ => wpAny_pure ?_
  split
  · rename_i c _ _ _ _ _
    cases (c == Value.type "enumerate")
    · wp_walk using wpAny_loadPart' ht, wpAny_pyIter_tuple isT
      exact ⟨_, rfl, q⟩
    · wp_walk using wpAny_loadPart' ht, wpAny_pyIter_tuple isT
      exact ⟨_, rfl, q⟩
  · wp_walk using wpAny_loadPart' ht, wpAny_pyIter_tuple isT
    exact ⟨_, rfl, q⟩
section
variable {prog : Program} {w : World} {A : Around} {E : Value → Shared → Prop} {s : Shared}
theorem call_enumT {tp : Addr} {vals : Array Value} {Q : Value → Shared → Prop} (hT : s.heap.IsTuple tp vals)
    (k : ∀ hp, IsEnum hp (s.heap.objs.size + 1) s.heap.objs.size 0 .none → hp.IsTupleIter s.heap.objs.size tp 0 → (∀ b o, s.heap.get? b = some o → hp.get? b = some o) → Q (.ref (s.heap.objs.size + 1)) { s with heap := hp }) :
    wpAny (model prog w) A (call (.type "enumerate") [.ref tp]) Q E s := by
  obtain ⟨⟨cl, dct, dt, sl⟩, ht, e1, n, e2⟩ := hT
  obtain rfl : cl = .type "tuple" := e1
  obtain rfl : dt = .seq vals n := e2
  refine callType_new F.called_enumerate (by decide) (F.typeCall_enumerate_1 _) (F.newCall_enumerate_1 _) (fun ob => F.args_object_init_2 ob _) F.entry_enumerate_new (new_enumT tp vals n dct sl) ⟨ht, ?_⟩
  have sz : (s.heap.push (itO tp)).objs.size = s.heap.objs.size + 1 := Heap.size_push ..
  show _ ∧ _
  rw [sz]
  have en : IsEnum ((s.heap.push (itO tp)).push (enO s.heap.objs.size)) (s.heap.objs.size + 1) s.heap.objs.size 0 .none := by
    have g := Heap.get?_push_size (s.heap.push (itO tp)) (o := enO s.heap.objs.size) rfl
    rw [sz] at g
    exact g
  exact ⟨⟨_, en, rfl⟩, k _ en ⟨_, Heap.get?_push_of_some _ (Heap.get?_push_size _ rfl), rfl, rfl⟩ fun b o y => Heap.get?_push_of_some _ (Heap.get?_push_of_some _ y)⟩
end
/-- the tuple at a at each turn, its items in new pairs -/
def ItT (K : PySem.W.Frag) (a : Addr) : It :=
  ⟨fun i H => ∃ (xs : List V) (x : V), SqT K H a xs ∧ xs[i]? = some x, fun i H v H' => ∃ T x, v = .ref T ∧ H T = none ∧ H' = upd H T (.tup [.int (i : Nat), x]) ∧ ∀ xs, SqT K H a xs → xs[i]? = some x, fun i H => ∃ xs : List V, SqT K H a xs ∧ xs.length ≤ i⟩
theorem turn {P : Program} {w : World} {K : PySem.W.Frag} {elts : List Expr} {kk : Nat} {tpos : Pos} (a e it : Addr) :
    Turn P w K (.Tuple elts kk tpos) (ItT K a) [e, it] e (fun i h => (∃ old, IsEnum h e it ((i : Nat) : Int) old) ∧ h.IsTupleIter it a i ∧ e ≠ it) where
  mem := by simp
  obj := fun i h q b hb => by
    obtain ⟨⟨old, en⟩, ⟨o, ho, hc, hd⟩, _⟩ := q
    rcases (show b = e ∨ b = it by simpa using hb) with rfl | rfl
    · exact ⟨_, en, fun v z => nomatch z⟩
    · exact ⟨o, ho, fun v z => by rw [hd] at z; cases z⟩
  keep := fun i h h' q k => by
    obtain ⟨⟨old, en⟩, ti, ne⟩ := q
    exact ⟨⟨old, k e (by simp) _ en⟩, ti.at fun o z => k it (by simp) o z, ne⟩
  item := by
    intro X hP hw hK hc i pins s σ H E I hf q hg
    subst hP hw hK
    obtain ⟨⟨old, en⟩, ti, ne⟩ := q
    obtain ⟨xs, x, hq, hx⟩ := hg
    obtain ⟨its, rv, p, hz⟩ := I.tuple hq
    have p : s.heap.IsTuple a its.toArray := p
    obtain ⟨u, hu, ru⟩ := rv.get hx
    have an : a ≠ it := fun z => by
      obtain ⟨o1, g1, c1, _⟩ := p
      obtain ⟨o2, g2, c2, _⟩ := ti
      rw [z, g2] at g1
      cases g1
      rw [c2] at c1
      exact absurd c1 (by decide)
    have ea : e ≠ a := fun z => by
      obtain ⟨o1, g1, c1, _⟩ := p
      have en2 : s.heap.get? e = some _ := en
      rw [z, g1] at en2
      cases en2
      exact absurd (show Value.type "enumerate" = Value.type "tuple" from c1) (by decide)
    have el : e < s.heap.objs.size := Heap.lt_size en
    have il : it < s.heap.objs.size := by
      obtain ⟨_, z, _⟩ := ti
      exact Heap.lt_size z
    have hl := (List.getElem?_eq_some_iff.mp hu).1
    refine wpAny_pyNext_enum_itemD (draws_tup (show X.A.in1.handled = none from I.ok.hd hc) it a an its.toArray) en ⟨ti, p⟩ (by simpa using hl) ne (by simp [ne, ea]) fun y h' tk hy ho hs hT hsz hk => ?_
    obtain rfl : u = y := by
      have z : its.toArray[i]? = some y := hy
      have z2 : its.toArray[i]? = some u := by simpa using hu
      rw [z] at z2
      exact (Option.some.inj z2).symm
    refine ⟨_, rfl, wpAny_letOwnedTupleGo_enum (s := { s with heap := h', toks := tk + 1 }) ho fun h2 en2 sb => ?_⟩
    have hT2 : h2.get? s.heap.objs.size = some { cls := .type "tuple", data := .seq #[.int i tk, u] } := (sb.2 _ (Nat.ne_of_gt el)).trans hT
    have old2 : ∀ b o, b ≠ e → b ≠ it → s.heap.get? b = some o → h2.get? b = some o := fun b o n1 n2 z => (sb.2 b n1).trans (hk b o n1 n2 z)
    have fresh : ObjOk X.prog X.w (upd H s.heap.objs.size (.tup [.int (i : Nat), x])) h2 s.heap.objs.size (.tup [.int (i : Nat), x]) := ⟨by show 2 ≤ sizeLine; decide, [.int i tk, u], .cons ⟨_, rfl⟩ (.cons ru .nil), ⟨_, hT2, rfl, _, rfl⟩⟩
    have I1 : Inv X pins σ (upd H s.heap.objs.size (.tup [.int (i : Nat), x])) { s with heap := h2, toks := tk + 1 } :=
      I.turnedNew (ch := [e, it]) (fun b ob hb z => old2 b ob (fun y => hb (by simp [y])) (fun y => hb (by simp [y])) z) hf (Nat.le_refl _) fresh
    refine ⟨.ref s.heap.objs.size, _, I1, rfl, ⟨_, x, rfl, I.hok.fresh (Nat.le_refl _), rfl, fun ys hy => by rw [I.tuple_inj hy hq]; exact hx⟩, ⟨⟨u, ?_⟩, hs.1.at fun o z => (sb.2 it ne.symm).trans z, ne⟩, fun b hb => ?_⟩
    · rw [show ((i + 1 : Nat) : Int) = (i : Int) + 1 by omega]
      exact en2
    · have lt : b < s.heap.objs.size := by
        rcases (show b = e ∨ b = it by simpa using hb) with rfl | rfl
        · exact el
        · exact il
      rw [upd_ne (Nat.ne_of_lt lt)]
      exact (hf b hb).1
  done := by
    intro X hP hw hK hc i pins s σ H E I hf q hg
    subst hP hw hK
    obtain ⟨⟨old, en⟩, ti, ne⟩ := q
    obtain ⟨xs, hq, hx⟩ := hg
    obtain ⟨its, rv, p, hz⟩ := I.tuple hq
    have p : s.heap.IsTuple a its.toArray := p
    obtain ⟨f0, f1, f2, f3, f4, f5⟩ := hf it (by simp)
    have hl := rv.length
    have hend : its.toArray[i]? = none := by simp; omega
    have hT : s.TypeIs (.ref e) "enumerate" := ⟨_, en, rfl⟩
    unfold pyNext
    refine wpAny_bind (wpAny_attempt (wpAny_callSpecial?_slot (name := Str.ofString "__next__") hT F.slot_enumerate_next (wpAny_call_entry F.slot_enumerate_next hT F.entry_enumerate_next ?_ (F.args_enumerate_next_1 _))))
    show wpAny _ _ (field (.ref e) 2 >>= _) _ _ _
    refine wpAny_bind (wpAny_field en rfl (x := .ref it) rfl ?_)
    refine wpAny_bind (RZ.nextOf_tuple_end (show X.A.in1.handled = none from I.ok.hd hc) ti p hend fun h' x eb hx' => ?_)
    obtain ⟨o, ho, hcl⟩ := hx'
    refine wpAny_bind (wpAny_isInstance (T := "StopIteration") (b := true) ⟨o, ho, hcl⟩ isSubtype_stop ?_)
    exact wpAny_pure ⟨rfl, I.turned (t' := s.toks) (fun b o hb z => eb b o hb z) f0 f1 f3 f4 f5⟩
  self := fun A i s Q E q h => by
    obtain ⟨⟨_, en⟩, _⟩ := q
    exact wpAny_pyIter_enum en h
def iEnT (K : PySem.W.Frag) (ta : TA) : TI := fun σ H R => ta σ H fun vs H1 => ∃ a xs, vs = [.ref a] ∧ SqT K H1 a xs ∧ R (ItT K a) H1
theorem pi_enT {X : Cx} {e : Expr} {ta : TA} {p pos tpos : Pos} {elts : List Expr} {kk : Nat} (hg : Gl X "enumerate") (hm : X.mg "enumerate" = none) (ha : PA X [e] ta) (hs : starEach [e] X.env = [(false, eval e X.env)] := by rfl) :
    PI X (.Tuple elts kk tpos) (.Call (.Name "enumerate" p) [e] [] pos) (iEnT X.K ta) := by
  refine ⟨fun pins s σ H R I h => ?_⟩
  refine Call_ (ld_blt I hg hm boot_enumerate (PyProof.Rows.callWith_type1 (thn (ha.run pos pins s σ H _ I h) fun us s1 ⟨vs, H1, I1, r1, q1⟩ => ?_) hs rfl))
  obtain ⟨a, xs, rfl, hq, q⟩ := q1
  cases r1 with
  | cons r rr =>
    cases rr
    cases r
    obtain ⟨its, rv, pt, hz⟩ := I1.tuple hq
    refine call_enumT (show s1.heap.IsTuple a its.toArray from pt) fun hp en ti hk => wpAny_pyIter_enum en ?_
    have I2 : Inv X pins σ H1 { s1 with heap := hp } := I1.kept (t' := s1.toks) hk
    refine ⟨s1.heap.objs.size + 1, [s1.heap.objs.size + 1, s1.heap.objs.size], _, _, H1, rfl, I2, turn a (s1.heap.objs.size + 1) s1.heap.objs.size, ⟨⟨.none, en⟩, ti, Nat.succ_ne_self _⟩, fun b hb => ?_, q⟩
    have le : s1.heap.objs.size ≤ b := by
      rcases (show b = s1.heap.objs.size + 1 ∨ b = s1.heap.objs.size by simpa using hb) with z | z <;> rw [z]
      · exact Nat.le_add_right _ _
      · exact Nat.le_refl _
    exact I1.fpOk le (I1.hok.fresh le)
/-- the loop over it -/
theorem for_enT {K : PySem.W.Frag} {a : Addr} {xs : List V} {g : TG} {tb : TS} {D : Ends} {σ : L2.St} {H : Hp} (Pv : Nat → L2.St → Hp → Prop) (h0 : Pv 0 σ H) (hl : ∀ i σ H, i ≤ xs.length → Pv i σ H → SqT K H a xs)
    (hs : ∀ i x T σ H, xs[i]? = some x → Pv i σ H → H T = none → g (.ref T) σ (upd H T (.tup [.int (i : Nat), x])) fun σ2 H2 => tb { D with nx := Pv (i + 1), ct := Pv (i + 1), bk := D.nx } σ2 H2) (hd : ∀ σ H, Pv xs.length σ H → D.nx σ H) :
    ∃ W : Nat → Nat → L2.St → Hp → Prop, (∃ m, W 0 m σ H) ∧ ∀ i m σ H, W i m σ H →
      ((ItT K a).stop i H ∧ D.nx σ H) ∨ ((ItT K a).go i H ∧ ∃ N : L2.St → Hp → Prop, (∀ σ' H', N σ' H' → ∃ m', m' < m ∧ W (i + 1) m' σ' H') ∧ ∀ x H', (ItT K a).yld i H x H' → g x σ H' fun σ2 H2 => tb { D with nx := N, ct := N, bk := D.nx } σ2 H2) := by
  refine ⟨fun i m σ H => m = xs.length - i ∧ i ≤ xs.length ∧ Pv i σ H, ⟨xs.length, by simp, Nat.zero_le _, h0⟩, ?_⟩
  rintro i m σ H ⟨rfl, hi, q⟩
  have sq := hl i σ H hi q
  by_cases lt : i < xs.length
  · refine .inr ⟨⟨xs, xs[i], sq, by simp [lt]⟩, Pv (i + 1), fun σ' H' q' => ⟨xs.length - (i + 1), by omega, rfl, lt, q'⟩, fun v H' y => ?_⟩
    obtain ⟨T, x, rfl, nT, rfl, hx⟩ := y
    exact hs i x T σ H (hx xs sq) q nT
  · obtain rfl : i = xs.length := by omega
    exact .inl ⟨⟨xs, sq, Nat.le_refl _⟩, hd σ H q⟩
end EnT

/-! The law's draws; data. -/
namespace C1
open PySem PySem.Spec PyProof.Rows L2 SX
def topS (i : Nat) : Stmt := PySem.Challenge.pw_stagecut_k33_rows_of_nets.main.body.getD i (.Pass ⟨0, 0, 0, 0⟩)
abbrev sDraws : Stmt := topS 16
abbrev sNext : Stmt := topS 17
theorem scDraws : FnScope ["script", "many", "draws", "mixed", "k", "cell", "rest", "turn"] ["script", "many"] (defScope sDraws) := ⟨rfl, rfl, rfl, by decide +kernel, rfl, by decide +kernel, by decide +kernel⟩
theorem scNext : FnScope ["w", "many"] ["w", "many"] (defScope sNext) := ⟨rfl, rfl, rfl, by decide +kernel, rfl, by decide +kernel, by decide +kernel⟩
theorem cut_ints (ds : List Int) (lo hi : Option Int) : ∃ es : List Int, cutV (ds.map V.int) lo hi = es.map V.int ∧ es.length ≤ ds.length := by
  refine ⟨(ds.drop (HT.sIx ds.length 0 lo)).take (HT.sIx ds.length ds.length hi - HT.sIx ds.length 0 lo), ?_, ?_⟩
  · unfold cutV
    rw [List.length_map, List.map_take, List.map_drop]
  · rw [List.length_take, List.length_drop]
    omega
theorem ap_int (ds : List Int) (z : Int) : ds.map V.int ++ [V.int z] = (ds ++ [z]).map V.int := by
  rw [List.map_append]
  rfl
theorem same_new {H : Hp} {p : Addr} {o : HO} (n : H p = none) : Same H (upd H p o) := fun b x e => by
  rw [upd_ne (ne_of_none e n)]
  exact e
theorem same_put {H H1 : Hp} {l : Addr} {o : HO} (g : Same H H1) (n : H l = none) : Same H (upd H1 l o) := fun b x e => by
  rw [upd_ne (ne_of_none e n)]
  exact g b x e
section
variable {P : Program} {w : World} {K : PySem.W.Frag} {mg : Str → Option Value} {base : Heap}
/-- the built-ins that the law calls -/
structure Bl (mg : Str → Option Value) : Prop where
  len : mg "len" = none
  range : mg "range" = none
  abs : mg "abs" = none
  int : mg "int" = none
  str : mg "str" = none
def spDraws (K : PySem.W.Frag) : Sp := fun vs H Q _ => ∃ (a : Addr) (ns : List Int) (m : Nat), vs = [.ref a, .int ((m : Nat) : Int)] ∧ SqL K H a (ns.map V.int) ∧ ns.length ≤ 63 ∧ m ≤ 1000 ∧
  ∀ (H' : Hp) (p : Addr) (ds : List Int), Same H H' → H p = none → H' p = some (.lst (ds.map V.int)) → ds.length ≤ 10000 → Q (.ref p) H'
theorem ok_draws {f : Addr} {fd : FuncData} (F : Fun K "_law_draws" "_law_draws" sDraws f fd) (B : Bl mg) : FnOk P w K mg base CX0 1 f fd ["script", "many"] (spDraws K) := by
  refine F.ok scDraws (fun vs H Q E h => ?_) (fun cdv A outer s H vs Q E hr h => ?_)
  · obtain ⟨a, ns, m, rfl, _⟩ := h
    rfl
  · obtain ⟨a, ns, m, rfl, hS, hlen, hm, q⟩ := h
    have nd := scDraws.nd
    refine ⟨_, (pss_cons (ps_set (i := 2) nd rfl (.inl rfl) (pe_lst pa_nil))
      (pss_cons (ps_set (i := 3) nd rfl (.inl rfl) (pe_int))
      (pss_cons (ps_for PassesOwn.never rfl (pi_range1 (by rfl) B.range (pa_cons (pe_callB call_len_seq (by rfl) B.len PySem.boot_len (pa_cons (pv 0) pa_nil)) pa_nil)) (pg_name (i := 4) nd rfl (.inl rfl)) (pss_cons (ps_set (i := 5) nd rfl (.inl rfl) (pe_callB call_abs (by rfl) B.abs (by decide +kernel) (pa_cons (pe_callTy call_int1 (by rfl) B.int (by decide +kernel) (pa_cons (pe_ix ix_list (pv 0) (pv 4) (fun _ _ => rfl)) pa_nil)) pa_nil)))
      (pss_cons (ps_set (i := 3) nd rfl (.inl rfl) (pe_op op_mod (pe_callTy call_int1 (by rfl) B.int (by decide +kernel) (pa_cons (pe_op op_add (pe_op op_add (pe_op op_mul (pv 3) (pe_int)) (pe_op op_mod (pv 5) (pe_int))) (pv 4)) pa_nil)) (pe_int)))
      (pss_cons (ps_set (i := 6) nd rfl (.inl rfl) (pe_int))
      (C8.pss_cut (ps_if (pt_cmpR op_ge (pv 5) (pe_op op_pow pe_int pe_int) (nomark _)) (pss_one (ps_set (i := 6) nd rfl (.inl rfl) (pv 5)))
      (pss_cons (ps_expr (pe_bm PySem.F.plainAttrs_list PySem.F.slot_list_append PySem.F.type_list_append mt_append (pv 2) (pa_cons (pe_op op_mod (pe_callTy call_int1 (by rfl) B.int (by decide +kernel) (pa_cons (pv 5) pa_nil)) (pe_int)) pa_nil)))
      (pss_one (ps_expr (pe_bm PySem.F.plainAttrs_list PySem.F.slot_list_append PySem.F.type_list_append mt_append (pv 2) (pa_cons (pe_op op_mod (pe_op op_mod (pe_callTy call_int1 (by rfl) B.int (by decide +kernel) (pa_cons (pe_op op_add (pe_op op_mul (pv 3) (pe_int)) (pe_int)) pa_nil)) (pe_int)) (pe_int)) pa_nil))))))
      (pss_one (ps_for PassesOwn.never rfl (pi_range1 (by rfl) B.range (pa_cons (pe_int) pa_nil)) (pg_name (i := 7) nd rfl (.inl rfl)) (pss_one (ps_if (pt_cmpR op_gt (pv 6) pe_int (nomark _)) (pss_cons (ps_expr (pe_bm PySem.F.plainAttrs_list PySem.F.slot_list_append PySem.F.type_list_append mt_append (pv 2) (pa_cons (pe_op op_mod (pe_callTy call_int1 (by rfl) B.int (by decide +kernel) (pa_cons (pv 6) pa_nil)) (pe_int)) pa_nil)))
      (pss_one (ps_set (i := 6) nd rfl (.inl rfl) (pe_op op_fdiv (pv 6) (pe_int))))) pss_nil)))))))))
      (pss_cons (ps_for PassesOwn.never rfl (pi_range1 (by rfl) B.range (pa_cons (pv 1) pa_nil)) (pg_name (i := 4) nd rfl (.inl rfl)) (pss_cons (ps_set (i := 3) nd rfl (.inl rfl) (pe_op op_mod (pe_callTy call_int1 (by rfl) B.int (by decide +kernel) (pa_cons (pe_op op_add (pe_op op_add (pe_op op_mul (pv 3) (pe_int)) (pv 4)) (pe_int)) pa_nil)) (pe_int)))
      (pss_one (ps_expr (pe_bm PySem.F.plainAttrs_list PySem.F.slot_list_append PySem.F.type_list_append mt_append (pv 2) (pa_cons (pe_op op_mod (pe_callTy call_int1 (by rfl) B.int (by decide +kernel) (pa_cons (pv 3) pa_nil)) (pe_int)) pa_nil))))))
      (pss_one (ps_ret (pe_slice sl_list (pv 2) po_none (po_some (pv 1))))))))), ?_⟩
    refine ⟨Nat.zero_le _, fun l nl => ?_⟩
    have big : 100000 ≤ sizeLine := by
      rw [sizeLine_eq]
      decide
    let Iv : Nat → L2.St → Hp → Prop := fun n σ H' => ∃ (mixed : Int) (ds : List Int) (y4 y5 y6 y7 : Option V), σ = [some (.ref a), some (.int ((m : Nat) : Int)), some (.ref l), some (.int mixed), y4, y5, y6, y7] ∧ Same H H' ∧ H' l = some (.lst (ds.map V.int)) ∧ ds.length ≤ n ∧ 0 ≤ mixed ∧ mixed < 65537
    have h65 : ∀ x : Int, 0 ≤ x % 65537 ∧ x % 65537 < 65537 := fun x => ⟨Int.emod_nonneg x (by decide), Int.emod_lt_of_pos x (by decide)⟩
    refine ⟨_, rfl, a, ns.map V.int, rfl, .inl ((same_new nl).seq hS), ?_⟩
    rw [List.length_map]
    refine ⟨_, rfl, by omega, by omega, for_range (fun i σ H' => Iv (62 * i) σ H') ⟨7, [], none, none, none, none, rfl, same_new nl, upd_same, Nat.le_refl 0, by decide, by decide⟩ (fun i σ H1 hi h1 => ?_) (fun σ H1 h1 => ?_)⟩
    · obtain ⟨mixed, ds, y4, y5, y6, y7, rfl, g, el, dl, m0, m1⟩ := h1
      have hi2 : i < ns.length := by omega
      have hg : (ns.map V.int)[i]? = some (.int ns[i]) := by
        rw [List.getElem?_map, List.getElem?_eq_getElem hi2]
        rfl
      rw [Int.zero_add]
      refine ⟨_, rfl, _, rfl, a, _, _, _, rfl, rfl, g.seq hS, atI_nat (j := i) hg, .inl ⟨_, rfl, _, rfl, ?_⟩⟩
      generalize (if ns[i] < 0 then -ns[i] else ns[i]) = c
      refine ⟨_, rfl, _, _, rfl, rfl, .inl ⟨by omega, by omega⟩, _, rfl, _, _, rfl, rfl, (show (0 : Int) < 1000003 by decide), _, _, rfl, rfl, _, rfl, _, _, rfl, rfl, .inl ⟨_, rfl, _, _, rfl, rfl, (show (0 : Int) < 65537 by decide), ?_⟩⟩
      have mx := h65 (mixed * 48271 + c % 1000003 + ((i : Nat) : Int))
      -- behind the if: what the loop over 60 turns asks
      refine ⟨fun σ H2 => ∃ (ds : List Int) (rest : Int) (y7 : Option V), σ = [some (.ref a), some (.int ((m : Nat) : Int)), some (.ref l), some (.int ((mixed * 48271 + c % 1000003 + ((i : Nat) : Int)) % 65537)), some (.int ((i : Nat) : Int)), some (.int c), some (.int rest), y7] ∧ Same H H2 ∧ H2 l = some (.lst (ds.map V.int)) ∧ ds.length ≤ 62 * i + 2, ?_, ?_⟩
      · refine ⟨_, rfl, _, _, rfl, rfl, ⟨by decide, by decide, by decide⟩, _, _, rfl, rfl, _, rfl, ite2 (fun a1 => ?_) (fun a1 => ?_)⟩
        · exact ⟨_, rfl, ds, c, _, rfl, g, el, by omega⟩
        · refine ⟨_, rfl, .inl ⟨rfl, _, SqL.of el⟩, _, rfl, .inl ⟨_, rfl, _, _, rfl, rfl, (show (0 : Int) < 997 by decide), l, _, _, rfl, rfl, el, ?_, ?_⟩⟩
          · rw [List.length_map]
            omega
          · rw [ap_int]
            refine ⟨_, rfl, .inl ⟨rfl, _, SqL.of upd_same⟩, _, rfl, _, _, rfl, rfl, .inl ⟨by omega, by omega⟩, _, _, rfl, rfl, .inl ⟨_, rfl, _, _, rfl, rfl, (show (0 : Int) < 65521 by decide), _, _, rfl, rfl, (show (0 : Int) < 997 by decide), l, _, _, rfl, rfl, upd_same, ?_, ?_⟩⟩
            · rw [List.length_map, List.length_append]
              show ds.length + 1 < sizeLine
              omega
            · rw [ap_int]
              refine ⟨_, 0, _, rfl, same_put (same_put g nl) nl, upd_same, ?_⟩
              rw [List.length_append, List.length_append]
              show ds.length + 1 + 1 ≤ _
              omega
      · rintro σ H2 ⟨ds, rest, y7, rfl, g, el, dl⟩
        refine ⟨_, rfl, by decide, by decide, for_range (fun j σ H3 => ∃ (ds : List Int) (rest : Int) (y7 : Option V), σ = [some (.ref a), some (.int ((m : Nat) : Int)), some (.ref l), some (.int ((mixed * 48271 + c % 1000003 + ((i : Nat) : Int)) % 65537)), some (.int ((i : Nat) : Int)), some (.int c), some (.int rest), y7] ∧ Same H H3 ∧ H3 l = some (.lst (ds.map V.int)) ∧ ds.length ≤ 62 * i + 2 + j)
          ⟨ds, rest, y7, rfl, g, el, dl⟩ (fun j σ H3 hj h3 => ?_) (fun σ H3 h3 => ?_)⟩
        · obtain ⟨ds, rest, y7, rfl, g, el, dl⟩ := h3
          have hj2 : j < 60 := hj
          refine ⟨_, rfl, _, _, rfl, rfl, _, rfl, ite2 (fun a1 => ?_) (fun a1 => ?_)⟩
          · refine ⟨_, rfl, .inl ⟨rfl, _, SqL.of el⟩, _, rfl, .inl ⟨_, rfl, _, _, rfl, rfl, (show (0 : Int) < 997 by decide), l, _, _, rfl, rfl, el, ?_, ?_⟩⟩
            · rw [List.length_map]
              omega
            · rw [ap_int]
              refine ⟨_, rfl, _, _, rfl, rfl, ⟨by decide, by decide⟩, _, _, _, rfl, same_put g nl, upd_same, ?_⟩
              rw [List.length_append]
              show ds.length + 1 ≤ _
              omega
          · exact ⟨ds, rest, _, rfl, g, el, by omega⟩
        · obtain ⟨ds, rest, y7, rfl, g, el, dl⟩ := h3
          have dl2 : ds.length ≤ 62 * i + 2 + 60 := dl
          exact ⟨_, ds, _, _, _, _, rfl, g, el, by omega, mx.1, mx.2⟩
    · obtain ⟨mixed, ds, y4, y5, y6, y7, rfl, g, el, dl, m0, m1⟩ := h1
      have dl2 : ds.length ≤ 4000 := by omega
      refine ⟨_, rfl, _, rfl, by omega, by omega, for_range (fun j σ H2 => Iv (4000 + j) σ H2) ⟨mixed, ds, y4, y5, y6, y7, rfl, g, el, by omega, m0, m1⟩ (fun j σ H2 hj h2 => ?_) (fun σ H2 h2 => ?_)⟩
      · obtain ⟨mixed, ds, y4, y5, y6, y7, rfl, g, el, dl, m0, m1⟩ := h2
        have hj2 : j < m := by omega
        refine ⟨_, rfl, _, _, rfl, rfl, .inl ⟨by omega, by omega⟩, _, rfl, _, _, rfl, rfl, _, _, rfl, rfl, .inl ⟨_, rfl, _, _, rfl, rfl, (show (0 : Int) < 65537 by decide), ?_⟩⟩
        have mx := h65 (mixed * 16807 + (0 + ((j : Nat) : Int)) + 1)
        refine ⟨_, rfl, .inl ⟨rfl, _, SqL.of el⟩, _, rfl, .inl ⟨_, rfl, _, _, rfl, rfl, (show (0 : Int) < 997 by decide), l, _, _, rfl, rfl, el, ?_, ?_⟩⟩
        · rw [List.length_map]
          omega
        · rw [ap_int]
          refine ⟨_, _, _, _, _, _, rfl, same_put g nl, upd_same, ?_, mx.1, mx.2⟩
          rw [List.length_append]
          show ds.length + 1 ≤ _
          omega
      · obtain ⟨mixed, ds, y4, y5, y6, y7, rfl, g, el, dl, m0, m1⟩ := h2
        have dl3 : ds.length ≤ 5000 := by omega
        refine ⟨_, rfl, _, rfl, _, rfl, l, _, rfl, SqL.of el, fun p np => ?_⟩
        obtain ⟨es, e1, e2⟩ := cut_ints ds none (some ((m : Nat) : Int))
        rw [e1]
        exact q _ p es (fun b o e => same_new np b o (g b o e)) (g.free np) upd_same (by omega)
end
/-- the law's world: its draws and how many are taken -/
def wdL (l : Addr) (n : Int) : List (Key × V) := [(.inr ("draws" : Str), .ref l), (.inr ("at" : Str), .int n)]
theorem wd_draws (l : Addr) (n : Int) : valV (wdL l n) (.inr "draws") = some (.ref l) := valV_pos rfl
theorem wd_at (l : Addr) (n : Int) : valV (wdL l n) (.inr "at") = some (.int n) := (valV_neg (show ¬ (Sum.inr ("draws" : Str) : Key) = Sum.inr ("at" : Str) by decide)).trans (valV_pos rfl)
theorem wd_put (l : Addr) (n k : Int) : putK (wdL l n) (.inr ("at" : Str)) (.int k) = wdL l k := by
  have h1 : ¬ (Sum.inr ("draws" : Str) : Key) = Sum.inr ("at" : Str) := by decide
  unfold putK wdL
  simp [h1]
theorem get_draws {H : Hp} {a l : Addr} {n : Int} (h : H a = some (.dK (wdL l n))) : DGet H a (.str "draws") (some (.ref l)) := by
  have g := DGet.k (k := .inr "draws") h
  rw [wd_draws] at g
  exact g
theorem get_at {H : Hp} {a l : Addr} {n : Int} (h : H a = some (.dK (wdL l n))) : DGet H a (.str "at") (some (.int n)) := by
  have g := DGet.k (k := .inr "at") h
  rw [wd_at] at g
  exact g
theorem put_at {H : Hp} {a l : Addr} {n k : Int} (h : H a = some (.dK (wdL l n))) : DPut H a (.str "at") (.int k) (upd H a (.dK (wdL l k))) := by
  have g := DPut.k (k := .inr "at") (v := .int k) h (by rw [sizeLine_eq]; exact (by decide : 2 < 16777216))
  rw [wd_put] at g
  exact g
structure Wd (H : Hp) (a l : Addr) (ds : List Int) : Prop where
  at' : ∃ n : Int, 0 ≤ n ∧ H a = some (.dK (wdL l n))
  dr : H l = some (.lst (ds.map V.int))
  len : ds.length ≤ 10000
/-- all but the world at a is as it was -/
def Kp (a : Addr) (H H' : Hp) : Prop := ∀ b o, b ≠ a → H b = some o → H' b = some o
section
variable {a l : Addr} {ds : List Int} {H H1 H2 : Hp}
theorem Kp.refl (H : Hp) : Kp a H H := fun _ _ _ e => e
theorem Kp.trans (x : Kp a H H1) (y : Kp a H1 H2) : Kp a H H2 := fun b o n e => y b o n (x b o n e)
theorem Wd.ne (W : Wd H a l ds) : l ≠ a := by
  obtain ⟨n, _, e⟩ := W.at'
  exact ne_of W.dr e (by intro z; cases z)
theorem Kp.new {p : Addr} {o : HO} (n : H p = none) : Kp a H (upd H p o) := fun b u _ e => by
  rw [upd_ne (ne_of_none e n)]
  exact e
theorem Wd.new (W : Wd H a l ds) {p : Addr} {o : HO} (n : H p = none) : Wd (upd H p o) a l ds := by
  obtain ⟨k, k0, e⟩ := W.at'
  refine ⟨⟨k, k0, ?_⟩, ?_, W.len⟩
  · rw [upd_ne (ne_of_none e n)]
    exact e
  · rw [upd_ne (ne_of_none W.dr n)]
    exact W.dr
theorem Kp.step {o : HO} : Kp a H (upd H a o) := fun b u n e => by
  rw [upd_ne n]
  exact e
theorem Wd.step (W : Wd H a l ds) {n : Int} (h : 0 ≤ n) : Wd (upd H a (.dK (wdL l n))) a l ds := by
  refine ⟨⟨n, h, upd_same⟩, ?_, W.len⟩
  rw [upd_ne W.ne]
  exact W.dr
theorem Wd.fresh (W : Wd H a l ds) {p : Addr} (n : H p = none) : p ≠ a := fun z => by
  obtain ⟨k, _, e⟩ := W.at'
  rw [z, e] at n
  cases n
end
section
variable {P : Program} {w : World} {K : PySem.W.Frag} {mg : Str → Option Value} {base : Heap}
def spNext : Sp := fun vs H Q _ => ∃ (a l : Addr) (ds : List Int) (m : Int), vs = [.ref a, .int m] ∧ 0 < m ∧ Wd H a l ds ∧ ∀ (r : Nat) H', ((r : Nat) : Int) < m → Kp a H H' → (∀ b, b ≠ a → H' b = H b) → Wd H' a l ds → Q (.int ((r : Nat) : Int)) H'
theorem ok_next {f : Addr} {fd : FuncData} (F : Fun K "_law_next" "_law_next" sNext f fd) (B : Bl mg) : FnOk P w K mg base CX0 1 f fd ["w", "many"] spNext := by
  refine F.ok scNext (fun vs H Q E h => ?_) (fun cdv A outer s H vs Q E hr h => ?_)
  · obtain ⟨a, l, ds, m, rfl, _⟩ := h
    rfl
  · obtain ⟨a, l, ds, m, rfl, hm, W, q⟩ := h
    have hu := hu_of hr
    refine ⟨_, pss_cons (ps_daug hu (pv 0) pe_str pe_int in_add (fun _ _ _ => rfl))
      (pss_cons (ps_if (pt_cmpR op_gt (pe_dget hu (pv 0) pe_str (fun _ _ => rfl)) (pe_callB call_len_seq (by rfl) B.len PySem.boot_len (pa_cons (pe_dget hu (pv 0) pe_str (fun _ _ => rfl)) pa_nil)) (nomark _)) (pss_one (ps_ret pe_int)) pss_nil)
      (pss_one (ps_ret (pe_op op_mod (pe_callTy call_int1 (by rfl) B.int (by decide +kernel) (pa_cons (pe_ix ix_list (pe_dget hu (pv 0) pe_str (fun _ _ => rfl)) (pe_op op_sub (pe_dget hu (pv 0) pe_str (fun _ _ => rfl)) pe_int) (fun _ _ => rfl)) pa_nil)) (pv 1))))), ?_⟩
    obtain ⟨n, n0, e⟩ := W.at'
    refine ⟨_, rfl, a, _, rfl, get_at e, _, _, rfl, rfl, _, put_at e, ?_⟩
    have W1 : Wd (upd H a (.dK (wdL l (n + 1)))) a l ds := W.step (by omega)
    have e1 : (upd H a (.dK (wdL l (n + 1)))) a = some (.dK (wdL l (n + 1))) := upd_same
    refine ⟨_, rfl, a, _, rfl, get_at e1, _, rfl, a, _, rfl, get_draws e1, l, _, rfl, .inl (SqL.of W1.dr), _, _, rfl, rfl, _, rfl, ite2 (fun a1 => ?_) (fun a1 => ?_)⟩
    · exact q 0 _ hm Kp.step (fun b hb => upd_ne hb) W1
    · have b1 : ¬ ((ds.map V.int).length : Int) < n + 1 := fun z => a1 (decide_eq_true z)
      rw [List.length_map] at b1
      obtain ⟨j, ej⟩ : ∃ j : Nat, n + 1 - 1 = ((j : Nat) : Int) := ⟨n.toNat, by omega⟩
      have hj : j < ds.length := by omega
      have hg : (ds.map V.int)[j]? = some (.int ds[j]) := by
        rw [List.getElem?_map, List.getElem?_eq_getElem hj]
        rfl
      refine ⟨_, rfl, a, _, rfl, get_draws e1, _, rfl, a, _, rfl, get_at e1, _, _, rfl, rfl, l, _, _, .int ds[j], rfl, rfl, SqL.of W1.dr, ?_, .inl ⟨_, rfl, _, rfl, _, _, rfl, rfl, hm, ?_⟩⟩
      · rw [ej]
        exact atI_nat (j := j) hg
      · have z0 := Int.emod_nonneg ds[j] (show m ≠ 0 by omega)
        have z1 := Int.emod_lt_of_pos ds[j] hm
        obtain ⟨r, er⟩ : ∃ r : Nat, ds[j] % m = ((r : Nat) : Int) := ⟨(ds[j] % m).toNat, by omega⟩
        show Q (.int (ds[j] % m)) _
        rw [er]
        exact q r _ (by omega) Kp.step (fun b hb => upd_ne hb) W1
end
/-! data without lists: it stays where tuples stay -/
mutual
def noL : PyData → Bool
  | .list _ => false
  | .dict _ => false
  | .tuple ds => noLs ds
  | _ => true
def noLs : List PyData → Bool
  | [] => true
  | d :: ds => noL d && noLs ds
end
mutual
theorem dp_stay {K : PySem.W.Frag} {H H' : Hp} (st : ∀ a xs, SqT K H a xs → SqT K H' a xs) : ∀ (d : PyData) (v : V), Dp K H v d → noL d = true → Dp K H' v d
  | .none, _, h, _ => by cases h; exact .non
  | .bool _, _, h, _ => by cases h; exact .bl _
  | .int _, _, h, _ => by cases h; exact .int _
  | .str _, _, h, _ => by cases h; exact .str _
  | .list _, _, _, n => by cases n
  | .dict _, _, _, n => by cases n
  | .tuple ds, _, h, n => by
    cases h with
    | tup s a => exact .tup (st _ _ s) (dps_stay st ds _ a n)
theorem dps_stay {K : PySem.W.Frag} {H H' : Hp} (st : ∀ a xs, SqT K H a xs → SqT K H' a xs) : ∀ (ds : List PyData) (vs : List V), DpAll K H vs ds → noLs ds = true → DpAll K H' vs ds
  | [], _, h, _ => by cases h; exact .nil
  | d :: ds, _, h, n => by
    cases h with
    | cons a b =>
      have n2 : (noL d && noLs ds) = true := n
      rw [Bool.and_eq_true] at n2
      exact .cons (dp_stay st d _ a n2.1) (dps_stay st ds _ b n2.2)
end
theorem noLs_app : ∀ (a b : List PyData), noLs (a ++ b) = (noLs a && noLs b)
  | [], b => rfl
  | d :: a, b => by
    show (noL d && noLs (a ++ b)) = ((noL d && noLs a) && noLs b)
    rw [noLs_app a b, Bool.and_assoc]
theorem dps_app {K : PySem.W.Frag} {H : Hp} : ∀ {vs : List V} {ds : List PyData} {us : List V} {es : List PyData}, DpAll K H vs ds → DpAll K H us es → DpAll K H (vs ++ us) (ds ++ es)
  | _, _, _, _, .nil, h => h
  | _, _, _, _, .cons a b, h => .cons a (dps_app b h)
theorem dps_len {K : PySem.W.Frag} {H : Hp} : ∀ {vs : List V} {ds : List PyData}, DpAll K H vs ds → vs.length = ds.length
  | _, _, .nil => rfl
  | _, _, .cons _ b => by rw [List.length_cons, List.length_cons, dps_len b]
/-- a new object at p, the list at l grown: tuples stay -/
theorem tups_upd {K : PySem.W.Frag} {H : Hp} {l : Addr} {xs : List V} {o : HO} (e : H l = some (.lst xs)) : ∀ a ys, SqT K H a ys → SqT K (upd H l o) a ys := fun a ys h => by
  rcases h with (h | ⟨u, h⟩) | h
  · refine .inl (.inl ?_)
    rw [upd_ne (ne_of h e (by intro z; cases z))]
    exact h
  · refine .inl (.inr ⟨u, ?_⟩)
    rw [upd_ne (ne_of h e (by intro z; cases z))]
    exact h
  · exact .inr h
theorem dps_get {K : PySem.W.Frag} {H : Hp} : ∀ {vs : List V} {ds : List PyData} {i : Nat} {x : V}, DpAll K H vs ds → vs[i]? = some x → ∃ d, ds[i]? = some d ∧ Dp K H x d
  | _, _, _, _, .nil, h => by simp at h
  | _, _, 0, _, .cons a _, h => by
    have e := Option.some.inj h
    subst e
    exact ⟨_, rfl, a⟩
  | _, _, i + 1, _, .cons _ b, h => dps_get (i := i) b h
def LayAll (F : List PyData) : Prop := ∀ d ∈ F, PyData.canLay0 d = true ∧ PyData.depth d ≤ 5
theorem shaped_list : ∀ (F : List PyData), LayAll F → SeqAt.shaped (.list F) = true := by
  have h1 : ∀ F : List PyData, LayAll F → PyData.canLayAll0 F = true ∧ PyData.depthAll F ≤ 5 := by
    intro F
    induction F with
    | nil => exact fun _ => ⟨rfl, Nat.zero_le _⟩
    | cons d F ih =>
      intro h
      obtain ⟨a, b⟩ := ih fun x hx => h x (List.mem_cons_of_mem _ hx)
      obtain ⟨c, e⟩ := h d (List.mem_cons_self ..)
      refine ⟨?_, ?_⟩
      · show (PyData.canLay0 d && PyData.canLayAll0 F) = true
        rw [c, a]
        rfl
      · show max (PyData.depth d) (PyData.depthAll F) ≤ 5
        exact Nat.max_le.mpr ⟨e, b⟩
  intro F h
  obtain ⟨a, b⟩ := h1 F h
  unfold SeqAt.shaped
  rw [Bool.and_eq_true]
  refine ⟨a, decide_eq_true ?_⟩
  show PyData.depthAll F + 1 ≤ 64
  omega
abbrev iV (k : Nat) : V := .int ((k : Nat) : Int)
abbrev iD (k : Nat) : PyData := .int ((k : Nat) : Int)
theorem cL_int : ∀ ks : List Nat, LayAll (ks.map iD) := fun ks d h => by
  obtain ⟨k, _, e⟩ := List.mem_map.mp h
  subst e
  exact ⟨rfl, Nat.zero_le _⟩
theorem eqv_nil (xs : List PyData) : PyData.eqv (.list xs) (.list []) = xs.isEmpty := by
  cases xs with
  | nil => rfl
  | cons x r => rfl
theorem dps_ints {K : PySem.W.Frag} {H : Hp} : ∀ ks : List Nat, DpAll K H (ks.map iV) (ks.map iD)
  | [] => .nil
  | k :: ks => .cons (.int _) (dps_ints ks)
theorem dps_put {K : PySem.W.Frag} {H : Hp} : ∀ {vs : List V} {ds : List PyData} {i : Nat} {d : PyData}, DpAll K H vs ds → ds[i]? = some d → ∃ x, vs[i]? = some x ∧ Dp K H x d
  | _, _, _, _, .nil, h => by simp at h
  | _, _, 0, _, .cons a _, h => by
    have e := Option.some.inj h
    subst e
    exact ⟨_, rfl, a⟩
  | _, _, i + 1, _, .cons _ b, h => dps_put (i := i) b h
theorem int_at {ks : List Nat} {i k : Nat} (h : ks[i]? = some k) : (ks.map iV)[i]? = some (iV k) := by
  rw [List.getElem?_map, h]
  rfl
theorem kp_tup {K : PySem.W.Frag} {a : Addr} {H H' : Hp} {kvs : List (Key × V)} (e : H a = some (.dK kvs)) (k : Kp a H H') : ∀ b xs, SqT K H b xs → SqT K H' b xs := fun b xs h => by
  have ne : ∀ {o : HO}, H b = some o → (∀ k2, o ≠ .dK k2) → b ≠ a := fun h1 h2 z => by
    subst z
    rw [e] at h1
    cases h1
    exact h2 _ rfl
  rcases h with (h | ⟨u, h⟩) | h
  · exact .inl (.inl (k b _ (ne h (by intro _ z; cases z)) h))
  · exact .inl (.inr ⟨u, k b _ (ne h (by intro _ z; cases z)) h⟩)
  · exact .inr h
theorem wd_lne {H : Hp} {a l b : Addr} {ds : List Int} {xs : List V} (W : Wd H a l ds) (h : H b = some (.lst xs)) : b ≠ a := fun z => by
  obtain ⟨n, _, e⟩ := W.at'
  subst z
  rw [e] at h
  cases h
abbrev rLen (K : PySem.W.Frag) : List V → Hp → VK → Prop := fun xs H Q => ∃ p ys, xs = [V.ref p] ∧ (SqL K H p ys ∨ SqT K H p ys) ∧ Q (V.int ys.length) H
section
variable {a l r : Addr} {ds : List Int} {H H1 H2 : Hp}
theorem Kp.put {o : HO} (k : Kp a H H1) (n : H r = none) : Kp a H (upd H1 r o) := fun b u nb e => by
  rw [upd_ne (ne_of_none e n)]
  exact k b u nb e
theorem Wd.put {o : HO} (W : Wd H a l ds) (h1 : r ≠ a) (h2 : r ≠ l) : Wd (upd H r o) a l ds := by
  obtain ⟨k, k0, e⟩ := W.at'
  exact ⟨⟨k, k0, by rw [upd_ne h1.symm]; exact e⟩, by rw [upd_ne h2.symm]; exact W.dr, W.len⟩
theorem kp_none (k : Kp a H H1) (h : r ≠ a) (n : H1 r = none) : H r = none := by
  cases e : H r with
  | none => rfl
  | some o =>
    rw [k r o h e] at n
    cases n
theorem Wd.ne2 (W : Wd H a l ds) (n : H r = none) : r ≠ a ∧ r ≠ l := ⟨W.fresh n, fun z => by
  have := W.dr
  rw [← z, n] at this
  cases this⟩
variable {K : PySem.W.Frag}
theorem stay_dps {vs : List V} {es : List PyData} (W : Wd H a l ds) (k : Kp a H H1) (n : noLs es = true) (h : DpAll K H vs es) : DpAll K H1 vs es := by
  obtain ⟨_, _, e⟩ := W.at'
  exact dps_stay (kp_tup e k) _ _ h n
theorem push_dps {vs : List V} {es : List PyData} {v : V} {d : PyData} {o : HO} (e : H r = some (.lst vs)) (h : DpAll K H vs es) (n : noLs es = true) (hd : Dp K H v d) (nd : noL d = true) : DpAll K (upd H r o) (vs ++ [v]) (es ++ [d]) :=
  dps_app (dps_stay (tups_upd e) _ _ h n) (.cons (dp_stay (tups_upd e) _ _ hd nd) .nil)
end
def tyD : PyData → String
  | .none => "NoneType"
  | .bool _ => "bool"
  | .int _ => "int"
  | .str _ => "str"
  | .list _ => "list"
  | .tuple _ => "tuple"
  | .dict _ => "dict"
theorem ty_of {K : PySem.W.Frag} {H : Hp} {v : V} {d : PyData} (h : Dp K H v d) : TyB K H v (tyD d) := by
  cases h with
  | non => exact .non
  | bl b => exact .bl b
  | int i => exact .int i
  | str x => exact .str x
  | lst s _ => exact .lst s
  | tup s _ => exact .tup s
theorem ty_int {d : PyData} (h : tyD d = "int") : ∃ i, d = .int i := by
  cases d <;> simp [tyD] at h
  exact ⟨_, rfl⟩
theorem ty_tup {d : PyData} (h : tyD d = "tuple") : ∃ i, d = .tuple i := by
  cases d <;> simp [tyD] at h
  exact ⟨_, rfl⟩
theorem ty_str {d : PyData} (h : tyD d = "str") : ∃ i, d = .str i := by
  cases d <;> simp [tyD] at h
  exact ⟨_, rfl⟩
def isI (d : PyData) (lo hi : Int) : Bool := match d with
  | .int i => decide (lo ≤ i) && decide (i < hi)
  | _ => false
def isT (d : PyData) (n : Nat) : Bool := match d with
  | .tuple xs => decide (xs.length = n)
  | _ => false
theorem isI_iff {d : PyData} {lo hi : Int} : isI d lo hi = true ↔ ∃ i, d = .int i ∧ lo ≤ i ∧ i < hi := by
  cases d <;> simp [isI]
theorem isT_iff {d : PyData} {n : Nat} : isT d n = true ↔ ∃ xs, d = .tuple xs ∧ xs.length = n := by
  cases d <;> simp [isT]
theorem same_tup {K : PySem.W.Frag} {H H' : Hp} (s : Same H H') : ∀ b xs, SqT K H b xs → SqT K H' b xs := fun b xs h => by
  rcases h with (h | ⟨u, h⟩) | h
  · exact .inl (.inl (s _ _ h))
  · exact .inl (.inr ⟨u, s _ _ h⟩)
  · exact .inr h
theorem Same.up {H : Hp} {p : Addr} {o : HO} (n : H p = none) : Same H (upd H p o) := same_new n
section
variable {K : PySem.W.Frag} {H : Hp}
theorem dp_tup {H : Hp} {v : V} {ds : List PyData} (h : Dp K H v (.tuple ds)) : ∃ b xs, v = .ref b ∧ SqT K H b xs ∧ DpAll K H xs ds := by
  cases h with
  | tup s a => exact ⟨_, _, rfl, s, a⟩
end
theorem cst (n : Nat) : (2 : Int) ^ n = ((2 ^ n : Nat) : Int) := by
  rw [Int.natCast_pow]
  rfl
theorem vI {x y : Int} (h : x = y) : V.int x = V.int y := by rw [h]
def flD : PyData → Option V
  | .int i => some (.int i)
  | .str s => some (.str s)
  | _ => none
theorem sN {a b : Str} (h : a ≠ b) : V.str a ≠ V.str b := fun z => h (V.str.inj z)
theorem kT {A B : Prop} {x y : V} {i : Decidable (x = y)} (h : x = y) (a : A) : if @decide (x = y) i = true then A else B := by
  rw [if_pos (decide_eq_true h)]
  exact a
theorem kF {A B : Prop} {x y : V} {i : Decidable (x = y)} (h : x ≠ y) (b : B) : if @decide (x = y) i = true then A else B := by
  rw [if_neg (fun z => h (of_decide_eq_true z))]
  exact b
section
variable {K : PySem.W.Frag} {H : Hp}
theorem dps_flat {H : Hp} : ∀ {vs : List V} {ds : List PyData} {us : List V}, DpAll K H vs ds → ds.map flD = us.map some → vs = us
  | _, _, us, .nil, h => by
    cases us with
    | nil => rfl
    | cons _ _ => cases h
  | _, _, us, .cons (d := d) a b, h => by
    cases us with
    | nil => cases h
    | cons u us =>
      rw [List.map_cons, List.map_cons] at h
      injection h with h1 h2
      rw [dps_flat b h2]
      cases d with
      | int i => cases a; cases h1; rfl
      | str i => cases a; cases h1; rfl
      | _ => cases h1
end
theorem line200 {n : Nat} (h : n ≤ 1000) : n ≤ sizeLine := by
  rw [sizeLine_eq]
  omega
theorem lineS200 {n : Nat} (h : n ≤ 1000) : n < sizeLine := by
  rw [sizeLine_eq]
  omega
abbrev rTupleOf (K : PySem.W.Frag) : List V → Hp → VK → Prop := fun xs H Q => ∃ p ys, xs = [V.ref p] ∧ ((SqL K H p ys ∧ ∀ l, H l = none → Q (.ref l) (upd H l (.tup ys))) ∨ (SqT K H p ys ∧ Q (.ref p) H))
abbrev rOneShlN : R2 := fun x y H Q => ∃ k : Nat, x = .int 1 ∧ y = iV k ∧ k ≤ 1000 ∧ Q (iV (2 ^ k)) H
abbrev rModNN : R2 := fun x y H Q => ∃ n m : Nat, x = iV n ∧ y = iV m ∧ 0 < m ∧ Q (iV (n % m)) H
abbrev rAddN : R2 := fun x y H Q => ∃ n m : Nat, x = .int (n : Int) ∧ y = .int (m : Int) ∧ Q (.int ((n + m : Nat) : Int)) H
abbrev rMulN : R2 := fun x y H Q => ∃ n m : Nat, x = .int (n : Int) ∧ y = .int (m : Int) ∧ n ≤ 4294967296 ∧ Q (.int ((n * m : Nat) : Int)) H
abbrev rFdivN : R2 := fun x y H Q => ∃ n m : Nat, x = .int (n : Int) ∧ y = .int (m : Int) ∧ (1 ≤ m ∧ m < 1073741824) ∧ Q (.int ((n / m : Nat) : Int)) H
section
variable {X : Cx}
theorem op_oneShlN : OpR X (binaryOp .LShift) rOneShlN := by
  intro pins s σ H x y v u Q I rx ry h
  obtain ⟨k, rfl, rfl, hk, q⟩ := h
  exact op_oneShl pins s σ H _ _ v u Q I rx ry ⟨k, rfl, rfl, by omega, by rw [cst]; exact q⟩
theorem op_modNN : OpR X (binaryOp .Mod) rModNN := by
  intro pins s σ H x y v u Q I rx ry h
  obtain ⟨n, m, rfl, rfl, hm, q⟩ := h
  refine op_mod pins s σ H _ _ v u Q I rx ry ⟨_, _, rfl, rfl, show (0 : Int) < ((m : Nat) : Int) by omega, ?_⟩
  show Q (.int (((n : Nat) : Int) % ((m : Nat) : Int))) H
  rw [← Int.natCast_emod]
  exact q
end
theorem Wd.tup {K : PySem.W.Frag} {H H' : Hp} {a l : Addr} {ds : List Int} (W : Wd H a l ds) (k : Kp a H H') : ∀ b xs, SqT K H b xs → SqT K H' b xs := by
  obtain ⟨n, _, e⟩ := W.at'
  exact kp_tup e k
theorem getD_some {l : List Nat} {i x : Nat} (h : l[i]? = some x) : l.getD i 0 = x := by
  rw [List.getD_eq_getElem?_getD, h]
  rfl
theorem at_len {α β : Type} {xs : List α} {ys : List β} (hl : xs.length = ys.length) {i : Nat} {y : β} (h : ys[i]? = some y) : ∃ x, xs[i]? = some x :=
  ⟨_, List.getElem?_eq_getElem (by rw [hl]; exact (List.getElem?_eq_some_iff.mp h).1)⟩
theorem take_at {α : Type} {l : List α} {i j : Nat} {x : α} (h : (l.take i)[j]? = some x) : l[j]? = some x := by
  rw [List.getElem?_take] at h
  split at h
  · exact h
  · cases h
theorem take_snoc {α : Type} {l : List α} {i : Nat} {x : α} (h : l[i]? = some x) : l.take (i + 1) = l.take i ++ [x] := by
  rw [List.take_add_one, h]
  rfl
section
variable {K : PySem.W.Frag} {H H' : Hp}
theorem snoc_cases {α : Type} {l : List α} {x y : α} {j : Nat} (h : (l ++ [x])[j]? = some y) : (j < l.length ∧ l[j]? = some y) ∨ (j = l.length ∧ x = y) := by
  by_cases hj : j < l.length
  · rw [List.getElem?_append_left hj] at h
    exact .inl ⟨hj, h⟩
  · rw [List.getElem?_append_right (by omega)] at h
    have e0 : j - l.length = 0 := by
      have := (List.getElem?_eq_some_iff.mp h).1
      simp at this
      omega
    rw [e0] at h
    cases h
    exact .inr ⟨by omega, rfl⟩
end
section
variable {K : PySem.W.Frag} {H : Hp}
theorem tyx_tup {a : Addr} {xs : List V} (s : SqT K H a xs) : TyX K H (.ref a) (.type "tuple") := by
  rcases s with (s | ⟨u, s⟩) | ⟨o, its, k, s, c, _⟩
  · exact .base (.tup s)
  · exact .fTuple s
  · exact .kTuple s c
theorem tyx_lst {a : Addr} {xs : List V} (s : SqL K H a xs) : TyX K H (.ref a) (.type "list") := by
  rcases s with (s | ⟨u, s⟩) | ⟨o, its, k, s, c, _⟩
  · exact .base (.lst s)
  · exact .base (.frz s)
  · exact .kList s c
end
theorem tyx_of {K : PySem.W.Frag} {H : Hp} {v : V} {d : PyData} (h : Dp K H v d) (n : noL d = true) : TyX K H v (.type (tyD d)) := by
  cases h with
  | non => exact .base .non
  | bl b => exact .base (.bl b)
  | int i => exact .base (.int i)
  | str x => exact .base (.str x)
  | lst s _ => cases n
  | tup s _ =>
    rcases s with (s | ⟨u, s⟩) | ⟨o, its, k, s, c, _⟩
    · exact .base (.tup s)
    · exact .fTuple s
    · exact .kTuple s c
theorem kit_int (d : PyData) (n : noL d = true) : kitB (tyD d) "int" = some (decide (tyD d = "int") || decide (tyD d = "bool")) := by
  cases d with
  | list _ => cases n
  | dict _ => cases n
  | none => show kitB "NoneType" "int" = some (decide ("NoneType" = "int") || decide ("NoneType" = "bool")); decide +kernel
  | bool _ => show kitB "bool" "int" = some (decide ("bool" = "int") || decide ("bool" = "bool")); decide +kernel
  | int _ => show kitB "int" "int" = some (decide ("int" = "int") || decide ("int" = "bool")); decide +kernel
  | str _ => show kitB "str" "int" = some (decide ("str" = "int") || decide ("str" = "bool")); decide +kernel
  | tuple _ => show kitB "tuple" "int" = some (decide ("tuple" = "int") || decide ("tuple" = "bool")); decide +kernel
theorem kit_one (T : String) (hT : T = "bool" ∨ T = "tuple" ∨ T = "str") (d : PyData) (n : noL d = true) : kitB (tyD d) T = some (decide (tyD d = T)) := by
  rcases hT with rfl | rfl | rfl
  · cases d with
    | list _ => cases n
    | dict _ => cases n
    | none => show kitB "NoneType" "bool" = some (decide ("NoneType" = "bool")); decide +kernel
    | bool _ => show kitB "bool" "bool" = some (decide ("bool" = "bool")); decide +kernel
    | int _ => show kitB "int" "bool" = some (decide ("int" = "bool")); decide +kernel
    | str _ => show kitB "str" "bool" = some (decide ("str" = "bool")); decide +kernel
    | tuple _ => show kitB "tuple" "bool" = some (decide ("tuple" = "bool")); decide +kernel
  · cases d with
    | list _ => cases n
    | dict _ => cases n
    | none => show kitB "NoneType" "tuple" = some (decide ("NoneType" = "tuple")); decide +kernel
    | bool _ => show kitB "bool" "tuple" = some (decide ("bool" = "tuple")); decide +kernel
    | int _ => show kitB "int" "tuple" = some (decide ("int" = "tuple")); decide +kernel
    | str _ => show kitB "str" "tuple" = some (decide ("str" = "tuple")); decide +kernel
    | tuple _ => show kitB "tuple" "tuple" = some (decide ("tuple" = "tuple")); decide +kernel
  · cases d with
    | list _ => cases n
    | dict _ => cases n
    | none => show kitB "NoneType" "str" = some (decide ("NoneType" = "str")); decide +kernel
    | bool _ => show kitB "bool" "str" = some (decide ("bool" = "str")); decide +kernel
    | int _ => show kitB "int" "str" = some (decide ("int" = "str")); decide +kernel
    | str _ => show kitB "str" "str" = some (decide ("str" = "str")); decide +kernel
    | tuple _ => show kitB "tuple" "str" = some (decide ("tuple" = "str")); decide +kernel
theorem wd_merge (l : Addr) (n : Int) : mergeK [] [(.inr ("draws" : Str), .ref l), (.inr ("at" : Str), .int n)] = wdL l n := by
  have h1 : ¬ (Sum.inr ("draws" : Str) : Key) = Sum.inr ("at" : Str) := by decide
  unfold mergeK wdL
  simp [putK, h1]
theorem Wd.same {H H' : Hp} {a l : Addr} {ds : List Int} (W : Wd H a l ds) (s : Same H H') : Wd H' a l ds := by
  obtain ⟨n, n0, e⟩ := W.at'
  exact ⟨⟨n, n0, s _ _ e⟩, s _ _ W.dr, W.len⟩
theorem cut_take (xs : List V) (k : Nat) (h : k < xs.length) : cutV xs none (some ((k : Nat) : Int)) = xs.take k := by
  unfold cutV
  rw [HT.sIx_none, HT.sIx_nat, Nat.sub_zero, List.drop_zero, Nat.min_eq_left (by omega)]
theorem cut_drop (xs : List V) (k : Nat) (h : k < xs.length) : cutV xs (some (((k : Nat) : Int) + 1)) none = xs.drop (k + 1) := by
  unfold cutV
  rw [show ((k : Nat) : Int) + 1 = ((k + 1 : Nat) : Int) by omega, HT.sIx_none, HT.sIx_nat, Nat.min_eq_left (by omega)]
  exact List.take_of_length_le (by rw [List.length_drop]; omega)
theorem dps_take {K : PySem.W.Frag} {H : Hp} : ∀ {xs : List V} {ds : List PyData} (_ : DpAll K H xs ds) (k : Nat), DpAll K H (xs.take k) (ds.take k)
  | _, _, .nil, k => by simp; exact .nil
  | _, _, .cons _ _, 0 => .nil
  | _, _, .cons a b, k + 1 => .cons a (dps_take b k)
theorem dps_drop {K : PySem.W.Frag} {H : Hp} : ∀ {xs : List V} {ds : List PyData} (_ : DpAll K H xs ds) (k : Nat), DpAll K H (xs.drop k) (ds.drop k)
  | _, _, .nil, k => by simp; exact .nil
  | _, _, .cons a b, 0 => .cons a b
  | _, _, .cons _ b, k + 1 => dps_drop b k
theorem catA_read {K : PySem.W.Frag} {H : Hp} {a0 b0 : Addr} {xs ys : List V} {Q : VK} (hx : SqT K H a0 xs) (hy : SqT K H b0 ys) (hl : xs.length + ys.length ≤ sizeLine)
    (q : ∀ p H', Same H H' → (∀ a l ds, Wd H a l ds → Wd H' a l ds) → SqT K H' p (xs ++ ys) → Q (.ref p) H') : rCatA K (.ref a0) (.ref b0) H Q := by
  refine ⟨a0, b0, xs, ys, rfl, rfl, hx, hy, hl, fun e => ?_, fun e1 e2 => ?_, fun e1 e2 p np => ?_⟩
  · refine q b0 H (Same.refl H) (fun _ _ _ W => W) ?_
    rw [e]
    exact hy
  · refine q a0 H (Same.refl H) (fun _ _ _ W => W) ?_
    rw [e2, List.append_nil]
    exact hx
  · exact q p _ (Same.up np) (fun _ _ _ W => W.new np) (SqT.of upd_same)
theorem Same.kp {H H' : Hp} {a : Addr} (s : Same H H') : Kp a H H' := fun b o _ e => s b o e
theorem noLs_mem : ∀ {L : List PyData}, noLs L = true → ∀ d ∈ L, noL d = true
  | [], _, d, hd => by cases hd
  | a :: L, h, d, hd => by
    have h' := Bool.and_eq_true_iff.mp (show (noL a && noLs L) = true from h)
    rcases List.mem_cons.mp hd with rfl | hd
    · exact h'.1
    · exact noLs_mem h'.2 d hd
abbrev rListOf (K : PySem.W.Frag) : List V → Hp → VK → Prop := fun xs H Q => ∃ p ys, xs = [V.ref p] ∧ (SqL K H p ys ∨ SqT K H p ys) ∧ ∀ l, H l = none → Q (.ref l) (upd H l (.lst ys))
structure Gp (mg : Str → Option Value) : Prop where
  ty : mg "type" = none
  it : mg "int" = none
  tu : mg "tuple" = none
  bo : mg "bool" = none
  len : mg "len" = none
  all : mg "all" = none
  enumerate : mg "enumerate" = none
  isi : mg "isinstance" = none
  min : mg "min" = none
  range : mg "range" = none
  list : mg "list" = none
abbrev sIsTuple : Stmt := topS 4
abbrev sIsBelow : Stmt := topS 5
theorem scIsTuple : FnScope ["thing", "many"] ["thing", "many"] (defScope sIsTuple) := ⟨rfl, rfl, rfl, by decide +kernel, rfl, by decide +kernel, by decide +kernel⟩
theorem scIsBelow : FnScope ["thing", "limit"] ["thing", "limit"] (defScope sIsBelow) := ⟨rfl, rfl, rfl, by decide +kernel, rfl, by decide +kernel, by decide +kernel⟩
section
variable {P : Program} {w : World} {K : PySem.W.Frag} {mg : Str → Option Value} {base : Heap}
def spIsTuple (K : PySem.W.Frag) : Sp := fun vs H Q _ => ∃ (v : V) (d : PyData) (n : Nat), vs = [v, iV n] ∧ Dp K H v d ∧ Q (.bl (isT d n)) H
theorem ok_isTuple {f : Addr} {fd : FuncData} (F : Fun K "is_tuple" "is_tuple" sIsTuple f fd) (G : Gp mg) : FnOk P w K mg base CX0 1 f fd ["thing", "many"] (spIsTuple K) := by
  refine F.ok scIsTuple (fun vs H Q E h => ?_) (fun cdv A outer s H vs Q E hr h => ?_)
  · obtain ⟨v, d, n, rfl, _⟩ := h
    rfl
  · obtain ⟨v, d, n, rfl, hd, q⟩ := h
    refine ⟨_, (pss_one (ps_ret (pe_and (pe_cmpR op_isTyB (pe_callTy call_type1 (by rfl) G.ty (by decide +kernel) (pa_cons (pv 0) pa_nil)) (pe_bltn (v := .ty "tuple") (by rfl) G.tu (by decide +kernel) rfl) (nomark _)) (pe_one (pe_cmpR op_eq (pe_callB call_len_seq (by rfl) G.len PySem.boot_len (pa_cons (pv 0) pa_nil)) (pv 1) (nomark _)))))), ?_⟩
    refine ⟨_, rfl, _, _, rfl, ty_of hd, _, _, rfl, rfl, ?_⟩
    refine ⟨_, rfl, ite2 (fun a1 => ?_) (fun a1 => ?_)⟩
    · obtain ⟨ds, rfl⟩ := ty_tup (of_decide_eq_true a1)
      cases hd with
      | tup s a =>
        have l := dps_len a
        refine ⟨_, rfl, _, _, rfl, .inr s, _, rfl, rfl, ?_⟩
        rename_i xs
        have e2 : decide (V.int ((xs.length : Nat) : Int) = V.int ((n : Nat) : Int)) = isT (.tuple ds) n := by
          show _ = decide (ds.length = n)
          rw [l]
          refine decide_eq_decide.mpr ⟨fun h => ?_, fun h => by rw [h]⟩
          have := V.int.inj h
          omega
        rw [e2]
        exact q
    · have e : isT d n = false := by
        cases d with
        | tuple xs => exact absurd rfl a1
        | _ => rfl
      rw [e] at q
      exact q
def spIsBelow (K : PySem.W.Frag) : Sp := fun vs H Q _ => ∃ (v : V) (d : PyData) (n : Int), vs = [v, .int n] ∧ Dp K H v d ∧ Q (.bl (isI d 0 n)) H
theorem ok_isBelow {f : Addr} {fd : FuncData} (F : Fun K "is_below" "is_below" sIsBelow f fd) (G : Gp mg) : FnOk P w K mg base CX0 1 f fd ["thing", "limit"] (spIsBelow K) := by
  refine F.ok scIsBelow (fun vs H Q E h => ?_) (fun cdv A outer s H vs Q E hr h => ?_)
  · obtain ⟨v, d, n, rfl, _⟩ := h
    rfl
  · obtain ⟨v, d, n, rfl, hd, q⟩ := h
    refine ⟨_, (pss_one (ps_ret (pe_and (pe_cmpR op_isTyB (pe_callTy call_type1 (by rfl) G.ty (by decide +kernel) (pa_cons (pv 0) pa_nil)) (pe_bltn (v := .ty "int") (by rfl) G.it (by decide +kernel) rfl) (nomark _)) (pe_one (pe_chain op_le op_lt pe_int (pv 0) (pv 1)))))), ?_⟩
    refine ⟨_, rfl, _, _, rfl, ty_of hd, _, _, rfl, rfl, ?_⟩
    refine ⟨_, rfl, ite2 (fun a1 => ?_) (fun a1 => ?_)⟩
    · obtain ⟨i, rfl⟩ := ty_int (of_decide_eq_true a1)
      cases hd with
      | int i =>
        refine ⟨_, rfl, _, _, rfl, rfl, _, rfl, ite2 (fun a2 => ?_) (fun a2 => ?_)⟩
        · refine ⟨_, rfl, _, _, rfl, rfl, ?_⟩
          have e2 : isI (.int i) 0 n = decide (i < n) := by
            show (decide (0 ≤ i) && decide (i < n)) = _
            rw [a2]
            rfl
          rw [e2] at q
          exact q
        · have e2 : isI (.int i) 0 n = false := by
            show (decide (0 ≤ i) && decide (i < n)) = _
            rw [Bool.eq_false_iff.mpr a2]
            rfl
          rw [e2] at q
          exact q
    · have e : isI d 0 n = false := by
        cases d with
        | int xs => exact absurd rfl a1
        | _ => rfl
      rw [e] at q
      exact q
end
end C1

/-! Nets as data. -/
namespace C1
open PySem PySem.Spec PyProof.Rows L2 SX
def strsL : List Str := ["else", "0"]
def gd : Nat → PyData → Bool
  | _, .none => true
  | _, .bool _ => true
  | _, .int _ => true
  | _, .str s => decide (s ∈ strsL)
  | n + 1, .tuple ds => decide (ds.length ≤ 1000) && ds.all (gd n)
  | _, _ => false
theorem gd_ok : ∀ (n : Nat) (d : PyData), gd n d = true → noL d = true ∧ PyData.canLay0 d = true ∧ PyData.depth d ≤ n
  | _, .none, _ => ⟨rfl, rfl, Nat.zero_le _⟩
  | _, .bool _, _ => ⟨rfl, rfl, Nat.zero_le _⟩
  | _, .int _, _ => ⟨rfl, rfl, Nat.zero_le _⟩
  | n, .str s, h => by
    have h1 : s ∈ strsL := by
      cases n <;> exact of_decide_eq_true h
    have h2 : ∀ s ∈ strsL, PyData.canLay0 (.str s) = true := by decide +kernel
    exact ⟨rfl, h2 s h1, Nat.zero_le _⟩
  | 0, .tuple _, h => by cases h
  | n + 1, .tuple ds, h => by
    have h2 := (Bool.and_eq_true_iff.mp h).2
    have h3 : ∀ ds : List PyData, ds.all (gd n) = true → noLs ds = true ∧ PyData.canLayAll0 ds = true ∧ PyData.depthAll ds ≤ n := by
      intro ds
      induction ds with
      | nil => exact fun _ => ⟨rfl, rfl, Nat.zero_le _⟩
      | cons d ds ih =>
        intro h
        rw [List.all_cons, Bool.and_eq_true] at h
        obtain ⟨a1, a2, a3⟩ := gd_ok n d h.1
        obtain ⟨b1, b2, b3⟩ := ih h.2
        refine ⟨?_, ?_, ?_⟩
        · show (noL d && noLs ds) = true
          rw [a1, b1]
          rfl
        · show (PyData.canLay0 d && PyData.canLayAll0 ds) = true
          rw [a2, b2]
          rfl
        · show max (PyData.depth d) (PyData.depthAll ds) ≤ n
          exact Nat.max_le.mpr ⟨a3, b3⟩
    obtain ⟨a, b, c⟩ := h3 ds h2
    exact ⟨a, b, Nat.succ_le_succ c⟩
  | 0, .list _, h => by cases h
  | 0, .dict _, h => by cases h
  | _ + 1, .list _, h => by cases h
  | _ + 1, .dict _, h => by cases h
theorem gd_shaped {n : Nat} {d : PyData} (h : gd n d = true) (hn : n ≤ 60) : SeqAt.shaped d = true := by
  obtain ⟨_, b, c⟩ := gd_ok n d h
  unfold SeqAt.shaped
  rw [Bool.and_eq_true]
  exact ⟨b, decide_eq_true (by omega)⟩
theorem gd_mem {n : Nat} {ds : List PyData} (h : gd (n + 1) (.tuple ds) = true) {d : PyData} (hd : d ∈ ds) : gd n d = true := List.all_eq_true.mp (Bool.and_eq_true_iff.mp h).2 d hd
theorem gd_len {n : Nat} {ds : List PyData} (h : gd (n + 1) (.tuple ds) = true) : ds.length ≤ 1000 := of_decide_eq_true (Bool.and_eq_true_iff.mp h).1
theorem gd_tup {n : Nat} {ds : List PyData} (hl : ds.length ≤ 1000) (h : ∀ d ∈ ds, gd n d = true) : gd (n + 1) (.tuple ds) = true := Bool.and_eq_true_iff.mpr ⟨decide_eq_true hl, List.all_eq_true.mpr h⟩
theorem gd_int {n : Nat} (k : Int) : gd n (.int k) = true := by cases n <;> rfl
def pr (p : Nat × Nat) : PyData := .tuple [iD p.1, iD p.2]
structure Net where
  firsts : List Nat
  ands : List (Nat × Nat)
  nexts : List Nat
  outs : List Nat
def Net.d (n : Net) : PyData := .tuple [.tuple (n.firsts.map iD), .tuple (n.ands.map pr), .tuple (n.nexts.map iD), .tuple (n.outs.map iD)]
def Bits (l : List Nat) : Prop := ∀ x ∈ l, x < 2
structure NetOk (n : Net) : Prop where
  fb : Bits n.firsts
  fl : n.firsts.length ≤ 100
  al : n.ands.length ≤ 200
  nl : n.nexts.length = n.firsts.length
  ol : n.outs.length ≤ 100
  ao : ∀ (k : Nat) (p : Nat × Nat), n.ands[k]? = some p → p.1 < 2 * (1 + n.firsts.length + k) ∧ p.2 < 2 * (1 + n.firsts.length + k)
  no : ∀ x ∈ n.nexts, x < 2 * (1 + n.firsts.length + n.ands.length)
  oo : ∀ x ∈ n.outs, x < 2 * (1 + n.firsts.length + n.ands.length)
def memD (m : List Nat) : PyData := .tuple (m.map iD)
theorem noLs_int : ∀ m : List Nat, noLs (m.map iD) = true
  | [] => rfl
  | _ :: r => noLs_int r
theorem noLs_pr : ∀ ps : List (Nat × Nat), noLs (ps.map pr) = true
  | [] => rfl
  | p :: ps => noLs_pr ps
section
variable {P : Program} {w : World} {K : PySem.W.Frag} {mg : Str → Option Value} {base : Heap} {H H' : Hp}
structure NP (K : PySem.W.Frag) (H : Hp) (nA : Addr) (n : Net) : Prop where
  ex : ∃ (f a x o : Addr) (avs : List V), SqT K H nA [.ref f, .ref a, .ref x, .ref o] ∧ SqT K H f (n.firsts.map iV) ∧ (SqT K H a avs ∧ DpAll K H avs (n.ands.map pr)) ∧ SqT K H x (n.nexts.map iV) ∧ SqT K H o (n.outs.map iV)
theorem NP.stay {nA : Addr} {n : Net} (N : NP K H nA n) (st : ∀ a xs, SqT K H a xs → SqT K H' a xs) : NP K H' nA n := by
  obtain ⟨f, a, x, o, avs, h0, h1, h2, h3, h4⟩ := N.ex
  exact ⟨f, a, x, o, avs, st _ _ h0, st _ _ h1, ⟨st _ _ h2.1, dps_stay st _ _ h2.2 (noLs_pr _)⟩, st _ _ h3, st _ _ h4⟩
theorem NP.same {nA : Addr} {n : Net} (N : NP K H nA n) (s : Same H H') : NP K H' nA n := N.stay (same_tup s)
theorem dps_ints_eq {vs : List V} {ks : List Nat} (h : DpAll K H vs (ks.map iD)) : vs = ks.map iV := dps_flat h (by rw [List.map_map, List.map_map]; rfl)
theorem NP.of {nA : Addr} {n : Net} (h : Dp K H (.ref nA) n.d) : NP K H nA n := by
  obtain ⟨b, xs, e, s, q⟩ := dp_tup h
  cases e
  cases q with
  | cons a1 q => cases q with
  | cons a2 q => cases q with
  | cons a3 q => cases q with
  | cons a4 q =>
  cases q
  obtain ⟨b1, x1, rfl, s1, d1⟩ := dp_tup a1
  obtain ⟨b2, x2, rfl, s2, d2⟩ := dp_tup a2
  obtain ⟨b3, x3, rfl, s3, d3⟩ := dp_tup a3
  obtain ⟨b4, x4, rfl, s4, d4⟩ := dp_tup a4
  rw [dps_ints_eq d1] at s1
  rw [dps_ints_eq d3] at s3
  rw [dps_ints_eq d4] at s4
  exact ⟨b1, b2, b3, b4, x2, s, s1, ⟨s2, d2⟩, s3, s4⟩
theorem NP.dp {nA : Addr} {n : Net} (N : NP K H nA n) : Dp K H (.ref nA) n.d := by
  obtain ⟨f, a, x, o, avs, h0, h1, h2, h3, h4⟩ := N.ex
  exact .tup h0 (.cons (.tup h1 (dps_ints _)) (.cons (.tup h2.1 h2.2) (.cons (.tup h3 (dps_ints _)) (.cons (.tup h4 (dps_ints _)) .nil))))
theorem pr_at {vs : List V} {ps : List (Nat × Nat)} {i : Nat} {p : Nat × Nat} (h : DpAll K H vs (ps.map pr)) (e : ps[i]? = some p) : ∃ b, vs[i]? = some (.ref b) ∧ SqT K H b [iV p.1, iV p.2] := by
  obtain ⟨x, hx, hd⟩ := dps_put h (show (ps.map pr)[i]? = some (pr p) by rw [List.getElem?_map, e]; rfl)
  obtain ⟨b, xs, rfl, s, q⟩ := dp_tup hd
  rw [dps_flat q (us := [iV p.1, iV p.2]) rfl] at s
  exact ⟨b, hx, s⟩
end
end C1

/-! What is a net. -/
namespace C1
open PySem PySem.Spec PyProof.Rows L2 SX
abbrev sIsNet : Stmt := topS 7
theorem scIsNet : FnScope ["thing", "firsts", "ands", "nexts", "outs", "latches", "at", "part", "first", "side", "literal"] ["thing"] (defScope sIsNet) := ⟨rfl, rfl, rfl, by decide +kernel, rfl, by decide +kernel, by decide +kernel⟩
abbrev NIN : List Str := ["thing", "firsts", "ands", "nexts", "outs", "latches", "at", "part", "first", "side", "literal"]
def andB (n : Int) (d : PyData) : Bool := match d with
  | .tuple ds => decide (ds.length = 2) && ds.all fun x => isI x 0 n
  | _ => false
def andsB (L : Nat) : Nat → List PyData → Bool
  | _, [] => true
  | k, d :: ds => andB ((2 * (1 + L + k) : Nat) : Int) d && andsB L (k + 1) ds
def netB (d : PyData) : Bool := match d with
  | .tuple [.tuple fs, .tuple as, .tuple ns, .tuple os] => decide (ns.length = fs.length) && (fs.all fun x => isI x 0 2) && andsB fs.length 0 as && ((ns ++ os).all fun x => isI x 0 ((2 * (1 + fs.length + as.length) : Nat) : Int))
  | _ => false
theorem andsB_drop {L : Nat} : ∀ {ds : List PyData} {i k : Nat} {d : PyData}, ds[i]? = some d → andsB L k (ds.drop i) = (andB ((2 * (1 + L + k) : Nat) : Int) d && andsB L (k + 1) (ds.drop (i + 1)))
  | [], i, _, _, h => by simp at h
  | d0 :: ds, 0, k, d, h => by
    cases h
    rfl
  | d0 :: ds, i + 1, k, d, h => andsB_drop (ds := ds) (i := i) (k := k) h
theorem netB_four {ds : List PyData} (hl : ds.length = 4) (h : (ds.all fun d => decide (tyD d = "tuple")) = false) : netB (.tuple ds) = false := by
  match ds, hl with
  | [a, b, c, d], _ =>
    cases a <;> cases b <;> cases c <;> cases d <;> first | rfl | (exact absurd h (by decide)) | (simp [tyD] at h)
theorem filt_empty (b : PyData → Bool) : ∀ ds : List PyData, (ds.filter fun d => !(b d)).isEmpty = ds.all b
  | [] => rfl
  | d :: ds => by
    rw [List.filter_cons, List.all_cons]
    cases h : b d with
    | true =>
      rw [if_neg (by decide), Bool.true_and]
      exact filt_empty b ds
    | false => rfl
section
variable {P : Program} {w : World} {K : PySem.W.Frag} {mg : Str → Option Value} {base : Heap} {H H' : Hp}
/-- all([b of x for x in a tuple]) -/
theorem lc_all {a D : Addr} {xs : List V} {ds : List PyData} {b : PyData → Bool} {σ : L2.St} {Qd : Hp → Prop} {j : Nat} {wv : List Nat} {te : TE} (nD : H D = none) (sa : SqT K H a xs) (da : DpAll K H xs ds) (hn : noLs ds = true) (hl : ds.length ≤ 900)
    (ht : ∀ x d H1 (R : VK), Same H H1 → Dp K H1 x d → d ∈ ds → R (.bl (b d)) H1 → te ((wipe σ wv).set j (some x)) H1 R) (hσ : ∀ x, wipe ((wipe σ wv).set j (some x)) wv = wipe σ wv) (q : Qd (upd H D (.lst ((ds.map b).map V.bl)))) :
    ∃ W : Nat → Nat → Hp → Prop, (∃ m, W 0 m (upd H D (.lst []))) ∧ ∀ i m H, W i m H →
      ((Itt K a).stop i H ∧ Qd H) ∨ ((Itt K a).go i H ∧ ∃ Nx : Hp → Prop, (∀ H', Nx H' → ∃ m', m' < m ∧ W (i + 1) m' H') ∧ ∀ x H', (Itt K a).yld i H x H' → gName j x (wipe σ wv) H' fun σ2 H2 => wipe σ2 wv = wipe σ wv ∧ tYes σ2 H2 fun b H3 =>
        if b = true then te σ2 H3 fun y H4 => ∃ acc, H4 D = some (.lst acc) ∧ acc.length < sizeLine ∧ Nx (upd H4 D (.lst (acc ++ [y]))) else Nx H3) := by
  have lda := dps_len da
  have s6 : ∀ {o : HO}, Same H (upd H D o) := fun {o} => Same.up nD
  refine lc_tup (xs := xs) (fun i H1 => H1 = upd H D (.lst (((ds.take i).map b).map V.bl))) rfl (fun i H1 _ h => ?_) (fun i x H1 hx h => ?_) (fun H1 h => ?_)
  · subst h
    exact same_tup s6 _ _ sa
  · subst h
    obtain ⟨di, hdi, dx⟩ := dps_get (dps_stay (same_tup s6) _ _ da hn) hx
    refine ⟨hσ x, ?_⟩
    refine ht x di _ (fun y H4 => ∃ acc, H4 D = some (.lst acc) ∧ acc.length < sizeLine ∧ upd H4 D (.lst (acc ++ [y])) = upd H D (.lst (((ds.take (i + 1)).map b).map V.bl))) s6 dx (List.mem_of_getElem? hdi) ⟨_, upd_same, ?_, ?_⟩
    · rw [List.length_map, List.length_map]
      exact lineS200 (by rw [List.length_take]; omega)
    · rw [upd_upd, take_snoc hdi, List.map_append, List.map_append]
      rfl
  · subst h
    rw [lda, List.take_length]
    exact q
theorem all_id (b : PyData → Bool) (ds : List PyData) : (ds.map b).all id = ds.all b := by
  rw [List.all_map]
  rfl
/-- [x for x in a tuple if not b of x] -/
theorem lc_flt {a D : Addr} {xs : List V} {ds : List PyData} {b : PyData → Bool} {σ : L2.St} {Qd : Hp → Prop} {j : Nat} {wv : List Nat} {tt : TT} (nD : H D = none) (sa : SqT K H a xs) (da : DpAll K H xs ds) (hn : noLs ds = true) (hl : ds.length ≤ 900)
    (ht : ∀ x d H1 (R : Bool → Hp → Prop), Same H H1 → Dp K H1 x d → d ∈ ds → (∀ H2, Same H1 H2 → R (!(b d)) H2) → tt ((wipe σ wv).set j (some x)) H1 R)
    (hσ : ∀ x, ((wipe σ wv).set j (some x))[j]? = some (some x) ∧ wipe ((wipe σ wv).set j (some x)) wv = wipe σ wv) (q : ∀ H' zs, Same H H' → H' D = some (.lst zs) → DpAll K H' zs (ds.filter fun d => !(b d)) → Qd H') :
    ∃ W : Nat → Nat → Hp → Prop, (∃ m, W 0 m (upd H D (.lst []))) ∧ ∀ i m H, W i m H →
      ((Itt K a).stop i H ∧ Qd H) ∨ ((Itt K a).go i H ∧ ∃ Nx : Hp → Prop, (∀ H', Nx H' → ∃ m', m' < m ∧ W (i + 1) m' H') ∧ ∀ x H', (Itt K a).yld i H x H' → gName j x (wipe σ wv) H' fun σ2 H2 => wipe σ2 wv = wipe σ wv ∧ tt σ2 H2 fun b H3 =>
        if b = true then tVar j σ2 H3 fun y H4 => ∃ acc, H4 D = some (.lst acc) ∧ acc.length < sizeLine ∧ Nx (upd H4 D (.lst (acc ++ [y]))) else Nx H3) := by
  have lda := dps_len da
  refine lc_tup (xs := xs) (fun i H1 => Same H H1 ∧ ∃ zs, H1 D = some (.lst zs) ∧ zs.length ≤ i ∧ DpAll K H1 zs ((ds.take i).filter fun d => !(b d))) ⟨same_new nD, [], upd_same, Nat.zero_le _, .nil⟩ (fun i H1 _ h => same_tup h.1 _ _ sa) (fun i x H1 hx h => ?_) (fun H1 h => ?_)
  · obtain ⟨s1, zs, e, lz, dz⟩ := h
    obtain ⟨di, hdi, dx⟩ := dps_get (dps_stay (same_tup s1) _ _ da hn) hx
    have hil : i < ds.length := (List.getElem?_eq_some_iff.mp hdi).1
    have hnf : ∀ n, noLs ((ds.take n).filter fun d => !(b d)) = true := fun n => by
      have : ∀ l : List PyData, (∀ d ∈ l, noL d = true) → noLs l = true := fun l => by
        induction l with
        | nil => exact fun _ => rfl
        | cons d l ih =>
          intro h
          show (noL d && noLs l) = true
          rw [h d (List.mem_cons_self ..), ih fun x hx => h x (List.mem_cons_of_mem _ hx)]
          rfl
      exact this _ fun d hd => noLs_mem hn d (List.mem_of_mem_take (List.mem_filter.mp hd).1)
    refine ⟨(hσ x).2, ht x di H1 _ s1 dx (List.mem_of_getElem? hdi) fun H2 s2 => ?_⟩
    cases hb : b di with
    | true =>
      show _ ∧ _
      refine ⟨s1.trans s2, zs, s2 _ _ e, by omega, ?_⟩
      rw [take_snoc hdi, List.filter_append, List.filter_cons_of_neg (by rw [hb]; decide), List.filter_nil, List.append_nil]
      exact dps_stay (same_tup s2) _ _ dz (hnf i)
    | false =>
      refine ⟨x, (hσ x).1, zs, s2 _ _ e, lineS200 (by omega), same_put (s1.trans s2) nD, zs ++ [x], upd_same, by rw [List.length_append]; show zs.length + 1 ≤ i + 1; omega, ?_⟩
      rw [take_snoc hdi, List.filter_append, List.filter_cons_of_pos (by rw [hb]; rfl), List.filter_nil]
      exact push_dps (s2 _ _ e) (dps_stay (same_tup s2) _ _ dz (hnf i)) (hnf i) (dp_stay (same_tup s2) _ _ dx (noLs_mem hn _ (List.mem_of_getElem? hdi))) (noLs_mem hn _ (List.mem_of_getElem? hdi))
  · obtain ⟨s1, zs, e, lz, dz⟩ := h
    rw [lda, List.take_length] at dz
    exact q H1 zs s1 e dz
/-- a list of good things beside the empty one -/
theorem eq_nil {D : Addr} {zs : List V} {F : List PyData} {R : VK} {eq : Bool} (e : H D = some (.lst zs)) (dz : DpAll K H zs F) (hn : noLs F = true) (hF : LayAll F) (q : ∀ z, H z = none → R (.bl (if eq then F.isEmpty else !F.isEmpty)) (upd H z (.lst []))) :
    (0 ≤ sizeLine) ∧ ∀ z, H z = none → (if eq = true then rEqD K (.ref D) (.ref z) (upd H z (.lst [])) R else rNeD K (.ref D) (.ref z) (upd H z (.lst [])) R) := by
  refine ⟨Nat.zero_le _, fun z nz => ?_⟩
  have dz2 := dps_stay (same_tup (same_new (o := .lst []) nz)) _ _ dz hn
  have e2 := (same_new (o := .lst []) nz) _ _ e
  have q2 := q z nz
  cases eq with
  | true =>
    refine ⟨.list F, .list [], .lst (SqL.of e2) dz2, .lst (SqL.of upd_same) .nil, shaped_list F hF, shaped_list [] (fun d hd => by cases hd), ?_⟩
    rw [eqv_nil]
    exact q2
  | false =>
    refine ⟨.list F, .list [], .lst (SqL.of e2) dz2, .lst (SqL.of upd_same) .nil, shaped_list F hF, shaped_list [] (fun d hd => by cases hd), ?_⟩
    rw [eqv_nil]
    exact q2
theorem gd_lay {n : Nat} {ds : List PyData} (hg : ∀ d ∈ ds, gd n d = true) (hn : n ≤ 5) {p : PyData → Bool} : LayAll (ds.filter p) := fun d hd => by
  obtain ⟨_, b, c⟩ := gd_ok n d (hg d (List.mem_filter.mp hd).1)
  exact ⟨b, by omega⟩
theorem filt_noL {ds : List PyData} (hn : noLs ds = true) (p : PyData → Bool) : noLs (ds.filter p) = true := by
  have : ∀ l : List PyData, (∀ d ∈ l, noL d = true) → noLs l = true := fun l => by
    induction l with
    | nil => exact fun _ => rfl
    | cons d l ih =>
      intro h
      show (noL d && noLs l) = true
      rw [h d (List.mem_cons_self ..), ih fun x hx => h x (List.mem_cons_of_mem _ hx)]
      rfl
  exact this _ fun d hd => noLs_mem hn d (List.mem_filter.mp hd).1
def spIsNet (K : PySem.W.Frag) : Sp := fun vs H Q _ => ∃ (v : V) (d : PyData) (n : Nat), vs = [v] ∧ Dp K H v d ∧ gd n d = true ∧ n ≤ 4 ∧ (∀ ds, d = .tuple ds → ∀ es, .tuple es ∈ ds → es.length ≤ 400) ∧ ∀ H', Same H H' → Q (.bl (netB d)) H'
theorem ok_isNet {f fT fL : Addr} {fd fdT fdL : FuncData} (F : Fun K "is_net" "is_net" sIsNet f fd) (B : Gp mg) (GT : FnOk P w K mg base CX0 1 fT fdT ["thing", "many"] (spIsTuple K)) (kT : PySem.W.keepIn K (.ref fT) = true) (bT : Binds K fdT ["thing", "many"] []) (gT : mg "is_tuple" = some (.ref fT))
    (GL : FnOk P w K mg base CX0 1 fL fdL ["thing", "limit"] (spIsBelow K)) (kL : PySem.W.keepIn K (.ref fL) = true) (bL : Binds K fdL ["thing", "limit"] []) (gL : mg "is_below" = some (.ref fL)) : FnOk P w K mg base CX0 2 f fd ["thing"] (spIsNet K) := by
  refine F.ok scIsNet (fun vs H Q E h => ?_) (fun cdv A outer s H vs Q E hr h => ?_)
  · obtain ⟨v, d, n, rfl, _⟩ := h
    rfl
  · obtain ⟨v, d, n, rfl, hd, hg, hn, hlen, q⟩ := h
    have nd := scIsNet.nd
    have hr1 := hr
    have qf : netB d = false → ∀ {H'}, Same H H' → Q (.bl false) H' := fun e H' sm => by
      have := q H' sm
      rw [e] at this
      exact this
    refine ⟨_, (C8.pss_cut (ps_if (PW.pt (pw_or (pt_not (pt_val (pe_call GT hr1 (by rfl) gT kT bT .nil pass0 (pa_cons (pv 0) (pa_cons (pe_int) pa_nil))))) (pw_or1 (pt_not (pt_val (pe_callB (cr_all rfl) (by rfl) B.all (by decide +kernel) (pa_cons (pe_lc (own := [("part", 7)]) (g := gName 7) (tt := tYes) (te := tOp (fun x y H Q => ∃ a b, x = .ty a ∧ y = .ty b ∧ Q (.bl (decide (a = b))) H) (tCB (rTyp K) (tCons (tVar 7) tNil)) (tC (.ty "tuple")))  rfl nd (pi_tup (pv 0)) (blkOk_by (own := [("part", 7)]) (N := NIN) (sc := defScope sIsNet) (by decide +kernel)) (fun _ _ _ _ _ => pg_name (i := 7) nd rfl (.inl rfl)) (fun _ _ _ _ _ => pts_nil) (fun _ _ _ _ _ => by exact (pe_cmpR op_isTyB (pe_callTy call_type1 (by rfl) B.ty (by decide +kernel) (pa_cons (pv 7) pa_nil)) (pe_bltn (v := .ty "tuple") (by rfl) B.tu (by decide +kernel) rfl) (nomark _)))) pa_nil))))))) (pss_one (ps_ret (pe_bl))) pss_nil)
      (pss_cons (ps_asg (pv 0) (pg_tup (by rfl) (pgs_cons (pg_name (i := 1) nd rfl (.inl rfl)) (pgs_cons (pg_name (i := 2) nd rfl (.inr rfl)) (pgs_cons (pg_name (i := 3) nd rfl (.inl rfl)) (pgs_cons (pg_name (i := 4) nd rfl (.inl rfl)) pgs_nil))))))
      (pss_cons (ps_set (i := 5) nd rfl (.inr rfl) (pe_callB call_len_seq (by rfl) B.len PySem.boot_len (pa_cons (pv 1) pa_nil)))
      (C8.pss_cut (ps_if (PW.pt (pw_or (pt_cmpR op_ne (pe_callB call_len_seq (by rfl) B.len PySem.boot_len (pa_cons (pv 3) pa_nil)) (pv 5) (nomark _)) (pw_or1 (pt_not (pt_val (pe_callB (cr_all rfl) (by rfl) B.all (by decide +kernel) (pa_cons (pe_lc (own := [("first", 8)]) (g := gName 8) (tt := tYes) (te := tCall (spIsBelow K) [] E0 (tCons (tVar 8) (tCons (tC (.int 2)) tNil)))  rfl nd (pi_tup (pv 1)) (blkOk_by (own := [("first", 8)]) (N := NIN) (sc := defScope sIsNet) (by decide +kernel)) (fun _ _ _ _ _ => pg_name (i := 8) nd rfl (.inl rfl)) (fun _ _ _ _ _ => pts_nil) (fun _ _ _ _ _ => by exact (pe_call GL hr1 (by rfl) gL kL bL .nil pass0 (pa_cons (pv 8) (pa_cons (pe_int) pa_nil))))) pa_nil))))))) (pss_one (ps_ret (pe_bl))) pss_nil)
      (C8.pss_cut (ps_for PassesOwn.never rfl (EnT.pi_enT (by rfl) B.enumerate (pa_cons (pv 2) pa_nil)) (pg_tup (by rfl) (pgs_cons (pg_name (i := 6) nd rfl (.inr rfl)) (pgs_cons (pg_name (i := 7) nd rfl (.inl rfl)) pgs_nil))) (pss_one (ps_if (PW.pt (pw_or (pt_not (pt_val (pe_call GT hr1 (by rfl) gT kT bT .nil pass0 (pa_cons (pv 7) (pa_cons (pe_int) pa_nil))))) (pw_or1 (pt_not (pt_val (pe_callB (cr_all rfl) (by rfl) B.all (by decide +kernel) (pa_cons (pe_lc (own := [("side", 9)]) (g := gName 9) (tt := tYes) (te := tCall (spIsBelow K) [] E0 (tCons (tVar 9) (tCons (tOp rMulN (tC (.int 2)) (tOp rAddN (tOp rAddN (tC (.int 1)) (tVar 5)) (tVar 6))) tNil)))  rfl nd (pi_tup (pv 7)) (blkOk_by (own := [("side", 9)]) (N := NIN) (sc := defScope sIsNet) (by decide +kernel)) (fun _ _ _ _ _ => pg_name (i := 9) nd rfl (.inl rfl)) (fun _ _ _ _ _ => pts_nil) (fun _ _ _ _ _ => by exact (pe_call GL hr1 (by rfl) gL kL bL .nil pass0 (pa_cons (pv 9) (pa_cons (pe_op op_mulN (pe_int) (pe_op op_addN (pe_op op_addN (pe_int) (pv 5)) (pv 6))) pa_nil))))) pa_nil))))))) (pss_one (ps_ret (pe_bl))) pss_nil)))
      (pss_one (ps_ret (pe_callB (cr_all rfl) (by rfl) B.all (by decide +kernel) (pa_cons (pe_lc (own := [("literal", 10)]) (g := gName 10) (tt := tYes) (te := tCall (spIsBelow K) [] E0 (tCons (tVar 10) (tCons (tOp rMulN (tC (.int 2)) (tOp rAddN (tOp rAddN (tC (.int 1)) (tVar 5)) (tCB (rLen K) (tCons (tVar 2) tNil)))) tNil)))  rfl nd (pi_tup (pe_op op_catA (pv 3) (pv 4))) (blkOk_by (own := [("literal", 10)]) (N := NIN) (sc := defScope sIsNet) (by decide +kernel)) (fun _ _ _ _ _ => pg_name (i := 10) nd rfl (.inl rfl)) (fun _ _ _ _ _ => pts_nil) (fun _ _ _ _ _ => by exact (pe_call GL hr1 (by rfl) gL kL bL .nil pass0 (pa_cons (pv 10) (pa_cons (pe_op op_mulN (pe_int) (pe_op op_addN (pe_op op_addN (pe_int) (pv 5)) (pe_callB call_len_seq (by rfl) B.len PySem.boot_len (pa_cons (pv 2) pa_nil)))) pa_nil))))) pa_nil))))))))), ?_⟩
    refine ⟨fun σ H' => σ = [some v, none, none, none, none, none, none, none, none, none, none] ∧ Same H H' ∧ ∃ ds : List PyData, d = .tuple ds ∧ ds.length = 4 ∧ (ds.all fun d => decide (tyD d = "tuple")) = true, ?_, ?_⟩
    · refine ⟨_, rfl, v, d, 4, rfl, hd, _, rfl, ?_⟩
      cases ht : isT d 4 with
      | false =>
        refine iteT (qf ?_ (Same.refl H))
        unfold netB
        split
        · cases ht
        · rfl
      | true =>
        refine iteF ?_
        obtain ⟨ds, rfl, hl⟩ := isT_iff.mp ht
        obtain ⟨b, xs, rfl, sb, da⟩ := dp_tup hd
        have hnn : noLs ds = true := (gd_ok n _ hg).1
        refine ⟨_, rfl, b, rfl, ⟨_, sb⟩, fun D nD => ?_⟩
        refine lc_all (b := fun d => decide (tyD d = "tuple")) nD sb da hnn (by omega) (fun x d2 H1 R s1 dx hm r => ⟨_, rfl, _, _, rfl, ty_of dx, _, _, rfl, rfl, r⟩) (fun x => rfl) ?_
        refine ⟨D, _, rfl, SqL.of upd_same, _, rfl, ?_⟩
        rw [all_id]
        cases ha : (ds.all fun d => decide (tyD d = "tuple")) with
        | false => exact iteT (qf (netB_four hl ha) (Same.up nD))
        | true => exact iteF ⟨rfl, Same.up nD, ds, rfl, hl, ha⟩
    rintro σ H1 ⟨rfl, s1, ds, rfl, hl, hall⟩
    have hty : ∀ d ∈ ds, ∃ es, d = .tuple es := fun d hd => ty_tup (of_decide_eq_true (List.all_eq_true.mp hall d hd))
    match ds, hl with
    | [t0, t1, t2, t3], _ =>
      obtain ⟨fs, rfl⟩ := hty t0 (by simp)
      obtain ⟨as, rfl⟩ := hty t1 (by simp)
      obtain ⟨ns, rfl⟩ := hty t2 (by simp)
      obtain ⟨os, rfl⟩ := hty t3 (by simp)
      have hnn := (gd_ok n _ hg).1
      have lf := hlen _ rfl fs (by simp)
      have la := hlen _ rfl as (by simp)
      have ln := hlen _ rfl ns (by simp)
      have lo := hlen _ rfl os (by simp)
      obtain ⟨n, rfl⟩ : ∃ m, n = m + 2 := by
        match n, hg with
        | 0, h => cases h
        | 1, h => cases gd_mem h (List.mem_cons_self ..)
        | m + 2, _ => exact ⟨m, rfl⟩
      have g0 := gd_mem hg (d := .tuple fs) (by simp)
      have g1 := gd_mem hg (d := .tuple as) (by simp)
      have g2 := gd_mem hg (d := .tuple ns) (by simp)
      have g3 := gd_mem hg (d := .tuple os) (by simp)
      have n0 : noLs fs = true := (gd_ok _ _ g0).1
      have n1 : noLs as = true := (gd_ok _ _ g1).1
      have n2 : noLs ns = true := (gd_ok _ _ g2).1
      have n3 : noLs os = true := (gd_ok _ _ g3).1
      obtain ⟨b, xs, rfl, sb, da⟩ := dp_tup (dp_stay (same_tup s1) _ _ hd hnn)
      cases da with
      | cons a1 da => cases da with
      | cons a2 da => cases da with
      | cons a3 da => cases da with
      | cons a4 da =>
      cases da
      obtain ⟨b1, x1, rfl, s1', d1⟩ := dp_tup a1
      obtain ⟨b2, x2, rfl, s2', d2⟩ := dp_tup a2
      obtain ⟨b3, x3, rfl, s3', d3⟩ := dp_tup a3
      obtain ⟨b4, x4, rfl, s4', d4⟩ := dp_tup a4
      have k1 := dps_len d1
      have k2 := dps_len d2
      have k3 := dps_len d3
      have k4 := dps_len d4
      have hE : netB (.tuple [.tuple fs, .tuple as, .tuple ns, .tuple os]) = (decide (ns.length = fs.length) && (fs.all fun x => isI x 0 2) && andsB fs.length 0 as && ((ns ++ os).all fun x => isI x 0 ((2 * (1 + fs.length + as.length) : Nat) : Int))) := rfl
      refine ⟨_, rfl, b, _, rfl, sb, rfl, _, _, rfl, _, _, rfl, _, _, rfl, _, _, rfl, rfl, ?_⟩
      refine ⟨_, rfl, b1, _, rfl, .inr s1', ?_⟩
      refine ⟨fun σ H' => σ = [some (.ref b), some (.ref b1), some (.ref b2), some (.ref b3), some (.ref b4), some (iV fs.length), none, none, none, none, none] ∧ Same H1 H' ∧ ns.length = fs.length ∧ (fs.all fun x => isI x 0 2) = true, ?_, ?_⟩
      · refine ⟨_, rfl, b3, _, rfl, .inr s3', _, rfl, rfl, _, rfl, ?_⟩
        by_cases hnl : ns.length = fs.length
        · rw [show (!decide (V.int ((x3.length : Nat) : Int) = V.int ((x1.length : Nat) : Int))) = false by rw [decide_eq_true (by rw [k3, k1, hnl])]; rfl]
          refine iteF ?_
          refine ⟨_, rfl, b1, rfl, ⟨_, s1'⟩, fun D nD => ?_⟩
          refine lc_all (b := fun d => isI d 0 2) nD s1' d1 n0 (by omega) (fun x d2 H1 R s1 dx hm r => ⟨_, rfl, x, d2, 2, rfl, dx, r⟩) (fun x => rfl) ?_
          refine ⟨D, _, rfl, SqL.of upd_same, _, rfl, ?_⟩
          rw [all_id]
          cases ha : (fs.all fun d => isI d 0 2) with
          | false =>
            refine iteT (qf ?_ (s1.trans (Same.up nD)))
            rw [hE, ha, Bool.and_false, Bool.false_and, Bool.false_and]
          | true =>
            exact iteF ⟨by rw [k1]; rfl, Same.up nD, hnl, rfl⟩
        · rw [show (!decide (V.int ((x3.length : Nat) : Int) = V.int ((x1.length : Nat) : Int))) = true by rw [decide_eq_false (fun z => hnl (by have := V.int.inj z; omega))]; rfl]
          refine iteT (qf ?_ s1)
          rw [hE, decide_eq_false hnl, Bool.false_and, Bool.false_and, Bool.false_and]
      rintro σ H2 ⟨rfl, s2, hnl, hfb⟩
      have hE2 : netB (.tuple [.tuple fs, .tuple as, .tuple ns, .tuple os]) = (andsB fs.length 0 as && ((ns ++ os).all fun x => isI x 0 ((2 * (1 + fs.length + as.length) : Nat) : Int))) := by
        rw [hE, decide_eq_true hnl, hfb, Bool.true_and, Bool.true_and]
      refine ⟨fun σ H' => ∃ y6 y7, σ = [some (.ref b), some (.ref b1), some (.ref b2), some (.ref b3), some (.ref b4), some (iV fs.length), y6, y7, none, none, none] ∧ Same H2 H' ∧ andsB fs.length 0 as = true, ?_, ?_⟩
      · refine ⟨_, rfl, b2, _, rfl, same_tup s2 _ _ s2', ?_⟩
        refine EnT.for_enT (xs := x2) (fun i σ H' => ∃ y6 y7, σ = [some (.ref b), some (.ref b1), some (.ref b2), some (.ref b3), some (.ref b4), some (iV fs.length), y6, y7, none, none, none] ∧ Same H2 H' ∧ andsB fs.length 0 as = andsB fs.length i (as.drop i)) ⟨_, _, rfl, Same.refl _, rfl⟩ (fun i σ H' _ h => ?_) (fun i x T σ H' hx h nT => ?_) (fun σ H' h => ?_)
        · obtain ⟨_, _, rfl, s, _⟩ := h
          exact same_tup (s2.trans s) _ _ s2'
        · obtain ⟨_, _, rfl, s, e⟩ := h
          obtain ⟨di, hdi, _⟩ := dps_get d2 hx
          have s' : Same H2 (upd H' T (.tup [.int (i : Nat), x])) := s.trans (same_new nT)
          obtain ⟨di2, hdi2, dx⟩ := dps_get (dps_stay (same_tup (s2.trans s')) _ _ d2 n1) hx
          rw [hdi] at hdi2
          cases hdi2
          rw [andsB_drop hdi] at e
          have hm := List.mem_of_getElem? hdi
          have hil := (List.getElem?_eq_some_iff.mp hdi).1
          have hgi := gd_mem g1 hm
          refine ⟨T, _, rfl, SqT.of upd_same, rfl, _, _, rfl, _, _, rfl, rfl, ?_⟩
          have fls : andB ((2 * (1 + fs.length + i) : Nat) : Int) di = false → ∀ {H3}, Same H2 H3 → Q (.bl false) H3 := fun z H3 s3 => qf (by rw [hE2, e, z, Bool.false_and, Bool.false_and]) ((s1.trans s2).trans s3)
          refine ⟨_, rfl, x, di, 2, rfl, dx, _, rfl, ?_⟩
          cases ht : isT di 2 with
          | false =>
            refine iteT (fls ?_ s')
            unfold andB
            split
            · have : decide (_ = 2) = false := ht
              rw [this, Bool.false_and]
            · rfl
          | true =>
            refine iteF ?_
            obtain ⟨es, rfl, hl2⟩ := isT_iff.mp ht
            obtain ⟨bb, xx, rfl, sbb, dbb⟩ := dp_tup dx
            have nes : noLs es = true := noLs_mem n1 _ hm
            refine ⟨_, rfl, bb, rfl, ⟨_, sbb⟩, fun D nD => ?_⟩
            refine lc_all (b := fun d => isI d 0 ((2 * (1 + fs.length + i) : Nat) : Int)) nD sbb dbb nes (by omega) (fun x d2 H1 R s1 dx hm r => ⟨_, rfl, _, rfl, 1, fs.length, rfl, rfl, _, rfl, _, i, rfl, rfl, 2, _, rfl, rfl, by decide, x, d2, _, rfl, dx, r⟩) (fun x => rfl) ?_
            refine ⟨D, _, rfl, SqL.of upd_same, _, rfl, ?_⟩
            rw [all_id]
            have eA : andB ((2 * (1 + fs.length + i) : Nat) : Int) (.tuple es) = es.all fun d => isI d 0 ((2 * (1 + fs.length + i) : Nat) : Int) := by
              show (decide (es.length = 2) && _) = _
              rw [decide_eq_true hl2, Bool.true_and]
            rw [eA] at e
            cases ha : (es.all fun d => isI d 0 ((2 * (1 + fs.length + i) : Nat) : Int)) with
            | false => exact iteT (fls (by rw [eA, ha]) (s'.trans (Same.up nD)))
            | true =>
              rw [ha, Bool.true_and] at e
              exact iteF ⟨_, _, rfl, s'.trans (Same.up nD), e⟩
        · obtain ⟨_, _, rfl, s, e⟩ := h
          refine ⟨_, _, rfl, s, ?_⟩
          rw [e, k2, List.drop_length]
          rfl
      rintro σ H3 ⟨y6, y7, rfl, s3, hab⟩
      have hE3 : netB (.tuple [.tuple fs, .tuple as, .tuple ns, .tuple os]) = ((ns ++ os).all fun x => isI x 0 ((2 * (1 + fs.length + as.length) : Nat) : Int)) := by
        rw [hE2, hab, Bool.true_and]
      have s23 := s2.trans s3
      refine ⟨_, rfl, _, rfl, catA_read (same_tup s23 _ _ s3') (same_tup s23 _ _ s4') (line200 (by omega)) fun cA H4 s4 _ sc => ?_⟩
      have s24 := s23.trans s4
      have dcat : DpAll K H4 (x3 ++ x4) (ns ++ os) := dps_app (dps_stay (same_tup s24) _ _ d3 n2) (dps_stay (same_tup s24) _ _ d4 n3)
      refine ⟨cA, rfl, ⟨_, sc⟩, fun D nD => ?_⟩
      refine lc_all (b := fun d => isI d 0 ((2 * (1 + fs.length + as.length) : Nat) : Int)) nD sc dcat (by rw [noLs_app, n2, n3]; rfl) (by rw [List.length_append]; omega) (fun x d2' H1 R s1 dx hm r => ⟨_, rfl, _, rfl, 1, fs.length, rfl, rfl, _, rfl, b2, _, rfl, .inr (same_tup (s24.trans s1) _ _ s2'), _, as.length, rfl, by rw [k2], 2, _, rfl, rfl, by decide, x, d2', _, rfl, dx, r⟩) (fun x => rfl) ?_
      refine ⟨D, _, rfl, SqL.of upd_same, ?_⟩
      rw [all_id, ← hE3]
      exact q _ ((s1.trans s24).trans (Same.up nD))
end
end C1

/-! The law's tests. -/
namespace C1
open PySem PySem.Spec PyProof.Rows L2 SX
abbrev sLawIsNumber : Stmt := topS 21
abbrev sLawIsNet : Stmt := topS 22
theorem scLawIsNumber : FnScope ["thing", "most"] ["thing", "most"] (defScope sLawIsNumber) := ⟨rfl, rfl, rfl, by decide +kernel, rfl, by decide +kernel, by decide +kernel⟩
theorem scLawIsNet : FnScope ["thing", "firsts", "ands", "nexts", "outs", "at", "many", "part", "bit"] ["thing"] (defScope sLawIsNet) := ⟨rfl, rfl, rfl, by decide +kernel, rfl, by decide +kernel, by decide +kernel⟩
abbrev NLN : List Str := ["thing", "firsts", "ands", "nexts", "outs", "at", "many", "part", "bit"]
theorem iteN {c A B : Prop} [Decidable c] (hc : ¬ c) (h : A) : if (!decide c) = true then A else B := by
  rw [decide_eq_false hc]
  exact iteT h
section
variable {P : Program} {w : World} {K : PySem.W.Frag} {mg : Str → Option Value} {base : Heap} {H H' : Hp}
theorem ne_nilR {D : Addr} {zs : List V} {F : List PyData} {R : VK} (e : H D = some (.lst zs)) (dz : DpAll K H zs F) (hn : noLs F = true) (hF : LayAll F) (q : ∀ z, H z = none → R (.bl (!F.isEmpty)) (upd H z (.lst []))) :
    (0 ≤ sizeLine) ∧ ∀ z, H z = none → rNeD K (.ref D) (.ref z) (upd H z (.lst [])) R := eq_nil (eq := false) e dz hn hF q
def spIsN (K : PySem.W.Frag) : Sp := fun vs H Q _ => ∃ (v : V) (d : PyData) (n : Int), vs = [v, .int n] ∧ Dp K H v d ∧ noL d = true ∧ Q (.bl (isI d 0 n)) H
theorem ok_isN {f : Addr} {fd : FuncData} (F : Fun K "_law_is_number" "_law_is_number" sLawIsNumber f fd) (B : Gp mg) : FnOk P w K mg base CX0 1 f fd ["thing", "most"] (spIsN K) := by
  refine F.ok scLawIsNumber (fun vs H Q E h => ?_) (fun cdv A outer s H vs Q E hr h => ?_)
  · obtain ⟨v, d, n, rfl, _⟩ := h
    rfl
  · obtain ⟨v, d, n, rfl, hd, hn, q⟩ := h
    refine ⟨_, (pss_one (ps_ret (pe_and (pe_callB call_isi (by rfl) B.isi (by decide +kernel) (pa_cons (pv 0) (pa_cons (pe_bltn (v := .ty "int") (by rfl) B.it (by decide +kernel) rfl) pa_nil))) (pe_and (pe_not (pe_callB call_isi (by rfl) B.isi (by decide +kernel) (pa_cons (pv 0) (pa_cons (pe_bltn (v := .ty "bool") (by rfl) B.bo (by decide +kernel) rfl) pa_nil)))) (pe_one (pe_chain op_le op_lt (pe_int) (pv 0) (pv 1))))))), ?_⟩
    refine ⟨_, rfl, v, _, _, _, _, rfl, .ty "int", tyx_of hd hn, kit_ty (kit_int d hn), ?_⟩
    refine ⟨_, rfl, ?_⟩
    cases d with
    | list _ => cases hn
    | dict _ => cases hn
    | int i =>
      cases hd
      refine iteT ?_
      refine ⟨_, rfl, _, _, _, _, _, rfl, .ty "bool", tyx_of (K := K) (H := H) (.int i) rfl, kit_ty (kit_one "bool" (.inl rfl) (.int i) rfl), ?_⟩
      refine ⟨_, rfl, _, rfl, iteT ?_⟩
      refine ⟨_, rfl, _, _, rfl, rfl, _, rfl, ite2 (fun a1 => ?_) (fun a1 => ?_)⟩
      · refine ⟨_, rfl, _, _, rfl, rfl, ?_⟩
        have e : isI (.int i) 0 n = decide (i < n) := by
          show (decide (0 ≤ i) && decide (i < n)) = _
          rw [a1, Bool.true_and]
        rw [e] at q
        exact q
      · have e : isI (.int i) 0 n = false := by
          show (decide (0 ≤ i) && decide (i < n)) = _
          rw [Bool.eq_false_iff.mpr a1, Bool.false_and]
        rw [e] at q
        exact q
    | bool b =>
      cases hd
      refine iteT ?_
      refine ⟨_, rfl, _, _, _, _, _, rfl, .ty "bool", tyx_of (K := K) (H := H) (.bl b) rfl, kit_ty (kit_one "bool" (.inl rfl) (.bool b) rfl), ?_⟩
      exact ⟨_, rfl, _, rfl, iteF q⟩
    | none => exact iteF q
    | str _ => exact iteF q
    | tuple _ => exact iteF q
theorem ok_lNet {f fN : Addr} {fd fdN : FuncData} (F : Fun K "_law_is_net" "_law_is_net" sLawIsNet f fd) (B : Gp mg) (GN : FnOk P w K mg base CX0 1 fN fdN ["thing", "most"] (spIsN K)) (kN : PySem.W.keepIn K (.ref fN) = true) (bN : Binds K fdN ["thing", "most"] []) (gN : mg "_law_is_number" = some (.ref fN)) : FnOk P w K mg base CX0 2 f fd ["thing"] (spIsNet K) := by
  refine F.ok scLawIsNet (fun vs H Q E h => ?_) (fun cdv A outer s H vs Q E hr h => ?_)
  · obtain ⟨v, d, n, rfl, _⟩ := h
    rfl
  · obtain ⟨v, d, n, rfl, hd, hg, hn, hlen, q⟩ := h
    have nd := scLawIsNet.nd
    have hr1 := hr
    have hu := hr.units
    have qf : netB d = false → ∀ {H'}, Same H H' → Q (.bl false) H' := fun e H' sm => by
      have := q H' sm
      rw [e] at this
      exact this
    have hnl := (gd_ok n d hg).1
    refine ⟨_, (C8.pss_cut (ps_if (PW.pt (pw_or (pt_not (pt_val (pe_callB call_isi (by rfl) B.isi (by decide +kernel) (pa_cons (pv 0) (pa_cons (pe_bltn (v := .ty "tuple") (by rfl) B.tu (by decide +kernel) rfl) pa_nil))))) (pw_or (pt_cmpR op_ne (pe_callB call_len_seq (by rfl) B.len PySem.boot_len (pa_cons (pv 0) pa_nil)) (pe_int) (nomark _)) (pw_or1 (pt_cmpR (op_neD hu) (pe_lc (own := [("part", 7)]) (g := gName 7) (tt := tNot (tB (tCB (rIsi K) (tCons (tVar 7) (tCons (tC (.ty "tuple")) tNil))))) (te := tVar 7)  rfl nd (pi_tup (pv 0)) (blkOk_by (own := [("part", 7)]) (N := NLN) (sc := defScope sLawIsNet) (by decide +kernel)) (fun _ _ _ _ _ => pg_name (i := 7) nd rfl (.inl rfl)) (fun _ _ _ _ _ => pts_one (pt_not (pt_val (pe_callB call_isi (by rfl) B.isi (by decide +kernel) (pa_cons (pv 7) (pa_cons (pe_bltn (v := .ty "tuple") (by rfl) B.tu (by decide +kernel) rfl) pa_nil)))))) (fun _ _ _ _ _ => by exact (pv 7))) (pe_lst pa_nil) (nomark _)))))) (pss_one (ps_ret (pe_bl))) pss_nil)
      (pss_cons (ps_asg (pv 0) (pg_tup (by rfl) (pgs_cons (pg_name (i := 1) nd rfl (.inr rfl)) (pgs_cons (pg_name (i := 2) nd rfl (.inl rfl)) (pgs_cons (pg_name (i := 3) nd rfl (.inl rfl)) (pgs_cons (pg_name (i := 4) nd rfl (.inl rfl)) pgs_nil))))))
      (pss_cons (ps_if (pt_cmpR (op_neD hu) (pe_lc (own := [("bit", 8)]) (g := gName 8) (tt := tNot (tB (tCall (spIsN K) [] E0 (tCons (tVar 8) (tCons (tC (.int 2)) tNil))))) (te := tVar 8)  rfl nd (pi_tup (pv 1)) (blkOk_by (own := [("bit", 8)]) (N := NLN) (sc := defScope sLawIsNet) (by decide +kernel)) (fun _ _ _ _ _ => pg_name (i := 8) nd rfl (.inl rfl)) (fun _ _ _ _ _ => pts_one (pt_not (pt_val (pe_call GN hr1 (by rfl) gN kN bN .nil pass0 (pa_cons (pv 8) (pa_cons (pe_int) pa_nil)))))) (fun _ _ _ _ _ => by exact (pv 8))) (pe_lst pa_nil) (nomark _)) (pss_one (ps_ret (pe_bl))) pss_nil)
      (C8.pss_cut (ps_for PassesOwn.never rfl (pi_range1 (by rfl) B.range (pa_cons (pe_callB call_len_seq (by rfl) B.len PySem.boot_len (pa_cons (pv 2) pa_nil)) pa_nil)) (pg_name (i := 5) nd rfl (.inr rfl)) (C8.pss_cut (ps_if (PW.pt (pw_or (pt_not (pt_val (pe_callB call_isi (by rfl) B.isi (by decide +kernel) (pa_cons (pe_ix ix_tup (pv 2) (pv 5) (fun _ _ => rfl)) (pa_cons (pe_bltn (v := .ty "tuple") (by rfl) B.tu (by decide +kernel) rfl) pa_nil))))) (pw_or1 (pt_cmpR op_ne (pe_callB call_len_seq (by rfl) B.len PySem.boot_len (pa_cons (pe_ix ix_tup (pv 2) (pv 5) (fun _ _ => rfl)) pa_nil)) (pe_int) (nomark _))))) (pss_one (ps_ret (pe_bl))) pss_nil)
      (pss_one (ps_if (pt_cmpR (op_neD hu) (pe_lc (own := [("part", 7)]) (g := gName 7) (tt := tNot (tB (tCall (spIsN K) [] E0 (tCons (tVar 7) (tCons (tOp rMulN (tC (.int 2)) (tOp rAddN (tOp rAddN (tC (.int 1)) (tCB (rLen K) (tCons (tVar 1) tNil))) (tVar 5))) tNil))))) (te := tVar 7)  rfl nd (pi_tup (pe_ix ix_tup (pv 2) (pv 5) (fun _ _ => rfl))) (blkOk_by (own := [("part", 7)]) (N := NLN) (sc := defScope sLawIsNet) (by decide +kernel)) (fun _ _ _ _ _ => pg_name (i := 7) nd rfl (.inl rfl)) (fun _ _ _ _ _ => pts_one (pt_not (pt_val (pe_call GN hr1 (by rfl) gN kN bN .nil pass0 (pa_cons (pv 7) (pa_cons (pe_op op_mulN (pe_int) (pe_op op_addN (pe_op op_addN (pe_int) (pe_callB call_len_seq (by rfl) B.len PySem.boot_len (pa_cons (pv 1) pa_nil))) (pv 5))) pa_nil)))))) (fun _ _ _ _ _ => by exact (pv 7))) (pe_lst pa_nil) (nomark _)) (pss_one (ps_ret (pe_bl))) pss_nil))))
      (pss_cons (ps_set (i := 6) nd rfl (.inr rfl) (pe_op op_mulN (pe_int) (pe_op op_addN (pe_op op_addN (pe_int) (pe_callB call_len_seq (by rfl) B.len PySem.boot_len (pa_cons (pv 1) pa_nil))) (pe_callB call_len_seq (by rfl) B.len PySem.boot_len (pa_cons (pv 2) pa_nil)))))
      (pss_one (ps_ret (pe_and (pe_cmpR op_eq (pe_callB call_len_seq (by rfl) B.len PySem.boot_len (pa_cons (pv 3) pa_nil)) (pe_callB call_len_seq (by rfl) B.len PySem.boot_len (pa_cons (pv 1) pa_nil)) (nomark _)) (pe_one (pe_cmpR (op_eqD hu) (pe_lc (own := [("part", 7)]) (g := gName 7) (tt := tNot (tB (tCall (spIsN K) [] E0 (tCons (tVar 7) (tCons (tVar 6) tNil))))) (te := tVar 7)  rfl nd (pi_tup (pe_op op_catA (pv 3) (pv 4))) (blkOk_by (own := [("part", 7)]) (N := NLN) (sc := defScope sLawIsNet) (by decide +kernel)) (fun _ _ _ _ _ => pg_name (i := 7) nd rfl (.inl rfl)) (fun _ _ _ _ _ => pts_one (pt_not (pt_val (pe_call GN hr1 (by rfl) gN kN bN .nil pass0 (pa_cons (pv 7) (pa_cons (pv 6) pa_nil)))))) (fun _ _ _ _ _ => by exact (pv 7))) (pe_lst pa_nil) (nomark _))))))))))), ?_⟩
    refine ⟨fun σ H' => σ = [some v, none, none, none, none, none, none, none, none] ∧ Same H H' ∧ ∃ ds : List PyData, d = .tuple ds ∧ ds.length = 4 ∧ (ds.all fun d => decide (tyD d = "tuple")) = true, ?_, ?_⟩
    · refine ⟨_, rfl, v, _, _, _, _, rfl, .ty "tuple", tyx_of hd hnl, kit_ty (kit_one "tuple" (.inr (.inl rfl)) d hnl), _, rfl, ?_⟩
      cases d with
      | tuple ds =>
        refine iteNS rfl ?_
        obtain ⟨b, xs, rfl, sb, da⟩ := dp_tup hd
        have lda := dps_len da
        have hnn : noLs ds = true := hnl
        obtain ⟨n, rfl⟩ : ∃ m, n = m + 1 := by
          cases n with
          | zero => cases hg
          | succ m => exact ⟨m, rfl⟩
        refine ⟨_, rfl, _, _, rfl, .inr sb, rfl, _, rfl, ?_⟩
        by_cases hl : ds.length = 4
        · refine iteNS (by rw [lda, hl]; rfl) ?_
          refine ⟨_, rfl, b, rfl, ⟨_, sb⟩, fun D nD => ?_⟩
          refine lc_flt (b := fun d => decide (tyD d = "tuple")) nD sb da hnn (by omega) (fun x d2 H1 R s1 dx hm r => ⟨_, rfl, x, _, _, _, _, rfl, .ty "tuple", tyx_of dx (noLs_mem hnn _ hm), kit_ty (kit_one "tuple" (.inr (.inl rfl)) d2 (noLs_mem hnn _ hm)), _, rfl, r _ (Same.refl _)⟩) (fun x => ⟨rfl, rfl⟩) fun H1 zs s1 e dz => ?_
          refine ne_nilR e dz (filt_noL hnn _) (gd_lay (fun d hd => gd_mem hg hd) (by omega)) fun z nz => ⟨_, rfl, ?_⟩
          rw [filt_empty]
          cases ha : (ds.all fun d => decide (tyD d = "tuple")) with
          | false => exact iteT (qf (netB_four hl ha) (s1.trans (Same.up nz)))
          | true => exact iteF ⟨rfl, s1.trans (Same.up nz), ds, rfl, hl, ha⟩
        · refine iteN (fun z => hl (by have := V.int.inj z; omega)) (qf ?_ (Same.refl H))
          unfold netB
          split
          · rename_i e
            cases e
            exact absurd rfl hl
          · rfl
      | _ => exact iteN (fun e => by simp [tyD] at e) (qf rfl (Same.refl H))
    rintro σ H1 ⟨rfl, s1, ds, rfl, hl, hall⟩
    have hty : ∀ d ∈ ds, ∃ es, d = .tuple es := fun d hd => ty_tup (of_decide_eq_true (List.all_eq_true.mp hall d hd))
    match ds, hl with
    | [t0, t1, t2, t3], _ =>
      obtain ⟨fs, rfl⟩ := hty t0 (by simp)
      obtain ⟨as, rfl⟩ := hty t1 (by simp)
      obtain ⟨ns, rfl⟩ := hty t2 (by simp)
      obtain ⟨os, rfl⟩ := hty t3 (by simp)
      have hnn := (gd_ok n _ hg).1
      have lf := hlen _ rfl fs (by simp)
      have la := hlen _ rfl as (by simp)
      have ln := hlen _ rfl ns (by simp)
      have lo := hlen _ rfl os (by simp)
      obtain ⟨n, rfl⟩ : ∃ m, n = m + 2 := by
        match n, hg with
        | 0, h => cases h
        | 1, h => cases gd_mem h (List.mem_cons_self ..)
        | m + 2, _ => exact ⟨m, rfl⟩
      have g0 := gd_mem hg (d := .tuple fs) (by simp)
      have g1 := gd_mem hg (d := .tuple as) (by simp)
      have g2 := gd_mem hg (d := .tuple ns) (by simp)
      have g3 := gd_mem hg (d := .tuple os) (by simp)
      have n0 : noLs fs = true := (gd_ok _ _ g0).1
      have n1 : noLs as = true := (gd_ok _ _ g1).1
      have n2 : noLs ns = true := (gd_ok _ _ g2).1
      have n3 : noLs os = true := (gd_ok _ _ g3).1
      obtain ⟨b, xs, rfl, sb, da⟩ := dp_tup (dp_stay (same_tup s1) _ _ hd hnn)
      cases da with
      | cons a1 da => cases da with
      | cons a2 da => cases da with
      | cons a3 da => cases da with
      | cons a4 da =>
      cases da
      obtain ⟨b1, x1, rfl, s1', d1⟩ := dp_tup a1
      obtain ⟨b2, x2, rfl, s2', d2⟩ := dp_tup a2
      obtain ⟨b3, x3, rfl, s3', d3⟩ := dp_tup a3
      obtain ⟨b4, x4, rfl, s4', d4⟩ := dp_tup a4
      have k1 := dps_len d1
      have k2 := dps_len d2
      have k3 := dps_len d3
      have k4 := dps_len d4
      have hE : netB (.tuple [.tuple fs, .tuple as, .tuple ns, .tuple os]) = (decide (ns.length = fs.length) && (fs.all fun x => isI x 0 2) && andsB fs.length 0 as && ((ns ++ os).all fun x => isI x 0 ((2 * (1 + fs.length + as.length) : Nat) : Int))) := rfl
      refine ⟨_, rfl, b, _, rfl, sb, rfl, _, _, rfl, _, _, rfl, _, _, rfl, _, _, rfl, rfl, ?_⟩
      refine ⟨_, rfl, b1, rfl, ⟨_, s1'⟩, fun D nD => ?_⟩
      refine lc_flt (b := fun d => isI d 0 2) nD s1' d1 n0 (by omega) (fun x d2 H1 R s1 dx hm r => ⟨_, rfl, x, d2, 2, rfl, dx, noLs_mem n0 _ hm, _, rfl, r _ (Same.refl _)⟩) (fun x => ⟨rfl, rfl⟩) fun H2 zs s2 e dz => ?_
      refine ne_nilR e dz (filt_noL n0 _) (gd_lay (fun d hd => gd_mem g0 hd) (by omega)) fun z nz => ⟨_, rfl, ?_⟩
      rw [filt_empty]
      have s2z := s2.trans (Same.up (o := .lst []) nz)
      generalize upd H2 z (.lst []) = H3 at s2z
      cases hfb : (fs.all fun d => isI d 0 2) with
      | false =>
        refine iteT (qf ?_ (s1.trans s2z))
        rw [hE, hfb, Bool.and_false, Bool.false_and, Bool.false_and]
      | true =>
      refine iteF ?_
      have hE1 : netB (.tuple [.tuple fs, .tuple as, .tuple ns, .tuple os]) = (decide (ns.length = fs.length) && andsB fs.length 0 as && ((ns ++ os).all fun x => isI x 0 ((2 * (1 + fs.length + as.length) : Nat) : Int))) := by
        rw [hE, hfb, Bool.and_true]
      refine ⟨fun σ H' => ∃ y5, σ = [some (.ref b), some (.ref b1), some (.ref b2), some (.ref b3), some (.ref b4), y5, none, none, none] ∧ Same H1 H' ∧ andsB fs.length 0 as = true, ?_, ?_⟩
      · refine ⟨_, rfl, b2, _, rfl, .inr (same_tup s2z _ _ s2'), ?_⟩
        refine ⟨_, rfl, by omega, by omega, for_range (fun i σ H' => ∃ y5, σ = [some (.ref b), some (.ref b1), some (.ref b2), some (.ref b3), some (.ref b4), y5, none, none, none] ∧ Same H1 H' ∧ andsB fs.length 0 as = andsB fs.length i (as.drop i)) ⟨_, rfl, s2z, rfl⟩ (fun i σ H' hi h => ?_) (fun σ H' h => ?_)⟩
        · obtain ⟨_, rfl, s, e⟩ := h
          have hil : i < as.length := by omega
          obtain ⟨x, hx⟩ : ∃ x, x2[i]? = some x := ⟨_, List.getElem?_eq_getElem (by omega)⟩
          obtain ⟨di, hdi, dx⟩ := dps_get (dps_stay (same_tup s) _ _ d2 n1) hx
          rw [andsB_drop hdi] at e
          have hm := List.mem_of_getElem? hdi
          have gi := gd_mem g1 hm
          have ni := noLs_mem n1 _ hm
          have fls : andB ((2 * (1 + fs.length + i) : Nat) : Int) di = false → ∀ {H3}, Same H1 H3 → Q (.bl false) H3 := fun z H3 s3 => qf (by rw [hE1, e, z, Bool.false_and, Bool.and_false, Bool.false_and]) (s1.trans s3)
          rw [Int.zero_add]
          refine ⟨fun σ H4 => σ = [some (.ref b), some (.ref b1), some (.ref b2), some (.ref b3), some (.ref b4), some (iV i), none, none, none] ∧ H4 = H' ∧ ∃ es : List PyData, di = .tuple es ∧ es.length = 2, ?_, ?_⟩
          · refine ⟨_, rfl, _, rfl, b2, _, _, _, rfl, rfl, same_tup s _ _ s2', atI_nat hx, x, _, _, _, _, rfl, .ty "tuple", tyx_of dx ni, kit_ty (kit_one "tuple" (.inr (.inl rfl)) di ni), _, rfl, ?_⟩
            cases di with
            | tuple es =>
              refine iteNS rfl ?_
              obtain ⟨bb, xx, rfl, sbb, dbb⟩ := dp_tup dx
              have lbb := dps_len dbb
              refine ⟨_, rfl, _, rfl, b2, _, _, _, rfl, rfl, same_tup s _ _ s2', atI_nat hx, bb, _, rfl, .inr sbb, rfl, _, rfl, ?_⟩
              by_cases hl2 : es.length = 2
              · exact iteNS (by rw [lbb, hl2]; rfl) ⟨rfl, rfl, es, rfl, hl2⟩
              · refine iteN (fun z => hl2 (by have := V.int.inj z; omega)) (fls ?_ s)
                show (decide (es.length = 2) && _) = _
                rw [decide_eq_false hl2, Bool.false_and]
            | _ => exact iteN (fun e => by simp [tyD] at e) (fls rfl s)
          rintro σ H4 ⟨rfl, rfl, es, rfl, hl2⟩
          obtain ⟨bb, xx, rfl, sbb, dbb⟩ := dp_tup dx
          have nes : noLs es = true := ni
          refine ⟨_, rfl, _, rfl, b2, _, _, _, rfl, rfl, same_tup s _ _ s2', atI_nat hx, bb, rfl, ⟨_, sbb⟩, fun D nD => ?_⟩
          refine lc_flt (b := fun d => isI d 0 ((2 * (1 + fs.length + i) : Nat) : Int)) nD sbb dbb nes (by omega) (fun x d2 H5 R s5 dx hm r => ⟨_, rfl, _, rfl, b1, _, rfl, .inr (same_tup (s.trans s5) _ _ s1'), 1, fs.length, rfl, by rw [k1], _, rfl, _, i, rfl, rfl, 2, _, rfl, rfl, by decide, x, d2, _, rfl, dx, noLs_mem nes _ hm, _, rfl, r _ (Same.refl _)⟩) (fun x => ⟨rfl, rfl⟩) fun H5 zs s5 ez dz => ?_
          obtain ⟨n', hn', ges⟩ : ∃ n', n' ≤ 4 ∧ ∀ d ∈ es, gd n' d = true := by
            cases n with
            | zero => cases gi
            | succ m => exact ⟨m, by omega, fun d hd => gd_mem gi hd⟩
          refine ne_nilR ez dz (filt_noL nes _) (gd_lay ges (by omega)) fun z nz => ⟨_, rfl, ?_⟩
          rw [filt_empty]
          have eA : andB ((2 * (1 + fs.length + i) : Nat) : Int) (.tuple es) = es.all fun d => isI d 0 ((2 * (1 + fs.length + i) : Nat) : Int) := by
            show (decide (es.length = 2) && _) = _
            rw [decide_eq_true hl2, Bool.true_and]
          have s6 := s.trans (s5.trans (Same.up (o := .lst []) nz))
          rw [eA] at e
          cases ha : (es.all fun d => isI d 0 ((2 * (1 + fs.length + i) : Nat) : Int)) with
          | false => exact iteT (fls (by rw [eA, ha]) s6)
          | true =>
            rw [ha, Bool.true_and] at e
            exact iteF ⟨_, rfl, s6, e⟩
        · obtain ⟨_, rfl, s, e⟩ := h
          refine ⟨_, rfl, s, ?_⟩
          rw [e, k2, Int.toNat_natCast, List.drop_length]
          rfl
      rintro σ H4 ⟨y5, rfl, s4, hab⟩
      have hE2 : netB (.tuple [.tuple fs, .tuple as, .tuple ns, .tuple os]) = (decide (ns.length = fs.length) && ((ns ++ os).all fun x => isI x 0 ((2 * (1 + fs.length + as.length) : Nat) : Int))) := by
        rw [hE1, hab, Bool.and_true]
      refine ⟨_, rfl, b1, _, rfl, .inr (same_tup s4 _ _ s1'), 1, fs.length, rfl, by rw [k1], _, rfl, b2, _, rfl, .inr (same_tup s4 _ _ s2'), _, as.length, rfl, by rw [k2], 2, _, rfl, rfl, by decide, ?_⟩
      refine ⟨_, rfl, b3, _, rfl, .inr (same_tup s4 _ _ s3'), _, rfl, b1, _, rfl, .inr (same_tup s4 _ _ s1'), rfl, ?_⟩
      refine ⟨_, rfl, ?_⟩
      by_cases hnl2 : ns.length = fs.length
      · rw [show decide (V.int ((x3.length : Nat) : Int) = V.int ((x1.length : Nat) : Int)) = true from decide_eq_true (by rw [k3, k1, hnl2])]
        refine iteT ?_
        rw [decide_eq_true hnl2, Bool.true_and] at hE2
        refine ⟨_, rfl, _, rfl, catA_read (same_tup s4 _ _ s3') (same_tup s4 _ _ s4') (line200 (by omega)) fun cA H5 s5 _ sc => ?_⟩
        have s45 := s4.trans s5
        have dcat : DpAll K H5 (x3 ++ x4) (ns ++ os) := dps_app (dps_stay (same_tup s45) _ _ d3 n2) (dps_stay (same_tup s45) _ _ d4 n3)
        have ncat : noLs (ns ++ os) = true := by rw [noLs_app, n2, n3]; rfl
        refine ⟨cA, rfl, ⟨_, sc⟩, fun D nD => ?_⟩
        refine lc_flt (b := fun d => isI d 0 ((2 * (1 + fs.length + as.length) : Nat) : Int)) nD sc dcat ncat (by rw [List.length_append]; omega) (fun x d2 H1 R s1 dx hm r => ⟨_, rfl, _, rfl, x, d2, _, rfl, dx, noLs_mem ncat _ hm, _, rfl, r _ (Same.refl _)⟩) (fun x => ⟨rfl, rfl⟩) fun H6 zs s6 ez dz => ?_
        refine eq_nil (eq := true) ez dz (filt_noL ncat _) (gd_lay (fun d hd => (List.mem_append.mp hd).elim (gd_mem g2) (gd_mem g3)) (by omega)) fun z nz => ?_
        rw [filt_empty]
        have := q _ (s1.trans ((s45.trans s6).trans (Same.up (o := .lst []) nz)))
        rw [hE2] at this
        exact this
      · rw [show decide (V.int ((x3.length : Nat) : Int) = V.int ((x1.length : Nat) : Int)) = false from decide_eq_false (fun z => hnl2 (by have := V.int.inj z; omega))]
        refine iteF (qf ?_ (s1.trans s4))
        rw [hE2, decide_eq_false hnl2, Bool.false_and]
end
end C1

/-! The law's draws of nets. -/
namespace C1
open PySem PySem.Spec PyProof.Rows L2 SX
abbrev sLawPick : Stmt := topS 18
abbrev sLawLiteral : Stmt := topS 19
abbrev sLawNet : Stmt := topS 20
theorem scLawPick : FnScope ["w", "rows"] ["w", "rows"] (defScope sLawPick) := ⟨rfl, rfl, rfl, by decide +kernel, rfl, by decide +kernel, by decide +kernel⟩
theorem scLawLiteral : FnScope ["w", "many"] ["w", "many"] (defScope sLawLiteral) := ⟨rfl, rfl, rfl, by decide +kernel, rfl, by decide +kernel, by decide +kernel⟩
theorem scLawNet : FnScope ["w", "latches", "ands", "outs", "firsts", "pairs", "k", "one", "many", "nexts", "told"] ["w", "latches", "ands", "outs"] (defScope sLawNet) := ⟨rfl, rfl, rfl, by decide +kernel, rfl, by decide +kernel, by decide +kernel⟩
abbrev NLD : List Str := ["w", "latches", "ands", "outs", "firsts", "pairs", "k", "one", "many", "nexts", "told"]
section
variable {P : Program} {w : World} {K : PySem.W.Frag} {mg : Str → Option Value} {base : Heap} {H H' : Hp}
theorem lc_draw {a l D : Addr} {ds : List Int} {lo : Int} {n : Nat} {te : TE} {σ : L2.St} {wv : List Nat} {j : Nat} {Pk : Nat → Prop} {Qd : Hp → Prop} (nD : H D = none) (W : Wd H a l ds) (hn : n ≤ 500)
    (ht : ∀ i H1 (R : VK), i < n → Kp a H H1 → Wd H1 a l ds → (∀ x H2, Pk x → Kp a H1 H2 → Wd H2 a l ds → R (iV x) H2) → te ((wipe σ wv).set j (some (.int (lo + ((i : Nat) : Int))))) H1 R)
    (hσ : ∀ x, wipe ((wipe σ wv).set j (some x)) wv = wipe σ wv)
    (q : ∀ H' (xs : List Nat), Kp a H H' → Wd H' a l ds → xs.length = n → (∀ x ∈ xs, Pk x) → H' D = some (.lst (xs.map iV)) → Qd H') :
    ∃ W : Nat → Nat → Hp → Prop, (∃ m, W 0 m (upd H D (.lst []))) ∧ ∀ i m H, W i m H →
      ((Itr lo n).stop i H ∧ Qd H) ∨ ((Itr lo n).go i H ∧ ∃ Nx : Hp → Prop, (∀ H', Nx H' → ∃ m', m' < m ∧ W (i + 1) m' H') ∧ ∀ x H', (Itr lo n).yld i H x H' → gName j x (wipe σ wv) H' fun σ2 H2 => wipe σ2 wv = wipe σ wv ∧ tYes σ2 H2 fun b H3 =>
        if b = true then te σ2 H3 fun y H4 => ∃ acc, H4 D = some (.lst acc) ∧ acc.length < sizeLine ∧ Nx (upd H4 D (.lst (acc ++ [y]))) else Nx H3) := by
  obtain ⟨neD, neL⟩ := W.ne2 nD
  refine lc_range (n := n) (fun i H1 => Kp a H H1 ∧ Wd H1 a l ds ∧ ∃ xs : List Nat, xs.length = i ∧ (∀ x ∈ xs, Pk x) ∧ H1 D = some (.lst (xs.map iV))) ⟨Kp.new nD, W.new nD, [], rfl, (fun x h => by cases h), upd_same⟩ (fun i H1 hi h => ?_) (fun H1 h => ?_)
  · obtain ⟨k1, W1, xs, lx, px, e⟩ := h
    refine ⟨hσ _, ?_⟩
    refine ht i H1 (fun y H4 => ∃ acc, H4 D = some (.lst acc) ∧ acc.length < sizeLine ∧ (Kp a H (upd H4 D (.lst (acc ++ [y]))) ∧ Wd (upd H4 D (.lst (acc ++ [y]))) a l ds ∧ ∃ xs : List Nat, xs.length = i + 1 ∧ (∀ x ∈ xs, Pk x) ∧ (upd H4 D (.lst (acc ++ [y]))) D = some (.lst (xs.map iV)))) hi k1 W1 fun x H2 hx k2 W2 => ?_
    refine ⟨_, k2 D _ neD e, by rw [List.length_map]; exact lineS200 (by omega), (k1.trans k2).put nD, W2.put neD neL, xs ++ [x], by rw [List.length_append, lx]; rfl, fun y hy => ?_, ?_⟩
    · rcases List.mem_append.mp hy with h | h
      · exact px y h
      · rw [List.mem_singleton.mp h]
        exact hx
    · rw [upd_same, List.map_append]
      rfl
  · obtain ⟨k1, W1, xs, lx, px, e⟩ := h
    exact q H1 xs k1 W1 lx px e
def spPick (K : PySem.W.Frag) : Sp := fun vs H Q _ => ∃ (a l r : Addr) (ds : List Int) (xs : List V) (es : List PyData), vs = [.ref a, .ref r] ∧ Wd H a l ds ∧ H r = some (.lst xs) ∧ DpAll K H xs es ∧ noLs es = true ∧ 0 < es.length ∧ ∀ H' v d, Kp a H H' → Wd H' a l ds → Dp K H' v d → d ∈ es → Q v H'
theorem ok_pick {f fN : Addr} {fd fdN : FuncData} (F : Fun K "_law_pick" "_law_pick" sLawPick f fd) (B : Gp mg) (GN : FnOk P w K mg base CX0 1 fN fdN ["w", "many"] spNext) (kN : PySem.W.keepIn K (.ref fN) = true) (bN : Binds K fdN ["w", "many"] []) (gN : mg "_law_next" = some (.ref fN)) :
    FnOk P w K mg base CX0 2 f fd ["w", "rows"] (spPick K) := by
  refine F.ok scLawPick (fun vs H Q E h => ?_) (fun cdv A outer s H vs Q E hr h => ?_)
  · obtain ⟨a, l, r, ds, xs, es, rfl, _⟩ := h
    rfl
  · obtain ⟨a, l, r, ds, xs, es, rfl, W, e, de, ne, pos, q⟩ := h
    have lxs := dps_len de
    refine ⟨_, (pss_one (ps_ret (pe_ix ix_list (pv 1) (pe_call GN hr (by rfl) gN kN bN .nil pass0 (pa_cons (pv 0) (pa_cons (pe_callB call_len_seq (by rfl) B.len PySem.boot_len (pa_cons (pv 1) pa_nil)) pa_nil))) (fun _ _ => rfl)))), ?_⟩
    refine ⟨_, rfl, _, rfl, _, rfl, r, _, rfl, .inl (SqL.of e), a, l, ds, _, rfl, by omega, W, fun i H1 hi k1 _ W1 => ?_⟩
    obtain ⟨x, hx⟩ : ∃ x, xs[i]? = some x := ⟨_, List.getElem?_eq_getElem (by omega)⟩
    obtain ⟨d, hd, dx⟩ := dps_get (stay_dps W k1 ne de) hx
    exact ⟨r, _, _, _, rfl, rfl, SqL.of (k1 r _ (wd_lne W e) e), atI_nat hx, q H1 x d k1 W1 dx (List.mem_of_getElem? hd)⟩
def spLiteral : Sp := fun vs H Q _ => ∃ (a l : Addr) (ds : List Int) (many : Nat), vs = [.ref a, iV many] ∧ 0 < many ∧ many ≤ 900 ∧ Wd H a l ds ∧ ∀ x H', x < 2 * many → Kp a H H' → Wd H' a l ds → Q (iV x) H'
theorem ok_lliteral {f fN : Addr} {fd fdN : FuncData} (F : Fun K "_law_literal" "_law_literal" sLawLiteral f fd) (B : Gp mg) (GN : FnOk P w K mg base CX0 1 fN fdN ["w", "many"] spNext) (kN : PySem.W.keepIn K (.ref fN) = true) (bN : Binds K fdN ["w", "many"] []) (gN : mg "_law_next" = some (.ref fN)) :
    FnOk P w K mg base CX0 2 f fd ["w", "many"] spLiteral := by
  refine F.ok scLawLiteral (fun vs H Q E h => ?_) (fun cdv A outer s H vs Q E hr h => ?_)
  · obtain ⟨a, l, ds, many, rfl, _⟩ := h
    rfl
  · obtain ⟨a, l, ds, many, rfl, pos, hm, W, q⟩ := h
    refine ⟨_, (pss_cons (ps_if (pt_cmpR op_eq (pe_call GN hr (by rfl) gN kN bN .nil pass0 (pa_cons (pv 0) (pa_cons (pe_int) pa_nil))) (pe_int) (nomark _)) (pss_one (ps_ret (pe_call GN hr (by rfl) gN kN bN .nil pass0 (pa_cons (pv 0) (pa_cons (pe_op op_mulN (pe_int) (pv 1)) pa_nil))))) pss_nil)
      (pss_one (ps_ret (pe_op op_sub (pe_op op_sub (pe_op op_mulN (pe_int) (pv 1)) (pe_int)) (pe_call GN hr (by rfl) gN kN bN .nil pass0 (pa_cons (pv 0) (pa_cons (pe_callB (call_min2 rfl) (by rfl) B.min (by decide +kernel) (pa_cons (pe_op op_mulN (pe_int) (pv 1)) (pa_cons (pe_int) pa_nil))) pa_nil))))))), ?_⟩
    refine ⟨_, rfl, a, l, ds, 3, rfl, by decide, W, fun r H1 hr1 k1 _ W1 => ⟨rfl, _, rfl, ite2 (fun _ => ?_) (fun _ => ?_)⟩⟩
    · exact ⟨_, rfl, _, rfl, 2, many, rfl, rfl, by decide, a, l, ds, _, rfl, by omega, W1, fun r H2 hr k2 _ W2 => q r H2 (by omega) (k1.trans k2) W2⟩
    · refine ⟨_, rfl, 2, many, rfl, rfl, by decide, _, _, rfl, rfl, _, rfl, _, rfl, 2, many, rfl, rfl, by decide, _, _, rfl, a, l, ds, _, rfl, ?_, W1, fun r H2 hr k2 _ W2 => ⟨_, _, rfl, rfl, ?_⟩⟩
      · split <;> omega
      · have hr' : r < 2 * many := by
          split at hr <;> omega
        show Q (.int (((2 * many : Nat) : Int) - 1 - ((r : Nat) : Int))) H2
        rw [show ((2 * many : Nat) : Int) - 1 - ((r : Nat) : Int) = ((2 * many - 1 - r : Nat) : Int) by omega]
        exact q _ H2 (by omega) (k1.trans k2) W2
def spDrawn (K : PySem.W.Frag) : Sp := fun vs H Q _ => ∃ (a l : Addr) (ds : List Int) (L A O : Nat), vs = [.ref a, iV L, iV A, iV O] ∧ L ≤ 90 ∧ A ≤ 20 ∧ O ≤ 20 ∧ Wd H a l ds ∧ ∀ H' p n, Kp a H H' → Wd H' a l ds → NetOk n → n.firsts.length ≤ 90 → n.ands.length ≤ 20 → n.outs.length ≤ 20 → Dp K H' (.ref p) n.d → Q (.ref p) H'
theorem ok_drawn {f fN fL : Addr} {fd fdN fdL : FuncData} (F : Fun K "_law_net" "_law_net" sLawNet f fd) (B : Gp mg) (GN : FnOk P w K mg base CX0 1 fN fdN ["w", "many"] spNext) (kN : PySem.W.keepIn K (.ref fN) = true) (bN : Binds K fdN ["w", "many"] []) (gN : mg "_law_next" = some (.ref fN))
    (GL : FnOk P w K mg base CX0 2 fL fdL ["w", "many"] spLiteral) (kL : PySem.W.keepIn K (.ref fL) = true) (bL : Binds K fdL ["w", "many"] []) (gL : mg "_law_literal" = some (.ref fL)) : FnOk P w K mg base CX0 3 f fd ["w", "latches", "ands", "outs"] (spDrawn K) := by
  refine F.ok scLawNet (fun vs H Q E h => ?_) (fun cdv A outer s H vs Q E hr h => ?_)
  · obtain ⟨a, l, ds, L, A, O, rfl, _⟩ := h
    rfl
  · obtain ⟨a, l, ds, L, A, O, rfl, hL, hA, hO, W, q⟩ := h
    have nd := scLawNet.nd
    have hr2 := hr
    have hr1 : Room 1 _ := hr.mono (by decide)
    refine ⟨_, (pss_cons (ps_setLc (i := 4) (own := [("k", 6)]) (g := gName 6) (tt := tYes) (te := tCall spNext [] E0 (tCons (tVar 0) (tCons (tC (.int 2)) tNil)))  rfl nd rfl rfl (sw_true rfl rfl rfl (by decide +kernel)) (pi_range1 (by rfl) B.range (pa_cons (pv 1) pa_nil)) (blkOk_by (own := [("k", 6)]) (N := NLD) (sc := defScope sLawNet) (by decide +kernel)) (fun _ _ _ _ _ => pg_name (i := 6) nd rfl (.inl rfl)) (fun _ _ _ _ _ => pts_nil) (fun _ _ _ _ _ => by exact (pe_call GN hr1 (by rfl) gN kN bN .nil pass0 (pa_cons (pv 0) (pa_cons (pe_int) pa_nil)))))
      (pss_cons (ps_set (i := 5) nd rfl (.inl rfl) (pe_lst pa_nil))
      (C8.pss_cut (ps_for PassesOwn.never rfl (pi_range1 (by rfl) B.range (pa_cons (pv 2) pa_nil)) (pg_name (i := 6) nd rfl (.inl rfl)) (pss_cons (ps_set (i := 7) nd rfl (.inl rfl) (pe_call GL hr2 (by rfl) gL kL bL .nil pass0 (pa_cons (pv 0) (pa_cons (pe_op op_addN (pe_op op_addN (pe_int) (pv 1)) (pv 6)) pa_nil))))
      (pss_one (ps_expr (pe_bm PySem.F.plainAttrs_list PySem.F.slot_list_append PySem.F.type_list_append mt_append (pv 5) (pa_cons (pe_tup (pa_cons (pv 7) (pa_cons (pe_call GL hr2 (by rfl) gL kL bL .nil pass0 (pa_cons (pv 0) (pa_cons (pe_op op_addN (pe_op op_addN (pe_int) (pv 1)) (pv 6)) pa_nil))) pa_nil))) pa_nil))))))
      (pss_cons (ps_set (i := 8) nd rfl (.inr rfl) (pe_op op_addN (pe_op op_addN (pe_int) (pv 1)) (pv 2)))
      (pss_cons (ps_setLc (i := 9) (own := [("k", 6)]) (g := gName 6) (tt := tYes) (te := tCall spLiteral [] E0 (tCons (tVar 0) (tCons (tVar 8) tNil)))  rfl nd rfl rfl (sw_true rfl rfl rfl (by decide +kernel)) (pi_range1 (by rfl) B.range (pa_cons (pv 1) pa_nil)) (blkOk_by (own := [("k", 6)]) (N := NLD) (sc := defScope sLawNet) (by decide +kernel)) (fun _ _ _ _ _ => pg_name (i := 6) nd rfl (.inl rfl)) (fun _ _ _ _ _ => pts_nil) (fun _ _ _ _ _ => by exact (pe_call GL hr2 (by rfl) gL kL bL .nil pass0 (pa_cons (pv 0) (pa_cons (pv 8) pa_nil)))))
      (pss_cons (ps_setLc (i := 10) (own := [("k", 6)]) (g := gName 6) (tt := tYes) (te := tCall spLiteral [] E0 (tCons (tVar 0) (tCons (tVar 8) tNil)))  rfl nd rfl rfl (sw_true rfl rfl rfl (by decide +kernel)) (pi_range1 (by rfl) B.range (pa_cons (pv 3) pa_nil)) (blkOk_by (own := [("k", 6)]) (N := NLD) (sc := defScope sLawNet) (by decide +kernel)) (fun _ _ _ _ _ => pg_name (i := 6) nd rfl (.inl rfl)) (fun _ _ _ _ _ => pts_nil) (fun _ _ _ _ _ => by exact (pe_call GL hr2 (by rfl) gL kL bL .nil pass0 (pa_cons (pv 0) (pa_cons (pv 8) pa_nil)))))
      (pss_one (ps_ret (pe_tup (pa_cons (pe_callTy call_tuple_of (by rfl) B.tu (by decide +kernel) (pa_cons (pv 4) pa_nil)) (pa_cons (pe_callTy call_tuple_of (by rfl) B.tu (by decide +kernel) (pa_cons (pv 5) pa_nil)) (pa_cons (pe_callTy call_tuple_of (by rfl) B.tu (by decide +kernel) (pa_cons (pv 9) pa_nil)) (pa_cons (pe_callTy call_tuple_of (by rfl) B.tu (by decide +kernel) (pa_cons (pv 10) pa_nil)) pa_nil))))))))))))), ?_⟩
    refine ⟨_, rfl, _, rfl, by omega, by omega, fun D nD => ?_⟩
    obtain ⟨neD, neDl⟩ := W.ne2 nD
    refine lc_draw (n := L) (Pk := fun x => x < 2) nD W (by omega) (fun i H1 R hi k1 W1 r => ⟨_, rfl, a, l, ds, 2, rfl, by decide, W1, fun x H2 hx k2 _ W2 => r x H2 (by omega) k2 W2⟩) (fun x => rfl) fun H1 fs k1 W1 lfs bfs eD => ?_
    refine ⟨Nat.zero_le _, fun T nT => ?_⟩
    obtain ⟨neT, neTl⟩ := W1.ne2 nT
    refine ⟨fun σ H' => ∃ (y6 y7 : Option V) (tl : List V) (ps : List (Nat × Nat)), σ = [some (.ref a), some (iV L), some (iV A), some (iV O), some (.ref D), some (.ref T), y6, y7, none, none, none] ∧ Kp a H1 H' ∧ Wd H' a l ds ∧ H' T = some (.lst tl) ∧ DpAll K H' tl (ps.map pr) ∧ ps.length = A ∧ ∀ (k : Nat) (p : Nat × Nat), ps[k]? = some p → p.1 < 2 * (1 + L + k) ∧ p.2 < 2 * (1 + L + k), ?_, ?_⟩
    · refine ⟨_, rfl, _, rfl, by omega, by omega, for_range (fun i σ H' => ∃ (y6 y7 : Option V) (tl : List V) (ps : List (Nat × Nat)), σ = [some (.ref a), some (iV L), some (iV A), some (iV O), some (.ref D), some (.ref T), y6, y7, none, none, none] ∧ Kp a H1 H' ∧ Wd H' a l ds ∧ H' T = some (.lst tl) ∧ DpAll K H' tl (ps.map pr) ∧ ps.length = i ∧ ∀ (k : Nat) (p : Nat × Nat), ps[k]? = some p → p.1 < 2 * (1 + L + k) ∧ p.2 < 2 * (1 + L + k)) ⟨none, none, [], [], rfl, Kp.new nT, W1.new nT, upd_same, .nil, rfl, fun k p h => by simp at h⟩ (fun i σ H' hi h => ?_) (fun σ H' h => h)⟩
      obtain ⟨y6, y7, tl, ps, rfl, k2, W2, eT, dT, lp, hp⟩ := h
      have ltl := dps_len dT
      rw [List.length_map] at ltl
      have hi2 : i < A := by omega
      rw [Int.zero_add]
      refine ⟨_, rfl, _, rfl, 1, L, rfl, rfl, _, rfl, _, i, rfl, rfl, a, l, ds, _, rfl, by omega, by omega, W2, fun x H3 hx k3 W3 => ?_⟩
      have eT3 := k3 T _ neT eT
      refine ⟨_, rfl, .inl ⟨rfl, _, SqL.of eT3⟩, _, rfl, _, rfl, _, rfl, 1, L, rfl, rfl, _, rfl, _, i, rfl, rfl, a, l, ds, _, rfl, by omega, by omega, W3, fun y H4 hy k4 W4 => ⟨line200 (show 2 ≤ 1000 by decide), fun p np => ?_⟩⟩
      have k34 := k3.trans (k4.trans (Kp.new (o := .tup [iV x, iV y]) np))
      have W5 := W4.new (o := .tup [iV x, iV y]) np
      have eT5 := k34 T _ neT eT
      refine ⟨T, _, _, rfl, rfl, eT5, lineS200 (by omega), _, _, _, ps ++ [(x, y)], rfl, (k2.trans k34).put nT, W5.put neT neTl, upd_same, ?_, by rw [List.length_append, lp]; rfl, fun k p hkp => ?_⟩
      · rw [List.map_append]
        exact push_dps eT5 (stay_dps W2 k34 (noLs_pr _) dT) (noLs_pr _) (.tup (SqT.of upd_same) (.cons (.int _) (.cons (.int _) .nil))) rfl
      · rcases snoc_cases hkp with ⟨_, h⟩ | ⟨h1, h2⟩
        · exact hp k p h
        · subst h1
          subst h2
          rw [lp]
          exact ⟨hx, hy⟩
    rintro σ H2 ⟨y6, y7, tl, ps, rfl, k2, W2, eT, dT, lp, hp⟩
    refine ⟨_, rfl, 1, L, rfl, rfl, _, rfl, _, A, rfl, rfl, ?_⟩
    refine ⟨_, rfl, _, rfl, by omega, by omega, fun N nN => ?_⟩
    obtain ⟨neN, neNl⟩ := W2.ne2 nN
    refine lc_draw (n := L) (Pk := fun x => x < 2 * (1 + L + A)) nN W2 (by omega) (fun i H1 R hi k1 W1 r => ⟨_, rfl, _, rfl, a, l, ds, _, rfl, by omega, by omega, W1, fun x H2 hx k2 W2 => r x H2 hx k2 W2⟩) (fun x => rfl) fun H3 ns k3 W3 lns bns eN => ?_
    refine ⟨_, rfl, _, rfl, by omega, by omega, fun U nU => ?_⟩
    obtain ⟨neU, neUl⟩ := W3.ne2 nU
    refine lc_draw (n := O) (Pk := fun x => x < 2 * (1 + L + A)) nU W3 (by omega) (fun i H1 R hi k1 W1 r => ⟨_, rfl, _, rfl, a, l, ds, _, rfl, by omega, by omega, W1, fun x H2 hx k2 W2 => r x H2 hx k2 W2⟩) (fun x => rfl) fun H4 os k4 W4 los bos eU => ?_
    have k24 := k3.trans k4
    have k14 := k2.trans k24
    refine ⟨_, rfl, D, _, rfl, .inl ⟨SqL.of (k14 D _ neD eD), fun t1 n1 => ?_⟩⟩
    have g1 : Kp a H4 _ := Kp.new (o := .tup (fs.map iV)) n1
    have V1 := W4.new (o := .tup (fs.map iV)) n1
    refine ⟨_, rfl, T, _, rfl, .inl ⟨SqL.of ((k24.trans g1) T _ neT eT), fun t2 n2 => ?_⟩⟩
    have g2 := g1.trans (Kp.new (o := .tup tl) n2)
    have V2 := V1.new (o := .tup tl) n2
    refine ⟨_, rfl, N, _, rfl, .inl ⟨SqL.of ((k4.trans g2) N _ neN eN), fun t3 n3 => ?_⟩⟩
    have g3 := g2.trans (Kp.new (o := .tup (ns.map iV)) n3)
    have V3 := V2.new (o := .tup (ns.map iV)) n3
    refine ⟨_, rfl, U, _, rfl, .inl ⟨SqL.of (g3 U _ neU eU), fun t4 n4 => ?_⟩⟩
    have g4 := g3.trans (Kp.new (o := .tup (os.map iV)) n4)
    have V4 := V3.new (o := .tup (os.map iV)) n4
    refine ⟨line200 (show 4 ≤ 1000 by decide), fun p np => ?_⟩
    have g5 := g4.trans (Kp.new (o := .tup [.ref t1, .ref t2, .ref t3, .ref t4]) np)
    have V5 := V4.new (o := .tup [.ref t1, .ref t2, .ref t3, .ref t4]) np
    have p4 : Kp a _ _ := Kp.new (a := a) (o := .tup [.ref t1, .ref t2, .ref t3, .ref t4]) np
    have p3 := (Kp.new (a := a) (o := .tup (os.map iV)) n4).trans p4
    have p2 := (Kp.new (a := a) (o := .tup (ns.map iV)) n3).trans p3
    have p1 := (Kp.new (a := a) (o := .tup tl) n2).trans p2
    refine q _ p ⟨fs, ps, ns, os⟩ (k1.trans (k14.trans g5)) V5 ⟨bfs, by show fs.length ≤ 100; omega, by show ps.length ≤ 200; omega, by show ns.length = fs.length; omega, by show os.length ≤ 100; omega, ?_, ?_, ?_⟩ (by show fs.length ≤ 90; omega) (by show ps.length ≤ 20; omega) (by show os.length ≤ 20; omega) (.tup (SqT.of upd_same) (.cons (.tup (SqT.of (p1 t1 _ (W4.fresh n1) upd_same)) (dps_ints _)) (.cons (.tup (SqT.of (p2 t2 _ (V1.fresh n2) upd_same)) ?_) (.cons (.tup (SqT.of (p3 t3 _ (V2.fresh n3) upd_same)) (dps_ints _)) (.cons (.tup (SqT.of (p4 t4 _ (V3.fresh n4) upd_same)) (dps_ints _)) .nil)))))
    · show ∀ (k : Nat) (p : Nat × Nat), ps[k]? = some p → p.1 < 2 * (1 + fs.length + k) ∧ p.2 < 2 * (1 + fs.length + k)
      rw [lfs]
      exact hp
    · show ∀ x ∈ ns, x < 2 * (1 + fs.length + ps.length)
      rw [lfs, lp]
      exact bns
    · show ∀ x ∈ os, x < 2 * (1 + fs.length + ps.length)
      rw [lfs, lp]
      exact bos
    · exact stay_dps W2 (k24.trans g5) (noLs_pr _) dT
end
end C1

set_option maxHeartbeats 4000000
/-! try with several clauses «except C as n», one name for all. -/
namespace K0T
open PySem PySem.Spec PyProof.Rows L2
abbrev Suite := Addr → Value → Option Addr → TS
/-- the ends of a suite: behind it the slot of the clause's name is empty -/
abbrev gone (i : Nat) (D : Ends) : Ends := { nx := fun σ H => D.nx (σ.set i none) H, rt := D.rt, bk := fun σ H => D.bk (σ.set i none) H, ct := fun σ H => D.ct (σ.set i none) H }
def wAll (K : PySem.W.Frag) (i : Nat) (Wo : WX) (D : Ends) : List (Value × Suite) → WX
  | [] => Wo
  | (c, ts) :: r => fun cls d σ H => ∃ b, PySem.W.exmOne K cls c = some b ∧ (b = true → ∀ a, H a = none → ts a cls d (gone i D) (σ.set i (some (.ref a))) H) ∧ (b = false → wAll K i Wo D r cls d σ H)
/-- the clauses, each by its class and its suite's reading -/
inductive Cl (X : Cx) (n : Str) : List ExceptHandler → List (Value × Suite) → Prop
  | nil : Cl X n [] []
  | cons {x : Str} {c : Value} {ts : Suite} {st : Stmt} {sts : List Stmt} {np cp : Pos} {r : List ExceptHandler} {l : List (Value × Suite)} : Names X x c →
      (∀ (a : Addr) (oe : Obj) (cls : Value) (d : Option Addr) (pn : List (Addr × Obj)), Zc cls d oe → (∃ vs, oe.data = .fields vs) → PSs (X.suite a ((a, oe) :: pn)) (st :: sts) (ts a cls d)) →
      Cl X n r l → Cl X n (.ExceptHandler (some (.Name x np)) (some n) (st :: sts) cp :: r) ((c, ts) :: l)
theorem no_frame {B h : Heap} {L : List Env} {a : Addr} {o : Obj} {vs : Array Value} (ff : h.FunFrames B L) (e : h.get? a = some o) (d : o.data = .fields vs) : a ∉ frs L := fun hm => by
  obtain ⟨_, o2, e2, hn⟩ := ff.mem hm
  rw [e] at e2
  cases e2
  exact hn _ d
section
variable {X : Cx} {n : Str} {i : Nat} {body : List Stmt} {h₀ : ExceptHandler} {hds : List ExceptHandler} {l : List (Value × Suite)} {pos : Pos} {tb : WX → TS} {Wo : WX}
theorem ps_try_ases (hs : X.stack = X.env :: X.outer) (hf : X.env.frame = some X.env.locals) (hN : X.N.Nodup) (hi : X.N[i]? = some n) (hln : X.env.kindOf n = some .local) (tk : Takes X Wo)
    (hb : ∀ (W : WX) (pn : List (Addr × Obj)) (xe : Value → Shared → Prop), Takes (X.tr pn xe) W → PassesOwn (model X.prog X.w) X.A X.env xe → PSs (X.tr pn xe) body (tb W))
    (hh : Cl X n (h₀ :: hds) l) : PS X (.Try body (h₀ :: hds) [] [] pos) (fun D σ H => tb (wAll X.K i Wo D l) D σ H) := by
  refine ⟨fun pins s σ H D I h => ?_⟩
  have ok := I.ok
  have frm : X.A.frames = some (X.env :: X.outer) := by
    rw [ok.frames, hs]
  refine wpAny_Try_except (wpAny_mono ((hb _ (X.pn ++ pins) _ (fun u s1 caught => ?_) PassesOwn.looking).run [] s σ H D (I.toTry _) h) (fun f s1 q => ?_) fun _ _ z => z)
  · obtain ⟨a, B, sI, p2, σ2, H2, cls, d, rfl, J0, nb, up, sky, na, os, ag, w⟩ := caught
    have J := J0.ofTry ok
    show wpAny (model X.prog X.w) X.A (noteFrame (.ref a) X.env) _ _ _
    refine Sky.land Zc.steady frm hf (by rw [← hs]; exact sky) fun h3 fl up3 => ?_
    have J3 : Inv X pins σ2 H2 { s1 with heap := h3 } := J.landed nb fl.1 (up.trans up3) os ag
    obtain ⟨oe, vs, he, hz, hd⟩ := fl.there
    have nfr := no_frame fl.2.2.1 he hd
    have nL : a ≠ X.env.locals := fun z => nfr (List.mem_filterMap.mpr ⟨X.env, List.mem_cons_self, by rw [hf, z]⟩)
    have nF : a ∉ X.fs := fun hm => by
      obtain ⟨e, h1, h2⟩ := List.mem_filterMap.mp hm
      exact nfr (List.mem_filterMap.mpr ⟨e, List.mem_cons_of_mem _ h1, h2⟩)
    have S3 := J3.suite he hd na nL nF
    have go : ∀ (hs2 : List ExceptHandler) (l2 : List (Value × Suite)), Cl X n hs2 l2 → wAll X.K i Wo D l2 cls d σ2 H2 →
        wpAny (model X.prog X.w) X.A (handleBy (.ref a) X.env hs2) (SP X pins D) X.xe { s1 with heap := h3 } := by
      intro hs2 l2 hc
      induction hc with
      | nil =>
        intro w2
        refine wpAny_handleBy_nil ?_
        obtain ⟨_, _, _, o5, v5, T, _, _, e5, _, d5, t5, _⟩ := id fl
        unfold PySem.passOn
        refine wpAny_bind (wpAny_field e5 d5 t5 ?_)
        rw [if_neg (show ¬ ((Value.ref T == Value.none) = true) from by simp)]
        have out : wpAny (model X.prog X.w) X.A (setFlight (.ref a) X.env.frame) (fun _ s4 => wpAny (model X.prog X.w) X.A (throw (.ref a) : Sem Flow) (SP X pins D) X.xe s4) X.xe { s1 with heap := h3 } := by
          rw [hf]
          exact HandSPX.setFlight_upZ fl fun h4 g4 up4 => wpAny_throw (tk _ _ ⟨a, B, sI, pins, σ2, H2, cls, d, rfl, J, nb, (up.trans up3).trans up4, .inr (.inr (by rw [hs]; exact g4)), na, os, ag, w2⟩)
        first
          | exact wpAny_bind (wpAny_pure (wpAny_bind out))
          | exact wpAny_bind out
      | @cons x c ts st sts np cp r2 l3 hnm hsu _ ih =>
        intro w2
        obtain ⟨b, hb1, yes, no⟩ := w2
        refine wpAny_handleBy_cons (codeAny_handlers_test ?_) (fun q => nomatch q)
        have look := PySem.W.exm_one (M := model X.prog X.w) J3.kIn (fun A Q E s k q => wpAny_typeOf_ref (k _ _ he) (by rw [hz.1]; exact q)) hb1
        have cname : ∀ {Q E : Value → Shared → Prop}, Q c { s1 with heap := h3 } → wpAny (model X.prog X.w) (X.A.mark (some (.ref a))) (eval (.Name x np) X.env) Q E { s1 with heap := h3 } := fun {Q E} q => by
          obtain ⟨hg, dbg, hm | ⟨hm, hv, hnn⟩⟩ := hnm
          · exact ld_glob (X := X.suite a ((a, oe) :: (X.pn ++ pins))) S3 hg hm q dbg
          · exact ld_blt (X := X.suite a ((a, oe) :: (X.pn ++ pins))) S3 hg hm hv q hnn dbg
        refine cname (look.here ?_)
        cases b with
        | false => exact ih (no rfl)
        | true =>
          refine codeAny_handlers_suite_as (HandSPX.lands_againZ fl fun h4 fl4 up4 => ?_)
          have J4 : Inv X pins σ2 H2 { s1 with heap := h4 } := J.landed nb fl4.1 ((up.trans up3).trans up4) os ag
          obtain ⟨o4, v4, e4, z4, d4⟩ := fl4.there
          refine store_ok (X := X.suite a ((a, o4) :: (X.pn ++ pins))) (v := .ref a) (J4.suite e4 d4 na nL nF) hN hi (.inl hln) rfl (fun s5 S5 => ?_) (.inr hln)
          refine wpAny_mono ((hsu a o4 cls d (X.pn ++ pins) z4 ⟨_, d4⟩).run [] s5 _ H2 _ S5 (yes rfl a na)) (fun f s6 q6 => ?_) fun _ _ z => False.elim z
          have leave : ∀ {σ6 : L2.St} {H6 : Hp} {Q : Shared → Prop}, Inv (X.suite a ((a, o4) :: (X.pn ++ pins))) [] σ6 H6 s6 → (∀ s7, Inv X pins (σ6.set i none) H6 s7 → Q s7) →
              wpAny (model X.prog X.w) X.A (do bindName X.env n .none; unbindBehindTheSuite X.env n cp) (fun _ s7 => Q s7) X.xe s6 := fun {σ6 H6 Q} S6 hq => gone_ok (S6.unsuite ok) hN hi hln hq
          cases f with
          | next => exact let ⟨σ6, H6, S6, q⟩ := q6; leave S6 fun s7 J7 => ⟨_, _, J7, q⟩
          | brk => exact let ⟨σ6, H6, S6, q⟩ := q6; leave S6 fun s7 J7 => ⟨_, _, J7, q⟩
          | cont => exact let ⟨σ6, H6, S6, q⟩ := q6; leave S6 fun s7 J7 => ⟨_, _, J7, q⟩
          | ret u => exact let ⟨v6, σ6, H6, S6, r6, q⟩ := q6; leave S6 fun s7 J7 => ⟨_, _, _, J7, r6, q⟩
    exact go _ _ hh w
  · cases f with
    | next => exact let ⟨σ2, H2, J, q2⟩ := q; wpAny_execs_nil ⟨σ2, H2, J.ofTry ok, q2⟩
    | brk => exact let ⟨σ2, H2, J, q2⟩ := q; ⟨σ2, H2, J.ofTry ok, q2⟩
    | cont => exact let ⟨σ2, H2, J, q2⟩ := q; ⟨σ2, H2, J.ofTry ok, q2⟩
    | ret u => exact let ⟨v, σ2, H2, J, r, q2⟩ := q; ⟨v, σ2, H2, J.ofTry ok, r, q2⟩
end
end K0T

set_option maxHeartbeats 4000000
/-! B.__init__(self, ..), B an own error class without an __init__ of its own; isinstance of a caught error that has fields. -/
namespace K0E
open PySem PySem.Spec PyProof.Rows L2
theorem pe_baseinit {X : Cx} {e : Expr} {es : List Expr} {ta : TA} {x : Str} {C : Addr} {mc : Value} {p1 p2 pos : Pos} {pl : Sem Bool} (hg : Gl X x) (hm : X.mg x = some (.ref C)) (dx : (x == ("__debug__" : Str)) = false)
    (h1 : PySem.W.specialIn X.K (.ref C) "__getattribute__" = some (some (.builtin "type.__getattribute__"))) (h2 : PySem.W.readsIn X.K C mc = true)
    (h3 : PySem.W.findCls X.K (.ref C) mc "__init__" = some (.val (.builtin "ValueError.__init__"))) (ha : PA X (e :: es) ta)
    (hc : eval (.Call (.Attribute (.Name x p1) "__init__" p2) (e :: es) [] pos) X.env = (do
      let ov ← eval (.Name x p1) X.env
      standAt p2.atName
      let (f, first) ← holding [ov] (getMethod ov "__init__" pl)
      callWith pos f first (backTo pos (starEach (e :: es) X.env)) (backToKw pos (keywordEach [] X.env))) := by rfl)
    (he : starEach (e :: es) X.env = (false, eval e X.env) :: starEach es X.env := by rfl) (hpl : (backTo pos (starEach es X.env)).any (·.1) = false := by rfl) :
    PE X (.Call (.Attribute (.Name x p1) "__init__" p2) (e :: es) [] pos) (tVeI X.K ta) := by
  refine ⟨fun pins s σ H Q I h => ?_⟩
  refine PySem.W.methodCall_KW (ld_glob I hg hm (PySem.W.method_cls I.kIn h1 (PySem.W.cls_value I.kIn h2 h3 (by decide +kernel) ?_)) dx) hc
  show wpAny _ _ (callWith pos (Value.builtin "ValueError.__init__") [] (backTo pos (starEach (e :: es) X.env)) []) _ _ _
  refine callWith_method1 (thn (ha.run pos pins _ σ H _ (I.tok _) h) fun us s1 w => ?_) he hpl
  obtain ⟨vs, H1, I1, r1, a, D, ws, ev, hl, T, ea, q⟩ := w
  subst ev
  cases r1 with
  | @cons _ u0 _ ur ra rw' =>
    obtain rfl : u0 = Value.ref a := ra
    refine oinit_ok T I1 ea ?_ fun s2 J => ⟨.non, H1, J, rfl, q⟩
    rw [← Paired.length rw', sizeLine_eq]
    exact Nat.le_trans hl (by decide)
/-- isinstance(e, c), e the error that the suite holds (its class D, its dict d) -/
def rIsF (K : PySem.W.Frag) (D a : Addr) (d : Option Addr) : List V → Hp → VK → Prop := fun xs H Q =>
  ∃ (c : V) (cv : Value) (b : Bool) (dd : Addr) (fs : List (Str × V)), xs = [.ref a, c] ∧ (∀ u, RelV c u → u = cv) ∧ PySem.W.kitOne K (.ref D) cv = some b ∧ d = some dd ∧ H dd = some (.xd fs) ∧ Q (.bl b) H
theorem call_isF {X : Cx} {a D : Addr} {oe : Obj} {d : Option Addr} {pn : List (Addr × Obj)} (C : ExcC X.K D) (hz : Zc (.ref D) d oe) (hf : ∃ vs, oe.data = .fields vs) : CallR (X.suite a ((a, oe) :: pn)) (.builtin "isinstance") (rIsF X.K D a d) := by
  intro pins s σ H xs us Q I r h
  obtain ⟨c, cv, b, dd, fs, rfl, hcv, e, ed, ex, q⟩ := h
  obtain ⟨vs, hv⟩ := hf
  obtain ⟨hget, _⟩ := I.pin (a, oe) (List.mem_append.mpr (.inl List.mem_cons_self))
  have hx : ObjOk X.prog X.w H s.heap dd (.xd fs) := I.hok dd _ ex
  obtain ⟨mA, hns, _⟩ := hx
  obtain ⟨od, ho, _⟩ := lookIn_ns hns
  subst ed
  have J : PySem.W.InstAt s.heap a oe D (some od) := ⟨hget, hz.1, by unfold PySem.W.notCls; rw [hv] <;> rfl, by rw [hz.2]; exact ho⟩
  cases r with
  | cons rx rr =>
    cases rr with
    | cons rt rr =>
      cases rr
      cases rx
      have ec := hcv _ rt
      subst ec
      exact PySem.W.kia_one (PySem.W.kitx_exc (by obtain ⟨cd, hc, _⟩ := PySem.W.any_some C.hd; rw [hc]; rfl) C.hg C.hk C.hs C.ha C.hn C.ht C.hm) I.kIn J e (fun z => nomatch z) fun tk => ⟨.bl b, H, I.kept (t' := tk) fun _ _ z => z, rfl, q⟩
end K0E

/-! A list comprehension whose turns may raise: what a call lets out leaves the comprehension. -/
namespace LcE
open PySem PySem.Spec PyProof.Rows L2
theorem note_same {e : Value} {a b : Env} (h : a.frame = b.frame) : noteFrame e a = noteFrame e b := by
  unfold noteFrame PySem.frameOf
  rw [h]
def cpX (M : Model) (A : Around) (E : Value → Shared → Prop) (Q : Value → Shared → Prop) (acc : Value) (C : Addr) (ce : Env) (r : Result) (t : Shared) : Prop :=
  match r with
  | .ok _ => ∃ m, t.heap.Ns C m ∧ ∀ g, Heap.SameBut C t.heap g → Q acc { t with heap := g }
  | .error x => ∃ m, t.heap.Ns C m ∧ ∀ g, Heap.SameBut C t.heap g → wpAny M A (passOn "comprehension.variables-let-go" x ce : Sem Value) (fun _ _ => False) E { t with heap := g }
/-- a comprehension by its parts; an error's post keeps the block's own env -/
theorem compE {M : Model} {A : Around} {E : Value → Shared → Prop} {t0 : Shared} {env : Env} {e : Expr} {sc : Scope} {pq : Pos} {mk fi : Sem Value} {c : Comprehension} {cs : List Comprehension} {cells : List (Str × Addr)} {Q : Value → Shared → Prop}
    (k1 : clausesOf e = c :: cs) (k2 : ∀ x, foldedSetIterable c.iter env x = pure x) (k3 : closureFor sc env = pure cells) (k4 : sc.kind = .function) (k5 : ∀ y ∈ sc.names, y.2 = .local → sc.names.lookup y.1 = some .local)
    (go : wpAny M A fi (fun x t1 => wpAny M A (pyIter x) (fun it t2 => wpAny M A mk (fun acc t3 => wpAny M A (newFunctionEnv sc env.globals cells [] env.qual none .none (some env))
      (fun ce t4 => codeAny M A (.compStart e 0 it acc { ce with scope := relabel sc env }) (cpX M A E Q acc ce.locals { ce with scope := relabel sc env }) t4) E t3) E t2) E t1) E t0) :
    wpAny M A (comprehension e sc env pq mk false fi none) Q E t0 := by
  unfold comprehension
  rw [k3, k1]
  apply wpAny_bind
  apply wpAny_mono go ?_ (fun _ _ z => z)
  intro x t1 w1
  apply wpAny_bind
  apply wpAny_standAt
  apply wpAny_bind
  apply wpAny_of_eq (k2 x)
  apply wpAny_bind
  apply wpAny_holding
  apply wpAny_mono w1 ?_ (fun _ _ z => z)
  intro it t2 w2
  apply wpAny_standIf
  apply wpAny_bind
  apply wpAny_mono w2 ?_ (fun _ _ z => z)
  intro acc t3 w3
  apply wpAny_bind
  apply wpAny_pure
  apply wpAny_bind
  apply wpAny_mono w3 ?_ (fun _ _ z => z)
  intro ce t4 w4
  dsimp only
  have vars : ∀ y ∈ (sc.names.filter fun y => (y.2 == .local || y.2 == .cell) && y.1 != (".0" : Str)).reverse, y.2 = .local → Env.kindOf { ce with scope := relabel sc env } y.1 = some .local := by
    intro y hy hl
    exact lookup_relabel_local (k5 y (List.mem_filter.mp (List.mem_reverse.mp hy)).1 hl)
  apply wpAny_holding
  apply wpAny_bind
  apply wpAny_attempt
  apply wpAny_holding
  refine wpAny_run (codeAny_mono w4 ?_)
  intro r t5 w5
  cases r with
  | ok f =>
    obtain ⟨m, hm, w6⟩ := w5
    apply wpAny_bind
    apply wpAny_holding
    exact wpAny_comp_letGo (cenv := { ce with scope := relabel sc env }) k4 _ t5 m vars hm fun g m' _ sb => wpAny_pure (w6 g sb)
  | error x =>
    obtain ⟨m, hm, w6⟩ := w5
    apply wpAny_bind
    apply wpAny_holding
    exact wpAny_comp_letGo (cenv := { ce with scope := relabel sc env }) k4 _ t5 m vars hm fun g m' _ sb => wpAny_mono (w6 g sb) (fun _ _ z => z.elim) fun _ _ z => z
variable {X : Cx}
/-- the context of such a block -/
abbrev BlE (X : Cx) (E : XK) (s : Shared) (H : Hp) (sc : Scope) (ce : Env) (fp : List Addr) : Cx := { X.blk s H sc ce fp with xe := fun u t' => ∃ pins σ G t, Inv (X.blk s H sc ce fp) pins σ G t ∧ CX X.prog X.w X.stack G t E u t' }
theorem to_E {E : XK} {s : Shared} {H : Hp} {sc : Scope} {ce : Env} {fp : List Addr} {pins : List (Addr × Obj)} {σ : L2.St} {G : Hp} {t : Shared} (I : Inv (X.blk s H sc ce fp) pins σ G t) : Inv (BlE X E s H sc ce fp) pins σ G t :=
  ⟨⟨I.ok.mod, I.ok.kind, I.ok.glob, I.ok.blt, I.ok.above, I.ok.inj, I.ok.has, I.ok.cab, I.ok.hd, I.ok.frames, I.ok.stk, I.ok.exf, I.ok.bs, I.ok.bsz, I.ok.noex, I.ok.exfs, I.ok.funs, I.ok.frf⟩, I.os, I.bare, I.base, I.loc, I.cell, I.free, I.freeC, I.pin, I.hok, I.len⟩
theorem of_E {E : XK} {s : Shared} {H : Hp} {sc : Scope} {ce : Env} {fp : List Addr} {pins : List (Addr × Obj)} {σ : L2.St} {G : Hp} {t : Shared} (I : Inv (BlE X E s H sc ce fp) pins σ G t) : Inv (X.blk s H sc ce fp) pins σ G t :=
  ⟨⟨I.ok.mod, I.ok.kind, I.ok.glob, I.ok.blt, I.ok.above, I.ok.inj, I.ok.has, I.ok.cab, I.ok.hd, I.ok.frames, I.ok.stk, I.ok.exf, I.ok.bs, I.ok.bsz, I.ok.noex, I.ok.exfs, I.ok.funs, I.ok.frf⟩, I.os, I.bare, I.base, I.loc, I.cell, I.free, I.freeC, I.pin, I.hok, I.len⟩
/-- a call in the block may raise -/
theorem passes_E {E : XK} {s : Shared} {H : Hp} {sc : Scope} {ce : Env} {fp : List Addr} : Passes (CX X.prog X.w) (BlE X E s H sc ce fp) E := fun pins σ G t e t' I c => ⟨pins, σ, G, t, of_E I, c⟩
theorem frames_but {B B0 h h2 : Heap} {C : Addr} (k : ∀ b, b ≠ C → h2.get? b = h.get? b) (nb : ∀ b, B.get? b = none → B0.get? b = none) : ∀ {l : List Env}, C ∉ frs l → h.FunFrames B l → h2.FunFrames B0 l
  | [], _, _ => trivial
  | env :: l, nc, h => by
    obtain ⟨q1, ⟨L, o, q2, q3, q4, q5⟩, q6⟩ := h
    have nL : L ≠ C := fun z => nc (List.mem_filterMap.mpr ⟨env, List.mem_cons_self, by rw [q2, z]⟩)
    refine ⟨q1, ⟨L, o, q2, nb L q3, (k L nL).trans q4, q5⟩, frames_but k nb (fun hm => ?_) q6⟩
    obtain ⟨e, he, q⟩ := List.mem_filterMap.mp hm
    exact nc (List.mem_filterMap.mpr ⟨e, List.mem_cons_of_mem _ he, q⟩)
/-- what leaves the block -/
theorem out {E : XK} {pins0 : List (Addr × Obj)} {σ0 : L2.St} {H3 : Hp} {s3 : Shared} {sc : Scope} {ce : Env} {fp : List Addr} {C : Addr} {Qf : Value → Shared → Prop} {acc u : Value} {s' : Shared}
    (tk : Takes X (fun c d _ G => E c d G)) (hs : X.stack = X.env :: X.outer) (hf : X.env.frame = some X.env.locals) (J2 : Inv X pins0 σ0 H3 s3) (away : ∀ b ∈ fp, FpOk X pins0 H3 b) (eC : C = s3.heap.objs.size) (loc : ce.locals = C) (fr : ce.frame = X.env.frame)
    (x : ∃ pins σ G t, Inv (X.blk s3 H3 sc ce fp) pins σ G t ∧ CX X.prog X.w X.stack G t E u s') :
    notedBy (model X.prog X.w) X.A ce (fun e t => cpX (model X.prog X.w) X.A X.xe Qf acc C ce (.error e) t) u s' := by
  obtain ⟨pins, σ, G, t, J, a, B, H', cls, d, rfl, fl, hokB, ub, na, os, ag, w⟩ := x
  have K : Inv X pins0 σ0 G t := J2.call' (ch := fp) J.os J.base J.hok J.bare fun b hb => by
    obtain ⟨v0, v1, v2, v3, v4, v5⟩ := away b hb
    exact ⟨v3, v1, v4, v5⟩
  have nC : G C = none := by
    have z : G ce.locals = none := J.free
    rw [loc] at z
    exact z
  obtain ⟨m, hm, _⟩ := J.loc
  have hm : t.heap.Ns ce.locals m := hm
  rw [loc] at hm
  obtain ⟨f0, f1, f2, f3, f4, f5⟩ := J2.fpOk (Nat.le_of_eq eC.symm) nC
  have cfs : C ∉ frs X.stack := fun z => by
    rcases List.mem_cons.mp (J2.stkSub C z) with q | q
    · exact f1 q
    · exact f2 q
  obtain ⟨T0, t1, t2⟩ := restrict t.heap fun b => decide (b ≠ C)
  obtain ⟨B0, b1, b2⟩ := restrict B fun b => decide (b ≠ C)
  have K0 : Inv X pins0 σ0 G { t with heap := T0 } := K.turned (t' := t.toks) (fun b o hb e => by rw [t1 b (by simp [hb])]; exact e) nC f1 f3 f4 f5
  have inT : ∀ {b o}, T0.get? b = some o → b ≠ C ∧ t.heap.get? b = some o := fun {b o} e => by
    by_cases z : b = C
    · rw [z, t2 C (by simp)] at e
      cases e
    · rw [t1 b (by simp [z])] at e
      exact ⟨z, e⟩
  have inB : ∀ {b o}, B0.get? b = some o → b ≠ C ∧ B.get? b = some o := fun {b o} e => by
    by_cases z : b = C
    · rw [z, b2 C (by simp)] at e
      cases e
    · rw [b1 b (by simp [z])] at e
      exact ⟨z, e⟩
  have toB : ∀ {b o}, b ≠ C → B.get? b = some o → B0.get? b = some o := fun {b o} z e => by
    rw [b1 b (by simp [z])]
    exact e
  obtain ⟨oC, hoC⟩ : ∃ o, t.heap.get? C = some o := by
    obtain ⟨o, _, _, ho, _⟩ := hm
    exact ⟨o, ho⟩
  have bC : B.get? C = some oC := ub.keep C oC hoC nC cfs
  have hC : H' C = none := ub.free C oC hoC nC
  have hfr : X.A.frames = some (X.env :: X.outer) := by rw [J2.ok.frames, hs]
  show wpAny _ X.A (noteFrame (.ref a) ce) _ _ s'
  rw [note_same fr]
  have fl2 : HandSPX.FlyingZ B (X.env :: X.outer) a (Zc cls d) s'.heap := by
    rw [← hs]
    exact fl
  refine HandSPX.looks_onZ Zc.steady hfr hf fl2 fun h1 held up1 => ?_
  refine ⟨m, hm.at' fun o e => held.1 _ _ (ub.keep _ o e nC cfs), fun h2 sb => ?_⟩
  obtain ⟨k1, k2, k3, oe, vs, T, oT, ts, he, hz, hd, e1, hnT, hTe, hT, hdT, e3⟩ := held
  have aC : a ≠ C := fun z => by
    rw [z, bC] at k2
    cases k2
  have TC : T ≠ C := fun z => by
    rw [z, bC] at hnT
    cases hnT
  have none0 : ∀ b, B.get? b = none → B0.get? b = none := fun b q => by
    cases e : B0.get? b with
    | none => rfl
    | some o =>
      have z := (inB e).2
      rw [q] at z
      cases z
  have ha2 : h2.get? a = some oe := (sb.2 a aC).trans he
  have cfs2 : C ∉ frs (X.env :: X.outer) := by
    rw [← hs]
    exact cfs
  have held2 : HandSPX.HeldZ B0 (X.env :: X.outer) a (Zc cls d) X.env.locals h2 :=
    ⟨fun b o e => (sb.2 b (inB e).1).trans (k1 b o (inB e).2), none0 a k2, frames_but (fun b hb => sb.2 b hb) none0 cfs2 k3, oe, vs, T, oT, ts, ha2, hz, hd, e1, none0 T hnT, hTe, (sb.2 T TC).trans hT, hdT, e3⟩
  show wpAny _ X.A (PySem.passOn _ (.ref a) ce : Sem Value) _ _ _
  unfold PySem.passOn
  refine wpAny_bind (wpAny_field ha2 hd e1 ?_)
  rw [if_neg (show ¬ ((Value.ref T == Value.none) = true) from by simp), fr, hf]
  have fin : wpAny (model X.prog X.w) X.A (setFlight (.ref a) (some X.env.locals)) (fun _ s4 => wpAny (model X.prog X.w) X.A (throw (.ref a) : Sem Value) (fun _ _ => False) X.xe s4) X.xe { s' with heap := h2 } := by
    refine HandSPX.setFlight_onZ held2 fun h3 held3 up3 => wpAny_throw (tk _ _ ?_)
    obtain ⟨G0, g1, g2⟩ := restrict s'.heap fun b => decide (b ≠ C) && ((B.get? b).isSome || decide (b ∈ frs X.stack))
    have st : B.StaysIn s'.heap := fl.1
    have gB : ∀ {b o}, B0.get? b = some o → G0.get? b = some o := fun {b o} e => by
      obtain ⟨z, e2⟩ := inB e
      rw [g1 b (by simp [z, e2])]
      exact st b o e2
    have gF : ∀ {b}, b ∈ frs X.stack → G0.get? b = s'.heap.get? b := fun {b} hb => g1 b (by
      have z : b ≠ C := fun z => cfs (z ▸ hb)
      simp [z, hb])
    have og : ∀ {b o}, G0.get? b = some o → b ≠ C ∧ s'.heap.get? b = some o ∧ ((B.get? b).isSome = true ∨ b ∈ frs X.stack) := fun {b o} e => by
      cases q : (decide (b ≠ C) && ((B.get? b).isSome || decide (b ∈ frs X.stack))) with
      | false =>
        rw [g2 b q] at e
        cases e
      | true =>
        rw [g1 b q] at e
        simp only [Bool.and_eq_true, Bool.or_eq_true, decide_eq_true_eq] at q
        exact ⟨q.1, e, q.2⟩
    have hok0 : HOk X.prog X.w H' B0 := fun b o q => (hokB b o q).stay (fun c v hc r => toB (fun z => by
      rcases hc with hc | hc
      · rw [← hc, z, hC] at q
        cases q
      · rw [z, hC] at hc
        cases hc) r) (fun _ r => r) fun _ _ r => r
    refine ⟨a, B0, { t with heap := G0, gens := s'.gens, drawn := s'.drawn, toks := s'.toks }, pins0, σ0, H', cls, d, rfl, ?_, fun b o e hb => ?_, fun b o e hnf => ?_, .inr (.inr (by rw [hs]; exact held3)), na, os, ag, w⟩
    · refine Inv.call (s := { t with heap := T0 }) (h' := G0) (g' := s'.gens) (t' := s'.toks) (d' := s'.drawn) (H' := H') (ch := []) K0 ⟨fun b o e n hb _ => gB (toB (inT e).1 (ub.keep b o (inT e).2 n hb)), fun b o e n hb _ => ?_, fun b o e n _ => ub.free b o (inT e).2 n, fun b o e _ => ?_, ub.tups, ub.frzs, ub.tbls⟩ (hok0.kept fun b o e => gB e) ag (fun _ z => nomatch z)
      · obtain ⟨sl, q⟩ := ub.slot b o (inT e).2 hb
        exact ⟨sl, by rw [gF hb]; exact q⟩
      · by_cases hb : b ∈ frs X.stack
        · obtain ⟨sl, q⟩ := ub.slot b o (inT e).2 hb
          exact ⟨_, by rw [gF hb]; exact q⟩
        · obtain ⟨o', q⟩ := ub.there b o (inT e).2 hb
          exact ⟨o', gB (toB (inT e).1 q)⟩
    · obtain ⟨z, e', q⟩ := og e
      rcases q with q | q
      · obtain ⟨o', q⟩ := Option.isSome_iff_exists.mp q
        have y := st b o' q
        rw [e'] at y
        cases y
        exact toB z q
      · exact absurd q hb
    · obtain ⟨z, e', _⟩ := og e
      obtain ⟨sl, q⟩ := up1 b o e' hnf
      have q2 : h2.get? b = some { o with slots := sl } := (sb.2 b z).trans q
      obtain ⟨sl2, q3⟩ := up3 b _ q2 hnf
      exact ⟨sl2, q3⟩
  first
    | exact wpAny_bind (wpAny_pure (wpAny_bind fin))
    | exact wpAny_bind fin
/-- the block runs, its turns may raise -/
theorem core {E : XK} {pins : List (Addr × Obj)} {t0 : Shared} {σ : L2.St} {H0 : Hp} {Q : VK} {el tgt src : Expr} {cs : List Expr} {sc : Scope} {own : List (Str × Nat)} {pp pq : Pos} {ti : TI} {tg : TG} {tt : TT} {te : TE} {Qf : Value → Shared → Prop}
    (calm : X.calm = true) (nodup : X.N.Nodup) (tk : Takes X (fun c d _ G => E c d G)) (hs : X.stack = X.env :: X.outer) (hf : X.env.frame = some X.env.locals) (J0 : Inv X pins σ H0 t0) (walk : PI X tgt src ti) (bk : BlkOk X.N X.env.scope sc own)
    (g1 : ∀ (s : Shared) (H : Hp) (C : Addr) (cl : List (Str × Addr)) (fp : List Addr), PG (BlE X E s H sc (compEnvC sc cl C X.env) fp) tgt tg)
    (g2 : ∀ (s : Shared) (H : Hp) (C : Addr) (cl : List (Str × Addr)) (fp : List Addr), PTs (BlE X E s H sc (compEnvC sc cl C X.env) fp) cs tt)
    (g3 : ∀ (s : Shared) (H : Hp) (C : Addr) (cl : List (Str × Addr)) (fp : List Addr), PE (BlE X E s H sc (compEnvC sc cl C X.env) fp) el te)
    (fs : ∀ x, foldedSetIterable src X.env x = pure x) (rd : tLc ti tg tt te (own.map (·.2)) σ H0 Q)
    (fin : ∀ D C t m G, Inv X pins σ G t → Q (.ref D) G → t.heap.Ns C m → FpOk X pins G C → ∀ g, Heap.SameBut C t.heap g → Qf (.ref D) { t with heap := g }) :
    wpAny (model X.prog X.w) X.A (comprehension (.ListComp el [⟨tgt, src, cs, 0⟩] sc pp) sc X.env pq (newList []) false (eval src X.env) none) Qf X.xe t0 := by
  have outer : ∀ y ∈ sc.names, y.2 = .free → ∃ c, X.env.cells.lookup y.1 = some c := by
    intro y hy ey
    cases bk.free y hy ey with
    | inl z => exact J0.ok.has _ (Or.inl z)
    | inr z => exact J0.ok.has _ (Or.inr z)
  apply compE rfl fs (closure_ok outer) bk.kind (by intro y hy ey; rw [bk.uniq y hy, ey])
  apply thn (walk.run pins t0 σ H0 _ J0 rd)
  intro xv t1 hx
  apply thn hx
  rintro itv t2 ⟨it, fp, tn, W0, H1, rfl, J1, tr, st1, fpo, loopd⟩
  refine wpAny_newObj_type (newEnv_comp ?body) (by show 0 ≤ sizeLine; decide)
  obtain ⟨D, eD⟩ : ∃ D, D = t2.heap.objs.size := ⟨_, rfl⟩
  have nD : H1 D = none := J1.hok.fresh (Nat.le_of_eq eD.symm)
  obtain ⟨W, ⟨m0, start⟩, turn⟩ := loopd D nD
  obtain ⟨t3, e3⟩ : ∃ t3 : Shared, t3 = { t2 with heap := t2.heap.push { cls := .type "list", data := .seq ([] : List Value).toArray } } := ⟨_, rfl⟩
  have h3 : t3.heap = t2.heap.push { cls := .type "list", data := .seq ([] : List Value).toArray } := by rw [e3]
  have keep3 : ∀ b o, t2.heap.get? b = some o → t3.heap.get? b = some o := fun b o e => by
    rw [h3]
    exact Heap.get?_push_of_some _ e
  have J2 : Inv X pins σ (upd H1 D (.lst [])) t3 := by
    subst e3 eD
    exact J1.laid (t' := t2.toks) (fun _ _ e => Heap.get?_push_of_some _ e) (Nat.le_refl _) ⟨Nat.zero_le _, [], 0, .nil, Heap.get?_push_size _ rfl⟩
  have low : ∀ b ∈ fp, b < D := fun b hb => by
    obtain ⟨o, e, _⟩ := tr.obj _ _ st1 b hb
    rw [eD]
    exact Heap.lt_size e
  have fp3 : ∀ b ∈ fp, FpOk X pins (upd H1 D (.lst [])) b ∧ b < t3.heap.objs.size := fun b hb => by
    have l1 := low b hb
    constructor
    · refine ⟨?_, (fpo b hb).2⟩
      rw [upd_ne (Nat.ne_of_lt l1)]
      exact (fpo b hb).1
    · rw [h3, Heap.size_push, ← eD]
      exact Nat.lt_succ_of_lt l1
  have st3 : tn 0 t3.heap := tr.keep _ _ _ st1 fun b _ o e => keep3 b o e
  have J3 := block_start J2 bk nodup fp3
  have p1 := g1 t3 (upd H1 D (.lst [])) t3.heap.objs.size (cellsFrom (t3.heap.objs.size + 1) sc.names (cloFrom X.env.cells sc.names [])) fp
  have p2 := g2 t3 (upd H1 D (.lst [])) t3.heap.objs.size (cellsFrom (t3.heap.objs.size + 1) sc.names (cloFrom X.env.cells sc.names [])) fp
  have p3 := g3 t3 (upd H1 D (.lst [])) t3.heap.objs.size (cellsFrom (t3.heap.objs.size + 1) sc.names (cloFrom X.env.cells sc.names [])) fp
  rw [← eD, ← e3]
  have gone : ∀ b ∈ fp, (upd H1 D (.lst [])) b = none := fun b hb => (fp3 b hb).1.1
  obtain ⟨C, eC⟩ : ∃ C, C = t3.heap.objs.size := ⟨_, rfl⟩
  rw [← eC] at J3 p1 p2 p3 ⊢
  obtain ⟨ce, ece⟩ : ∃ ce, ce = compEnvC sc (cellsFrom (C + 1) sc.names (cloFrom X.env.cells sc.names [])) C X.env := ⟨_, rfl⟩
  rw [← ece] at J3 p1 p2 p3
  have loc : ce.locals = C := by rw [ece]; rfl
  have frm : ce.frame = X.env.frame := by rw [ece]; rfl
  obtain ⟨G0, eG0⟩ : ∃ G0, G0 = upd H1 D (.lst []) := ⟨_, rfl⟩
  rw [← eG0] at J2 J3 p1 p2 p3 start gone fp3
  obtain ⟨t4, e4⟩ : ∃ t4 : Shared, t4 = { t3 with heap := pushCells (t3.heap.push { cls := .type "dict", data := .dict #[] }) sc.names } := ⟨_, rfl⟩
  rw [← e4] at J3
  have st4 : tn 0 t4.heap := tr.keep _ _ _ st3 fun b _ o e => by
    rw [e4]
    exact pushCells_keeps _ _ _ _ (Heap.get?_push_of_some _ e)
  have still : ∀ {σ' : L2.St} {G : Hp} {t : Shared}, Inv (BlE X E t3 G0 sc ce fp) [] σ' G t → (∀ b ∈ fp, G b = none) → ∀ b ∈ fp, FpOk (BlE X E t3 G0 sc ce fp) [] G b := by
    intro σ' G t J free b hb
    obtain ⟨x1, x2⟩ := J.ok.exf b hb
    refine ⟨free b hb, x1, J.ok.exfs b hb, Or.inl hb, x2, ?_⟩
    intro p hp
    cases hp
  have run : codeAny (model X.prog X.w) X.A (.compLoop (.ListComp el [⟨tgt, src, cs, 0⟩] sc pp) 0 (.ref it) (.ref D) ce) (cpX (model X.prog X.w) X.A X.xe Qf (.ref D) C ce) t4 := by
    let BX := BlE X E t3 G0 sc ce fp
    let ws := own.map (·.2)
    have err : ∀ (u : Value) (t : Shared), BX.xe u t → notedBy (model X.prog X.w) X.A ce (fun e t => cpX (model X.prog X.w) X.A X.xe Qf (.ref D) C ce (.error e) t) u t := fun u t x =>
      out tk hs hf J2 (fun b hb => (fp3 b hb).1) eC loc frm x
    apply compLoop_any (fun n t => ∃ i G, Inv BX [] (wipe σ ws) G t ∧ tn i t.heap ∧ (∀ b ∈ fp, G b = none) ∧ W i n G) ?step m0 ⟨0, G0, to_E J3, st4, gone, start⟩
    rintro n t ⟨i, G, J, st, free, here⟩
    cases turn i n G here with
    | inl over =>
      obtain ⟨stp, qq⟩ := over
      apply thnF (tr.done BX rfl rfl rfl calm i [] t _ G (fun _ _ => False) J (still J free) st stp)
      rintro r t' ⟨er, J'⟩
      subst er
      have J'' := of_E J'
      have back : Inv X pins σ G t' := J2.call' (ch := fp) J''.os J''.base J''.hok J''.bare fun b hb => by
        obtain ⟨v1, v2, v3, v4, v5, v6⟩ := (fp3 b hb).1
        exact ⟨v4, v2, v5, v6⟩
      have nC : G C = none := by
        have z : G ce.locals = none := J'.free
        rw [loc] at z
        exact z
      obtain ⟨m, hm, _⟩ := J'.loc
      have hm2 : t'.heap.Ns ce.locals m := hm
      rw [loc] at hm2
      exact ⟨m, hm2, fin D C t' m G back qq hm2 (J2.fpOk (Nat.le_of_eq eC.symm) nC)⟩
    | inr more =>
      obtain ⟨go, Nx, nxt, stepd⟩ := more
      apply thnF (tr.item BX rfl rfl rfl calm i [] t _ G (fun _ _ => False) J (still J free) st go)
      rintro r t5 ⟨u, er, h5⟩
      subst er
      apply thnF h5
      rintro _ t6 ⟨x, G6, J6, r6, y6, st6, f6⟩
      have J6p := J6.pinned (still J6 f6) (tr.obj _ _ st6)
      refine wpAny_mono (p1.run _ t6 _ G6 x u _ J6p r6 (stepd x G6 y6)) ?_ err
      rintro _ t7 ⟨σ7, G7, J7, w7, q7⟩
      refine wpAny_mono (p2.run _ t7 σ7 G7 _ J7 q7) ?_ err
      rintro b t8 ⟨G8, J8, q8⟩
      have next : ∀ (t' : Shared) (G' : Hp), Inv BX ([] ++ pinsAt fp t6.heap) σ7 G' t' → Nx G' → ∃ m, m < n ∧ ∃ i G, Inv BX [] (wipe σ ws) G t' ∧ tn i t'.heap ∧ (∀ b ∈ fp, G b = none) ∧ W i m G := by
        intro t' G' Jn nx
        obtain ⟨m', lm, wn⟩ := nxt G' nx
        have pinned : ∀ b ∈ fp, ∀ o, t6.heap.get? b = some o → t'.heap.get? b = some o ∧ G' b = none := by
          intro b hb o e
          obtain ⟨k1, k2, _⟩ := Jn.pin (b, o) (List.mem_append_right _ (List.mem_append_right _ (mem_pinsAt hb e)))
          exact ⟨k1, k2⟩
        have len : (wipe σ ws).length = σ7.length := by
          rw [← w7]
          exact wipe_length ..
        have weak : Inv BX [] (wipe σ ws) G' t' := (Jn.unpinned (pins := [])).weak len (by
          intro j v e
          rw [← w7] at e
          exact (wipe_some e).1)
        have kept : tn (i + 1) t'.heap := tr.keep _ _ _ st6 (fun b hb o e => (pinned b hb o e).1)
        refine ⟨m', lm, i + 1, G', weak, kept, ?_, wn⟩
        intro b hb
        obtain ⟨o, e, _⟩ := tr.obj _ _ st6 b hb
        exact (pinned b hb o e).2
      by_cases hb : b = true
      · subst hb
        rw [if_pos rfl] at q8 ⊢
        refine wpAny_mono (p3.run _ t8 σ7 G8 _ J8 q8) ?_ err
        rintro vv ta ⟨yv, Ga, Ja, ra, xs, eDa, lt, nx⟩
        exact app_ok (X := BX) Ja eDa lt ra fun t' J' => next t' _ J' nx
      · rw [if_neg hb] at q8 ⊢
        exact next t8 G8 J8 q8
  show codeAny _ _ (.compStart (.ListComp el [⟨tgt, src, cs, 0⟩] sc pp) 0 (.ref it) (.ref D) (compEnvC sc (cellsFrom (C + 1) sc.names (cloFrom X.env.cells sc.names [])) C X.env)) (cpX (model X.prog X.w) X.A X.xe Qf (.ref D) C (compEnvC sc (cellsFrom (C + 1) sc.names (cloFrom X.env.cells sc.names [])) C X.env)) { t3 with heap := pushCells (t3.heap.push { cls := .type "dict", data := .dict #[] }) sc.names }
  rw [← ece, ← e4]
  exact codeAny_compStart_list run (tr.self X.A 0 _ _ _ st4 run)
/-- as a value -/
theorem pe_lcE {E : XK} {el tgt src : Expr} {cs : List Expr} {sc : Scope} {own : List (Str × Nat)} {pp : Pos} {ti : TI} {tg : TG} {tt : TT} {te : TE} (calm : X.calm = true) (nodup : X.N.Nodup) (tk : Takes X (fun c d _ G => E c d G)) (hs : X.stack = X.env :: X.outer) (hf : X.env.frame = some X.env.locals) (walk : PI X tgt src ti) (bk : BlkOk X.N X.env.scope sc own)
    (g1 : ∀ (s : Shared) (H : Hp) (C : Addr) (cl : List (Str × Addr)) (fp : List Addr), PG (BlE X E s H sc (compEnvC sc cl C X.env) fp) tgt tg)
    (g2 : ∀ (s : Shared) (H : Hp) (C : Addr) (cl : List (Str × Addr)) (fp : List Addr), PTs (BlE X E s H sc (compEnvC sc cl C X.env) fp) cs tt)
    (g3 : ∀ (s : Shared) (H : Hp) (C : Addr) (cl : List (Str × Addr)) (fp : List Addr), PE (BlE X E s H sc (compEnvC sc cl C X.env) fp) el te) (fs : ∀ x, foldedSetIterable src X.env x = pure x := by intro _; rfl) :
    PE X (.ListComp el [⟨tgt, src, cs, 0⟩] sc pp) (tLc ti tg tt te (own.map (·.2))) := by
  constructor
  intro pins t σ H Q J h
  rw [eval_ListComp]
  apply core calm nodup tk hs hf J walk bk g1 g2 g3 fs h
  rintro D C t' m G J' q hn ⟨f0, f1, f2, f3, f4, f5⟩ h2 sb
  have J2 := J'.turned (t' := t'.toks) (fun c o hc e => (sb.2 c hc).trans e) f0 f1 f3 f4 f5
  exact ⟨.ref D, G, J2, rfl, q⟩
end LcE

/-! Numbers to the base 128: what a row of bytes says; a raise of an own class without arguments. -/
namespace C1
open PySem PySem.Spec PyProof.Rows L2 SX
/-- a number at the front of bytes: the number, how many bytes -/
def numL : List Nat → Option (Nat × Nat)
  | [] => none
  | b :: r => if b < 128 then some (b, 1) else match numL r with
    | none => none
    | some (n, k) => if n = 0 then none else some (b % 128 + 128 * n, k + 1)
def valN : List Nat → Nat
  | [] => 0
  | b :: r => b % 128 + 128 * valN r
def hiL (l : List Nat) : Prop := ∀ b ∈ l, 128 ≤ b
theorem numL_hi : ∀ {l : List Nat}, hiL l → numL l = none
  | [], _ => rfl
  | b :: r, h => by
    have hb := h b (List.mem_cons_self ..)
    unfold numL
    rw [if_neg (by omega), numL_hi (l := r) fun x hx => h x (List.mem_cons_of_mem _ hx)]
theorem valN_last {l : List Nat} {b : Nat} (hb : b < 128) (h0 : b ≠ 0) : valN (l ++ [b]) ≠ 0 := by
  induction l with
  | nil =>
    show b % 128 + 128 * 0 ≠ 0
    omega
  | cons a l ih =>
    show a % 128 + 128 * valN (l ++ [b]) ≠ 0
    omega
theorem numL_run : ∀ {l : List Nat} {b : Nat} {r : List Nat}, hiL l → b < 128 → numL (l ++ b :: r) = if l ≠ [] ∧ b = 0 then none else some (valN (l ++ [b]), l.length + 1)
  | [], b, r, _, hb => by
    show (if b < 128 then some (b, 1) else _) = _
    rw [if_pos hb, if_neg (fun z => z.1 rfl)]
    show some (b, 1) = some (b % 128 + 128 * 0, 0 + 1)
    rw [Nat.mod_eq_of_lt hb, Nat.mul_zero, Nat.add_zero, Nat.zero_add]
  | a :: l, b, r, h, hb => by
    have ha := h a (List.mem_cons_self ..)
    have ih := numL_run (l := l) (b := b) (r := r) (fun x hx => h x (List.mem_cons_of_mem _ hx)) hb
    show (if a < 128 then some (a, 1) else match numL (l ++ b :: r) with
      | none => none
      | some (n, k) => if n = 0 then none else some (a % 128 + 128 * n, k + 1)) = _
    rw [if_neg (by omega), ih]
    by_cases h0 : b = 0
    · rw [if_pos (show a :: l ≠ [] ∧ b = 0 from ⟨by simp, h0⟩)]
      by_cases hl : l = []
      · subst hl
        rw [if_neg (fun z => z.1 rfl)]
        have e : valN ([] ++ [b]) = 0 := by
          rw [h0]
          rfl
        rw [e]
        rfl
      · rw [if_pos ⟨hl, h0⟩]
    · rw [if_neg (fun z => h0 z.2), if_neg (fun z => h0 z.2)]
      show (if valN (l ++ [b]) = 0 then none else some (a % 128 + 128 * valN (l ++ [b]), l.length + 1 + 1)) = _
      rw [if_neg (valN_last hb h0)]
      rfl
theorem numL_len : ∀ {l : List Nat} {n k : Nat}, numL l = some (n, k) → 1 ≤ k ∧ k ≤ l.length
  | [], _, _, h => by cases h
  | b :: r, n, k, h => by
    unfold numL at h
    by_cases hb : b < 128
    · rw [if_pos hb] at h
      cases h
      exact ⟨Nat.le_refl _, by show 1 ≤ r.length + 1; omega⟩
    · rw [if_neg hb] at h
      cases e : numL r with
      | none =>
        rw [e] at h
        cases h
      | some p =>
        obtain ⟨n', k'⟩ := p
        rw [e] at h
        have ih := numL_len e
        have h : (if n' = 0 then none else some (b % 128 + 128 * n', k' + 1)) = some (n, k) := h
        by_cases hn : n' = 0
        · rw [if_pos hn] at h
          cases h
        · rw [if_neg hn] at h
          cases h
          exact ⟨by omega, by show k' + 1 ≤ r.length + 1; omega⟩
/-- the bytes of a number -/
def bytesN : Nat → Nat → List Nat
  | 0, n => [n]
  | f + 1, n => if n < 128 then [n] else (n % 128 + 128) :: bytesN f (n / 128)
theorem bytesN_lt : ∀ {f n : Nat}, n < 128 ^ (f + 1) → ∀ b ∈ bytesN f n, b < 256
  | 0, n, h, b, hb => by
    rw [List.mem_singleton.mp hb]
    have : (128 : Nat) ^ (0 + 1) = 128 := rfl
    omega
  | f + 1, n, h, b, hb => by
    unfold bytesN at hb
    by_cases hn : n < 128
    · rw [if_pos hn] at hb
      rw [List.mem_singleton.mp hb]
      omega
    · rw [if_neg hn] at hb
      rcases List.mem_cons.mp hb with e | e
      · omega
      · refine bytesN_lt (f := f) (n := n / 128) ?_ b e
        rw [Nat.div_lt_iff_lt_mul (by decide)]
        exact h
theorem numL_bytes : ∀ {f n : Nat} {r : List Nat}, n < 128 ^ (f + 1) → numL (bytesN f n ++ r) = some (n, (bytesN f n).length)
  | 0, n, r, h => by
    have : (128 : Nat) ^ (0 + 1) = 128 := rfl
    show (if n < 128 then some (n, 1) else _) = _
    rw [if_pos (by omega)]
    rfl
  | f + 1, n, r, h => by
    unfold bytesN
    by_cases hn : n < 128
    · rw [if_pos hn]
      show (if n < 128 then some (n, 1) else _) = _
      rw [if_pos hn]
      rfl
    · rw [if_neg hn]
      have ih := numL_bytes (f := f) (n := n / 128) (r := r) (by rw [Nat.div_lt_iff_lt_mul (by decide)]; exact h)
      show (if n % 128 + 128 < 128 then some (n % 128 + 128, 1) else match numL (bytesN f (n / 128) ++ r) with
        | none => none
        | some (n', k) => if n' = 0 then none else some ((n % 128 + 128) % 128 + 128 * n', k + 1)) = _
      rw [if_neg (by omega), ih]
      show (if n / 128 = 0 then none else some ((n % 128 + 128) % 128 + 128 * (n / 128), (bytesN f (n / 128)).length + 1)) = _
      rw [if_neg (by omega)]
      have e : (n % 128 + 128) % 128 + 128 * (n / 128) = n := by omega
      rw [e]
      rfl
/-- what stands at a place of a row -/
def takeP (row : List Nat) (p : Nat) : Option (Nat × Nat) := match numL (row.drop p) with
  | none => none
  | some (n, k) => some (n, p + k)
def takesP (row : List Nat) : Nat → Nat → Option (List Nat × Nat)
  | 0, p => some ([], p)
  | i + 1, p => match takesP row i p with
    | none => none
    | some (acc, q) => match takeP row q with
      | none => none
      | some (n, q') => some (acc ++ [n], q')
theorem takeP_le {row : List Nat} {p n q : Nat} (h : takeP row p = some (n, q)) : p + 1 ≤ q ∧ q ≤ row.length := by
  unfold takeP at h
  cases e : numL (row.drop p) with
  | none =>
    rw [e] at h
    cases h
  | some x =>
    obtain ⟨m, k⟩ := x
    rw [e] at h
    cases h
    have z := numL_len e
    rw [List.length_drop] at z
    omega
theorem takesP_le {row : List Nat} {p : Nat} (hp : p ≤ row.length) : ∀ {i : Nat} {acc : List Nat} {q : Nat}, takesP row i p = some (acc, q) → acc.length = i ∧ p + i ≤ q ∧ q ≤ row.length
  | 0, acc, q, h => by
    cases h
    exact ⟨rfl, Nat.le_refl _, hp⟩
  | i + 1, acc, q, h => by
    unfold takesP at h
    cases e : takesP row i p with
    | none =>
      rw [e] at h
      cases h
    | some x =>
      obtain ⟨ac, q1⟩ := x
      rw [e] at h
      have ih := takesP_le hp e
      cases e2 : takeP row q1 with
      | none =>
        have h : (match takeP row q1 with | none => none | some (n, q') => some (ac ++ [n], q')) = some (acc, q) := h
        rw [e2] at h
        cases h
      | some y =>
        obtain ⟨n, q2⟩ := y
        have h : (match takeP row q1 with | none => none | some (n, q') => some (ac ++ [n], q')) = some (acc, q) := h
        rw [e2] at h
        cases h
        have z := takeP_le e2
        refine ⟨by rw [List.length_append, ih.1]; rfl, by omega, z.2⟩
theorem takesP_some {row : List Nat} {i p : Nat} {acc : List Nat} {q n q' : Nat} (h : takesP row i p = some (acc, q)) (e : takeP row q = some (n, q')) : takesP row (i + 1) p = some (acc ++ [n], q') := by
  unfold takesP
  rw [h]
  show (match takeP row q with | none => none | some (n, q') => some (acc ++ [n], q')) = _
  rw [e]
theorem takesP_stop {row : List Nat} {i p : Nat} {acc : List Nat} {q : Nat} (h : takesP row i p = some (acc, q)) (e : takeP row q = none) : takesP row (i + 1) p = none := by
  unfold takesP
  rw [h]
  show (match takeP row q with | none => none | some (n, q') => some (acc ++ [n], q')) = _
  rw [e]
theorem takesP_none {row : List Nat} {i p : Nat} (h : takesP row i p = none) : ∀ {j : Nat}, i ≤ j → takesP row j p = none
  | 0, hj => by
    have : i = 0 := by omega
    subst this
    exact h
  | j + 1, hj => by
    by_cases e : i = j + 1
    · subst e
      exact h
    · unfold takesP
      rw [takesP_none h (j := j) (by omega)]
/-- more numbers than bytes -/
theorem takesP_many {row : List Nat} {i p : Nat} (hp : p ≤ row.length) (h : row.length < i) : takesP row i p = none := by
  cases e : takesP row i p with
  | none => rfl
  | some x =>
    obtain ⟨acc, q⟩ := x
    have := takesP_le hp e
    omega
section
variable {X : Cx}
/-- an own class, made without arguments -/
theorem pmk_own0 {C : Addr} {bmB : List Value} {B newId initId : String} {x : Str} {p pos : Pos} (F : ExcBaseFacts B newId initId bmB) (q : PySem.W.excIn X.K C bmB newId = true) (gC : X.mg x = some (.ref C))
    (kC : PySem.W.keepIn X.K (.ref C) = true) (r : Raises X (.ref C)) (hg : Gl X x) (hdb : (x == ("__debug__" : Str)) = false := by decide) : PMk X (.Call (.Name x p) [] [] pos) (fun _ H Q => Q (.ref C) none H) := by
  intro pins s σ H Q I h
  refine wpAny_Call_Name_kw (ld_glob I hg gC ?_ hdb)
  refine PySem.W.callWith_K0 I.kIn kC ?_
  show wpAny _ _ (call (.ref C) []) _ _ _
  obtain ⟨bm, N, nm, qn, bs, hdct, sn, sub, ab, col, dd, k0, k1, k2, k3, k5, mN, hC, hN, hni, T⟩ := exc_obj I.kIn q
  exact wpAny_call_exc_subT F T hC hN hni (fun h' e hm => mk_of I hm r h (I.hok.gone hm.new)) (Nat.zero_le _)
/-- x >>= k of a number -/
def ipShr : TIp := fun x y H Q => ∃ (n k : Nat), x = .int (n : Int) ∧ y = .int (k : Int) ∧ Q (.int ((n / 2 ^ k : Nat) : Int)) H
end
end C1

/-! The program's numbers as bytes, and its reader of them. -/
namespace C1
open PySem PySem.Spec PyProof.Rows L2 SX
abbrev sOwnLiteral : Stmt := topS 14
abbrev sInit : Stmt := L2.inClass (topS 10) 0
abbrev sIsDone : Stmt := L2.inClass (topS 10) 1
abbrev sNextNumber : Stmt := L2.inClass (topS 10) 2
theorem scOwnLiteral : FnScope ["latches", "at"] ["latches", "at"] (defScope sOwnLiteral) := ⟨rfl, rfl, rfl, by decide +kernel, rfl, by decide +kernel, by decide +kernel⟩
theorem scInit : FnScope ["self", "row"] ["self", "row"] (defScope sInit) := ⟨rfl, rfl, rfl, by decide +kernel, rfl, by decide +kernel, by decide +kernel⟩
theorem scIsDone : FnScope ["self"] ["self"] (defScope sIsDone) := ⟨rfl, rfl, rfl, by decide +kernel, rfl, by decide +kernel, by decide +kernel⟩
theorem scNextNumber : FnScope ["self", "begin", "digits", "digit", "at"] ["self"] (defScope sNextNumber) := ⟨rfl, rfl, rfl, by decide +kernel, rfl, by decide +kernel, by decide +kernel⟩
abbrev NNX : List Str := ["self", "begin", "digits", "digit", "at"]
theorem iteF' {b : Bool} {A B : Prop} (hb : b = false) (h : B) : if b = true then A else B := by
  rw [hb]
  exact iteF h
theorem iteT' {b : Bool} {A B : Prop} (hb : b = true) (h : A) : if b = true then A else B := by
  rw [hb]
  exact iteT h
theorem cut_mid (xs : List V) (i j : Nat) (h1 : i ≤ j) (h2 : j ≤ xs.length) : cutV xs (some ((i : Nat) : Int)) (some ((j : Nat) : Int)) = (xs.drop i).take (j - i) := by
  unfold cutV
  rw [HT.sIx_nat, HT.sIx_nat, Nat.min_eq_left h2, Nat.min_eq_left (by omega)]
structure RdT (K : PySem.W.Frag) (mg : Str → Option Value) (C CB : Addr) : Prop where
  cl : Cls K C
  nI : NoAttr K C "_image"
  nA : NoAttr K C "_at"
  gC : mg "NumberReader" = some (.ref C)
  gB : mg "BadImage" = some (.ref CB)
  xB : PySem.W.excIn K CB [.type "ValueError", .type "Exception", .type "BaseException", .type "object"] "ValueError.__new__" = true
  kB : PySem.W.keepIn K (.ref CB) = true
  bB : PySem.W.subIn K (.ref CB) (.type "BaseException") = some true
  tB : PySem.W.typeIn K (.ref CB) = some (.type "type")
structure BV (mg : Str → Option Value) : Prop where
  len : mg "len" = none
  all : mg "all" = none
  sum : mg "sum" = none
  enumerate : mg "enumerate" = none
  range : mg "range" = none
  tuple : mg "tuple" = none
  divmod : mg "divmod" = none
  zip : mg "zip" = none
  list : mg "list" = none
  int : mg "int" = none
  max : mg "max" = none
/-- a reader at the place p of the row at img -/
def rF (img : Addr) (p : Nat) : List (Str × V) := [("_image", .ref img), ("_at", iV p)]
def Rd (C : Addr) (H : Hp) (a img : Addr) (p : Nat) : Prop := ∃ dx, H a = some (.ins C dx (rF img p))
theorem rF_i (img : Addr) (p : Nat) : (rF img p).lookup ("_image" : Str) = some (.ref img) := rfl
theorem rF_a (img : Addr) (p : Nat) : (rF img p).lookup ("_at" : Str) = some (iV p) := rfl
theorem rF_put (img : Addr) (p q : Nat) : putF "_at" (iV q) (rF img p) = rF img q := rfl
theorem rF_new (img : Addr) : putF "_at" (.int 0) (putF "_image" (.ref img) []) = rF img 0 := rfl
def Bytes (l : List Nat) : Prop := ∀ b ∈ l, b < 256
section
variable {P : Program} {w : World} {K : PySem.W.Frag} {mg : Str → Option Value} {base : Heap} {C CB : Addr}
def spOwn : Sp := fun vs H Q _ => ∃ L k : Nat, vs = [iV L, iV k] ∧ Q (iV (2 * (1 + L + k))) H
theorem ok_own {f : Addr} {fd : FuncData} (F : Fun K "own_literal" "own_literal" sOwnLiteral f fd) : FnOk P w K mg base CX0 1 f fd ["latches", "at"] spOwn := by
  refine F.ok scOwnLiteral (fun vs H Q E h => ?_) (fun cdv A outer s H vs Q E hr h => ?_)
  · obtain ⟨L, k, rfl, _⟩ := h
    rfl
  · obtain ⟨L, k, rfl, q⟩ := h
    have nd := scOwnLiteral.nd
    refine ⟨_, (pss_one (ps_ret (pe_op op_mulN (pe_int) (pe_op op_addN (pe_op op_addN (pe_int) (pv 0)) (pv 1))))), ?_⟩
    exact ⟨_, rfl, 1, L, rfl, rfl, _, rfl, 1 + L, k, rfl, rfl, 2, 1 + L + k, rfl, rfl, by decide, q⟩
def spInitR (C : Addr) : Sp := fun vs H Q _ => ∃ (a dx row : Addr), vs = [.ref a, .ref row] ∧ H a = some (.ins C dx []) ∧ ∀ H' : Hp, Rd C H' a row 0 → Kp a H H' → Q .non H'
theorem ok_initR {f : Addr} {fd : FuncData} (F : Fun K "__init__" "NumberReader.__init__" sInit f fd) (T : RdT K mg C CB) : FnOk P w K mg base CX0 1 f fd ["self", "row"] (spInitR C) := by
  refine F.ok scInit (fun vs H Q E h => ?_) (fun cdv A outer s H vs Q E hr h => ?_)
  · obtain ⟨a, dx, row, rfl, _⟩ := h
    rfl
  · obtain ⟨a, dx, row, rfl, ha, q⟩ := h
    have nd := scInit.nd
    refine ⟨_, (pss_cons (ps_fld (pv 0) (pv 1) rfl)
      (pss_one (ps_fld (pv 0) (pe_int) rfl))), ?_⟩
    refine ⟨_, rfl, _, rfl, a, C, dx, [], rfl, ha, T.cl, T.nI, (by show 0 < 1000; decide), ?_⟩
    refine ⟨_, rfl, a, C, dx, _, rfl, upd_same, T.cl, T.nA, (by show 1 < 1000; decide), ?_⟩
    exact q _ ⟨dx, upd_same⟩ fun b o hb e => by
      rw [upd_ne hb, upd_ne hb]
      exact e
def spDone (K : PySem.W.Frag) (C : Addr) : Sp := fun vs H Q _ => ∃ (a img : Addr) (p : Nat) (row : List Nat), vs = [.ref a] ∧ Rd C H a img p ∧ SqL K H img (row.map iV) ∧ Q (.bl (decide (p = row.length))) H
theorem ok_done {f : Addr} {fd : FuncData} (F : Fun K "is_done" "NumberReader.is_done" sIsDone f fd) (T : RdT K mg C CB) (B : BV mg) : FnOk P w K mg base CX0 1 f fd ["self"] (spDone K C) := by
  refine F.ok scIsDone (fun vs H Q E h => ?_) (fun cdv A outer s H vs Q E hr h => ?_)
  · obtain ⟨a, img, p, row, rfl, _⟩ := h
    rfl
  · obtain ⟨a, img, p, row, rfl, ⟨dx, ha⟩, sq, q⟩ := h
    have nd := scIsDone.nd
    refine ⟨_, (pss_one (ps_ret (pe_cmpR op_eq (pe_fld (pv 0) rfl) (pe_callB call_len_seq (by rfl) B.len PySem.boot_len (pa_cons (pe_fld (pv 0) rfl) pa_nil)) (nomark _)))), ?_⟩
    refine ⟨_, rfl, a, C, dx, _, _, rfl, ha, T.cl, T.nA, rF_a .., _, rfl, a, C, dx, _, _, rfl, ha, T.cl, T.nI, rF_i .., img, _, rfl, .inl sq, rfl, ?_⟩
    rw [List.length_map]
    have e : decide (V.int ((p : Nat) : Int) = V.int ((row.length : Nat) : Int)) = decide (p = row.length) := by
      refine decide_eq_decide.mpr ⟨fun z => by have := V.int.inj z; omega, fun z => by rw [z]⟩
    rw [e]
    exact q
def spNum1 (K : PySem.W.Frag) (C CB : Addr) : Sp := fun vs H Q E => ∃ (a img : Addr) (p : Nat) (row : List Nat), vs = [.ref a] ∧ Rd C H a img p ∧ H img = some (.lst (row.map iV)) ∧ p ≤ row.length ∧ row.length ≤ 400 ∧ Bytes row ∧
  (takeP row p = none → ∀ H', Kp a H H' → E (.ref CB) none H') ∧ ∀ n q, takeP row p = some (n, q) → ∀ H', Kp a H H' → Rd C H' a img q → Q (iV n) H'
theorem kp_trans {a : Addr} {H H1 H2 : Hp} (x : Kp a H H1) (y : Kp a H1 H2) : Kp a H H2 := fun b o hb e => y b o hb (x b o hb e)
theorem kp_put {a : Addr} {H : Hp} {o : HO} : Kp a H (upd H a o) := fun b o' hb e => by
  rw [upd_ne hb]
  exact e
theorem hi_more {l : List Nat} {i b : Nat} (h : hiL (l.take i)) (e : l[i]? = some b) (hb : 128 ≤ b) : hiL (l.take (i + 1)) := by
  rw [take_snoc e]
  intro x hx
  rcases List.mem_append.mp hx with z | z
  · exact h x z
  · rw [List.mem_singleton.mp z]
    exact hb
theorem take_all {l : List Nat} {i : Nat} (h : hiL (l.take i)) (hi : l.length ≤ i) : numL l = none := by
  rw [List.take_of_length_le hi] at h
  exact numL_hi h
theorem take_run {l : List Nat} {i b : Nat} (h : hiL (l.take i)) (e : l[i]? = some b) (hb : b < 128) : numL l = if i ≠ 0 ∧ b = 0 then none else some (valN (l.take (i + 1)), i + 1) := by
  have hi := (List.getElem?_eq_some_iff.mp e).1
  have e1 : l = l.take i ++ b :: l.drop (i + 1) := by
    have : l.drop i = b :: l.drop (i + 1) := by
      rw [List.drop_eq_getElem_cons hi]
      congr 1
      exact (List.getElem?_eq_some_iff.mp e).2
    rw [← this, List.take_append_drop]
  have l1 : (l.take i).length = i := by
    rw [List.length_take]
    omega
  have e2 := numL_run (l := l.take i) (b := b) (r := l.drop (i + 1)) h hb
  rw [← e1, l1, ← take_snoc e] at e2
  rw [e2]
  have : (l.take i ≠ []) ↔ i ≠ 0 := by
    constructor
    · intro z y
      rw [y] at z
      exact z rfl
    · intro z y
      rw [y] at l1
      exact z l1.symm
  by_cases hz : i ≠ 0 ∧ b = 0
  · rw [if_pos hz, if_pos ⟨this.mpr hz.1, hz.2⟩]
  · rw [if_neg hz, if_neg fun z => hz ⟨this.mp z.1, z.2⟩]
def digV (i : Nat) (b : Nat) : Int := Builtin.bitAnd ((b : Nat) : Int) 127 * 2 ^ (7 * ((i : Nat) : Int)).toNat
theorem digV_eq (i b : Nat) : digV i b = ((b % 128 * 128 ^ i : Nat) : Int) := by
  unfold digV
  have e1 : (2 : Nat) ^ (7 * i) = 128 ^ i := Nat.pow_mul 2 7 i
  have e2 : (2 : Int) ^ (7 * i) = ((2 ^ (7 * i) : Nat) : Int) := (Int.natCast_pow 2 (7 * i)).symm
  rw [bitAnd_m7, show (7 * ((i : Nat) : Int)).toNat = 7 * i by omega, e2, e1, Int.natCast_mul]
  rfl
def sumD : Nat → List Nat → List Int
  | _, [] => []
  | i, b :: r => digV i b :: sumD (i + 1) r
theorem sumD_val : ∀ (l : List Nat) (i : Nat), (sumD i l).sum = ((128 ^ i * valN l : Nat) : Int)
  | [], i => rfl
  | b :: r, i => by
    show (digV i b :: sumD (i + 1) r).sum = ((128 ^ i * (b % 128 + 128 * valN r) : Nat) : Int)
    rw [List.sum_cons, sumD_val r (i + 1), digV_eq, ← Int.natCast_add]
    congr 1
    rw [Nat.pow_succ, Nat.mul_add, Nat.mul_comm (b % 128), Nat.mul_assoc]
theorem sumD_snoc : ∀ (l : List Nat) (i b : Nat), sumD i (l ++ [b]) = sumD i l ++ [digV (i + l.length) b]
  | [], i, b => rfl
  | a :: r, i, b => by
    show digV i a :: sumD (i + 1) (r ++ [b]) = digV i a :: (sumD (i + 1) r ++ [digV (i + (r.length + 1)) b])
    rw [sumD_snoc r (i + 1) b, show i + 1 + r.length = i + (r.length + 1) by omega]
theorem sumD_len : ∀ (l : List Nat) (i : Nat), (sumD i l).length = l.length
  | [], _ => rfl
  | _ :: r, i => by
    show (sumD (i + 1) r).length + 1 = r.length + 1
    rw [sumD_len r (i + 1)]
theorem lc_enL {a : Addr} {xs : List V} {g : TG} {te : TE} {ws : List Nat} {σ : L2.St} {H1 : Hp} {D : Addr} {Qd : Hp → Prop} (Rv : Nat → Hp → Prop) (h0 : Rv 0 (upd H1 D (.lst []))) (hl : ∀ i H, i ≤ xs.length → Rv i H → SqL K H a xs)
    (hs : ∀ i x T H, xs[i]? = some x → Rv i H → H T = none → g (.ref T) (wipe σ ws) (upd H T (.tup [.int (i : Nat), x])) fun σ2 H2 => wipe σ2 ws = wipe σ ws ∧ tYes σ2 H2 fun b H3 =>
      if b = true then te σ2 H3 fun y H4 => ∃ acc, H4 D = some (.lst acc) ∧ acc.length < sizeLine ∧ Rv (i + 1) (upd H4 D (.lst (acc ++ [y]))) else Rv (i + 1) H3) (hd : ∀ H, Rv xs.length H → Qd H) :
    ∃ W : Nat → Nat → Hp → Prop, (∃ m, W 0 m (upd H1 D (.lst []))) ∧ ∀ i m H, W i m H →
      ((Ite K a).stop i H ∧ Qd H) ∨ ((Ite K a).go i H ∧ ∃ Nx : Hp → Prop, (∀ H', Nx H' → ∃ m', m' < m ∧ W (i + 1) m' H') ∧ ∀ x H', (Ite K a).yld i H x H' → g x (wipe σ ws) H' fun σ2 H2 => wipe σ2 ws = wipe σ ws ∧ tYes σ2 H2 fun b H3 =>
        if b = true then te σ2 H3 fun y H4 => ∃ acc, H4 D = some (.lst acc) ∧ acc.length < sizeLine ∧ Nx (upd H4 D (.lst (acc ++ [y]))) else Nx H3) := by
  refine ⟨fun i m H => m = xs.length - i ∧ i ≤ xs.length ∧ Rv i H, ?_, ?_⟩
  · exact ⟨xs.length, rfl, Nat.zero_le _, h0⟩
  rintro i m H ⟨rfl, hi, q⟩
  have sq := hl i H hi q
  by_cases lt : i < xs.length
  · refine .inr ⟨⟨xs, xs[i], sq, by simp [lt]⟩, Rv (i + 1), fun H' q' => ⟨xs.length - (i + 1), by omega, rfl, lt, q'⟩, fun v H' y => ?_⟩
    obtain ⟨T, x, rfl, nT, rfl, hx⟩ := y
    exact hs i x T H (hx xs sq) q nT
  · obtain rfl : i = xs.length := by omega
    exact .inl ⟨⟨xs, sq, Nat.le_refl _⟩, hd H q⟩
theorem ivs_at {l : List Nat} {i : Nat} {x : V} (h : (l.map iV)[i]? = some x) : ∃ b, l[i]? = some b ∧ x = iV b := by
  rw [List.getElem?_map] at h
  obtain ⟨b, e, rfl⟩ := Option.map_eq_some_iff.mp h
  exact ⟨b, e, rfl⟩
theorem all_true : ∀ n : Nat, ((List.replicate n true).all id) = true
  | 0 => rfl
  | n + 1 => by
    rw [List.replicate_succ, List.all_cons, all_true n]
    rfl
theorem ok_num1 {f : Addr} {fd : FuncData} (F : Fun K "next_number" "NumberReader.next_number" sNextNumber f fd) (T : RdT K mg C CB) (B : BV mg) : FnOk P w K mg base (L2.CX P w) 1 f fd ["self"] (spNum1 K C CB) := by
  refine F.okX scNextNumber (fun vs H Q E h => ?_) (fun cdv A outer s H vs Q E hr h => ?_)
  · obtain ⟨a, img, p, row, rfl, _⟩ := h
    rfl
  · obtain ⟨a, img, p, row, rfl, ⟨dx, ha⟩, hrow, hp, hl, hb, qE, q⟩ := h
    have nd := scNextNumber.nd
    refine ⟨_, (pss_cons (ps_set (i := 1) nd rfl (.inl rfl) (pe_fld (pv 0) rfl))
      (C8.pss_cut (ps_while (passes_of rfl) (PW.pt (pw_and (pt_cmpR op_lt (pe_fld (pv 0) rfl) (pe_callB call_len_seq (by rfl) B.len PySem.boot_len (pa_cons (pe_fld (pv 0) rfl) pa_nil)) (nomark _)) (pw_and1 (pt_cmpR op_gt (pe_ix ix_list (pe_fld (pv 0) rfl) (pe_fld (pv 0) rfl) (fun _ _ => rfl)) (pe_int) (nomark _))))) (pss_one (ps_fldaug (pv 0) (pe_int) in_add)))
      (pss_cons (ps_if (pt_cmpR op_eq (pe_fld (pv 0) rfl) (pe_callB call_len_seq (by rfl) B.len PySem.boot_len (pa_cons (pe_fld (pv 0) rfl) pa_nil)) (nomark _)) (pss_one (ps_raise rfl (takes_of rfl rfl rfl rfl) (pmk_own0 PySem.F.excBase_ValueError T.xB T.gB T.kB (raises_own T.bB T.tB) (by exact rfl)))) pss_nil)
      (pss_cons (ps_fldaug (pv 0) (pe_int) in_add)
      (pss_cons (ps_set (i := 2) nd rfl (.inl rfl) (pe_slice sl_list (pe_fld (pv 0) rfl) (po_some (pv 1)) (po_some (pe_fld (pv 0) rfl))))
      (C8.pss_cut (ps_if (PW.pt (pw_or (PW.pt (pw_and (pt_cmpR op_gt (pe_callB call_len_seq (by rfl) B.len PySem.boot_len (pa_cons (pv 2) pa_nil)) (pe_int) (nomark _)) (pw_and1 (pt_cmpR op_eq (pe_ix ix_list (pv 2) (pe_un un_neg pe_int) (fun _ _ => rfl)) (pe_int) (nomark _))))) (pw_or1 (pt_not (pt_val (pe_callB (cr_all rfl) (by rfl) B.all (by decide +kernel) (pa_cons (pe_lc (own := [("digit", 3)]) (g := gName 3) (tt := tYes) (te := tChain (rI0 fun i j => .bl (decide (i ≤ j))) (rI0 fun i j => .bl (decide (i < j))) (tC (.int 0)) (tVar 3) (tC (.int 256)))  rfl nd (pi_list (pv 2)) (blkOk_by (own := [("digit", 3)]) (N := NNX) (sc := defScope sNextNumber) (by decide +kernel)) (fun _ _ _ _ _ => pg_name (i := 3) nd rfl (.inl rfl)) (fun _ _ _ _ _ => pts_nil) (fun _ _ _ _ _ => by exact (pe_chain op_le op_lt (pe_int) (pv 3) (pe_int)))) pa_nil))))))) (pss_one (ps_raise rfl (takes_of rfl rfl rfl rfl) (pmk_own0 PySem.F.excBase_ValueError T.xB T.gB T.kB (raises_own T.bB T.tB) (by exact rfl)))) pss_nil)
      (pss_one (ps_ret (pe_callB (cr_sum rfl) (by rfl) B.sum (by decide +kernel) (pa_cons (pe_lc (own := [("at", 4), ("digit", 3)]) (g := gTup K 2 (gCons (gName 4) (gCons (gName 3) (gNil)))) (tt := tYes) (te := tOp (rI CPow fun i j => .int (i * 2 ^ j.toNat)) (tOp (rI0 fun i j => .int (Builtin.bitAnd i j)) (tVar 3) (tC (.int 127))) (tOp (rI CMul fun i j => .int (i * j)) (tC (.int 7)) (tVar 4)))  rfl nd (pi_enum (by rfl) B.enumerate (pa_cons (pv 2) pa_nil)) (blkOk_by (own := [("at", 4), ("digit", 3)]) (N := NNX) (sc := defScope sNextNumber) (by decide +kernel)) (fun _ _ _ _ _ => pg_tup (by rfl) (pgs_cons (pg_name (i := 4) nd rfl (.inl rfl)) (pgs_cons (pg_name (i := 3) nd rfl (.inl rfl)) pgs_nil))) (fun _ _ _ _ _ => pts_nil) (fun _ _ _ _ _ => by exact (pe_op op_shl (pe_op op_and (pv 3) (pe_int)) (pe_op op_mul (pe_int) (pv 4))))) pa_nil)))))))))), ?_⟩
    have nai : img ≠ a := ne_of hrow ha (by intro z; cases z)
    refine ⟨_, rfl, a, C, dx, _, _, rfl, ha, T.cl, T.nA, rF_a .., ?_⟩
    refine ⟨fun σ H1 => ∃ m, p ≤ m ∧ m ≤ row.length ∧ σ = [some (.ref a), some (iV p), none, none, none] ∧ Rd C H1 a img m ∧ Kp a H H1 ∧ hiL ((row.drop p).take (m - p)) ∧ (m = row.length ∨ ∃ b, row[m]? = some b ∧ b < 128), ?_, ?_⟩
    · -- the run of high bytes
      refine ⟨fun k σ H1 => ∃ m, k + m = row.length ∧ p ≤ m ∧ σ = [some (.ref a), some (iV p), none, none, none] ∧ Rd C H1 a img m ∧ Kp a H H1 ∧ hiL ((row.drop p).take (m - p)), ⟨row.length - p, p, by omega, Nat.le_refl _, rfl, ⟨dx, ha⟩, (fun b o _ e => e), ?_⟩, ?_⟩
      · rw [Nat.sub_self, List.take_zero]
        intro x hx
        cases hx
      rintro k σ H1 ⟨m, hk, hpm, rfl, ⟨dx1, ha1⟩, kp, hh⟩
      have hr1 := kp _ _ nai hrow
      refine ⟨_, rfl, a, C, dx1, _, _, rfl, ha1, T.cl, T.nA, rF_a .., _, rfl, a, C, dx1, _, _, rfl, ha1, T.cl, T.nI, rF_i .., img, _, rfl, .inl (SqL.of hr1), _, _, rfl, rfl, _, rfl, ?_⟩
      rw [List.length_map]
      by_cases hm : m < row.length
      · refine iteT' (decide_eq_true (by omega)) ?_
        have eb : row[m]? = some row[m] := List.getElem?_eq_getElem hm
        have eb2 : (row.map iV)[m]? = some (iV row[m]) := by rw [List.getElem?_map, eb]; rfl
        refine ⟨_, rfl, a, C, dx1, _, _, rfl, ha1, T.cl, T.nI, rF_i .., _, rfl, a, C, dx1, _, _, rfl, ha1, T.cl, T.nA, rF_a .., img, _, _, _, rfl, rfl, SqL.of hr1, atI_nat eb2, _, _, rfl, rfl, _, rfl, ?_⟩
        have eb3 : (row.drop p)[m - p]? = some row[m] := by
          rw [List.getElem?_drop, show p + (m - p) = m by omega]
          exact eb
        by_cases hbm : 127 < row[m]
        · refine iteT' (decide_eq_true (by omega)) ?_
          refine ⟨fun σ H2 => ∃ m', k - 1 + m' = row.length ∧ p ≤ m' ∧ σ = [some (.ref a), some (iV p), none, none, none] ∧ Rd C H2 a img m' ∧ Kp a H H2 ∧ hiL ((row.drop p).take (m' - p)), fun σ' H2 h => ⟨k - 1, by omega, h⟩, ?_⟩
          refine ⟨_, rfl, a, C, dx1, _, _, rfl, ha1, T.cl, T.nA, rF_a .., _, _, rfl, rfl, dx1, _, ha1, (by show 2 < 1000; decide), ?_⟩
          refine ⟨m + 1, by omega, by omega, rfl, ⟨dx1, upd_same⟩, kp_trans kp kp_put, ?_⟩
          rw [show m + 1 - p = (m - p) + 1 by omega]
          exact hi_more hh eb3 (by omega)
        · refine iteF' (decide_eq_false (by omega)) ?_
          exact ⟨m, hpm, by omega, rfl, ⟨dx1, ha1⟩, kp, hh, .inr ⟨_, eb, by omega⟩⟩
      · refine iteF' (decide_eq_false (by omega)) ?_
        exact ⟨m, hpm, by omega, rfl, ⟨dx1, ha1⟩, kp, hh, .inl (by omega)⟩
    rintro σ H1 ⟨m, hpm, hml, rfl, ⟨dx1, ha1⟩, kp, hh, hend⟩
    have hr1 := kp _ _ nai hrow
    refine ⟨_, rfl, a, C, dx1, _, _, rfl, ha1, T.cl, T.nA, rF_a .., _, rfl, a, C, dx1, _, _, rfl, ha1, T.cl, T.nI, rF_i .., img, _, rfl, .inl (SqL.of hr1), rfl, _, rfl, ?_⟩
    rw [List.length_map]
    by_cases hm : m = row.length
    · refine iteT' (decide_eq_true (by rw [hm])) ?_
      have e : takeP row p = none := by
        unfold takeP
        rw [take_all hh (by rw [List.length_drop]; omega)]
      exact qE e _ kp
    refine iteF' (decide_eq_false (fun z => hm (by have := V.int.inj z; omega))) ?_
    obtain ⟨b, eb, hb1⟩ : ∃ b, row[m]? = some b ∧ b < 128 := by
      rcases hend with z | z
      · exact absurd z hm
      · exact z
    have eb3 : (row.drop p)[m - p]? = some b := by
      rw [List.getElem?_drop, show p + (m - p) = m by omega]
      exact eb
    have lt := (List.getElem?_eq_some_iff.mp eb).1
    have eN := take_run hh eb3 hb1
    refine ⟨_, rfl, a, C, dx1, _, _, rfl, ha1, T.cl, T.nA, rF_a .., _, _, rfl, rfl, dx1, _, ha1, (by show 2 < 1000; decide), ?_⟩
    have ha2 : (upd H1 a (.ins C dx1 (rF img (m + 1)))) a = some (.ins C dx1 (rF img (m + 1))) := upd_same
    have kp2 : Kp a H (upd H1 a (.ins C dx1 (rF img (m + 1)))) := kp_trans kp kp_put
    show tSeq _ _ _ _ (upd H1 a (.ins C dx1 (rF img (m + 1))))
    generalize upd H1 a (.ins C dx1 (rF img (m + 1))) = H2 at ha2 kp2
    have hr2 := kp2 _ _ nai hrow
    refine ⟨_, rfl, a, C, dx1, _, _, rfl, ha2, T.cl, T.nI, rF_i .., _, rfl, _, rfl, _, rfl, a, C, dx1, _, _, rfl, ha2, T.cl, T.nA, rF_a .., _, rfl, img, _, rfl, SqL.of hr2, fun d nd1 => ?_⟩
    have ecut : cutV (row.map iV) (some ((p : Nat) : Int)) (some ((m + 1 : Nat) : Int)) = ((row.drop p).take (m - p + 1)).map iV := by
      rw [cut_mid _ _ _ (by omega) (by rw [List.length_map]; omega), ← List.map_drop, ← List.map_take, show m + 1 - p = m - p + 1 by omega]
    rw [ecut]
    obtain ⟨ds, eds⟩ : ∃ ds, ds = (row.drop p).take (m - p + 1) := ⟨_, rfl⟩
    have dl : ds.length = m - p + 1 := by
      rw [eds, List.length_take, List.length_drop]
      omega
    have dlast : ds = (row.drop p).take (m - p) ++ [b] := by rw [eds, take_snoc eb3]
    have db : Bytes ds := fun x hx => hb x (List.mem_of_mem_drop (List.mem_of_mem_take (eds ▸ hx)))
    rw [← eds]
    have s3 : Same H2 (upd H2 d (.lst (ds.map iV))) := Same.up nd1
    have e3 : (upd H2 d (.lst (ds.map iV))) d = some (.lst (ds.map iV)) := upd_same
    generalize upd H2 d (.lst (ds.map iV)) = H3 at s3 e3
    have kp3 : Kp a H H3 := kp_trans kp2 (Same.kp s3)
    have ha3 := s3 _ _ ha2
    have eN2 : numL (row.drop p) = if m - p ≠ 0 ∧ b = 0 then none else some (valN ds, m - p + 1) := by rw [eds]; exact eN
    refine ⟨fun σ H4 => σ = [some (.ref a), some (iV p), some (.ref d), none, none] ∧ Same H3 H4 ∧ ¬ (m - p ≠ 0 ∧ b = 0), ?_, ?_⟩
    · -- the tests
      refine ⟨_, rfl, d, _, rfl, .inl (SqL.of e3), _, _, rfl, rfl, _, rfl, ?_⟩
      rw [List.length_map, dl]
      by_cases hz : m - p ≠ 0 ∧ b = 0
      · refine iteT' (decide_eq_true (by omega)) ?_
        have elast : atI (ds.map iV) (-1) = some (iV b) := by
          rw [dlast, List.map_append]
          exact atI_last _ _
        refine ⟨_, rfl, _, rfl, d, _, _, _, rfl, rfl, SqL.of e3, elast, rfl, _, rfl, ?_⟩
        refine iteT' (decide_eq_true (by rw [hz.2]; rfl)) ?_
        refine iteT ?_
        have e : takeP row p = none := by
          unfold takeP
          rw [eN2, if_pos hz]
        exact qE e _ kp3
      have elast : atI (ds.map iV) (-1) = some (iV b) := by
        rw [dlast, List.map_append]
        exact atI_last _ _
      rcases Nat.eq_zero_or_pos (m - p) with h0 | h0
      all_goals first
        | refine iteF' (decide_eq_false (by omega)) (iteF ?_)
        | refine iteT' (decide_eq_true (by omega)) ⟨_, rfl, _, rfl, d, _, _, _, rfl, rfl, SqL.of e3, elast, rfl, _, rfl, iteF' (decide_eq_false (fun z => by have := V.int.inj z; omega)) ?_⟩
      all_goals
        refine ⟨_, rfl, d, rfl, ⟨_, SqL.of e3⟩, fun D nD => ?_⟩
        refine lc_list (xs := ds.map iV) (fun i H4 => Same H3 H4 ∧ H4 D = some (.lst ((List.replicate i true).map V.bl)) ∧ i ≤ ds.length) ⟨Same.up nD, upd_same, Nat.zero_le _⟩ (fun i H4 _ h => SqL.of (h.1 _ _ e3)) (fun i x H4 hx h => ?_) (fun H4 h => ?_)
        · obtain ⟨bx, ebx, rfl⟩ := ivs_at hx
          have hbx := db bx (List.mem_of_getElem? ebx)
          have hi := (List.getElem?_eq_some_iff.mp ebx).1
          refine ⟨rfl, _, rfl, _, _, rfl, rfl, _, rfl, iteT' (decide_eq_true (by omega)) ⟨_, _, rfl, rfl, ?_⟩⟩
          refine ⟨_, h.2.1, lineS200 (by rw [List.length_map, List.length_replicate]; omega), same_put h.1 nD, ?_, hi⟩
          rw [upd_same, List.replicate_succ', List.map_append]
          have e : decide (((bx : Nat) : Int) < 256) = true := decide_eq_true (by omega)
          show some (HO.lst (_ ++ [V.bl (decide (((bx : Nat) : Int) < 256))])) = _
          rw [e]
          rfl
        · rw [List.length_map] at h
          refine ⟨D, List.replicate ds.length true, rfl, SqL.of h.2.1, _, rfl, ?_⟩
          rw [all_true]
          exact iteF ⟨rfl, h.1, hz⟩
    rintro σ H4 ⟨rfl, s4, hz⟩
    have e4 := s4 _ _ e3
    have ha4 := s4 _ _ ha3
    have kp4 : Kp a H H4 := kp_trans kp3 (Same.kp s4)
    refine ⟨_, rfl, d, _, rfl, SqL.of e4, fun D nD => ?_⟩
    refine lc_enL (xs := ds.map iV) (fun i H5 => Same H4 H5 ∧ H5 D = some (.lst ((sumD 0 (ds.take i)).map V.int))) ⟨Same.up nD, upd_same⟩ (fun i H5 _ h => SqL.of (h.1 _ _ e4)) (fun i x U H5 hx h nU => ?_) (fun H5 h => ?_)
    · obtain ⟨bx, ebx, rfl⟩ := ivs_at hx
      have hbx := db bx (List.mem_of_getElem? ebx)
      have hi := (List.getElem?_eq_some_iff.mp ebx).1
      have sU : Same H5 (upd H5 U (.tup [.int ((i : Nat) : Int), iV bx])) := Same.up nU
      refine ⟨U, _, rfl, SqT.of upd_same, rfl, _, _, rfl, _, _, rfl, rfl, rfl, ?_⟩
      generalize upd H5 U (.tup [.int ((i : Nat) : Int), iV bx]) = H6 at sU
      refine ⟨_, rfl, _, _, rfl, rfl, _, rfl, _, _, rfl, rfl, .inl ⟨by decide, by decide⟩, _, _, rfl, rfl, ⟨by omega, by omega, ?_⟩, ?_⟩
      · rw [bitAnd_m7]
        omega
      refine ⟨_, sU _ _ h.2, lineS200 (by rw [List.length_map, sumD_len, List.length_take]; omega), same_put (h.1.trans sU) nD, ?_⟩
      rw [upd_same, take_snoc ebx, sumD_snoc, List.map_append, Nat.zero_add, List.length_take, Nat.min_eq_left (by omega)]
      rfl
    · rw [List.length_map, List.take_length] at h
      refine ⟨D, sumD 0 ds, rfl, SqL.of h.2, ?_⟩
      rw [sumD_val, Nat.pow_zero, Nat.one_mul]
      have e : takeP row p = some (valN ds, m + 1) := by
        unfold takeP
        rw [eN2, if_neg hz, show m + 1 = p + (m - p + 1) by omega]
      exact q _ _ e _ (kp_trans kp4 (Same.kp h.1)) ⟨dx1, h.1 _ _ ha4⟩
end
end C1

/-! Numbers written as bytes; many numbers read. -/
namespace C1
open PySem PySem.Spec PyProof.Rows L2 SX
abbrev sNumberBytes : Stmt := topS 9
abbrev sNextNumbers : Stmt := L2.inClass (topS 10) 3
theorem scNumberBytes : FnScope ["numbers", "found", "number"] ["numbers"] (defScope sNumberBytes) := ⟨rfl, rfl, rfl, by decide +kernel, rfl, by decide +kernel, by decide +kernel⟩
theorem scNextNumbers : FnScope ["self", "many", "_"] ["self", "many"] (defScope sNextNumbers) := ⟨rfl, rfl, rfl, by decide +kernel, rfl, by decide +kernel, by decide +kernel⟩
abbrev NNS : List Str := ["self", "many", "_"]
abbrev bN (n : Nat) : List Nat := bytesN 9 n
def bytesA (ns : List Nat) : List Nat := ns.flatMap bN
theorem bytesA_snoc (ns : List Nat) (n : Nat) : bytesA (ns ++ [n]) = bytesA ns ++ bN n := by
  unfold bytesA
  rw [List.flatMap_append, List.flatMap_cons, List.flatMap_nil, List.append_nil]
theorem bytesA_take_le (ns : List Nat) (i : Nat) : (bytesA (ns.take i)).length ≤ (bytesA ns).length := by
  have e := List.take_append_drop i ns
  have : bytesA ns = bytesA (ns.take i) ++ bytesA (ns.drop i) := by
    show ns.flatMap bN = (ns.take i).flatMap bN ++ (ns.drop i).flatMap bN
    rw [← List.flatMap_append, e]
  rw [this, List.length_append]
  omega
theorem lineX {n : Nat} (h : n ≤ 4000) : n < sizeLine := by
  rw [sizeLine_eq]
  omega
section
variable {P : Program} {w : World} {K : PySem.W.Frag} {mg : Str → Option Value} {base : Heap} {C CB : Addr}
def spBytes (K : PySem.W.Frag) : Sp := fun vs H Q _ => ∃ (p : Addr) (ns : List Nat), vs = [.ref p] ∧ SqL K H p (ns.map iV) ∧ (∀ n ∈ ns, n < 128 ^ 9) ∧ (bytesA ns).length ≤ 3000 ∧ ∀ H' l, Same H H' → H l = none → H' l = some (.lst ((bytesA ns).map iV)) → Q (.ref l) H'
theorem ok_bytes {f : Addr} {fd : FuncData} (F : Fun K "number_bytes" "number_bytes" sNumberBytes f fd) : FnOk P w K mg base CX0 1 f fd ["numbers"] (spBytes K) := by
  refine F.ok scNumberBytes (fun vs H Q E h => ?_) (fun cdv A outer s H vs Q E hr h => ?_)
  · obtain ⟨p, ns, rfl, _⟩ := h
    rfl
  · obtain ⟨p, ns, rfl, sq, hb, hl, q⟩ := h
    have nd := scNumberBytes.nd
    refine ⟨_, (pss_cons (ps_set (i := 1) nd rfl (.inl rfl) (pe_lst pa_nil))
      (C8.pss_cut (ps_for PassesOwn.never rfl (pi_list (pv 0)) (pg_name (i := 2) nd rfl (.inl rfl)) (C8.pss_cut (ps_while PassesOwn.never (pt_cmpR op_gt (pv 2) (pe_int) (nomark _)) (pss_cons (ps_expr (pe_bm PySem.F.plainAttrs_list PySem.F.slot_list_append PySem.F.type_list_append mt_append (pv 1) (pa_cons (pe_op op_add (pe_op op_and (pv 2) (pe_int)) (pe_int)) pa_nil)))
      (pss_one (ps_aug (i := 2) nd rfl (.inl rfl) (pe_int) iop_shr))))
      (pss_one (ps_expr (pe_bm PySem.F.plainAttrs_list PySem.F.slot_list_append PySem.F.type_list_append mt_append (pv 1) (pa_cons (pv 2) pa_nil))))))
      (pss_one (ps_ret (pv 1))))), ?_⟩
    refine ⟨Nat.zero_le _, fun l nl => ?_⟩
    refine ⟨fun σ H1 => ∃ y, σ = [some (.ref p), some (.ref l), y] ∧ Same H H1 ∧ H1 l = some (.lst ((bytesA ns).map iV)), ?_, ?_⟩
    · refine ⟨_, rfl, p, rfl, ⟨_, (Same.up nl).seq sq⟩, for_list (K := K) (a := p) (xs := ns.map iV) (fun i σ H1 => ∃ y, σ = [some (.ref p), some (.ref l), y] ∧ Same H H1 ∧ H1 l = some (.lst ((bytesA (ns.take i)).map iV))) ⟨none, rfl, Same.up nl, upd_same⟩ (fun i σ H1 _ ⟨y, _, s1, _⟩ => s1.seq sq) ?_ ?_⟩
      · rintro i x σ H1 hx ⟨y, rfl, s1, e1⟩
        obtain ⟨n, en, rfl⟩ := ivs_at hx
        have hn := hb n (List.mem_of_getElem? en)
        have tot := bytesA_take_le ns (i + 1)
        rw [take_snoc en, bytesA_snoc, List.length_append] at tot
        refine ⟨fun σ H2 => ∃ m, σ = [some (.ref p), some (.ref l), some (iV m)] ∧ Same H H2 ∧ m < 128 ∧ ∃ don, don ++ [m] = bN n ∧ H2 l = some (.lst ((bytesA (ns.take i) ++ don).map iV)), ?_, ?_⟩
        · refine ⟨fun k σ H2 => ∃ m don, k ≤ 9 ∧ σ = [some (.ref p), some (.ref l), some (iV m)] ∧ Same H H2 ∧ m < 128 ^ (k + 1) ∧ don ++ bytesN k m = bN n ∧ H2 l = some (.lst ((bytesA (ns.take i) ++ don).map iV)), ⟨9, n, [], Nat.le_refl _, rfl, s1, Nat.lt_trans hn (by decide), rfl, by rw [List.append_nil]; exact e1⟩, ?_⟩
          rintro k σ H2 ⟨m, don, hk9, rfl, s2, hm, edon, e2⟩
          refine ⟨_, rfl, _, _, rfl, rfl, _, rfl, ?_⟩
          by_cases h127 : 127 < m
          · refine iteT' (decide_eq_true (by omega)) ?_
            obtain ⟨k', rfl⟩ : ∃ k', k = k' + 1 := ⟨k - 1, by
              have : k ≠ 0 := fun z => by
                subst z
                have : (128 : Nat) ^ (0 + 1) = 128 := rfl
                omega
              omega⟩
            have eb : bytesN (k' + 1) m = (m % 128 + 128) :: bytesN k' (m / 128) := by
              show (if m < 128 then [m] else (m % 128 + 128) :: bytesN k' (m / 128)) = _
              rw [if_neg (by omega)]
            have dlen : don.length ≤ (bN n).length := by
              rw [← edon, List.length_append]
              omega
            refine ⟨fun σ H3 => ∃ m don, k' ≤ 9 ∧ σ = [some (.ref p), some (.ref l), some (iV m)] ∧ Same H H3 ∧ m < 128 ^ (k' + 1) ∧ don ++ bytesN k' m = bN n ∧ H3 l = some (.lst ((bytesA (ns.take i) ++ don).map iV)), fun σ' H3 h => ⟨k', by omega, h⟩, ?_⟩
            refine ⟨_, rfl, .inl ⟨rfl, _, SqL.of e2⟩, _, rfl, _, _, rfl, rfl, _, _, rfl, rfl, l, _, _, rfl, rfl, e2, lineX (by rw [List.length_map, List.length_append]; omega), ?_⟩
            refine ⟨_, rfl, _, _, rfl, rfl, (by show (0 : Int) ≤ 7; decide), ?_⟩
            have ev : iV (m / 128) = V.int (((m : Nat) : Int) / 2 ^ (7 : Int).toNat) := by
              congr 1
            refine ⟨m / 128, don ++ [m % 128 + 128], by omega, ?_, same_put s2 nl, ?_, ?_, ?_⟩
            · rw [ev]
              rfl
            · rw [Nat.div_lt_iff_lt_mul (by decide)]
              exact hm
            · rw [← edon, eb, List.append_assoc]
              rfl
            · have e7 : V.int (Builtin.bitAnd ((m : Nat) : Int) 127 + 128) = iV (m % 128 + 128) := by
                rw [bitAnd_m7]
                congr 1
              have e8 : (bytesA (ns.take i) ++ (don ++ [m % 128 + 128])).map iV = (bytesA (ns.take i) ++ don).map iV ++ [V.int (Builtin.bitAnd ((m : Nat) : Int) 127 + 128)] := by
                rw [e7, ← List.append_assoc, List.map_append (l₂ := [m % 128 + 128])]
                rfl
              rw [upd_same, e8]
          · refine iteF' (decide_eq_false (by omega)) ?_
            have eb : bytesN k m = [m] := by
              cases k with
              | zero => rfl
              | succ k =>
                show (if m < 128 then [m] else _) = _
                rw [if_pos (by omega)]
            exact ⟨m, rfl, s2, by omega, don, by rw [← edon, eb], e2⟩
        rintro σ H2 ⟨m, rfl, s2, hm, don, edon, e2⟩
        have dlen : don.length ≤ (bN n).length := by
          rw [← edon, List.length_append]
          omega
        refine ⟨_, rfl, .inl ⟨rfl, _, SqL.of e2⟩, _, rfl, l, _, _, rfl, rfl, e2, lineX (by rw [List.length_map, List.length_append]; omega), ?_⟩
        refine ⟨_, rfl, same_put s2 nl, ?_⟩
        rw [upd_same, take_snoc en, bytesA_snoc, ← edon, ← List.append_assoc, List.map_append (l₂ := [m])]
        rfl
      · rintro σ H1 ⟨y, rfl, s1, e1⟩
        rw [List.length_map, List.take_length] at e1
        exact ⟨y, rfl, s1, e1⟩
    rintro σ H1 ⟨y, rfl, s1, e1⟩
    exact ⟨_, rfl, q H1 l s1 nl e1⟩
def spNums (K : PySem.W.Frag) (C CB : Addr) : Sp := fun vs H Q E => ∃ (a img : Addr) (p many : Nat) (row : List Nat), vs = [.ref a, iV many] ∧ Rd C H a img p ∧ H img = some (.lst (row.map iV)) ∧ p ≤ row.length ∧ row.length ≤ 400 ∧ Bytes row ∧ many < 2 ^ 62 ∧
  (takesP row many p = none → ∀ H', Kp a H H' → E (.ref CB) none H') ∧ ∀ ns q, takesP row many p = some (ns, q) → ∀ H' l, Kp a H H' → Rd C H' a img q → H l = none → H' l = some (.lst (ns.map iV)) → Q (.ref l) H'
theorem kp_new {a D : Addr} {H H1 : Hp} {o : HO} (k : Kp a H H1) (nD : H D = none) : Kp a H (upd H1 D o) := fun b ob hb e => by
  by_cases z : b = D
  · rw [z, nD] at e
    cases e
  · rw [upd_ne z]
    exact k b ob hb e
theorem ok_nums {f f1 : Addr} {fd fd1 : FuncData} (F : Fun K "next_numbers" "NumberReader.next_numbers" sNextNumbers f fd) (T : RdT K mg C CB) (B : BV mg) (M1 : Meth K C "next_number" f1) (G1 : FnOk P w K mg base (L2.CX P w) 1 f1 fd1 ["self"] (spNum1 K C CB)) (b1 : Binds K fd1 ["self"] []) :
    FnOk P w K mg base (L2.CX P w) 2 f fd ["self", "many"] (spNums K C CB) := by
  refine F.okX scNextNumbers (fun vs H Q E h => ?_) (fun cdv A outer s H vs Q E hr h => ?_)
  · obtain ⟨a, img, p, many, row, rfl, _⟩ := h
    rfl
  · obtain ⟨a, img, p, many, row, rfl, rd, hrow, hp, hl, hb, hm, qE, q⟩ := h
    have nd := scNextNumbers.nd
    have hr1 : Room 1 _ := hr
    refine ⟨_, (pss_one (ps_ret (LcE.pe_lcE (E := E) (own := [("_", 2)]) (tg := gName 2) (tt := tYes) (te := tMeth C "next_number" (spNum1 K C CB) [] E (tVar 0) tNil)  rfl nd (takes_of rfl rfl rfl rfl) rfl rfl (pi_range1 (by rfl) B.range (pa_cons (pv 1) pa_nil)) (blkOk_by (own := [("_", 2)]) (N := NNS) (sc := defScope sNextNumbers) (by decide +kernel)) (fun _ _ _ _ _ => pg_name (i := 2) nd rfl (.inl rfl)) (fun _ _ _ _ _ => pts_nil) (fun _ _ _ _ _ => by exact (pe_meth0 (pv 0) T.cl M1 G1 hr1 b1 .nil LcE.passes_E))))), ?_⟩
    obtain ⟨dx, ha⟩ := rd
    have nai : img ≠ a := ne_of hrow ha (by intro z; cases z)
    refine ⟨_, rfl, _, rfl, by omega, by omega, fun D nD => ?_⟩
    have naD : a ≠ D := ne_of_none ha nD
    refine lc_range (fun i H1 => ∃ acc qp, takesP row i p = some (acc, qp) ∧ Rd C H1 a img qp ∧ Kp a H H1 ∧ H1 D = some (.lst (acc.map iV))) ⟨[], p, rfl, ⟨dx, by rw [upd_ne naD]; exact ha⟩, kp_new (fun _ _ _ e => e) nD, upd_same⟩ (fun i H1 hi h => ?_) (fun H1 h => ?_)
    · obtain ⟨acc, qp, et, ⟨dx1, ha1⟩, kp, eD⟩ := h
      have hi : i < many := by
        rw [Int.toNat_natCast] at hi
        exact hi
      have le := takesP_le hp et
      refine ⟨rfl, _, rfl, a, dx1, _, rfl, ha1, rfl, a, img, qp, row, rfl, ⟨dx1, ha1⟩, kp _ _ nai hrow, le.2.2, hl, hb, fun e H2 k2 => ?_, fun n q2 e H2 k2 rd2 => ?_⟩
      · exact qE (takesP_none (takesP_stop et e) hi) H2 (kp_trans kp k2)
      · refine ⟨_, k2 _ _ naD.symm eD, lineX (by rw [List.length_map]; omega), acc ++ [n], q2, takesP_some et e, ?_, kp_new (kp_trans kp k2) nD, ?_⟩
        · obtain ⟨dx2, ha2⟩ := rd2
          exact ⟨dx2, by rw [upd_ne naD]; exact ha2⟩
        · rw [upd_same, List.map_append]
          rfl
    · rw [Int.toNat_natCast] at h
      obtain ⟨acc, qp, et, rd1, kp, eD⟩ := h
      exact q acc qp et H1 D kp rd1 nD eD
end
end C1

/-! A list extended by a tuple. -/
namespace ExT
open PySem PySem.Spec PyProof.Rows L2
open PySem.AutoSeq1
theorem ext_tup (l : Addr) (items : Array Value) (n : Nat) (b : Addr) (dd : Option Addr) (items2 : Array Value) (n2 : Nat) (sl : Array (Option Value)) (k1 : ¬(!items.isEmpty && Builtin.List.listTooLong (items.size + items2.size)) = true) (k2 : items.size ≤ sizeLine) (k3 : items.size + items2.size ≤ sizeLine + 1) :
    Meets (Builtin.«list.extend» ⟨[.ref l, .ref b], []⟩) (fun _ R s => s.heap.get? l = some { cls := .type "list", dict := none, data := .seq items n, slots := #[] } ∧ s.heap.get? b = some { cls := .type "tuple", dict := dd, data := .seq items2 n2, slots := sl } ∧
      R (.ok (.ret Value.none)) { s with heap := s.heap.update l (Obj.mapSeq fun x => x ++ items2), toks := s.toks }) := by
  apply Meets.of_wp
  intro prog w A R s h
  obtain ⟨hp, g, d, tk, os⟩ := s
  obtain ⟨hl, hb, h⟩ := h
  have f1 := PySem.AutoSeq1.idx_int
  have f2 := PySem.AutoSeq1.sub_tuple_tuple
  have f3 := PySem.AutoSeq1.sub_list_list
  have f4 := PySem.AutoSeq1.sub_tuple_list
  have f5 := PySem.AutoSeq1.sub_list_tuple
  have hz' : (items ++ items2).size ≤ sizeLine + 1 := by
    rw [Array.size_append]
    exact k3
  wp_walk using (wpAny_updateSeq hl rfl (hz := k2) (_hz' := hz')), wpAny_loadPart' hl, wpAny_loadPart' hb
  exact ⟨_, rfl, h⟩
def rExtT (K : PySem.W.Frag) : V → List V → Hp → VK → Prop := fun x vs H Q => ∃ l b xs zs, x = .ref l ∧ vs = [.ref b] ∧ H l = some (.lst xs) ∧ SqT K H b zs ∧ xs.length + zs.length ≤ sizeLine ∧ Q .non (upd H l (.lst (xs ++ zs)))
theorem mt_extT {X : Cx} : MtM X "list.extend" (rExtT X.K) := by
  intro pins s σ H x vs v us Q I rx rv h
  obtain ⟨l, b, xs, zs, rfl, rfl, hH, hB, hz, q⟩ := h
  cases rx
  obtain ⟨u, rfl, ru⟩ := rv.one
  cases ru
  obtain ⟨z, its, n, r, hl, e⟩ := I.lstM hH
  obtain ⟨its2, r2, ⟨⟨c, dd, dt, sl⟩, e2, ec, n2, ed⟩, z2⟩ := I.tuple hB
  dsimp only at ec ed
  subst ec ed
  have l2 := r2.length
  have hsz : its.toArray.size + its2.toArray.size ≤ sizeLine := by
    rw [List.size_toArray, List.size_toArray]
    omega
  have hlong : ¬ (!its.toArray.isEmpty && Builtin.List.listTooLong (its.toArray.size + its2.toArray.size)) = true := by
    rw [notLongL hsz, Bool.and_false]
    exact Bool.false_ne_true
  refine call_meets PySem.F.slot_list_extend ⟨_, e, rfl⟩ PySem.F.entry_list_extend (PySem.F.args_list_extend_2 _ _)
    (ext_tup l its.toArray n b dd its2.toArray n2 sl hlong (by rw [List.size_toArray]; omega) (by omega)) ⟨e, e2, ?_⟩
  refine ⟨.non, _, I.lset (its' := its ++ its2) hH e (by simp) (r.append r2) ?_, rfl, q⟩
  rw [List.length_append]
  omega
end ExT

/-! Comprehensions that make data. -/
namespace C1
open PySem PySem.Spec PyProof.Rows L2 SX
theorem dps_at {K : PySem.W.Frag} {H : Hp} {vs : List V} {ds : List PyData} {i : Nat} {x : V} {d : PyData} (h : DpAll K H vs ds) (hx : vs[i]? = some x) (hd : ds[i]? = some d) : Dp K H x d := by
  obtain ⟨d', e, h⟩ := dps_get h hx
  rw [hd] at e
  cases e
  exact h
theorem noLs_take : ∀ {F : List PyData} {i : Nat}, noLs F = true → noLs (F.take i) = true
  | [], i, h => by
    rw [List.take_nil]
    rfl
  | d :: F, 0, h => rfl
  | d :: F, i + 1, h => by
    have h' := Bool.and_eq_true_iff.mp (show (noL d && noLs F) = true from h)
    show (noL d && noLs (F.take i)) = true
    rw [h'.1, noLs_take h'.2]
    rfl
theorem noLs_at {F : List PyData} {i : Nat} {d : PyData} (h : noLs F = true) (e : F[i]? = some d) : noL d = true := noLs_mem h d (List.mem_of_getElem? e)
theorem at_len2 {α β : Type} {xs : List α} {F : List β} (hl : xs.length = F.length) {i : Nat} {x : α} (h : xs[i]? = some x) : ∃ d, F[i]? = some d := by
  have := (List.getElem?_eq_some_iff.mp h).1
  exact ⟨_, List.getElem?_eq_getElem (by omega)⟩
section
variable {K : PySem.W.Frag} {a : Addr} {xs : List V} {g : TG} {te : TE} {vs : List Nat} {σ : L2.St} {H0 : Hp} {D : Addr} {Qd : Hp → Prop}
theorem lc_tupD (F : List PyData) (hF : noLs F = true) (hlen : xs.length = F.length) (hn : xs.length ≤ 1000) (hl : SqT K H0 a xs) (hD : H0 D = none)
    (hs : ∀ (i : Nat) (x : V) (d : PyData) (H : Hp) (Q : VK), xs[i]? = some x → F[i]? = some d → Same H0 H → (∀ y H4, Same H H4 → Dp K H4 y d → Q y H4) → g x (wipe σ vs) H fun σ2 H2 => wipe σ2 vs = wipe σ vs ∧ te σ2 H2 Q)
    (hd : ∀ H acc, Same H0 H → H D = some (.lst acc) → DpAll K H acc F → Qd H) :
    ∃ W : Nat → Nat → Hp → Prop, (∃ m, W 0 m (upd H0 D (.lst []))) ∧ ∀ i m H, W i m H →
      ((Itt K a).stop i H ∧ Qd H) ∨ ((Itt K a).go i H ∧ ∃ Nx : Hp → Prop, (∀ H', Nx H' → ∃ m', m' < m ∧ W (i + 1) m' H') ∧ ∀ x H', (Itt K a).yld i H x H' → g x (wipe σ vs) H' fun σ2 H2 => wipe σ2 vs = wipe σ vs ∧ tYes σ2 H2 fun b H3 =>
        if b = true then te σ2 H3 fun y H4 => ∃ acc, H4 D = some (.lst acc) ∧ acc.length < sizeLine ∧ Nx (upd H4 D (.lst (acc ++ [y]))) else Nx H3) := by
  refine lc_tup (xs := xs) (fun i H => Same H0 H ∧ ∃ acc, H D = some (.lst acc) ∧ DpAll K H acc (F.take i)) ⟨same_new hD, [], upd_same, .nil⟩ (fun i H _ h => same_tup h.1 _ _ hl) (fun i x H hx h => ?_) (fun H h => ?_)
  · obtain ⟨sm, acc, e, dp⟩ := h
    obtain ⟨d, hd'⟩ := at_len2 hlen hx
    have lt := dps_len dp
    rw [List.length_take] at lt
    have hi := (List.getElem?_eq_some_iff.mp hx).1
    exact hs i x d H (fun y H4 => ∃ acc, H4 D = some (.lst acc) ∧ acc.length < sizeLine ∧ (Same H0 (upd H4 D (.lst (acc ++ [y]))) ∧ ∃ acc', (upd H4 D (.lst (acc ++ [y]))) D = some (.lst acc') ∧ DpAll K (upd H4 D (.lst (acc ++ [y]))) acc' (F.take (i + 1)))) hx hd' sm
      (fun y H4 s4 dy => ⟨acc, s4 _ _ e, lineS200 (by omega), same_put (sm.trans s4) hD, acc ++ [y], upd_same, by
        rw [take_snoc hd']
        exact push_dps (s4 _ _ e) (dps_stay (same_tup s4) _ _ dp (noLs_take hF)) (noLs_take hF) dy (noLs_at hF hd')⟩)
  · obtain ⟨sm, acc, e, dp⟩ := h
    rw [hlen, List.take_length] at dp
    exact hd H acc sm e dp
theorem lc_listD (F : List PyData) (hF : noLs F = true) (hlen : xs.length = F.length) (hn : xs.length ≤ 1000) (hl : SqL K H0 a xs) (hD : H0 D = none)
    (hs : ∀ (i : Nat) (x : V) (d : PyData) (H : Hp) (Q : VK), xs[i]? = some x → F[i]? = some d → Same H0 H → (∀ y H4, Same H H4 → Dp K H4 y d → Q y H4) → g x (wipe σ vs) H fun σ2 H2 => wipe σ2 vs = wipe σ vs ∧ te σ2 H2 Q)
    (hd : ∀ H acc, Same H0 H → H D = some (.lst acc) → DpAll K H acc F → Qd H) :
    ∃ W : Nat → Nat → Hp → Prop, (∃ m, W 0 m (upd H0 D (.lst []))) ∧ ∀ i m H, W i m H →
      ((Itl K a).stop i H ∧ Qd H) ∨ ((Itl K a).go i H ∧ ∃ Nx : Hp → Prop, (∀ H', Nx H' → ∃ m', m' < m ∧ W (i + 1) m' H') ∧ ∀ x H', (Itl K a).yld i H x H' → g x (wipe σ vs) H' fun σ2 H2 => wipe σ2 vs = wipe σ vs ∧ tYes σ2 H2 fun b H3 =>
        if b = true then te σ2 H3 fun y H4 => ∃ acc, H4 D = some (.lst acc) ∧ acc.length < sizeLine ∧ Nx (upd H4 D (.lst (acc ++ [y]))) else Nx H3) := by
  refine lc_list (xs := xs) (fun i H => Same H0 H ∧ ∃ acc, H D = some (.lst acc) ∧ DpAll K H acc (F.take i)) ⟨same_new hD, [], upd_same, .nil⟩ (fun i H _ h => h.1.seq hl) (fun i x H hx h => ?_) (fun H h => ?_)
  · obtain ⟨sm, acc, e, dp⟩ := h
    obtain ⟨d, hd'⟩ := at_len2 hlen hx
    have lt := dps_len dp
    rw [List.length_take] at lt
    have hi := (List.getElem?_eq_some_iff.mp hx).1
    exact hs i x d H (fun y H4 => ∃ acc, H4 D = some (.lst acc) ∧ acc.length < sizeLine ∧ (Same H0 (upd H4 D (.lst (acc ++ [y]))) ∧ ∃ acc', (upd H4 D (.lst (acc ++ [y]))) D = some (.lst acc') ∧ DpAll K (upd H4 D (.lst (acc ++ [y]))) acc' (F.take (i + 1)))) hx hd' sm
      (fun y H4 s4 dy => ⟨acc, s4 _ _ e, lineS200 (by omega), same_put (sm.trans s4) hD, acc ++ [y], upd_same, by
        rw [take_snoc hd']
        exact push_dps (s4 _ _ e) (dps_stay (same_tup s4) _ _ dp (noLs_take hF)) (noLs_take hF) dy (noLs_at hF hd')⟩)
  · obtain ⟨sm, acc, e, dp⟩ := h
    rw [hlen, List.take_length] at dp
    exact hd H acc sm e dp
theorem lc_rangeD {lo : Int} {n : Nat} (F : List PyData) (hF : noLs F = true) (hlen : n = F.length) (hn : n ≤ 1000) (hD : H0 D = none)
    (hs : ∀ (i : Nat) (d : PyData) (H : Hp) (Q : VK), i < n → F[i]? = some d → Same H0 H → (∀ y H4, Same H H4 → Dp K H4 y d → Q y H4) → g (.int (lo + i)) (wipe σ vs) H fun σ2 H2 => wipe σ2 vs = wipe σ vs ∧ te σ2 H2 Q)
    (hd : ∀ H acc, Same H0 H → H D = some (.lst acc) → DpAll K H acc F → Qd H) :
    ∃ W : Nat → Nat → Hp → Prop, (∃ m, W 0 m (upd H0 D (.lst []))) ∧ ∀ i m H, W i m H →
      ((Itr lo n).stop i H ∧ Qd H) ∨ ((Itr lo n).go i H ∧ ∃ Nx : Hp → Prop, (∀ H', Nx H' → ∃ m', m' < m ∧ W (i + 1) m' H') ∧ ∀ x H', (Itr lo n).yld i H x H' → g x (wipe σ vs) H' fun σ2 H2 => wipe σ2 vs = wipe σ vs ∧ tYes σ2 H2 fun b H3 =>
        if b = true then te σ2 H3 fun y H4 => ∃ acc, H4 D = some (.lst acc) ∧ acc.length < sizeLine ∧ Nx (upd H4 D (.lst (acc ++ [y]))) else Nx H3) := by
  refine lc_range (fun i H => Same H0 H ∧ ∃ acc, H D = some (.lst acc) ∧ DpAll K H acc (F.take i)) ⟨same_new hD, [], upd_same, .nil⟩ (fun i H hi h => ?_) (fun H h => ?_)
  · obtain ⟨sm, acc, e, dp⟩ := h
    obtain ⟨d, hd'⟩ : ∃ d, F[i]? = some d := ⟨_, List.getElem?_eq_getElem (by omega)⟩
    have lt := dps_len dp
    rw [List.length_take] at lt
    exact hs i d H (fun y H4 => ∃ acc, H4 D = some (.lst acc) ∧ acc.length < sizeLine ∧ (Same H0 (upd H4 D (.lst (acc ++ [y]))) ∧ ∃ acc', (upd H4 D (.lst (acc ++ [y]))) D = some (.lst acc') ∧ DpAll K (upd H4 D (.lst (acc ++ [y]))) acc' (F.take (i + 1)))) hi hd' sm
      (fun y H4 s4 dy => ⟨acc, s4 _ _ e, lineS200 (by omega), same_put (sm.trans s4) hD, acc ++ [y], upd_same, by
        rw [take_snoc hd']
        exact push_dps (s4 _ _ e) (dps_stay (same_tup s4) _ _ dp (noLs_take hF)) (noLs_take hF) dy (noLs_at hF hd')⟩)
  · obtain ⟨sm, acc, e, dp⟩ := h
    rw [hlen, List.take_length] at dp
    exact hd H acc sm e dp
/-- the items are kept or left out, each as it is -/
theorem lc_tupF {tt : TT} {j : Nat} (F : List PyData) (pb : PyData → Bool) (hF : noLs F = true) (hx : DpAll K H0 xs F) (hn : xs.length ≤ 1000) (hl : SqT K H0 a xs) (hD : H0 D = none)
    (hs : ∀ (i : Nat) (x : V) (d : PyData) (H : Hp) (Q : Bool → Hp → Prop), xs[i]? = some x → F[i]? = some d → Same H0 H → Dp K H x d → (∀ H4, Same H H4 → Q (pb d) H4) → tt ((wipe σ vs).set j (some x)) H Q)
    (hσ : ∀ v, ((wipe σ vs).set j (some v))[j]? = some (some v) ∧ wipe ((wipe σ vs).set j (some v)) vs = wipe σ vs)
    (hd : ∀ H acc, Same H0 H → H D = some (.lst acc) → DpAll K H acc (F.filter pb) → Qd H) :
    ∃ W : Nat → Nat → Hp → Prop, (∃ m, W 0 m (upd H0 D (.lst []))) ∧ ∀ i m H, W i m H →
      ((Itt K a).stop i H ∧ Qd H) ∨ ((Itt K a).go i H ∧ ∃ Nx : Hp → Prop, (∀ H', Nx H' → ∃ m', m' < m ∧ W (i + 1) m' H') ∧ ∀ x H', (Itt K a).yld i H x H' → gName j x (wipe σ vs) H' fun σ2 H2 => wipe σ2 vs = wipe σ vs ∧ tt σ2 H2 fun b H3 =>
        if b = true then tVar j σ2 H3 fun y H4 => ∃ acc, H4 D = some (.lst acc) ∧ acc.length < sizeLine ∧ Nx (upd H4 D (.lst (acc ++ [y]))) else Nx H3) := by
  have noF : ∀ G : List PyData, noLs G = true → noLs (G.filter pb) = true := fun G h => by
    induction G with
    | nil => rfl
    | cons d G ih =>
      have h' := Bool.and_eq_true_iff.mp (show (noL d && noLs G) = true from h)
      rw [List.filter_cons]
      split
      · show (noL d && noLs (G.filter pb)) = true
        rw [h'.1, ih h'.2]
        rfl
      · exact ih h'.2
  refine lc_tup (xs := xs) (fun i H => Same H0 H ∧ ∃ acc, H D = some (.lst acc) ∧ DpAll K H acc ((F.take i).filter pb)) ⟨same_new hD, [], upd_same, .nil⟩ (fun i H _ h => same_tup h.1 _ _ hl) (fun i x H hxi h => ?_) (fun H h => ?_)
  · obtain ⟨sm, acc, e, dp⟩ := h
    obtain ⟨d, hd', dx⟩ := dps_get hx hxi
    have dx2 : Dp K H x d := dp_stay (same_tup sm) _ _ dx (noLs_at hF hd')
    have lt := dps_len dp
    have lt2 := List.length_filter_le pb (F.take i)
    rw [List.length_take] at lt2
    have hi := (List.getElem?_eq_some_iff.mp hxi).1
    have nn := noF _ (noLs_take (i := i) hF)
    refine ⟨(hσ x).2, hs i x d H _ hxi hd' sm dx2 fun H4 s4 => ?_⟩
    cases hb : pb d with
    | true =>
      refine ⟨x, (hσ x).1, acc, s4 _ _ e, lineS200 (by omega), same_put (sm.trans s4) hD, acc ++ [x], upd_same, ?_⟩
      rw [take_snoc hd', List.filter_append, List.filter_cons_of_pos hb, List.filter_nil]
      exact push_dps (s4 _ _ e) (dps_stay (same_tup s4) _ _ dp nn) nn (dp_stay (same_tup s4) _ _ dx2 (noLs_at hF hd')) (noLs_at hF hd')
    | false =>
      refine ⟨sm.trans s4, acc, s4 _ _ e, ?_⟩
      rw [take_snoc hd', List.filter_append, List.filter_cons_of_neg (by rw [hb]; decide), List.filter_nil, List.append_nil]
      exact dps_stay (same_tup s4) _ _ dp nn
  · obtain ⟨sm, acc, e, dp⟩ := h
    rw [dps_len hx, List.take_length] at dp
    exact hd H acc sm e dp
end
theorem noLs_tups : ∀ xss : List (List PyData), (∀ xs ∈ xss, noLs xs = true) → noLs (xss.map .tuple) = true
  | [], _ => rfl
  | xs :: r, h => by
    show (noLs xs && noLs (r.map .tuple)) = true
    rw [h xs (List.mem_cons_self ..), noLs_tups r fun y hy => h y (List.mem_cons_of_mem _ hy)]
    rfl
theorem noLs_strs : ∀ xs : List Str, noLs (xs.map .str) = true
  | [] => rfl
  | _ :: r => noLs_strs r
theorem strs_dps {K : PySem.W.Frag} {H : Hp} : ∀ {vs : List V} {xs : List Str}, DpAll K H vs (xs.map .str) → vs = xs.map V.str
  | [], [], _ => rfl
  | _ :: _, _ :: _, .cons a b => by
    cases a
    rw [strs_dps b]
    rfl
theorem dps_ofs {K : PySem.W.Frag} {H : Hp} : ∀ xs : List Str, DpAll K H (xs.map V.str) (xs.map .str)
  | [] => .nil
  | x :: r => .cons (.str x) (dps_ofs r)
section
variable {K : PySem.W.Frag}
theorem lc_zipD {a b : Addr} {xs ys : List V} {g : TG} {te : TE} {vs : List Nat} {σ : L2.St} {H0 : Hp} {D : Addr} {Qd : Hp → Prop} (F : List PyData) (hF : noLs F = true) (hlen : xs.length = F.length) (hl2 : xs.length = ys.length) (hn : xs.length ≤ 1000) (ha : SqT K H0 a xs) (hb : SqT K H0 b ys) (hD : H0 D = none)
    (hs : ∀ (i : Nat) (x y : V) (d : PyData) (U : Addr) (H : Hp) (Q : VK), xs[i]? = some x → ys[i]? = some y → F[i]? = some d → Same H0 H → H U = none → (∀ z H4, Same (upd H U (.tup [x, y])) H4 → Dp K H4 z d → Q z H4) → g (.ref U) (wipe σ vs) (upd H U (.tup [x, y])) fun σ2 H2 => wipe σ2 vs = wipe σ vs ∧ te σ2 H2 Q)
    (hd : ∀ H acc, Same H0 H → H D = some (.lst acc) → DpAll K H acc F → Qd H) :
    ∃ W : Nat → Nat → Hp → Prop, (∃ m, W 0 m (upd H0 D (.lst []))) ∧ ∀ i m H, W i m H →
      ((RZ.ItzT K a b).stop i H ∧ Qd H) ∨ ((RZ.ItzT K a b).go i H ∧ ∃ Nx : Hp → Prop, (∀ H', Nx H' → ∃ m', m' < m ∧ W (i + 1) m' H') ∧ ∀ x H', (RZ.ItzT K a b).yld i H x H' → g x (wipe σ vs) H' fun σ2 H2 => wipe σ2 vs = wipe σ vs ∧ tYes σ2 H2 fun b H3 =>
        if b = true then te σ2 H3 fun y H4 => ∃ acc, H4 D = some (.lst acc) ∧ acc.length < sizeLine ∧ Nx (upd H4 D (.lst (acc ++ [y]))) else Nx H3) := by
  refine ⟨fun i m H => m = xs.length - i ∧ i ≤ xs.length ∧ Same H0 H ∧ ∃ acc, H D = some (.lst acc) ∧ DpAll K H acc (F.take i), ⟨xs.length, rfl, Nat.zero_le _, same_new hD, [], upd_same, .nil⟩, ?_⟩
  rintro i m H ⟨rfl, hi, sm, acc, e, dp⟩
  have qx := same_tup sm _ _ ha
  have qy := same_tup sm _ _ hb
  by_cases hlt : i < xs.length
  · have hlt2 : i < ys.length := by omega
    refine .inr ⟨⟨xs, ys, _, _, qx, qy, List.getElem?_eq_getElem hlt, List.getElem?_eq_getElem hlt2⟩, fun H' => i + 1 ≤ xs.length ∧ Same H0 H' ∧ ∃ acc, H' D = some (.lst acc) ∧ DpAll K H' acc (F.take (i + 1)), fun H' p' => ⟨xs.length - (i + 1), by omega, rfl, p'⟩, fun v H' y => ?_⟩
    obtain ⟨U, x', y', rfl, hU, rfl, f1, f2⟩ := y
    have hx := f1 xs qx
    obtain ⟨d, hd'⟩ := at_len2 hlen hx
    have lt := dps_len dp
    rw [List.length_take] at lt
    refine hs i x' y' d U H _ hx (f2 ys qy) hd' sm hU fun z H4 s4 dz => ?_
    have s5 := (Same.up hU).trans s4
    refine ⟨acc, s5 _ _ e, lineS200 (by omega), hlt, same_put (sm.trans s5) hD, acc ++ [z], upd_same, ?_⟩
    rw [take_snoc hd']
    exact push_dps (s5 _ _ e) (dps_stay (same_tup s5) _ _ dp (noLs_take hF)) (noLs_take hF) dz (noLs_at hF hd')
  · obtain rfl : i = xs.length := by omega
    rw [hlen, List.take_length] at dp
    exact .inl ⟨⟨xs, ys, qx, qy, .inl (Nat.le_refl _)⟩, hd H acc sm e dp⟩
end
structure NetSm (n : Net) : Prop where
  ok : NetOk n
  l : n.firsts.length ≤ 90
  a : n.ands.length ≤ 20
  o : n.outs.length ≤ 20
end C1

/-! A net's row, by the program and by the law. -/
namespace C1
open PySem PySem.Spec PyProof.Rows L2 SX
abbrev sWriteNet : Stmt := topS 12
abbrev sLawPut : Stmt := topS 23
abbrev sLawRow : Stmt := topS 26
theorem scWriteNet : FnScope ["net", "firsts", "ands", "nexts", "outs", "numbers", "at", "one", "other", "own", "first", "literal"] ["net"] (defScope sWriteNet) := ⟨rfl, rfl, rfl, by decide +kernel, rfl, by decide +kernel, by decide +kernel⟩
abbrev NWN : List Str := ["net", "firsts", "ands", "nexts", "outs", "numbers", "at", "one", "other", "own", "first", "literal"]
theorem scLawPut : FnScope ["row", "number", "turn"] ["row", "number"] (defScope sLawPut) := ⟨rfl, rfl, rfl, by decide +kernel, rfl, by decide +kernel, by decide +kernel⟩
theorem scLawRow : FnScope ["net", "firsts", "ands", "nexts", "outs", "row", "number", "k", "part", "at", "own"] ["net"] (defScope sLawRow) := ⟨rfl, rfl, rfl, by decide +kernel, rfl, by decide +kernel, by decide +kernel⟩
abbrev NLR : List Str := ["net", "firsts", "ands", "nexts", "outs", "row", "number", "k", "part", "at", "own"]
def andsNums (L : Nat) : Nat → List (Nat × Nat) → List Nat
  | _, [] => []
  | k, p :: r => (2 * (1 + L + k) - 1 - p.1) :: (2 * (1 + L + k) - 1 - p.2) :: andsNums L (k + 1) r
theorem andsNums_snoc {L : Nat} : ∀ (ps : List (Nat × Nat)) (k : Nat) (p : Nat × Nat), andsNums L k (ps ++ [p]) = andsNums L k ps ++ [2 * (1 + L + (k + ps.length)) - 1 - p.1, 2 * (1 + L + (k + ps.length)) - 1 - p.2]
  | [], k, p => rfl
  | q :: ps, k, p => by
    show _ :: _ :: andsNums L (k + 1) (ps ++ [p]) = _ :: _ :: (andsNums L (k + 1) ps ++ _)
    rw [andsNums_snoc ps (k + 1) p]
    show _ = _ :: _ :: (andsNums L (k + 1) ps ++ [2 * (1 + L + (k + (ps.length + 1))) - 1 - p.1, 2 * (1 + L + (k + (ps.length + 1))) - 1 - p.2])
    rw [show k + 1 + ps.length = k + (ps.length + 1) by omega]
theorem andsNums_len {L : Nat} : ∀ (ps : List (Nat × Nat)) (k : Nat), (andsNums L k ps).length = 2 * ps.length
  | [], _ => rfl
  | p :: ps, k => by
    show (andsNums L (k + 1) ps).length + 1 + 1 = 2 * (ps.length + 1)
    rw [andsNums_len ps (k + 1)]
    omega
theorem andsNums_lt {L : Nat} : ∀ (ps : List (Nat × Nat)) (k : Nat), ∀ x ∈ andsNums L k ps, x < 2 * (1 + L + (k + ps.length))
  | [], _, x, hx => by cases hx
  | p :: ps, k, x, hx => by
    show x < 2 * (1 + L + (k + (ps.length + 1)))
    rcases List.mem_cons.mp hx with rfl | hx
    · omega
    · rcases List.mem_cons.mp hx with rfl | hx
      · omega
      · have := andsNums_lt ps (k + 1) x hx
        omega
def latNums (n : Net) : List Nat := (n.firsts.zip n.nexts).map fun p => 2 * p.2 + p.1
def headNums (n : Net) : List Nat := [n.firsts.length, n.ands.length, n.outs.length]
def netNums (n : Net) : List Nat := headNums n ++ (latNums n ++ (n.outs ++ andsNums n.firsts.length 0 n.ands))
def netRow (n : Net) : List Nat := bytesA (netNums n)
theorem bN_len {n : Nat} (h : n < 16384) : (bN n).length ≤ 2 := by
  show (if n < 128 then [n] else (n % 128 + 128) :: bytesN 8 (n / 128)).length ≤ 2
  by_cases h1 : n < 128
  · rw [if_pos h1]
    exact Nat.le_succ 1
  · rw [if_neg h1]
    show (if n / 128 < 128 then [n / 128] else (n / 128 % 128 + 128) :: bytesN 7 (n / 128 / 128)).length + 1 ≤ 2
    rw [if_pos (by omega)]
    exact Nat.le_refl 2
theorem bytesA_le : ∀ {ns : List Nat}, (∀ n ∈ ns, n < 16384) → (bytesA ns).length ≤ 2 * ns.length
  | [], _ => Nat.le_refl _
  | n :: ns, h => by
    have e : bytesA (n :: ns) = bN n ++ bytesA ns := List.flatMap_cons
    have h1 := bN_len (h n (List.mem_cons_self ..))
    have h2 := bytesA_le (ns := ns) fun x hx => h x (List.mem_cons_of_mem _ hx)
    rw [e, List.length_append, List.length_cons]
    omega
theorem lat_len {n : Net} (h : NetOk n) : (latNums n).length = n.firsts.length := by
  unfold latNums
  rw [List.length_map, List.length_zip, h.nl, Nat.min_self]
theorem netNums_len {n : Net} (h : NetOk n) : (netNums n).length = 3 + (n.firsts.length + (n.outs.length + 2 * n.ands.length)) := by
  unfold netNums
  rw [List.length_append, List.length_append, List.length_append, lat_len h, andsNums_len]
  rfl
theorem netNums_lt {n : Net} (h : NetSm n) : ∀ x ∈ netNums n, x < 16384 := by
  have hl := h.l
  have ha := h.a
  have ho := h.o
  intro x hx
  rcases List.mem_append.mp hx with z | hx
  · unfold headNums at z
    simp only [List.mem_cons, List.mem_nil_iff, or_false] at z
    omega
  rcases List.mem_append.mp hx with z | hx
  · obtain ⟨p, hp, rfl⟩ := List.mem_map.mp z
    have h1 := h.ok.fb _ (List.of_mem_zip hp).1
    have h2 := h.ok.no _ (List.of_mem_zip hp).2
    omega
  rcases List.mem_append.mp hx with z | z
  · have := h.ok.oo x z
    omega
  · have := andsNums_lt _ _ x z
    omega
theorem ofs_dps {K : PySem.W.Frag} {H : Hp} : ∀ ks : List Nat, DpAll K H (ks.map iV) (ks.map iD)
  | [] => .nil
  | _ :: r => .cons (.int _) (ofs_dps r)
theorem same_kp {l : Addr} {H H1 H2 : Hp} (s : Same H H1) (k : Kp l H1 H2) (nl : H l = none) : Same H H2 := fun b o e => k b o (fun z => by rw [z, nl] at e; cases e) (s b o e)
section
variable {P : Program} {w : World} {K : PySem.W.Frag} {mg : Str → Option Value} {base : Heap} {C CB : Addr}
def spWrite (K : PySem.W.Frag) : Sp := fun vs H Q _ => ∃ (v : Addr) (n : Net), vs = [.ref v] ∧ Dp K H (.ref v) n.d ∧ NetSm n ∧ ∀ H' l, Same H H' → H l = none → H' l = some (.lst ((netRow n).map iV)) → Q (.ref l) H'
theorem ok_write {f fO fB : Addr} {fd fdO fdB : FuncData} (F : Fun K "write_net" "write_net" sWriteNet f fd) (B : BV mg)
    (GO : FnOk P w K mg base CX0 1 fO fdO ["latches", "at"] spOwn) (kO : PySem.W.keepIn K (.ref fO) = true) (bO : Binds K fdO ["latches", "at"] []) (gO : mg "own_literal" = some (.ref fO))
    (GB : FnOk P w K mg base CX0 1 fB fdB ["numbers"] (spBytes K)) (kB : PySem.W.keepIn K (.ref fB) = true) (bB : Binds K fdB ["numbers"] []) (gB : mg "number_bytes" = some (.ref fB)) :
    FnOk P w K mg base CX0 2 f fd ["net"] (spWrite K) := by
  refine F.ok scWriteNet (fun vs H Q E h => ?_) (fun cdv A outer s H vs Q E hr h => ?_)
  · obtain ⟨v, n, rfl, _⟩ := h
    rfl
  · obtain ⟨v, n, rfl, hd, sm, q⟩ := h
    have nd := scWriteNet.nd
    have hr1 : Room 1 _ := hr
    refine ⟨_, (pss_cons (ps_asg (pv 0) (pg_tup (by rfl) (pgs_cons (pg_name (i := 1) nd rfl (.inl rfl)) (pgs_cons (pg_name (i := 2) nd rfl (.inl rfl)) (pgs_cons (pg_name (i := 3) nd rfl (.inl rfl)) (pgs_cons (pg_name (i := 4) nd rfl (.inl rfl)) pgs_nil))))))
      (pss_cons (ps_set (i := 5) nd rfl (.inl rfl) (pe_lst (pa_cons (pe_callB call_len_seq (by rfl) B.len PySem.boot_len (pa_cons (pv 1) pa_nil)) (pa_cons (pe_callB call_len_seq (by rfl) B.len PySem.boot_len (pa_cons (pv 2) pa_nil)) (pa_cons (pe_callB call_len_seq (by rfl) B.len PySem.boot_len (pa_cons (pv 4) pa_nil)) pa_nil)))))
      (pss_cons (ps_expr (pe_bm PySem.F.plainAttrs_list PySem.F.slot_list_extend PySem.F.type_list_extend mt_extend (pv 5) (pa_cons (pe_lc (own := [("first", 10), ("literal", 11)]) (g := gTup K 2 (gCons (gName 10) (gCons (gName 11) (gNil)))) (tt := tYes) (te := tOp rAddN (tOp rMulN (tC (.int 2)) (tVar 11)) (tVar 10))  rfl nd (RZ.pi_zipA (by rfl) B.zip (pa_cons (pv 1) (pa_cons (pv 3) pa_nil))) (blkOk_by (own := [("first", 10), ("literal", 11)]) (N := NWN) (sc := defScope sWriteNet) (by decide +kernel)) (fun _ _ _ _ _ => pg_tup (by rfl) (pgs_cons (pg_name (i := 10) nd rfl (.inl rfl)) (pgs_cons (pg_name (i := 11) nd rfl (.inl rfl)) pgs_nil))) (fun _ _ _ _ _ => pts_nil) (fun _ _ _ _ _ => by exact (pe_op op_addN (pe_op op_mulN (pe_int) (pv 11)) (pv 10)))) pa_nil)))
      (pss_cons (ps_expr (pe_bm PySem.F.plainAttrs_list PySem.F.slot_list_extend PySem.F.type_list_extend ExT.mt_extT (pv 5) (pa_cons (pv 4) pa_nil)))
      (C8.pss_cut (ps_for PassesOwn.never rfl (EnT.pi_enT (by rfl) B.enumerate (pa_cons (pv 2) pa_nil)) (pg_tup (by rfl) (pgs_cons (pg_name (i := 6) nd rfl (.inl rfl)) (pgs_cons (pg_tup (by rfl) (pgs_cons (pg_name (i := 7) nd rfl (.inl rfl)) (pgs_cons (pg_name (i := 8) nd rfl (.inl rfl)) pgs_nil))) pgs_nil))) (pss_cons (ps_set (i := 9) nd rfl (.inl rfl) (pe_call GO hr1 (by rfl) gO kO bO .nil pass0 (pa_cons (pe_callB call_len_seq (by rfl) B.len PySem.boot_len (pa_cons (pv 1) pa_nil)) (pa_cons (pv 6) pa_nil))))
      (pss_one (ps_expr (pe_bm PySem.F.plainAttrs_list PySem.F.slot_list_extend PySem.F.type_list_extend mt_extend (pv 5) (pa_cons (pe_lst (pa_cons (pe_op op_sub (pe_op op_sub (pv 9) (pe_int)) (pv 7)) (pa_cons (pe_op op_sub (pe_op op_sub (pv 9) (pe_int)) (pv 8)) pa_nil))) pa_nil))))))
      (pss_one (ps_ret (pe_call GB hr1 (by rfl) gB kB bB .nil pass0 (pa_cons (pv 5) pa_nil))))))))), ?_⟩
    obtain ⟨fA, aA, xA, oA, avs, h0, h1, ⟨h2, d2⟩, h3, h4⟩ := (NP.of hd).ex
    have hl := sm.l
    have ha := sm.a
    have ho := sm.o
    have hnl := sm.ok.nl
    have lav := dps_len d2
    rw [List.length_map] at lav
    refine ⟨_, rfl, v, _, rfl, h0, rfl, _, _, rfl, _, _, rfl, _, _, rfl, _, _, rfl, rfl, ?_⟩
    refine ⟨_, rfl, fA, _, rfl, .inr h1, _, rfl, aA, _, rfl, .inr h2, _, rfl, oA, _, rfl, .inr h4, line200 (show 3 ≤ 1000 by decide), fun l nl => ?_⟩
    have eh : ([V.int ((n.firsts.map iV).length : Nat), V.int (avs.length : Nat), V.int ((n.outs.map iV).length : Nat)] : List V) = (headNums n).map iV := by
      rw [List.length_map, List.length_map, lav]
      rfl
    rw [eh]
    have s0 : Same H (upd H l (.lst ((headNums n).map iV))) := Same.up nl
    have e0 : (upd H l (.lst ((headNums n).map iV))) l = some (.lst ((headNums n).map iV)) := upd_same
    generalize upd H l (.lst ((headNums n).map iV)) = H1 at s0 e0
    refine ⟨_, rfl, .inl ⟨rfl, _, SqL.of e0⟩, _, rfl, _, rfl, fA, xA, _, _, rfl, .inr ⟨same_tup s0 _ _ h1, same_tup s0 _ _ h3, fun D1 nD1 => ?_⟩⟩
    refine lc_zipD (xs := n.firsts.map iV) (ys := n.nexts.map iV) ((latNums n).map iD) (noLs_int _) (by rw [List.length_map, List.length_map, lat_len sm.ok]) (by rw [List.length_map, List.length_map, hnl]) (by rw [List.length_map]; omega) (same_tup s0 _ _ h1) (same_tup s0 _ _ h3) nD1 (fun i x y d U H4 Q4 hx hy hdi sm4 nU q4 => ?_) (fun H4 acc1 g1 e1 dp1 => ?_)
    · rw [List.getElem?_map] at hdi hx hy
      obtain ⟨f0, ef, rfl⟩ := Option.map_eq_some_iff.mp hx
      obtain ⟨x0, ex, rfl⟩ := Option.map_eq_some_iff.mp hy
      obtain ⟨d0, ed, rfl⟩ := Option.map_eq_some_iff.mp hdi
      have ed2 : ((n.firsts.zip n.nexts).map fun p => 2 * p.2 + p.1)[i]? = some d0 := ed
      rw [List.getElem?_map, show (n.firsts.zip n.nexts)[i]? = some (f0, x0) from List.getElem?_zip_eq_some.mpr ⟨ef, ex⟩] at ed2
      cases ed2
      exact ⟨U, _, rfl, SqT.of upd_same, rfl, _, _, rfl, _, _, rfl, rfl, rfl, _, rfl, 2, x0, rfl, rfl, by decide, _, rfl, _, _, rfl, rfl, q4 _ _ (Same.refl _) (.int _)⟩
    have ea1 := dps_ints_eq dp1
    subst ea1
    refine ⟨l, D1, _, _, rfl, rfl, g1 _ _ e0, e1, line200 (by rw [List.length_map, List.length_map, lat_len sm.ok]; show 3 + n.firsts.length ≤ 1000; omega), ?_⟩
    have s1 := same_put (s0.trans g1) nl (o := .lst ((headNums n).map iV ++ (latNums n).map iV))
    have e2 : (upd H4 l (.lst ((headNums n).map iV ++ (latNums n).map iV))) l = some (.lst ((headNums n).map iV ++ (latNums n).map iV)) := upd_same
    generalize upd H4 l (.lst ((headNums n).map iV ++ (latNums n).map iV)) = H5 at s1 e2
    have lb : ((headNums n).map iV ++ (latNums n).map iV).length = 3 + n.firsts.length := by
      rw [List.length_append, List.length_map, List.length_map, lat_len sm.ok]
      rfl
    refine ⟨_, rfl, .inl ⟨rfl, _, SqL.of e2⟩, _, rfl, l, oA, _, _, rfl, rfl, e2, same_tup s1 _ _ h4, line200 (by rw [lb, List.length_map]; omega), ?_⟩
    have s3 := same_put s1 nl (o := .lst ((headNums n).map iV ++ (latNums n).map iV ++ n.outs.map iV))
    have e3 : (upd H5 l (.lst ((headNums n).map iV ++ (latNums n).map iV ++ n.outs.map iV))) l = some (.lst ((headNums n ++ (latNums n ++ n.outs)).map iV)) := by
      rw [upd_same, List.map_append, List.map_append, List.append_assoc]
    generalize upd H5 l (.lst ((headNums n).map iV ++ (latNums n).map iV ++ n.outs.map iV)) = H6 at s3 e3
    obtain ⟨bs, ebs⟩ : ∃ bs, bs = headNums n ++ (latNums n ++ n.outs) := ⟨_, rfl⟩
    rw [← ebs] at e3
    have lbs : bs.length = 3 + (n.firsts.length + n.outs.length) := by
      rw [ebs, List.length_append, List.length_append, lat_len sm.ok]
      rfl
    refine ⟨fun σ H7 => ∃ y1 y2 y3 y4, σ = [some (.ref v), some (.ref fA), some (.ref aA), some (.ref xA), some (.ref oA), some (.ref l), y1, y2, y3, y4, none, none] ∧ Same H H7 ∧ H7 l = some (.lst ((bs ++ andsNums n.firsts.length 0 n.ands).map iV)), ?_, ?_⟩
    · refine ⟨_, rfl, aA, _, rfl, same_tup s3 _ _ h2, EnT.for_enT (xs := avs) (fun i σ H7 => ∃ y1 y2 y3 y4, σ = [some (.ref v), some (.ref fA), some (.ref aA), some (.ref xA), some (.ref oA), some (.ref l), y1, y2, y3, y4, none, none] ∧ Same H H7 ∧ H7 l = some (.lst ((bs ++ andsNums n.firsts.length 0 (n.ands.take i)).map iV))) ⟨none, none, none, none, rfl, s3, by rw [List.take_zero]; show H6 l = some (HO.lst ((bs ++ []).map iV)); rw [List.append_nil]; exact e3⟩ (fun i σ H7 _ h => ?_) ?_ (fun σ H7 h => ?_)⟩
      · obtain ⟨_, _, _, _, _, s7, _⟩ := h
        exact same_tup s7 _ _ h2
      · rintro i x U σ H7 hx ⟨y1, y2, y3, y4, rfl, s7, e7⟩ nU
        have hi := (List.getElem?_eq_some_iff.mp hx).1
        obtain ⟨p, ep⟩ : ∃ p, n.ands[i]? = some p := ⟨_, List.getElem?_eq_getElem (by omega)⟩
        obtain ⟨b, eb, sb⟩ := pr_at d2 ep
        rw [hx] at eb
        cases eb
        have lts := sm.ok.ao i p ep
        have sU : Same H7 (upd H7 U (.tup [.int ((i : Nat) : Int), .ref b])) := Same.up nU
        refine ⟨U, _, rfl, SqT.of upd_same, rfl, _, _, rfl, _, _, rfl, b, _, rfl, same_tup (s7.trans sU) _ _ sb, rfl, _, _, rfl, _, _, rfl, rfl, rfl, ?_⟩
        have s8 := s7.trans sU
        have e8 := sU _ _ e7
        generalize upd H7 U (.tup [.int ((i : Nat) : Int), .ref b]) = H8 at s8 e8
        refine ⟨_, rfl, fA, _, rfl, .inr (same_tup s8 _ _ h1), _, rfl, (n.firsts.map iV).length, i, rfl, ?_⟩
        rw [List.length_map]
        have l8 : ((bs ++ andsNums n.firsts.length 0 (n.ands.take i)).map iV).length ≤ 200 := by
          rw [List.length_map, List.length_append, andsNums_len, List.length_take]
          omega
        refine ⟨_, rfl, .inl ⟨rfl, _, SqL.of e8⟩, _, rfl, _, _, rfl, rfl, _, rfl, _, _, rfl, rfl, _, rfl, _, _, rfl, rfl, _, rfl, _, _, rfl, rfl, line200 (show 2 ≤ 1000 by decide), fun t nt => ?_⟩
        have v1 : V.int ((((2 * (1 + n.firsts.length + i) : Nat) : Int) - 1) - ((p.1 : Nat) : Int)) = iV (2 * (1 + n.firsts.length + i) - 1 - p.1) := by
          congr 1
          omega
        have v2 : V.int ((((2 * (1 + n.firsts.length + i) : Nat) : Int) - 1) - ((p.2 : Nat) : Int)) = iV (2 * (1 + n.firsts.length + i) - 1 - p.2) := by
          congr 1
          omega
        refine ⟨l, t, _, [iV (2 * (1 + n.firsts.length + i) - 1 - p.1), iV (2 * (1 + n.firsts.length + i) - 1 - p.2)], rfl, rfl, Same.up nt _ _ e8, (by rw [← v1, ← v2]; exact upd_same), line200 (by show _ + 2 ≤ 1000; omega), ?_⟩
        refine ⟨_, _, _, _, rfl, same_put (s8.trans (Same.up nt)) nl, ?_⟩
        rw [upd_same, take_snoc ep, andsNums_snoc, ← List.append_assoc, List.map_append (l₂ := [_, _]), List.length_take, Nat.min_eq_left (by omega), Nat.zero_add]
        rfl
      · obtain ⟨y1, y2, y3, y4, rfl, s7, e7⟩ := h
        rw [lav, List.take_length] at e7
        exact ⟨y1, y2, y3, y4, rfl, s7, e7⟩
    rintro σ H7 ⟨y1, y2, y3, y4, rfl, s7, e7⟩
    have en : bs ++ andsNums n.firsts.length 0 n.ands = netNums n := by
      rw [ebs]
      unfold netNums
      rw [List.append_assoc, List.append_assoc]
    rw [en] at e7
    have lt := netNums_lt sm
    have ll := bytesA_le lt
    have nlen := netNums_len sm.ok
    refine ⟨_, rfl, l, netNums n, rfl, SqL.of e7, fun x hx => Nat.lt_trans (lt x hx) (by decide), by omega, fun H8 l2 s8 nl2 e8 => ?_⟩
    exact q H8 l2 (s7.trans s8) (by
      cases e : H l2 with
      | none => rfl
      | some o =>
        rw [s7 _ _ e] at nl2
        cases nl2) e8
end
end C1

/-! The law's row of a net. -/
namespace C1
open PySem PySem.Spec PyProof.Rows L2 SX
section
variable {P : Program} {w : World} {K : PySem.W.Frag} {mg : Str → Option Value} {base : Heap} {C CB : Addr}
def spPut : Sp := fun vs H Q _ => ∃ (r : Addr) (n : Nat) (xs : List Nat), vs = [.ref r, iV n] ∧ H r = some (.lst (xs.map iV)) ∧ n < 128 ^ 9 ∧ xs.length ≤ 2000 ∧ ∀ H', Kp r H H' → H' r = some (.lst ((xs ++ bN n).map iV)) → Q .non H'
theorem bN_ten : ∀ {f n : Nat}, (bytesN f n).length ≤ f + 1
  | 0, _ => Nat.le_refl _
  | f + 1, n => by
    unfold bytesN
    by_cases h : n < 128
    · rw [if_pos h]
      show 1 ≤ f + 1 + 1
      omega
    · rw [if_neg h]
      show (bytesN f (n / 128)).length + 1 ≤ f + 1 + 1
      have := bN_ten (f := f) (n := n / 128)
      omega
theorem ok_put {f : Addr} {fd : FuncData} (F : Fun K "_law_put" "_law_put" sLawPut f fd) (B : BV mg) : FnOk P w K mg base CX0 1 f fd ["row", "number"] spPut := by
  refine F.ok scLawPut (fun vs H Q E h => ?_) (fun cdv A outer s H vs Q E hr h => ?_)
  · obtain ⟨r, n, xs, rfl, _⟩ := h
    rfl
  · obtain ⟨r, n, xs, rfl, hr0, hn, hl, q⟩ := h
    have nd := scLawPut.nd
    refine ⟨_, (C8.pss_cut (ps_for PassesOwn.never rfl (pi_range1 (by rfl) B.range (pa_cons (pe_int) pa_nil)) (pg_name (i := 2) nd rfl (.inl rfl)) (pss_cons (ps_if (pt_cmpR op_lt (pv 1) (pe_int) (nomark _)) (pss_one (ps_break)) pss_nil)
      (pss_cons (ps_expr (pe_bm PySem.F.plainAttrs_list PySem.F.slot_list_append PySem.F.type_list_append mt_append (pv 0) (pa_cons (pe_op op_addN (pe_op op_modNN (pe_callTy call_int1 (by rfl) B.int (by decide +kernel) (pa_cons (pv 1) pa_nil)) (pe_int)) (pe_int)) pa_nil)))
      (pss_one (ps_set (i := 1) nd rfl (.inl rfl) (pe_op op_fdiv (pv 1) (pe_int)))))))
      (pss_one (ps_expr (pe_bm PySem.F.plainAttrs_list PySem.F.slot_list_append PySem.F.type_list_append mt_append (pv 0) (pa_cons (pv 1) pa_nil))))), ?_⟩
    have len9 : (bN n).length ≤ 10 := bN_ten (f := 9) (n := n)
    refine ⟨fun σ H1 => ∃ m don y, σ = [some (.ref r), some (iV m), y] ∧ don ++ [m] = bN n ∧ Kp r H H1 ∧ H1 r = some (.lst ((xs ++ don).map iV)), ?_, ?_⟩
    · refine ⟨9, rfl, by decide, by decide, for_range (n := 9) (fun i σ H1 => ∃ m don y, σ = [some (.ref r), some (iV m), y] ∧ i ≤ 9 ∧ m < 128 ^ (9 - i + 1) ∧ don ++ bytesN (9 - i) m = bN n ∧ Kp r H H1 ∧ H1 r = some (.lst ((xs ++ don).map iV))) ⟨n, [], none, rfl, by decide, Nat.lt_trans hn (by decide), rfl, (fun _ _ _ e => e), by rw [List.append_nil]; exact hr0⟩ (fun i σ H1 hi h => ?_) (fun σ H1 h => ?_)⟩
      · obtain ⟨m, don, y, rfl, hi9, hm, edon, kp, e1⟩ := h
        have dl : don.length ≤ 10 := by
          have := congrArg List.length edon
          rw [List.length_append] at this
          omega
        refine ⟨_, rfl, _, _, rfl, rfl, _, rfl, ?_⟩
        obtain ⟨j, hj⟩ : ∃ j, 9 - i = j + 1 := ⟨9 - i - 1, by omega⟩
        rw [hj] at hm edon
        by_cases h1 : m < 128
        · refine iteT' (decide_eq_true (by omega)) ?_
          have eb : bytesN (j + 1) m = [m] := if_pos h1
          exact ⟨m, don, _, rfl, by rw [← edon, eb], kp, e1⟩
        · refine iteF' (decide_eq_false (by omega)) ?_
          have eb : bytesN (j + 1) m = (m % 128 + 128) :: bytesN j (m / 128) := if_neg h1
          refine ⟨_, rfl, .inl ⟨rfl, _, SqL.of e1⟩, _, rfl, .inl ⟨_, rfl, m, 128, rfl, rfl, by decide, _, 128, rfl, rfl, r, _, _, rfl, rfl, e1, lineX (by rw [List.length_map, List.length_append]; omega), ?_⟩⟩
          refine ⟨_, rfl, _, _, rfl, rfl, ⟨by decide, by decide⟩, ?_⟩
          refine ⟨m / 128, don ++ [m % 128 + 128], _, rfl, by omega, ?_, ?_, kp_trans kp kp_put, ?_⟩
          · rw [show 9 - (i + 1) = j by omega, Nat.div_lt_iff_lt_mul (by decide)]
            exact hm
          · rw [show 9 - (i + 1) = j by omega, ← edon, eb, List.append_assoc]
            rfl
          · rw [upd_same, ← List.append_assoc, List.map_append (l₂ := [_])]
            rfl
      · obtain ⟨m, don, y, rfl, hi9, hm, edon, kp, e1⟩ := h
        exact ⟨m, don, y, rfl, edon, kp, e1⟩
    rintro σ H1 ⟨m, don, y, rfl, edon, kp, e1⟩
    have dl : don.length ≤ 10 := by
      have := congrArg List.length edon
      rw [List.length_append] at this
      omega
    refine ⟨_, rfl, .inl ⟨rfl, _, SqL.of e1⟩, _, rfl, r, _, _, rfl, rfl, e1, lineX (by rw [List.length_map, List.length_append]; omega), ?_⟩
    refine q _ (kp_trans kp kp_put) ?_
    rw [upd_same, ← edon, ← List.append_assoc, List.map_append (l₂ := [m])]
    rfl
theorem kp_tupL {l a : Addr} {H H' : Hp} {ys xs : List V} (e : H l = some (.lst ys)) (k : Kp l H H') (h : SqT K H a xs) : SqT K H' a xs := by
  rcases h with (h | ⟨u, h⟩) | h
  · exact .inl (.inl (k _ _ (ne_of h e (by intro z; cases z)) h))
  · exact .inl (.inr ⟨u, k _ _ (ne_of h e (by intro z; cases z)) h⟩)
  · exact .inr h
theorem ok_lRow {f fU : Addr} {fd fdU : FuncData} (F : Fun K "_law_row" "_law_row" sLawRow f fd) (B : BV mg)
    (GU : FnOk P w K mg base CX0 1 fU fdU ["row", "number"] spPut) (kU : PySem.W.keepIn K (.ref fU) = true) (bU : Binds K fdU ["row", "number"] []) (gU : mg "_law_put" = some (.ref fU)) : FnOk P w K mg base CX0 2 f fd ["net"] (spWrite K) := by
  refine F.ok scLawRow (fun vs H Q E h => ?_) (fun cdv A outer s H vs Q E hr h => ?_)
  · obtain ⟨v, n, rfl, _⟩ := h
    rfl
  · obtain ⟨v, n, rfl, hd, sm, q⟩ := h
    have nd := scLawRow.nd
    have hr1 : Room 1 _ := hr
    refine ⟨_, (pss_cons (ps_asg (pv 0) (pg_tup (by rfl) (pgs_cons (pg_name (i := 1) nd rfl (.inl rfl)) (pgs_cons (pg_name (i := 2) nd rfl (.inl rfl)) (pgs_cons (pg_name (i := 3) nd rfl (.inl rfl)) (pgs_cons (pg_name (i := 4) nd rfl (.inl rfl)) pgs_nil))))))
      (pss_cons (ps_set (i := 5) nd rfl (.inl rfl) (pe_lst pa_nil))
      (C8.pss_cut (ps_for PassesOwn.never rfl (pi_tup (pe_tup (pa_cons (pe_callB call_len_seq (by rfl) B.len PySem.boot_len (pa_cons (pv 1) pa_nil)) (pa_cons (pe_callB call_len_seq (by rfl) B.len PySem.boot_len (pa_cons (pv 2) pa_nil)) (pa_cons (pe_callB call_len_seq (by rfl) B.len PySem.boot_len (pa_cons (pv 4) pa_nil)) pa_nil))))) (pg_name (i := 6) nd rfl (.inl rfl)) (pss_one (ps_expr (pe_call GU hr1 (by rfl) gU kU bU .nil pass0 (pa_cons (pv 5) (pa_cons (pv 6) pa_nil))))))
      (C8.pss_cut (ps_for PassesOwn.never rfl (pi_range1 (by rfl) B.range (pa_cons (pe_callB call_len_seq (by rfl) B.len PySem.boot_len (pa_cons (pv 1) pa_nil)) pa_nil)) (pg_name (i := 7) nd rfl (.inl rfl)) (pss_one (ps_expr (pe_call GU hr1 (by rfl) gU kU bU .nil pass0 (pa_cons (pv 5) (pa_cons (pe_op op_addN (pe_op op_mulN (pe_int) (pe_ix ix_tup (pv 3) (pv 7) (fun _ _ => rfl))) (pe_ix ix_tup (pv 1) (pv 7) (fun _ _ => rfl))) pa_nil))))))
      (C8.pss_cut (ps_for PassesOwn.never rfl (pi_tup (pv 4)) (pg_name (i := 8) nd rfl (.inl rfl)) (pss_one (ps_expr (pe_call GU hr1 (by rfl) gU kU bU .nil pass0 (pa_cons (pv 5) (pa_cons (pv 8) pa_nil))))))
      (C8.pss_cut (ps_for PassesOwn.never rfl (pi_range1 (by rfl) B.range (pa_cons (pe_callB call_len_seq (by rfl) B.len PySem.boot_len (pa_cons (pv 2) pa_nil)) pa_nil)) (pg_name (i := 9) nd rfl (.inl rfl)) (pss_cons (ps_set (i := 10) nd rfl (.inl rfl) (pe_op op_mulN (pe_int) (pe_op op_addN (pe_op op_addN (pe_int) (pe_callB call_len_seq (by rfl) B.len PySem.boot_len (pa_cons (pv 1) pa_nil))) (pv 9))))
      (pss_cons (ps_expr (pe_call GU hr1 (by rfl) gU kU bU .nil pass0 (pa_cons (pv 5) (pa_cons (pe_op op_sub (pe_op op_sub (pv 10) (pe_int)) (pe_ix ix_tup (pe_ix ix_tup (pv 2) (pv 9) (fun _ _ => rfl)) (pe_int) (fun _ _ => rfl))) pa_nil))))
      (pss_one (ps_expr (pe_call GU hr1 (by rfl) gU kU bU .nil pass0 (pa_cons (pv 5) (pa_cons (pe_op op_sub (pe_op op_sub (pv 10) (pe_int)) (pe_ix ix_tup (pe_ix ix_tup (pv 2) (pv 9) (fun _ _ => rfl)) (pe_int) (fun _ _ => rfl))) pa_nil))))))))
      (pss_one (ps_ret (pv 5))))))))), ?_⟩
    obtain ⟨fA, aA, xA, oA, avs, h0, h1, ⟨h2, d2⟩, h3, h4⟩ := (NP.of hd).ex
    have hl := sm.l
    have ha := sm.a
    have ho := sm.o
    have hnl := sm.ok.nl
    have lav := dps_len d2
    rw [List.length_map] at lav
    have lts := netNums_lt sm
    have small : ∀ {ns : List Nat}, (∀ x ∈ ns, x ∈ netNums n) → ns.length ≤ 300 → (bytesA ns).length ≤ 600 := fun {ns} hx hl => by
      have := bytesA_le (ns := ns) fun x h => lts x (hx x h)
      omega
    have big : ∀ {x : Nat}, x ∈ netNums n → x < 128 ^ 9 := fun {x} hx => Nat.lt_trans (lts x hx) (by decide)
    have inH : ∀ x ∈ headNums n, x ∈ netNums n := fun x hx => List.mem_append_left _ hx
    have inL : ∀ x ∈ latNums n, x ∈ netNums n := fun x hx => List.mem_append_right _ (List.mem_append_left _ hx)
    have inO : ∀ x ∈ n.outs, x ∈ netNums n := fun x hx => List.mem_append_right _ (List.mem_append_right _ (List.mem_append_left _ hx))
    have inA : ∀ x ∈ andsNums n.firsts.length 0 n.ands, x ∈ netNums n := fun x hx => List.mem_append_right _ (List.mem_append_right _ (List.mem_append_right _ hx))
    have llat := lat_len sm.ok
    have hlen : (headNums n).length = 3 := rfl
    refine ⟨_, rfl, v, _, rfl, h0, rfl, _, _, rfl, _, _, rfl, _, _, rfl, _, _, rfl, rfl, ?_⟩
    refine ⟨Nat.zero_le _, fun l nl => ?_⟩
    have s0 : Same H (upd H l (.lst [])) := Same.up nl
    have e0 : (upd H l (.lst [])) l = some (.lst []) := upd_same
    generalize upd H l (.lst []) = H1 at s0 e0
    -- the three heads
    refine ⟨fun σ H2 => ∃ y, σ = [some (.ref v), some (.ref fA), some (.ref aA), some (.ref xA), some (.ref oA), some (.ref l), y, none, none, none, none] ∧ Same H H2 ∧ H2 l = some (.lst ((bytesA (headNums n)).map iV)), ?_, ?_⟩
    · refine ⟨_, rfl, fA, _, rfl, .inr (same_tup s0 _ _ h1), _, rfl, aA, _, rfl, .inr (same_tup s0 _ _ h2), _, rfl, oA, _, rfl, .inr (same_tup s0 _ _ h4), line200 (show 3 ≤ 1000 by decide), fun t nt => ?_⟩
      have eh : ([V.int ((n.firsts.map iV).length : Nat), V.int (avs.length : Nat), V.int ((n.outs.map iV).length : Nat)] : List V) = (headNums n).map iV := by
        rw [List.length_map, List.length_map, lav]
        rfl
      rw [eh]
      have st : Same H1 (upd H1 t (.tup ((headNums n).map iV))) := Same.up nt
      have et : SqT K (upd H1 t (.tup ((headNums n).map iV))) t ((headNums n).map iV) := SqT.of upd_same
      have e1 := st _ _ e0
      have s1 := s0.trans st
      generalize upd H1 t (.tup ((headNums n).map iV)) = H2 at s1 et e1
      refine ⟨t, rfl, ⟨_, et⟩, for_tup (K := K) (xs := (headNums n).map iV) (fun i σ H3 => ∃ y, σ = [some (.ref v), some (.ref fA), some (.ref aA), some (.ref xA), some (.ref oA), some (.ref l), y, none, none, none, none] ∧ Same H H3 ∧ SqT K H3 t ((headNums n).map iV) ∧ H3 l = some (.lst ((bytesA ((headNums n).take i)).map iV))) ⟨none, rfl, s1, et, e1⟩ (fun i σ H3 _ h => ?_) (fun i x σ H3 hx h => ?_) (fun σ H3 h => ?_)⟩
      · obtain ⟨_, _, _, et3, _⟩ := h
        exact et3
      · obtain ⟨y, rfl, s3, et3, e3⟩ := h
        obtain ⟨m, em, rfl⟩ := ivs_at hx
        have hmem := List.mem_of_getElem? em
        refine ⟨_, rfl, _, rfl, l, m, _, rfl, e3, big (inH m hmem), ?_, fun H4 k4 e4 => ?_⟩
        · have := small (ns := (headNums n).take i) (fun x hx => inH x (List.mem_of_mem_take hx)) (by rw [List.length_take]; omega)
          omega
        · refine ⟨_, rfl, same_kp s3 k4 nl, kp_tupL e3 k4 et3, ?_⟩
          rw [take_snoc em, bytesA_snoc]
          exact e4
      · obtain ⟨y, rfl, s3, _, e3⟩ := h
        rw [List.length_map, List.take_length] at e3
        exact ⟨y, rfl, s3, e3⟩
    rintro σ H2 ⟨y6, rfl, s2, e2⟩
    -- the latches
    refine ⟨fun σ H3 => ∃ y7, σ = [some (.ref v), some (.ref fA), some (.ref aA), some (.ref xA), some (.ref oA), some (.ref l), y6, y7, none, none, none] ∧ Same H H3 ∧ H3 l = some (.lst ((bytesA (headNums n ++ latNums n)).map iV)), ?_, ?_⟩
    · refine ⟨_, rfl, fA, _, rfl, .inr (same_tup s2 _ _ h1), _, rfl, by omega, by rw [List.length_map]; omega, ?_⟩
      rw [List.length_map, Int.toNat_natCast]
      refine for_range (n := n.firsts.length) (fun i σ H3 => ∃ y7, σ = [some (.ref v), some (.ref fA), some (.ref aA), some (.ref xA), some (.ref oA), some (.ref l), y6, y7, none, none, none] ∧ Same H H3 ∧ H3 l = some (.lst ((bytesA (headNums n ++ (latNums n).take i)).map iV))) ⟨none, rfl, s2, by rw [List.take_zero, List.append_nil]; exact e2⟩ (fun i σ H3 hi h => ?_) (fun σ H3 h => ?_)
      · obtain ⟨y7, rfl, s3, e3⟩ := h
        obtain ⟨f0, ef⟩ : ∃ x, n.firsts[i]? = some x := ⟨_, List.getElem?_eq_getElem hi⟩
        obtain ⟨x0, ex⟩ : ∃ x, n.nexts[i]? = some x := ⟨_, List.getElem?_eq_getElem (by omega)⟩
        have em : (latNums n)[i]? = some (2 * x0 + f0) := by
          unfold latNums
          rw [List.getElem?_map, show (n.firsts.zip n.nexts)[i]? = some (f0, x0) from List.getElem?_zip_eq_some.mpr ⟨ef, ex⟩]
          rfl
        have hmem := List.mem_of_getElem? em
        rw [Int.zero_add]
        refine ⟨_, rfl, _, rfl, _, rfl, xA, _, _, iV x0, rfl, rfl, same_tup s3 _ _ h3, atI_nat (by rw [List.getElem?_map, ex]; rfl), 2, x0, rfl, rfl, by decide, _, rfl, _, rfl, fA, _, _, iV f0, rfl, rfl, same_tup s3 _ _ h1, atI_nat (by rw [List.getElem?_map, ef]; rfl), 2 * x0, f0, rfl, rfl, l, 2 * x0 + f0, _, rfl, e3, big (inL _ hmem), ?_, fun H4 k4 e4 => ?_⟩
        · have := small (ns := headNums n ++ (latNums n).take i) (fun x hx => (List.mem_append.mp hx).elim (inH x) fun z => inL x (List.mem_of_mem_take z)) (by rw [List.length_append, List.length_take]; omega)
          omega
        · refine ⟨_, rfl, same_kp s3 k4 nl, ?_⟩
          rw [take_snoc em, ← List.append_assoc, bytesA_snoc]
          exact e4
      · obtain ⟨y7, rfl, s3, e3⟩ := h
        rw [← llat, List.take_length] at e3
        exact ⟨y7, rfl, s3, e3⟩
    rintro σ H3 ⟨y7, rfl, s3, e3⟩
    obtain ⟨bs, ebs⟩ : ∃ bs, bs = headNums n ++ latNums n := ⟨_, rfl⟩
    rw [← ebs] at e3
    have lbs : bs.length = 3 + n.firsts.length := by
      rw [ebs, List.length_append, llat]
      rfl
    have inB : ∀ x ∈ bs, x ∈ netNums n := fun x hx => (List.mem_append.mp (ebs ▸ hx)).elim (inH x) (inL x)
    -- what is told
    refine ⟨fun σ H4 => ∃ y8, σ = [some (.ref v), some (.ref fA), some (.ref aA), some (.ref xA), some (.ref oA), some (.ref l), y6, y7, y8, none, none] ∧ Same H H4 ∧ H4 l = some (.lst ((bytesA (bs ++ n.outs)).map iV)), ?_, ?_⟩
    · refine ⟨_, rfl, oA, rfl, ⟨_, same_tup s3 _ _ h4⟩, for_tup (K := K) (xs := n.outs.map iV) (fun i σ H4 => ∃ y8, σ = [some (.ref v), some (.ref fA), some (.ref aA), some (.ref xA), some (.ref oA), some (.ref l), y6, y7, y8, none, none] ∧ Same H H4 ∧ H4 l = some (.lst ((bytesA (bs ++ n.outs.take i)).map iV))) ⟨none, rfl, s3, by rw [List.take_zero, List.append_nil]; exact e3⟩ (fun i σ H4 _ h => ?_) (fun i x σ H4 hx h => ?_) (fun σ H4 h => ?_)⟩
      · obtain ⟨_, _, s4, _⟩ := h
        exact same_tup s4 _ _ h4
      · obtain ⟨y8, rfl, s4, e4⟩ := h
        obtain ⟨m, em, rfl⟩ := ivs_at hx
        have hmem := List.mem_of_getElem? em
        refine ⟨_, rfl, _, rfl, l, m, _, rfl, e4, big (inO m hmem), ?_, fun H5 k5 e5 => ?_⟩
        · have := small (ns := bs ++ n.outs.take i) (fun x hx => (List.mem_append.mp hx).elim (inB x) fun z => inO x (List.mem_of_mem_take z)) (by rw [List.length_append, List.length_take]; omega)
          omega
        · refine ⟨_, rfl, same_kp s4 k5 nl, ?_⟩
          rw [take_snoc em, ← List.append_assoc, bytesA_snoc]
          exact e5
      · obtain ⟨y8, rfl, s4, e4⟩ := h
        rw [List.length_map, List.take_length] at e4
        exact ⟨y8, rfl, s4, e4⟩
    rintro σ H4 ⟨y8, rfl, s4, e4⟩
    obtain ⟨cs, ecs⟩ : ∃ cs, cs = bs ++ n.outs := ⟨_, rfl⟩
    rw [← ecs] at e4
    have lcs : cs.length = 3 + n.firsts.length + n.outs.length := by
      rw [ecs, List.length_append, lbs]
    have inC : ∀ x ∈ cs, x ∈ netNums n := fun x hx => (List.mem_append.mp (ecs ▸ hx)).elim (inB x) (inO x)
    -- the ands
    refine ⟨fun σ H5 => ∃ y9 y10, σ = [some (.ref v), some (.ref fA), some (.ref aA), some (.ref xA), some (.ref oA), some (.ref l), y6, y7, y8, y9, y10] ∧ Same H H5 ∧ H5 l = some (.lst ((bytesA (cs ++ andsNums n.firsts.length 0 n.ands)).map iV)), ?_, ?_⟩
    · refine ⟨_, rfl, aA, _, rfl, .inr (same_tup s4 _ _ h2), _, rfl, by omega, by omega, ?_⟩
      rw [lav, Int.toNat_natCast]
      refine for_range (n := n.ands.length) (fun i σ H5 => ∃ y9 y10, σ = [some (.ref v), some (.ref fA), some (.ref aA), some (.ref xA), some (.ref oA), some (.ref l), y6, y7, y8, y9, y10] ∧ Same H H5 ∧ H5 l = some (.lst ((bytesA (cs ++ andsNums n.firsts.length 0 (n.ands.take i))).map iV))) ⟨none, none, rfl, s4, by rw [List.take_zero]; show H4 l = some (HO.lst ((bytesA (cs ++ [])).map iV)); rw [List.append_nil]; exact e4⟩ (fun i σ H5 hi h => ?_) (fun σ H5 h => ?_)
      · obtain ⟨y9, y10, rfl, s5, e5⟩ := h
        obtain ⟨p, ep⟩ : ∃ p, n.ands[i]? = some p := ⟨_, List.getElem?_eq_getElem hi⟩
        obtain ⟨b, eb, sb⟩ := pr_at d2 ep
        have lt := sm.ok.ao i p ep
        have st := andsNums_snoc (L := n.firsts.length) (n.ands.take i) 0 p
        rw [← take_snoc ep, List.length_take, Nat.min_eq_left (by omega), Nat.zero_add] at st
        obtain ⟨u1, eu1⟩ : ∃ u, u = 2 * (1 + n.firsts.length + i) - 1 - p.1 := ⟨_, rfl⟩
        obtain ⟨u2, eu2⟩ : ∃ u, u = 2 * (1 + n.firsts.length + i) - 1 - p.2 := ⟨_, rfl⟩
        rw [← eu1, ← eu2] at st
        have inT : ∀ x ∈ andsNums n.firsts.length 0 (n.ands.take (i + 1)), x ∈ netNums n := fun x hx => inA x (by
          have : ∀ (ps qs : List (Nat × Nat)) (k : Nat), ∀ x ∈ andsNums n.firsts.length k ps, x ∈ andsNums n.firsts.length k (ps ++ qs) := fun ps => by
            induction ps with
            | nil => intro qs k x hx; cases hx
            | cons a ps ih =>
              intro qs k x hx
              rcases List.mem_cons.mp hx with e | hx
              · rw [e]; exact List.mem_cons_self ..
              · rcases List.mem_cons.mp hx with e | hx
                · rw [e]; exact List.mem_cons_of_mem _ (List.mem_cons_self ..)
                · exact List.mem_cons_of_mem _ (List.mem_cons_of_mem _ (ih qs (k + 1) x hx))
          have := this (n.ands.take (i + 1)) (n.ands.drop (i + 1)) 0 x hx
          rwa [List.take_append_drop] at this)
        rw [st] at inT
        have m1 : u1 ∈ netNums n := inT u1 (List.mem_append_right _ (List.mem_cons_self ..))
        have m2 : u2 ∈ netNums n := inT u2 (List.mem_append_right _ (List.mem_cons_of_mem _ (List.mem_cons_self ..)))
        have ll : (andsNums n.firsts.length 0 (n.ands.take i)).length ≤ 40 := by
          rw [andsNums_len, List.length_take]
          omega
        have inD : ∀ x ∈ cs ++ andsNums n.firsts.length 0 (n.ands.take i), x ∈ netNums n := fun x hx => (List.mem_append.mp hx).elim (inC x) fun z => inT x (List.mem_append_left _ z)
        have b1 := small (ns := cs ++ andsNums n.firsts.length 0 (n.ands.take i)) inD (by rw [List.length_append]; omega)
        have v1 : iV u1 = V.int ((((2 * (1 + n.firsts.length + i) : Nat) : Int) - 1) - ((p.1 : Nat) : Int)) := congrArg V.int (by omega)
        have v2 : iV u2 = V.int ((((2 * (1 + n.firsts.length + i) : Nat) : Int) - 1) - ((p.2 : Nat) : Int)) := congrArg V.int (by omega)
        rw [Int.zero_add]
        refine ⟨_, rfl, fA, _, rfl, .inr (same_tup s5 _ _ h1), 1, n.firsts.length, rfl, (by rw [List.length_map]), _, rfl, 1 + n.firsts.length, i, rfl, rfl, 2, 1 + n.firsts.length + i, rfl, rfl, by decide, ?_⟩
        refine ⟨_, rfl, _, rfl, _, _, rfl, rfl, _, rfl, _, rfl, aA, _, _, .ref b, rfl, rfl, same_tup s5 _ _ h2, atI_nat eb, b, _, _, iV p.1, rfl, rfl, same_tup s5 _ _ sb, atI_nat (j := 0) rfl, _, _, rfl, rfl, l, u1, _, (by rw [v1]; rfl), e5, big m1, by omega, fun H6 k6 e6 => ?_⟩
        have s6 := same_kp s5 k6 nl
        rw [← bytesA_snoc] at e6
        refine ⟨_, rfl, _, rfl, _, _, rfl, rfl, _, rfl, _, rfl, aA, _, _, .ref b, rfl, rfl, same_tup s6 _ _ h2, atI_nat eb, b, _, _, iV p.2, rfl, rfl, same_tup s6 _ _ sb, atI_nat (j := 1) rfl, _, _, rfl, rfl, l, u2, _, (by rw [v2]; rfl), e6, big m2, ?_, fun H7 k7 e7 => ?_⟩
        · have := small (ns := cs ++ andsNums n.firsts.length 0 (n.ands.take i) ++ [u1]) (fun x hx => (List.mem_append.mp hx).elim (inD x) fun z => by rw [List.mem_singleton.mp z]; exact m1) (by rw [List.length_append, List.length_append, List.length_singleton]; omega)
          omega
        · rw [← bytesA_snoc, List.append_assoc, List.append_assoc] at e7
          refine ⟨_, _, rfl, same_kp s6 k7 nl, ?_⟩
          rw [st]
          exact e7
      · obtain ⟨y9, y10, rfl, s5, e5⟩ := h
        rw [List.take_length] at e5
        exact ⟨y9, y10, rfl, s5, e5⟩
    rintro σ H5 ⟨y9, y10, rfl, s5, e5⟩
    have en : cs ++ andsNums n.firsts.length 0 n.ands = netNums n := by
      rw [ecs, ebs]
      unfold netNums
      rw [List.append_assoc, List.append_assoc]
    rw [en] at e5
    exact ⟨_, rfl, q H5 l s5 nl e5⟩
end
end C1

/-! A row read by the program. -/
namespace C1
open PySem PySem.Spec PyProof.Rows L2 SX
abbrev sReadNet : Stmt := topS 13
theorem scReadNet : FnScope ["row", "reader", "latches", "ands", "outs", "pairs", "told", "found", "at", "own", "net", "_", "number", "first", "literal"] ["row"] (defScope sReadNet) := ⟨rfl, rfl, rfl, by decide +kernel, rfl, by decide +kernel, by decide +kernel⟩
abbrev NRN : List Str := ["row", "reader", "latches", "ands", "outs", "pairs", "told", "found", "at", "own", "net", "_", "number", "first", "literal"]
def andD (L i a b : Nat) : PyData := .tuple [.int (((2 * (1 + L + i) : Nat) : Int) - 1 - ((a : Nat) : Int)), .int (((2 * (1 + L + i) : Nat) : Int) - 1 - ((b : Nat) : Int))]
def andsP (row : List Nat) (L : Nat) : Nat → Nat → Option (List PyData × Nat)
  | 0, p => some ([], p)
  | i + 1, p => match andsP row L i p with
    | none => none
    | some (acc, q) => match takeP row q with
      | none => none
      | some (a, q1) => match takeP row q1 with
        | none => none
        | some (b, q2) => some (acc ++ [andD L i a b], q2)
def netOf (ls : List Nat) (as : List PyData) (os : List Nat) : PyData := .tuple [.tuple (ls.map fun x => iD (x % 2)), .tuple as, .tuple (ls.map fun x => iD (x / 2)), .tuple (os.map iD)]
def endD (row : List Nat) (d : PyData) (q : Nat) : Option PyData := if q = row.length ∧ netB d = true then some d else none
def andsD (row ls os : List Nat) (l a q : Nat) : Option PyData := match andsP row l a q with
  | none => none
  | some (as, q4) => endD row (netOf ls as os) q4
def outsD (row ls : List Nat) (l a o q : Nat) : Option PyData := match takesP row o q with
  | none => none
  | some (os, q3) => andsD row ls os l a q3
def latsD (row : List Nat) (l a o q : Nat) : Option PyData := match takesP row l q with
  | none => none
  | some (ls, q2) => outsD row ls l a o q2
def readD (row : List Nat) : Option PyData := match takesP row 3 0 with
  | some ([l, a, o], q) => latsD row l a o q
  | _ => none
theorem andsP_none {row : List Nat} {L i p : Nat} (h : andsP row L i p = none) : ∀ {j : Nat}, i ≤ j → andsP row L j p = none
  | 0, hj => by
    have : i = 0 := by omega
    subst this
    exact h
  | j + 1, hj => by
    by_cases e : i = j + 1
    · subst e
      exact h
    · unfold andsP
      rw [andsP_none h (j := j) (by omega)]
theorem andsP_step {row : List Nat} {L i p : Nat} {acc : List PyData} {q : Nat} (h : andsP row L i p = some (acc, q)) : andsP row L (i + 1) p = (match takeP row q with
      | none => none
      | some (a, q1) => match takeP row q1 with
        | none => none
        | some (b, q2) => some (acc ++ [andD L i a b], q2)) := by
  conv => lhs; unfold andsP
  rw [h]
theorem andsP_le {row : List Nat} {L p : Nat} (hp : p ≤ row.length) : ∀ {i : Nat} {acc : List PyData} {q : Nat}, andsP row L i p = some (acc, q) → acc.length = i ∧ p + i ≤ q ∧ q ≤ row.length ∧ noLs acc = true ∧ ∀ d ∈ acc, gd 1 d = true
  | 0, acc, q, h => by
    cases h
    exact ⟨rfl, Nat.le_refl _, hp, rfl, fun d hd => by cases hd⟩
  | i + 1, acc, q, h => by
    cases e : andsP row L i p with
    | none =>
      rw [andsP_none e (Nat.le_succ i)] at h
      cases h
    | some x =>
      obtain ⟨ac, q0⟩ := x
      obtain ⟨i1, i2, i3, i4, i5⟩ := andsP_le hp e
      rw [andsP_step e] at h
      cases e1 : takeP row q0 with
      | none =>
        rw [e1] at h
        cases h
      | some y =>
        obtain ⟨a, q1⟩ := y
        rw [e1] at h
        have h : (match takeP row q1 with
          | none => none
          | some (b, q2) => some (ac ++ [andD L i a b], q2)) = some (acc, q) := h
        cases e2 : takeP row q1 with
        | none =>
          rw [e2] at h
          cases h
        | some z =>
          obtain ⟨b, q2⟩ := z
          rw [e2] at h
          cases h
          have z1 := takeP_le e1
          have z2 := takeP_le e2
          refine ⟨by rw [List.length_append, i1]; rfl, by omega, z2.2, ?_, fun d hd => ?_⟩
          · have : ∀ l : List PyData, noLs l = true → noLs (l ++ [andD L i a b]) = true := fun l => by
              induction l with
              | nil => exact fun _ => rfl
              | cons d l ih =>
                intro h
                have h' := Bool.and_eq_true_iff.mp (show (noL d && noLs l) = true from h)
                show (noL d && noLs (l ++ _)) = true
                rw [h'.1, ih h'.2]
                rfl
            exact this _ i4
          · rcases List.mem_append.mp hd with z | z
            · exact i5 d z
            · rw [List.mem_singleton.mp z]
              rfl
def dmD (x : Nat) : PyData := .tuple [iD (x / 2), iD (x % 2)]
theorem noLs_dm : ∀ l : List Nat, noLs (l.map dmD) = true
  | [] => rfl
  | _ :: r => noLs_dm r
theorem noLs_f {f : Nat → Nat} : ∀ l : List Nat, noLs (l.map fun x => iD (f x)) = true
  | [] => rfl
  | _ :: r => noLs_f (f := f) r
def SmallR (row : List Nat) : Prop := ∀ p n q, takeP row p = some (n, q) → n < 2 ^ 61
theorem takesP_small {row : List Nat} (hs : SmallR row) : ∀ {i p : Nat} {acc : List Nat} {q : Nat}, takesP row i p = some (acc, q) → ∀ x ∈ acc, x < 2 ^ 61
  | 0, p, acc, q, h, x, hx => by
    cases h
    cases hx
  | i + 1, p, acc, q, h, x, hx => by
    cases e : takesP row i p with
    | none =>
      rw [takesP_none e (Nat.le_succ i)] at h
      cases h
    | some y =>
      obtain ⟨ac, q0⟩ := y
      cases e1 : takeP row q0 with
      | none =>
        rw [takesP_stop e e1] at h
        cases h
      | some z =>
        obtain ⟨n, q1⟩ := z
        rw [takesP_some e e1] at h
        cases h
        rcases List.mem_append.mp hx with z | z
        · exact takesP_small hs e x z
        · rw [List.mem_singleton.mp z]
          exact hs _ _ _ e1
theorem gd_netOf {ls os : List Nat} {as : List PyData} (h1 : ls.length ≤ 400) (h2 : as.length ≤ 400) (h3 : os.length ≤ 400) (ha : ∀ d ∈ as, gd 1 d = true) : gd 3 (netOf ls as os) = true := by
  have t : ∀ (f : Nat → Nat) (l : List Nat), l.length ≤ 400 → gd 2 (.tuple (l.map fun x => iD (f x))) = true := fun f l hl => gd_tup (by rw [List.length_map]; omega) fun d hd => by
    obtain ⟨x, _, rfl⟩ := List.mem_map.mp hd
    exact gd_int _
  refine gd_tup (by show 4 ≤ 1000; decide) fun d hd => ?_
  simp only [List.mem_cons, List.mem_nil_iff, or_false] at hd
  rcases hd with rfl | rfl | rfl | rfl
  · exact t (fun x => x % 2) ls h1
  · exact gd_tup (by omega) fun d hd => ha d hd
  · exact t (fun x => x / 2) ls h1
  · exact t (fun x => x) os h3
section
variable {P : Program} {w : World} {K : PySem.W.Frag} {mg : Str → Option Value} {base : Heap} {C CB : Addr}
theorem kp_tupI {x a C : Addr} {dx : Addr} {fs : List (Str × V)} {H H' : Hp} {xs : List V} (e : H x = some (.ins C dx fs)) (k : Kp x H H') (h : SqT K H a xs) : SqT K H' a xs := by
  rcases h with (h | ⟨u, h⟩) | h
  · exact .inl (.inl (k _ _ (ne_of h e (by intro z; cases z)) h))
  · exact .inl (.inr ⟨u, k _ _ (ne_of h e (by intro z; cases z)) h⟩)
  · exact .inr h
theorem dm_at {H : Hp} {vs : List V} {ls : List Nat} {i : Nat} {v : V} (h : DpAll K H vs (ls.map dmD)) (e : vs[i]? = some v) : ∃ b x, ls[i]? = some x ∧ v = .ref b ∧ SqT K H b [iV (x / 2), iV (x % 2)] := by
  obtain ⟨d, ed, dv⟩ := dps_get h e
  rw [List.getElem?_map] at ed
  obtain ⟨x, ex, rfl⟩ := Option.map_eq_some_iff.mp ed
  obtain ⟨b, xs, rfl, s, q⟩ := dp_tup dv
  rw [dps_flat q (us := [iV (x / 2), iV (x % 2)]) rfl] at s
  exact ⟨b, x, ex, rfl, s⟩
def spRead (K : PySem.W.Frag) (CB : Addr) : Sp := fun vs H Q E => ∃ (r : Addr) (row : List Nat), vs = [.ref r] ∧ H r = some (.lst (row.map iV)) ∧ row.length ≤ 400 ∧ Bytes row ∧ SmallR row ∧
  (readD row = none → ∀ H', Same H H' → E (.ref CB) none H') ∧ ∀ d, readD row = some d → ∀ H' v, Same H H' → Dp K H' v d → Q v H'
theorem ok_read {f fI f1 f2 fD fO fK : Addr} {fd fdI fd1 fd2 fdD fdO fdK : FuncData} (F : Fun K "read_net" "read_net" sReadNet f fd) (T : RdT K mg C CB) (B : BV mg) (MK : Mk K C fI)
    (GI : FnOk P w K mg base CX0 1 fI fdI ["self", "row"] (spInitR C)) (bI : Binds K fdI ["self", "row"] [])
    (M1 : Meth K C "next_number" f1) (G1 : FnOk P w K mg base (L2.CX P w) 1 f1 fd1 ["self"] (spNum1 K C CB)) (b1 : Binds K fd1 ["self"] [])
    (M2 : Meth K C "next_numbers" f2) (G2 : FnOk P w K mg base (L2.CX P w) 2 f2 fd2 ["self", "many"] (spNums K C CB)) (b2 : Binds K fd2 ["self", "many"] [])
    (MD : Meth K C "is_done" fD) (GD : FnOk P w K mg base CX0 1 fD fdD ["self"] (spDone K C)) (bD : Binds K fdD ["self"] [])
    (GO : FnOk P w K mg base CX0 1 fO fdO ["latches", "at"] spOwn) (kO : PySem.W.keepIn K (.ref fO) = true) (bO : Binds K fdO ["latches", "at"] []) (gO : mg "own_literal" = some (.ref fO))
    (GK : FnOk P w K mg base CX0 2 fK fdK ["thing"] (spIsNet K)) (kK : PySem.W.keepIn K (.ref fK) = true) (bK : Binds K fdK ["thing"] []) (gK : mg "is_net" = some (.ref fK)) :
    FnOk P w K mg base (L2.CX P w) 3 f fd ["row"] (spRead K CB) := by
  refine F.okX scReadNet (fun vs H Q E h => ?_) (fun cdv A outer s H vs Q E hr h => ?_)
  · obtain ⟨r, row, rfl, _⟩ := h
    rfl
  · obtain ⟨r, row, rfl, er, hl, hb, hsm, qE, q⟩ := h
    have nd := scReadNet.nd
    have hr2 : Room 2 _ := hr
    have hr1 : Room 1 _ := hr.mono (by decide)
    refine ⟨_, (pss_cons (ps_set (i := 1) nd rfl (.inr rfl) (pe_make MK GI hr2 (by rfl) T.gC bI .nil pass0 (pa_cons (pv 0) pa_nil)))
      (pss_cons (ps_asg (LcE.pe_lcE (E := E) (own := [("_", 11)]) (tg := gName 11) (tt := tYes) (te := tMeth C "next_number" (spNum1 K C CB) [] E (tVar 1) tNil)  rfl nd (takes_of rfl rfl rfl rfl) rfl rfl (pi_range1 (by rfl) B.range (pa_cons (pe_int) pa_nil)) (blkOk_by (own := [("_", 11)]) (N := NRN) (sc := defScope sReadNet) (by decide +kernel)) (fun _ _ _ _ _ => pg_name (i := 11) nd rfl (.inl rfl)) (fun _ _ _ _ _ => pts_nil) (fun _ _ _ _ _ => by exact (pe_meth0 (pv 1) T.cl M1 G1 hr1 b1 .nil LcE.passes_E))) (pg_lst (by rfl) (pgs_cons (pg_name (i := 2) nd rfl (.inl rfl)) (pgs_cons (pg_name (i := 3) nd rfl (.inl rfl)) (pgs_cons (pg_name (i := 4) nd rfl (.inl rfl)) pgs_nil)))))
      (pss_cons (ps_setLc (i := 5) (own := [("number", 12)]) (g := gName 12) (tt := tYes) (te := tCB (fun xs H Q => ∃ i j, xs = [V.int i, V.int j] ∧ CDiv i j ∧ ∀ p, H p = none → Q (.ref p) (upd H p (.tup [.int (i / j), .int (i % j)]))) (tCons (tVar 12) (tCons (tC (.int 2)) tNil)))  rfl nd rfl rfl (sw_true rfl rfl rfl (by decide +kernel)) (pi_list (pe_meth (pv 1) T.cl M2 G2 hr2 b2 .nil (passes_call (takes_of rfl rfl rfl rfl) fun _ _ _ _ h => h) (pa_cons (pv 2) pa_nil))) (blkOk_by (own := [("number", 12)]) (N := NRN) (sc := defScope sReadNet) (by decide +kernel)) (fun _ _ _ _ _ => pg_name (i := 12) nd rfl (.inl rfl)) (fun _ _ _ _ _ => pts_nil) (fun _ _ _ _ _ => by exact (pe_callB call_divmod (by rfl) B.divmod (by decide +kernel) (pa_cons (pv 12) (pa_cons pe_int pa_nil)))))
      (pss_cons (ps_set (i := 6) nd rfl (.inl rfl) (pe_callTy call_tuple_of (by rfl) B.tuple (by decide +kernel) (pa_cons (pe_meth (pv 1) T.cl M2 G2 hr2 b2 .nil (passes_call (takes_of rfl rfl rfl rfl) fun _ _ _ _ h => h) (pa_cons (pv 4) pa_nil)) pa_nil)))
      (pss_cons (ps_set (i := 7) nd rfl (.inl rfl) (pe_lst pa_nil))
      (C8.pss_cut (ps_for (passes_of rfl) rfl (pi_range1 (by rfl) B.range (pa_cons (pv 3) pa_nil)) (pg_name (i := 8) nd rfl (.inl rfl)) (pss_cons (ps_set (i := 9) nd rfl (.inl rfl) (pe_call GO hr1 (by rfl) gO kO bO .nil pass0 (pa_cons (pv 2) (pa_cons (pv 8) pa_nil))))
      (pss_one (ps_expr (pe_bm PySem.F.plainAttrs_list PySem.F.slot_list_append PySem.F.type_list_append mt_append (pv 7) (pa_cons (pe_tup (pa_cons (pe_op op_sub (pe_op op_sub (pv 9) (pe_int)) (pe_meth0 (pv 1) T.cl M1 G1 hr1 b1 .nil (passes_call (takes_of rfl rfl rfl rfl) fun _ _ _ _ h => h))) (pa_cons (pe_op op_sub (pe_op op_sub (pv 9) (pe_int)) (pe_meth0 (pv 1) T.cl M1 G1 hr1 b1 .nil (passes_call (takes_of rfl rfl rfl rfl) fun _ _ _ _ h => h))) pa_nil))) pa_nil))))))
      (pss_cons (ps_set (i := 10) nd rfl (.inl rfl) (pe_tup (pa_cons (pe_callTy call_tuple_of (by rfl) B.tuple (by decide +kernel) (pa_cons (pe_lc (own := [("_", 11), ("first", 13)]) (g := gTup K 2 (gCons (gName 11) (gCons (gName 13) (gNil)))) (tt := tYes) (te := tVar 13)  rfl nd (pi_list (pv 5)) (blkOk_by (own := [("_", 11), ("first", 13)]) (N := NRN) (sc := defScope sReadNet) (by decide +kernel)) (fun _ _ _ _ _ => pg_tup (by rfl) (pgs_cons (pg_name (i := 11) nd rfl (.inl rfl)) (pgs_cons (pg_name (i := 13) nd rfl (.inl rfl)) pgs_nil))) (fun _ _ _ _ _ => pts_nil) (fun _ _ _ _ _ => by exact (pv 13))) pa_nil)) (pa_cons (pe_callTy call_tuple_of (by rfl) B.tuple (by decide +kernel) (pa_cons (pv 7) pa_nil)) (pa_cons (pe_callTy call_tuple_of (by rfl) B.tuple (by decide +kernel) (pa_cons (pe_lc (own := [("literal", 14), ("_", 11)]) (g := gTup K 2 (gCons (gName 14) (gCons (gName 11) (gNil)))) (tt := tYes) (te := tVar 14)  rfl nd (pi_list (pv 5)) (blkOk_by (own := [("literal", 14), ("_", 11)]) (N := NRN) (sc := defScope sReadNet) (by decide +kernel)) (fun _ _ _ _ _ => pg_tup (by rfl) (pgs_cons (pg_name (i := 14) nd rfl (.inl rfl)) (pgs_cons (pg_name (i := 11) nd rfl (.inl rfl)) pgs_nil))) (fun _ _ _ _ _ => pts_nil) (fun _ _ _ _ _ => by exact (pv 14))) pa_nil)) (pa_cons (pv 6) pa_nil))))))
      (C8.pss_cut (ps_if (PW.pt (pw_or (pt_not (pt_val (pe_meth0 (pv 1) T.cl MD GD hr1 bD .nil pass0))) (pw_or1 (pt_not (pt_val (pe_call GK hr2 (by rfl) gK kK bK .nil pass0 (pa_cons (pv 10) pa_nil))))))) (pss_one (ps_raise rfl (takes_of rfl rfl rfl rfl) (pmk_own0 PySem.F.excBase_ValueError T.xB T.gB T.kB (raises_own T.bB T.tB) (by exact rfl)))) pss_nil)
      (pss_one (ps_ret (pv 10))))))))))), ?_⟩
    -- the reader
    refine ⟨_, rfl, fun x dx nx ndx ne => ⟨x, dx, r, rfl, upd_same, fun H1 rd1 k1 => ⟨rfl, ?_⟩⟩⟩
    have s1 : Same H H1 := Same.made nx ndx fun b o e hb => k1 b o hb e
    obtain ⟨dx1, ex1⟩ := rd1
    have er1 := s1 _ _ er
    have nrx : r ≠ x := ne_of er1 ex1 (by intro z; cases z)
    have sm : ∀ {H'}, Kp x H1 H' → Same H H' := fun {H'} k => same_kp s1 k nx
    have qE' : readD row = none → ∀ H', Kp x H1 H' → E (.ref CB) none H' := fun e H' k => qE e H' (sm k)
    have rowAt : ∀ {H'}, Kp x H1 H' → H' r = some (.lst (row.map iV)) := fun {H'} k => k _ _ nrx er1
    -- the three heads
    refine ⟨3, rfl, by decide, by decide, fun D nD => ?_⟩
    have naD : x ≠ D := ne_of_none ex1 nD
    refine lc_range (n := 3) (fun i H2 => ∃ acc qp, takesP row i 0 = some (acc, qp) ∧ Rd C H2 x r qp ∧ Kp x H1 H2 ∧ H2 D = some (.lst (acc.map iV))) ⟨[], 0, rfl, ⟨dx1, by rw [upd_ne naD]; exact ex1⟩, kp_new (fun _ _ _ e => e) nD, upd_same⟩ (fun i H2 hi h => ?_) (fun H2 h => ?_)
    · obtain ⟨acc, qp, et, ⟨dx2, ex2⟩, k2, eD⟩ := h
      have le := takesP_le (Nat.zero_le _) et
      refine ⟨rfl, _, rfl, x, dx2, _, rfl, ex2, rfl, x, r, qp, row, rfl, ⟨dx2, ex2⟩, rowAt k2, le.2.2, hl, hb, fun e H3 k3 => ?_, fun n q2 e H3 k3 rd3 => ?_⟩
      · refine qE' ?_ H3 (kp_trans k2 k3)
        unfold readD
        rw [takesP_none (takesP_stop et e) (j := 3) (by omega)]
      · refine ⟨_, k3 _ _ naD.symm eD, lineX (by rw [List.length_map]; omega), acc ++ [n], q2, takesP_some et e, ?_, kp_new (kp_trans k2 k3) nD, ?_⟩
        · obtain ⟨dx3, ex3⟩ := rd3
          exact ⟨dx3, by rw [upd_ne naD]; exact ex3⟩
        · rw [upd_same, List.map_append]
          rfl
    obtain ⟨acc, q0, et, ⟨dx2, ex2⟩, k2, eD⟩ := h
    have le0 := takesP_le (Nat.zero_le _) et
    obtain ⟨l, a, o, rfl⟩ : ∃ l a o, acc = [l, a, o] := by
      match acc, le0.1 with
      | [l, a, o], _ => exact ⟨l, a, o, rfl⟩
    have sm0 := takesP_small hsm et
    have eR : readD row = latsD row l a o q0 := by
      unfold readD
      rw [et]
    have hls : l < 2 ^ 61 := sm0 l (by simp)
    have has : a < 2 ^ 61 := sm0 a (by simp)
    have hos : o < 2 ^ 61 := sm0 o (by simp)
    refine ⟨D, _, rfl, SqL.of eD, rfl, _, _, rfl, _, _, rfl, _, _, rfl, rfl, ?_⟩
    -- the latches
    refine ⟨_, rfl, x, dx2, _, rfl, ex2, rfl, _, rfl, x, r, q0, l, row, rfl, ⟨dx2, ex2⟩, rowAt k2, le0.2.2, hl, hb, by omega, fun e H3 k3 => ?_, fun ls q2 e H3 l3 k3 rd3 nl3 el3 => ?_⟩
    · refine qE' ?_ H3 (kp_trans k2 k3)
      rw [eR]
      unfold latsD
      rw [e]
    have le2 := takesP_le le0.2.2 e
    have eR2 : readD row = outsD row ls l a o q2 := by
      rw [eR]
      unfold latsD
      rw [e]
    have k13 := kp_trans k2 k3
    obtain ⟨dx3, ex3⟩ := rd3
    refine ⟨l3, rfl, ⟨_, SqL.of el3⟩, fun D3 nD3 => ?_⟩
    refine lc_listD (xs := ls.map iV) (ls.map dmD) (noLs_dm _) (by rw [List.length_map, List.length_map]) (by rw [List.length_map]; omega) (SqL.of el3) nD3 (fun i v d H4 Q4 hx hd s4 q4 => ?_) (fun H4 pvs s4 eD4 dp4 => ?_)
    · obtain ⟨z, ez, rfl⟩ := ivs_at hx
      rw [List.getElem?_map, ez] at hd
      cases hd
      exact ⟨rfl, _, rfl, _, _, rfl, ⟨by decide, by decide⟩, fun p np => q4 _ _ (Same.up np) (.tup (SqT.of upd_same) (.cons (.int _) (.cons (.int _) .nil)))⟩
    have k14 := kp_trans k13 (Same.kp s4)
    have ex4 := s4 _ _ ex3
    -- what is told
    refine ⟨_, rfl, x, dx3, _, rfl, ex4, rfl, _, rfl, x, r, q2, o, row, rfl, ⟨dx3, ex4⟩, rowAt k14, le2.2.2, hl, hb, by omega, fun e5 H5 k5 => ?_, fun os q3 e5 H5 l5 k5 rd5 nl5 el5 => ?_⟩
    · refine qE' ?_ H5 (kp_trans k14 k5)
      rw [eR2]
      unfold outsD
      rw [e5]
    have le3 := takesP_le le2.2.2 e5
    have eR3 : readD row = andsD row ls os l a q3 := by
      rw [eR2]
      unfold outsD
      rw [e5]
    have k15 := kp_trans k14 k5
    obtain ⟨dx5, ex5⟩ := rd5
    refine ⟨l5, _, rfl, .inl ⟨SqL.of el5, fun tl ntl => ?_⟩⟩
    have dp5 := dps_stay (fun _ _ h => kp_tupI ex4 k5 h) _ _ dp4 (noLs_dm _)
    have nD3x : D3 ≠ x := ne_of eD4 ex4 (by intro z; cases z)
    have eD5 := k5 _ _ nD3x eD4
    have s6 : Same H5 (upd H5 tl (.tup (os.map iV))) := Same.up ntl
    have etl : (upd H5 tl (.tup (os.map iV))) tl = some (.tup (os.map iV)) := upd_same
    generalize upd H5 tl (.tup (os.map iV)) = H6 at s6 etl
    have k16 := kp_trans k15 (Same.kp s6)
    have ex6 := s6 _ _ ex5
    have dp6 := dps_stay (same_tup s6) _ _ dp5 (noLs_dm _)
    have eD6 := s6 _ _ eD5
    -- found
    refine ⟨Nat.zero_le _, fun fl nfl => ?_⟩
    have nflx : fl ≠ x := fun z => by
      rw [z, ex6] at nfl
      cases nfl
    refine ⟨fun σ H7 => ∃ y8 y9 fvs as q4, σ = [some (.ref r), some (.ref x), some (iV l), some (iV a), some (iV o), some (.ref D3), some (.ref tl), some (.ref fl), y8, y9, none, none, none, none, none] ∧ andsP row l a q3 = some (as, q4) ∧ Rd C H7 x r q4 ∧ Kp x H6 H7 ∧ H7 fl = some (.lst fvs) ∧ DpAll K H7 fvs as, ?_, ?_⟩
    · refine ⟨_, rfl, _, rfl, by omega, by omega, ?_⟩
      rw [Int.toNat_natCast]
      refine for_range (n := a) (fun i σ H7 => ∃ y8 y9 fvs as q4, σ = [some (.ref r), some (.ref x), some (iV l), some (iV a), some (iV o), some (.ref D3), some (.ref tl), some (.ref fl), y8, y9, none, none, none, none, none] ∧ andsP row l i q3 = some (as, q4) ∧ Rd C H7 x r q4 ∧ Kp x H6 H7 ∧ H7 fl = some (.lst fvs) ∧ DpAll K H7 fvs as)
        ⟨none, none, [], [], q3, rfl, rfl, ⟨dx5, by rw [upd_ne nflx.symm]; exact ex6⟩, kp_new (fun _ _ _ e => e) nfl, upd_same, .nil⟩ (fun i σ H7 hi h => ?_) (fun σ H7 h => h)
      obtain ⟨y8, y9, fvs, as, q4, rfl, ea, ⟨dx7, ex7⟩, k7, efl, dpf⟩ := h
      have lea := andsP_le le3.2.2 ea
      have lfv := dps_len dpf
      have stp := andsP_step ea
      have fail : andsP row l (i + 1) q3 = none → readD row = none := fun e => by
        rw [eR3]
        unfold andsD
        rw [andsP_none e hi]
      rw [Int.zero_add]
      refine ⟨_, rfl, _, rfl, l, i, rfl, ?_⟩
      refine ⟨_, rfl, .inl ⟨rfl, _, SqL.of efl⟩, _, rfl, _, _, rfl, rfl, _, rfl, x, dx7, _, rfl, ex7, rfl, x, r, q4, row, rfl, ⟨dx7, ex7⟩, rowAt (kp_trans k16 k7), lea.2.2.1, hl, hb, fun e8 H8 k8 => ?_, fun m1 p1 e8 H8 k8 rd8 => ?_⟩
      · refine qE' (fail ?_) H8 (kp_trans (kp_trans k16 k7) k8)
        rw [stp, e8]
      obtain ⟨dx8, ex8⟩ := rd8
      have z1 := takeP_le e8
      refine ⟨_, _, rfl, rfl, _, rfl, _, _, rfl, rfl, _, rfl, x, dx8, _, rfl, ex8, rfl, x, r, p1, row, rfl, ⟨dx8, ex8⟩, rowAt (kp_trans (kp_trans k16 k7) k8), z1.2, hl, hb, fun e9 H9 k9 => ?_, fun m2 p2 e9 H9 k9 rd9 => ?_⟩
      · refine qE' (fail ?_) H9 (kp_trans (kp_trans (kp_trans k16 k7) k8) k9)
        rw [stp, e8]
        show (match takeP row p1 with | none => none | some (b, q2) => _) = none
        rw [e9]
      obtain ⟨dx9, ex9⟩ := rd9
      refine ⟨_, _, rfl, rfl, line200 (show 2 ≤ 1000 by decide), fun t nt => ?_⟩
      have efl9 := k9 _ _ nflx (k8 _ _ nflx efl)
      have dpf9 := dps_stay (fun _ _ h => kp_tupI ex8 k9 h) _ _ (dps_stay (fun _ _ h => kp_tupI ex7 k8 h) _ _ dpf lea.2.2.2.1) lea.2.2.2.1
      have st : Same H9 (upd H9 t (.tup [.int (((2 * (1 + l + i) : Nat) : Int) - 1 - ((m1 : Nat) : Int)), .int (((2 * (1 + l + i) : Nat) : Int) - 1 - ((m2 : Nat) : Int))])) := Same.up nt
      have dt : Dp K (upd H9 t (.tup [.int (((2 * (1 + l + i) : Nat) : Int) - 1 - ((m1 : Nat) : Int)), .int (((2 * (1 + l + i) : Nat) : Int) - 1 - ((m2 : Nat) : Int))])) (.ref t) (andD l i m1 m2) := .tup (SqT.of upd_same) (.cons (.int _) (.cons (.int _) .nil))
      have noA : noL (andD l i m1 m2) = true := rfl
      refine ⟨fl, _, _, rfl, rfl, st _ _ efl9, lineS200 (by omega), ?_⟩
      refine ⟨_, _, fvs ++ [.ref t], as ++ [andD l i m1 m2], p2, rfl, ?_, ?_, ?_, upd_same, push_dps (st _ _ efl9) (dps_stay (same_tup st) _ _ dpf9 lea.2.2.2.1) lea.2.2.2.1 dt noA⟩
      · rw [stp, e8]
        show (match takeP row p1 with | none => none | some (b, q2) => some (as ++ [andD l i m1 b], q2)) = _
        rw [e9]
      · exact ⟨dx9, by rw [upd_ne nflx.symm]; exact st _ _ ex9⟩
      · exact kp_new (kp_trans (kp_trans (kp_trans k7 k8) k9) (Same.kp st)) nfl
    rintro σ H7 ⟨y8, y9, fvs, as, q4, rfl, ea, ⟨dx7, ex7⟩, k7, efl, dpf⟩
    have lea := andsP_le le3.2.2 ea
    have lfv := dps_len dpf
    have k17 := kp_trans k16 k7
    have eR4 : readD row = endD row (netOf ls as os) q4 := by
      rw [eR3]
      unfold andsD
      rw [ea]
    have eD7 := k7 _ _ nD3x eD6
    have dp7 := dps_stay (fun _ _ h => kp_tupI ex6 k7 h) _ _ dp6 (noLs_dm _)
    have ntx : tl ≠ x := ne_of etl ex6 (by intro z; cases z)
    have etl7 := k7 _ _ ntx etl
    have lpv := dps_len dp7
    rw [List.length_map] at lpv
    -- the net
    refine ⟨_, rfl, D3, rfl, ⟨_, SqL.of eD7⟩, fun Da nDa => ?_⟩
    refine lc_listD (xs := pvs) (ls.map fun x => iD (x % 2)) (noLs_f _) (by rw [List.length_map]; exact lpv) (by omega) (SqL.of eD7) nDa (fun i v d H8 Q8 hx hd s8 q8 => ?_) (fun H8 av s8 eDa dpA => ?_)
    · obtain ⟨b, z, ez, rfl, sq⟩ := dm_at (dps_stay (same_tup s8) _ _ dp7 (noLs_dm _)) hx
      rw [List.getElem?_map, ez] at hd
      cases hd
      exact ⟨b, _, rfl, sq, rfl, _, _, rfl, _, _, rfl, rfl, rfl, _, rfl, q8 _ _ (Same.refl _) (.int _)⟩
    refine ⟨Da, _, rfl, .inl ⟨SqL.of eDa, fun ta nta => ?_⟩⟩
    have sa : Same H8 (upd H8 ta (.tup av)) := Same.up nta
    have eta : (upd H8 ta (.tup av)) ta = some (.tup av) := upd_same
    generalize upd H8 ta (.tup av) = Ha at sa eta
    have dpA2 := dps_stay (same_tup sa) _ _ dpA (noLs_f _)
    have s7a := s8.trans sa
    refine ⟨_, rfl, fl, _, rfl, .inl ⟨SqL.of (s7a _ _ efl), fun tb ntb => ?_⟩⟩
    have sb : Same Ha (upd Ha tb (.tup fvs)) := Same.up ntb
    have etb : (upd Ha tb (.tup fvs)) tb = some (.tup fvs) := upd_same
    generalize upd Ha tb (.tup fvs) = Hb at sb etb
    have s7b := s7a.trans sb
    refine ⟨_, rfl, D3, rfl, ⟨_, SqL.of (s7b _ _ eD7)⟩, fun Dc nDc => ?_⟩
    have dp7b := dps_stay (same_tup s7b) _ _ dp7 (noLs_dm _)
    refine lc_listD (xs := pvs) (ls.map fun x => iD (x / 2)) (noLs_f _) (by rw [List.length_map]; exact lpv) (by omega) (SqL.of (s7b _ _ eD7)) nDc (fun i v d H9 Q9 hx hd s9 q9 => ?_) (fun H9 cv s9 eDc dpC => ?_)
    · obtain ⟨b, z, ez, rfl, sq⟩ := dm_at (dps_stay (same_tup s9) _ _ dp7b (noLs_dm _)) hx
      rw [List.getElem?_map, ez] at hd
      cases hd
      exact ⟨b, _, rfl, sq, rfl, _, _, rfl, _, _, rfl, rfl, rfl, _, rfl, q9 _ _ (Same.refl _) (.int _)⟩
    refine ⟨Dc, _, rfl, .inl ⟨SqL.of eDc, fun tc ntc => ?_⟩⟩
    have sc : Same H9 (upd H9 tc (.tup cv)) := Same.up ntc
    have etc : (upd H9 tc (.tup cv)) tc = some (.tup cv) := upd_same
    generalize upd H9 tc (.tup cv) = Hc at sc etc
    have sbc := s9.trans sc
    refine ⟨_, rfl, line200 (show 4 ≤ 1000 by decide), fun tn ntn => ?_⟩
    have sn : Same Hc (upd Hc tn (.tup [.ref ta, .ref tb, .ref tc, .ref tl])) := Same.up ntn
    have etn : (upd Hc tn (.tup [.ref ta, .ref tb, .ref tc, .ref tl])) tn = some (.tup [.ref ta, .ref tb, .ref tc, .ref tl]) := upd_same
    generalize upd Hc tn (.tup [.ref ta, .ref tb, .ref tc, .ref tl]) = Hn at sn etn
    have sbn := sbc.trans sn
    have s7n := s7b.trans sbn
    have dN : Dp K Hn (.ref tn) (netOf ls as os) :=
      .tup (SqT.of etn) (.cons (.tup (SqT.of ((sb.trans sbn) _ _ eta)) (dps_stay (same_tup (sb.trans sbn)) _ _ dpA2 (noLs_f _)))
        (.cons (.tup (SqT.of (sbn _ _ etb)) (dps_stay (same_tup s7n) _ _ dpf lea.2.2.2.1))
        (.cons (.tup (SqT.of (sn _ _ etc)) (dps_stay (same_tup (sc.trans sn)) _ _ dpC (noLs_f _)))
        (.cons (.tup (SqT.of (s7n _ _ etl7)) (ofs_dps _)) .nil))))
    have k1n := kp_trans k17 (Same.kp s7n)
    have exn := s7n _ _ ex7
    have gN := gd_netOf (ls := ls) (as := as) (os := os) (by omega) (by omega) (by omega) lea.2.2.2.2
    refine ⟨fun σ H8 => σ = [some (.ref r), some (.ref x), some (iV l), some (iV a), some (iV o), some (.ref D3), some (.ref tl), some (.ref fl), y8, y9, some (.ref tn), none, none, none, none] ∧ Same Hn H8 ∧ q4 = row.length ∧ netB (netOf ls as os) = true, ?_, ?_⟩
    · refine ⟨_, rfl, x, dx7, _, rfl, exn, rfl, x, r, q4, row, rfl, ⟨dx7, exn⟩, SqL.of (rowAt k1n), _, rfl, ?_⟩
      by_cases hq : q4 = row.length
      · refine iteF' (by rw [decide_eq_true hq]; rfl) ?_
        refine ⟨_, rfl, .ref tn, netOf ls as os, 3, rfl, dN, gN, by decide, fun ds eds es hes => ?_, fun Hk sk => ⟨_, rfl, ?_⟩⟩
        · cases eds
          simp only [List.mem_cons, List.mem_nil_iff, or_false] at hes
          rcases hes with z | z | z | z <;> cases z
          · rw [List.length_map]; omega
          · omega
          · rw [List.length_map]; omega
          · rw [List.length_map]; omega
        · cases hn : netB (netOf ls as os) with
          | true => exact iteF ⟨rfl, sk, hq, rfl⟩
          | false =>
            refine iteT ?_
            refine qE' ?_ Hk (kp_trans k1n (Same.kp sk))
            rw [eR4]
            exact if_neg fun z => by rw [hn] at z; cases z.2
      · refine iteT' (by rw [decide_eq_false hq]; rfl) ?_
        refine iteT ?_
        refine qE' ?_ Hn k1n
        rw [eR4]
        exact if_neg fun z => hq z.1
    rintro σ H8 ⟨rfl, s8, hq, hn⟩
    have noN : noL (netOf ls as os) = true := (gd_ok 3 _ gN).1
    refine ⟨_, rfl, q (netOf ls as os) ?_ H8 (.ref tn) (sm (kp_trans k1n (Same.kp s8))) (dp_stay (same_tup s8) _ _ dN noN)⟩
    rw [eR4]
    exact if_pos ⟨hq, hn⟩
end
end C1

/-! A row read by the law. -/
namespace C1
open PySem PySem.Spec PyProof.Rows L2 SX
abbrev sLawTake : Stmt := topS 24
abbrev sLawTakes : Stmt := topS 25
abbrev sLawRead : Stmt := topS 27
theorem scLawTake : FnScope ["box", "number", "weight", "turn", "byte"] ["box"] (defScope sLawTake) := ⟨rfl, rfl, rfl, by decide +kernel, rfl, by decide +kernel, by decide +kernel⟩
abbrev NLT : List Str := ["box", "number", "weight", "turn", "byte"]
theorem scLawTakes : FnScope ["box", "many", "found", "k", "number"] ["box", "many"] (defScope sLawTakes) := ⟨rfl, rfl, rfl, by decide +kernel, rfl, by decide +kernel, by decide +kernel⟩
theorem scLawRead : FnScope ["row", "box", "heads", "latches", "outs", "ands", "at", "pair", "own", "firsts", "net", "one"] ["row"] (defScope sLawRead) := ⟨rfl, rfl, rfl, by decide +kernel, rfl, by decide +kernel, by decide +kernel⟩
abbrev NLE : List Str := ["row", "box", "heads", "latches", "outs", "ands", "at", "pair", "own", "firsts", "net", "one"]
def bxL (r : Addr) (p : Int) : List (Key × V) := [(.inr ("row" : Str), .ref r), (.inr ("at" : Str), .int p)]
theorem bx_ne : ¬ (Sum.inr ("row" : Str) : Key) = Sum.inr ("at" : Str) := by decide
theorem bx_row (r : Addr) (p : Int) : valV (bxL r p) (.inr "row") = some (.ref r) := valV_pos rfl
theorem bx_at (r : Addr) (p : Int) : valV (bxL r p) (.inr "at") = some (.int p) := (valV_neg bx_ne).trans (valV_pos rfl)
theorem bx_put (r : Addr) (p k : Int) : putK (bxL r p) (.inr ("at" : Str)) (.int k) = bxL r k := by
  have h2 : ¬ (Str.ofString "row" : Str) = Str.ofString "at" := by decide
  unfold putK bxL
  simp [h2]
theorem bx_merge (r : Addr) : mergeK [] [(Sum.inr ("row" : Str), V.ref r), (Sum.inr ("at" : Str), V.int 0)] = bxL r 0 := by
  have h2 : ¬ (Str.ofString "row" : Str) = Str.ofString "at" := by decide
  unfold mergeK bxL
  simp [putK, h2]
def Bx (H : Hp) (b r : Addr) (p : Nat) : Prop := H b = some (.dK (bxL r ((p : Nat) : Int)))
theorem Bx.row {H : Hp} {b r : Addr} {p : Nat} (h : Bx H b r p) : DGet H b (.str "row") (some (.ref r)) := by
  have g := DGet.k (k := .inr "row") h
  rw [bx_row] at g
  exact g
theorem Bx.at' {H : Hp} {b r : Addr} {p : Nat} (h : Bx H b r p) : DGet H b (.str "at") (some (iV p)) := by
  have g := DGet.k (k := .inr "at") h
  rw [bx_at] at g
  exact g
theorem Bx.put {H : Hp} {b r : Addr} {p : Nat} {k : Int} (h : Bx H b r p) : DPut H b (.str "at") (.int k) (upd H b (.dK (bxL r k))) := by
  have g := DPut.k (k := .inr "at") (v := .int k) h (by rw [sizeLine_eq]; exact (by decide : 2 < 16777216))
  rw [bx_put] at g
  exact g
/-- no long run of high bytes -/
def Runs (k : Nat) (row : List Nat) : Prop := ∀ p i, p + i ≤ row.length → hiL ((row.drop p).take i) → i ≤ k
theorem valN_snoc : ∀ (l : List Nat) (b : Nat), valN (l ++ [b]) = valN l + 128 ^ l.length * (b % 128)
  | [], b => by
    show b % 128 + 128 * 0 = 0 + 128 ^ 0 * (b % 128)
    omega
  | a :: l, b => by
    show a % 128 + 128 * valN (l ++ [b]) = a % 128 + 128 * valN l + 128 ^ (l.length + 1) * (b % 128)
    rw [valN_snoc l b, Nat.pow_succ, Nat.mul_add, ← Nat.mul_assoc 128, Nat.mul_comm 128 (128 ^ l.length)]
    omega
section
variable {P : Program} {w : World} {K : PySem.W.Frag} {mg : Str → Option Value} {base : Heap}
def spTake (K : PySem.W.Frag) : Sp := fun vs H Q _ => ∃ (b r : Addr) (p : Nat) (row : List Nat), vs = [.ref b] ∧ Bx H b r p ∧ H r = some (.lst (row.map iV)) ∧ p ≤ row.length ∧ row.length ≤ 400 ∧ Bytes row ∧ Runs 7 row ∧
  (∀ n q, takeP row p = some (n, q) → ∀ H', Kp b H H' → Bx H' b r q → Q (iV n) H') ∧ (takeP row p = none → ∀ H' q, q ≤ row.length → Kp b H H' → Bx H' b r q → Q (.int (-1)) H')
theorem ok_take {f : Addr} {fd : FuncData} (F : Fun K "_law_take" "_law_take" sLawTake f fd) (B : BV mg) : FnOk P w K mg base CX0 1 f fd ["box"] (spTake K) := by
  refine F.ok scLawTake (fun vs H Q E h => ?_) (fun cdv A outer s H vs Q E hr h => ?_)
  · obtain ⟨b, r, p, row, rfl, _⟩ := h
    rfl
  · obtain ⟨b, r, p, row, rfl, hbx, er, hp, hl, hb, hrun, q, qn⟩ := h
    have nd := scLawTake.nd
    have hud := hu_of hr
    have nrb : r ≠ b := ne_of er hbx (by intro z; cases z)
    refine ⟨_, (pss_cons (ps_asg (pe_tup (pa_cons (pe_int) (pa_cons (pe_int) pa_nil))) (pg_tup (by rfl) (pgs_cons (pg_name (i := 1) nd rfl (.inl rfl)) (pgs_cons (pg_name (i := 2) nd rfl (.inl rfl)) pgs_nil))))
      (C8.pss_cut (ps_for PassesOwn.never rfl (pi_range1 (by rfl) B.range (pa_cons (pe_int) pa_nil)) (pg_name (i := 3) nd rfl (.inl rfl)) (pss_cons (ps_if (pt_cmpR op_ge (pe_dget hud (pv 0) (pe_str) (fun _ _ => rfl)) (pe_callB call_len_seq (by rfl) B.len PySem.boot_len (pa_cons (pe_dget hud (pv 0) (pe_str) (fun _ _ => rfl)) pa_nil)) (nomark _)) (pss_one (ps_ret (pe_un un_neg pe_int))) pss_nil)
      (pss_cons (ps_set (i := 4) nd rfl (.inl rfl) (pe_ix ix_list (pe_dget hud (pv 0) (pe_str) (fun _ _ => rfl)) (pe_dget hud (pv 0) (pe_str) (fun _ _ => rfl)) (fun _ _ => rfl)))
      (pss_cons (ps_daug hud (pv 0) (pe_str) (pe_int) in_add (fun _ _ _ => rfl))
      (pss_cons (ps_aug (i := 1) nd rfl (.inl rfl) (pe_op op_mul (pe_op op_modNN (pe_callTy call_int1 (by rfl) B.int (by decide +kernel) (pa_cons (pv 4) pa_nil)) (pe_int)) (pv 2)) ip_add)
      (pss_cons (ps_if (pt_cmpR op_lt (pv 4) (pe_int) (nomark _)) (pss_one (ps_ret (pe_ifExp (PW.pt (pw_and (pt_cmpR op_eq (pv 4) (pe_int) (nomark _)) (pw_and1 (pt_cmpR op_gt (pv 2) (pe_int) (nomark _))))) (pe_un un_neg pe_int) (pv 1)))) pss_nil)
      (pss_one (ps_set (i := 2) nd rfl (.inl rfl) (pe_op op_mul (pv 2) (pe_int))))))))))
      (pss_one (ps_ret (pe_un un_neg pe_int))))), ?_⟩
    refine ⟨line200 (show 2 ≤ 1000 by decide), fun t nt => ?_⟩
    have st : Same H (upd H t (.tup [.int 0, .int 1])) := Same.up nt
    have et : (upd H t (.tup [.int 0, .int 1])) t = some (.tup [.int 0, .int 1]) := upd_same
    generalize upd H t (.tup [.int 0, .int 1]) = H0 at st et
    refine ⟨t, _, rfl, SqT.of et, rfl, _, _, rfl, _, _, rfl, rfl, ?_⟩
    refine ⟨fun _ _ => False, ?_, fun _ _ z => z.elim⟩
    refine ⟨12, rfl, by decide, by decide, for_range (n := 12) (fun i σ H1 => ∃ y3 y4, σ = [some (.ref b), some (iV (valN ((row.drop p).take i))), some (iV (128 ^ i)), y3, y4] ∧ p + i ≤ row.length ∧ hiL ((row.drop p).take i) ∧ Kp b H H1 ∧ Bx H1 b r (p + i)) ⟨none, none, by rw [List.take_zero]; rfl, hp, (fun x hx => by rw [List.take_zero] at hx; cases hx), Same.kp st, st _ _ hbx⟩ (fun i σ H1 hi h => ?_) (fun σ H1 h => ?_)⟩
    · obtain ⟨y3, y4, rfl, hpi, hh, kp, bx⟩ := h
      have er1 := kp _ _ nrb er
      refine ⟨_, rfl, b, _, rfl, bx.at', _, rfl, b, _, rfl, bx.row, r, _, rfl, .inl (SqL.of er1), _, _, rfl, rfl, _, rfl, ?_⟩
      rw [List.length_map]
      by_cases hend : p + i = row.length
      · refine iteT' (decide_eq_true (by omega)) ⟨_, rfl, ?_⟩
        refine qn ?_ H1 _ hpi kp bx
        unfold takeP
        rw [take_all hh (by rw [List.length_drop]; omega)]
      · refine iteF' (decide_eq_false (by omega)) ?_
        have hlt : p + i < row.length := by omega
        obtain ⟨c, ec⟩ : ∃ c, row[p + i]? = some c := ⟨_, List.getElem?_eq_getElem hlt⟩
        have ec2 : (row.drop p)[i]? = some c := by
          rw [List.getElem?_drop]
          exact ec
        have hc := hb c (List.mem_of_getElem? ec)
        refine ⟨_, rfl, b, _, rfl, bx.row, _, rfl, b, _, rfl, bx.at', r, _, _, iV c, rfl, rfl, SqL.of er1, atI_nat (by rw [List.getElem?_map, ec]; rfl), ?_⟩
        refine ⟨_, rfl, b, _, rfl, bx.at', _, _, rfl, rfl, _, bx.put, ?_⟩
        have bx2 : Bx (upd H1 b (.dK (bxL r (((p + i : Nat) : Int) + 1)))) b r (p + i + 1) := upd_same
        have kp2 : Kp b H (upd H1 b (.dK (bxL r (((p + i : Nat) : Int) + 1)))) := kp_trans kp kp_put
        show tSeq _ _ _ _ (upd H1 b (.dK (bxL r (((p + i : Nat) : Int) + 1))))
        generalize upd H1 b (.dK (bxL r (((p + i : Nat) : Int) + 1))) = H2 at bx2 kp2
        have lt : ((row.drop p).take i).length = i := by
          rw [List.length_take, List.length_drop]
          omega
        have ev : V.int (((valN ((row.drop p).take i) : Nat) : Int) + (((c % 128 : Nat) : Int) * ((128 ^ i : Nat) : Int))) = iV (valN ((row.drop p).take (i + 1))) := by
          refine congrArg V.int ?_
          rw [take_snoc ec2, valN_snoc, lt, Int.natCast_add, Int.natCast_mul, Int.mul_comm]
        refine ⟨_, rfl, _, rfl, .inl ⟨_, rfl, c, 128, rfl, rfl, by decide, _, rfl, _, _, rfl, rfl, .inl ⟨by omega, by omega⟩, _, _, rfl, rfl, ?_⟩⟩
        refine ⟨_, rfl, _, _, rfl, rfl, _, rfl, ?_⟩
        by_cases h128 : c < 128
        · refine iteT' (decide_eq_true (by omega)) ?_
          have eN := take_run hh ec2 h128
          by_cases h0 : c = 0
          · refine ⟨_, rfl, rfl, _, rfl, iteT' (decide_eq_true (by rw [h0]; rfl)) ⟨_, rfl, _, _, rfl, rfl, _, rfl, ?_⟩⟩
            by_cases hi0 : i = 0
            · have ew : ¬ (1 : Int) < ((128 ^ i : Nat) : Int) := by rw [hi0]; decide
              refine iteF' (decide_eq_false ew) ⟨_, rfl, ?_⟩
              refine Eq.mp (congrArg (fun v => Q v H2) ev.symm) ?_
              rw [if_neg (fun z => z.1 hi0)] at eN
              exact q _ _ (by unfold takeP; rw [eN]; rfl) H2 kp2 bx2
            · have e1 : 128 ^ 1 ≤ 128 ^ i := Nat.pow_le_pow_right (by decide) (by omega)
              have ew : (1 : Int) < ((128 ^ i : Nat) : Int) := by omega
              refine iteT' (decide_eq_true ew) ⟨_, rfl, ?_⟩
              rw [if_pos ⟨hi0, h0⟩] at eN
              exact qn (by unfold takeP; rw [eN]) H2 _ (by omega) kp2 bx2
          · refine ⟨_, rfl, rfl, _, rfl, iteF' (decide_eq_false (fun z => h0 (by have := V.int.inj z; omega))) (iteF ⟨_, rfl, ?_⟩)⟩
            refine Eq.mp (congrArg (fun v => Q v H2) ev.symm) ?_
            rw [if_neg (fun z => h0 z.2)] at eN
            exact q _ _ (by unfold takeP; rw [eN]; rfl) H2 kp2 bx2
        · refine iteF' (decide_eq_false (by omega)) ?_
          refine ⟨_, rfl, _, _, rfl, rfl, .inr ⟨by decide, by decide⟩, ?_⟩
          refine ⟨some (V.int (0 + ((i : Nat) : Int))), some (iV c), ?_, by omega, hi_more hh ec2 (by omega), kp2, bx2⟩
          rw [← ev, show iV (128 ^ (i + 1)) = V.int (((128 ^ i : Nat) : Int) * 128) from congrArg V.int (by rw [Nat.pow_succ, Int.natCast_mul]; rfl)]
          rfl
    · obtain ⟨y3, y4, rfl, hpi, hh, _, _⟩ := h
      have := hrun p 12 hpi hh
      omega
def spTakes (K : PySem.W.Frag) : Sp := fun vs H Q _ => ∃ (b r : Addr) (p many : Nat) (row : List Nat), vs = [.ref b, iV many] ∧ Bx H b r p ∧ H r = some (.lst (row.map iV)) ∧ p ≤ row.length ∧ row.length ≤ 400 ∧ Bytes row ∧ Runs 7 row ∧ many < 2 ^ 61 ∧
  (∀ ns q, takesP row many p = some (ns, q) → ∀ H' l, Kp b H H' → Bx H' b r q → H l = none → H' l = some (.lst (ns.map iV)) → Q (.ref l) H') ∧ (takesP row many p = none → ∀ H' q, q ≤ row.length → Kp b H H' → Bx H' b r q → Q .non H')
theorem ok_takes {f fT : Addr} {fd fdT : FuncData} (F : Fun K "_law_takes" "_law_takes" sLawTakes f fd) (B : BV mg)
    (GT : FnOk P w K mg base CX0 1 fT fdT ["box"] (spTake K)) (kT : PySem.W.keepIn K (.ref fT) = true) (bT : Binds K fdT ["box"] []) (gT : mg "_law_take" = some (.ref fT)) : FnOk P w K mg base CX0 2 f fd ["box", "many"] (spTakes K) := by
  refine F.ok scLawTakes (fun vs H Q E h => ?_) (fun cdv A outer s H vs Q E hr h => ?_)
  · obtain ⟨b, r, p, many, row, rfl, _⟩ := h
    rfl
  · obtain ⟨b, r, p, many, row, rfl, hbx, er, hp, hl, hb, hrun, hm, q, qn⟩ := h
    have nd := scLawTakes.nd
    have hr1 : Room 1 _ := hr
    have nrb : r ≠ b := ne_of er hbx (by intro z; cases z)
    refine ⟨_, (pss_cons (ps_set (i := 2) nd rfl (.inl rfl) (pe_lst pa_nil))
      (C8.pss_cut (ps_for PassesOwn.never rfl (pi_range1 (by rfl) B.range (pa_cons (pv 1) pa_nil)) (pg_name (i := 3) nd rfl (.inl rfl)) (pss_cons (ps_set (i := 4) nd rfl (.inl rfl) (pe_call GT hr1 (by rfl) gT kT bT .nil pass0 (pa_cons (pv 0) pa_nil)))
      (pss_cons (ps_if (pt_cmpR op_lt (pv 4) (pe_int) (nomark _)) (pss_one (ps_ret (pe_non))) pss_nil)
      (pss_one (ps_expr (pe_bm PySem.F.plainAttrs_list PySem.F.slot_list_append PySem.F.type_list_append mt_append (pv 2) (pa_cons (pv 4) pa_nil)))))))
      (pss_one (ps_ret (pv 2))))), ?_⟩
    refine ⟨Nat.zero_le _, fun l nl => ?_⟩
    have nlb : l ≠ b := fun z => by
      have h : H b = some (.dK (bxL r ((p : Nat) : Int))) := hbx
      rw [z, h] at nl
      cases nl
    refine ⟨fun σ H1 => ∃ y3 y4 acc qp, σ = [some (.ref b), some (iV many), some (.ref l), y3, y4] ∧ takesP row many p = some (acc, qp) ∧ Kp b H H1 ∧ Bx H1 b r qp ∧ H1 l = some (.lst (acc.map iV)), ?_, ?_⟩
    · refine ⟨_, rfl, _, rfl, by omega, by omega, ?_⟩
      rw [Int.toNat_natCast]
      refine for_range (n := many) (fun i σ H1 => ∃ y3 y4 acc qp, σ = [some (.ref b), some (iV many), some (.ref l), y3, y4] ∧ takesP row i p = some (acc, qp) ∧ Kp b H H1 ∧ Bx H1 b r qp ∧ H1 l = some (.lst (acc.map iV))) ⟨none, none, [], p, rfl, rfl, kp_new (fun _ _ _ e => e) nl, Same.up nl _ _ hbx, upd_same⟩ (fun i σ H1 hi h => ?_) (fun σ H1 h => h)
      obtain ⟨y3, y4, acc, qp, rfl, et, kp, bx, el⟩ := h
      have le := takesP_le hp et
      refine ⟨_, rfl, b, r, qp, row, rfl, bx, kp _ _ nrb er, le.2.2, hl, hb, hrun, fun n q2 e2 H2 k2 bx2 => ?_, fun e2 H2 q2 hq2 k2 bx2 => ?_⟩
      · refine ⟨_, rfl, _, _, rfl, rfl, _, rfl, iteF' (decide_eq_false (by omega)) ?_⟩
        have el2 := k2 _ _ nlb el
        refine ⟨_, rfl, .inl ⟨rfl, _, SqL.of el2⟩, _, rfl, l, _, _, rfl, rfl, el2, lineX (by rw [List.length_map]; omega), ?_⟩
        refine ⟨_, _, acc ++ [n], q2, rfl, takesP_some et e2, kp_new (kp_trans kp k2) nl, ?_, ?_⟩
        · show (upd H2 l _) b = _
          rw [upd_ne nlb.symm]
          exact bx2
        · rw [upd_same, List.map_append]
          rfl
      · refine ⟨_, rfl, _, _, rfl, rfl, _, rfl, iteT' (by decide) ?_⟩
        exact qn (takesP_none (takesP_stop et e2) hi) H2 q2 hq2 (kp_trans kp k2) bx2
    rintro σ H1 ⟨y3, y4, acc, qp, rfl, et, kp, bx, el⟩
    exact ⟨_, rfl, q acc qp et H1 l kp bx nl el⟩
end
end C1

/-! A row read by the law: the whole. -/
namespace C1
open PySem PySem.Spec PyProof.Rows L2 SX
theorem numL_small : ∀ {l : List Nat} {n k : Nat}, numL l = some (n, k) → n < 128 ^ k ∧ hiL (l.take (k - 1)) ∧ 1 ≤ k ∧ k ≤ l.length
  | [], _, _, h => by cases h
  | b :: r, n, k, h => by
    unfold numL at h
    by_cases hb : b < 128
    · rw [if_pos hb] at h
      cases h
      exact ⟨by rw [Nat.pow_one]; exact hb, (fun x hx => by cases hx), Nat.le_refl _, by show 1 ≤ r.length + 1; omega⟩
    · rw [if_neg hb] at h
      cases e : numL r with
      | none =>
        rw [e] at h
        cases h
      | some p =>
        obtain ⟨n', k'⟩ := p
        rw [e] at h
        obtain ⟨i1, i2, i3, i4⟩ := numL_small e
        have h : (if n' = 0 then none else some (b % 128 + 128 * n', k' + 1)) = some (n, k) := h
        by_cases hn : n' = 0
        · rw [if_pos hn] at h
          cases h
        · rw [if_neg hn] at h
          cases h
          refine ⟨?_, ?_, by omega, by show k' + 1 ≤ r.length + 1; omega⟩
          · rw [Nat.pow_succ]
            omega
          · obtain ⟨j, rfl⟩ : ∃ j, k' = j + 1 := ⟨k' - 1, by omega⟩
            intro x hx
            rcases List.mem_cons.mp (show x ∈ b :: r.take j from hx) with z | z
            · omega
            · exact i2 x z
theorem small_of_runs {row : List Nat} (h : Runs 7 row) : SmallR row := fun p n q e => by
  unfold takeP at e
  cases e1 : numL (row.drop p) with
  | none =>
    rw [e1] at e
    cases e
  | some x =>
    obtain ⟨m, k⟩ := x
    rw [e1] at e
    cases e
    obtain ⟨i1, i2, i3, i4⟩ := numL_small e1
    rw [List.length_drop] at i4
    have := h p (k - 1) (by omega) i2
    have h8 : 128 ^ k ≤ 128 ^ 8 := Nat.pow_le_pow_right (by decide) (by omega)
    have h9 : (128 : Nat) ^ 8 < 2 ^ 61 := by decide
    omega
theorem takes2 (row : List Nat) (q : Nat) : takesP row 2 q = (match takeP row q with
    | none => none
    | some (a, q1) => match takeP row q1 with
      | none => none
      | some (b, q2) => some ([a, b], q2)) := by
  have h0 : takesP row 0 q = some ([], q) := rfl
  cases e : takeP row q with
  | none => exact takesP_none (takesP_stop h0 e) (by decide)
  | some x =>
    obtain ⟨a, q1⟩ := x
    have h1 := takesP_some h0 e
    show takesP row 2 q = (match takeP row q1 with | none => none | some (b, q2) => some ([a, b], q2))
    cases e2 : takeP row q1 with
    | none => exact takesP_stop h1 e2
    | some y => exact takesP_some h1 e2
theorem andsP_two {row : List Nat} {L i p : Nat} {acc : List PyData} {q : Nat} (h : andsP row L i p = some (acc, q)) : (takesP row 2 q = none → andsP row L (i + 1) p = none) ∧ ∀ ns q', takesP row 2 q = some (ns, q') → ∃ a b, ns = [a, b] ∧ andsP row L (i + 1) p = some (acc ++ [andD L i a b], q') := by
  have st := andsP_step h
  rw [takes2]
  cases e : takeP row q with
  | none =>
    rw [e] at st
    exact ⟨fun _ => st, fun _ _ z => by cases z⟩
  | some x =>
    obtain ⟨a, q1⟩ := x
    rw [e] at st
    have st : andsP row L (i + 1) p = (match takeP row q1 with | none => none | some (b, q2) => some (acc ++ [andD L i a b], q2)) := st
    show ((match takeP row q1 with | none => none | some (b, q2) => some ([a, b], q2)) = none → _) ∧ ∀ ns q', (match takeP row q1 with | none => none | some (b, q2) => some ([a, b], q2)) = some (ns, q') → _
    cases e2 : takeP row q1 with
    | none =>
      rw [e2] at st
      exact ⟨fun _ => st, fun _ _ z => by cases z⟩
    | some y =>
      obtain ⟨b, q2⟩ := y
      rw [e2] at st
      refine ⟨fun z => (by cases z), fun ns q' z => ?_⟩
      cases z
      exact ⟨a, b, rfl, st⟩
def dueD (row : List Nat) : PyData := match readD row with
  | none => .none
  | some d => d
theorem due_none {row : List Nat} (h : readD row = none) : dueD row = .none := by
  unfold dueD
  rw [h]
theorem read_big {row : List Nat} {l a o q : Nat} (e : takesP row 3 0 = some ([l, a, o], q)) (hq : q ≤ row.length) (h : row.length < l ∨ row.length < a ∨ row.length < o) : readD row = none := by
  unfold readD
  rw [e]
  show latsD row l a o q = none
  unfold latsD
  cases e1 : takesP row l q with
  | none => rfl
  | some x =>
    obtain ⟨ls, q2⟩ := x
    have le1 := takesP_le hq e1
    show outsD row ls l a o q2 = none
    unfold outsD
    cases e2 : takesP row o q2 with
    | none => rfl
    | some y =>
      obtain ⟨os, q3⟩ := y
      have le2 := takesP_le le1.2.2 e2
      show andsD row ls os l a q3 = none
      unfold andsD
      cases e3 : andsP row l a q3 with
      | none => rfl
      | some z =>
        obtain ⟨as, q4⟩ := z
        have le3 := andsP_le le2.2.2 e3
        omega
section
variable {P : Program} {w : World} {K : PySem.W.Frag} {mg : Str → Option Value} {base : Heap}
def spLRead (K : PySem.W.Frag) : Sp := fun vs H Q _ => ∃ (r : Addr) (row : List Nat), vs = [.ref r] ∧ H r = some (.lst (row.map iV)) ∧ row.length ≤ 400 ∧ Bytes row ∧ Runs 7 row ∧ ∀ H' v, Same H H' → Dp K H' v (dueD row) → Q v H'
theorem ok_lRead {f fS fN : Addr} {fd fdS fdN : FuncData} (F : Fun K "_law_read" "_law_read" sLawRead f fd) (B : BV mg)
    (GS : FnOk P w K mg base CX0 2 fS fdS ["box", "many"] (spTakes K)) (kS : PySem.W.keepIn K (.ref fS) = true) (bS : Binds K fdS ["box", "many"] []) (gS : mg "_law_takes" = some (.ref fS))
    (GN : FnOk P w K mg base CX0 2 fN fdN ["thing"] (spIsNet K)) (kN : PySem.W.keepIn K (.ref fN) = true) (bN : Binds K fdN ["thing"] []) (gN : mg "_law_is_net" = some (.ref fN)) : FnOk P w K mg base CX0 3 f fd ["row"] (spLRead K) := by
  refine F.ok scLawRead (fun vs H Q E h => ?_) (fun cdv A outer s H vs Q E hr h => ?_)
  · obtain ⟨r, row, rfl, _⟩ := h
    rfl
  · obtain ⟨r, row, rfl, er, hl, hb, hrun, q⟩ := h
    have nd := scLawRead.nd
    have hr2 : Room 2 _ := hr
    have hu := hu_of hr
    have hud := hu_of hr
    have hsm := small_of_runs hrun
    refine ⟨_, (pss_cons (ps_set (i := 1) nd rfl (.inl rfl) (pe_disp (pps_cons (pe_str) (pv 0) (pps_cons (pe_str) (pe_int) pps_nil)) rfl rfl (by intro z; cases z) (by decide)))
      (pss_cons (ps_set (i := 2) nd rfl (.inl rfl) (pe_call GS hr2 (by rfl) gS kS bS .nil pass0 (pa_cons (pv 1) (pa_cons (pe_int) pa_nil))))
      (C8.pss_cut (ps_if (PW.pt (pw_or (pt_cmpR op_isN (pv 2) (pe_non) (nomark _)) (pw_or1 (pt_cmpR op_gt (pe_callB (cr_max rfl) (by rfl) B.max (by decide +kernel) (pa_cons (pv 2) pa_nil)) (pe_callB call_len_seq (by rfl) B.len PySem.boot_len (pa_cons (pv 0) pa_nil)) (nomark _))))) (pss_one (ps_ret (pe_non))) pss_nil)
      (pss_cons (ps_par (i := 3) (j := 4) (by rfl) nd rfl rfl (by decide) rfl rfl (pa_cons (pe_call GS hr2 (by rfl) gS kS bS .nil pass0 (pa_cons (pv 1) (pa_cons (pe_ix ix_list (pv 2) (pe_int) (fun _ _ => rfl)) pa_nil))) (pa_cons (pe_call GS hr2 (by rfl) gS kS bS .nil pass0 (pa_cons (pv 1) (pa_cons (pe_ix ix_list (pv 2) (pe_int) (fun _ _ => rfl)) pa_nil))) pa_nil)) (by rfl))
      (C8.pss_cut (ps_if (PW.pt (pw_or (pt_cmpR op_isN (pv 3) (pe_non) (nomark _)) (pw_or1 (pt_cmpR op_isN (pv 4) (pe_non) (nomark _))))) (pss_one (ps_ret (pe_non))) pss_nil)
      (pss_cons (ps_set (i := 5) nd rfl (.inl rfl) (pe_lst pa_nil))
      (C8.pss_cut (ps_for PassesOwn.never rfl (pi_range1 (by rfl) B.range (pa_cons (pe_ix ix_list (pv 2) (pe_int) (fun _ _ => rfl)) pa_nil)) (pg_name (i := 6) nd rfl (.inl rfl)) (pss_cons (ps_set (i := 7) nd rfl (.inl rfl) (pe_call GS hr2 (by rfl) gS kS bS .nil pass0 (pa_cons (pv 1) (pa_cons (pe_int) pa_nil))))
      (pss_cons (ps_if (pt_cmpR op_isN (pv 7) (pe_non) (nomark _)) (pss_one (ps_ret (pe_non))) pss_nil)
      (pss_cons (ps_set (i := 8) nd rfl (.inl rfl) (pe_op op_mulN (pe_int) (pe_op op_addN (pe_op op_addN (pe_int) (pe_ix ix_list (pv 2) (pe_int) (fun _ _ => rfl))) (pv 6))))
      (pss_one (ps_expr (pe_bm PySem.F.plainAttrs_list PySem.F.slot_list_append PySem.F.type_list_append mt_append (pv 5) (pa_cons (pe_tup (pa_cons (pe_op op_sub (pe_op op_sub (pv 8) (pe_int)) (pe_ix ix_list (pv 7) (pe_int) (fun _ _ => rfl))) (pa_cons (pe_op op_sub (pe_op op_sub (pv 8) (pe_int)) (pe_ix ix_list (pv 7) (pe_int) (fun _ _ => rfl))) pa_nil))) pa_nil))))))))
      (pss_cons (ps_set (i := 9) nd rfl (.inl rfl) (pe_callTy call_tuple_of (by rfl) B.tuple (by decide +kernel) (pa_cons (pe_lc (own := [("one", 11)]) (g := gName 11) (tt := tYes) (te := tOp rModNN (tCB (fun xs H Q => (∃ i, xs = [V.int i] ∧ Q (.int i) H) ∨ ∃ k, xs = [V.bl k] ∧ Q (.int (if k then 1 else 0)) H) (tCons (tVar 11) tNil)) (tC (.int 2)))  rfl nd (pi_list (pv 3)) (blkOk_by (own := [("one", 11)]) (N := NLE) (sc := defScope sLawRead) (by decide +kernel)) (fun _ _ _ _ _ => pg_name (i := 11) nd rfl (.inl rfl)) (fun _ _ _ _ _ => pts_nil) (fun _ _ _ _ _ => by exact (pe_op op_modNN (pe_callTy call_int1 (by rfl) B.int (by decide +kernel) (pa_cons (pv 11) pa_nil)) (pe_int)))) pa_nil)))
      (pss_cons (ps_set (i := 10) nd rfl (.inl rfl) (pe_tup (pa_cons (pv 9) (pa_cons (pe_callTy call_tuple_of (by rfl) B.tuple (by decide +kernel) (pa_cons (pv 5) pa_nil)) (pa_cons (pe_callTy call_tuple_of (by rfl) B.tuple (by decide +kernel) (pa_cons (pe_lc (own := [("one", 11)]) (g := gName 11) (tt := tYes) (te := tOp (rI CDiv fun i j => .int (i / j)) (tVar 11) (tC (.int 2)))  rfl nd (pi_list (pv 3)) (blkOk_by (own := [("one", 11)]) (N := NLE) (sc := defScope sLawRead) (by decide +kernel)) (fun _ _ _ _ _ => pg_name (i := 11) nd rfl (.inl rfl)) (fun _ _ _ _ _ => pts_nil) (fun _ _ _ _ _ => by exact (pe_op op_fdiv (pv 11) (pe_int)))) pa_nil)) (pa_cons (pe_callTy call_tuple_of (by rfl) B.tuple (by decide +kernel) (pa_cons (pv 4) pa_nil)) pa_nil))))))
      (pss_one (ps_ret (pe_ifExp (PW.pt (pw_and (pt_cmpR op_eq (pe_dget hud (pv 1) (pe_str) (fun _ _ => rfl)) (pe_callB call_len_seq (by rfl) B.len PySem.boot_len (pa_cons (pv 0) pa_nil)) (nomark _)) (pw_and1 (pt_val (pe_call GN hr2 (by rfl) gN kN bN .nil pass0 (pa_cons (pv 10) pa_nil)))))) (pv 10) (pe_non))))))))))))), ?_⟩
    refine fun b nb => ⟨_, rfl, upd_same, [(.inr ("row" : Str), .ref r), (.inr ("at" : Str), .int 0)], rfl, (by show 2 ≤ 15; decide), ?_⟩
    rw [bx_merge, upd_upd]
    have s1 : Same H (upd H b (.dK (bxL r 0))) := Same.up nb
    have bx1 : Bx (upd H b (.dK (bxL r 0))) b r 0 := upd_same
    generalize upd H b (.dK (bxL r 0)) = H1 at s1 bx1
    have er1 := s1 _ _ er
    have nrb : r ≠ b := ne_of er1 bx1 (by intro z; cases z)
    have sm : ∀ {H'}, Kp b H1 H' → Same H H' := fun {H'} k => same_kp s1 k nb
    have rowAt : ∀ {H'}, Kp b H1 H' → H' r = some (.lst (row.map iV)) := fun {H'} k => k _ _ nrb er1
    have qN : readD row = none → ∀ H', Kp b H1 H' → Q .non H' := fun e H' k => q H' .non (sm k) (by rw [due_none e]; exact .non)
    have tupS : ∀ {p : Nat} {H2 H3 : Hp} {c : Addr} {xs : List V}, Bx H2 b r p → Kp b H2 H3 → SqT K H2 c xs → SqT K H3 c xs := fun {p H2 H3 c xs} e k h => kp_tup e k _ _ h
    -- the three heads
    refine ⟨_, rfl, b, r, 0, 3, row, rfl, bx1, er1, Nat.zero_le _, hl, hb, hrun, by decide, fun ns q0 et H2 l2 k2 bx2 nl2 el2 => ?_, fun et H2 q2 hq2 k2 bx2 => ?_⟩
    rotate_left
    · refine ⟨fun _ _ => False, ?_, fun _ _ z => z.elim⟩
      refine ⟨_, rfl, rfl, _, rfl, iteT (iteT ?_)⟩
      refine qN ?_ H2 k2
      unfold readD
      rw [et]
    have le0 := takesP_le (Nat.zero_le _) et
    obtain ⟨l, a, o, rfl⟩ : ∃ l a o, ns = [l, a, o] := by
      match ns, le0.1 with
      | [l, a, o], _ => exact ⟨l, a, o, rfl⟩
    have eR : readD row = latsD row l a o q0 := by
      unfold readD
      rw [et]
    refine ⟨fun σ H3 => H2 = H3 ∧ σ = [some (.ref r), some (.ref b), some (.ref l2), none, none, none, none, none, none, none, none, none] ∧ l ≤ row.length ∧ a ≤ row.length ∧ o ≤ row.length, ?_, ?_⟩
    · refine ⟨_, rfl, rfl, _, rfl, iteF ?_⟩
      refine ⟨_, rfl, l2, [((l : Nat) : Int), ((a : Nat) : Int), ((o : Nat) : Int)], rfl, SqL.of el2, Nat.zero_lt_succ _, fun m hm hmax => ?_⟩
      refine ⟨_, rfl, r, _, rfl, .inl (SqL.of (rowAt k2)), _, _, rfl, rfl, _, rfl, ?_⟩
      rw [List.length_map]
      have m1 := hmax ((l : Nat) : Int) (by simp)
      have m2 := hmax ((a : Nat) : Int) (by simp)
      have m3 := hmax ((o : Nat) : Int) (by simp)
      by_cases hbig : ((row.length : Nat) : Int) < m
      · refine iteT' (decide_eq_true hbig) (qN (read_big et le0.2.2 ?_) H2 k2)
        simp only [List.mem_cons, List.mem_nil_iff, or_false] at hm
        rcases hm with z | z | z <;> omega
      · exact iteF' (decide_eq_false hbig) ⟨rfl, rfl, by omega, by omega, by omega⟩
    rintro σ H3 ⟨rfl, rfl, hl1, ha1, ho1⟩
    -- latches and what is told
    have second : ∀ (v1 : V) (q2 : Nat) (H3 : Hp), q2 ≤ row.length → Kp b H1 H3 → Bx H3 b r q2 → H3 l2 = some (.lst ([l, a, o].map iV)) → (∀ Z : VK → Prop, True) → True := fun _ _ _ _ _ _ _ _ => trivial
    have nl2b : l2 ≠ b := ne_of el2 bx2 (by intro z; cases z)
    refine ⟨_, rfl, _, rfl, l2, _, _, iV l, rfl, rfl, SqL.of el2, atI_nat (j := 0) rfl, b, r, q0, l, row, rfl, bx2, rowAt k2, le0.2.2, hl, hb, hrun, by omega, fun ls q2 e3 H3 l3 k3 bx3 nl3 el3 => ?_, fun e3 H3 q2 hq2 k3 bx3 => ?_⟩
    rotate_left
    · -- no latches
      have eN : readD row = none := by
        rw [eR]
        unfold latsD
        rw [e3]
      have el2' := k3 _ _ nl2b el2
      refine ⟨_, rfl, _, rfl, l2, _, _, iV o, rfl, rfl, SqL.of el2', atI_nat (j := 2) rfl, b, r, q2, o, row, rfl, bx3, rowAt (kp_trans k2 k3), hq2, hl, hb, hrun, by omega, fun os q3 e4 H4 l4 k4 bx4 nl4 el4 => ?_, fun e4 H4 q3 hq3 k4 bx4 => ?_⟩
      all_goals
        refine ⟨_, _, rfl, fun _ _ => False, ?_, fun _ _ z => z.elim⟩
        refine ⟨_, rfl, rfl, _, rfl, iteT (iteT ?_)⟩
        exact qN eN H4 (kp_trans (kp_trans k2 k3) k4)
    have le2 := takesP_le le0.2.2 e3
    have eR2 : readD row = outsD row ls l a o q2 := by
      rw [eR]
      unfold latsD
      rw [e3]
    have k13 := kp_trans k2 k3
    have el23 := k3 _ _ nl2b el2
    have nl3b : l3 ≠ b := ne_of el3 bx3 (by intro z; cases z)
    refine ⟨_, rfl, _, rfl, l2, _, _, iV o, rfl, rfl, SqL.of el23, atI_nat (j := 2) rfl, b, r, q2, o, row, rfl, bx3, rowAt k13, le2.2.2, hl, hb, hrun, by omega, fun os q3 e4 H4 l4 k4 bx4 nl4 el4 => ?_, fun e4 H4 q3 hq3 k4 bx4 => ?_⟩
    rotate_left
    · have eN : readD row = none := by
        rw [eR2]
        unfold outsD
        rw [e4]
      refine ⟨_, _, rfl, fun _ _ => False, ?_, fun _ _ z => z.elim⟩
      refine ⟨_, rfl, rfl, _, rfl, iteF ?_⟩
      refine ⟨_, rfl, rfl, _, rfl, iteT ?_⟩
      exact qN eN H4 (kp_trans k13 k4)
    have le3 := takesP_le le2.2.2 e4
    have eR3 : readD row = andsD row ls os l a q3 := by
      rw [eR2]
      unfold outsD
      rw [e4]
    have k14 := kp_trans k13 k4
    have el24 := k4 _ _ nl2b el23
    have el34 := k4 _ _ nl3b el3
    have nl4b : l4 ≠ b := ne_of el4 bx4 (by intro z; cases z)
    refine ⟨_, _, rfl, fun σ H5 => H4 = H5 ∧ σ = [some (.ref r), some (.ref b), some (.ref l2), some (.ref l3), some (.ref l4), none, none, none, none, none, none, none], ?_, ?_⟩
    · refine ⟨_, rfl, rfl, _, rfl, iteF ?_⟩
      exact ⟨_, rfl, rfl, _, rfl, iteF ⟨rfl, rfl⟩⟩
    rintro σ H5 ⟨rfl, rfl⟩
    -- the ands
    refine ⟨Nat.zero_le _, fun fl nfl => ?_⟩
    have nflb : fl ≠ b := fun z => by
      have h : H4 b = some (.dK (bxL r ((q3 : Nat) : Int))) := bx4
      rw [z, h] at nfl
      cases nfl
    have frs : ∀ {c : Addr} {ob : HO}, H4 c = some ob → c ≠ fl := fun {c ob} e z => by
      rw [z, nfl] at e
      cases e
    refine ⟨fun σ H5 => ∃ y6 y7 y8 fvs as q4, σ = [some (.ref r), some (.ref b), some (.ref l2), some (.ref l3), some (.ref l4), some (.ref fl), y6, y7, y8, none, none, none] ∧ andsP row l a q3 = some (as, q4) ∧ Bx H5 b r q4 ∧ Kp b H4 H5 ∧ H5 fl = some (.lst fvs) ∧ DpAll K H5 fvs as, ?_, ?_⟩
    · refine ⟨_, rfl, l2, _, _, iV a, rfl, rfl, SqL.of (Same.up nfl _ _ el24), atI_nat (j := 1) rfl, _, rfl, by omega, by omega, ?_⟩
      rw [Int.toNat_natCast]
      refine for_range (n := a) (fun i σ H5 => ∃ y6 y7 y8 fvs as q4, σ = [some (.ref r), some (.ref b), some (.ref l2), some (.ref l3), some (.ref l4), some (.ref fl), y6, y7, y8, none, none, none] ∧ andsP row l i q3 = some (as, q4) ∧ Bx H5 b r q4 ∧ Kp b H4 H5 ∧ H5 fl = some (.lst fvs) ∧ DpAll K H5 fvs as)
        ⟨none, none, none, [], [], q3, rfl, rfl, Same.up nfl _ _ bx4, kp_new (fun _ _ _ e => e) nfl, upd_same, .nil⟩ (fun i σ H5 hi h => ?_) (fun σ H5 h => h)
      obtain ⟨y6, y7, y8, fvs, as, q4, rfl, ea, bx5, k5, efl, dpf⟩ := h
      have lea := andsP_le le3.2.2 ea
      have lfv := dps_len dpf
      obtain ⟨stN, stS⟩ := andsP_two ea
      rw [Int.zero_add]
      refine ⟨_, rfl, b, r, q4, 2, row, rfl, bx5, rowAt (kp_trans k14 k5), lea.2.2.1, hl, hb, hrun, by decide, fun ns p1 e6 H6 l6 k6 bx6 nl6 el6 => ?_, fun e6 H6 p1 hp1 k6 bx6 => ?_⟩
      rotate_left
      · refine ⟨_, rfl, rfl, _, rfl, iteT ?_⟩
        refine qN ?_ H6 (kp_trans (kp_trans k14 k5) k6)
        rw [eR3]
        unfold andsD
        rw [andsP_none (stN e6) hi]
      obtain ⟨m1, m2, rfl, st⟩ := stS ns p1 e6
      refine ⟨_, rfl, rfl, _, rfl, iteF ?_⟩
      have el26 := k6 _ _ nl2b (k5 _ _ nl2b el24)
      refine ⟨_, rfl, l2, _, _, iV l, rfl, rfl, SqL.of el26, atI_nat (j := 0) rfl, 1, l, rfl, rfl, _, rfl, 1 + l, i, rfl, rfl, 2, 1 + l + i, rfl, rfl, by decide, ?_⟩
      have efl6 := k6 _ _ nflb efl
      have dpf6 := dps_stay (fun _ _ h => tupS bx5 k6 h) _ _ dpf lea.2.2.2.1
      refine ⟨_, rfl, .inl ⟨rfl, _, SqL.of efl6⟩, _, rfl, _, _, rfl, rfl, _, rfl, l6, _, _, iV m1, rfl, rfl, SqL.of el6, atI_nat (j := 0) rfl, _, _, rfl, rfl, _, rfl, _, _, rfl, rfl, _, rfl, l6, _, _, iV m2, rfl, rfl, SqL.of el6, atI_nat (j := 1) rfl, _, _, rfl, rfl, line200 (show 2 ≤ 1000 by decide), fun t nt => ?_⟩
      have st2 : Same H6 (upd H6 t (.tup [.int (((2 * (1 + l + i) : Nat) : Int) - 1 - ((m1 : Nat) : Int)), .int (((2 * (1 + l + i) : Nat) : Int) - 1 - ((m2 : Nat) : Int))])) := Same.up nt
      have dt : Dp K (upd H6 t (.tup [.int (((2 * (1 + l + i) : Nat) : Int) - 1 - ((m1 : Nat) : Int)), .int (((2 * (1 + l + i) : Nat) : Int) - 1 - ((m2 : Nat) : Int))])) (.ref t) (andD l i m1 m2) := .tup (SqT.of upd_same) (.cons (.int _) (.cons (.int _) .nil))
      have noA : noL (andD l i m1 m2) = true := rfl
      refine ⟨fl, _, _, rfl, rfl, st2 _ _ efl6, lineS200 (by omega), ?_⟩
      refine ⟨_, _, _, fvs ++ [.ref t], as ++ [andD l i m1 m2], p1, rfl, st, ?_, ?_, upd_same, push_dps (st2 _ _ efl6) (dps_stay (same_tup st2) _ _ dpf6 lea.2.2.2.1) lea.2.2.2.1 dt noA⟩
      · show (upd (upd H6 t _) fl _) b = _
        rw [upd_ne nflb.symm]
        exact st2 _ _ bx6
      · exact kp_new (kp_trans (kp_trans k5 k6) (Same.kp st2)) nfl
    rintro σ H5 ⟨y6, y7, y8, fvs, as, q4, rfl, ea, bx5, k5, efl, dpf⟩
    have lea := andsP_le le3.2.2 ea
    have lfv := dps_len dpf
    have k15 := kp_trans k14 k5
    have eR4 : readD row = endD row (netOf ls as os) q4 := by
      rw [eR3]
      unfold andsD
      rw [ea]
    have el35 := k5 _ _ nl3b el34
    have el45 := k5 _ _ nl4b el4
    -- the net
    refine ⟨_, rfl, l3, rfl, ⟨_, SqL.of el35⟩, fun Da nDa => ?_⟩
    refine lc_listD (xs := ls.map iV) (ls.map fun x => iD (x % 2)) (noLs_f _) (by rw [List.length_map, List.length_map]) (by rw [List.length_map]; omega) (SqL.of el35) nDa (fun i v d H8 Q8 hx hd s8 q8 => ?_) (fun H8 av s8 eDa dpA => ?_)
    · obtain ⟨z, ez, rfl⟩ := ivs_at hx
      rw [List.getElem?_map, ez] at hd
      cases hd
      exact ⟨rfl, _, rfl, .inl ⟨_, rfl, z, 2, rfl, rfl, by decide, q8 _ _ (Same.refl _) (.int _)⟩⟩
    refine ⟨Da, _, rfl, .inl ⟨SqL.of eDa, fun ta nta => ?_⟩⟩
    have sa : Same H8 (upd H8 ta (.tup av)) := Same.up nta
    have eta : (upd H8 ta (.tup av)) ta = some (.tup av) := upd_same
    generalize upd H8 ta (.tup av) = Ha at sa eta
    have dpA2 := dps_stay (same_tup sa) _ _ dpA (noLs_f _)
    have s5a := s8.trans sa
    refine ⟨_, rfl, _, rfl, fl, _, rfl, .inl ⟨SqL.of (s5a _ _ efl), fun tb ntb => ?_⟩⟩
    have sb : Same Ha (upd Ha tb (.tup fvs)) := Same.up ntb
    have etb : (upd Ha tb (.tup fvs)) tb = some (.tup fvs) := upd_same
    generalize upd Ha tb (.tup fvs) = Hb at sb etb
    have s5b := s5a.trans sb
    refine ⟨_, rfl, l3, rfl, ⟨_, SqL.of (s5b _ _ el35)⟩, fun Dc nDc => ?_⟩
    refine lc_listD (xs := ls.map iV) (ls.map fun x => iD (x / 2)) (noLs_f _) (by rw [List.length_map, List.length_map]) (by rw [List.length_map]; omega) (SqL.of (s5b _ _ el35)) nDc (fun i v d H9 Q9 hx hd s9 q9 => ?_) (fun H9 cv s9 eDc dpC => ?_)
    · obtain ⟨z, ez, rfl⟩ := ivs_at hx
      rw [List.getElem?_map, ez] at hd
      cases hd
      exact ⟨rfl, _, rfl, _, _, rfl, rfl, ⟨by decide, by decide⟩, q9 _ _ (Same.refl _) (.int _)⟩
    refine ⟨Dc, _, rfl, .inl ⟨SqL.of eDc, fun tc ntc => ?_⟩⟩
    have sc : Same H9 (upd H9 tc (.tup cv)) := Same.up ntc
    have etc : (upd H9 tc (.tup cv)) tc = some (.tup cv) := upd_same
    generalize upd H9 tc (.tup cv) = Hc at sc etc
    have sbc := s9.trans sc
    refine ⟨_, rfl, l4, _, rfl, .inl ⟨SqL.of ((s5b.trans sbc) _ _ el45), fun td ntd => ?_⟩⟩
    have sd : Same Hc (upd Hc td (.tup (os.map iV))) := Same.up ntd
    have etd : (upd Hc td (.tup (os.map iV))) td = some (.tup (os.map iV)) := upd_same
    generalize upd Hc td (.tup (os.map iV)) = Hd at sd etd
    refine ⟨line200 (show 4 ≤ 1000 by decide), fun tn ntn => ?_⟩
    have sn : Same Hd (upd Hd tn (.tup [.ref ta, .ref tb, .ref tc, .ref td])) := Same.up ntn
    have etn : (upd Hd tn (.tup [.ref ta, .ref tb, .ref tc, .ref td])) tn = some (.tup [.ref ta, .ref tb, .ref tc, .ref td]) := upd_same
    generalize upd Hd tn (.tup [.ref ta, .ref tb, .ref tc, .ref td]) = Hn at sn etn
    have scn := sc.trans (sd.trans sn)
    have sbn := s9.trans scn
    have s5n := s5b.trans sbn
    have dN : Dp K Hn (.ref tn) (netOf ls as os) :=
      .tup (SqT.of etn) (.cons (.tup (SqT.of ((sb.trans sbn) _ _ eta)) (dps_stay (same_tup (sb.trans sbn)) _ _ dpA2 (noLs_f _)))
        (.cons (.tup (SqT.of (sbn _ _ etb)) (dps_stay (same_tup s5n) _ _ dpf lea.2.2.2.1))
        (.cons (.tup (SqT.of ((sd.trans sn) _ _ etc)) (dps_stay (same_tup scn) _ _ dpC (noLs_f _)))
        (.cons (.tup (SqT.of (sn _ _ etd)) (ofs_dps _)) .nil))))
    have k1n := kp_trans k15 (Same.kp s5n)
    have bxn : Bx Hn b r q4 := s5n _ _ bx5
    have gdN := gd_netOf (ls := ls) (as := as) (os := os) (by omega) (by omega) (by omega) lea.2.2.2.2
    have noN : noL (netOf ls as os) = true := (gd_ok 3 _ gdN).1
    refine ⟨_, rfl, b, _, rfl, bxn.at', _, rfl, r, _, rfl, .inl (SqL.of (rowAt k1n)), rfl, _, rfl, ?_⟩
    rw [List.length_map]
    by_cases hq : q4 = row.length
    · refine iteT' (decide_eq_true (by rw [hq])) ?_
      refine ⟨_, rfl, .ref tn, netOf ls as os, 3, rfl, dN, gdN, by decide, fun ds eds es hes => ?_, fun Hk sk => ⟨_, rfl, ?_⟩⟩
      · cases eds
        simp only [List.mem_cons, List.mem_nil_iff, or_false] at hes
        rcases hes with z | z | z | z <;> cases z
        · rw [List.length_map]; omega
        · omega
        · rw [List.length_map]; omega
        · rw [List.length_map]; omega
      · cases hn : netB (netOf ls as os) with
        | true =>
          refine iteT ⟨_, rfl, ?_⟩
          have e9 : dueD row = netOf ls as os := by
            have : readD row = some (netOf ls as os) := by
              rw [eR4]
              exact if_pos ⟨hq, hn⟩
            unfold dueD
            rw [this]
          refine q Hk (.ref tn) (sm (kp_trans k1n (Same.kp sk))) ?_
          rw [e9]
          exact dp_stay (same_tup sk) _ _ dN noN
        | false =>
          refine iteF ?_
          refine qN ?_ Hk (kp_trans k1n (Same.kp sk))
          rw [eR4]
          exact if_neg fun z => by rw [hn] at z; cases z.2
    · refine iteF' (decide_eq_false (fun z => hq (by have := V.int.inj z; omega))) (iteF ?_)
      refine qN ?_ Hn k1n
      rw [eR4]
      exact if_neg fun z => hq z.1
end
end C1

/-! Rows bent by the law: runs of high bytes stay short. -/
namespace C1
open PySem PySem.Spec PyProof.Rows L2 SX
abbrev sLawBent : Stmt := topS 28
theorem scLawBent : FnScope ["w", "row", "turned", "turn", "way", "at", "k"] ["w", "row"] (defScope sLawBent) := ⟨rfl, rfl, rfl, by decide +kernel, rfl, by decide +kernel, by decide +kernel⟩
abbrev NLB : List Str := ["w", "row", "turned", "turn", "way", "at", "k"]
def gH : List Nat → Int
  | [] => 0
  | b :: r => (if 128 ≤ b then 1 else -1) + gH r
theorem gH_app : ∀ x y : List Nat, gH (x ++ y) = gH x + gH y
  | [], y => by
    show gH y = 0 + gH y
    omega
  | b :: x, y => by
    show (if 128 ≤ b then (1 : Int) else -1) + gH (x ++ y) = (if 128 ≤ b then (1 : Int) else -1) + gH x + gH y
    rw [gH_app x y]
    omega
theorem gH_one {m : List Nat} (h : m.length ≤ 1) : -1 ≤ gH m ∧ gH m ≤ 1 := by
  match m, h with
  | [], _ => exact ⟨by decide, by decide⟩
  | [b], _ =>
    show -1 ≤ (if 128 ≤ b then (1 : Int) else -1) + 0 ∧ (if 128 ≤ b then (1 : Int) else -1) + 0 ≤ 1
    by_cases hb : 128 ≤ b
    · rw [if_pos hb]
      omega
    · rw [if_neg hb]
      omega
theorem gH_hi : ∀ {l : List Nat}, hiL l → gH l = l.length
  | [], _ => rfl
  | b :: r, h => by
    have hb := h b (List.mem_cons_self ..)
    show (if 128 ≤ b then (1 : Int) else -1) + gH r = ((r.length + 1 : Nat) : Int)
    rw [if_pos hb, gH_hi (l := r) fun x hx => h x (List.mem_cons_of_mem _ hx)]
    omega
/-- high bytes outnumber low ones by no more than d, anywhere -/
def Dn (d : Int) (l : List Nat) : Prop := ∀ p e : Nat, p ≤ e → e ≤ l.length → gH (l.take e) ≤ gH (l.take p) + d
theorem Dn.up {d d' : Int} {l : List Nat} (h : Dn d l) (hd : d ≤ d') : Dn d' l := fun p e h1 h2 => by
  have := h p e h1 h2
  omega
theorem Dn.runs {l : List Nat} (h : Dn 7 l) : Runs 7 l := fun p i hpi hh => by
  have h1 := h p (p + i) (by omega) hpi
  have e : l.take (p + i) = l.take p ++ (l.drop p).take i := List.take_add
  rw [e, gH_app, gH_hi hh, List.length_take, List.length_drop] at h1
  omega
theorem Dn.cut {d : Int} {l : List Nat} (h : Dn d l) (j : Nat) : Dn d (l.take j) := fun p e h1 h2 => by
  rw [List.length_take] at h2
  have := h p e h1 (by omega)
  rw [List.take_take, List.take_take, Nat.min_eq_left (show e ≤ j by omega), Nat.min_eq_left (show p ≤ j by omega)]
  exact this
theorem Dn.edit {d : Int} {x m m' y : List Nat} (h : Dn d (x ++ (m ++ y))) (hd : 0 ≤ d) (hm : m.length ≤ 1) (hm' : m'.length ≤ 1) : Dn (d + 2) (x ++ (m' ++ y)) := by
  have g1 := gH_one hm
  have g2 := gH_one hm'
  have low : ∀ (k : Nat) (z : List Nat), k ≤ x.length → (x ++ z).take k = x.take k := fun k z hk => by
    rw [List.take_append_of_le_length hk]
  have high : ∀ (z : List Nat) (j : Nat), gH ((x ++ (z ++ y)).take (x.length + (z.length + j))) = gH x + (gH z + gH (y.take j)) := fun z j => by
    rw [List.take_length_add_append, List.take_length_add_append, gH_app, gH_app]
  intro p e hpe he
  rw [List.length_append, List.length_append] at he
  by_cases h1 : e ≤ x.length
  · have := h p e hpe (by rw [List.length_append]; omega)
    rw [low e _ h1, low p _ (by omega)] at this
    rw [low e _ h1, low p _ (by omega)]
    omega
  · obtain ⟨j, rfl⟩ : ∃ j, e = x.length + (m'.length + j) := ⟨e - x.length - m'.length, by omega⟩
    rw [high m' j]
    by_cases h2 : p ≤ x.length
    · have := h p (x.length + (m.length + j)) (by omega) (by rw [List.length_append, List.length_append]; omega)
      rw [high m j, low p _ h2] at this
      rw [low p _ h2]
      omega
    · obtain ⟨i, rfl⟩ : ∃ i, p = x.length + (m'.length + i) := ⟨p - x.length - m'.length, by omega⟩
      have := h (x.length + (m.length + i)) (x.length + (m.length + j)) (by omega) (by rw [List.length_append, List.length_append]; omega)
      rw [high m j, high m i] at this
      rw [high m' i]
      omega
theorem Dn_nil : Dn 1 [] := fun p e _ _ => by
  rw [List.take_nil, List.take_nil]
  decide
theorem Dn_lo {b : Nat} {l : List Nat} (h : Dn 1 l) (hb : b < 128) : Dn 1 (b :: l) := fun p e h1 h2 => by
  have gc : ∀ z, gH (b :: z) = -1 + gH z := fun z => by
    show (if 128 ≤ b then (1 : Int) else -1) + gH z = _
    rw [if_neg (by omega)]
  match p, e with
  | 0, 0 => exact (by decide : (0 : Int) ≤ 0 + 1)
  | 0, e + 1 =>
    have := h 0 e (Nat.zero_le _) (by have : e + 1 ≤ l.length + 1 := h2; omega)
    show gH (b :: l.take e) ≤ 0 + 1
    rw [gc]
    have z : gH (l.take 0) = 0 := rfl
    omega
  | p + 1, e + 1 =>
    have := h p e (by omega) (by have : e + 1 ≤ l.length + 1 := h2; omega)
    show gH (b :: l.take e) ≤ gH (b :: l.take p) + 1
    rw [gc, gc]
    omega
theorem Dn_hl {a b : Nat} {l : List Nat} (h : Dn 1 l) (ha : 128 ≤ a) (hb : b < 128) : Dn 1 (a :: b :: l) := fun p e h1 h2 => by
  have ga : ∀ z, gH (a :: z) = 1 + gH z := fun z => by
    show (if 128 ≤ a then (1 : Int) else -1) + gH z = _
    rw [if_pos ha]
  have gb : ∀ z, gH (b :: z) = -1 + gH z := fun z => by
    show (if 128 ≤ b then (1 : Int) else -1) + gH z = _
    rw [if_neg (by omega)]
  have g0 : gH [] = 0 := rfl
  have z : gH (l.take 0) = 0 := rfl
  match p, e with
  | 0, 0 => exact (by decide : (0 : Int) ≤ 0 + 1)
  | 0, 1 =>
    show gH [a] ≤ 0 + 1
    rw [ga, g0]
    omega
  | 1, 1 =>
    show gH [a] ≤ gH [a] + 1
    omega
  | 0, e + 2 =>
    have := h 0 e (Nat.zero_le _) (by have : e + 2 ≤ l.length + 2 := h2; omega)
    show gH (a :: b :: l.take e) ≤ 0 + 1
    rw [ga, gb]
    omega
  | 1, e + 2 =>
    have := h 0 e (Nat.zero_le _) (by have : e + 2 ≤ l.length + 2 := h2; omega)
    show gH (a :: b :: l.take e) ≤ gH [a] + 1
    rw [ga, gb, ga, g0]
    omega
  | p + 2, e + 2 =>
    have := h p e (by omega) (by have : e + 2 ≤ l.length + 2 := h2; omega)
    show gH (a :: b :: l.take e) ≤ gH (a :: b :: l.take p) + 1
    rw [ga, gb, ga, gb]
    omega
theorem Dn_bytes : ∀ {ns : List Nat}, (∀ n ∈ ns, n < 16384) → Dn 1 (bytesA ns)
  | [], _ => Dn_nil
  | n :: ns, h => by
    have e : bytesA (n :: ns) = bN n ++ bytesA ns := List.flatMap_cons
    have ih := Dn_bytes (ns := ns) fun x hx => h x (List.mem_cons_of_mem _ hx)
    have hn := h n (List.mem_cons_self ..)
    rw [e]
    by_cases h1 : n < 128
    · have eb : bN n = [n] := if_pos h1
      rw [eb]
      exact Dn_lo ih h1
    · have eb : bN n = [n % 128 + 128, n / 128] := by
        have e1 : bN n = (n % 128 + 128) :: bytesN 8 (n / 128) := if_neg h1
        have e2 : bytesN 8 (n / 128) = [n / 128] := if_pos (by omega)
        rw [e1, e2]
      rw [eb]
      exact Dn_hl ih (by omega) (by omega)
theorem row_bytes {ns : List Nat} (h : ∀ n ∈ ns, n < 16384) : Bytes (bytesA ns) := fun b hb => by
  obtain ⟨n, hn, hb⟩ := List.mem_flatMap.mp hb
  exact bytesN_lt (Nat.lt_trans (h n hn) (by decide)) b hb
theorem cut_to (xs : List V) (j : Nat) : cutV xs none (some ((j : Nat) : Int)) = xs.take j := by
  unfold cutV
  rw [HT.sIx_none, HT.sIx_nat, Nat.sub_zero, List.drop_zero]
  by_cases h : j ≤ xs.length
  · rw [Nat.min_eq_left h]
  · rw [Nat.min_eq_right (by omega), List.take_of_length_le (Nat.le_refl _), List.take_of_length_le (by omega)]
theorem cut_from (xs : List V) (i : Nat) : cutV xs (some ((i : Nat) : Int)) none = xs.drop i := by
  unfold cutV
  rw [HT.sIx_none, HT.sIx_nat]
  by_cases h : i ≤ xs.length
  · rw [Nat.min_eq_left h, List.take_of_length_le (by rw [List.length_drop]; exact Nat.le_refl _)]
  · rw [Nat.min_eq_right (by omega), List.drop_of_length_le (Nat.le_refl _), List.drop_of_length_le (by omega), List.take_nil]
theorem cut_at1 (xs : List V) (i : Nat) (h : i ≤ xs.length) : cutV xs (some ((i : Nat) : Int)) (some (((i : Nat) : Int) + 1)) = (xs.drop i).take 1 := by
  unfold cutV
  rw [show ((i : Nat) : Int) + 1 = ((i + 1 : Nat) : Int) by omega, HT.sIx_nat, HT.sIx_nat, Nat.min_eq_left h]
  by_cases h2 : i + 1 ≤ xs.length
  · rw [Nat.min_eq_left h2, show i + 1 - i = 1 by omega]
  · rw [Nat.min_eq_right (by omega), List.drop_of_length_le (by omega), List.take_nil, List.take_nil]
theorem cut_from1 (xs : List V) (i : Nat) : cutV xs (some (((i : Nat) : Int) + 1)) none = xs.drop (i + 1) := by
  rw [show ((i : Nat) : Int) + 1 = ((i + 1 : Nat) : Int) by omega]
  exact cut_from xs (i + 1)
theorem three_parts (l : List Nat) (i : Nat) : l.take i ++ ((l.drop i).take 1 ++ l.drop (i + 1)) = l := by
  rw [← List.drop_drop, List.take_append_drop, List.take_append_drop]
def pickN : List Nat := [0, 128, 127, 255, 1]
section
variable {P : Program} {w : World} {K : PySem.W.Frag} {mg : Str → Option Value} {base : Heap}
theorem glue2 {H : Hp} {t s3 : Addr} {cur B D : List Nat} {j : Int} {Q : VK} (et : H t = some (.lst (cur.map iV))) (e3 : H s3 = some (.lst (B.map iV))) (hc : cutV (cur.map iV) (some j) none = D.map iV) (hl : B.length + D.length ≤ 1000)
    (h : ∀ H' s5, Same H H' → H' s5 = some (.lst ((B ++ D).map iV)) → Q (.ref s5) H') : rSlL K (.ref t) (some j) none H fun y H2 => rCat (.ref s3) y H2 Q := by
  refine ⟨t, _, rfl, SqL.of et, fun s4 n4 => ?_⟩
  rw [hc]
  have s : Same H (upd H s4 (.lst (D.map iV))) := Same.up n4
  refine ⟨s3, s4, _, _, rfl, rfl, s _ _ e3, upd_same, line200 (by rw [List.length_map, List.length_map]; exact hl), fun s5 n5 => h _ s5 (s.trans (Same.up n5)) ?_⟩
  rw [upd_same, List.map_append]
theorem lc_mid {Hs : Hp} {sK D a l : Addr} {ds : List Int} {xs : List V} {te : TE} {σ : L2.St} {wv : List Nat} {j : Nat} {Qd : Hp → Prop} (hx : xs.length ≤ 1) (eK : Hs sK = some (.lst xs)) (W : Wd Hs a l ds) (nD : Hs D = none)
    (hte : ∀ x H' R, Kp a Hs H' → Wd H' a l ds → (∀ c H'', c < 256 → Kp a H' H'' → Wd H'' a l ds → R (iV c) H'') → te ((wipe σ wv).set j (some x)) H' R) (hσ : ∀ x, wipe ((wipe σ wv).set j (some x)) wv = wipe σ wv)
    (q : ∀ H' ms, Kp a Hs H' → Wd H' a l ds → ms.length ≤ 1 → Bytes ms → H' D = some (.lst (ms.map iV)) → Qd H') :
    ∃ W : Nat → Nat → Hp → Prop, (∃ m, W 0 m (upd Hs D (.lst []))) ∧ ∀ i m H, W i m H →
      ((Itl K sK).stop i H ∧ Qd H) ∨ ((Itl K sK).go i H ∧ ∃ Nx : Hp → Prop, (∀ H', Nx H' → ∃ m', m' < m ∧ W (i + 1) m' H') ∧ ∀ x H', (Itl K sK).yld i H x H' → gName j x (wipe σ wv) H' fun σ2 H2 => wipe σ2 wv = wipe σ wv ∧ tYes σ2 H2 fun b H3 =>
        if b = true then te σ2 H3 fun y H4 => ∃ acc, H4 D = some (.lst acc) ∧ acc.length < sizeLine ∧ Nx (upd H4 D (.lst (acc ++ [y]))) else Nx H3) := by
  have nKa : sK ≠ a := wd_lne W eK
  have nDa : D ≠ a := W.fresh nD
  refine lc_list (xs := xs) (fun i H' => ∃ ms : List Nat, ms.length = i ∧ Bytes ms ∧ Kp a Hs H' ∧ Wd H' a l ds ∧ H' D = some (.lst (ms.map iV)) ∧ i ≤ xs.length) ⟨[], rfl, (fun x hx => by cases hx), Kp.new nD, W.new nD, upd_same, Nat.zero_le _⟩ (fun i H' _ h => ?_) (fun i x H' hxi h => ?_) (fun H' h => ?_)
  · obtain ⟨_, _, _, k, _, _⟩ := h
    exact SqL.of (k _ _ nKa eK)
  · obtain ⟨ms, lm, bm, k, W1, eD, _⟩ := h
    have hi := (List.getElem?_eq_some_iff.mp hxi).1
    refine ⟨hσ x, hte x H' _ k W1 fun c H'' hc k2 W2 => ?_⟩
    refine ⟨_, k2 _ _ nDa eD, lineS200 (by rw [List.length_map]; omega), ms ++ [c], by rw [List.length_append, lm]; rfl, ?_, kp_new (kp_trans k k2) nD, ?_, ?_, hi⟩
    · intro z hz
      rcases List.mem_append.mp hz with hz | hz
      · exact bm z hz
      · rw [List.mem_singleton.mp hz]
        exact hc
    · obtain ⟨n, n0, e⟩ := W2.at'
      refine ⟨⟨n, n0, by rw [upd_ne nDa.symm]; exact e⟩, ?_, W2.len⟩
      rw [upd_ne (ne_of_none W.dr nD)]
      exact W2.dr
    · rw [upd_same, List.map_append]
      rfl
  · obtain ⟨ms, lm, bm, k, W1, eD, _⟩ := h
    exact q H' ms k W1 (by omega) bm eD
theorem pick_at {H : Hp} {v : V} {d : PyData} (dv : Dp K H v d) (hd : d ∈ pickN.map iD) : ∃ c, c < 256 ∧ v = iV c := by
  obtain ⟨c, hc, rfl⟩ := List.mem_map.mp hd
  refine ⟨c, ?_, by cases dv; rfl⟩
  have : ∀ c ∈ pickN, c < 256 := by decide
  exact this c hc
def spBent (K : PySem.W.Frag) : Sp := fun vs H Q _ => ∃ (a l p : Addr) (ds : List Int) (row : List Nat), vs = [.ref a, .ref p] ∧ Wd H a l ds ∧ H p = some (.lst (row.map iV)) ∧ row.length ≤ 390 ∧ Bytes row ∧ Dn 1 row ∧
  ∀ (H' : Hp) (p' : Addr) (row' : List Nat), Kp a H H' → Wd H' a l ds → H' p' = some (.lst (row'.map iV)) → row'.length ≤ 400 → Bytes row' → Runs 7 row' → Q (.ref p') H'
theorem ok_bent {f fN fP : Addr} {fd fdN fdP : FuncData} (F : Fun K "_law_bent" "_law_bent" sLawBent f fd) (B : BV mg)
    (GN : FnOk P w K mg base CX0 1 fN fdN ["w", "many"] spNext) (kN : PySem.W.keepIn K (.ref fN) = true) (bN : Binds K fdN ["w", "many"] []) (gN : mg "_law_next" = some (.ref fN))
    (GP : FnOk P w K mg base CX0 2 fP fdP ["w", "rows"] (spPick K)) (kP : PySem.W.keepIn K (.ref fP) = true) (bP : Binds K fdP ["w", "rows"] []) (gP : mg "_law_pick" = some (.ref fP)) :
    FnOk P w K mg base CX0 3 f fd ["w", "row"] (spBent K) := by
  refine F.ok scLawBent (fun vs H Q E h => ?_) (fun cdv A outer s H vs Q E hr h => ?_)
  · obtain ⟨a, l, p, ds, row, rfl, _⟩ := h
    rfl
  · obtain ⟨a, l, p, ds, row, rfl, W, er, hl, hb, hd, q⟩ := h
    have nd := scLawBent.nd
    have hr2 : Room 2 _ := hr
    have hr1 : Room 1 _ := hr.mono (by decide)
    refine ⟨_, (pss_cons (ps_set (i := 2) nd rfl (.inl rfl) (pe_callTy call_list_of (by rfl) B.list (by decide +kernel) (pa_cons (pv 1) pa_nil)))
      (C8.pss_cut (ps_for PassesOwn.never rfl (pi_range1 (by rfl) B.range (pa_cons (pe_op op_add (pe_int) (pe_call GN hr1 (by rfl) gN kN bN .nil pass0 (pa_cons (pv 0) (pa_cons (pe_int) pa_nil)))) pa_nil)) (pg_name (i := 3) nd rfl (.inl rfl)) (pss_cons (ps_set (i := 4) nd rfl (.inl rfl) (pe_call GN hr1 (by rfl) gN kN bN .nil pass0 (pa_cons (pv 0) (pa_cons (pe_int) pa_nil))))
      (pss_cons (ps_set (i := 5) nd rfl (.inl rfl) (pe_call GN hr1 (by rfl) gN kN bN .nil pass0 (pa_cons (pv 0) (pa_cons (pe_op op_add (pe_callB call_len_seq (by rfl) B.len PySem.boot_len (pa_cons (pv 2) pa_nil)) (pe_int)) pa_nil))))
      (pss_one (ps_if (pt_cmpR op_eq (pv 4) (pe_int) (nomark _)) (pss_one (ps_set (i := 2) nd rfl (.inl rfl) (pe_op op_cat (pe_op op_cat (pe_slice sl_list (pv 2) po_none (po_some (pv 5))) (pe_lst (pa_cons (pe_call GN hr1 (by rfl) gN kN bN .nil pass0 (pa_cons (pv 0) (pa_cons (pe_int) pa_nil))) pa_nil))) (pe_slice sl_list (pv 2) (po_some (pv 5)) po_none)))) (pss_one (ps_if (pt_cmpR op_eq (pv 4) (pe_int) (nomark _)) (pss_one (ps_set (i := 2) nd rfl (.inl rfl) (pe_op op_cat (pe_slice sl_list (pv 2) po_none (po_some (pv 5))) (pe_slice sl_list (pv 2) (po_some (pe_op op_add (pv 5) (pe_int))) po_none)))) (pss_one (ps_if (pt_cmpR op_eq (pv 4) (pe_int) (nomark _)) (pss_one (ps_set (i := 2) nd rfl (.inl rfl) (pe_op op_cat (pe_op op_cat (pe_slice sl_list (pv 2) po_none (po_some (pv 5))) (pe_lc (own := [("k", 6)]) (g := gName 6) (tt := tYes) (te := tCall (spPick K) [] E0 (tCons (tVar 0) (tCons (tLst (tCons (tC (.int 0)) (tCons (tC (.int 128)) (tCons (tC (.int 127)) (tCons (tC (.int 255)) (tCons (tC (.int 1)) tNil)))))) tNil)))  rfl nd (pi_list (pe_slice sl_list (pv 2) (po_some (pv 5)) (po_some (pe_op op_add (pv 5) (pe_int))))) (blkOk_by (own := [("k", 6)]) (N := NLB) (sc := defScope sLawBent) (by decide +kernel)) (fun _ _ _ _ _ => pg_name (i := 6) nd rfl (.inl rfl)) (fun _ _ _ _ _ => pts_nil) (fun _ _ _ _ _ => by exact (pe_call GP hr2 (by rfl) gP kP bP .nil pass0 (pa_cons (pv 0) (pa_cons (pe_lst (pa_cons (pe_int) (pa_cons (pe_int) (pa_cons (pe_int) (pa_cons (pe_int) (pa_cons (pe_int) pa_nil)))))) pa_nil)))))) (pe_slice sl_list (pv 2) (po_some (pe_op op_add (pv 5) (pe_int))) po_none)))) (pss_one (ps_if (pt_cmpR op_eq (pv 4) (pe_int) (nomark _)) (pss_one (ps_set (i := 2) nd rfl (.inl rfl) (pe_op op_cat (pe_op op_cat (pe_slice sl_list (pv 2) po_none (po_some (pv 5))) (pe_lc (own := [("k", 6)]) (g := gName 6) (tt := tYes) (te := tCall spNext [] E0 (tCons (tVar 0) (tCons (tC (.int 16)) tNil)))  rfl nd (pi_list (pe_slice sl_list (pv 2) (po_some (pv 5)) (po_some (pe_op op_add (pv 5) (pe_int))))) (blkOk_by (own := [("k", 6)]) (N := NLB) (sc := defScope sLawBent) (by decide +kernel)) (fun _ _ _ _ _ => pg_name (i := 6) nd rfl (.inl rfl)) (fun _ _ _ _ _ => pts_nil) (fun _ _ _ _ _ => by exact (pe_call GN hr1 (by rfl) gN kN bN .nil pass0 (pa_cons (pv 0) (pa_cons (pe_int) pa_nil)))))) (pe_slice sl_list (pv 2) (po_some (pe_op op_add (pv 5) (pe_int))) po_none)))) (pss_one (ps_set (i := 2) nd rfl (.inl rfl) (pe_slice sl_list (pv 2) po_none (po_some (pe_op op_sub (pe_callB call_len_seq (by rfl) B.len PySem.boot_len (pa_cons (pv 2) pa_nil)) (pe_call GN hr1 (by rfl) gN kN bN .nil pass0 (pa_cons (pv 0) (pa_cons (pe_int) pa_nil)))))))))))))))))))
      (pss_one (ps_ret (pv 2))))), ?_⟩
    refine ⟨_, rfl, p, _, rfl, .inl (SqL.of er), fun t0 nt0 => ?_⟩
    have k0 : Kp a H (upd H t0 (.lst (row.map iV))) := Kp.new nt0
    have W0 := W.new nt0 (o := .lst (row.map iV))
    have e0 : (upd H t0 (.lst (row.map iV))) t0 = some (.lst (row.map iV)) := upd_same
    generalize upd H t0 (.lst (row.map iV)) = H0 at k0 W0 e0
    refine ⟨fun σ H1 => ∃ (y3 y4 y5 : Option V) (t : Addr) (cur : List Nat), σ = [some (.ref a), some (.ref p), some (.ref t), y3, y4, y5, none] ∧ Kp a H H1 ∧ Wd H1 a l ds ∧ H1 t = some (.lst (cur.map iV)) ∧ cur.length ≤ 393 ∧ Bytes cur ∧ Dn 7 cur, ?_, ?_⟩
    · refine ⟨_, rfl, a, l, ds, 3, rfl, by decide, W0, fun n0 H1 hn0 k1 _ W1 => ?_⟩
      refine ⟨_, _, rfl, rfl, _, rfl, by omega, by omega, ?_⟩
      rw [show ((1 : Int) + ((n0 : Nat) : Int)).toNat = 1 + n0 by omega]
      have nt0a : t0 ≠ a := wd_lne W0 e0
      refine for_range (n := 1 + n0) (fun i σ H1 => ∃ (y3 y4 y5 : Option V) (t : Addr) (cur : List Nat), σ = [some (.ref a), some (.ref p), some (.ref t), y3, y4, y5, none] ∧ Kp a H H1 ∧ Wd H1 a l ds ∧ H1 t = some (.lst (cur.map iV)) ∧ cur.length ≤ 390 + i ∧ Bytes cur ∧ Dn (1 + 2 * ((i : Nat) : Int)) cur)
        ⟨none, none, none, t0, row, rfl, k0.trans k1, W1, k1 _ _ nt0a e0, hl, hb, hd.up (by omega)⟩ (fun i σ H2 hi h => ?_) (fun σ H2 h => ?_)
      · obtain ⟨y3, y4, y5, t, cur, rfl, k2, W2, e2, l2, b2, d2⟩ := h
        refine ⟨_, rfl, a, l, ds, 5, rfl, by decide, W2, fun wy H3 hwy k3 _ W3 => ?_⟩
        have nta : t ≠ a := wd_lne W2 e2
        have e3 := k3 _ _ nta e2
        refine ⟨_, rfl, _, rfl, t, _, rfl, .inl (SqL.of e3), _, _, rfl, rfl, ?_⟩
        rw [List.length_map]
        refine ⟨a, l, ds, _, rfl, by omega, W3, fun at0 H4 hat k4 _ W4 => ?_⟩
        have hat0 : at0 ≤ cur.length := by omega
        have e4 := k4 _ _ nta e3
        have k24 := (k2.trans k3).trans k4
        have fin : ∀ (y3 y4 y5 : Option V) (H5 : Hp) (t' : Addr) (cur' : List Nat), Kp a H H5 → Wd H5 a l ds → H5 t' = some (.lst (cur'.map iV)) → cur'.length ≤ cur.length + 1 → Bytes cur' → Dn (1 + 2 * ((i : Nat) : Int) + 2) cur' →
            ∃ (z3 z4 z5 : Option V) (t'' : Addr) (cur'' : List Nat), [some (V.ref a), some (V.ref p), some (V.ref t'), y3, y4, y5, none] = [some (V.ref a), some (V.ref p), some (V.ref t''), z3, z4, z5, none] ∧ Kp a H H5 ∧ Wd H5 a l ds ∧ H5 t'' = some (.lst (cur''.map iV)) ∧ cur''.length ≤ 390 + (i + 1) ∧ Bytes cur'' ∧ Dn (1 + 2 * ((i + 1 : Nat) : Int)) cur'' := fun y3 y4 y5 H5 t' cur' k5 W5 e5 l5 b5 d5 =>
          ⟨y3, y4, y5, t', cur', rfl, k5, W5, e5, by omega, b5, d5.up (by omega)⟩
        have bT : Bytes (cur.take at0) := fun x hx => b2 x (List.mem_of_mem_take hx)
        have bD : ∀ j, Bytes (cur.drop j) := fun j x hx => b2 x (List.mem_of_mem_drop hx)
        have bApp : ∀ {x y : List Nat}, Bytes x → Bytes y → Bytes (x ++ y) := fun {x y} h1 h2 z hz => (List.mem_append.mp hz).elim (h1 z) (h2 z)
        have nn : (0 : Int) ≤ 1 + 2 * ((i : Nat) : Int) := by omega
        -- the first part of a turned row
        have part : ∀ (H5 : Hp) (Qx : VK), H5 t = some (.lst (cur.map iV)) → (∀ s1, H5 s1 = none → Qx (.ref s1) (upd H5 s1 (.lst ((cur.take at0).map iV)))) → rSlL K (.ref t) none (some ((at0 : Nat) : Int)) H5 Qx := fun H5 Qx e h => ⟨t, _, rfl, SqL.of e, fun s1 n1 => by
          rw [cut_to, ← List.map_take]
          exact h s1 n1⟩
        have lT : (cur.take at0).length ≤ cur.length := by rw [List.length_take]; omega
        have lTD : (cur.take at0).length + (cur.drop at0).length = cur.length := by rw [List.length_take, List.length_drop]; omega
        have lTD1 : (cur.take at0).length + (cur.drop (at0 + 1)).length ≤ cur.length := by rw [List.length_take, List.length_drop]; omega
        have c0 : cutV (cur.map iV) (some ((at0 : Nat) : Int)) none = (cur.drop at0).map iV := by rw [cut_from, List.map_drop]
        have c1 : cutV (cur.map iV) (some (((at0 : Nat) : Int) + 1)) none = (cur.drop (at0 + 1)).map iV := by rw [cut_from1, List.map_drop]
        have cK : cutV (cur.map iV) (some ((at0 : Nat) : Int)) (some (((at0 : Nat) : Int) + 1)) = ((cur.drop at0).take 1).map iV := by rw [cut_at1 _ _ (by rw [List.length_map]; exact hat0), List.map_take, List.map_drop]
        have l1 : ((cur.drop at0).take 1).length ≤ 1 := by rw [List.length_take]; omega
        have three := three_parts cur at0
        have dEd : ∀ {m' : List Nat}, m'.length ≤ 1 → Dn (1 + 2 * ((i : Nat) : Int) + 2) (cur.take at0 ++ m' ++ cur.drop (at0 + 1)) := fun {m'} hm => by
          rw [List.append_assoc]
          refine Dn.edit (m := (cur.drop at0).take 1) ?_ nn l1 hm
          rw [three]
          exact d2
        -- the tail of a turn that puts a middle part
        have ends : ∀ (y3 y4 y5 : Option V) (H6 : Hp) (s1 s2 : Addr) (ms : List Nat) (R : VK), Kp a H H6 → Wd H6 a l ds → H6 t = some (.lst (cur.map iV)) → H6 s1 = some (.lst ((cur.take at0).map iV)) → H6 s2 = some (.lst (ms.map iV)) → ms.length ≤ 1 →
            (∀ H7 s3, Same H6 H7 → H7 s3 = some (.lst ((cur.take at0 ++ ms).map iV)) → R (.ref s3) H7) → rCat (.ref s1) (.ref s2) H6 R := fun y3 y4 y5 H6 s1 s2 ms R k6 W6 e6 f1 f2 hm h =>
          ⟨s1, s2, _, _, rfl, rfl, f1, f2, line200 (by rw [List.length_map, List.length_map]; omega), fun s3 n3 => h _ s3 (Same.up n3) (by rw [upd_same, List.map_append])⟩
        refine ⟨_, rfl, rfl, _, rfl, ?_⟩
        by_cases w0 : wy = 0
        · refine iteT' (decide_eq_true (by rw [w0]; rfl)) ?_
          refine ⟨_, rfl, _, rfl, _, rfl, part H4 _ e4 fun s1 n1 => ?_⟩
          have S1 : Same H4 (upd H4 s1 (.lst ((cur.take at0).map iV))) := Same.up n1
          have f1 : (upd H4 s1 (.lst ((cur.take at0).map iV))) s1 = some (.lst ((cur.take at0).map iV)) := upd_same
          generalize upd H4 s1 (.lst ((cur.take at0).map iV)) = H5 at S1 f1
          have W5 := W4.same S1
          refine ⟨_, rfl, a, l, ds, 256, rfl, by decide, W5, fun c H6 hc k6 _ W6 => ?_⟩
          have f16 := k6 _ _ (wd_lne W5 f1) f1
          have e6 := k6 _ _ nta (S1 _ _ e4)
          refine ⟨line200 (show 1 ≤ 1000 by decide), fun s2 n2 => ?_⟩
          have S2 : Same H6 (upd H6 s2 (.lst [iV c])) := Same.up n2
          have k7 := ((k24.trans (Same.kp S1)).trans k6).trans (Same.kp S2)
          refine ends y3 y4 y5 _ s1 s2 [c] _ k7 (W6.same S2) (S2 _ _ e6) (S2 _ _ f16) upd_same (Nat.le_refl _) fun H7 s3 S3 f3 => ?_
          refine ⟨_, rfl, _, rfl, _, rfl, glue2 (S3 _ _ (S2 _ _ e6)) f3 c0 (by rw [List.length_append]; show (cur.take at0).length + 1 + _ ≤ 1000; omega) fun H8 s5 S4 f5 => ?_⟩
          refine fin _ _ _ H8 s5 (cur.take at0 ++ [c] ++ cur.drop at0) (k7.trans (Same.kp (S3.trans S4))) (W6.same (S2.trans (S3.trans S4))) f5 (by rw [List.length_append, List.length_append]; show (cur.take at0).length + 1 + _ ≤ _; omega) (bApp (bApp bT fun x hx => by rw [List.mem_singleton.mp hx]; omega) (bD _)) ?_
          rw [List.append_assoc]
          refine Dn.edit (m := []) (m' := [c]) ?_ nn (Nat.zero_le _) (Nat.le_refl _)
          rw [List.nil_append, List.take_append_drop]
          exact d2
        refine iteF' (decide_eq_false (fun z => w0 (by have := V.int.inj z; omega))) ?_
        refine ⟨_, rfl, rfl, _, rfl, ?_⟩
        by_cases w1 : wy = 1
        · refine iteT' (decide_eq_true (by rw [w1]; rfl)) ?_
          refine ⟨_, rfl, _, rfl, _, rfl, part H4 _ e4 fun s1 n1 => ?_⟩
          have S1 : Same H4 (upd H4 s1 (.lst ((cur.take at0).map iV))) := Same.up n1
          have f1 : (upd H4 s1 (.lst ((cur.take at0).map iV))) s1 = some (.lst ((cur.take at0).map iV)) := upd_same
          generalize upd H4 s1 (.lst ((cur.take at0).map iV)) = H5 at S1 f1
          refine ⟨_, rfl, _, rfl, _, _, rfl, rfl, _, rfl, glue2 (S1 _ _ e4) f1 c1 (by omega) fun H8 s5 S4 f5 => ?_⟩
          refine fin _ _ _ H8 s5 (cur.take at0 ++ cur.drop (at0 + 1)) (k24.trans (Same.kp (S1.trans S4))) (W4.same (S1.trans S4)) f5 (by rw [List.length_append]; omega) (bApp bT (bD _)) ?_
          have := dEd (m' := []) (Nat.zero_le _)
          rw [List.append_nil] at this
          exact this
        refine iteF' (decide_eq_false (fun z => w1 (by have := V.int.inj z; omega))) ?_
        refine ⟨_, rfl, rfl, _, rfl, ?_⟩
        by_cases w2 : wy = 2
        · refine iteT' (decide_eq_true (by rw [w2]; rfl)) ?_
          refine ⟨_, rfl, _, rfl, _, rfl, part H4 _ e4 fun s1 n1 => ?_⟩
          have S1 : Same H4 (upd H4 s1 (.lst ((cur.take at0).map iV))) := Same.up n1
          have f1 : (upd H4 s1 (.lst ((cur.take at0).map iV))) s1 = some (.lst ((cur.take at0).map iV)) := upd_same
          generalize upd H4 s1 (.lst ((cur.take at0).map iV)) = H5 at S1 f1
          refine ⟨_, rfl, _, rfl, _, rfl, _, rfl, _, _, rfl, rfl, _, rfl, t, _, rfl, SqL.of (S1 _ _ e4), fun sK nK => ?_⟩
          rw [cK]
          have SK : Same H5 (upd H5 sK (.lst (((cur.drop at0).take 1).map iV))) := Same.up nK
          have fK : (upd H5 sK (.lst (((cur.drop at0).take 1).map iV))) sK = some (.lst (((cur.drop at0).take 1).map iV)) := upd_same
          generalize upd H5 sK (.lst (((cur.drop at0).take 1).map iV)) = H6 at SK fK
          have W6 := W4.same (S1.trans SK)
          have f16 := SK _ _ f1
          have e6 := SK _ _ (S1 _ _ e4)
          refine ⟨sK, rfl, ⟨_, SqL.of fK⟩, fun D nD => ?_⟩
          refine lc_mid (by rw [List.length_map]; exact l1) fK W6 nD (fun x H7 R k7 W7 h => ?_) (fun _ => rfl) (fun H7 ms k7 W7 lm bm eD => ?_)
          · refine ⟨_, rfl, line200 (show 5 ≤ 1000 by decide), fun lr nlr => ?_⟩
            refine ⟨a, l, lr, ds, _, pickN.map iD, rfl, W7.new nlr, upd_same, ofs_dps pickN, noLs_int _, by decide, fun H8 v d k8 W8 dv hd => ?_⟩
            obtain ⟨c, hc, rfl⟩ := pick_at dv hd
            exact h c H8 hc ((Kp.new nlr).trans k8) W8
          · have f17 := k7 _ _ (wd_lne W6 f16) f16
            have e7 := k7 _ _ nta e6
            have k17 := (k24.trans (Same.kp (S1.trans SK))).trans k7
            refine ends y3 y4 y5 _ s1 D ms _ k17 W7 e7 f17 eD lm fun H8 s3 S3 f3 => ?_
            refine ⟨_, rfl, _, rfl, _, _, rfl, rfl, _, rfl, glue2 (S3 _ _ e7) f3 c1 (by rw [List.length_append]; omega) fun H9 s5 S4 f5 => ?_⟩
            exact fin _ _ _ H9 s5 (cur.take at0 ++ ms ++ cur.drop (at0 + 1)) (k17.trans (Same.kp (S3.trans S4))) (W7.same (S3.trans S4)) f5 (by rw [List.length_append, List.length_append]; omega) (bApp (bApp bT bm) (bD _)) (dEd lm)
        refine iteF' (decide_eq_false (fun z => w2 (by have := V.int.inj z; omega))) ?_
        refine ⟨_, rfl, rfl, _, rfl, ?_⟩
        by_cases w3 : wy = 3
        · refine iteT' (decide_eq_true (by rw [w3]; rfl)) ?_
          refine ⟨_, rfl, _, rfl, _, rfl, part H4 _ e4 fun s1 n1 => ?_⟩
          have S1 : Same H4 (upd H4 s1 (.lst ((cur.take at0).map iV))) := Same.up n1
          have f1 : (upd H4 s1 (.lst ((cur.take at0).map iV))) s1 = some (.lst ((cur.take at0).map iV)) := upd_same
          generalize upd H4 s1 (.lst ((cur.take at0).map iV)) = H5 at S1 f1
          refine ⟨_, rfl, _, rfl, _, rfl, _, rfl, _, _, rfl, rfl, _, rfl, t, _, rfl, SqL.of (S1 _ _ e4), fun sK nK => ?_⟩
          rw [cK]
          have SK : Same H5 (upd H5 sK (.lst (((cur.drop at0).take 1).map iV))) := Same.up nK
          have fK : (upd H5 sK (.lst (((cur.drop at0).take 1).map iV))) sK = some (.lst (((cur.drop at0).take 1).map iV)) := upd_same
          generalize upd H5 sK (.lst (((cur.drop at0).take 1).map iV)) = H6 at SK fK
          have W6 := W4.same (S1.trans SK)
          have f16 := SK _ _ f1
          have e6 := SK _ _ (S1 _ _ e4)
          refine ⟨sK, rfl, ⟨_, SqL.of fK⟩, fun D nD => ?_⟩
          refine lc_mid (by rw [List.length_map]; exact l1) fK W6 nD (fun x H7 R k7 W7 h => ?_) (fun _ => rfl) (fun H7 ms k7 W7 lm bm eD => ?_)
          · exact ⟨_, rfl, a, l, ds, 16, rfl, by decide, W7, fun c H8 hc k8 _ W8 => h c H8 (by omega) k8 W8⟩
          · have f17 := k7 _ _ (wd_lne W6 f16) f16
            have e7 := k7 _ _ nta e6
            have k17 := (k24.trans (Same.kp (S1.trans SK))).trans k7
            refine ends y3 y4 y5 _ s1 D ms _ k17 W7 e7 f17 eD lm fun H8 s3 S3 f3 => ?_
            refine ⟨_, rfl, _, rfl, _, _, rfl, rfl, _, rfl, glue2 (S3 _ _ e7) f3 c1 (by rw [List.length_append]; omega) fun H9 s5 S4 f5 => ?_⟩
            exact fin _ _ _ H9 s5 (cur.take at0 ++ ms ++ cur.drop (at0 + 1)) (k17.trans (Same.kp (S3.trans S4))) (W7.same (S3.trans S4)) f5 (by rw [List.length_append, List.length_append]; omega) (bApp (bApp bT bm) (bD _)) (dEd lm)
        refine iteF' (decide_eq_false (fun z => w3 (by have := V.int.inj z; omega))) ?_
        refine ⟨_, rfl, _, rfl, t, _, rfl, .inl (SqL.of e4), _, rfl, a, l, ds, 3, rfl, by decide, W4, fun c H5 hc k5 _ W5 => ?_⟩
        have e5 := k5 _ _ nta e4
        refine ⟨_, _, rfl, rfl, _, rfl, t, _, rfl, SqL.of e5, fun s5 n5 => ?_⟩
        rw [List.length_map]
        obtain ⟨j, ej⟩ : ∃ j, cutV (cur.map iV) none (some (((cur.length : Nat) : Int) - ((c : Nat) : Int))) = (cur.take j).map iV := ⟨_, by
          unfold cutV
          rw [HT.sIx_none, List.drop_zero, ← List.map_take]⟩
        rw [ej]
        exact fin _ _ _ _ s5 (cur.take j) ((k24.trans k5).trans (Kp.new n5)) (W5.new n5) upd_same (by rw [List.length_take]; omega) (fun x hx => b2 x (List.mem_of_mem_take hx)) ((d2.cut j).up (by omega))
      · obtain ⟨y3, y4, y5, t, cur, rfl, k2, W2, e2, l2, b2, d2⟩ := h
        exact ⟨y3, y4, y5, t, cur, rfl, k2, W2, e2, by omega, b2, d2.up (by omega)⟩
    rintro σ H1 ⟨y3, y4, y5, t, cur, rfl, k1, W1, e1, l1, b1, d1⟩
    exact ⟨_, rfl, q H1 t cur k1 W1 e1 (by omega) b1 d1.runs⟩
end
end C1

/-! What the law is told of a row. -/
namespace C1
open PySem PySem.Spec PyProof.Rows L2 SX
theorem pss_cls2 {X : Cx} {sts : List Stmt} {t : TS} {cls : Value} {C : Addr} {d : Option Addr} (h : cls = .ref C → d = none → PSs X sts t) : PSs X sts (fun D σ H => (cls = .ref C ∧ d = none) ∧ t D σ H) :=
  ⟨fun pins s σ H D I q => (h q.1.1 q.1.2).run pins s σ H D I q.2⟩
abbrev sLawTold : Stmt := topS 29
theorem scLawTold : FnScope ["row", "e"] ["row"] (defScope sLawTold) := ⟨rfl, rfl, rfl, by decide +kernel, rfl, by decide +kernel, by decide +kernel⟩
abbrev sufN (K : PySem.W.Frag) (CB : Addr) : K0T.Suite := fun a cls d => fun D σ H => (cls = .ref CB ∧ d = none) ∧ tRet (tIf (tB (tCB (rIsE K CB a) (tCons (tVar 1) (tCons (tC (.ref CB)) tNil)))) (tC .non) (tC (.str "else"))) D σ H
section
variable {P : Program} {w : World} {K : PySem.W.Frag} {mg : Str → Option Value} {base : Heap} {C CB : Addr}
theorem ok_told {f fR CC : Addr} {fd fdR : FuncData} (F : Fun K "_law_told" "_law_told" sLawTold f fd) (X : ExcC K CB) (T : RdT K mg C CB) (gC : mg "CutError" = some (.ref CC)) (B : Gp mg)
    (GR : FnOk P w K mg base (L2.CX P w) 3 fR fdR ["row"] (spRead K CB)) (kR : PySem.W.keepIn K (.ref fR) = true) (bR : Binds K fdR ["row"] []) (gR : mg "read_net" = some (.ref fR))
    (e1 : PySem.W.exmOne K (.ref CB) (.ref CC) = some true) (i1 : PySem.W.kitOne K (.ref CB) (.ref CB) = some true) :
    FnOk P w K mg base CX0 4 f fd ["row"] (spLRead K) := by
  refine F.ok scLawTold (fun vs H Q E h => ?_) (fun cdv A outer s H vs Q E hr h => ?_)
  · obtain ⟨r, row, rfl, _⟩ := h
    rfl
  · obtain ⟨r, row, rfl, er, hl, hb, hrun, q⟩ := h
    have nd := scLawTold.nd
    have hr3 : Room 3 _ := hr
    refine ⟨_, (pss_one (K0T.ps_try_ases (i := 1) (tb := fun W => tRet (tCallS (spRead K CB) (WE W) (tCons (tVar 0) tNil))) (Wo := fun _ _ _ _ => False) rfl rfl nd rfl rfl takes0 (fun W pn xe tk _ => pss_one (ps_ret (by exact (pe_callS GR hr3 (by rfl) gR kR bR (fun σ => passAt tk σ) (by exact (pa_cons (pv 0) pa_nil)))))) (.cons (ts := sufN K CB) ⟨rfl, by decide, .inl gC⟩ (fun a oe cls d pn hz hf => by exact (pss_cls2 (C := CB) fun hcls hd => (pss_one (ps_ret (pe_ifExp (pt_val (pe_callB (call_isE X (hcls ▸ hd ▸ hz) hf) (by rfl) B.isi (by decide +kernel) (pa_cons (pv 1) (pa_cons (pe_glob (v := .ref CB) (by rfl) T.gB rfl) pa_nil)))) pe_non pe_str))))) .nil))), ?_⟩
    refine ⟨_, rfl, r, row, rfl, er, hl, hb, small_of_runs hrun, fun e H1 s1 => ?_, fun d ed H1 v s1 dv => ?_⟩
    · refine ⟨true, e1, fun _ ax nax => ⟨⟨rfl, rfl⟩, ?_⟩, fun z => nomatch z⟩
      refine ⟨_, rfl, .ref CB, .ref CB, true, rfl, (fun u h => h), i1, _, rfl, iteT ?_⟩
      exact q H1 .non s1 (by rw [due_none e]; exact .non)
    · refine q H1 v s1 ?_
      have : dueD row = d := by
        unfold dueD
        rw [ed]
      rw [this]
      exact dv
end
end C1

/-! A net's row, read back. -/
namespace C1
open PySem PySem.Spec PyProof.Rows L2 SX
theorem andsB_ok (L : Nat) : ∀ (ps : List (Nat × Nat)) (k : Nat), (∀ (j : Nat) (p : Nat × Nat), ps[j]? = some p → p.1 < 2 * (1 + L + (k + j)) ∧ p.2 < 2 * (1 + L + (k + j))) → andsB L k (ps.map pr) = true
  | [], _, _ => rfl
  | p :: ps, k, h => by
    have h0 := h 0 p rfl
    have hr := andsB_ok L ps (k + 1) fun j q hq => by
      have := h (j + 1) q hq
      omega
    have e : andB ((2 * (1 + L + k) : Nat) : Int) (pr p) = true := by
      show (decide (2 = 2) && ([iD p.1, iD p.2].all fun x => isI x 0 ((2 * (1 + L + k) : Nat) : Int))) = true
      show (true && ((decide ((0 : Int) ≤ ((p.1 : Nat) : Int)) && decide (((p.1 : Nat) : Int) < ((2 * (1 + L + k) : Nat) : Int))) && ((decide ((0 : Int) ≤ ((p.2 : Nat) : Int)) && decide (((p.2 : Nat) : Int) < ((2 * (1 + L + k) : Nat) : Int))) && true))) = true
      rw [decide_eq_true (by omega), decide_eq_true (by omega), decide_eq_true (by omega), decide_eq_true (by omega)]
      rfl
    show (andB _ (pr p) && andsB L (k + 1) (ps.map pr)) = true
    rw [e, hr]
    rfl
theorem ints_below {m : List Nat} {b : Nat} (h : ∀ x ∈ m, x < b) : ∀ d ∈ m.map iD, isI d 0 ((b : Nat) : Int) = true := fun d hd => by
  obtain ⟨k, hk, rfl⟩ := List.mem_map.mp hd
  have := h k hk
  show (decide ((0 : Int) ≤ ((k : Nat) : Int)) && decide (((k : Nat) : Int) < ((b : Nat) : Int))) = true
  rw [decide_eq_true (by omega), decide_eq_true (by omega)]
  rfl
theorem net_true {n : Net} (h : NetOk n) : netB n.d = true := by
  show (decide ((n.nexts.map iD).length = (n.firsts.map iD).length) && ((n.firsts.map iD).all fun x => isI x 0 2) && andsB (n.firsts.map iD).length 0 (n.ands.map pr) && ((n.nexts.map iD ++ n.outs.map iD).all fun x => isI x 0 ((2 * (1 + (n.firsts.map iD).length + (n.ands.map pr).length) : Nat) : Int))) = true
  rw [List.length_map, List.length_map, List.length_map]
  have e1 : ((n.firsts.map iD).all fun x => isI x 0 2) = true := List.all_eq_true.mpr (ints_below h.fb)
  rw [decide_eq_true h.nl, e1, andsB_ok _ _ 0 (fun j p hp => by rw [Nat.zero_add]; exact h.ao j p hp)]
  rw [List.all_eq_true.mpr fun d hd => (List.mem_append.mp hd).elim (ints_below h.no d) (ints_below h.oo d)]
  rfl
theorem takeP_bytes {xs ys : List Nat} {n : Nat} (hn : n < 128 ^ 10) : takeP (bytesA (xs ++ n :: ys)) (bytesA xs).length = some (n, (bytesA (xs ++ [n])).length) := by
  have e : bytesA (xs ++ n :: ys) = bytesA xs ++ (bN n ++ bytesA ys) := by
    show (xs ++ n :: ys).flatMap bN = _
    rw [List.flatMap_append, List.flatMap_cons]
    rfl
  unfold takeP
  rw [e, List.drop_left, numL_bytes hn, bytesA_snoc, List.length_append]
theorem takesP_bytes {pre ms post : List Nat} (h : ∀ x ∈ ms, x < 128 ^ 10) : ∀ i, i ≤ ms.length → takesP (bytesA (pre ++ (ms ++ post))) i (bytesA pre).length = some (ms.take i, (bytesA (pre ++ ms.take i)).length)
  | 0, _ => by
    rw [List.take_zero, List.append_nil]
    rfl
  | i + 1, hi => by
    have ih := takesP_bytes (pre := pre) (post := post) h i (by omega)
    obtain ⟨x, ex⟩ : ∃ x, ms[i]? = some x := ⟨_, List.getElem?_eq_getElem (by omega)⟩
    have hx := h x (List.mem_of_getElem? ex)
    have es : pre ++ (ms ++ post) = (pre ++ ms.take i) ++ x :: (ms.drop (i + 1) ++ post) := by
      have e2 : ms.drop i = x :: ms.drop (i + 1) := by
        obtain ⟨h1, h2⟩ := List.getElem?_eq_some_iff.mp ex
        rw [List.drop_eq_getElem_cons h1, h2]
      rw [List.append_assoc]
      congr 1
      rw [← List.cons_append, ← e2, ← List.append_assoc, List.take_append_drop]
    have st := takeP_bytes (xs := pre ++ ms.take i) (ys := ms.drop (i + 1) ++ post) hx
    rw [← es] at st
    rw [takesP_some ih st, take_snoc ex, List.append_assoc]
theorem takes_all {pre ms post : List Nat} (h : ∀ x ∈ ms, x < 128 ^ 10) : takesP (bytesA (pre ++ (ms ++ post))) ms.length (bytesA pre).length = some (ms, (bytesA (pre ++ ms)).length) := by
  have := takesP_bytes (pre := pre) (post := post) h ms.length (Nat.le_refl _)
  rw [List.take_length] at this
  exact this
theorem andsP_bytes {L : Nat} {pre : List Nat} {ps : List (Nat × Nat)} (hs : ∀ (k : Nat) (p : Nat × Nat), ps[k]? = some p → p.1 < 2 * (1 + L + k) ∧ p.2 < 2 * (1 + L + k)) (hL : L ≤ 90) (hl : ps.length ≤ 20) : ∀ i, i ≤ ps.length →
    andsP (bytesA (pre ++ andsNums L 0 ps)) L i (bytesA pre).length = some ((ps.take i).map pr, (bytesA (pre ++ andsNums L 0 (ps.take i))).length)
  | 0, _ => by
    rw [List.take_zero]
    show some ([], (bytesA pre).length) = some ([], (bytesA (pre ++ [])).length)
    rw [List.append_nil]
  | i + 1, hi => by
    have ih := andsP_bytes (pre := pre) hs hL hl i (by omega)
    obtain ⟨p, ep⟩ : ∃ p, ps[i]? = some p := ⟨_, List.getElem?_eq_getElem (by omega)⟩
    have hp := hs i p ep
    have sn := andsNums_snoc (L := L) (ps.take i) 0 p
    rw [← take_snoc ep, List.length_take, Nat.min_eq_left (by omega), Nat.zero_add] at sn
    have app : ∀ (qs rs : List (Nat × Nat)) (k : Nat), ∃ t, andsNums L k (qs ++ rs) = andsNums L k qs ++ t := fun qs => by
      induction qs with
      | nil => exact fun rs k => ⟨_, rfl⟩
      | cons a qs ih =>
        intro rs k
        obtain ⟨t, et⟩ := ih rs (k + 1)
        exact ⟨t, by show _ :: _ :: andsNums L (k + 1) (qs ++ rs) = _ :: _ :: (andsNums L (k + 1) qs ++ t); rw [et]⟩
    obtain ⟨t, et⟩ := app (ps.take (i + 1)) (ps.drop (i + 1)) 0
    rw [List.take_append_drop, sn] at et
    obtain ⟨u1, e1⟩ : ∃ u, u = 2 * (1 + L + i) - 1 - p.1 := ⟨_, rfl⟩
    obtain ⟨u2, e2⟩ : ∃ u, u = 2 * (1 + L + i) - 1 - p.2 := ⟨_, rfl⟩
    rw [← e1, ← e2] at sn et
    have big : ∀ u, u ≤ 1000 → u < 128 ^ 10 := fun u hu => Nat.lt_of_le_of_lt hu (by decide)
    have row1 : pre ++ andsNums L 0 ps = (pre ++ andsNums L 0 (ps.take i)) ++ u1 :: (u2 :: t) := by
      rw [et, List.append_assoc, List.append_assoc]
      rfl
    have row2 : pre ++ andsNums L 0 ps = (pre ++ andsNums L 0 (ps.take i) ++ [u1]) ++ u2 :: t := by
      rw [row1, List.append_assoc (pre ++ andsNums L 0 (ps.take i))]
      rfl
    have st1 := takeP_bytes (xs := pre ++ andsNums L 0 (ps.take i)) (ys := u2 :: t) (big u1 (by omega))
    have st2 := takeP_bytes (xs := pre ++ andsNums L 0 (ps.take i) ++ [u1]) (ys := t) (big u2 (by omega))
    rw [← row1] at st1
    rw [← row2] at st2
    rw [andsP_step ih, st1]
    show (match takeP (bytesA (pre ++ andsNums L 0 ps)) (bytesA (pre ++ andsNums L 0 (ps.take i) ++ [u1])).length with
      | none => none
      | some (b, q2) => some ((ps.take i).map pr ++ [andD L i u1 b], q2)) = _
    rw [st2]
    show some ((ps.take i).map pr ++ [andD L i u1 u2], (bytesA (pre ++ andsNums L 0 (ps.take i) ++ [u1] ++ [u2])).length) = _
    have ed : andD L i u1 u2 = pr p := by
      show PyData.tuple [.int _, .int _] = PyData.tuple [.int _, .int _]
      rw [show ((2 * (1 + L + i) : Nat) : Int) - 1 - ((u1 : Nat) : Int) = ((p.1 : Nat) : Int) by omega, show ((2 * (1 + L + i) : Nat) : Int) - 1 - ((u2 : Nat) : Int) = ((p.2 : Nat) : Int) by omega]
    rw [ed, take_snoc ep, List.map_append, ← take_snoc ep, sn, List.append_assoc (pre ++ andsNums L 0 (ps.take i)), List.append_assoc pre]
    rfl
theorem row_back {n : Net} (h : NetSm n) : readD (netRow n) = some n.d := by
  have hl := h.l
  have ha := h.a
  have ho := h.o
  have lts := netNums_lt h
  have big : ∀ {x : Nat}, x ∈ netNums n → x < 128 ^ 10 := fun {x} hx => Nat.lt_trans (lts x hx) (by decide)
  have r0 : netNums n = [] ++ (headNums n ++ (latNums n ++ (n.outs ++ andsNums n.firsts.length 0 n.ands))) := rfl
  have t0 := takes_all (pre := []) (ms := headNums n) (post := latNums n ++ (n.outs ++ andsNums n.firsts.length 0 n.ands)) fun x hx => big (List.mem_append_left _ hx)
  have t1 := takes_all (pre := headNums n) (ms := latNums n) (post := n.outs ++ andsNums n.firsts.length 0 n.ands) fun x hx => big (List.mem_append_right _ (List.mem_append_left _ hx))
  have t2 := takes_all (pre := headNums n ++ latNums n) (ms := n.outs) (post := andsNums n.firsts.length 0 n.ands) fun x hx => big (List.mem_append_right _ (List.mem_append_right _ (List.mem_append_left _ hx)))
  have t3 := andsP_bytes (L := n.firsts.length) (pre := headNums n ++ latNums n ++ n.outs) (ps := n.ands) h.ok.ao hl ha n.ands.length (Nat.le_refl _)
  rw [List.take_length] at t3
  have e2 : headNums n ++ latNums n ++ (n.outs ++ andsNums n.firsts.length 0 n.ands) = netNums n := by
    unfold netNums
    rw [List.append_assoc]
  have e3 : headNums n ++ latNums n ++ n.outs ++ andsNums n.firsts.length 0 n.ands = netNums n := by
    unfold netNums
    rw [List.append_assoc, List.append_assoc]
  rw [e2] at t2
  rw [e3] at t3
  rw [lat_len h.ok] at t1
  unfold readD netRow
  have t0' : takesP (bytesA (netNums n)) 3 0 = some ([n.firsts.length, n.ands.length, n.outs.length], (bytesA (headNums n)).length) := t0
  rw [t0']
  show latsD (bytesA (netNums n)) n.firsts.length n.ands.length n.outs.length (bytesA (headNums n)).length = _
  unfold latsD
  have t1' : takesP (bytesA (netNums n)) n.firsts.length (bytesA (headNums n)).length = some (latNums n, (bytesA (headNums n ++ latNums n)).length) := t1
  rw [t1']
  show outsD (bytesA (netNums n)) (latNums n) n.firsts.length n.ands.length n.outs.length (bytesA (headNums n ++ latNums n)).length = _
  unfold outsD
  rw [t2]
  show andsD (bytesA (netNums n)) (latNums n) n.outs n.firsts.length n.ands.length (bytesA (headNums n ++ latNums n ++ n.outs)).length = _
  unfold andsD
  rw [t3]
  show endD (bytesA (netNums n)) (netOf (latNums n) (n.ands.map pr) n.outs) (bytesA (netNums n)).length = _
  have ed : netOf (latNums n) (n.ands.map pr) n.outs = n.d := by
    have hnl := h.ok.nl
    have a1 : (latNums n).map (fun x => iD (x % 2)) = n.firsts.map iD := by
      have : (n.firsts.zip n.nexts).map Prod.fst = n.firsts := List.map_fst_zip (by omega)
      unfold latNums
      rw [List.map_map]
      conv => rhs; rw [← this, List.map_map]
      refine List.map_congr_left fun p hp => ?_
      have := h.ok.fb _ (List.of_mem_zip hp).1
      show PyData.int (((2 * p.2 + p.1) % 2 : Nat) : Int) = PyData.int ((p.1 : Nat) : Int)
      rw [show (2 * p.2 + p.1) % 2 = p.1 by omega]
    have a2 : (latNums n).map (fun x => iD (x / 2)) = n.nexts.map iD := by
      have : (n.firsts.zip n.nexts).map Prod.snd = n.nexts := List.map_snd_zip (by omega)
      unfold latNums
      rw [List.map_map]
      conv => rhs; rw [← this, List.map_map]
      refine List.map_congr_left fun p hp => ?_
      have := h.ok.fb _ (List.of_mem_zip hp).1
      show PyData.int (((2 * p.2 + p.1) / 2 : Nat) : Int) = PyData.int ((p.2 : Nat) : Int)
      rw [show (2 * p.2 + p.1) / 2 = p.2 by omega]
    unfold netOf Net.d
    rw [a1, a2]
  rw [ed]
  exact if_pos ⟨rfl, net_true h.ok⟩
theorem read_gd {row : List Nat} (hl : row.length ≤ 400) {d : PyData} (e : readD row = some d) : gd 3 d = true ∧ netB d = true ∧ ∀ ds, d = .tuple ds → ∀ es, .tuple es ∈ ds → es.length ≤ 400 := by
  unfold readD at e
  split at e
  · rename_i l a o q0 et
    have le0 := takesP_le (Nat.zero_le _) et
    unfold latsD at e
    split at e
    · cases e
    · rename_i ls q2 e1
      have le1 := takesP_le le0.2.2 e1
      unfold outsD at e
      split at e
      · cases e
      · rename_i os q3 e2
        have le2 := takesP_le le1.2.2 e2
        unfold andsD at e
        split at e
        · cases e
        · rename_i as q4 e3
          have le3 := andsP_le le2.2.2 e3
          unfold endD at e
          split at e
          · rename_i hq
            cases e
            refine ⟨gd_netOf (by omega) (by omega) (by omega) le3.2.2.2.2, hq.2, fun ds eds es hes => ?_⟩
            cases eds
            simp only [List.mem_cons, List.mem_nil_iff, or_false] at hes
            rcases hes with z | z | z | z <;> cases z
            · rw [List.length_map]; omega
            · omega
            · rw [List.length_map]; omega
            · rw [List.length_map]; omega
          · cases e
  · cases e
theorem due_gd {row : List Nat} (hl : row.length ≤ 400) : noL (dueD row) = true ∧ SeqAt.shaped (dueD row) = true := by
  unfold dueD
  cases e : readD row with
  | none =>
    refine ⟨rfl, ?_⟩
    unfold SeqAt.shaped
    simp [PyData.canLay0, PyData.depth]
  | some d =>
    obtain ⟨a, b, c⟩ := gd_ok 3 d (read_gd hl e).1
    exact ⟨a, gd_shaped (read_gd hl e).1 (by decide)⟩
end C1

/-! The law. -/
namespace C1
open PySem PySem.Spec PyProof.Rows L2 SX
abbrev sLaw : Stmt := topS 30
theorem scLaw : FnScope ["script", "w", "latches", "ands", "net", "row", "turn", "bent", "due", "handed", "told", "one"] ["script"] (defScope sLaw) := ⟨rfl, rfl, rfl, by decide +kernel, rfl, by decide +kernel, by decide +kernel⟩
abbrev NLW : List Str := ["script", "w", "latches", "ands", "net", "row", "turn", "bent", "due", "handed", "told", "one"]
theorem wd_merge2 (l : Addr) : mergeK [] [(Sum.inr ("draws" : Str), V.ref l), (Sum.inr ("at" : Str), V.int 0)] = wdL l 0 := by
  have h1 : ¬ (Sum.inr ("draws" : Str) : Key) = Sum.inr ("at" : Str) := by decide
  unfold mergeK wdL
  simp [putK, h1]
theorem Wd.sm {a l : Addr} {ds : List Int} {H H' : Hp} (W : Wd H a l ds) (s : Same H H') : Wd H' a l ds := by
  obtain ⟨n, n0, e⟩ := W.at'
  exact ⟨⟨n, n0, s _ _ e⟩, s _ _ W.dr, W.len⟩
theorem ints_lay (ks : List Nat) : LayAll (ks.map iD) := fun d hd => by
  obtain ⟨k, _, rfl⟩ := List.mem_map.mp hd
  exact ⟨rfl, Nat.zero_le _⟩
theorem ints_shaped (ks : List Nat) : SeqAt.shaped (.list (ks.map iD)) = true := shaped_list _ (ints_lay ks)
def lsN : List Nat := [0, 1, 2, 3, 4, 5, 5, 70]
section
variable {P : Program} {w : World} {K : PySem.W.Frag} {mg : Str → Option Value} {base : Heap}
theorem lsD {H : Hp} {l : Addr} {ks : List Nat} (e : H l = some (.lst (ks.map iV))) : Dp K H (.ref l) (.list (ks.map iD)) := .lst (SqL.of e) (ofs_dps ks)
def spLaw (K : PySem.W.Frag) : Sp := fun vs H Q _ => ∃ (a : Addr) (ns : List Int), vs = [.ref a] ∧ SqL K H a (ns.map V.int) ∧ ns.length ≤ 63 ∧ ∀ H', Q (.bl true) H'
theorem ok_law {f fD fN fY fC fL fP fT fB fR fK fI : Addr} {fd fdD fdN fdY fdC fdL fdP fdT fdB fdR fdK fdI : FuncData} (F : Fun K "law" "law" sLaw f fd) (G : Gp mg) (B : BV mg)
    (GD : FnOk P w K mg base CX0 1 fD fdD ["script", "many"] (spDraws K)) (kD : PySem.W.keepIn K (.ref fD) = true) (bD : Binds K fdD ["script", "many"] []) (gD : mg "_law_draws" = some (.ref fD))
    (GN : FnOk P w K mg base CX0 1 fN fdN ["w", "many"] spNext) (kN : PySem.W.keepIn K (.ref fN) = true) (bN : Binds K fdN ["w", "many"] []) (gN : mg "_law_next" = some (.ref fN))
    (GY : FnOk P w K mg base CX0 2 fY fdY ["w", "rows"] (spPick K)) (kY : PySem.W.keepIn K (.ref fY) = true) (bY : Binds K fdY ["w", "rows"] []) (gY : mg "_law_pick" = some (.ref fY))
    (GC : FnOk P w K mg base CX0 3 fC fdC ["w", "latches", "ands", "outs"] (spDrawn K)) (kC : PySem.W.keepIn K (.ref fC) = true) (bC : Binds K fdC ["w", "latches", "ands", "outs"] []) (gC : mg "_law_net" = some (.ref fC))
    (GL : FnOk P w K mg base CX0 2 fL fdL ["net"] (spWrite K)) (kL : PySem.W.keepIn K (.ref fL) = true) (bL : Binds K fdL ["net"] []) (gL : mg "_law_row" = some (.ref fL))
    (GP : FnOk P w K mg base CX0 2 fP fdP ["net"] (spWrite K)) (kP : PySem.W.keepIn K (.ref fP) = true) (bP : Binds K fdP ["net"] []) (gP : mg "write_net" = some (.ref fP))
    (GT : FnOk P w K mg base CX0 4 fT fdT ["row"] (spLRead K)) (kT : PySem.W.keepIn K (.ref fT) = true) (bT : Binds K fdT ["row"] []) (gT : mg "_law_told" = some (.ref fT))
    (GB : FnOk P w K mg base CX0 3 fB fdB ["w", "row"] (spBent K)) (kB : PySem.W.keepIn K (.ref fB) = true) (bB : Binds K fdB ["w", "row"] []) (gB : mg "_law_bent" = some (.ref fB))
    (GR : FnOk P w K mg base CX0 3 fR fdR ["row"] (spLRead K)) (kR : PySem.W.keepIn K (.ref fR) = true) (bR : Binds K fdR ["row"] []) (gR : mg "_law_read" = some (.ref fR))
    (GK : FnOk P w K mg base CX0 2 fK fdK ["thing"] (spIsNet K)) (kK : PySem.W.keepIn K (.ref fK) = true) (bK : Binds K fdK ["thing"] []) (gK : mg "_law_is_net" = some (.ref fK))
    (GI : FnOk P w K mg base CX0 1 fI fdI ["thing", "most"] (spIsN K)) (kI : PySem.W.keepIn K (.ref fI) = true) (bI : Binds K fdI ["thing", "most"] []) (gI : mg "_law_is_number" = some (.ref fI)) :
    FnOk P w K mg base CX0 5 f fd ["script"] (spLaw K) := by
  refine F.ok scLaw (fun vs H Q E h => ?_) (fun cdv A outer s H vs Q E hr h => ?_)
  · obtain ⟨a, ns, rfl, _⟩ := h
    rfl
  · obtain ⟨a, ns, rfl, hS, hlen, q⟩ := h
    have nd := scLaw.nd
    have hr4 : Room 4 _ := hr
    have hr3 : Room 3 _ := hr.mono (by decide)
    have hr2 : Room 2 _ := hr.mono (by decide)
    have hr1 : Room 1 _ := hr.mono (by decide)
    have hu := hr.units
    refine ⟨_, (pss_cons (ps_set (i := 1) nd rfl (.inl rfl) (pe_disp (pps_cons (pe_str) (pe_call GD hr1 (by rfl) gD kD bD .nil pass0 (pa_cons (pv 0) (pa_cons (pe_int) pa_nil))) (pps_cons (pe_str) (pe_int) pps_nil)) rfl rfl (by intro z; cases z) (by decide)))
      (pss_cons (ps_set (i := 2) nd rfl (.inl rfl) (pe_call GY hr2 (by rfl) gY kY bY .nil pass0 (pa_cons (pv 1) (pa_cons (pe_lst (pa_cons (pe_int) (pa_cons (pe_int) (pa_cons (pe_int) (pa_cons (pe_int) (pa_cons (pe_int) (pa_cons (pe_int) (pa_cons (pe_int) (pa_cons (pe_int) pa_nil))))))))) pa_nil))))
      (pss_cons (ps_set (i := 3) nd rfl (.inl rfl) (pe_call GN hr1 (by rfl) gN kN bN .nil pass0 (pa_cons (pv 1) (pa_cons (pe_int) pa_nil))))
      (pss_cons (ps_set (i := 4) nd rfl (.inl rfl) (pe_call GC hr3 (by rfl) gC kC bC .nil pass0 (pa_cons (pv 1) (pa_cons (pv 2) (pa_cons (pv 3) (pa_cons (pe_call GN hr1 (by rfl) gN kN bN .nil pass0 (pa_cons (pv 1) (pa_cons (pe_int) pa_nil))) pa_nil))))))
      (pss_cons (ps_set (i := 5) nd rfl (.inl rfl) (pe_call GP hr2 (by rfl) gP kP bP .nil pass0 (pa_cons (pv 4) pa_nil)))
      (C8.pss_cut (ps_if (PW.pt (pw_or (pt_not (pt_val (pe_callB call_isi (by rfl) G.isi (by decide +kernel) (pa_cons (pv 5) (pa_cons (pe_bltn (v := .ty "list") (by rfl) B.list (by decide +kernel) rfl) pa_nil))))) (pw_or (pt_cmpR (op_neD hu) (pv 5) (pe_call GL hr2 (by rfl) gL kL bL .nil pass0 (pa_cons (pv 4) pa_nil)) (nomark _)) (pw_or1 (pt_cmpR (op_neD hu) (pe_lc (own := [("one", 11)]) (g := gName 11) (tt := tNot (tB (tCall (spIsN K) [] E0 (tCons (tVar 11) (tCons (tC (.int 256)) tNil))))) (te := tVar 11)  rfl nd (pi_list (pv 5)) (blkOk_by (own := [("one", 11)]) (N := NLW) (sc := defScope sLaw) (by decide +kernel)) (fun _ _ _ _ _ => pg_name (i := 11) nd rfl (.inl rfl)) (fun _ _ _ _ _ => pts_one (pt_not (pt_val (pe_call GI hr1 (by rfl) gI kI bI .nil pass0 (pa_cons (pv 11) (pa_cons (pe_int) pa_nil)))))) (fun _ _ _ _ _ => by exact (pv 11))) (pe_lst pa_nil) (nomark _)))))) (pss_one (ps_ret (pe_bl))) pss_nil)
      (C8.pss_cut (ps_if (PW.pt (pw_or (pt_cmpR (op_neD hu) (pe_call GT hr4 (by rfl) gT kT bT .nil pass0 (pa_cons (pe_callTy call_list_of (by rfl) B.list (by decide +kernel) (pa_cons (pv 5) pa_nil)) pa_nil)) (pv 4) (nomark _)) (pw_or1 (pt_not (pt_val (pe_call GK hr2 (by rfl) gK kK bK .nil pass0 (pa_cons (pe_call GT hr4 (by rfl) gT kT bT .nil pass0 (pa_cons (pe_callTy call_list_of (by rfl) B.list (by decide +kernel) (pa_cons (pv 5) pa_nil)) pa_nil)) pa_nil))))))) (pss_one (ps_ret (pe_bl))) pss_nil)
      (C8.pss_cut (ps_for PassesOwn.never rfl (pi_range1 (by rfl) B.range (pa_cons (pe_int) pa_nil)) (pg_name (i := 6) nd rfl (.inl rfl)) (pss_cons (ps_set (i := 7) nd rfl (.inl rfl) (pe_call GB hr3 (by rfl) gB kB bB .nil pass0 (pa_cons (pv 1) (pa_cons (pe_call GL hr2 (by rfl) gL kL bL .nil pass0 (pa_cons (pv 4) pa_nil)) pa_nil))))
      (pss_cons (ps_set (i := 8) nd rfl (.inl rfl) (pe_call GR hr3 (by rfl) gR kR bR .nil pass0 (pa_cons (pv 7) pa_nil)))
      (pss_cons (ps_set (i := 9) nd rfl (.inl rfl) (pe_callTy call_list_of (by rfl) B.list (by decide +kernel) (pa_cons (pv 7) pa_nil)))
      (pss_cons (ps_set (i := 10) nd rfl (.inl rfl) (pe_call GT hr4 (by rfl) gT kT bT .nil pass0 (pa_cons (pv 9) pa_nil)))
      (pss_one (ps_if (PW.pt (pw_or (pt_cmpR (op_neD hu) (pv 10) (pv 8) (nomark _)) (pw_or (pt_cmpR (op_neD hu) (pv 9) (pv 7) (nomark _)) (pw_or1 (PW.pt (pw_and (pt_cmpR op_notN (pv 10) (pe_non) (nomark _)) (pw_and1 (pt_not (pt_val (pe_call GK hr2 (by rfl) gK kK bK .nil pass0 (pa_cons (pv 10) pa_nil))))))))))) (pss_one (ps_ret (pe_bl))) pss_nil)))))))
      (pss_one (ps_ret (pe_bl))))))))))), ?_⟩
    refine fun wa nwa => ?_
    refine ⟨_, rfl, a, ns, 300, rfl, (same_new nwa).seq hS, hlen, by decide, fun H1 l ds s1 nl el lds => ?_⟩
    have hwa1 : H1 wa = some (.dK []) := s1 _ _ upd_same
    refine ⟨hwa1, [(.inr ("draws" : Str), .ref l), (.inr ("at" : Str), .int 0)], rfl, (by show 2 ≤ 15; decide), ?_⟩
    rw [wd_merge2]
    have nlw : l ≠ wa := fun z => by
      rw [z, upd_same] at nl
      cases nl
    have W : Wd (upd H1 wa (.dK (wdL l 0))) wa l ds := ⟨⟨0, Int.le_refl 0, upd_same⟩, by rw [upd_ne nlw]; exact el, lds⟩
    generalize upd H1 wa (.dK (wdL l 0)) = H2 at W
    -- latches, ands, net
    refine ⟨_, rfl, line200 (show 8 ≤ 1000 by decide), fun lp nlp => ?_⟩
    refine ⟨wa, l, lp, ds, _, lsN.map iD, rfl, W.new nlp, upd_same, ofs_dps lsN, noLs_int _, by decide, fun H3 v d k3 W3 dv hdv => ?_⟩
    obtain ⟨L, hL0, rfl⟩ := List.mem_map.mp hdv
    have hL : L ≤ 70 := (by decide : ∀ x ∈ lsN, x ≤ 70) L hL0
    obtain rfl : v = iV L := by
      cases dv
      rfl
    refine ⟨_, rfl, wa, l, ds, _, rfl, by decide, W3, fun A0 H4 hA k4 _ W4 => ?_⟩
    refine ⟨_, rfl, _, rfl, _, rfl, _, rfl, wa, l, ds, _, rfl, by decide, W4, fun O H5 hO k5 _ W5 => ?_⟩
    refine ⟨wa, l, ds, L, A0, O, rfl, by omega, by omega, by omega, W5, fun H6 p n k6 W6 ok l1 l2 l3 hp => ?_⟩
    have sm0 : NetSm n := ⟨ok, l1, l2, l3⟩
    have hback := row_back sm0
    have lts := netNums_lt sm0
    have hrl : (netRow n).length ≤ 310 := by
      have h1 := bytesA_le lts
      have h2 := netNums_len ok
      show (bytesA (netNums n)).length ≤ 310
      omega
    have hrb : Bytes (netRow n) := row_bytes lts
    have hrd : Dn 1 (netRow n) := Dn_bytes lts
    have hrr : Runs 7 (netRow n) := (hrd.up (by decide)).runs
    obtain ⟨gdn, hbn, lens⟩ := read_gd (by omega) hback
    have nln : noL n.d = true := (gd_ok 3 _ gdn).1
    have shn : SeqAt.shaped n.d = true := gd_shaped gdn (by decide)
    have eR : dueD (netRow n) = n.d := by
      unfold dueD
      rw [hback]
    -- row
    refine ⟨_, rfl, p, n, rfl, hp, sm0, fun H7 rl s7 nrl erl => ?_⟩
    have W7 := W6.sm s7
    have hp7 := dp_stay (same_tup s7) _ _ hp nln
    refine ⟨fun σ H' => σ = [some (.ref a), some (.ref wa), some (iV L), some (iV A0), some (.ref p), some (.ref rl), none, none, none, none, none, none] ∧ Wd H' wa l ds ∧ Dp K H' (.ref p) n.d ∧ H' rl = some (.lst ((netRow n).map iV)), ?_, ?_⟩
    · refine ⟨_, rfl, .ref rl, .ty "list", .type "list", .type "list", true, rfl, .ty _, tyx_lst (SqL.of erl), kit_ty (by decide +kernel), _, rfl, iteF ?_⟩
      refine ⟨_, rfl, _, rfl, p, n, rfl, hp7, sm0, fun H8 l8 s8 nl8 e8 => ?_⟩
      refine ⟨.list ((netRow n).map iD), .list ((netRow n).map iD), lsD (s8 _ _ erl), lsD e8, ints_shaped _, ints_shaped _, _, rfl, ?_⟩
      rw [SeqAt.eqv_refl _ (SeqAt.canLay_of_shaped (ints_shaped _))]
      refine iteF ?_
      have erl8 := s8 _ _ erl
      refine ⟨_, rfl, rl, rfl, ⟨_, SqL.of erl8⟩, fun D nD => ?_⟩
      refine lc_list (xs := (netRow n).map iV) (fun i H' => Same H8 H' ∧ H' D = some (.lst [])) ⟨Same.up nD, upd_same⟩ (fun i H' _ h => SqL.of (h.1 _ _ erl8)) (fun i x H' hx h => ?_) (fun H9 h => ?_)
      · obtain ⟨c, ec, rfl⟩ := ivs_at hx
        have hc := hrb c (List.mem_of_getElem? ec)
        have ei : isI (iD c) 0 256 = true := by
          show (decide ((0 : Int) ≤ ((c : Nat) : Int)) && decide (((c : Nat) : Int) < 256)) = true
          rw [decide_eq_true (by omega), decide_eq_true (by omega)]
          rfl
        refine ⟨rfl, _, rfl, iV c, iD c, 256, rfl, .int _, rfl, _, rfl, ?_⟩
        exact iteF' (by rw [ei]; rfl) h
      · refine ⟨Nat.zero_le _, fun z nz => ?_⟩
        have sz : Same H9 (upd H9 z (.lst [])) := Same.up nz
        have sh0 : SeqAt.shaped (.list []) = true := ints_shaped []
        refine ⟨.list [], .list [], .lst (SqL.of (sz _ _ h.2)) .nil, .lst (SqL.of upd_same) .nil, sh0, sh0, _, rfl, ?_⟩
        rw [SeqAt.eqv_refl _ (SeqAt.canLay_of_shaped sh0)]
        have s9 := (s8.trans h.1).trans sz
        exact iteF ⟨rfl, W7.sm s9, dp_stay (same_tup s9) _ _ hp7 nln, s9 _ _ erl⟩
    rintro σ H8 ⟨rfl, W8, hp8, erl8⟩
    refine ⟨fun σ H' => σ = [some (.ref a), some (.ref wa), some (iV L), some (iV A0), some (.ref p), some (.ref rl), none, none, none, none, none, none] ∧ Wd H' wa l ds ∧ Dp K H' (.ref p) n.d, ?_, ?_⟩
    · refine ⟨_, rfl, rl, _, rfl, .inl (SqL.of erl8), fun t nt => ?_⟩
      have st : Same H8 (upd H8 t (.lst ((netRow n).map iV))) := Same.up nt
      refine ⟨t, netRow n, rfl, upd_same, by omega, hrb, hrr, fun H9 v s9 dv => ?_⟩
      rw [eR] at dv
      have s89 := st.trans s9
      have hp9 := dp_stay (same_tup s89) _ _ hp8 nln
      refine ⟨_, rfl, n.d, n.d, dv, hp9, shn, shn, _, rfl, ?_⟩
      rw [SeqAt.eqv_refl _ (SeqAt.canLay_of_shaped shn)]
      refine iteF ?_
      refine ⟨_, rfl, rl, _, rfl, .inl (SqL.of (s89 _ _ erl8)), fun t2 nt2 => ?_⟩
      have st2 : Same H9 (upd H9 t2 (.lst ((netRow n).map iV))) := Same.up nt2
      refine ⟨t2, netRow n, rfl, upd_same, by omega, hrb, hrr, fun Ha va sa dva => ?_⟩
      rw [eR] at dva
      have sAll := (s89.trans st2).trans sa
      refine ⟨_, n.d, 3, rfl, dva, gdn, by decide, lens, fun Hb sb => ⟨_, rfl, ?_⟩⟩
      exact iteF' (by rw [hbn]; rfl) ⟨rfl, W8.sm (sAll.trans sb), dp_stay (same_tup (sAll.trans sb)) _ _ hp8 nln⟩
    rintro σ H9 ⟨rfl, W9, hp9⟩
    refine ⟨fun _ _ => True, ?_, fun σ' H' _ => q H'⟩
    refine ⟨4, rfl, by decide, by decide, for_range (n := 4) (fun i σ H' => ∃ y6 y7 y8 y9 y10 : Option V, σ = [some (.ref a), some (.ref wa), some (iV L), some (iV A0), some (.ref p), some (.ref rl), y6, y7, y8, y9, y10, none] ∧ Wd H' wa l ds ∧ Dp K H' (.ref p) n.d) ⟨none, none, none, none, none, rfl, W9, hp9⟩ (fun i σ H' hi h => ?_) (fun _ _ _ => trivial)⟩
    obtain ⟨y6, y7, y8, y9, y10, rfl, W', hp'⟩ := h
    refine ⟨_, rfl, _, rfl, p, n, rfl, hp', sm0, fun Ha la sa nla ea => ?_⟩
    have Wa := W'.sm sa
    have hpa := dp_stay (same_tup sa) _ _ hp' nln
    refine ⟨wa, l, la, ds, netRow n, rfl, Wa, ea, by omega, hrb, hrd, fun Hb bp row' kb Wb eb lb bb rb => ?_⟩
    have hpb := dp_stay (fun _ _ h => Wa.tup kb _ _ h) _ _ hpa nln
    obtain ⟨noD, shD⟩ := due_gd lb
    refine ⟨_, rfl, bp, row', rfl, eb, lb, bb, rb, fun Hc vd sc dvd => ?_⟩
    have ebc := sc _ _ eb
    refine ⟨_, rfl, bp, _, rfl, .inl (SqL.of ebc), fun hd nhd => ?_⟩
    have sh : Same Hc (upd Hc hd (.lst (row'.map iV))) := Same.up nhd
    have eh : (upd Hc hd (.lst (row'.map iV))) hd = some (.lst (row'.map iV)) := upd_same
    generalize upd Hc hd (.lst (row'.map iV)) = Hh at sh eh
    refine ⟨_, rfl, hd, row', rfl, eh, lb, bb, rb, fun Hd vt sd dvt => ?_⟩
    have scd := sh.trans sd
    have dvd2 := dp_stay (same_tup scd) _ _ dvd noD
    refine ⟨_, rfl, _, rfl, dueD row', dueD row', dvt, dvd2, shD, shD, _, rfl, ?_⟩
    rw [SeqAt.eqv_refl _ (SeqAt.canLay_of_shaped shD)]
    refine iteF ?_
    refine ⟨_, rfl, _, rfl, .list (row'.map iD), .list (row'.map iD), lsD (sd _ _ eh), lsD (scd _ _ ebc), ints_shaped _, ints_shaped _, _, rfl, ?_⟩
    rw [SeqAt.eqv_refl _ (SeqAt.canLay_of_shaped (ints_shaped _))]
    refine iteF ?_
    have sbd := sc.trans scd
    have Wd' := Wb.sm sbd
    have hpd := dp_stay (same_tup sbd) _ _ hpb nln
    refine ⟨_, rfl, rfl, _, rfl, ?_⟩
    cases e : readD row' with
    | none =>
      have e2 := due_none e
      rw [e2] at dvt
      cases dvt
      exact iteF ⟨_, _, _, _, _, rfl, Wd', hpd⟩
    | some d =>
      have e2 : dueD row' = d := by
        unfold dueD
        rw [e]
      rw [e2] at dvt
      obtain ⟨gd3, hb3, lens3⟩ := read_gd lb e
      have nvt : vt ≠ .non := fun z => by
        subst z
        cases dvt
        cases hb3
      refine iteT' (by rw [decide_eq_false nvt]; rfl) ?_
      refine ⟨_, rfl, vt, d, 3, rfl, dvt, gd3, by decide, lens3, fun Hz sz => ⟨_, rfl, ?_⟩⟩
      exact iteF' (by rw [hb3]; rfl) ⟨_, _, _, _, _, rfl, Wd'.sm sz, dp_stay (same_tup sz) _ _ hpd nln⟩
end
end C1

/-! What the top leaves, and the end. -/
namespace C1
open PySem PySem.Spec PyProof.Rows L2 SX
theorem kit_ref {K : PySem.W.Frag} {t : Value} {C : Addr} (hd : PySem.W.hasDictIn K C = true) (ty : PySem.W.typeIn K (.ref C) = some (.type "type")) (s : PySem.W.subIn K t (.ref C) = some true) : PySem.W.kitOne K t (.ref C) = some true := by
  obtain ⟨cd, hc, _⟩ := PySem.W.any_some hd
  have e : ((PySem.W.clsIn K C).isSome && PySem.W.typeIn K (.ref C) == some (.type "type")) = true := by
    rw [hc, ty]
    rfl
  unfold PySem.W.kitOne
  by_cases q : (t == Value.ref C) = true
  · rw [if_pos q]
  · rw [if_neg q]
    show (if ((PySem.W.clsIn K C).isSome && PySem.W.typeIn K (.ref C) == some (.type "type")) = true then PySem.W.subIn K t (.ref C) else none) = some true
    rw [if_pos e]
    exact s
theorem all_mk {l : PySem.W.OpenLaw} {w : World} {K : PySem.W.Frag} {h : Heap} {mg : Str → Option Value} {fa : Addr} (X : K.In h) (G : h.Ns mainGlobals mg) (hfa : mg "law" = some (.ref fa))
    {C CB CC : Addr}
    {f0 : Addr} {od0 an0 : Option Addr} {sl0 : Array (Option Value)} {oc0 kV0 dc0 pm0 cd0 ct0 : Value}
    {f1 : Addr} {od1 an1 : Option Addr} {sl1 : Array (Option Value)} {oc1 kV1 dc1 pm1 cd1 ct1 : Value}
    {f2 : Addr} {od2 an2 : Option Addr} {sl2 : Array (Option Value)} {oc2 kV2 dc2 pm2 cd2 ct2 : Value}
    {f3 : Addr} {od3 an3 : Option Addr} {sl3 : Array (Option Value)} {oc3 kV3 dc3 pm3 cd3 ct3 : Value}
    {f4 : Addr} {od4 an4 : Option Addr} {sl4 : Array (Option Value)} {oc4 kV4 dc4 pm4 cd4 ct4 : Value}
    {f5 : Addr} {od5 an5 : Option Addr} {sl5 : Array (Option Value)} {oc5 kV5 dc5 pm5 cd5 ct5 : Value}
    {f6 : Addr} {od6 an6 : Option Addr} {sl6 : Array (Option Value)} {oc6 kV6 dc6 pm6 cd6 ct6 : Value}
    {f7 : Addr} {od7 an7 : Option Addr} {sl7 : Array (Option Value)} {oc7 kV7 dc7 pm7 cd7 ct7 : Value}
    {f8 : Addr} {od8 an8 : Option Addr} {sl8 : Array (Option Value)} {oc8 kV8 dc8 pm8 cd8 ct8 : Value}
    {f9 : Addr} {od9 an9 : Option Addr} {sl9 : Array (Option Value)} {oc9 kV9 dc9 pm9 cd9 ct9 : Value}
    {f10 : Addr} {od10 an10 : Option Addr} {sl10 : Array (Option Value)} {oc10 kV10 dc10 pm10 cd10 ct10 : Value}
    {f11 : Addr} {od11 an11 : Option Addr} {sl11 : Array (Option Value)} {oc11 kV11 dc11 pm11 cd11 ct11 : Value}
    {f12 : Addr} {od12 an12 : Option Addr} {sl12 : Array (Option Value)} {oc12 kV12 dc12 pm12 cd12 ct12 : Value}
    {f13 : Addr} {od13 an13 : Option Addr} {sl13 : Array (Option Value)} {oc13 kV13 dc13 pm13 cd13 ct13 : Value}
    {f14 : Addr} {od14 an14 : Option Addr} {sl14 : Array (Option Value)} {oc14 kV14 dc14 pm14 cd14 ct14 : Value}
    {f15 : Addr} {od15 an15 : Option Addr} {sl15 : Array (Option Value)} {oc15 kV15 dc15 pm15 cd15 ct15 : Value}
    {f16 : Addr} {od16 an16 : Option Addr} {sl16 : Array (Option Value)} {oc16 kV16 dc16 pm16 cd16 ct16 : Value}
    {f17 : Addr} {od17 an17 : Option Addr} {sl17 : Array (Option Value)} {oc17 kV17 dc17 pm17 cd17 ct17 : Value}
    {f18 : Addr} {od18 an18 : Option Addr} {sl18 : Array (Option Value)} {oc18 kV18 dc18 pm18 cd18 ct18 : Value}
    {f19 : Addr} {od19 an19 : Option Addr} {sl19 : Array (Option Value)} {oc19 kV19 dc19 pm19 cd19 ct19 : Value}
    {f20 : Addr} {od20 an20 : Option Addr} {sl20 : Array (Option Value)} {oc20 kV20 dc20 pm20 cd20 ct20 : Value}
    {f21 : Addr} {od21 an21 : Option Addr} {sl21 : Array (Option Value)} {oc21 kV21 dc21 pm21 cd21 ct21 : Value}
    {f22 : Addr} {od22 an22 : Option Addr} {sl22 : Array (Option Value)} {oc22 kV22 dc22 pm22 cd22 ct22 : Value}
    {f23 : Addr} {od23 an23 : Option Addr} {sl23 : Array (Option Value)} {oc23 kV23 dc23 pm23 cd23 ct23 : Value}
    {f24 : Addr} {od24 an24 : Option Addr} {sl24 : Array (Option Value)} {oc24 kV24 dc24 pm24 cd24 ct24 : Value}
    {f25 : Addr} {od25 an25 : Option Addr} {sl25 : Array (Option Value)} {oc25 kV25 dc25 pm25 cd25 ct25 : Value}
    (gC : PySem.W.nsIn K mainGlobals "NumberReader" = some (some (.ref C)))
    (gB : PySem.W.nsIn K mainGlobals "BadImage" = some (some (.ref CB)))
    (gCC : PySem.W.nsIn K mainGlobals "CutError" = some (some (.ref CC)))
    (a0 : PySem.W.nsIn K mainGlobals "is_tuple" = some (some (.ref f0)))
    (l0 : K.lookup f0 = some ⟨oc0, od0, .func (PySem.W.fnOf "is_tuple" "is_tuple" (defArgs sIsTuple) (defBody sIsTuple) (defScope sIsTuple) .none kV0 dc0 pm0 an0 cd0 ct0), sl0⟩)
    (c0 : PySem.W.codeIn K cd0 "is_tuple" = true)
    (k0 : PySem.W.keepIn K (.ref f0) = true)
    (a1 : PySem.W.nsIn K mainGlobals "is_below" = some (some (.ref f1)))
    (l1 : K.lookup f1 = some ⟨oc1, od1, .func (PySem.W.fnOf "is_below" "is_below" (defArgs sIsBelow) (defBody sIsBelow) (defScope sIsBelow) .none kV1 dc1 pm1 an1 cd1 ct1), sl1⟩)
    (c1 : PySem.W.codeIn K cd1 "is_below" = true)
    (k1 : PySem.W.keepIn K (.ref f1) = true)
    (a2 : PySem.W.nsIn K mainGlobals "is_net" = some (some (.ref f2)))
    (l2 : K.lookup f2 = some ⟨oc2, od2, .func (PySem.W.fnOf "is_net" "is_net" (defArgs sIsNet) (defBody sIsNet) (defScope sIsNet) .none kV2 dc2 pm2 an2 cd2 ct2), sl2⟩)
    (c2 : PySem.W.codeIn K cd2 "is_net" = true)
    (k2 : PySem.W.keepIn K (.ref f2) = true)
    (a3 : PySem.W.nsIn K mainGlobals "number_bytes" = some (some (.ref f3)))
    (l3 : K.lookup f3 = some ⟨oc3, od3, .func (PySem.W.fnOf "number_bytes" "number_bytes" (defArgs sNumberBytes) (defBody sNumberBytes) (defScope sNumberBytes) .none kV3 dc3 pm3 an3 cd3 ct3), sl3⟩)
    (c3 : PySem.W.codeIn K cd3 "number_bytes" = true)
    (k3 : PySem.W.keepIn K (.ref f3) = true)
    (a4 : PySem.W.nsIn K mainGlobals "write_net" = some (some (.ref f4)))
    (l4 : K.lookup f4 = some ⟨oc4, od4, .func (PySem.W.fnOf "write_net" "write_net" (defArgs sWriteNet) (defBody sWriteNet) (defScope sWriteNet) .none kV4 dc4 pm4 an4 cd4 ct4), sl4⟩)
    (c4 : PySem.W.codeIn K cd4 "write_net" = true)
    (k4 : PySem.W.keepIn K (.ref f4) = true)
    (a5 : PySem.W.nsIn K mainGlobals "read_net" = some (some (.ref f5)))
    (l5 : K.lookup f5 = some ⟨oc5, od5, .func (PySem.W.fnOf "read_net" "read_net" (defArgs sReadNet) (defBody sReadNet) (defScope sReadNet) .none kV5 dc5 pm5 an5 cd5 ct5), sl5⟩)
    (c5 : PySem.W.codeIn K cd5 "read_net" = true)
    (k5 : PySem.W.keepIn K (.ref f5) = true)
    (a6 : PySem.W.nsIn K mainGlobals "own_literal" = some (some (.ref f6)))
    (l6 : K.lookup f6 = some ⟨oc6, od6, .func (PySem.W.fnOf "own_literal" "own_literal" (defArgs sOwnLiteral) (defBody sOwnLiteral) (defScope sOwnLiteral) .none kV6 dc6 pm6 an6 cd6 ct6), sl6⟩)
    (c6 : PySem.W.codeIn K cd6 "own_literal" = true)
    (k6 : PySem.W.keepIn K (.ref f6) = true)
    (a7 : PySem.W.nsIn K mainGlobals "_law_draws" = some (some (.ref f7)))
    (l7 : K.lookup f7 = some ⟨oc7, od7, .func (PySem.W.fnOf "_law_draws" "_law_draws" (defArgs sDraws) (defBody sDraws) (defScope sDraws) .none kV7 dc7 pm7 an7 cd7 ct7), sl7⟩)
    (c7 : PySem.W.codeIn K cd7 "_law_draws" = true)
    (k7 : PySem.W.keepIn K (.ref f7) = true)
    (a8 : PySem.W.nsIn K mainGlobals "_law_next" = some (some (.ref f8)))
    (l8 : K.lookup f8 = some ⟨oc8, od8, .func (PySem.W.fnOf "_law_next" "_law_next" (defArgs sNext) (defBody sNext) (defScope sNext) .none kV8 dc8 pm8 an8 cd8 ct8), sl8⟩)
    (c8 : PySem.W.codeIn K cd8 "_law_next" = true)
    (k8 : PySem.W.keepIn K (.ref f8) = true)
    (a9 : PySem.W.nsIn K mainGlobals "_law_pick" = some (some (.ref f9)))
    (l9 : K.lookup f9 = some ⟨oc9, od9, .func (PySem.W.fnOf "_law_pick" "_law_pick" (defArgs sLawPick) (defBody sLawPick) (defScope sLawPick) .none kV9 dc9 pm9 an9 cd9 ct9), sl9⟩)
    (c9 : PySem.W.codeIn K cd9 "_law_pick" = true)
    (k9 : PySem.W.keepIn K (.ref f9) = true)
    (a10 : PySem.W.nsIn K mainGlobals "_law_literal" = some (some (.ref f10)))
    (l10 : K.lookup f10 = some ⟨oc10, od10, .func (PySem.W.fnOf "_law_literal" "_law_literal" (defArgs sLawLiteral) (defBody sLawLiteral) (defScope sLawLiteral) .none kV10 dc10 pm10 an10 cd10 ct10), sl10⟩)
    (c10 : PySem.W.codeIn K cd10 "_law_literal" = true)
    (k10 : PySem.W.keepIn K (.ref f10) = true)
    (a11 : PySem.W.nsIn K mainGlobals "_law_net" = some (some (.ref f11)))
    (l11 : K.lookup f11 = some ⟨oc11, od11, .func (PySem.W.fnOf "_law_net" "_law_net" (defArgs sLawNet) (defBody sLawNet) (defScope sLawNet) .none kV11 dc11 pm11 an11 cd11 ct11), sl11⟩)
    (c11 : PySem.W.codeIn K cd11 "_law_net" = true)
    (k11 : PySem.W.keepIn K (.ref f11) = true)
    (a12 : PySem.W.nsIn K mainGlobals "_law_is_number" = some (some (.ref f12)))
    (l12 : K.lookup f12 = some ⟨oc12, od12, .func (PySem.W.fnOf "_law_is_number" "_law_is_number" (defArgs sLawIsNumber) (defBody sLawIsNumber) (defScope sLawIsNumber) .none kV12 dc12 pm12 an12 cd12 ct12), sl12⟩)
    (c12 : PySem.W.codeIn K cd12 "_law_is_number" = true)
    (k12 : PySem.W.keepIn K (.ref f12) = true)
    (a13 : PySem.W.nsIn K mainGlobals "_law_is_net" = some (some (.ref f13)))
    (l13 : K.lookup f13 = some ⟨oc13, od13, .func (PySem.W.fnOf "_law_is_net" "_law_is_net" (defArgs sLawIsNet) (defBody sLawIsNet) (defScope sLawIsNet) .none kV13 dc13 pm13 an13 cd13 ct13), sl13⟩)
    (c13 : PySem.W.codeIn K cd13 "_law_is_net" = true)
    (k13 : PySem.W.keepIn K (.ref f13) = true)
    (a14 : PySem.W.nsIn K mainGlobals "_law_put" = some (some (.ref f14)))
    (l14 : K.lookup f14 = some ⟨oc14, od14, .func (PySem.W.fnOf "_law_put" "_law_put" (defArgs sLawPut) (defBody sLawPut) (defScope sLawPut) .none kV14 dc14 pm14 an14 cd14 ct14), sl14⟩)
    (c14 : PySem.W.codeIn K cd14 "_law_put" = true)
    (k14 : PySem.W.keepIn K (.ref f14) = true)
    (a15 : PySem.W.nsIn K mainGlobals "_law_take" = some (some (.ref f15)))
    (l15 : K.lookup f15 = some ⟨oc15, od15, .func (PySem.W.fnOf "_law_take" "_law_take" (defArgs sLawTake) (defBody sLawTake) (defScope sLawTake) .none kV15 dc15 pm15 an15 cd15 ct15), sl15⟩)
    (c15 : PySem.W.codeIn K cd15 "_law_take" = true)
    (k15 : PySem.W.keepIn K (.ref f15) = true)
    (a16 : PySem.W.nsIn K mainGlobals "_law_takes" = some (some (.ref f16)))
    (l16 : K.lookup f16 = some ⟨oc16, od16, .func (PySem.W.fnOf "_law_takes" "_law_takes" (defArgs sLawTakes) (defBody sLawTakes) (defScope sLawTakes) .none kV16 dc16 pm16 an16 cd16 ct16), sl16⟩)
    (c16 : PySem.W.codeIn K cd16 "_law_takes" = true)
    (k16 : PySem.W.keepIn K (.ref f16) = true)
    (a17 : PySem.W.nsIn K mainGlobals "_law_row" = some (some (.ref f17)))
    (l17 : K.lookup f17 = some ⟨oc17, od17, .func (PySem.W.fnOf "_law_row" "_law_row" (defArgs sLawRow) (defBody sLawRow) (defScope sLawRow) .none kV17 dc17 pm17 an17 cd17 ct17), sl17⟩)
    (c17 : PySem.W.codeIn K cd17 "_law_row" = true)
    (k17 : PySem.W.keepIn K (.ref f17) = true)
    (a18 : PySem.W.nsIn K mainGlobals "_law_read" = some (some (.ref f18)))
    (l18 : K.lookup f18 = some ⟨oc18, od18, .func (PySem.W.fnOf "_law_read" "_law_read" (defArgs sLawRead) (defBody sLawRead) (defScope sLawRead) .none kV18 dc18 pm18 an18 cd18 ct18), sl18⟩)
    (c18 : PySem.W.codeIn K cd18 "_law_read" = true)
    (k18 : PySem.W.keepIn K (.ref f18) = true)
    (a19 : PySem.W.nsIn K mainGlobals "_law_bent" = some (some (.ref f19)))
    (l19 : K.lookup f19 = some ⟨oc19, od19, .func (PySem.W.fnOf "_law_bent" "_law_bent" (defArgs sLawBent) (defBody sLawBent) (defScope sLawBent) .none kV19 dc19 pm19 an19 cd19 ct19), sl19⟩)
    (c19 : PySem.W.codeIn K cd19 "_law_bent" = true)
    (k19 : PySem.W.keepIn K (.ref f19) = true)
    (a20 : PySem.W.nsIn K mainGlobals "_law_told" = some (some (.ref f20)))
    (l20 : K.lookup f20 = some ⟨oc20, od20, .func (PySem.W.fnOf "_law_told" "_law_told" (defArgs sLawTold) (defBody sLawTold) (defScope sLawTold) .none kV20 dc20 pm20 an20 cd20 ct20), sl20⟩)
    (c20 : PySem.W.codeIn K cd20 "_law_told" = true)
    (k20 : PySem.W.keepIn K (.ref f20) = true)
    (a21 : PySem.W.nsIn K mainGlobals "law" = some (some (.ref f21)))
    (l21 : K.lookup f21 = some ⟨oc21, od21, .func (PySem.W.fnOf "law" "law" (defArgs sLaw) (defBody sLaw) (defScope sLaw) .none kV21 dc21 pm21 an21 cd21 ct21), sl21⟩)
    (c21 : PySem.W.codeIn K cd21 "law" = true)
    (k21 : PySem.W.keepIn K (.ref f21) = true)
    (a22 : PySem.W.findIn K (.ref C) "__init__" = some (some (.ref f22)))
    (i22 : PySem.W.isFn K (.ref f22) = true)
    (l22 : K.lookup f22 = some ⟨oc22, od22, .func (PySem.W.fnOf "__init__" "NumberReader.__init__" (defArgs sInit) (defBody sInit) (defScope sInit) .none kV22 dc22 pm22 an22 cd22 ct22), sl22⟩)
    (c22 : PySem.W.codeIn K cd22 "NumberReader.__init__" = true)
    (k22 : PySem.W.keepIn K (.ref f22) = true)
    (a23 : PySem.W.findIn K (.ref C) "is_done" = some (some (.ref f23)))
    (i23 : PySem.W.isFn K (.ref f23) = true)
    (l23 : K.lookup f23 = some ⟨oc23, od23, .func (PySem.W.fnOf "is_done" "NumberReader.is_done" (defArgs sIsDone) (defBody sIsDone) (defScope sIsDone) .none kV23 dc23 pm23 an23 cd23 ct23), sl23⟩)
    (c23 : PySem.W.codeIn K cd23 "NumberReader.is_done" = true)
    (k23 : PySem.W.keepIn K (.ref f23) = true)
    (a24 : PySem.W.findIn K (.ref C) "next_number" = some (some (.ref f24)))
    (i24 : PySem.W.isFn K (.ref f24) = true)
    (l24 : K.lookup f24 = some ⟨oc24, od24, .func (PySem.W.fnOf "next_number" "NumberReader.next_number" (defArgs sNextNumber) (defBody sNextNumber) (defScope sNextNumber) .none kV24 dc24 pm24 an24 cd24 ct24), sl24⟩)
    (c24 : PySem.W.codeIn K cd24 "NumberReader.next_number" = true)
    (k24 : PySem.W.keepIn K (.ref f24) = true)
    (a25 : PySem.W.findIn K (.ref C) "next_numbers" = some (some (.ref f25)))
    (i25 : PySem.W.isFn K (.ref f25) = true)
    (l25 : K.lookup f25 = some ⟨oc25, od25, .func (PySem.W.fnOf "next_numbers" "NumberReader.next_numbers" (defArgs sNextNumbers) (defBody sNextNumbers) (defScope sNextNumbers) .none kV25 dc25 pm25 an25 cd25 ct25), sl25⟩)
    (c25 : PySem.W.codeIn K cd25 "NumberReader.next_numbers" = true)
    (k25 : PySem.W.keepIn K (.ref f25) = true)
    (pg : PySem.W.plainGet K C Str.empty = true)
    (hd : PySem.W.hasDictIn K C = true)
    (po : PySem.W.plainOver K C = true)
    (sa : PySem.W.findIn K (.ref C) "__setattr__" = some (some (.builtin "object.__setattr__")))
    (mk : PySem.W.makesIn K C = true)
    (kc : PySem.W.keepIn K (.ref C) = true)
    (nI : PySem.W.findIn K (.ref C) "_image" = some none)
    (nA : PySem.W.findIn K (.ref C) "_at" = some none)
    (xB : PySem.W.excIn K CB [.type "ValueError", .type "Exception", .type "BaseException", .type "object"] "ValueError.__new__" = true)
    (kB : PySem.W.keepIn K (.ref CB) = true)
    (bB : PySem.W.subIn K (.ref CB) (.type "BaseException") = some true)
    (tB : PySem.W.typeIn K (.ref CB) = some (.type "type"))
    (gaB : PySem.W.findIn K (.ref CB) "__getattribute__" = some (some (.builtin "BaseException.__getattribute__")))
    (ggB : PySem.W.findIn K (.ref CB) "__getattr__" = some none)
    (hdB : PySem.W.hasDictIn K CB = true)
    (clB : PySem.W.findIn K (.ref CB) "__class__" = some (some (.builtin "object.__class__")))
    (moB : PySem.W.mroIn K CB (.type "object") = some true)
    (sg : PySem.W.specialIn K (.builtin "object.__class__") "__get__" = some (some (.builtin "getset_descriptor.__get__")))
    (tk : PySem.W.takesIn K (.builtin "object.__class__") = some true)
    (exCC : PySem.W.subIn K (.ref CC) (.type "BaseException") = some true)
    (hdCC : PySem.W.hasDictIn K CC = true)
    (tyCC : PySem.W.typeIn K (.ref CC) = some (.type "type"))
    (qBC : PySem.W.subIn K (.ref CB) (.ref CC) = some true)
    (qBB : PySem.W.subIn K (.ref CB) (.ref CB) = some true)
    (z_type : PySem.W.nsIn K mainGlobals "type" = some none)
    (z_int : PySem.W.nsIn K mainGlobals "int" = some none)
    (z_tuple : PySem.W.nsIn K mainGlobals "tuple" = some none)
    (z_str : PySem.W.nsIn K mainGlobals "str" = some none)
    (z_len : PySem.W.nsIn K mainGlobals "len" = some none)
    (z_all : PySem.W.nsIn K mainGlobals "all" = some none)
    (z_range : PySem.W.nsIn K mainGlobals "range" = some none)
    (z_abs : PySem.W.nsIn K mainGlobals "abs" = some none)
    (z_isinstance : PySem.W.nsIn K mainGlobals "isinstance" = some none)
    (z_bool : PySem.W.nsIn K mainGlobals "bool" = some none)
    (z_list : PySem.W.nsIn K mainGlobals "list" = some none)
    (z_enumerate : PySem.W.nsIn K mainGlobals "enumerate" = some none)
    (z_min : PySem.W.nsIn K mainGlobals "min" = some none)
    (z_sum : PySem.W.nsIn K mainGlobals "sum" = some none)
    (z_divmod : PySem.W.nsIn K mainGlobals "divmod" = some none)
    (z_zip : PySem.W.nsIn K mainGlobals "zip" = some none)
    (z_max : PySem.W.nsIn K mainGlobals "max" = some none) :
    ∃ fd : FuncData, (∀ (s : Shared) (v : Value), BindsTo s fd ⟨[v], []⟩ [("script", v)]) ∧ ∀ base : Heap, K.In base → base.Ns mainGlobals mg → FnOk l.prog w K mg base CX0 5 fa fd ["script"] (spLaw K) := by
  have M := fun {x : Str} {v : Value} (e : PySem.W.nsIn K mainGlobals x = some (some v)) => PySem.W.mg_of X G e
  have Z := fun {x : Str} (e : PySem.W.nsIn K mainGlobals x = some none) => PySem.W.mg_none_of X G e
  have e := hfa.symm.trans (M a21)
  cases e
  have F0 := fun_mk (st := sIsTuple) l0 c0 k0
  have B0 := F0.binds (ps := ["thing", "many"]) fun _ _ _ _ _ _ us hl => match us, hl with | [_, _], _ => rfl
  have F1 := fun_mk (st := sIsBelow) l1 c1 k1
  have B1 := F1.binds (ps := ["thing", "limit"]) fun _ _ _ _ _ _ us hl => match us, hl with | [_, _], _ => rfl
  have F2 := fun_mk (st := sIsNet) l2 c2 k2
  have B2 := F2.binds (ps := ["thing"]) fun _ _ _ _ _ _ us hl => match us, hl with | [_], _ => rfl
  have F3 := fun_mk (st := sNumberBytes) l3 c3 k3
  have B3 := F3.binds (ps := ["numbers"]) fun _ _ _ _ _ _ us hl => match us, hl with | [_], _ => rfl
  have F4 := fun_mk (st := sWriteNet) l4 c4 k4
  have B4 := F4.binds (ps := ["net"]) fun _ _ _ _ _ _ us hl => match us, hl with | [_], _ => rfl
  have F5 := fun_mk (st := sReadNet) l5 c5 k5
  have B5 := F5.binds (ps := ["row"]) fun _ _ _ _ _ _ us hl => match us, hl with | [_], _ => rfl
  have F6 := fun_mk (st := sOwnLiteral) l6 c6 k6
  have B6 := F6.binds (ps := ["latches", "at"]) fun _ _ _ _ _ _ us hl => match us, hl with | [_, _], _ => rfl
  have F7 := fun_mk (st := sDraws) l7 c7 k7
  have B7 := F7.binds (ps := ["script", "many"]) fun _ _ _ _ _ _ us hl => match us, hl with | [_, _], _ => rfl
  have F8 := fun_mk (st := sNext) l8 c8 k8
  have B8 := F8.binds (ps := ["w", "many"]) fun _ _ _ _ _ _ us hl => match us, hl with | [_, _], _ => rfl
  have F9 := fun_mk (st := sLawPick) l9 c9 k9
  have B9 := F9.binds (ps := ["w", "rows"]) fun _ _ _ _ _ _ us hl => match us, hl with | [_, _], _ => rfl
  have F10 := fun_mk (st := sLawLiteral) l10 c10 k10
  have B10 := F10.binds (ps := ["w", "many"]) fun _ _ _ _ _ _ us hl => match us, hl with | [_, _], _ => rfl
  have F11 := fun_mk (st := sLawNet) l11 c11 k11
  have B11 := F11.binds (ps := ["w", "latches", "ands", "outs"]) fun _ _ _ _ _ _ us hl => match us, hl with | [_, _, _, _], _ => rfl
  have F12 := fun_mk (st := sLawIsNumber) l12 c12 k12
  have B12 := F12.binds (ps := ["thing", "most"]) fun _ _ _ _ _ _ us hl => match us, hl with | [_, _], _ => rfl
  have F13 := fun_mk (st := sLawIsNet) l13 c13 k13
  have B13 := F13.binds (ps := ["thing"]) fun _ _ _ _ _ _ us hl => match us, hl with | [_], _ => rfl
  have F14 := fun_mk (st := sLawPut) l14 c14 k14
  have B14 := F14.binds (ps := ["row", "number"]) fun _ _ _ _ _ _ us hl => match us, hl with | [_, _], _ => rfl
  have F15 := fun_mk (st := sLawTake) l15 c15 k15
  have B15 := F15.binds (ps := ["box"]) fun _ _ _ _ _ _ us hl => match us, hl with | [_], _ => rfl
  have F16 := fun_mk (st := sLawTakes) l16 c16 k16
  have B16 := F16.binds (ps := ["box", "many"]) fun _ _ _ _ _ _ us hl => match us, hl with | [_, _], _ => rfl
  have F17 := fun_mk (st := sLawRow) l17 c17 k17
  have B17 := F17.binds (ps := ["net"]) fun _ _ _ _ _ _ us hl => match us, hl with | [_], _ => rfl
  have F18 := fun_mk (st := sLawRead) l18 c18 k18
  have B18 := F18.binds (ps := ["row"]) fun _ _ _ _ _ _ us hl => match us, hl with | [_], _ => rfl
  have F19 := fun_mk (st := sLawBent) l19 c19 k19
  have B19 := F19.binds (ps := ["w", "row"]) fun _ _ _ _ _ _ us hl => match us, hl with | [_, _], _ => rfl
  have F20 := fun_mk (st := sLawTold) l20 c20 k20
  have B20 := F20.binds (ps := ["row"]) fun _ _ _ _ _ _ us hl => match us, hl with | [_], _ => rfl
  have F21 := fun_mk (st := sLaw) l21 c21 k21
  have B21 := F21.binds (ps := ["script"]) fun _ _ _ _ _ _ us hl => match us, hl with | [_], _ => rfl
  have F22 := fun_mk (st := sInit) l22 c22 k22
  have B22 := F22.binds (ps := ["self", "row"]) fun _ _ _ _ _ _ us hl => match us, hl with | [_, _], _ => rfl
  have F23 := fun_mk (st := sIsDone) l23 c23 k23
  have B23 := F23.binds (ps := ["self"]) fun _ _ _ _ _ _ us hl => match us, hl with | [_], _ => rfl
  have F24 := fun_mk (st := sNextNumber) l24 c24 k24
  have B24 := F24.binds (ps := ["self"]) fun _ _ _ _ _ _ us hl => match us, hl with | [_], _ => rfl
  have F25 := fun_mk (st := sNextNumbers) l25 c25 k25
  have B25 := F25.binds (ps := ["self", "many"]) fun _ _ _ _ _ _ us hl => match us, hl with | [_, _], _ => rfl
  have GP : Gp mg := ⟨Z z_type, Z z_int, Z z_tuple, Z z_bool, Z z_len, Z z_all, Z z_enumerate, Z z_isinstance, Z z_min, Z z_range, Z z_list⟩
  have BL : Bl mg := ⟨Z z_len, Z z_range, Z z_abs, Z z_int, Z z_str⟩
  have BB : BV mg := ⟨Z z_len, Z z_all, Z z_sum, Z z_enumerate, Z z_range, Z z_tuple, Z z_divmod, Z z_zip, Z z_list, Z z_int, Z z_max⟩
  have RT : RdT K mg C CB := ⟨⟨pg, hd, po, sa⟩, nI, nA, M gC, M gB, xB, kB, bB, tB⟩
  have XB : ExcC K CB := ⟨gaB, ggB, bB, hdB, clB, sg, tk, moB⟩
  have MK : Mk K C f22 := ⟨mk, a22, i22, kc⟩
  have MD : Meth K C "is_done" f23 := ⟨a23, i23, k23⟩
  have M1 : Meth K C "next_number" f24 := ⟨a24, i24, k24⟩
  have M2 : Meth K C "next_numbers" f25 := ⟨a25, i25, k25⟩
  refine ⟨PySem.W.fnOf "law" "law" (defArgs sLaw) (defBody sLaw) (defScope sLaw) .none kV21 dc21 pm21 an21 cd21 ct21, fun s v => .of_eq rfl, fun base _ _ => ?_⟩
  have G0 : FnOk l.prog w K mg base CX0 1 f0 _ ["thing", "many"] (spIsTuple K) := ok_isTuple F0 GP
  have G1 : FnOk l.prog w K mg base CX0 1 f1 _ ["thing", "limit"] (spIsBelow K) := ok_isBelow F1 GP
  have G2 : FnOk l.prog w K mg base CX0 2 f2 _ ["thing"] (spIsNet K) := ok_isNet F2 GP G0 k0 B0 (M a0) G1 k1 B1 (M a1)
  have G3 : FnOk l.prog w K mg base CX0 1 f3 _ ["numbers"] (spBytes K) := ok_bytes F3
  have G6 : FnOk l.prog w K mg base CX0 1 f6 _ ["latches", "at"] spOwn := ok_own F6
  have G4 : FnOk l.prog w K mg base CX0 2 f4 _ ["net"] (spWrite K) := ok_write F4 BB G6 k6 B6 (M a6) G3 k3 B3 (M a3)
  have G22 : FnOk l.prog w K mg base CX0 1 f22 _ ["self", "row"] (spInitR C) := ok_initR F22 RT
  have G23 : FnOk l.prog w K mg base CX0 1 f23 _ ["self"] (spDone K C) := ok_done F23 RT BB
  have G24 : FnOk l.prog w K mg base (L2.CX l.prog w) 1 f24 _ ["self"] (spNum1 K C CB) := ok_num1 F24 RT BB
  have G25 : FnOk l.prog w K mg base (L2.CX l.prog w) 2 f25 _ ["self", "many"] (spNums K C CB) := ok_nums F25 RT BB M1 G24 B24
  have G5 : FnOk l.prog w K mg base (L2.CX l.prog w) 3 f5 _ ["row"] (spRead K CB) := ok_read F5 RT BB MK G22 B22 M1 G24 B24 M2 G25 B25 MD G23 B23 G6 k6 B6 (M a6) G2 k2 B2 (M a2)
  have G7 : FnOk l.prog w K mg base CX0 1 f7 _ ["script", "many"] (spDraws K) := ok_draws F7 BL
  have G8 : FnOk l.prog w K mg base CX0 1 f8 _ ["w", "many"] spNext := ok_next F8 BL
  have G9 : FnOk l.prog w K mg base CX0 2 f9 _ ["w", "rows"] (spPick K) := ok_pick F9 GP G8 k8 B8 (M a8)
  have G10 : FnOk l.prog w K mg base CX0 2 f10 _ ["w", "many"] spLiteral := ok_lliteral F10 GP G8 k8 B8 (M a8)
  have G11 : FnOk l.prog w K mg base CX0 3 f11 _ ["w", "latches", "ands", "outs"] (spDrawn K) := ok_drawn F11 GP G8 k8 B8 (M a8) G10 k10 B10 (M a10)
  have G12 : FnOk l.prog w K mg base CX0 1 f12 _ ["thing", "most"] (spIsN K) := ok_isN F12 GP
  have G13 : FnOk l.prog w K mg base CX0 2 f13 _ ["thing"] (spIsNet K) := ok_lNet F13 GP G12 k12 B12 (M a12)
  have G14 : FnOk l.prog w K mg base CX0 1 f14 _ ["row", "number"] spPut := ok_put F14 BB
  have G15 : FnOk l.prog w K mg base CX0 1 f15 _ ["box"] (spTake K) := ok_take F15 BB
  have G16 : FnOk l.prog w K mg base CX0 2 f16 _ ["box", "many"] (spTakes K) := ok_takes F16 BB G15 k15 B15 (M a15)
  have G17 : FnOk l.prog w K mg base CX0 2 f17 _ ["net"] (spWrite K) := ok_lRow F17 BB G14 k14 B14 (M a14)
  have G18 : FnOk l.prog w K mg base CX0 3 f18 _ ["row"] (spLRead K) := ok_lRead F18 BB G16 k16 B16 (M a16) G13 k13 B13 (M a13)
  have G19 : FnOk l.prog w K mg base CX0 3 f19 _ ["w", "row"] (spBent K) := ok_bent F19 BB G8 k8 B8 (M a8) G9 k9 B9 (M a9)
  have G20 : FnOk l.prog w K mg base CX0 4 f20 _ ["row"] (spLRead K) := ok_told F20 XB RT (M gCC) GP G5 k5 B5 (M a5) (PySem.W.exm_ref exCC hdCC tyCC qBC) (kit_ref hdB tB qBB)
  exact ok_law F21 GP BB G7 k7 B7 (M a7) G8 k8 B8 (M a8) G9 k9 B9 (M a9) G11 k11 B11 (M a11) G17 k17 B17 (M a17) G4 k4 B4 (M a4) G20 k20 B20 (M a20) G19 k19 B19 (M a19) G18 k18 B18 (M a18) G13 k13 B13 (M a13) G12 k12 B12 (M a12)
end C1

open PySem PySem.W PyProof.Rows
set_option maxRecDepth 100000 in
set_option maxHeartbeats 0 in
theorem PySem.Challenge.cw_stagecut_k33_rows_of_nets_holds : PySem.Challenge.rw_stagecut_k33_rows_of_nets.Holds := by
  w_on; o_law; k_head; (case hw => w_witness2)
  k_fill
  refine L2.walk_of (l := PySem.Challenge.rw_stagecut_k33_rows_of_nets) (n := 63) (k := 5) (x := "script") (CX := fun _ => L2.CX0) (sp := fun w => C1.spLaw _) rfl (by decide) rfl ⟨rfl, by decide, by decide⟩ (fun w h Y => PySem.W.kIn_of Y) ?F (fun _ _ a ns hl _ hS => ⟨a, ns, rfl, hS, hl, fun _ => rfl⟩) (fun _ _ _ _ _ h => h)
  case F =>
    intro w mg fa h KX G hmg
    refine' C1.all_mk KX G hmg ?gC ?gB ?gCC ?a0 ?l0 ?c0 ?k0 ?a1 ?l1 ?c1 ?k1 ?a2 ?l2 ?c2 ?k2 ?a3 ?l3 ?c3 ?k3 ?a4 ?l4 ?c4 ?k4 ?a5 ?l5 ?c5 ?k5 ?a6 ?l6 ?c6 ?k6 ?a7 ?l7 ?c7 ?k7 ?a8 ?l8 ?c8 ?k8 ?a9 ?l9 ?c9 ?k9 ?a10 ?l10 ?c10 ?k10 ?a11 ?l11 ?c11 ?k11 ?a12 ?l12 ?c12 ?k12 ?a13 ?l13 ?c13 ?k13 ?a14 ?l14 ?c14 ?k14 ?a15 ?l15 ?c15 ?k15 ?a16 ?l16 ?c16 ?k16 ?a17 ?l17 ?c17 ?k17 ?a18 ?l18 ?c18 ?k18 ?a19 ?l19 ?c19 ?k19 ?a20 ?l20 ?c20 ?k20 ?a21 ?l21 ?c21 ?k21 ?a22 ?i22 ?l22 ?c22 ?k22 ?a23 ?i23 ?l23 ?c23 ?k23 ?a24 ?i24 ?l24 ?c24 ?k24 ?a25 ?i25 ?l25 ?c25 ?k25 ?pg ?hd ?po ?sa ?mk ?kc ?nI ?nA ?xB ?kB ?bB ?tB ?gaB ?ggB ?hdB ?clB ?moB ?sg ?tk ?exCC ?hdCC ?tyCC ?qBC ?qBB ?z_type ?z_int ?z_tuple ?z_str ?z_len ?z_all ?z_range ?z_abs ?z_isinstance ?z_bool ?z_list ?z_enumerate ?z_min ?z_sum ?z_divmod ?z_zip ?z_max
    (case gC => k_is)
    (case gB => k_is)
    (case gCC => k_is)
    (case a0 => k_is)
    (case l0 => k_is)
    (case c0 => k_is)
    (case k0 => k_is)
    (case a1 => k_is)
    (case l1 => k_is)
    (case c1 => k_is)
    (case k1 => k_is)
    (case a2 => k_is)
    (case l2 => k_is)
    (case c2 => k_is)
    (case k2 => k_is)
    (case a3 => k_is)
    (case l3 => k_is)
    (case c3 => k_is)
    (case k3 => k_is)
    (case a4 => k_is)
    (case l4 => k_is)
    (case c4 => k_is)
    (case k4 => k_is)
    (case a5 => k_is)
    (case l5 => k_is)
    (case c5 => k_is)
    (case k5 => k_is)
    (case a6 => k_is)
    (case l6 => k_is)
    (case c6 => k_is)
    (case k6 => k_is)
    (case a7 => k_is)
    (case l7 => k_is)
    (case c7 => k_is)
    (case k7 => k_is)
    (case a8 => k_is)
    (case l8 => k_is)
    (case c8 => k_is)
    (case k8 => k_is)
    (case a9 => k_is)
    (case l9 => k_is)
    (case c9 => k_is)
    (case k9 => k_is)
    (case a10 => k_is)
    (case l10 => k_is)
    (case c10 => k_is)
    (case k10 => k_is)
    (case a11 => k_is)
    (case l11 => k_is)
    (case c11 => k_is)
    (case k11 => k_is)
    (case a12 => k_is)
    (case l12 => k_is)
    (case c12 => k_is)
    (case k12 => k_is)
    (case a13 => k_is)
    (case l13 => k_is)
    (case c13 => k_is)
    (case k13 => k_is)
    (case a14 => k_is)
    (case l14 => k_is)
    (case c14 => k_is)
    (case k14 => k_is)
    (case a15 => k_is)
    (case l15 => k_is)
    (case c15 => k_is)
    (case k15 => k_is)
    (case a16 => k_is)
    (case l16 => k_is)
    (case c16 => k_is)
    (case k16 => k_is)
    (case a17 => k_is)
    (case l17 => k_is)
    (case c17 => k_is)
    (case k17 => k_is)
    (case a18 => k_is)
    (case l18 => k_is)
    (case c18 => k_is)
    (case k18 => k_is)
    (case a19 => k_is)
    (case l19 => k_is)
    (case c19 => k_is)
    (case k19 => k_is)
    (case a20 => k_is)
    (case l20 => k_is)
    (case c20 => k_is)
    (case k20 => k_is)
    (case a21 => k_is)
    (case l21 => k_is)
    (case c21 => k_is)
    (case k21 => k_is)
    (case a22 => k_is)
    (case i22 => k_is)
    (case l22 => k_is)
    (case c22 => k_is)
    (case k22 => k_is)
    (case a23 => k_is)
    (case i23 => k_is)
    (case l23 => k_is)
    (case c23 => k_is)
    (case k23 => k_is)
    (case a24 => k_is)
    (case i24 => k_is)
    (case l24 => k_is)
    (case c24 => k_is)
    (case k24 => k_is)
    (case a25 => k_is)
    (case i25 => k_is)
    (case l25 => k_is)
    (case c25 => k_is)
    (case k25 => k_is)
    (case pg => k_is)
    (case hd => k_is)
    (case po => k_is)
    (case sa => k_is)
    (case mk => k_is)
    (case kc => k_is)
    (case nI => k_is)
    (case nA => k_is)
    (case xB => k_exc)
    (case kB => k_is)
    (case bB => k_is)
    (case tB => k_is)
    (case gaB => k_is)
    (case ggB => k_is)
    (case hdB => k_is)
    (case clB => k_is)
    (case moB => k_is)
    (case sg => k_is)
    (case tk => k_is)
    (case exCC => k_is)
    (case hdCC => k_is)
    (case tyCC => k_is)
    (case qBC => k_is)
    (case qBB => k_is)
    (case z_type => k_is)
    (case z_int => k_is)
    (case z_tuple => k_is)
    (case z_str => k_is)
    (case z_len => k_is)
    (case z_all => k_is)
    (case z_range => k_is)
    (case z_abs => k_is)
    (case z_isinstance => k_is)
    (case z_bool => k_is)
    (case z_list => k_is)
    (case z_enumerate => k_is)
    (case z_min => k_is)
    (case z_sum => k_is)
    (case z_divmod => k_is)
    (case z_zip => k_is)
    (case z_max => k_is)

