import PyProof.Rows.All
import Wide.All
import OpenK.AllK
import Wide.FinOn
import PySem.Challenge.RW_stagecut_k44_texts_of_clauses_and_proofs
import HandS.ForMost
import HandS.ForExc
import HandS.Codes
import HandS.StrMore
import HandS.IsInst
import HandS.More
import HandS.Zip
import HandS.WideBits
import HandS.CallLocal
import HandS.DictComp
import HandS.TupLe
import HandS.Conv
import HandS.Zip0
import HandS.TupAny
import HandS.Star
import HandS.AnyAll
import HandS.ExcInit
import HandS.ExcField
import HandS.ExcIs
import KE.KExcIs
import HandS.TryOnly
import KE.KTupSum
import PyProof.StrBlock2
import HandS.NoneIn
import HandS.FStr
import HandS.RaiseMore
import PyProof.SeqIndex
import PyProof.Rows.StrSplitCount
import PyProof.Rows.StrSplitAre
import PyProof.StrLawsTight
import PyProof.StrLawsChain
import HandS.EndTab
set_option Elab.async false
set_option linter.all false
set_option maxRecDepth 100000
set_option maxHeartbeats 8000000
set_option pp.maxSteps 500
/-! enumerate of a tuple. -/
namespace EnT
open PySem PySem.Spec PyProof.Rows L2
open PySem.Sem (wp)
open PySem.AutoSeq1 (wpAny_loadPart')
theorem draws_tup {prog : Program} {w : World} {A : Around} (hh : A.handled = none) (it tp : Addr) (hne : tp ≠ it) (vals : Array Value) :
    Draws prog w A it [it, tp] vals.size (fun i v => vals[i]? = some v) (fun i h => h.IsTupleIter it tp i ∧ h.IsTuple tp vals) where
  live := fun _ _ q => by
    obtain ⟨⟨ob, e, _⟩, _⟩ := q
    exact ⟨ob, e⟩
  frame := fun _ _ _ q k => ⟨q.1.at fun ob e => k it (by simp) ob e, q.2.at fun ob e => k tp (by simp) ob e⟩
  item := fun i s Q E hi q k => by
    refine RZ.nextOf_tuple_item q.1 q.2 (x := vals[i]) (by simp [hi]) fun hp q1 q2 => ?_
    exact k _ hp s.toks (by simp [hi]) ⟨q1, q.2.extBut q2.extBut hne⟩ q2
  done := fun s Q E q k => RZ.nextOf_tuple_end hh q.1 q.2 (by simp) k
abbrev itO (tp : Addr) : Obj := { cls := .type "tuple_iterator", data := .fields #[.ref tp, .int 0 0] }
abbrev enO (it : Addr) : Obj := { cls := .type "enumerate", data := .fields #[.none, .bool false, .ref it, rawInt 0, .none, .none] }
theorem new_enumT (tp : Addr) (vals : Array Value) (n : Nat) (dct : Option Addr) (sl : Array (Option Value)) :
    Meets (Builtin.«enumerate.__new__» ⟨[.type "enumerate", .ref tp], []⟩) (fun _ R s => s.heap.get? tp = some { cls := .type "tuple", dict := dct, data := .seq vals n, slots := sl } ∧
      R (.ok (.ret (.ref (s.heap.push (itO tp)).objs.size))) { s with heap := (s.heap.push (itO tp)).push (enO s.heap.objs.size) }) := by
  refine .of_wp fun prog w A R s hq => ?_
  obtain ⟨hp, gs, dd, tk, rest⟩ := s
  obtain ⟨ht, q⟩ := hq
  have sub := sub_enumerate
  have isT : Heap.IsTuple (Shared.heap ⟨hp, gs, dd, tk, rest⟩) tp vals := ⟨_, ht, rfl, n, rfl⟩
  wp_walk using wpAny_loadPart' ht
  refine wpAny_stack_any fun _ => wpAny_pure ?_
  split
  · rename_i c _ _ _ _ _
    cases (c == Value.type "enumerate")
    · wp_walk using wpAny_loadPart' ht, wpAny_pyIter_tuple isT
      exact ⟨_, rfl, q⟩
    · wp_walk using wpAny_loadPart' ht, wpAny_pyIter_tuple isT
      exact ⟨_, rfl, q⟩
  · wp_walk using wpAny_loadPart' ht, wpAny_pyIter_tuple isT
    exact ⟨_, rfl, q⟩
section
variable {prog : Program} {w : World} {A : Around} {E : Value → Shared → Prop} {s : Shared}
theorem call_enumT {tp : Addr} {vals : Array Value} {Q : Value → Shared → Prop} (hT : s.heap.IsTuple tp vals)
    (k : ∀ hp, IsEnum hp (s.heap.objs.size + 1) s.heap.objs.size 0 .none → hp.IsTupleIter s.heap.objs.size tp 0 → (∀ b o, s.heap.get? b = some o → hp.get? b = some o) → Q (.ref (s.heap.objs.size + 1)) { s with heap := hp }) :
    wpAny (model prog w) A (call (.type "enumerate") [.ref tp]) Q E s := by
  obtain ⟨⟨cl, dct, dt, sl⟩, ht, e1, n, e2⟩ := hT
  obtain rfl : cl = .type "tuple" := e1
  obtain rfl : dt = .seq vals n := e2
  refine callType_new F.called_enumerate (by decide) (F.typeCall_enumerate_1 _) (F.newCall_enumerate_1 _) (fun ob => F.args_object_init_2 ob _) F.entry_enumerate_new (new_enumT tp vals n dct sl) ⟨ht, ?_⟩
  have sz : (s.heap.push (itO tp)).objs.size = s.heap.objs.size + 1 := Heap.size_push ..
  show _ ∧ _
  rw [sz]
  have en : IsEnum ((s.heap.push (itO tp)).push (enO s.heap.objs.size)) (s.heap.objs.size + 1) s.heap.objs.size 0 .none := by
    have g := Heap.get?_push_size (s.heap.push (itO tp)) (o := enO s.heap.objs.size) rfl
    rw [sz] at g
    exact g
  exact ⟨⟨_, en, rfl⟩, k _ en ⟨_, Heap.get?_push_of_some _ (Heap.get?_push_size _ rfl), rfl, rfl⟩ fun b o y => Heap.get?_push_of_some _ (Heap.get?_push_of_some _ y)⟩
end
/-- the tuple at a at each turn, its items in new pairs -/
def ItT (K : PySem.W.Frag) (a : Addr) : It :=
  ⟨fun i H => ∃ (xs : List V) (x : V), SqT K H a xs ∧ xs[i]? = some x, fun i H v H' => ∃ T x, v = .ref T ∧ H T = none ∧ H' = upd H T (.tup [.int (i : Nat), x]) ∧ ∀ xs, SqT K H a xs → xs[i]? = some x, fun i H => ∃ xs : List V, SqT K H a xs ∧ xs.length ≤ i⟩
theorem turn {P : Program} {w : World} {K : PySem.W.Frag} {elts : List Expr} {kk : Nat} {tpos : Pos} (a e it : Addr) :
    Turn P w K (.Tuple elts kk tpos) (ItT K a) [e, it] e (fun i h => (∃ old, IsEnum h e it ((i : Nat) : Int) old) ∧ h.IsTupleIter it a i ∧ e ≠ it) where
  mem := by simp
  obj := fun i h q b hb => by
    obtain ⟨⟨old, en⟩, ⟨o, ho, hc, hd⟩, _⟩ := q
    rcases (show b = e ∨ b = it by simpa using hb) with rfl | rfl
    · exact ⟨_, en, fun v z => nomatch z⟩
    · exact ⟨o, ho, fun v z => by rw [hd] at z; cases z⟩
  keep := fun i h h' q k => by
    obtain ⟨⟨old, en⟩, ti, ne⟩ := q
    exact ⟨⟨old, k e (by simp) _ en⟩, ti.at fun o z => k it (by simp) o z, ne⟩
  item := by
    intro X hP hw hK hc i pins s σ H E I hf q hg
    subst hP hw hK
    obtain ⟨⟨old, en⟩, ti, ne⟩ := q
    obtain ⟨xs, x, hq, hx⟩ := hg
    obtain ⟨its, rv, p, hz⟩ := I.tuple hq
    have p : s.heap.IsTuple a its.toArray := p
    obtain ⟨u, hu, ru⟩ := rv.get hx
    have an : a ≠ it := fun z => by
      obtain ⟨o1, g1, c1, _⟩ := p
      obtain ⟨o2, g2, c2, _⟩ := ti
      rw [z, g2] at g1
      cases g1
      rw [c2] at c1
      exact absurd c1 (by decide)
    have ea : e ≠ a := fun z => by
      obtain ⟨o1, g1, c1, _⟩ := p
      have en2 : s.heap.get? e = some _ := en
      rw [z, g1] at en2
      cases en2
      exact absurd (show Value.type "enumerate" = Value.type "tuple" from c1) (by decide)
    have el : e < s.heap.objs.size := Heap.lt_size en
    have il : it < s.heap.objs.size := by
      obtain ⟨_, z, _⟩ := ti
      exact Heap.lt_size z
    have hl := (List.getElem?_eq_some_iff.mp hu).1
    refine wpAny_pyNext_enum_itemD (draws_tup (show X.A.in1.handled = none from I.ok.hd hc) it a an its.toArray) en ⟨ti, p⟩ (by simpa using hl) ne (by simp [ne, ea]) fun y h' tk hy ho hs hT hsz hk => ?_
    obtain rfl : u = y := by
      have z : its.toArray[i]? = some y := hy
      have z2 : its.toArray[i]? = some u := by simpa using hu
      rw [z] at z2
      exact (Option.some.inj z2).symm
    refine ⟨_, rfl, wpAny_letOwnedTupleGo_enum (s := { s with heap := h', toks := tk + 1 }) ho fun h2 en2 sb => ?_⟩
    have hT2 : h2.get? s.heap.objs.size = some { cls := .type "tuple", data := .seq #[.int i tk, u] } := (sb.2 _ (Nat.ne_of_gt el)).trans hT
    have old2 : ∀ b o, b ≠ e → b ≠ it → s.heap.get? b = some o → h2.get? b = some o := fun b o n1 n2 z => (sb.2 b n1).trans (hk b o n1 n2 z)
    have fresh : ObjOk X.prog X.w (upd H s.heap.objs.size (.tup [.int (i : Nat), x])) h2 s.heap.objs.size (.tup [.int (i : Nat), x]) := ⟨by show 2 ≤ sizeLine; decide, [.int i tk, u], .cons ⟨_, rfl⟩ (.cons ru .nil), ⟨_, hT2, rfl, _, rfl⟩⟩
    have I1 : Inv X pins σ (upd H s.heap.objs.size (.tup [.int (i : Nat), x])) { s with heap := h2, toks := tk + 1 } :=
      I.turnedNew (ch := [e, it]) (fun b ob hb z => old2 b ob (fun y => hb (by simp [y])) (fun y => hb (by simp [y])) z) hf (Nat.le_refl _) fresh
    refine ⟨.ref s.heap.objs.size, _, I1, rfl, ⟨_, x, rfl, I.hok.fresh (Nat.le_refl _), rfl, fun ys hy => by rw [I.tuple_inj hy hq]; exact hx⟩, ⟨⟨u, ?_⟩, hs.1.at fun o z => (sb.2 it ne.symm).trans z, ne⟩, fun b hb => ?_⟩
    · rw [show ((i + 1 : Nat) : Int) = (i : Int) + 1 by omega]
      exact en2
    · have lt : b < s.heap.objs.size := by
        rcases (show b = e ∨ b = it by simpa using hb) with rfl | rfl
        · exact el
        · exact il
      rw [upd_ne (Nat.ne_of_lt lt)]
      exact (hf b hb).1
  done := by
    intro X hP hw hK hc i pins s σ H E I hf q hg
    subst hP hw hK
    obtain ⟨⟨old, en⟩, ti, ne⟩ := q
    obtain ⟨xs, hq, hx⟩ := hg
    obtain ⟨its, rv, p, hz⟩ := I.tuple hq
    have p : s.heap.IsTuple a its.toArray := p
    obtain ⟨f0, f1, f2, f3, f4, f5⟩ := hf it (by simp)
    have hl := rv.length
    have hend : its.toArray[i]? = none := by simp; omega
    have hT : s.TypeIs (.ref e) "enumerate" := ⟨_, en, rfl⟩
    unfold pyNext
    refine wpAny_bind (wpAny_attempt (wpAny_callSpecial?_slot (name := Str.ofString "__next__") hT F.slot_enumerate_next (wpAny_call_entry F.slot_enumerate_next hT F.entry_enumerate_next ?_ (F.args_enumerate_next_1 _))))
    show wpAny _ _ (field (.ref e) 2 >>= _) _ _ _
    refine wpAny_bind (wpAny_field en rfl (x := .ref it) rfl ?_)
    refine wpAny_bind (RZ.nextOf_tuple_end (show X.A.in1.handled = none from I.ok.hd hc) ti p hend fun h' x eb hx' => ?_)
    obtain ⟨o, ho, hcl⟩ := hx'
    refine wpAny_bind (wpAny_isInstance (T := "StopIteration") (b := true) ⟨o, ho, hcl⟩ isSubtype_stop ?_)
    exact wpAny_pure ⟨rfl, I.turned (t' := s.toks) (fun b o hb z => eb b o hb z) f0 f1 f3 f4 f5⟩
  self := fun A i s Q E q h => by
    obtain ⟨⟨_, en⟩, _⟩ := q
    exact wpAny_pyIter_enum en h
def iEnT (K : PySem.W.Frag) (ta : TA) : TI := fun σ H R => ta σ H fun vs H1 => ∃ a xs, vs = [.ref a] ∧ SqT K H1 a xs ∧ R (ItT K a) H1
theorem pi_enT {X : Cx} {e : Expr} {ta : TA} {p pos tpos : Pos} {elts : List Expr} {kk : Nat} (hg : Gl X "enumerate") (hm : X.mg "enumerate" = none) (ha : PA X [e] ta) (hs : starEach [e] X.env = [(false, eval e X.env)] := by rfl) :
    PI X (.Tuple elts kk tpos) (.Call (.Name "enumerate" p) [e] [] pos) (iEnT X.K ta) := by
  refine ⟨fun pins s σ H R I h => ?_⟩
  refine Call_ (ld_blt I hg hm boot_enumerate (PyProof.Rows.callWith_type1 (thn (ha.run pos pins s σ H _ I h) fun us s1 ⟨vs, H1, I1, r1, q1⟩ => ?_) hs rfl))
  obtain ⟨a, xs, rfl, hq, q⟩ := q1
  cases r1 with
  | cons r rr =>
    cases rr
    cases r
    obtain ⟨its, rv, pt, hz⟩ := I1.tuple hq
    refine call_enumT (show s1.heap.IsTuple a its.toArray from pt) fun hp en ti hk => wpAny_pyIter_enum en ?_
    have I2 : Inv X pins σ H1 { s1 with heap := hp } := I1.kept (t' := s1.toks) hk
    refine ⟨s1.heap.objs.size + 1, [s1.heap.objs.size + 1, s1.heap.objs.size], _, _, H1, rfl, I2, turn a (s1.heap.objs.size + 1) s1.heap.objs.size, ⟨⟨.none, en⟩, ti, Nat.succ_ne_self _⟩, fun b hb => ?_, q⟩
    have le : s1.heap.objs.size ≤ b := by
      rcases (show b = s1.heap.objs.size + 1 ∨ b = s1.heap.objs.size by simpa using hb) with z | z <;> rw [z]
      · exact Nat.le_add_right _ _
      · exact Nat.le_refl _
    exact I1.fpOk le (I1.hok.fresh le)
/-- the loop over it -/
theorem for_enT {K : PySem.W.Frag} {a : Addr} {xs : List V} {g : TG} {tb : TS} {D : Ends} {σ : L2.St} {H : Hp} (Pv : Nat → L2.St → Hp → Prop) (h0 : Pv 0 σ H) (hl : ∀ i σ H, i ≤ xs.length → Pv i σ H → SqT K H a xs)
    (hs : ∀ i x T σ H, xs[i]? = some x → Pv i σ H → H T = none → g (.ref T) σ (upd H T (.tup [.int (i : Nat), x])) fun σ2 H2 => tb { D with nx := Pv (i + 1), ct := Pv (i + 1), bk := D.nx } σ2 H2) (hd : ∀ σ H, Pv xs.length σ H → D.nx σ H) :
    ∃ W : Nat → Nat → L2.St → Hp → Prop, (∃ m, W 0 m σ H) ∧ ∀ i m σ H, W i m σ H →
      ((ItT K a).stop i H ∧ D.nx σ H) ∨ ((ItT K a).go i H ∧ ∃ N : L2.St → Hp → Prop, (∀ σ' H', N σ' H' → ∃ m', m' < m ∧ W (i + 1) m' σ' H') ∧ ∀ x H', (ItT K a).yld i H x H' → g x σ H' fun σ2 H2 => tb { D with nx := N, ct := N, bk := D.nx } σ2 H2) := by
  refine ⟨fun i m σ H => m = xs.length - i ∧ i ≤ xs.length ∧ Pv i σ H, ⟨xs.length, by simp, Nat.zero_le _, h0⟩, ?_⟩
  rintro i m σ H ⟨rfl, hi, q⟩
  have sq := hl i σ H hi q
  by_cases lt : i < xs.length
  · refine .inr ⟨⟨xs, xs[i], sq, by simp [lt]⟩, Pv (i + 1), fun σ' H' q' => ⟨xs.length - (i + 1), by omega, rfl, lt, q'⟩, fun v H' y => ?_⟩
    obtain ⟨T, x, rfl, nT, rfl, hx⟩ := y
    exact hs i x T σ H (hx xs sq) q nT
  · obtain rfl : i = xs.length := by omega
    exact .inl ⟨⟨xs, sq, Nat.le_refl _⟩, hd σ H q⟩
end EnT

/-! The law's draws; data. -/
namespace C1
open PySem PySem.Spec PyProof.Rows L2 SX
def topS (i : Nat) : Stmt := PySem.Challenge.pw_stagecut_k44_texts_of_clauses_and_proofs.main.body.getD i (.Pass ⟨0, 0, 0, 0⟩)
abbrev sDraws : Stmt := topS 27
abbrev sNext : Stmt := topS 28
theorem scDraws : FnScope ["script", "many", "draws", "mixed", "k", "cell", "rest", "turn"] ["script", "many"] (defScope sDraws) := ⟨rfl, rfl, rfl, by decide +kernel, rfl, by decide +kernel, by decide +kernel⟩
theorem scNext : FnScope ["w", "many"] ["w", "many"] (defScope sNext) := ⟨rfl, rfl, rfl, by decide +kernel, rfl, by decide +kernel, by decide +kernel⟩
theorem cut_ints (ds : List Int) (lo hi : Option Int) : ∃ es : List Int, cutV (ds.map V.int) lo hi = es.map V.int ∧ es.length ≤ ds.length := by
  refine ⟨(ds.drop (HT.sIx ds.length 0 lo)).take (HT.sIx ds.length ds.length hi - HT.sIx ds.length 0 lo), ?_, ?_⟩
  · unfold cutV
    rw [List.length_map, List.map_take, List.map_drop]
  · rw [List.length_take, List.length_drop]
    omega
theorem ap_int (ds : List Int) (z : Int) : ds.map V.int ++ [V.int z] = (ds ++ [z]).map V.int := by
  rw [List.map_append]
  rfl
theorem same_new {H : Hp} {p : Addr} {o : HO} (n : H p = none) : Same H (upd H p o) := fun b x e => by
  rw [upd_ne (ne_of_none e n)]
  exact e
theorem same_put {H H1 : Hp} {l : Addr} {o : HO} (g : Same H H1) (n : H l = none) : Same H (upd H1 l o) := fun b x e => by
  rw [upd_ne (ne_of_none e n)]
  exact g b x e
section
variable {P : Program} {w : World} {K : PySem.W.Frag} {mg : Str → Option Value} {base : Heap}
/-- the built-ins that the law calls -/
structure Bl (mg : Str → Option Value) : Prop where
  len : mg "len" = none
  range : mg "range" = none
  abs : mg "abs" = none
  int : mg "int" = none
  str : mg "str" = none
def spDraws (K : PySem.W.Frag) : Sp := fun vs H Q _ => ∃ (a : Addr) (ns : List Int) (m : Nat), vs = [.ref a, .int ((m : Nat) : Int)] ∧ SqL K H a (ns.map V.int) ∧ ns.length ≤ 63 ∧ m ≤ 1000 ∧
  ∀ (H' : Hp) (p : Addr) (ds : List Int), Same H H' → H p = none → H' p = some (.lst (ds.map V.int)) → ds.length ≤ 10000 → Q (.ref p) H'
theorem ok_draws {f : Addr} {fd : FuncData} (F : Fun K "_law_draws" "_law_draws" sDraws f fd) (B : Bl mg) : FnOk P w K mg base CX0 1 f fd ["script", "many"] (spDraws K) := by
  refine F.ok scDraws (fun vs H Q E h => ?_) (fun cdv A outer s H vs Q E hr h => ?_)
  · obtain ⟨a, ns, m, rfl, _⟩ := h
    rfl
  · obtain ⟨a, ns, m, rfl, hS, hlen, hm, q⟩ := h
    have nd := scDraws.nd
    refine ⟨_, (pss_cons (ps_set (i := 2) nd rfl (.inl rfl) (pe_lst pa_nil))
      (pss_cons (ps_set (i := 3) nd rfl (.inl rfl) (pe_int))
      (pss_cons (ps_for PassesOwn.never rfl (pi_range1 (by rfl) B.range (pa_cons (pe_callB call_len_seq (by rfl) B.len PySem.boot_len (pa_cons (pv 0) pa_nil)) pa_nil)) (pg_name (i := 4) nd rfl (.inl rfl)) (pss_cons (ps_set (i := 5) nd rfl (.inl rfl) (pe_callB call_abs (by rfl) B.abs (by decide +kernel) (pa_cons (pe_callTy call_int1 (by rfl) B.int (by decide +kernel) (pa_cons (pe_ix ix_list (pv 0) (pv 4) (fun _ _ => rfl)) pa_nil)) pa_nil)))
      (pss_cons (ps_set (i := 3) nd rfl (.inl rfl) (pe_op op_mod (pe_callTy call_int1 (by rfl) B.int (by decide +kernel) (pa_cons (pe_op op_add (pe_op op_add (pe_op op_mul (pv 3) (pe_int)) (pe_op op_mod (pv 5) (pe_int))) (pv 4)) pa_nil)) (pe_int)))
      (pss_cons (ps_set (i := 6) nd rfl (.inl rfl) (pe_int))
      (C8.pss_cut (ps_if (pt_cmpR op_ge (pv 5) (pe_op op_pow pe_int pe_int) (nomark _)) (pss_one (ps_set (i := 6) nd rfl (.inl rfl) (pv 5)))
      (pss_cons (ps_expr (pe_bm PySem.F.plainAttrs_list PySem.F.slot_list_append PySem.F.type_list_append mt_append (pv 2) (pa_cons (pe_op op_mod (pe_callTy call_int1 (by rfl) B.int (by decide +kernel) (pa_cons (pv 5) pa_nil)) (pe_int)) pa_nil)))
      (pss_one (ps_expr (pe_bm PySem.F.plainAttrs_list PySem.F.slot_list_append PySem.F.type_list_append mt_append (pv 2) (pa_cons (pe_op op_mod (pe_op op_mod (pe_callTy call_int1 (by rfl) B.int (by decide +kernel) (pa_cons (pe_op op_add (pe_op op_mul (pv 3) (pe_int)) (pe_int)) pa_nil)) (pe_int)) (pe_int)) pa_nil))))))
      (pss_one (ps_for PassesOwn.never rfl (pi_range1 (by rfl) B.range (pa_cons (pe_int) pa_nil)) (pg_name (i := 7) nd rfl (.inl rfl)) (pss_one (ps_if (pt_cmpR op_gt (pv 6) pe_int (nomark _)) (pss_cons (ps_expr (pe_bm PySem.F.plainAttrs_list PySem.F.slot_list_append PySem.F.type_list_append mt_append (pv 2) (pa_cons (pe_op op_mod (pe_callTy call_int1 (by rfl) B.int (by decide +kernel) (pa_cons (pv 6) pa_nil)) (pe_int)) pa_nil)))
      (pss_one (ps_set (i := 6) nd rfl (.inl rfl) (pe_op op_fdiv (pv 6) (pe_int))))) pss_nil)))))))))
      (pss_cons (ps_for PassesOwn.never rfl (pi_range1 (by rfl) B.range (pa_cons (pv 1) pa_nil)) (pg_name (i := 4) nd rfl (.inl rfl)) (pss_cons (ps_set (i := 3) nd rfl (.inl rfl) (pe_op op_mod (pe_callTy call_int1 (by rfl) B.int (by decide +kernel) (pa_cons (pe_op op_add (pe_op op_add (pe_op op_mul (pv 3) (pe_int)) (pv 4)) (pe_int)) pa_nil)) (pe_int)))
      (pss_one (ps_expr (pe_bm PySem.F.plainAttrs_list PySem.F.slot_list_append PySem.F.type_list_append mt_append (pv 2) (pa_cons (pe_op op_mod (pe_callTy call_int1 (by rfl) B.int (by decide +kernel) (pa_cons (pv 3) pa_nil)) (pe_int)) pa_nil))))))
      (pss_one (ps_ret (pe_slice sl_list (pv 2) po_none (po_some (pv 1))))))))), ?_⟩
    refine ⟨Nat.zero_le _, fun l nl => ?_⟩
    have big : 100000 ≤ sizeLine := by
      rw [sizeLine_eq]
      decide
    let Iv : Nat → L2.St → Hp → Prop := fun n σ H' => ∃ (mixed : Int) (ds : List Int) (y4 y5 y6 y7 : Option V), σ = [some (.ref a), some (.int ((m : Nat) : Int)), some (.ref l), some (.int mixed), y4, y5, y6, y7] ∧ Same H H' ∧ H' l = some (.lst (ds.map V.int)) ∧ ds.length ≤ n ∧ 0 ≤ mixed ∧ mixed < 65537
    have h65 : ∀ x : Int, 0 ≤ x % 65537 ∧ x % 65537 < 65537 := fun x => ⟨Int.emod_nonneg x (by decide), Int.emod_lt_of_pos x (by decide)⟩
    refine ⟨_, rfl, a, ns.map V.int, rfl, .inl ((same_new nl).seq hS), ?_⟩
    rw [List.length_map]
    refine ⟨_, rfl, by omega, by omega, for_range (fun i σ H' => Iv (62 * i) σ H') ⟨7, [], none, none, none, none, rfl, same_new nl, upd_same, Nat.le_refl 0, by decide, by decide⟩ (fun i σ H1 hi h1 => ?_) (fun σ H1 h1 => ?_)⟩
    · obtain ⟨mixed, ds, y4, y5, y6, y7, rfl, g, el, dl, m0, m1⟩ := h1
      have hi2 : i < ns.length := by omega
      have hg : (ns.map V.int)[i]? = some (.int ns[i]) := by
        rw [List.getElem?_map, List.getElem?_eq_getElem hi2]
        rfl
      rw [Int.zero_add]
      refine ⟨_, rfl, _, rfl, a, _, _, _, rfl, rfl, g.seq hS, atI_nat (j := i) hg, .inl ⟨_, rfl, _, rfl, ?_⟩⟩
      generalize (if ns[i] < 0 then -ns[i] else ns[i]) = c
      refine ⟨_, rfl, _, _, rfl, rfl, .inl ⟨by omega, by omega⟩, _, rfl, _, _, rfl, rfl, (show (0 : Int) < 1000003 by decide), _, _, rfl, rfl, _, rfl, _, _, rfl, rfl, .inl ⟨_, rfl, _, _, rfl, rfl, (show (0 : Int) < 65537 by decide), ?_⟩⟩
      have mx := h65 (mixed * 48271 + c % 1000003 + ((i : Nat) : Int))
      -- behind the if: what the loop over 60 turns asks
      refine ⟨fun σ H2 => ∃ (ds : List Int) (rest : Int) (y7 : Option V), σ = [some (.ref a), some (.int ((m : Nat) : Int)), some (.ref l), some (.int ((mixed * 48271 + c % 1000003 + ((i : Nat) : Int)) % 65537)), some (.int ((i : Nat) : Int)), some (.int c), some (.int rest), y7] ∧ Same H H2 ∧ H2 l = some (.lst (ds.map V.int)) ∧ ds.length ≤ 62 * i + 2, ?_, ?_⟩
      · refine ⟨_, rfl, _, _, rfl, rfl, ⟨by decide, by decide, by decide⟩, _, _, rfl, rfl, _, rfl, ite2 (fun a1 => ?_) (fun a1 => ?_)⟩
        · exact ⟨_, rfl, ds, c, _, rfl, g, el, by omega⟩
        · refine ⟨_, rfl, .inl ⟨rfl, _, SqL.of el⟩, _, rfl, .inl ⟨_, rfl, _, _, rfl, rfl, (show (0 : Int) < 997 by decide), l, _, _, rfl, rfl, el, ?_, ?_⟩⟩
          · rw [List.length_map]
            omega
          · rw [ap_int]
            refine ⟨_, rfl, .inl ⟨rfl, _, SqL.of upd_same⟩, _, rfl, _, _, rfl, rfl, .inl ⟨by omega, by omega⟩, _, _, rfl, rfl, .inl ⟨_, rfl, _, _, rfl, rfl, (show (0 : Int) < 65521 by decide), _, _, rfl, rfl, (show (0 : Int) < 997 by decide), l, _, _, rfl, rfl, upd_same, ?_, ?_⟩⟩
            · rw [List.length_map, List.length_append]
              show ds.length + 1 < sizeLine
              omega
            · rw [ap_int]
              refine ⟨_, 0, _, rfl, same_put (same_put g nl) nl, upd_same, ?_⟩
              rw [List.length_append, List.length_append]
              show ds.length + 1 + 1 ≤ _
              omega
      · rintro σ H2 ⟨ds, rest, y7, rfl, g, el, dl⟩
        refine ⟨_, rfl, by decide, by decide, for_range (fun j σ H3 => ∃ (ds : List Int) (rest : Int) (y7 : Option V), σ = [some (.ref a), some (.int ((m : Nat) : Int)), some (.ref l), some (.int ((mixed * 48271 + c % 1000003 + ((i : Nat) : Int)) % 65537)), some (.int ((i : Nat) : Int)), some (.int c), some (.int rest), y7] ∧ Same H H3 ∧ H3 l = some (.lst (ds.map V.int)) ∧ ds.length ≤ 62 * i + 2 + j)
          ⟨ds, rest, y7, rfl, g, el, dl⟩ (fun j σ H3 hj h3 => ?_) (fun σ H3 h3 => ?_)⟩
        · obtain ⟨ds, rest, y7, rfl, g, el, dl⟩ := h3
          have hj2 : j < 60 := hj
          refine ⟨_, rfl, _, _, rfl, rfl, _, rfl, ite2 (fun a1 => ?_) (fun a1 => ?_)⟩
          · refine ⟨_, rfl, .inl ⟨rfl, _, SqL.of el⟩, _, rfl, .inl ⟨_, rfl, _, _, rfl, rfl, (show (0 : Int) < 997 by decide), l, _, _, rfl, rfl, el, ?_, ?_⟩⟩
            · rw [List.length_map]
              omega
            · rw [ap_int]
              refine ⟨_, rfl, _, _, rfl, rfl, ⟨by decide, by decide⟩, _, _, _, rfl, same_put g nl, upd_same, ?_⟩
              rw [List.length_append]
              show ds.length + 1 ≤ _
              omega
          · exact ⟨ds, rest, _, rfl, g, el, by omega⟩
        · obtain ⟨ds, rest, y7, rfl, g, el, dl⟩ := h3
          have dl2 : ds.length ≤ 62 * i + 2 + 60 := dl
          exact ⟨_, ds, _, _, _, _, rfl, g, el, by omega, mx.1, mx.2⟩
    · obtain ⟨mixed, ds, y4, y5, y6, y7, rfl, g, el, dl, m0, m1⟩ := h1
      have dl2 : ds.length ≤ 4000 := by omega
      refine ⟨_, rfl, _, rfl, by omega, by omega, for_range (fun j σ H2 => Iv (4000 + j) σ H2) ⟨mixed, ds, y4, y5, y6, y7, rfl, g, el, by omega, m0, m1⟩ (fun j σ H2 hj h2 => ?_) (fun σ H2 h2 => ?_)⟩
      · obtain ⟨mixed, ds, y4, y5, y6, y7, rfl, g, el, dl, m0, m1⟩ := h2
        have hj2 : j < m := by omega
        refine ⟨_, rfl, _, _, rfl, rfl, .inl ⟨by omega, by omega⟩, _, rfl, _, _, rfl, rfl, _, _, rfl, rfl, .inl ⟨_, rfl, _, _, rfl, rfl, (show (0 : Int) < 65537 by decide), ?_⟩⟩
        have mx := h65 (mixed * 16807 + (0 + ((j : Nat) : Int)) + 1)
        refine ⟨_, rfl, .inl ⟨rfl, _, SqL.of el⟩, _, rfl, .inl ⟨_, rfl, _, _, rfl, rfl, (show (0 : Int) < 997 by decide), l, _, _, rfl, rfl, el, ?_, ?_⟩⟩
        · rw [List.length_map]
          omega
        · rw [ap_int]
          refine ⟨_, _, _, _, _, _, rfl, same_put g nl, upd_same, ?_, mx.1, mx.2⟩
          rw [List.length_append]
          show ds.length + 1 ≤ _
          omega
      · obtain ⟨mixed, ds, y4, y5, y6, y7, rfl, g, el, dl, m0, m1⟩ := h2
        have dl3 : ds.length ≤ 5000 := by omega
        refine ⟨_, rfl, _, rfl, _, rfl, l, _, rfl, SqL.of el, fun p np => ?_⟩
        obtain ⟨es, e1, e2⟩ := cut_ints ds none (some ((m : Nat) : Int))
        rw [e1]
        exact q _ p es (fun b o e => same_new np b o (g b o e)) (g.free np) upd_same (by omega)
end
/-- the law's world: its draws and how many are taken -/
def wdL (l : Addr) (n : Int) : List (Key × V) := [(.inr ("draws" : Str), .ref l), (.inr ("at" : Str), .int n)]
theorem wd_draws (l : Addr) (n : Int) : valV (wdL l n) (.inr "draws") = some (.ref l) := valV_pos rfl
theorem wd_at (l : Addr) (n : Int) : valV (wdL l n) (.inr "at") = some (.int n) := (valV_neg (show ¬ (Sum.inr ("draws" : Str) : Key) = Sum.inr ("at" : Str) by decide)).trans (valV_pos rfl)
theorem wd_put (l : Addr) (n k : Int) : putK (wdL l n) (.inr ("at" : Str)) (.int k) = wdL l k := by
  have h1 : ¬ (Sum.inr ("draws" : Str) : Key) = Sum.inr ("at" : Str) := by decide
  unfold putK wdL
  simp [h1]
theorem get_draws {H : Hp} {a l : Addr} {n : Int} (h : H a = some (.dK (wdL l n))) : DGet H a (.str "draws") (some (.ref l)) := by
  have g := DGet.k (k := .inr "draws") h
  rw [wd_draws] at g
  exact g
theorem get_at {H : Hp} {a l : Addr} {n : Int} (h : H a = some (.dK (wdL l n))) : DGet H a (.str "at") (some (.int n)) := by
  have g := DGet.k (k := .inr "at") h
  rw [wd_at] at g
  exact g
theorem put_at {H : Hp} {a l : Addr} {n k : Int} (h : H a = some (.dK (wdL l n))) : DPut H a (.str "at") (.int k) (upd H a (.dK (wdL l k))) := by
  have g := DPut.k (k := .inr "at") (v := .int k) h (by rw [sizeLine_eq]; exact (by decide : 2 < 16777216))
  rw [wd_put] at g
  exact g
structure Wd (H : Hp) (a l : Addr) (ds : List Int) : Prop where
  at' : ∃ n : Int, 0 ≤ n ∧ H a = some (.dK (wdL l n))
  dr : H l = some (.lst (ds.map V.int))
  len : ds.length ≤ 10000
/-- all but the world at a is as it was -/
def Kp (a : Addr) (H H' : Hp) : Prop := ∀ b o, b ≠ a → H b = some o → H' b = some o
section
variable {a l : Addr} {ds : List Int} {H H1 H2 : Hp}
theorem Kp.refl (H : Hp) : Kp a H H := fun _ _ _ e => e
theorem Kp.trans (x : Kp a H H1) (y : Kp a H1 H2) : Kp a H H2 := fun b o n e => y b o n (x b o n e)
theorem Wd.ne (W : Wd H a l ds) : l ≠ a := by
  obtain ⟨n, _, e⟩ := W.at'
  exact ne_of W.dr e (by intro z; cases z)
theorem Kp.new {p : Addr} {o : HO} (n : H p = none) : Kp a H (upd H p o) := fun b u _ e => by
  rw [upd_ne (ne_of_none e n)]
  exact e
theorem Wd.new (W : Wd H a l ds) {p : Addr} {o : HO} (n : H p = none) : Wd (upd H p o) a l ds := by
  obtain ⟨k, k0, e⟩ := W.at'
  refine ⟨⟨k, k0, ?_⟩, ?_, W.len⟩
  · rw [upd_ne (ne_of_none e n)]
    exact e
  · rw [upd_ne (ne_of_none W.dr n)]
    exact W.dr
theorem Kp.step {o : HO} : Kp a H (upd H a o) := fun b u n e => by
  rw [upd_ne n]
  exact e
theorem Wd.step (W : Wd H a l ds) {n : Int} (h : 0 ≤ n) : Wd (upd H a (.dK (wdL l n))) a l ds := by
  refine ⟨⟨n, h, upd_same⟩, ?_, W.len⟩
  rw [upd_ne W.ne]
  exact W.dr
theorem Wd.fresh (W : Wd H a l ds) {p : Addr} (n : H p = none) : p ≠ a := fun z => by
  obtain ⟨k, _, e⟩ := W.at'
  rw [z, e] at n
  cases n
end
section
variable {P : Program} {w : World} {K : PySem.W.Frag} {mg : Str → Option Value} {base : Heap}
def spNext : Sp := fun vs H Q _ => ∃ (a l : Addr) (ds : List Int) (m : Int), vs = [.ref a, .int m] ∧ 0 < m ∧ Wd H a l ds ∧ ∀ (r : Nat) H', ((r : Nat) : Int) < m → Kp a H H' → (∀ b, b ≠ a → H' b = H b) → Wd H' a l ds → Q (.int ((r : Nat) : Int)) H'
theorem ok_next {f : Addr} {fd : FuncData} (F : Fun K "_law_next" "_law_next" sNext f fd) (B : Bl mg) : FnOk P w K mg base CX0 1 f fd ["w", "many"] spNext := by
  refine F.ok scNext (fun vs H Q E h => ?_) (fun cdv A outer s H vs Q E hr h => ?_)
  · obtain ⟨a, l, ds, m, rfl, _⟩ := h
    rfl
  · obtain ⟨a, l, ds, m, rfl, hm, W, q⟩ := h
    have hu := hu_of hr
    refine ⟨_, pss_cons (ps_daug hu (pv 0) pe_str pe_int in_add (fun _ _ _ => rfl))
      (pss_cons (ps_if (pt_cmpR op_gt (pe_dget hu (pv 0) pe_str (fun _ _ => rfl)) (pe_callB call_len_seq (by rfl) B.len PySem.boot_len (pa_cons (pe_dget hu (pv 0) pe_str (fun _ _ => rfl)) pa_nil)) (nomark _)) (pss_one (ps_ret pe_int)) pss_nil)
      (pss_one (ps_ret (pe_op op_mod (pe_callTy call_int1 (by rfl) B.int (by decide +kernel) (pa_cons (pe_ix ix_list (pe_dget hu (pv 0) pe_str (fun _ _ => rfl)) (pe_op op_sub (pe_dget hu (pv 0) pe_str (fun _ _ => rfl)) pe_int) (fun _ _ => rfl)) pa_nil)) (pv 1))))), ?_⟩
    obtain ⟨n, n0, e⟩ := W.at'
    refine ⟨_, rfl, a, _, rfl, get_at e, _, _, rfl, rfl, _, put_at e, ?_⟩
    have W1 : Wd (upd H a (.dK (wdL l (n + 1)))) a l ds := W.step (by omega)
    have e1 : (upd H a (.dK (wdL l (n + 1)))) a = some (.dK (wdL l (n + 1))) := upd_same
    refine ⟨_, rfl, a, _, rfl, get_at e1, _, rfl, a, _, rfl, get_draws e1, l, _, rfl, .inl (SqL.of W1.dr), _, _, rfl, rfl, _, rfl, ite2 (fun a1 => ?_) (fun a1 => ?_)⟩
    · exact q 0 _ hm Kp.step (fun b hb => upd_ne hb) W1
    · have b1 : ¬ ((ds.map V.int).length : Int) < n + 1 := fun z => a1 (decide_eq_true z)
      rw [List.length_map] at b1
      obtain ⟨j, ej⟩ : ∃ j : Nat, n + 1 - 1 = ((j : Nat) : Int) := ⟨n.toNat, by omega⟩
      have hj : j < ds.length := by omega
      have hg : (ds.map V.int)[j]? = some (.int ds[j]) := by
        rw [List.getElem?_map, List.getElem?_eq_getElem hj]
        rfl
      refine ⟨_, rfl, a, _, rfl, get_draws e1, _, rfl, a, _, rfl, get_at e1, _, _, rfl, rfl, l, _, _, .int ds[j], rfl, rfl, SqL.of W1.dr, ?_, .inl ⟨_, rfl, _, rfl, _, _, rfl, rfl, hm, ?_⟩⟩
      · rw [ej]
        exact atI_nat (j := j) hg
      · have z0 := Int.emod_nonneg ds[j] (show m ≠ 0 by omega)
        have z1 := Int.emod_lt_of_pos ds[j] hm
        obtain ⟨r, er⟩ : ∃ r : Nat, ds[j] % m = ((r : Nat) : Int) := ⟨(ds[j] % m).toNat, by omega⟩
        show Q (.int (ds[j] % m)) _
        rw [er]
        exact q r _ (by omega) Kp.step (fun b hb => upd_ne hb) W1
end
/-! data without lists: it stays where tuples stay -/
mutual
def noL : PyData → Bool
  | .list _ => false
  | .dict _ => false
  | .tuple ds => noLs ds
  | _ => true
def noLs : List PyData → Bool
  | [] => true
  | d :: ds => noL d && noLs ds
end
mutual
theorem dp_stay {K : PySem.W.Frag} {H H' : Hp} (st : ∀ a xs, SqT K H a xs → SqT K H' a xs) : ∀ (d : PyData) (v : V), Dp K H v d → noL d = true → Dp K H' v d
  | .none, _, h, _ => by cases h; exact .non
  | .bool _, _, h, _ => by cases h; exact .bl _
  | .int _, _, h, _ => by cases h; exact .int _
  | .str _, _, h, _ => by cases h; exact .str _
  | .list _, _, _, n => by cases n
  | .dict _, _, _, n => by cases n
  | .tuple ds, _, h, n => by
    cases h with
    | tup s a => exact .tup (st _ _ s) (dps_stay st ds _ a n)
theorem dps_stay {K : PySem.W.Frag} {H H' : Hp} (st : ∀ a xs, SqT K H a xs → SqT K H' a xs) : ∀ (ds : List PyData) (vs : List V), DpAll K H vs ds → noLs ds = true → DpAll K H' vs ds
  | [], _, h, _ => by cases h; exact .nil
  | d :: ds, _, h, n => by
    cases h with
    | cons a b =>
      have n2 : (noL d && noLs ds) = true := n
      rw [Bool.and_eq_true] at n2
      exact .cons (dp_stay st d _ a n2.1) (dps_stay st ds _ b n2.2)
end
theorem noLs_app : ∀ (a b : List PyData), noLs (a ++ b) = (noLs a && noLs b)
  | [], b => rfl
  | d :: a, b => by
    show (noL d && noLs (a ++ b)) = ((noL d && noLs a) && noLs b)
    rw [noLs_app a b, Bool.and_assoc]
theorem dps_app {K : PySem.W.Frag} {H : Hp} : ∀ {vs : List V} {ds : List PyData} {us : List V} {es : List PyData}, DpAll K H vs ds → DpAll K H us es → DpAll K H (vs ++ us) (ds ++ es)
  | _, _, _, _, .nil, h => h
  | _, _, _, _, .cons a b, h => .cons a (dps_app b h)
theorem dps_len {K : PySem.W.Frag} {H : Hp} : ∀ {vs : List V} {ds : List PyData}, DpAll K H vs ds → vs.length = ds.length
  | _, _, .nil => rfl
  | _, _, .cons _ b => by rw [List.length_cons, List.length_cons, dps_len b]
/-- a new object at p, the list at l grown: tuples stay -/
theorem tups_upd {K : PySem.W.Frag} {H : Hp} {l : Addr} {xs : List V} {o : HO} (e : H l = some (.lst xs)) : ∀ a ys, SqT K H a ys → SqT K (upd H l o) a ys := fun a ys h => by
  rcases h with (h | ⟨u, h⟩) | h
  · refine .inl (.inl ?_)
    rw [upd_ne (ne_of h e (by intro z; cases z))]
    exact h
  · refine .inl (.inr ⟨u, ?_⟩)
    rw [upd_ne (ne_of h e (by intro z; cases z))]
    exact h
  · exact .inr h
theorem dps_get {K : PySem.W.Frag} {H : Hp} : ∀ {vs : List V} {ds : List PyData} {i : Nat} {x : V}, DpAll K H vs ds → vs[i]? = some x → ∃ d, ds[i]? = some d ∧ Dp K H x d
  | _, _, _, _, .nil, h => by simp at h
  | _, _, 0, _, .cons a _, h => by
    have e := Option.some.inj h
    subst e
    exact ⟨_, rfl, a⟩
  | _, _, i + 1, _, .cons _ b, h => dps_get (i := i) b h
def LayAll (F : List PyData) : Prop := ∀ d ∈ F, PyData.canLay0 d = true ∧ PyData.depth d ≤ 5
theorem shaped_list : ∀ (F : List PyData), LayAll F → SeqAt.shaped (.list F) = true := by
  have h1 : ∀ F : List PyData, LayAll F → PyData.canLayAll0 F = true ∧ PyData.depthAll F ≤ 5 := by
    intro F
    induction F with
    | nil => exact fun _ => ⟨rfl, Nat.zero_le _⟩
    | cons d F ih =>
      intro h
      obtain ⟨a, b⟩ := ih fun x hx => h x (List.mem_cons_of_mem _ hx)
      obtain ⟨c, e⟩ := h d (List.mem_cons_self ..)
      refine ⟨?_, ?_⟩
      · show (PyData.canLay0 d && PyData.canLayAll0 F) = true
        rw [c, a]
        rfl
      · show max (PyData.depth d) (PyData.depthAll F) ≤ 5
        exact Nat.max_le.mpr ⟨e, b⟩
  intro F h
  obtain ⟨a, b⟩ := h1 F h
  unfold SeqAt.shaped
  rw [Bool.and_eq_true]
  refine ⟨a, decide_eq_true ?_⟩
  show PyData.depthAll F + 1 ≤ 64
  omega
abbrev iV (k : Nat) : V := .int ((k : Nat) : Int)
abbrev iD (k : Nat) : PyData := .int ((k : Nat) : Int)
theorem cL_int : ∀ ks : List Nat, LayAll (ks.map iD) := fun ks d h => by
  obtain ⟨k, _, e⟩ := List.mem_map.mp h
  subst e
  exact ⟨rfl, Nat.zero_le _⟩
theorem eqv_nil (xs : List PyData) : PyData.eqv (.list xs) (.list []) = xs.isEmpty := by
  cases xs with
  | nil => rfl
  | cons x r => rfl
theorem dps_ints {K : PySem.W.Frag} {H : Hp} : ∀ ks : List Nat, DpAll K H (ks.map iV) (ks.map iD)
  | [] => .nil
  | k :: ks => .cons (.int _) (dps_ints ks)
theorem dps_put {K : PySem.W.Frag} {H : Hp} : ∀ {vs : List V} {ds : List PyData} {i : Nat} {d : PyData}, DpAll K H vs ds → ds[i]? = some d → ∃ x, vs[i]? = some x ∧ Dp K H x d
  | _, _, _, _, .nil, h => by simp at h
  | _, _, 0, _, .cons a _, h => by
    have e := Option.some.inj h
    subst e
    exact ⟨_, rfl, a⟩
  | _, _, i + 1, _, .cons _ b, h => dps_put (i := i) b h
theorem int_at {ks : List Nat} {i k : Nat} (h : ks[i]? = some k) : (ks.map iV)[i]? = some (iV k) := by
  rw [List.getElem?_map, h]
  rfl
theorem kp_tup {K : PySem.W.Frag} {a : Addr} {H H' : Hp} {kvs : List (Key × V)} (e : H a = some (.dK kvs)) (k : Kp a H H') : ∀ b xs, SqT K H b xs → SqT K H' b xs := fun b xs h => by
  have ne : ∀ {o : HO}, H b = some o → (∀ k2, o ≠ .dK k2) → b ≠ a := fun h1 h2 z => by
    subst z
    rw [e] at h1
    cases h1
    exact h2 _ rfl
  rcases h with (h | ⟨u, h⟩) | h
  · exact .inl (.inl (k b _ (ne h (by intro _ z; cases z)) h))
  · exact .inl (.inr ⟨u, k b _ (ne h (by intro _ z; cases z)) h⟩)
  · exact .inr h
theorem wd_lne {H : Hp} {a l b : Addr} {ds : List Int} {xs : List V} (W : Wd H a l ds) (h : H b = some (.lst xs)) : b ≠ a := fun z => by
  obtain ⟨n, _, e⟩ := W.at'
  subst z
  rw [e] at h
  cases h
abbrev rLen (K : PySem.W.Frag) : List V → Hp → VK → Prop := fun xs H Q => ∃ p ys, xs = [V.ref p] ∧ (SqL K H p ys ∨ SqT K H p ys) ∧ Q (V.int ys.length) H
section
variable {a l r : Addr} {ds : List Int} {H H1 H2 : Hp}
theorem Kp.put {o : HO} (k : Kp a H H1) (n : H r = none) : Kp a H (upd H1 r o) := fun b u nb e => by
  rw [upd_ne (ne_of_none e n)]
  exact k b u nb e
theorem Wd.put {o : HO} (W : Wd H a l ds) (h1 : r ≠ a) (h2 : r ≠ l) : Wd (upd H r o) a l ds := by
  obtain ⟨k, k0, e⟩ := W.at'
  exact ⟨⟨k, k0, by rw [upd_ne h1.symm]; exact e⟩, by rw [upd_ne h2.symm]; exact W.dr, W.len⟩
theorem kp_none (k : Kp a H H1) (h : r ≠ a) (n : H1 r = none) : H r = none := by
  cases e : H r with
  | none => rfl
  | some o =>
    rw [k r o h e] at n
    cases n
theorem Wd.ne2 (W : Wd H a l ds) (n : H r = none) : r ≠ a ∧ r ≠ l := ⟨W.fresh n, fun z => by
  have := W.dr
  rw [← z, n] at this
  cases this⟩
variable {K : PySem.W.Frag}
theorem stay_dps {vs : List V} {es : List PyData} (W : Wd H a l ds) (k : Kp a H H1) (n : noLs es = true) (h : DpAll K H vs es) : DpAll K H1 vs es := by
  obtain ⟨_, _, e⟩ := W.at'
  exact dps_stay (kp_tup e k) _ _ h n
theorem push_dps {vs : List V} {es : List PyData} {v : V} {d : PyData} {o : HO} (e : H r = some (.lst vs)) (h : DpAll K H vs es) (n : noLs es = true) (hd : Dp K H v d) (nd : noL d = true) : DpAll K (upd H r o) (vs ++ [v]) (es ++ [d]) :=
  dps_app (dps_stay (tups_upd e) _ _ h n) (.cons (dp_stay (tups_upd e) _ _ hd nd) .nil)
end
def tyD : PyData → String
  | .none => "NoneType"
  | .bool _ => "bool"
  | .int _ => "int"
  | .str _ => "str"
  | .list _ => "list"
  | .tuple _ => "tuple"
  | .dict _ => "dict"
theorem ty_of {K : PySem.W.Frag} {H : Hp} {v : V} {d : PyData} (h : Dp K H v d) : TyB K H v (tyD d) := by
  cases h with
  | non => exact .non
  | bl b => exact .bl b
  | int i => exact .int i
  | str x => exact .str x
  | lst s _ => exact .lst s
  | tup s _ => exact .tup s
theorem ty_int {d : PyData} (h : tyD d = "int") : ∃ i, d = .int i := by
  cases d <;> simp [tyD] at h
  exact ⟨_, rfl⟩
theorem ty_tup {d : PyData} (h : tyD d = "tuple") : ∃ i, d = .tuple i := by
  cases d <;> simp [tyD] at h
  exact ⟨_, rfl⟩
theorem ty_str {d : PyData} (h : tyD d = "str") : ∃ i, d = .str i := by
  cases d <;> simp [tyD] at h
  exact ⟨_, rfl⟩
def isI (d : PyData) (lo hi : Int) : Bool := match d with
  | .int i => decide (lo ≤ i) && decide (i < hi)
  | _ => false
def isT (d : PyData) (n : Nat) : Bool := match d with
  | .tuple xs => decide (xs.length = n)
  | _ => false
theorem isI_iff {d : PyData} {lo hi : Int} : isI d lo hi = true ↔ ∃ i, d = .int i ∧ lo ≤ i ∧ i < hi := by
  cases d <;> simp [isI]
theorem isT_iff {d : PyData} {n : Nat} : isT d n = true ↔ ∃ xs, d = .tuple xs ∧ xs.length = n := by
  cases d <;> simp [isT]
theorem same_tup {K : PySem.W.Frag} {H H' : Hp} (s : Same H H') : ∀ b xs, SqT K H b xs → SqT K H' b xs := fun b xs h => by
  rcases h with (h | ⟨u, h⟩) | h
  · exact .inl (.inl (s _ _ h))
  · exact .inl (.inr ⟨u, s _ _ h⟩)
  · exact .inr h
theorem Same.up {H : Hp} {p : Addr} {o : HO} (n : H p = none) : Same H (upd H p o) := same_new n
section
variable {K : PySem.W.Frag} {H : Hp}
theorem dp_tup {H : Hp} {v : V} {ds : List PyData} (h : Dp K H v (.tuple ds)) : ∃ b xs, v = .ref b ∧ SqT K H b xs ∧ DpAll K H xs ds := by
  cases h with
  | tup s a => exact ⟨_, _, rfl, s, a⟩
end
theorem cst (n : Nat) : (2 : Int) ^ n = ((2 ^ n : Nat) : Int) := by
  rw [Int.natCast_pow]
  rfl
theorem vI {x y : Int} (h : x = y) : V.int x = V.int y := by rw [h]
def flD : PyData → Option V
  | .int i => some (.int i)
  | .str s => some (.str s)
  | _ => none
theorem sN {a b : Str} (h : a ≠ b) : V.str a ≠ V.str b := fun z => h (V.str.inj z)
theorem kT {A B : Prop} {x y : V} {i : Decidable (x = y)} (h : x = y) (a : A) : if @decide (x = y) i = true then A else B := by
  rw [if_pos (decide_eq_true h)]
  exact a
theorem kF {A B : Prop} {x y : V} {i : Decidable (x = y)} (h : x ≠ y) (b : B) : if @decide (x = y) i = true then A else B := by
  rw [if_neg (fun z => h (of_decide_eq_true z))]
  exact b
section
variable {K : PySem.W.Frag} {H : Hp}
theorem dps_flat {H : Hp} : ∀ {vs : List V} {ds : List PyData} {us : List V}, DpAll K H vs ds → ds.map flD = us.map some → vs = us
  | _, _, us, .nil, h => by
    cases us with
    | nil => rfl
    | cons _ _ => cases h
  | _, _, us, .cons (d := d) a b, h => by
    cases us with
    | nil => cases h
    | cons u us =>
      rw [List.map_cons, List.map_cons] at h
      injection h with h1 h2
      rw [dps_flat b h2]
      cases d with
      | int i => cases a; cases h1; rfl
      | str i => cases a; cases h1; rfl
      | _ => cases h1
end
theorem line200 {n : Nat} (h : n ≤ 1000) : n ≤ sizeLine := by
  rw [sizeLine_eq]
  omega
theorem lineS200 {n : Nat} (h : n ≤ 1000) : n < sizeLine := by
  rw [sizeLine_eq]
  omega
abbrev rTupleOf (K : PySem.W.Frag) : List V → Hp → VK → Prop := fun xs H Q => ∃ p ys, xs = [V.ref p] ∧ ((SqL K H p ys ∧ ∀ l, H l = none → Q (.ref l) (upd H l (.tup ys))) ∨ (SqT K H p ys ∧ Q (.ref p) H))
abbrev rOneShlN : R2 := fun x y H Q => ∃ k : Nat, x = .int 1 ∧ y = iV k ∧ k ≤ 1000 ∧ Q (iV (2 ^ k)) H
abbrev rModNN : R2 := fun x y H Q => ∃ n m : Nat, x = iV n ∧ y = iV m ∧ 0 < m ∧ Q (iV (n % m)) H
abbrev rAddN : R2 := fun x y H Q => ∃ n m : Nat, x = .int (n : Int) ∧ y = .int (m : Int) ∧ Q (.int ((n + m : Nat) : Int)) H
abbrev rMulN : R2 := fun x y H Q => ∃ n m : Nat, x = .int (n : Int) ∧ y = .int (m : Int) ∧ n ≤ 4294967296 ∧ Q (.int ((n * m : Nat) : Int)) H
abbrev rFdivN : R2 := fun x y H Q => ∃ n m : Nat, x = .int (n : Int) ∧ y = .int (m : Int) ∧ (1 ≤ m ∧ m < 1073741824) ∧ Q (.int ((n / m : Nat) : Int)) H
section
variable {X : Cx}
theorem op_oneShlN : OpR X (binaryOp .LShift) rOneShlN := by
  intro pins s σ H x y v u Q I rx ry h
  obtain ⟨k, rfl, rfl, hk, q⟩ := h
  exact op_oneShl pins s σ H _ _ v u Q I rx ry ⟨k, rfl, rfl, by omega, by rw [cst]; exact q⟩
theorem op_modNN : OpR X (binaryOp .Mod) rModNN := by
  intro pins s σ H x y v u Q I rx ry h
  obtain ⟨n, m, rfl, rfl, hm, q⟩ := h
  refine op_mod pins s σ H _ _ v u Q I rx ry ⟨_, _, rfl, rfl, show (0 : Int) < ((m : Nat) : Int) by omega, ?_⟩
  show Q (.int (((n : Nat) : Int) % ((m : Nat) : Int))) H
  rw [← Int.natCast_emod]
  exact q
end
theorem Wd.tup {K : PySem.W.Frag} {H H' : Hp} {a l : Addr} {ds : List Int} (W : Wd H a l ds) (k : Kp a H H') : ∀ b xs, SqT K H b xs → SqT K H' b xs := by
  obtain ⟨n, _, e⟩ := W.at'
  exact kp_tup e k
theorem getD_some {l : List Nat} {i x : Nat} (h : l[i]? = some x) : l.getD i 0 = x := by
  rw [List.getD_eq_getElem?_getD, h]
  rfl
theorem at_len {α β : Type} {xs : List α} {ys : List β} (hl : xs.length = ys.length) {i : Nat} {y : β} (h : ys[i]? = some y) : ∃ x, xs[i]? = some x :=
  ⟨_, List.getElem?_eq_getElem (by rw [hl]; exact (List.getElem?_eq_some_iff.mp h).1)⟩
theorem take_at {α : Type} {l : List α} {i j : Nat} {x : α} (h : (l.take i)[j]? = some x) : l[j]? = some x := by
  rw [List.getElem?_take] at h
  split at h
  · exact h
  · cases h
theorem take_snoc {α : Type} {l : List α} {i : Nat} {x : α} (h : l[i]? = some x) : l.take (i + 1) = l.take i ++ [x] := by
  rw [List.take_add_one, h]
  rfl
section
variable {K : PySem.W.Frag} {H H' : Hp}
theorem snoc_cases {α : Type} {l : List α} {x y : α} {j : Nat} (h : (l ++ [x])[j]? = some y) : (j < l.length ∧ l[j]? = some y) ∨ (j = l.length ∧ x = y) := by
  by_cases hj : j < l.length
  · rw [List.getElem?_append_left hj] at h
    exact .inl ⟨hj, h⟩
  · rw [List.getElem?_append_right (by omega)] at h
    have e0 : j - l.length = 0 := by
      have := (List.getElem?_eq_some_iff.mp h).1
      simp at this
      omega
    rw [e0] at h
    cases h
    exact .inr ⟨by omega, rfl⟩
end
section
variable {K : PySem.W.Frag} {H : Hp}
theorem tyx_tup {a : Addr} {xs : List V} (s : SqT K H a xs) : TyX K H (.ref a) (.type "tuple") := by
  rcases s with (s | ⟨u, s⟩) | ⟨o, its, k, s, c, _⟩
  · exact .base (.tup s)
  · exact .fTuple s
  · exact .kTuple s c
theorem tyx_lst {a : Addr} {xs : List V} (s : SqL K H a xs) : TyX K H (.ref a) (.type "list") := by
  rcases s with (s | ⟨u, s⟩) | ⟨o, its, k, s, c, _⟩
  · exact .base (.lst s)
  · exact .base (.frz s)
  · exact .kList s c
end
theorem tyx_of {K : PySem.W.Frag} {H : Hp} {v : V} {d : PyData} (h : Dp K H v d) (n : noL d = true) : TyX K H v (.type (tyD d)) := by
  cases h with
  | non => exact .base .non
  | bl b => exact .base (.bl b)
  | int i => exact .base (.int i)
  | str x => exact .base (.str x)
  | lst s _ => cases n
  | tup s _ =>
    rcases s with (s | ⟨u, s⟩) | ⟨o, its, k, s, c, _⟩
    · exact .base (.tup s)
    · exact .fTuple s
    · exact .kTuple s c
theorem kit_int (d : PyData) (n : noL d = true) : kitB (tyD d) "int" = some (decide (tyD d = "int") || decide (tyD d = "bool")) := by
  cases d with
  | list _ => cases n
  | dict _ => cases n
  | none => show kitB "NoneType" "int" = some (decide ("NoneType" = "int") || decide ("NoneType" = "bool")); decide +kernel
  | bool _ => show kitB "bool" "int" = some (decide ("bool" = "int") || decide ("bool" = "bool")); decide +kernel
  | int _ => show kitB "int" "int" = some (decide ("int" = "int") || decide ("int" = "bool")); decide +kernel
  | str _ => show kitB "str" "int" = some (decide ("str" = "int") || decide ("str" = "bool")); decide +kernel
  | tuple _ => show kitB "tuple" "int" = some (decide ("tuple" = "int") || decide ("tuple" = "bool")); decide +kernel
theorem kit_one (T : String) (hT : T = "bool" ∨ T = "tuple" ∨ T = "str") (d : PyData) (n : noL d = true) : kitB (tyD d) T = some (decide (tyD d = T)) := by
  rcases hT with rfl | rfl | rfl
  · cases d with
    | list _ => cases n
    | dict _ => cases n
    | none => show kitB "NoneType" "bool" = some (decide ("NoneType" = "bool")); decide +kernel
    | bool _ => show kitB "bool" "bool" = some (decide ("bool" = "bool")); decide +kernel
    | int _ => show kitB "int" "bool" = some (decide ("int" = "bool")); decide +kernel
    | str _ => show kitB "str" "bool" = some (decide ("str" = "bool")); decide +kernel
    | tuple _ => show kitB "tuple" "bool" = some (decide ("tuple" = "bool")); decide +kernel
  · cases d with
    | list _ => cases n
    | dict _ => cases n
    | none => show kitB "NoneType" "tuple" = some (decide ("NoneType" = "tuple")); decide +kernel
    | bool _ => show kitB "bool" "tuple" = some (decide ("bool" = "tuple")); decide +kernel
    | int _ => show kitB "int" "tuple" = some (decide ("int" = "tuple")); decide +kernel
    | str _ => show kitB "str" "tuple" = some (decide ("str" = "tuple")); decide +kernel
    | tuple _ => show kitB "tuple" "tuple" = some (decide ("tuple" = "tuple")); decide +kernel
  · cases d with
    | list _ => cases n
    | dict _ => cases n
    | none => show kitB "NoneType" "str" = some (decide ("NoneType" = "str")); decide +kernel
    | bool _ => show kitB "bool" "str" = some (decide ("bool" = "str")); decide +kernel
    | int _ => show kitB "int" "str" = some (decide ("int" = "str")); decide +kernel
    | str _ => show kitB "str" "str" = some (decide ("str" = "str")); decide +kernel
    | tuple _ => show kitB "tuple" "str" = some (decide ("tuple" = "str")); decide +kernel
theorem wd_merge (l : Addr) (n : Int) : mergeK [] [(.inr ("draws" : Str), .ref l), (.inr ("at" : Str), .int n)] = wdL l n := by
  have h1 : ¬ (Sum.inr ("draws" : Str) : Key) = Sum.inr ("at" : Str) := by decide
  unfold mergeK wdL
  simp [putK, h1]
theorem Wd.same {H H' : Hp} {a l : Addr} {ds : List Int} (W : Wd H a l ds) (s : Same H H') : Wd H' a l ds := by
  obtain ⟨n, n0, e⟩ := W.at'
  exact ⟨⟨n, n0, s _ _ e⟩, s _ _ W.dr, W.len⟩
theorem cut_take (xs : List V) (k : Nat) (h : k < xs.length) : cutV xs none (some ((k : Nat) : Int)) = xs.take k := by
  unfold cutV
  rw [HT.sIx_none, HT.sIx_nat, Nat.sub_zero, List.drop_zero, Nat.min_eq_left (by omega)]
theorem cut_drop (xs : List V) (k : Nat) (h : k < xs.length) : cutV xs (some (((k : Nat) : Int) + 1)) none = xs.drop (k + 1) := by
  unfold cutV
  rw [show ((k : Nat) : Int) + 1 = ((k + 1 : Nat) : Int) by omega, HT.sIx_none, HT.sIx_nat, Nat.min_eq_left (by omega)]
  exact List.take_of_length_le (by rw [List.length_drop]; omega)
theorem dps_take {K : PySem.W.Frag} {H : Hp} : ∀ {xs : List V} {ds : List PyData} (_ : DpAll K H xs ds) (k : Nat), DpAll K H (xs.take k) (ds.take k)
  | _, _, .nil, k => by simp; exact .nil
  | _, _, .cons _ _, 0 => .nil
  | _, _, .cons a b, k + 1 => .cons a (dps_take b k)
theorem dps_drop {K : PySem.W.Frag} {H : Hp} : ∀ {xs : List V} {ds : List PyData} (_ : DpAll K H xs ds) (k : Nat), DpAll K H (xs.drop k) (ds.drop k)
  | _, _, .nil, k => by simp; exact .nil
  | _, _, .cons a b, 0 => .cons a b
  | _, _, .cons _ b, k + 1 => dps_drop b k
theorem catA_read {K : PySem.W.Frag} {H : Hp} {a0 b0 : Addr} {xs ys : List V} {Q : VK} (hx : SqT K H a0 xs) (hy : SqT K H b0 ys) (hl : xs.length + ys.length ≤ sizeLine)
    (q : ∀ p H', Same H H' → (∀ a l ds, Wd H a l ds → Wd H' a l ds) → SqT K H' p (xs ++ ys) → Q (.ref p) H') : rCatA K (.ref a0) (.ref b0) H Q := by
  refine ⟨a0, b0, xs, ys, rfl, rfl, hx, hy, hl, fun e => ?_, fun e1 e2 => ?_, fun e1 e2 p np => ?_⟩
  · refine q b0 H (Same.refl H) (fun _ _ _ W => W) ?_
    rw [e]
    exact hy
  · refine q a0 H (Same.refl H) (fun _ _ _ W => W) ?_
    rw [e2, List.append_nil]
    exact hx
  · exact q p _ (Same.up np) (fun _ _ _ W => W.new np) (SqT.of upd_same)
theorem Same.kp {H H' : Hp} {a : Addr} (s : Same H H') : Kp a H H' := fun b o _ e => s b o e
theorem noLs_mem : ∀ {L : List PyData}, noLs L = true → ∀ d ∈ L, noL d = true
  | [], _, d, hd => by cases hd
  | a :: L, h, d, hd => by
    have h' := Bool.and_eq_true_iff.mp (show (noL a && noLs L) = true from h)
    rcases List.mem_cons.mp hd with rfl | hd
    · exact h'.1
    · exact noLs_mem h'.2 d hd
abbrev rListOf (K : PySem.W.Frag) : List V → Hp → VK → Prop := fun xs H Q => ∃ p ys, xs = [V.ref p] ∧ (SqL K H p ys ∨ SqT K H p ys) ∧ ∀ l, H l = none → Q (.ref l) (upd H l (.lst ys))
structure Gp (mg : Str → Option Value) : Prop where
  ty : mg "type" = none
  it : mg "int" = none
  tu : mg "tuple" = none
  bo : mg "bool" = none
  len : mg "len" = none
  all : mg "all" = none
  enumerate : mg "enumerate" = none
  isi : mg "isinstance" = none
  min : mg "min" = none
  range : mg "range" = none
  list : mg "list" = none
section
variable {P : Program} {w : World} {K : PySem.W.Frag} {mg : Str → Option Value} {base : Heap}
def spIsTuple (K : PySem.W.Frag) : Sp := fun vs H Q _ => ∃ (v : V) (d : PyData) (n : Nat), vs = [v, iV n] ∧ Dp K H v d ∧ Q (.bl (isT d n)) H
def spIsBelow (K : PySem.W.Frag) : Sp := fun vs H Q _ => ∃ (v : V) (d : PyData) (n : Int), vs = [v, .int n] ∧ Dp K H v d ∧ Q (.bl (isI d 0 n)) H
end
end C1

/-! Nets as data. -/
namespace C1
open PySem PySem.Spec PyProof.Rows L2 SX
def strsL : List Str := ["else", "0"]
def gd : Nat → PyData → Bool
  | _, .none => true
  | _, .bool _ => true
  | _, .int _ => true
  | _, .str s => decide (s ∈ strsL)
  | n + 1, .tuple ds => decide (ds.length ≤ 1000) && ds.all (gd n)
  | _, _ => false
theorem gd_ok : ∀ (n : Nat) (d : PyData), gd n d = true → noL d = true ∧ PyData.canLay0 d = true ∧ PyData.depth d ≤ n
  | _, .none, _ => ⟨rfl, rfl, Nat.zero_le _⟩
  | _, .bool _, _ => ⟨rfl, rfl, Nat.zero_le _⟩
  | _, .int _, _ => ⟨rfl, rfl, Nat.zero_le _⟩
  | n, .str s, h => by
    have h1 : s ∈ strsL := by
      cases n <;> exact of_decide_eq_true h
    have h2 : ∀ s ∈ strsL, PyData.canLay0 (.str s) = true := by decide +kernel
    exact ⟨rfl, h2 s h1, Nat.zero_le _⟩
  | 0, .tuple _, h => by cases h
  | n + 1, .tuple ds, h => by
    have h2 := (Bool.and_eq_true_iff.mp h).2
    have h3 : ∀ ds : List PyData, ds.all (gd n) = true → noLs ds = true ∧ PyData.canLayAll0 ds = true ∧ PyData.depthAll ds ≤ n := by
      intro ds
      induction ds with
      | nil => exact fun _ => ⟨rfl, rfl, Nat.zero_le _⟩
      | cons d ds ih =>
        intro h
        rw [List.all_cons, Bool.and_eq_true] at h
        obtain ⟨a1, a2, a3⟩ := gd_ok n d h.1
        obtain ⟨b1, b2, b3⟩ := ih h.2
        refine ⟨?_, ?_, ?_⟩
        · show (noL d && noLs ds) = true
          rw [a1, b1]
          rfl
        · show (PyData.canLay0 d && PyData.canLayAll0 ds) = true
          rw [a2, b2]
          rfl
        · show max (PyData.depth d) (PyData.depthAll ds) ≤ n
          exact Nat.max_le.mpr ⟨a3, b3⟩
    obtain ⟨a, b, c⟩ := h3 ds h2
    exact ⟨a, b, Nat.succ_le_succ c⟩
  | 0, .list _, h => by cases h
  | 0, .dict _, h => by cases h
  | _ + 1, .list _, h => by cases h
  | _ + 1, .dict _, h => by cases h
theorem gd_shaped {n : Nat} {d : PyData} (h : gd n d = true) (hn : n ≤ 60) : SeqAt.shaped d = true := by
  obtain ⟨_, b, c⟩ := gd_ok n d h
  unfold SeqAt.shaped
  rw [Bool.and_eq_true]
  exact ⟨b, decide_eq_true (by omega)⟩
theorem gd_mem {n : Nat} {ds : List PyData} (h : gd (n + 1) (.tuple ds) = true) {d : PyData} (hd : d ∈ ds) : gd n d = true := List.all_eq_true.mp (Bool.and_eq_true_iff.mp h).2 d hd
theorem gd_len {n : Nat} {ds : List PyData} (h : gd (n + 1) (.tuple ds) = true) : ds.length ≤ 1000 := of_decide_eq_true (Bool.and_eq_true_iff.mp h).1
theorem gd_tup {n : Nat} {ds : List PyData} (hl : ds.length ≤ 1000) (h : ∀ d ∈ ds, gd n d = true) : gd (n + 1) (.tuple ds) = true := Bool.and_eq_true_iff.mpr ⟨decide_eq_true hl, List.all_eq_true.mpr h⟩
theorem gd_int {n : Nat} (k : Int) : gd n (.int k) = true := by cases n <;> rfl
def pr (p : Nat × Nat) : PyData := .tuple [iD p.1, iD p.2]
structure Net where
  firsts : List Nat
  ands : List (Nat × Nat)
  nexts : List Nat
  outs : List Nat
def Net.d (n : Net) : PyData := .tuple [.tuple (n.firsts.map iD), .tuple (n.ands.map pr), .tuple (n.nexts.map iD), .tuple (n.outs.map iD)]
def Bits (l : List Nat) : Prop := ∀ x ∈ l, x < 2
structure NetOk (n : Net) : Prop where
  fb : Bits n.firsts
  fl : n.firsts.length ≤ 100
  al : n.ands.length ≤ 200
  nl : n.nexts.length = n.firsts.length
  ol : n.outs.length ≤ 100
  ao : ∀ (k : Nat) (p : Nat × Nat), n.ands[k]? = some p → p.1 < 2 * (1 + n.firsts.length + k) ∧ p.2 < 2 * (1 + n.firsts.length + k)
  no : ∀ x ∈ n.nexts, x < 2 * (1 + n.firsts.length + n.ands.length)
  oo : ∀ x ∈ n.outs, x < 2 * (1 + n.firsts.length + n.ands.length)
def memD (m : List Nat) : PyData := .tuple (m.map iD)
theorem noLs_int : ∀ m : List Nat, noLs (m.map iD) = true
  | [] => rfl
  | _ :: r => noLs_int r
theorem noLs_pr : ∀ ps : List (Nat × Nat), noLs (ps.map pr) = true
  | [] => rfl
  | p :: ps => noLs_pr ps
section
variable {P : Program} {w : World} {K : PySem.W.Frag} {mg : Str → Option Value} {base : Heap} {H H' : Hp}
structure NP (K : PySem.W.Frag) (H : Hp) (nA : Addr) (n : Net) : Prop where
  ex : ∃ (f a x o : Addr) (avs : List V), SqT K H nA [.ref f, .ref a, .ref x, .ref o] ∧ SqT K H f (n.firsts.map iV) ∧ (SqT K H a avs ∧ DpAll K H avs (n.ands.map pr)) ∧ SqT K H x (n.nexts.map iV) ∧ SqT K H o (n.outs.map iV)
theorem NP.stay {nA : Addr} {n : Net} (N : NP K H nA n) (st : ∀ a xs, SqT K H a xs → SqT K H' a xs) : NP K H' nA n := by
  obtain ⟨f, a, x, o, avs, h0, h1, h2, h3, h4⟩ := N.ex
  exact ⟨f, a, x, o, avs, st _ _ h0, st _ _ h1, ⟨st _ _ h2.1, dps_stay st _ _ h2.2 (noLs_pr _)⟩, st _ _ h3, st _ _ h4⟩
theorem NP.same {nA : Addr} {n : Net} (N : NP K H nA n) (s : Same H H') : NP K H' nA n := N.stay (same_tup s)
theorem dps_ints_eq {vs : List V} {ks : List Nat} (h : DpAll K H vs (ks.map iD)) : vs = ks.map iV := dps_flat h (by rw [List.map_map, List.map_map]; rfl)
theorem NP.of {nA : Addr} {n : Net} (h : Dp K H (.ref nA) n.d) : NP K H nA n := by
  obtain ⟨b, xs, e, s, q⟩ := dp_tup h
  cases e
  cases q with
  | cons a1 q => cases q with
  | cons a2 q => cases q with
  | cons a3 q => cases q with
  | cons a4 q =>
  cases q
  obtain ⟨b1, x1, rfl, s1, d1⟩ := dp_tup a1
  obtain ⟨b2, x2, rfl, s2, d2⟩ := dp_tup a2
  obtain ⟨b3, x3, rfl, s3, d3⟩ := dp_tup a3
  obtain ⟨b4, x4, rfl, s4, d4⟩ := dp_tup a4
  rw [dps_ints_eq d1] at s1
  rw [dps_ints_eq d3] at s3
  rw [dps_ints_eq d4] at s4
  exact ⟨b1, b2, b3, b4, x2, s, s1, ⟨s2, d2⟩, s3, s4⟩
theorem NP.dp {nA : Addr} {n : Net} (N : NP K H nA n) : Dp K H (.ref nA) n.d := by
  obtain ⟨f, a, x, o, avs, h0, h1, h2, h3, h4⟩ := N.ex
  exact .tup h0 (.cons (.tup h1 (dps_ints _)) (.cons (.tup h2.1 h2.2) (.cons (.tup h3 (dps_ints _)) (.cons (.tup h4 (dps_ints _)) .nil))))
theorem pr_at {vs : List V} {ps : List (Nat × Nat)} {i : Nat} {p : Nat × Nat} (h : DpAll K H vs (ps.map pr)) (e : ps[i]? = some p) : ∃ b, vs[i]? = some (.ref b) ∧ SqT K H b [iV p.1, iV p.2] := by
  obtain ⟨x, hx, hd⟩ := dps_put h (show (ps.map pr)[i]? = some (pr p) by rw [List.getElem?_map, e]; rfl)
  obtain ⟨b, xs, rfl, s, q⟩ := dp_tup hd
  rw [dps_flat q (us := [iV p.1, iV p.2]) rfl] at s
  exact ⟨b, hx, s⟩
end
end C1

/-! What is a net. -/
namespace C1
open PySem PySem.Spec PyProof.Rows L2 SX
abbrev NIN : List Str := ["thing", "firsts", "ands", "nexts", "outs", "latches", "at", "part", "first", "side", "literal"]
def andB (n : Int) (d : PyData) : Bool := match d with
  | .tuple ds => decide (ds.length = 2) && ds.all fun x => isI x 0 n
  | _ => false
def andsB (L : Nat) : Nat → List PyData → Bool
  | _, [] => true
  | k, d :: ds => andB ((2 * (1 + L + k) : Nat) : Int) d && andsB L (k + 1) ds
def netB (d : PyData) : Bool := match d with
  | .tuple [.tuple fs, .tuple as, .tuple ns, .tuple os] => decide (ns.length = fs.length) && (fs.all fun x => isI x 0 2) && andsB fs.length 0 as && ((ns ++ os).all fun x => isI x 0 ((2 * (1 + fs.length + as.length) : Nat) : Int))
  | _ => false
theorem andsB_drop {L : Nat} : ∀ {ds : List PyData} {i k : Nat} {d : PyData}, ds[i]? = some d → andsB L k (ds.drop i) = (andB ((2 * (1 + L + k) : Nat) : Int) d && andsB L (k + 1) (ds.drop (i + 1)))
  | [], i, _, _, h => by simp at h
  | d0 :: ds, 0, k, d, h => by
    cases h
    rfl
  | d0 :: ds, i + 1, k, d, h => andsB_drop (ds := ds) (i := i) (k := k) h
theorem netB_four {ds : List PyData} (hl : ds.length = 4) (h : (ds.all fun d => decide (tyD d = "tuple")) = false) : netB (.tuple ds) = false := by
  match ds, hl with
  | [a, b, c, d], _ =>
    cases a <;> cases b <;> cases c <;> cases d <;> first | rfl | (exact absurd h (by decide)) | (simp [tyD] at h)
theorem filt_empty (b : PyData → Bool) : ∀ ds : List PyData, (ds.filter fun d => !(b d)).isEmpty = ds.all b
  | [] => rfl
  | d :: ds => by
    rw [List.filter_cons, List.all_cons]
    cases h : b d with
    | true =>
      rw [if_neg (by decide), Bool.true_and]
      exact filt_empty b ds
    | false => rfl
section
variable {P : Program} {w : World} {K : PySem.W.Frag} {mg : Str → Option Value} {base : Heap} {H H' : Hp}
/-- all([b of x for x in a tuple]) -/
theorem lc_all {a D : Addr} {xs : List V} {ds : List PyData} {b : PyData → Bool} {σ : L2.St} {Qd : Hp → Prop} {j : Nat} {wv : List Nat} {te : TE} (nD : H D = none) (sa : SqT K H a xs) (da : DpAll K H xs ds) (hn : noLs ds = true) (hl : ds.length ≤ 900)
    (ht : ∀ x d H1 (R : VK), Same H H1 → Dp K H1 x d → d ∈ ds → R (.bl (b d)) H1 → te ((wipe σ wv).set j (some x)) H1 R) (hσ : ∀ x, wipe ((wipe σ wv).set j (some x)) wv = wipe σ wv) (q : Qd (upd H D (.lst ((ds.map b).map V.bl)))) :
    ∃ W : Nat → Nat → Hp → Prop, (∃ m, W 0 m (upd H D (.lst []))) ∧ ∀ i m H, W i m H →
      ((Itt K a).stop i H ∧ Qd H) ∨ ((Itt K a).go i H ∧ ∃ Nx : Hp → Prop, (∀ H', Nx H' → ∃ m', m' < m ∧ W (i + 1) m' H') ∧ ∀ x H', (Itt K a).yld i H x H' → gName j x (wipe σ wv) H' fun σ2 H2 => wipe σ2 wv = wipe σ wv ∧ tYes σ2 H2 fun b H3 =>
        if b = true then te σ2 H3 fun y H4 => ∃ acc, H4 D = some (.lst acc) ∧ acc.length < sizeLine ∧ Nx (upd H4 D (.lst (acc ++ [y]))) else Nx H3) := by
  have lda := dps_len da
  have s6 : ∀ {o : HO}, Same H (upd H D o) := fun {o} => Same.up nD
  refine lc_tup (xs := xs) (fun i H1 => H1 = upd H D (.lst (((ds.take i).map b).map V.bl))) rfl (fun i H1 _ h => ?_) (fun i x H1 hx h => ?_) (fun H1 h => ?_)
  · subst h
    exact same_tup s6 _ _ sa
  · subst h
    obtain ⟨di, hdi, dx⟩ := dps_get (dps_stay (same_tup s6) _ _ da hn) hx
    refine ⟨hσ x, ?_⟩
    refine ht x di _ (fun y H4 => ∃ acc, H4 D = some (.lst acc) ∧ acc.length < sizeLine ∧ upd H4 D (.lst (acc ++ [y])) = upd H D (.lst (((ds.take (i + 1)).map b).map V.bl))) s6 dx (List.mem_of_getElem? hdi) ⟨_, upd_same, ?_, ?_⟩
    · rw [List.length_map, List.length_map]
      exact lineS200 (by rw [List.length_take]; omega)
    · rw [upd_upd, take_snoc hdi, List.map_append, List.map_append]
      rfl
  · subst h
    rw [lda, List.take_length]
    exact q
theorem all_id (b : PyData → Bool) (ds : List PyData) : (ds.map b).all id = ds.all b := by
  rw [List.all_map]
  rfl
/-- [x for x in a tuple if not b of x] -/
theorem lc_flt {a D : Addr} {xs : List V} {ds : List PyData} {b : PyData → Bool} {σ : L2.St} {Qd : Hp → Prop} {j : Nat} {wv : List Nat} {tt : TT} (nD : H D = none) (sa : SqT K H a xs) (da : DpAll K H xs ds) (hn : noLs ds = true) (hl : ds.length ≤ 900)
    (ht : ∀ x d H1 (R : Bool → Hp → Prop), Same H H1 → Dp K H1 x d → d ∈ ds → (∀ H2, Same H1 H2 → R (!(b d)) H2) → tt ((wipe σ wv).set j (some x)) H1 R)
    (hσ : ∀ x, ((wipe σ wv).set j (some x))[j]? = some (some x) ∧ wipe ((wipe σ wv).set j (some x)) wv = wipe σ wv) (q : ∀ H' zs, Same H H' → H' D = some (.lst zs) → DpAll K H' zs (ds.filter fun d => !(b d)) → Qd H') :
    ∃ W : Nat → Nat → Hp → Prop, (∃ m, W 0 m (upd H D (.lst []))) ∧ ∀ i m H, W i m H →
      ((Itt K a).stop i H ∧ Qd H) ∨ ((Itt K a).go i H ∧ ∃ Nx : Hp → Prop, (∀ H', Nx H' → ∃ m', m' < m ∧ W (i + 1) m' H') ∧ ∀ x H', (Itt K a).yld i H x H' → gName j x (wipe σ wv) H' fun σ2 H2 => wipe σ2 wv = wipe σ wv ∧ tt σ2 H2 fun b H3 =>
        if b = true then tVar j σ2 H3 fun y H4 => ∃ acc, H4 D = some (.lst acc) ∧ acc.length < sizeLine ∧ Nx (upd H4 D (.lst (acc ++ [y]))) else Nx H3) := by
  have lda := dps_len da
  refine lc_tup (xs := xs) (fun i H1 => Same H H1 ∧ ∃ zs, H1 D = some (.lst zs) ∧ zs.length ≤ i ∧ DpAll K H1 zs ((ds.take i).filter fun d => !(b d))) ⟨same_new nD, [], upd_same, Nat.zero_le _, .nil⟩ (fun i H1 _ h => same_tup h.1 _ _ sa) (fun i x H1 hx h => ?_) (fun H1 h => ?_)
  · obtain ⟨s1, zs, e, lz, dz⟩ := h
    obtain ⟨di, hdi, dx⟩ := dps_get (dps_stay (same_tup s1) _ _ da hn) hx
    have hil : i < ds.length := (List.getElem?_eq_some_iff.mp hdi).1
    have hnf : ∀ n, noLs ((ds.take n).filter fun d => !(b d)) = true := fun n => by
      have : ∀ l : List PyData, (∀ d ∈ l, noL d = true) → noLs l = true := fun l => by
        induction l with
        | nil => exact fun _ => rfl
        | cons d l ih =>
          intro h
          show (noL d && noLs l) = true
          rw [h d (List.mem_cons_self ..), ih fun x hx => h x (List.mem_cons_of_mem _ hx)]
          rfl
      exact this _ fun d hd => noLs_mem hn d (List.mem_of_mem_take (List.mem_filter.mp hd).1)
    refine ⟨(hσ x).2, ht x di H1 _ s1 dx (List.mem_of_getElem? hdi) fun H2 s2 => ?_⟩
    cases hb : b di with
    | true =>
      show _ ∧ _
      refine ⟨s1.trans s2, zs, s2 _ _ e, by omega, ?_⟩
      rw [take_snoc hdi, List.filter_append, List.filter_cons_of_neg (by rw [hb]; decide), List.filter_nil, List.append_nil]
      exact dps_stay (same_tup s2) _ _ dz (hnf i)
    | false =>
      refine ⟨x, (hσ x).1, zs, s2 _ _ e, lineS200 (by omega), same_put (s1.trans s2) nD, zs ++ [x], upd_same, by rw [List.length_append]; show zs.length + 1 ≤ i + 1; omega, ?_⟩
      rw [take_snoc hdi, List.filter_append, List.filter_cons_of_pos (by rw [hb]; rfl), List.filter_nil]
      exact push_dps (s2 _ _ e) (dps_stay (same_tup s2) _ _ dz (hnf i)) (hnf i) (dp_stay (same_tup s2) _ _ dx (noLs_mem hn _ (List.mem_of_getElem? hdi))) (noLs_mem hn _ (List.mem_of_getElem? hdi))
  · obtain ⟨s1, zs, e, lz, dz⟩ := h
    rw [lda, List.take_length] at dz
    exact q H1 zs s1 e dz
/-- a list of good things beside the empty one -/
theorem eq_nil {D : Addr} {zs : List V} {F : List PyData} {R : VK} {eq : Bool} (e : H D = some (.lst zs)) (dz : DpAll K H zs F) (hn : noLs F = true) (hF : LayAll F) (q : ∀ z, H z = none → R (.bl (if eq then F.isEmpty else !F.isEmpty)) (upd H z (.lst []))) :
    (0 ≤ sizeLine) ∧ ∀ z, H z = none → (if eq = true then rEqD K (.ref D) (.ref z) (upd H z (.lst [])) R else rNeD K (.ref D) (.ref z) (upd H z (.lst [])) R) := by
  refine ⟨Nat.zero_le _, fun z nz => ?_⟩
  have dz2 := dps_stay (same_tup (same_new (o := .lst []) nz)) _ _ dz hn
  have e2 := (same_new (o := .lst []) nz) _ _ e
  have q2 := q z nz
  cases eq with
  | true =>
    refine ⟨.list F, .list [], .lst (SqL.of e2) dz2, .lst (SqL.of upd_same) .nil, shaped_list F hF, shaped_list [] (fun d hd => by cases hd), ?_⟩
    rw [eqv_nil]
    exact q2
  | false =>
    refine ⟨.list F, .list [], .lst (SqL.of e2) dz2, .lst (SqL.of upd_same) .nil, shaped_list F hF, shaped_list [] (fun d hd => by cases hd), ?_⟩
    rw [eqv_nil]
    exact q2
theorem gd_lay {n : Nat} {ds : List PyData} (hg : ∀ d ∈ ds, gd n d = true) (hn : n ≤ 5) {p : PyData → Bool} : LayAll (ds.filter p) := fun d hd => by
  obtain ⟨_, b, c⟩ := gd_ok n d (hg d (List.mem_filter.mp hd).1)
  exact ⟨b, by omega⟩
theorem filt_noL {ds : List PyData} (hn : noLs ds = true) (p : PyData → Bool) : noLs (ds.filter p) = true := by
  have : ∀ l : List PyData, (∀ d ∈ l, noL d = true) → noLs l = true := fun l => by
    induction l with
    | nil => exact fun _ => rfl
    | cons d l ih =>
      intro h
      show (noL d && noLs l) = true
      rw [h d (List.mem_cons_self ..), ih fun x hx => h x (List.mem_cons_of_mem _ hx)]
      rfl
  exact this _ fun d hd => noLs_mem hn d (List.mem_filter.mp hd).1
def spIsNet (K : PySem.W.Frag) : Sp := fun vs H Q _ => ∃ (v : V) (d : PyData) (n : Nat), vs = [v] ∧ Dp K H v d ∧ gd n d = true ∧ n ≤ 4 ∧ (∀ ds, d = .tuple ds → ∀ es, .tuple es ∈ ds → es.length ≤ 400) ∧ ∀ H', Same H H' → Q (.bl (netB d)) H'
end
end C1

/-! The law's tests. -/
namespace C1
open PySem PySem.Spec PyProof.Rows L2 SX
abbrev NLN : List Str := ["thing", "firsts", "ands", "nexts", "outs", "at", "many", "part", "bit"]
theorem iteN {c A B : Prop} [Decidable c] (hc : ¬ c) (h : A) : if (!decide c) = true then A else B := by
  rw [decide_eq_false hc]
  exact iteT h
section
variable {P : Program} {w : World} {K : PySem.W.Frag} {mg : Str → Option Value} {base : Heap} {H H' : Hp}
theorem ne_nilR {D : Addr} {zs : List V} {F : List PyData} {R : VK} (e : H D = some (.lst zs)) (dz : DpAll K H zs F) (hn : noLs F = true) (hF : LayAll F) (q : ∀ z, H z = none → R (.bl (!F.isEmpty)) (upd H z (.lst []))) :
    (0 ≤ sizeLine) ∧ ∀ z, H z = none → rNeD K (.ref D) (.ref z) (upd H z (.lst [])) R := eq_nil (eq := false) e dz hn hF q
def spIsN (K : PySem.W.Frag) : Sp := fun vs H Q _ => ∃ (v : V) (d : PyData) (n : Int), vs = [v, .int n] ∧ Dp K H v d ∧ noL d = true ∧ Q (.bl (isI d 0 n)) H
end
end C1

/-! The law's draws of nets. -/
namespace C1
open PySem PySem.Spec PyProof.Rows L2 SX
abbrev sLawPick : Stmt := topS 29
theorem scLawPick : FnScope ["w", "rows"] ["w", "rows"] (defScope sLawPick) := ⟨rfl, rfl, rfl, by decide +kernel, rfl, by decide +kernel, by decide +kernel⟩
abbrev NLD : List Str := ["w", "latches", "ands", "outs", "firsts", "pairs", "k", "one", "many", "nexts", "told"]
section
variable {P : Program} {w : World} {K : PySem.W.Frag} {mg : Str → Option Value} {base : Heap} {H H' : Hp}
theorem lc_draw {a l D : Addr} {ds : List Int} {lo : Int} {n : Nat} {te : TE} {σ : L2.St} {wv : List Nat} {j : Nat} {Pk : Nat → Prop} {Qd : Hp → Prop} (nD : H D = none) (W : Wd H a l ds) (hn : n ≤ 500)
    (ht : ∀ i H1 (R : VK), i < n → Kp a H H1 → Wd H1 a l ds → (∀ x H2, Pk x → Kp a H1 H2 → Wd H2 a l ds → R (iV x) H2) → te ((wipe σ wv).set j (some (.int (lo + ((i : Nat) : Int))))) H1 R)
    (hσ : ∀ x, wipe ((wipe σ wv).set j (some x)) wv = wipe σ wv)
    (q : ∀ H' (xs : List Nat), Kp a H H' → Wd H' a l ds → xs.length = n → (∀ x ∈ xs, Pk x) → H' D = some (.lst (xs.map iV)) → Qd H') :
    ∃ W : Nat → Nat → Hp → Prop, (∃ m, W 0 m (upd H D (.lst []))) ∧ ∀ i m H, W i m H →
      ((Itr lo n).stop i H ∧ Qd H) ∨ ((Itr lo n).go i H ∧ ∃ Nx : Hp → Prop, (∀ H', Nx H' → ∃ m', m' < m ∧ W (i + 1) m' H') ∧ ∀ x H', (Itr lo n).yld i H x H' → gName j x (wipe σ wv) H' fun σ2 H2 => wipe σ2 wv = wipe σ wv ∧ tYes σ2 H2 fun b H3 =>
        if b = true then te σ2 H3 fun y H4 => ∃ acc, H4 D = some (.lst acc) ∧ acc.length < sizeLine ∧ Nx (upd H4 D (.lst (acc ++ [y]))) else Nx H3) := by
  obtain ⟨neD, neL⟩ := W.ne2 nD
  refine lc_range (n := n) (fun i H1 => Kp a H H1 ∧ Wd H1 a l ds ∧ ∃ xs : List Nat, xs.length = i ∧ (∀ x ∈ xs, Pk x) ∧ H1 D = some (.lst (xs.map iV))) ⟨Kp.new nD, W.new nD, [], rfl, (fun x h => by cases h), upd_same⟩ (fun i H1 hi h => ?_) (fun H1 h => ?_)
  · obtain ⟨k1, W1, xs, lx, px, e⟩ := h
    refine ⟨hσ _, ?_⟩
    refine ht i H1 (fun y H4 => ∃ acc, H4 D = some (.lst acc) ∧ acc.length < sizeLine ∧ (Kp a H (upd H4 D (.lst (acc ++ [y]))) ∧ Wd (upd H4 D (.lst (acc ++ [y]))) a l ds ∧ ∃ xs : List Nat, xs.length = i + 1 ∧ (∀ x ∈ xs, Pk x) ∧ (upd H4 D (.lst (acc ++ [y]))) D = some (.lst (xs.map iV)))) hi k1 W1 fun x H2 hx k2 W2 => ?_
    refine ⟨_, k2 D _ neD e, by rw [List.length_map]; exact lineS200 (by omega), (k1.trans k2).put nD, W2.put neD neL, xs ++ [x], by rw [List.length_append, lx]; rfl, fun y hy => ?_, ?_⟩
    · rcases List.mem_append.mp hy with h | h
      · exact px y h
      · rw [List.mem_singleton.mp h]
        exact hx
    · rw [upd_same, List.map_append]
      rfl
  · obtain ⟨k1, W1, xs, lx, px, e⟩ := h
    exact q H1 xs k1 W1 lx px e
def spPick (K : PySem.W.Frag) : Sp := fun vs H Q _ => ∃ (a l r : Addr) (ds : List Int) (xs : List V) (es : List PyData), vs = [.ref a, .ref r] ∧ Wd H a l ds ∧ H r = some (.lst xs) ∧ DpAll K H xs es ∧ noLs es = true ∧ 0 < es.length ∧ ∀ H' v d, Kp a H H' → Wd H' a l ds → Dp K H' v d → d ∈ es → Q v H'
theorem ok_pick {f fN : Addr} {fd fdN : FuncData} (F : Fun K "_law_pick" "_law_pick" sLawPick f fd) (B : Gp mg) (GN : FnOk P w K mg base CX0 1 fN fdN ["w", "many"] spNext) (kN : PySem.W.keepIn K (.ref fN) = true) (bN : Binds K fdN ["w", "many"] []) (gN : mg "_law_next" = some (.ref fN)) :
    FnOk P w K mg base CX0 2 f fd ["w", "rows"] (spPick K) := by
  refine F.ok scLawPick (fun vs H Q E h => ?_) (fun cdv A outer s H vs Q E hr h => ?_)
  · obtain ⟨a, l, r, ds, xs, es, rfl, _⟩ := h
    rfl
  · obtain ⟨a, l, r, ds, xs, es, rfl, W, e, de, ne, pos, q⟩ := h
    have lxs := dps_len de
    refine ⟨_, (pss_one (ps_ret (pe_ix ix_list (pv 1) (pe_call GN hr (by rfl) gN kN bN .nil pass0 (pa_cons (pv 0) (pa_cons (pe_callB call_len_seq (by rfl) B.len PySem.boot_len (pa_cons (pv 1) pa_nil)) pa_nil))) (fun _ _ => rfl)))), ?_⟩
    refine ⟨_, rfl, _, rfl, _, rfl, r, _, rfl, .inl (SqL.of e), a, l, ds, _, rfl, by omega, W, fun i H1 hi k1 _ W1 => ?_⟩
    obtain ⟨x, hx⟩ : ∃ x, xs[i]? = some x := ⟨_, List.getElem?_eq_getElem (by omega)⟩
    obtain ⟨d, hd, dx⟩ := dps_get (stay_dps W k1 ne de) hx
    exact ⟨r, _, _, _, rfl, rfl, SqL.of (k1 r _ (wd_lne W e) e), atI_nat hx, q H1 x d k1 W1 dx (List.mem_of_getElem? hd)⟩
end
end C1

set_option maxHeartbeats 4000000
/-! The mathematics of the tokens: the relation Lx (what a text from a place on gives), words that are read whole, texts put together of gaps and words. -/
namespace K0
open PySem SX
abbrev Cs := List Nat
def lets : Cs := (Str.ofString "abcdefghijklmnopqrstuvwxyzABCDEFGHIJKLMNOPQRSTUVWXYZ").cps.toList
def digs : Cs := (Str.ofString "0123456789").cps.toList
def shorts : Cs := (Str.ofString ":;,()[]=+-*&|^~<?").cps.toList
def kwV : List L2.V := [.str "machine", .str "reg", .str "file", .str "rom", .str "at", .str "let", .str "guess", .str "when", .str "wide", .str "part", .str "join"]
def longV : List L2.V := [.str ":=", .str "<<", .str ">>", .str "=="]
def isKw (t : Cs) : Bool := L2.inV (.str (S t)) kwV
def isLong (t : Cs) : Bool := L2.inV (.str (S t)) longV
def goesOn (c : Nat) : Bool := decide (c ∈ lets) || (decide (c ∈ digs) || decide (c = 95))
def isNum (t : Cs) : Bool := match t with
  | [] => false
  | c :: r => if c = 48 ∧ r ≠ [] then false else (c :: r).all fun d => decide (d ∈ digs)
def small (t : Cs) : Option Nat := if t.length ≤ 10 ∧ isNum t = true then (if NumText.digitsVal t < 4294967296 then some (NumText.digitsVal t) else none) else none
def litOk (v wd : Nat) : Bool := decide (1 ≤ wd) && (decide (wd ≤ 32) && decide (v < 2 ^ wd))
abbrev KP := Str × PyData
def numTok (t : Cs) : Option KP :=
  let p := Txt.partition (S t) (S [119])
  if p.2.1 = S [] then (small p.1.cps.toList).map fun v => ("number", .int (v : Nat))
  else match small p.1.cps.toList, small p.2.2.cps.toList with
    | some v, some wd => if litOk v wd = true then some ("literal", .tuple [.int (v : Nat), .int (wd : Nat)]) else none
    | _, _ => none
def tokOf (t : Cs) : Option KP := match t with
  | [] => none
  | c :: _ => if c ∈ digs then numTok t else if c ∈ lets then (if isKw t = true then some ("keyword", .str (S t)) else some ("name", .str (S t))) else some ("sign", .str (S t))
def tokLen (s : Cs) : Option Nat := match s with
  | [] => none
  | h :: t => if h ∈ lets ∨ h ∈ digs then some (1 + (t.takeWhile goesOn).length)
    else if isLong ((h :: t).take 2) = true then some 2 else if h ∈ shorts then some 1 else none
def mk (kp : KP) (r c : Int) : PyData := .tuple [.str kp.1, kp.2, .int r, .int c]
inductive Out | ok (ts : List PyData) | bad (isChar : Bool) (r c : Int)
inductive Lx : Cs → Int → Int → List PyData → Out → Prop
  | nil {r c acc} : Lx [] r c acc (.ok (acc ++ [mk ("end", .str (S [])) r c]))
  | nl {s r c acc o} : Lx s (r + 1) 1 acc o → Lx (10 :: s) r c acc o
  | sp {s r c acc o} : Lx s r (c + 1) acc o → Lx (32 :: s) r c acc o
  | rem {s r c acc o} : Lx (s.dropWhile fun x => decide (x ≠ 10)) r (c + 1 + ((s.takeWhile fun x => decide (x ≠ 10)).length : Int)) acc o → Lx (35 :: s) r c acc o
  | tok {h t r c acc o n kp} : h ≠ 10 → h ≠ 32 → h ≠ 35 → tokLen (h :: t) = some n → tokOf ((h :: t).take n) = some kp → Lx ((h :: t).drop n) r (c + (n : Int)) (acc ++ [mk kp r c]) o → Lx (h :: t) r c acc o
  | badnum {h t r c acc n} : h ≠ 10 → h ≠ 32 → h ≠ 35 → tokLen (h :: t) = some n → tokOf ((h :: t).take n) = none → Lx (h :: t) r c acc (.bad false r c)
  | badch {h t r c acc} : h ≠ 10 → h ≠ 32 → h ≠ 35 → tokLen (h :: t) = none → Lx (h :: t) r c acc (.bad true r c)
/-- what may stand behind a word -/
inductive Stop : Cs → Prop
  | nil : Stop []
  | sp {s} : Stop (32 :: s)
  | nl {s} : Stop (10 :: s)
  | rem {s} : Stop (35 :: s)
def Good (t : Cs) (kp : KP) : Prop := t.length ≤ 40 ∧ ∀ rest r c acc o, Stop rest → Lx rest r (c + (t.length : Int)) (acc ++ [mk kp r c]) o → Lx (t ++ rest) r c acc o
def Bad (t : Cs) (b : Bool) : Prop := t.length ≤ 40 ∧ ∀ rest r c acc, Stop rest → Lx (t ++ rest) r c acc (.bad b r c)
inductive WordOk (t : Cs) (kp : KP) : Prop
  | good : kp.1 ≠ "bad" → Good t kp → WordOk t kp
  | bad (b : Bool) : kp = ((("bad" : Str), PyData.bool b) : KP) → Bad t b → WordOk t kp

theorem stop_take {rest : Cs} (h : Stop rest) : rest.takeWhile goesOn = [] := by
  cases h with
  | nil => rfl
  | sp => exact List.takeWhile_cons_of_neg (by decide +kernel)
  | nl => exact List.takeWhile_cons_of_neg (by decide +kernel)
  | rem => exact List.takeWhile_cons_of_neg (by decide +kernel)
theorem run_take {t rest : Cs} (h : ∀ c ∈ t, goesOn c = true) (hs : Stop rest) : (t ++ rest).takeWhile goesOn = t := by
  rw [List.takeWhile_append_of_pos h, stop_take hs, List.append_nil]
theorem start_ne {h : Nat} (e : h ∈ lets ∨ h ∈ digs) : h ≠ 10 ∧ h ≠ 32 ∧ h ≠ 35 := by
  refine ⟨?_, ?_, ?_⟩ <;> (rintro rfl; revert e; decide +kernel)
/-- a word that begins with a letter or a digit -/
theorem run_len {h : Nat} {t rest : Cs} (e : h ∈ lets ∨ h ∈ digs) (hg : ∀ c ∈ t, goesOn c = true) (hs : Stop rest) : tokLen (h :: (t ++ rest)) = some (1 + t.length) := by
  unfold tokLen
  simp only []
  rw [if_pos e, run_take hg hs]
theorem good_run {h : Nat} {t : Cs} {kp : KP} (e : h ∈ lets ∨ h ∈ digs) (hg : ∀ c ∈ t, goesOn c = true) (hl : t.length ≤ 39) (hk : tokOf (h :: t) = some kp) : Good (h :: t) kp := by
  refine ⟨by rw [List.length_cons]; omega, fun rest r c acc o hs hL => ?_⟩
  show Lx (h :: (t ++ rest)) _ _ _ _
  obtain ⟨n1, n2, n3⟩ := start_ne e
  have ht : (h :: (t ++ rest)).take (1 + t.length) = h :: t := by
    rw [Nat.add_comm 1 t.length, List.take_succ_cons, List.take_left]
  have hd : (h :: (t ++ rest)).drop (1 + t.length) = rest := by
    rw [Nat.add_comm 1 t.length, List.drop_succ_cons, List.drop_left]
  refine Lx.tok n1 n2 n3 (run_len e hg hs) (by rw [ht]; exact hk) ?_
  rw [hd]
  have el : ((h :: t).length : Int) = ((1 + t.length : Nat) : Int) := by rw [List.length_cons, Nat.add_comm 1 t.length]
  rw [el] at hL
  exact hL
theorem bad_run {h : Nat} {t : Cs} (e : h ∈ lets ∨ h ∈ digs) (hg : ∀ c ∈ t, goesOn c = true) (hl : t.length ≤ 39) (hk : tokOf (h :: t) = none) : Bad (h :: t) false := by
  refine ⟨by rw [List.length_cons]; omega, fun rest r c acc hs => ?_⟩
  show Lx (h :: (t ++ rest)) _ _ _ _
  obtain ⟨n1, n2, n3⟩ := start_ne e
  have ht : (h :: (t ++ rest)).take (1 + t.length) = h :: t := by
    rw [Nat.add_comm 1 t.length, List.take_succ_cons, List.take_left]
  exact Lx.badnum n1 n2 n3 (run_len e hg hs) (by rw [ht]; exact hk)
/-- the same by computation, for a word that is written out -/
def runChk (t : Cs) (kp : Option KP) : Bool := match t with
  | [] => false
  | h :: r => (decide (h ∈ lets) || decide (h ∈ digs)) && (r.all goesOn && (decide (r.length ≤ 39)))
theorem chk_parts {t : Cs} (h : runChk t none = true) : ∃ c r, t = c :: r ∧ (c ∈ lets ∨ c ∈ digs) ∧ (∀ x ∈ r, goesOn x = true) ∧ r.length ≤ 39 := by
  cases t with
  | nil => cases h
  | cons c r =>
    have h' : ((decide (c ∈ lets) || decide (c ∈ digs)) && (r.all goesOn && (decide (r.length ≤ 39)))) = true := h
    rw [Bool.and_eq_true, Bool.and_eq_true, Bool.or_eq_true, decide_eq_true_eq, decide_eq_true_eq, decide_eq_true_eq, List.all_eq_true] at h'
    exact ⟨c, r, rfl, h'.1, h'.2.1, h'.2.2⟩
theorem word_run {t : Cs} {kp : KP} (h : runChk t none = true) (hk : tokOf t = some kp) (hb : kp.1 ≠ "bad") : WordOk t kp := by
  obtain ⟨c, r, rfl, e, hg, hl⟩ := chk_parts h
  exact .good hb (good_run e hg hl hk)
theorem word_badrun {t : Cs} (h : runChk t none = true) (hk : tokOf t = none) : WordOk t (("bad", .bool false) : KP) := by
  obtain ⟨c, r, rfl, e, hg, hl⟩ := chk_parts h
  exact .bad false rfl (bad_run e hg hl hk)
/-- a sign: not a letter, not a digit; what stands behind makes no longer one of it -/
def signChk (h : Nat) : Bool := !decide (h ∈ lets) && (!decide (h ∈ digs) && (!isLong [h] && (!isLong [h, 32] && (!isLong [h, 10] && (!isLong [h, 35] && (!decide (h = 10) && (!decide (h = 32) && !decide (h = 35))))))))
theorem sign_len {h : Nat} {rest : Cs} (hc : signChk h = true) (hs : Stop rest) : tokLen (h :: rest) = if h ∈ shorts then some 1 else none := by
  unfold signChk at hc
  simp only [Bool.and_eq_true, Bool.not_eq_true', decide_eq_false_iff_not] at hc
  obtain ⟨h1, h2, h3, h4, h5, h6, _⟩ := hc
  have hl : isLong ((h :: rest).take 2) = false := by
    cases hs with
    | nil => exact h3
    | sp => exact h4
    | nl => exact h5
    | rem => exact h6
  unfold tokLen
  simp only []
  rw [if_neg (fun z => z.elim h1 h2), hl]
  rfl
theorem sign_ne {h : Nat} (hc : signChk h = true) : h ≠ 10 ∧ h ≠ 32 ∧ h ≠ 35 := by
  unfold signChk at hc
  simp only [Bool.and_eq_true, Bool.not_eq_true', decide_eq_false_iff_not] at hc
  exact ⟨hc.2.2.2.2.2.2.1, hc.2.2.2.2.2.2.2.1, hc.2.2.2.2.2.2.2.2⟩
theorem sign_tok {h : Nat} {t : Cs} (h1 : h ∉ lets) (h2 : h ∉ digs) : tokOf (h :: t) = some (("sign", .str (S (h :: t))) : KP) := by
  unfold tokOf
  simp only []
  rw [if_neg h2, if_neg h1]
theorem word_short {h : Nat} (hc : signChk h = true) (hm : h ∈ shorts) : WordOk [h] (("sign", .str (S [h])) : KP) := by
  obtain ⟨n1, n2, n3⟩ := sign_ne hc
  have hc' := hc
  unfold signChk at hc'
  simp only [Bool.and_eq_true, Bool.not_eq_true', decide_eq_false_iff_not] at hc'
  refine .good (show ("sign" : Str) ≠ "bad" by decide) ⟨(by decide : 1 ≤ 40), fun rest r c acc o hs hL => ?_⟩
  refine Lx.tok (n := 1) n1 n2 n3 ((sign_len hc hs).trans (if_pos hm)) (sign_tok hc'.1 hc'.2.1) ?_
  exact hL
theorem word_badch {h : Nat} (hc : signChk h = true) (hm : h ∉ shorts) : WordOk [h] (("bad", .bool true) : KP) := by
  obtain ⟨n1, n2, n3⟩ := sign_ne hc
  exact .bad true rfl ⟨(by decide : 1 ≤ 40), fun rest r c acc hs => Lx.badch n1 n2 n3 ((sign_len hc hs).trans (if_neg hm))⟩
theorem word_long {a b : Nat} (h1 : a ∉ lets) (h2 : a ∉ digs) (h3 : isLong [a, b] = true) (hn : a ≠ 10 ∧ a ≠ 32 ∧ a ≠ 35) : WordOk [a, b] (("sign", .str (S [a, b])) : KP) := by
  refine .good (show ("sign" : Str) ≠ "bad" by decide) ⟨(by decide : 2 ≤ 40), fun rest r c acc o hs hL => ?_⟩
  refine Lx.tok (n := 2) hn.1 hn.2.1 hn.2.2 ?_ (sign_tok (t := [b]) h1 h2) ?_
  · show tokLen (a :: b :: rest) = some 2
    unfold tokLen
    simp only []
    rw [if_neg (fun z => z.elim h1 h2)]
    show (if isLong [a, b] = true then some 2 else _) = _
    rw [if_pos h3]
  · exact hL
/-! numbers -/
theorem dig_iff {c : Nat} : (48 ≤ c ∧ c ≤ 57) → c ∈ digs := by
  rintro ⟨h1, h2⟩
  have : ∀ d : Nat, d < 58 → 48 ≤ d → d ∈ digs := by decide +kernel
  exact this c (by omega) h1
theorem num_head {n : Nat} (h : 0 < n) : ∃ c r, TL.numL n = c :: r ∧ c ≠ 48 := by
  induction n using Nat.strongRecOn with
  | _ n ih =>
    by_cases h10 : n < 10
    · exact ⟨48 + n, [], TL.numL_lt h10, by omega⟩
    · obtain ⟨c, r, e, hc⟩ := ih (n / 10) (by omega) (by omega)
      refine ⟨c, r ++ [48 + n % 10], ?_, hc⟩
      rw [TL.numL_step (by omega), e]
      rfl
theorem num_isNum (n : Nat) : isNum (TL.numL n) = true := by
  have hd := TL.numL_digits n
  have key : ∀ t : Cs, (∃ c r, t = c :: r ∧ ¬(c = 48 ∧ r ≠ [])) → (∀ x ∈ t, x ∈ digs) → isNum t = true := by
    rintro t ⟨c, r, rfl, hc⟩ hx
    unfold isNum
    simp only []
    rw [if_neg hc, List.all_eq_true]
    intro x hx'
    exact decide_eq_true (hx x hx')
  refine key _ ?_ fun x hx => dig_iff (hd x hx)
  by_cases h0 : n = 0
  · subst h0
    exact ⟨48, [], TL.numL_lt (by decide), fun z => z.2 rfl⟩
  · obtain ⟨c, r, e, hc⟩ := num_head (n := n) (by omega)
    exact ⟨c, r, e, fun z => hc z.1⟩
theorem small_num {n : Nat} (h : n < 4294967296) : small (TL.numL n) = some n := by
  unfold small
  rw [if_pos ⟨TL.numL_len (by decide) (by omega), num_isNum n⟩, TL.numL_val, if_pos h]
theorem num_noW (n : Nat) : (119 : Nat) ∉ TL.numL n := TL.numL_free (by omega)
theorem num_tok {n : Nat} (h : n < 4294967296) : numTok (TL.numL n) = some (("number", .int (n : Nat)) : KP) := by
  have e : Txt.partition (S (TL.numL n)) (S [119]) = (S (TL.numL n), Str.empty, Str.empty) := TL.partition_none (y := S [119]) (s := 119) (S := []) rfl (num_noW n)
  unfold numTok
  simp only [e]
  rw [if_pos (by rfl)]
  show (small (TL.numL n)).map _ = _
  rw [small_num h]
  rfl
theorem lit_tok {v wd : Nat} (h1 : 1 ≤ wd) (h2 : wd ≤ 32) (h3 : v < 2 ^ wd) : numTok (TL.numL v ++ 119 :: TL.numL wd) = some (("literal", .tuple [.int (v : Nat), .int (wd : Nat)]) : KP) := by
  have e : Txt.partition (S (TL.numL v ++ 119 :: TL.numL wd)) (S [119]) = (S (TL.numL v), S [119], S (TL.numL wd)) := by
    have e1 : S (TL.numL v ++ 119 :: TL.numL wd) = S (TL.numL v) ++ S [119] ++ S (TL.numL wd) := by
      rw [S_cat, S_cat, List.append_assoc]
      rfl
    rw [e1]
    exact TL.partition_app (y := S [119]) (s := 119) (S := []) rfl (num_noW v)
  have hv : v < 4294967296 := Nat.lt_of_lt_of_le h3 (Nat.pow_le_pow_right (by decide) h2)
  unfold numTok
  simp only [e]
  rw [if_neg (by decide)]
  show (match small (TL.numL v), small (TL.numL wd) with
    | some v, some wd => if litOk v wd = true then some ((("literal" : Str), PyData.tuple [.int (v : Nat), .int (wd : Nat)]) : KP) else none
    | _, _ => none) = _
  rw [small_num hv, small_num (by omega : wd < 4294967296)]
  have hk : litOk v wd = true := by
    unfold litOk
    rw [decide_eq_true h1, decide_eq_true h2, decide_eq_true h3]
    rfl
  simp only []
  rw [if_pos hk]
theorem dig_goes {c : Nat} (h : c ∈ digs) : goesOn c = true := by
  unfold goesOn
  rw [decide_eq_true h]
  simp
theorem num_cons (n : Nat) : ∃ c r, TL.numL n = c :: r ∧ c ∈ digs ∧ ∀ x ∈ r, x ∈ digs := by
  have hd := TL.numL_digits n
  have hn := TL.numL_ne n
  cases e : TL.numL n with
  | nil => exact absurd e hn
  | cons c r =>
    rw [e] at hd
    exact ⟨c, r, rfl, dig_iff hd.head, fun x hx => dig_iff (hd.tail x hx)⟩
theorem word_num {n : Nat} (h : n < 4294967296) : WordOk (TL.numL n) (("number", .int (n : Nat)) : KP) := by
  obtain ⟨c, r, e, hc, hr⟩ := num_cons n
  have hk := num_tok h
  have hl : (TL.numL n).length ≤ 10 := TL.numL_len (by decide) (by omega)
  rw [e] at hk hl ⊢
  rw [List.length_cons] at hl
  refine .good (show ("number" : Str) ≠ "bad" by decide) (good_run (.inr hc) (fun x hx => dig_goes (hr x hx)) (by omega) ?_)
  unfold tokOf
  simp only []
  rw [if_pos hc]
  exact hk
theorem word_lit {v wd : Nat} (h1 : 1 ≤ wd) (h2 : wd ≤ 32) (h3 : v < 2 ^ wd) : WordOk (TL.numL v ++ 119 :: TL.numL wd) (("literal", .tuple [.int (v : Nat), .int (wd : Nat)]) : KP) := by
  obtain ⟨c, r, e, hc, hr⟩ := num_cons v
  obtain ⟨c2, r2, e2, hc2, hr2⟩ := num_cons wd
  have hv : v < 4294967296 := Nat.lt_of_lt_of_le h3 (Nat.pow_le_pow_right (by decide) h2)
  have hk := lit_tok h1 h2 h3
  have hl : (TL.numL v).length ≤ 10 := TL.numL_len (by decide) (by omega)
  have hl2 : (TL.numL wd).length ≤ 10 := TL.numL_len (by decide) (by omega)
  rw [e] at hk hl ⊢
  rw [e2] at hk hl2 ⊢
  rw [List.length_cons] at hl hl2
  have hw : goesOn 119 = true := by decide +kernel
  refine .good (show ("literal" : Str) ≠ "bad" by decide) (good_run (t := r ++ 119 :: c2 :: r2) (.inr hc) (fun x hx => ?_) (by rw [List.length_append, List.length_cons, List.length_cons]; omega) ?_)
  · rcases List.mem_append.mp hx with h | h
    · exact dig_goes (hr x h)
    · rcases List.mem_cons.mp h with h | h
      · rw [h]; exact hw
      · rcases List.mem_cons.mp h with h | h
        · rw [h]; exact dig_goes hc2
        · exact dig_goes (hr2 x h)
  · show tokOf (c :: (r ++ 119 :: c2 :: r2)) = _
    unfold tokOf
    simp only []
    rw [if_pos hc]
    exact hk
end K0

set_option maxHeartbeats 4000000
/-! all(..) of a generator expression over a text whose element reads a global. -/
namespace K0G
open PySem PySem.Spec PyProof.Rows L2 GxR
/-- the element is a test of one sign; it may read the module's names -/
def EltM (X : Cx) (sc : Scope) (x : Str) (elt : Expr) (pb : Nat → Bool) : Prop :=
  ∀ (ce : Env) (B : Around) (Z : Value → Shared → Prop) (c : Nat) (t : Tok) (s2 : Shared) (m2 : Str → Option Value),
    ce.scope = sc → ce.globals = mainGlobals → s2.heap.Ns mainGlobals X.mg → s2.heap.Ns ce.locals m2 → m2 x = some (.str ⟨#[c]⟩ t) →
      wpAny (model X.prog X.w) B (eval elt ce) (fun y s3 => y = .bool (pb c) ∧ Keeps s2 s3) Z s2
/-- x in NAME, NAME a text of the module -/
theorem elt_in {X : Cx} {sc : Scope} {x y : Str} {z : Str} {u : Tok} {p1 p2 p3 : Pos} (hk : sc.kind = .function) (hx : sc.names.lookup x = some .local) (hy : sc.names.lookup y = some .globalImplicit)
    (hg : X.mg y = some (.str z u)) (dx : (x == ("__debug__" : Str)) = false) (dy : (y == ("__debug__" : Str)) = false) :
    EltM X sc x (.Compare (.Name x p1) [.In] [.Name y p2] p3) (fun c => decide (c ∈ z.cps.toList)) := by
  intro ce B Z c t s2 m2 hsc hgl hG hL hm
  have kx : ce.kindOf x = some .local := by
    show ce.scope.names.lookup x = _
    rw [hsc]
    exact hx
  have ky : ce.kindOf y = some .globalImplicit := by
    show ce.scope.names.lookup y = _
    rw [hsc]
    exact hy
  have kf : ce.scope.kind = .function := by
    rw [hsc]
    exact hk
  refine wpAny_Compare1 (wpAny_Name (wpAny_loadName_local kf kx hL hm ?_) dx)
  refine Calls.Name_function_global kf ky (Calls.loadGlobal_global (mg := X.mg) (by rw [hgl]; exact hG) hg ?_) dy
  exact in_str ⟨congrArg Value.bool (PySem.StrLaws.found_one z c), keeps_refl _⟩
theorem pe_allM {X : Cx} {c P : Addr} {elt iter : Expr} {x : Str} {px p pos gpos : Pos} {sc : Scope} {pb : Nat → Bool} {te : TE} {k : Nat}
    (hr : Room k X.A) (hg : Gl X "all") (hm : X.mg "all" = none) (hb : bootBuiltins "all" = some (.builtin "all"))
    (TB : TabB X.base X.mg c P) (hc : X.env.code = .ref c) (S : GenS X.env sc x) (hi : PE X iter te) (hel : EltM X sc x elt pb)
    (hs : ∀ v, genFold iter X.env v = pure v)
    (he : starEach [.GeneratorExp elt [⟨.Name x px, iter, [], 0⟩] sc gpos] X.env = (false, eval (.GeneratorExp elt [⟨.Name x px, iter, [], 0⟩] sc gpos) X.env) :: starEach [] X.env := by rfl) :
    PE X (.Call (.Name "all" p) [.GeneratorExp elt [⟨.Name x px, iter, [], 0⟩] sc gpos] [] pos) (tAllS P pb te) := by
  refine ⟨fun pins s σ H Q I h => ?_⟩
  refine wpAny_Call_Name_kw (ld_blt I hg hm hb (callWith_builtin1 ?_ he (by rfl)))
  rw [he]
  refine Calls.spliced_cons ?_
  refine wpAny_GeneratorExp_walksQ hr.hd S.co (closure_ok S.free) S.cell S.dot S.loc S.kind (by have := hr.dp; omega) ?_ hs
  refine thn (hi.run pins s σ H _ I h) fun xv s1 w1 => ?_
  obtain ⟨v, H1, I1, r1, a, ev, ⟨ps, hP, ht⟩, hQ⟩ := w1
  subst ev
  obtain ⟨t, rfl⟩ := r1
  refine wpAny_pyIter_str fun ob Sg Wk hSg => ?_
  -- the table's object, the walked text's iterator
  have tab1 : s1.heap.get? P = some { cls := .none, data := .fields ps } := I1.hok P _ hP
  have below : ∀ {b : Addr} {u : Obj}, s1.heap.get? b = some u → b < s1.heap.objs.size := fun e => Heap.lt_size e
  have tab2 : (s1.heap.push ob).get? P = some { cls := .none, data := .fields ps } := Heap.get?_push_of_some _ tab1
  have hd := TB.code.keeps (h' := s1.heap.push ob) fun b u e => Heap.get?_push_of_some _ (I1.bk b u e)
  have glob2 : (s1.heap.push ob).Ns mainGlobals X.mg := (I1.mod.glob.keeps I1.bk).push ob
  have lim2 : (s1.heap.push ob).NoLimit := I1.nolimit.push ob
  have stat : cStatics < s1.heap.objs.size ∧ cStatics ≠ P := by
    obtain ⟨m, hn, _⟩ := I1.nolimit
    refine ⟨hn.lt, fun z => ?_⟩
    obtain ⟨o, es, ep, e, d, _⟩ := hn
    rw [z, tab1] at e
    cases e
    cases d
  have size2 : (s1.heap.push ob).objs.size = s1.heap.objs.size + 1 := Heap.size_push ..
  refine ⟨lim2, ?_⟩
  -- both ways: the expression's code is made now, or was made before
  have both : ∀ (R : Value → Shared → Prop), (∀ (cv : Value) (h3 : Heap) (tk : Nat) (more : Array Value), Heap.ExtBut P (s1.heap.push ob) h3 → s1.heap.objs.size < h3.objs.size →
      h3.get? P = some { cls := .none, data := .fields (ps ++ more) } → TriplesOk (ps ++ more).toList → R cv { s1 with heap := h3, toks := tk }) →
      wpAny (model X.prog X.w) X.A (genexprCode X.env gpos (X.env.qual ++ "<genexpr>") sc) R X.xe { s1 with heap := s1.heap.push ob } := by
    intro R hR
    cases q : codeAmong gpos ps.toList with
    | none =>
      refine wpAny_genexprCodeX hc (hd.code tab2 ht) (hd.tab tab2) q fun c2 h2 tk ext ge lt isC _ isT _ => ?_
      obtain ⟨_, _, _, _, _, _, _, _, _, _, _, _, _, _, _, _, _, _, _, trip, _⟩ := isC
      refine hR _ h2 tk _ ext ?_ isT.2 trip
      have ge' : s1.heap.objs.size + 1 ≤ c2 := by
        rw [← size2]
        exact ge
      exact Nat.lt_of_lt_of_le (Nat.lt_of_succ_le ge') (Nat.le_of_lt lt)
    | some cv =>
      refine wpAny_genexprCode_hit hc (hd.code tab2 ht) q (hR cv (s1.heap.push ob) s1.toks #[] (Heap.ExtBut.refl _ _) (by rw [size2]; exact Nat.lt_succ_self _) ?_ ?_)
      · rw [Array.append_empty]
        exact tab2
      · rw [Array.append_empty]
        exact ht
  refine both _ fun cv h3 tk more ext grow tab3 trip => ?_
  obtain ⟨bm, bo, b1, b2, b3, b4, b5, b6, b7, b8⟩ := TB.bm
  have old3 : ∀ b u, b ≠ P → s1.heap.get? b = some u → h3.get? b = some u := fun b u n e => ext b u n (Heap.get?_push_of_some _ e)
  have glob3 : h3.Ns mainGlobals X.mg := glob2.extBut ext TB.gP
  refine wpAny_builtinsFor (m := X.mg) (by rw [I1.ok.glob]; exact glob3) b1 b2 (old3 bm bo b4 (I1.bk _ _ b5)) b6 b7 b8 ?_
  have notIt : ∀ b u, s1.heap.get? b = some u → b ∉ [s1.heap.objs.size] := fun b u e m => by
    have e1 := List.mem_singleton.mp m
    rw [e1] at e
    exact Nat.lt_irrefl _ (below e)
  refine ⟨s1.heap.objs.size, [s1.heap.objs.size], [s1.heap.objs.size], a.cps.size, SignAt a, Sg, (fun _ => true),
    (fun i y => ∃ cc, a.cps[i]? = some cc ∧ y = .bool (pb cc)), rfl, Wk, ?_, ?_, lim2.extBut ext stat.2, ?_, ?_, ?_⟩
  · exact (Wk X.A hr.hd).frame _ _ _ hSg fun b m u e => ext b u (fun z => notIt P _ tab1 (z ▸ m)) e
  · intro b m
    rw [List.mem_singleton.mp m]
    exact grow
  · exact fun m => Nat.ne_of_lt stat.1 (List.mem_singleton.mp m)
  · intro href hh
    refine ⟨fun B Z i v s2 m2 _ _ _ _ _ => ?_, fun B Z i v s2 m2 _ hv _ hn hmx hk => ?_⟩
    · simp only [List.forIn_nil]
      exact wpAny_pure ⟨rfl, keeps_refl _⟩
    · obtain ⟨cc, u, hcc, rfl⟩ := hv
      have gobj : ∀ o, h3.get? mainGlobals = some o → s2.heap.get? mainGlobals = some o := fun o e =>
        hk mainGlobals (List.mem_range.mpr (Heap.lt_size e)) (by
          have g1 := I1.mod.glob.keeps I1.bk
          obtain ⟨o1, _, _, e1, _⟩ := g1
          exact notIt _ _ e1) o (hh _ _ e)
      refine wpAny_mono (hel _ B Z cc u s2 m2 rfl I1.ok.glob (glob3.at gobj) hn hmx) (fun y s3 r => ⟨⟨cc, hcc, r.1⟩, r.2⟩) fun _ _ e => e
  · intro g h5 tk5 gs bare above size5 keep5 W5 at5
    simp only [GxR.passing_true, List.length_range] at W5
    refine Calls.spliced_nil (call_all_walkS (W5.in4_1.self 0 _ _ _ at5 ⟨g, _, _, _, _, _, _, trF pb a.cps.toList, rfl, W5.in4_1, at5, ?_, fun s' mv => ?_⟩))
    · intro j y sj Qj Ej hy hq
      obtain ⟨i, hij, cc, hcc, rfl⟩ := hy
      obtain ⟨hj, ej⟩ := List.getElem?_eq_some_iff.mp hij
      rw [List.getElem_range] at ej
      subst ej
      have e9 : a.cps.toList[j]? = some cc := by
        rw [Array.getElem?_toList]
        exact hcc
      have hq2 : Qj (trF pb a.cps.toList j) sj := hq
      rw [trF_some e9] at hq2
      exact wpAny_truthy_bool hq2
    · have free : ∀ b u, s1.heap.get? b = some u → b ∉ h3.objs.size :: [s1.heap.objs.size] := fun b u e m => by
        rcases List.mem_cons.mp m with z | z
        · have l := below e
          rw [z] at l
          exact Nat.lt_irrefl _ (Nat.lt_trans l grow)
        · exact notIt b u e z
      have J := inv_tab (more := more) (h' := s'.heap) (g' := s'.gens) (d' := s'.drawn) (t' := s'.toks) I1 hP
        (fun b u n e => mv.heap b u (free b u e) (keep5 b u (old3 b u n e))) (mv.heap P _ (free P _ tab1) (keep5 P _ tab3)) (AllBare.movedS (I1.bare.push bare) mv)
      rw [sh_eta s1 s' mv.os] at J
      refine ⟨.bl _, _, J, rfl, ?_⟩
      rw [all_signs a pb]
      exact hQ _ ⟨⟨ps ++ more, upd_same, trip⟩, fun b n => upd_ne n⟩
end K0G

set_option maxHeartbeats 4000000
/-! try with several clauses «except C as n», one name for all. -/
namespace K0T
open PySem PySem.Spec PyProof.Rows L2
abbrev Suite := Addr → Value → Option Addr → TS
/-- the ends of a suite: behind it the slot of the clause's name is empty -/
abbrev gone (i : Nat) (D : Ends) : Ends := { nx := fun σ H => D.nx (σ.set i none) H, rt := D.rt, bk := fun σ H => D.bk (σ.set i none) H, ct := fun σ H => D.ct (σ.set i none) H }
def wAll (K : PySem.W.Frag) (i : Nat) (Wo : WX) (D : Ends) : List (Value × Suite) → WX
  | [] => Wo
  | (c, ts) :: r => fun cls d σ H => ∃ b, PySem.W.exmOne K cls c = some b ∧ (b = true → ∀ a, H a = none → ts a cls d (gone i D) (σ.set i (some (.ref a))) H) ∧ (b = false → wAll K i Wo D r cls d σ H)
/-- the clauses, each by its class and its suite's reading -/
inductive Cl (X : Cx) (n : Str) : List ExceptHandler → List (Value × Suite) → Prop
  | nil : Cl X n [] []
  | cons {x : Str} {c : Value} {ts : Suite} {st : Stmt} {sts : List Stmt} {np cp : Pos} {r : List ExceptHandler} {l : List (Value × Suite)} : Names X x c →
      (∀ (a : Addr) (oe : Obj) (cls : Value) (d : Option Addr) (pn : List (Addr × Obj)), Zc cls d oe → (∃ vs, oe.data = .fields vs) → PSs (X.suite a ((a, oe) :: pn)) (st :: sts) (ts a cls d)) →
      Cl X n r l → Cl X n (.ExceptHandler (some (.Name x np)) (some n) (st :: sts) cp :: r) ((c, ts) :: l)
theorem no_frame {B h : Heap} {L : List Env} {a : Addr} {o : Obj} {vs : Array Value} (ff : h.FunFrames B L) (e : h.get? a = some o) (d : o.data = .fields vs) : a ∉ frs L := fun hm => by
  obtain ⟨_, o2, e2, hn⟩ := ff.mem hm
  rw [e] at e2
  cases e2
  exact hn _ d
section
variable {X : Cx} {n : Str} {i : Nat} {body : List Stmt} {h₀ : ExceptHandler} {hds : List ExceptHandler} {l : List (Value × Suite)} {pos : Pos} {tb : WX → TS} {Wo : WX}
theorem ps_try_ases (hs : X.stack = X.env :: X.outer) (hf : X.env.frame = some X.env.locals) (hN : X.N.Nodup) (hi : X.N[i]? = some n) (hln : X.env.kindOf n = some .local) (tk : Takes X Wo)
    (hb : ∀ (W : WX) (pn : List (Addr × Obj)) (xe : Value → Shared → Prop), Takes (X.tr pn xe) W → PassesOwn (model X.prog X.w) X.A X.env xe → PSs (X.tr pn xe) body (tb W))
    (hh : Cl X n (h₀ :: hds) l) : PS X (.Try body (h₀ :: hds) [] [] pos) (fun D σ H => tb (wAll X.K i Wo D l) D σ H) := by
  refine ⟨fun pins s σ H D I h => ?_⟩
  have ok := I.ok
  have frm : X.A.frames = some (X.env :: X.outer) := by
    rw [ok.frames, hs]
  refine wpAny_Try_except (wpAny_mono ((hb _ (X.pn ++ pins) _ (fun u s1 caught => ?_) PassesOwn.looking).run [] s σ H D (I.toTry _) h) (fun f s1 q => ?_) fun _ _ z => z)
  · obtain ⟨a, B, sI, p2, σ2, H2, cls, d, rfl, J0, nb, up, sky, na, os, ag, w⟩ := caught
    have J := J0.ofTry ok
    show wpAny (model X.prog X.w) X.A (noteFrame (.ref a) X.env) _ _ _
    refine Sky.land Zc.steady frm hf (by rw [← hs]; exact sky) fun h3 fl up3 => ?_
    have J3 : Inv X pins σ2 H2 { s1 with heap := h3 } := J.landed nb fl.1 (up.trans up3) os ag
    obtain ⟨oe, vs, he, hz, hd⟩ := fl.there
    have nfr := no_frame fl.2.2.1 he hd
    have nL : a ≠ X.env.locals := fun z => nfr (List.mem_filterMap.mpr ⟨X.env, List.mem_cons_self, by rw [hf, z]⟩)
    have nF : a ∉ X.fs := fun hm => by
      obtain ⟨e, h1, h2⟩ := List.mem_filterMap.mp hm
      exact nfr (List.mem_filterMap.mpr ⟨e, List.mem_cons_of_mem _ h1, h2⟩)
    have S3 := J3.suite he hd na nL nF
    have go : ∀ (hs2 : List ExceptHandler) (l2 : List (Value × Suite)), Cl X n hs2 l2 → wAll X.K i Wo D l2 cls d σ2 H2 →
        wpAny (model X.prog X.w) X.A (handleBy (.ref a) X.env hs2) (SP X pins D) X.xe { s1 with heap := h3 } := by
      intro hs2 l2 hc
      induction hc with
      | nil =>
        intro w2
        refine wpAny_handleBy_nil ?_
        obtain ⟨_, _, _, o5, v5, T, _, _, e5, _, d5, t5, _⟩ := id fl
        unfold PySem.passOn
        refine wpAny_bind (wpAny_field e5 d5 t5 ?_)
        rw [if_neg (show ¬ ((Value.ref T == Value.none) = true) from by simp)]
        have out : wpAny (model X.prog X.w) X.A (setFlight (.ref a) X.env.frame) (fun _ s4 => wpAny (model X.prog X.w) X.A (throw (.ref a) : Sem Flow) (SP X pins D) X.xe s4) X.xe { s1 with heap := h3 } := by
          rw [hf]
          exact HandSPX.setFlight_upZ fl fun h4 g4 up4 => wpAny_throw (tk _ _ ⟨a, B, sI, pins, σ2, H2, cls, d, rfl, J, nb, (up.trans up3).trans up4, .inr (.inr (by rw [hs]; exact g4)), na, os, ag, w2⟩)
        first
          | exact wpAny_bind (wpAny_pure (wpAny_bind out))
          | exact wpAny_bind out
      | @cons x c ts st sts np cp r2 l3 hnm hsu _ ih =>
        intro w2
        obtain ⟨b, hb1, yes, no⟩ := w2
        refine wpAny_handleBy_cons (codeAny_handlers_test ?_) (fun q => nomatch q)
        have look := PySem.W.exm_one (M := model X.prog X.w) J3.kIn (fun A Q E s k q => wpAny_typeOf_ref (k _ _ he) (by rw [hz.1]; exact q)) hb1
        have cname : ∀ {Q E : Value → Shared → Prop}, Q c { s1 with heap := h3 } → wpAny (model X.prog X.w) (X.A.mark (some (.ref a))) (eval (.Name x np) X.env) Q E { s1 with heap := h3 } := fun {Q E} q => by
          obtain ⟨hg, dbg, hm | ⟨hm, hv, hnn⟩⟩ := hnm
          · exact ld_glob (X := X.suite a ((a, oe) :: (X.pn ++ pins))) S3 hg hm q dbg
          · exact ld_blt (X := X.suite a ((a, oe) :: (X.pn ++ pins))) S3 hg hm hv q hnn dbg
        refine cname (look.here ?_)
        cases b with
        | false => exact ih (no rfl)
        | true =>
          refine codeAny_handlers_suite_as (HandSPX.lands_againZ fl fun h4 fl4 up4 => ?_)
          have J4 : Inv X pins σ2 H2 { s1 with heap := h4 } := J.landed nb fl4.1 ((up.trans up3).trans up4) os ag
          obtain ⟨o4, v4, e4, z4, d4⟩ := fl4.there
          refine store_ok (X := X.suite a ((a, o4) :: (X.pn ++ pins))) (v := .ref a) (J4.suite e4 d4 na nL nF) hN hi (.inl hln) rfl (fun s5 S5 => ?_) (.inr hln)
          refine wpAny_mono ((hsu a o4 cls d (X.pn ++ pins) z4 ⟨_, d4⟩).run [] s5 _ H2 _ S5 (yes rfl a na)) (fun f s6 q6 => ?_) fun _ _ z => False.elim z
          have leave : ∀ {σ6 : L2.St} {H6 : Hp} {Q : Shared → Prop}, Inv (X.suite a ((a, o4) :: (X.pn ++ pins))) [] σ6 H6 s6 → (∀ s7, Inv X pins (σ6.set i none) H6 s7 → Q s7) →
              wpAny (model X.prog X.w) X.A (do bindName X.env n .none; unbindBehindTheSuite X.env n cp) (fun _ s7 => Q s7) X.xe s6 := fun {σ6 H6 Q} S6 hq => gone_ok (S6.unsuite ok) hN hi hln hq
          cases f with
          | next => exact let ⟨σ6, H6, S6, q⟩ := q6; leave S6 fun s7 J7 => ⟨_, _, J7, q⟩
          | brk => exact let ⟨σ6, H6, S6, q⟩ := q6; leave S6 fun s7 J7 => ⟨_, _, J7, q⟩
          | cont => exact let ⟨σ6, H6, S6, q⟩ := q6; leave S6 fun s7 J7 => ⟨_, _, J7, q⟩
          | ret u => exact let ⟨v6, σ6, H6, S6, r6, q⟩ := q6; leave S6 fun s7 J7 => ⟨_, _, _, J7, r6, q⟩
    exact go _ _ hh w
  · cases f with
    | next => exact let ⟨σ2, H2, J, q2⟩ := q; wpAny_execs_nil ⟨σ2, H2, J.ofTry ok, q2⟩
    | brk => exact let ⟨σ2, H2, J, q2⟩ := q; ⟨σ2, H2, J.ofTry ok, q2⟩
    | cont => exact let ⟨σ2, H2, J, q2⟩ := q; ⟨σ2, H2, J.ofTry ok, q2⟩
    | ret u => exact let ⟨v, σ2, H2, J, r, q2⟩ := q; ⟨v, σ2, H2, J.ofTry ok, r, q2⟩
end
end K0T

set_option maxHeartbeats 4000000
/-! B.__init__(self, ..), B an own error class without an __init__ of its own; isinstance of a caught error that has fields. -/
namespace K0E
open PySem PySem.Spec PyProof.Rows L2
theorem pe_baseinit {X : Cx} {e : Expr} {es : List Expr} {ta : TA} {x : Str} {C : Addr} {mc : Value} {p1 p2 pos : Pos} {pl : Sem Bool} (hg : Gl X x) (hm : X.mg x = some (.ref C)) (dx : (x == ("__debug__" : Str)) = false)
    (h1 : PySem.W.specialIn X.K (.ref C) "__getattribute__" = some (some (.builtin "type.__getattribute__"))) (h2 : PySem.W.readsIn X.K C mc = true)
    (h3 : PySem.W.findCls X.K (.ref C) mc "__init__" = some (.val (.builtin "ValueError.__init__"))) (ha : PA X (e :: es) ta)
    (hc : eval (.Call (.Attribute (.Name x p1) "__init__" p2) (e :: es) [] pos) X.env = (do
      let ov ← eval (.Name x p1) X.env
      standAt p2.atName
      let (f, first) ← holding [ov] (getMethod ov "__init__" pl)
      callWith pos f first (backTo pos (starEach (e :: es) X.env)) (backToKw pos (keywordEach [] X.env))) := by rfl)
    (he : starEach (e :: es) X.env = (false, eval e X.env) :: starEach es X.env := by rfl) (hpl : (backTo pos (starEach es X.env)).any (·.1) = false := by rfl) :
    PE X (.Call (.Attribute (.Name x p1) "__init__" p2) (e :: es) [] pos) (tVeI X.K ta) := by
  refine ⟨fun pins s σ H Q I h => ?_⟩
  refine PySem.W.methodCall_KW (ld_glob I hg hm (PySem.W.method_cls I.kIn h1 (PySem.W.cls_value I.kIn h2 h3 (by decide +kernel) ?_)) dx) hc
  show wpAny _ _ (callWith pos (Value.builtin "ValueError.__init__") [] (backTo pos (starEach (e :: es) X.env)) []) _ _ _
  refine callWith_method1 (thn (ha.run pos pins _ σ H _ (I.tok _) h) fun us s1 w => ?_) he hpl
  obtain ⟨vs, H1, I1, r1, a, D, ws, ev, hl, T, ea, q⟩ := w
  subst ev
  cases r1 with
  | @cons _ u0 _ ur ra rw' =>
    obtain rfl : u0 = Value.ref a := ra
    refine oinit_ok T I1 ea ?_ fun s2 J => ⟨.non, H1, J, rfl, q⟩
    rw [← Paired.length rw', sizeLine_eq]
    exact Nat.le_trans hl (by decide)
/-- isinstance(e, c), e the error that the suite holds (its class D, its dict d) -/
def rIsF (K : PySem.W.Frag) (D a : Addr) (d : Option Addr) : List V → Hp → VK → Prop := fun xs H Q =>
  ∃ (c : V) (cv : Value) (b : Bool) (dd : Addr) (fs : List (Str × V)), xs = [.ref a, c] ∧ (∀ u, RelV c u → u = cv) ∧ PySem.W.kitOne K (.ref D) cv = some b ∧ d = some dd ∧ H dd = some (.xd fs) ∧ Q (.bl b) H
theorem call_isF {X : Cx} {a D : Addr} {oe : Obj} {d : Option Addr} {pn : List (Addr × Obj)} (C : ExcC X.K D) (hz : Zc (.ref D) d oe) (hf : ∃ vs, oe.data = .fields vs) : CallR (X.suite a ((a, oe) :: pn)) (.builtin "isinstance") (rIsF X.K D a d) := by
  intro pins s σ H xs us Q I r h
  obtain ⟨c, cv, b, dd, fs, rfl, hcv, e, ed, ex, q⟩ := h
  obtain ⟨vs, hv⟩ := hf
  obtain ⟨hget, _⟩ := I.pin (a, oe) (List.mem_append.mpr (.inl List.mem_cons_self))
  have hx : ObjOk X.prog X.w H s.heap dd (.xd fs) := I.hok dd _ ex
  obtain ⟨mA, hns, _⟩ := hx
  obtain ⟨od, ho, _⟩ := lookIn_ns hns
  subst ed
  have J : PySem.W.InstAt s.heap a oe D (some od) := ⟨hget, hz.1, by unfold PySem.W.notCls; rw [hv] <;> rfl, by rw [hz.2]; exact ho⟩
  cases r with
  | cons rx rr =>
    cases rr with
    | cons rt rr =>
      cases rr
      cases rx
      have ec := hcv _ rt
      subst ec
      exact PySem.W.kia_one (PySem.W.kitx_exc (by obtain ⟨cd, hc, _⟩ := PySem.W.any_some C.hd; rw [hc]; rfl) C.hg C.hk C.hs C.ha C.hn C.ht C.hm) I.kIn J e (fun z => nomatch z) fun tk => ⟨.bl b, H, I.kept (t' := tk) fun _ _ z => z, rfl, q⟩
end K0E

/-! a, *b = a list. -/
namespace StR
open PySem PySem.Spec PyProof.Rows L2
section
variable {prog : Program} {w : World} {A : Around}
variable {E : Value → Shared → Prop} {s : Shared}
theorem walks_from (hh : A.handled = none) (it la : Addr) (hne : la ≠ it) (vals : Array Value) (k : Nat) (hk : k ≤ vals.size) :
    Walks prog w A it [it, la] [it] (vals.size - k) (fun i v => vals[k + i]? = some v) (fun i h => h.IsListIter it la (k + i) ∧ h.IsList la vals) :=
  let W := Walks.list (prog := prog) (w := w) hh it la hne vals
  { sub := W.sub
    frame := fun i h h' q f => W.frame (k + i) h h' q f
    item := fun i s Q E hi q hQ => W.item (k + i) s Q E (by omega) q hQ
    done := fun s Q E q hQ => W.done s Q E (by
      have h := q
      rw [Nat.add_sub_cancel' hk] at h
      exact h) hQ
    self := fun i s Q E q hQ => W.self (k + i) s Q E q hQ }
theorem items_drop {vals acc : Array Value} {k : Nat} (hk : k ≤ vals.size) (h : ItemsOf (fun i v => vals[k + i]? = some v) acc (vals.size - k)) : acc.toList = vals.toList.drop k := by
  obtain ⟨h1, h2⟩ := h
  refine List.ext_getElem? fun i => ?_
  rw [List.getElem?_drop]
  rw [Array.getElem?_toList, Array.getElem?_toList]
  by_cases hi : i < acc.size
  · have e : acc[i]? = some acc[i] := Array.getElem?_eq_getElem hi
    rw [e]
    exact (h2 i _ e).symm
  · rw [Array.getElem?_eq_none (by omega), Array.getElem?_eq_none (by omega)]
theorem unpack_star {la : Addr} {vals : Array Value} {k : Nat} {Q : List Value → Shared → Prop} (hh : A.handled = none) (isl : s.heap.IsList la vals) (hk : k ≤ vals.size) (hz : vals.size ≤ sizeLine)
    (hQ : ∀ (hp : Heap) (tk : Nat), (∀ b o, s.heap.get? b = some o → hp.get? b = some o) → s.toks ≤ tk →
      Q (vals.toList.take k ++ [.ref hp.objs.size]) { s with heap := hp.push { cls := .type "list", data := .seq (vals.toList.drop k).toArray }, toks := tk }) :
    wpAny (model prog w) A (unpackItems (.ref la) (k + 1) (some k)) Q E s := by
  have hlt : la ≠ s.heap.objs.size := by
    obtain ⟨o, there, _⟩ := isl
    exact Nat.ne_of_lt (Heap.lt_size there)
  unfold unpackItems
  refine wpAny_bind ?_
  unfold notIterableAtAll
  refine wpAny_bind (wpAny_specialOf isl.typeIs slot_list_iter.lookup ?_)
  refine wpAny_pure ?_
  simp only [if_false, Bool.false_eq_true]
  refine wpAny_bind (wpAny_holding (wpAny_pyIter_list isl ?_))
  refine wpAny_bind (wpAny_holding (PySem.W.kun_draw hlt k 0 _ _ ⟨_, Heap.get?_push_size _ rfl, rfl, rfl⟩ (isl.push _) (by omega) fun h1 it1 sb1 => ?_))
  have l1 : h1.IsList la vals := (isl.push _).extBut sb1.extBut hlt
  have up1 : ∀ b o, s.heap.get? b = some o → h1.get? b = some o := fun b o e => sb1.extBut b o (Nat.ne_of_lt (Heap.lt_size e)) (Heap.get?_push_of_some _ e)
  have lt1 : (vals.toList.take k).length = k := by
    rw [List.length_take, Array.length_toList]
    omega
  rw [List.drop_zero, lt1, if_neg (Nat.lt_irrefl k)]
  have it1' : h1.IsListIter s.heap.objs.size la k := by
    have h := it1
    rw [Nat.zero_add] at h
    exact h
  refine wpAny_bind (wpAny_holding (wpAny_collect_iter (.inr (.inr (.inl rfl))) (walks_from (A := A.in1) hh s.heap.objs.size la hlt vals k hk).toS (fun i s2 q => ?_) ⟨it1', l1⟩ (fun b mb => ?_) (List.mem_cons_self ..) (fun s2 acc mv ac => ?_) (by omega)))
  · obtain ⟨⟨o, e, c, _⟩, _⟩ := q
    exact ⟨o, e, c⟩
  · rcases List.mem_cons.mp mb with rfl | mb
    · obtain ⟨o, e, _⟩ := it1'
      exact Heap.lt_size e
    · rw [List.mem_singleton.mp mb]
      obtain ⟨o, e, _⟩ := l1
      exact Heap.lt_size e
  · have ea := items_drop hk ac
    rw [ea]
    obtain ⟨hp2, gs2, dd2, tk2, os2⟩ := s2
    obtain ⟨m1, m2, m3, m4, m5⟩ := mv
    dsimp only at m1 m2 m3 m4 m5
    subst m2 m3 m4
    rw [if_neg (by omega)]
    refine wpAny_bind (wpAny_newList (wpAny_pure ?_) ?_)
    · have e0 : k + 1 - 1 - k = 0 := by omega
      rw [e0, Nat.sub_zero, List.take_length, List.drop_length, List.append_nil]
      exact hQ hp2 tk2 (fun b o e => m1 b o (by rw [List.mem_singleton]; exact Nat.ne_of_lt (Heap.lt_size e)) (up1 b o e)) m5
    · rw [List.length_take, List.length_drop, Array.length_toList]
      omega
end
/-- n names, then a starred one, = a list -/
def gStar (K : PySem.W.Frag) (n : Nat) (t : TGs) : TG := fun v σ H Q => ∃ a xs, v = .ref a ∧ SqL K H a xs ∧ n ≤ xs.length ∧ ∀ p, H p = none → t (xs.take n ++ [.ref p]) σ (upd H p (.lst (xs.drop n))) Q
section
variable {X : Cx} {pos : Pos}
theorem pgs_last {e : Expr} {np : Pos} {t : TG} {u : TGs} (h1 : PG X e t) (h2 : PGs X [] u) : PGs X [.Starred e np] (gCons t u) := by
  refine ⟨fun pins t0 σ H vs us Q I rel q => ?_⟩
  obtain ⟨v, vr, e1, q⟩ := q
  subst e1
  cases rel with
  | cons r0 rr =>
    show wpAny _ _ (assignInOrder (assign e X.env :: (assignEach [] X.env).map (·.2)) _) _ _ _
    refine assignInOrder_cons (thn (h1.run pins t0 σ H _ _ _ I r0 q) fun _ t1 ⟨σ1, H1, I1, q1⟩ => ?_)
    exact h2.run pins t1 σ1 H1 _ _ Q I1 rr q1
theorem pg_star {es : List Expr} {k : Nat} {t : TGs} {n : Nat} (hc : X.calm = true) (h : PGs X es t)
    (hn : (assignEach es X.env).length = n + 1 := by rfl) (hst : (assignEach es X.env).findIdx? (·.1) = some n := by rfl) : PG X (.Tuple es k pos) (gStar X.K n t) := by
  refine ⟨fun pins s σ H v u Q I rel q => ?_⟩
  obtain ⟨a, xs, e1, sq, isl, q⟩ := q
  subst e1
  cases rel
  obtain ⟨its, rv, pl, hz⟩ := I.list sq
  have hlen : its.length = xs.length := rv.length.symm
  rw [PyProof.Rows.assign_Tuple]
  refine wpAny_bind (wpAny_standAt ?_)
  unfold unpack
  rw [hn, hst]
  refine wpAny_bind (wpAny_holding (unpack_star (I.ok.hd hc) pl.isList (by rw [List.size_toArray, hlen]; exact isl) (by rw [List.size_toArray, hlen]; exact hz) fun hp tk up ht => ?_))
  have I1 : Inv X pins σ H { s with heap := hp, toks := tk } := I.kept fun b o e => up b o e
  have hf : H hp.objs.size = none := I1.hok.fresh (Nat.le_refl _)
  have I2 : Inv X pins σ (upd H hp.objs.size (.lst (xs.drop n))) { s with heap := hp.push { cls := .type "list", data := .seq (its.toArray.toList.drop n).toArray }, toks := tk } := by
    refine I1.laid (t' := tk) (fun b u e => Heap.get?_push_of_some _ e) (Nat.le_refl _) ?_
    exact ⟨by rw [List.length_drop]; omega, its.drop n, 0, Vals.drop n rv, Heap.get?_push_size _ rfl⟩
  refine h.run pins _ σ _ (xs.take n ++ [.ref hp.objs.size]) _ Q I2 ?_ (q _ hf)
  exact (Vals.take n rv).append (.cons rfl .nil)
end
end StR

/-! s * n, sum of a tuple. -/
namespace RuS
open PySem PySem.Spec PyProof.Rows L2
section
variable {X : Cx}
abbrev rRepS : R2 := fun x y H Q => ∃ (a : Str) (k : Int), x = .str a ∧ y = .int k ∧ MulOk a k ∧ Q (.str (Txt.mul a k)) H
theorem op_repS : OpR X (binaryOp .Mult) rRepS := by
  intro pins s σ H x y v u Q I rx ry h
  obtain ⟨a, k, rfl, rfl, ok, q⟩ := h
  obtain ⟨t, rfl⟩ := rx
  obtain ⟨t2, rfl⟩ := ry
  exact SB.mul ok fun t' tk => ⟨.str _, H, I.tok _, ⟨_, rfl⟩, q⟩
abbrev rSumT (K : PySem.W.Frag) : List V → Hp → VK → Prop := fun vs H Q => ∃ (a : Addr) (ns : List Int), vs = [V.ref a] ∧ SqT K H a (ns.map V.int) ∧ Q (.int ns.sum) H
theorem cr_sumT (hc : X.calm = true) : CallR X (.builtin "sum") (rSumT X.K) := by
  intro pins s σ H vs us Q I r h
  obtain ⟨a, ns, rfl, hs, q⟩ := h
  obtain ⟨its, rv, hl, _⟩ := I.tuple hs
  rw [Vals.ref1 r]
  have hi := rv.ints
  obtain ⟨xs, hx⟩ := hi.allInts.items
  have hn : numsOf its.toArray.toList = ns := by rw [show its.toArray.toList = its from rfl, hi.numsOf]
  rw [hx] at hl hn
  rw [nums_intItems] at hn
  refine PySem.W.ktm_sumG (I.ok.hd hc) hl fun h' tk t' hk => ?_
  rw [preSum_eq, List.take_of_length_le (by simp), hn]
  exact ⟨.int _, H, I.kept hk, ⟨_, rfl⟩, q⟩
theorem mul_one (n : Nat) : (Txt.mul ⟨#[48]⟩ ((n : Nat) : Int)).cps.toList = List.replicate n 48 := by
  have fold : ∀ (m : Nat) (acc : Array Nat), ((List.replicate m (#[48] : Array Nat)).foldl (· ++ ·) acc).toList = acc.toList ++ List.replicate m 48 := fun m => by
    induction m with
    | zero =>
      intro acc
      show acc.toList = acc.toList ++ []
      rw [List.append_nil]
    | succ m ih =>
      intro acc
      rw [List.replicate_succ, List.foldl_cons, ih, Array.toList_append, List.append_assoc]
      rfl
  unfold Txt.mul
  by_cases h1 : ((n : Nat) : Int) < 1
  · rw [if_pos h1]
    obtain rfl : n = 0 := by omega
    rfl
  · rw [if_neg h1]
    by_cases h2 : n = 1
    · subst h2
      rfl
    · rw [if_neg]
      · show ((List.replicate ((n : Nat) : Int).toNat (#[48] : Array Nat)).foldl (· ++ ·) #[]).toList = _
        rw [fold, Int.toNat_natCast]
        rfl
      · rw [Bool.or_eq_true, not_or]
        refine ⟨fun z => h2 (by have := beq_iff_eq.mp z; omega), fun z => ?_⟩
        have : ((⟨#[48]⟩ : Str).length == 0) = false := rfl
        rw [this] at z
        cases z
theorem mul_ok {n : Nat} (h : n ≤ 1000) : MulOk ⟨#[48]⟩ ((n : Nat) : Int) := by
  refine ⟨?_, fun h1 _ => ?_, fun h1 _ => ?_⟩
  · rw [Bool.or_eq_false_iff]
    exact ⟨decide_eq_false (by omega), decide_eq_false (by omega)⟩
  · have e : (((⟨#[48]⟩ : Str).length : Nat) : Int) = 1 := rfl
    rw [e]
    have : (2 ^ 63 - 1 : Int) / ((n : Nat) : Int) ≥ 9223372036854775807 / 1000 := by
      have hn : (0 : Int) < n := by omega
      rw [ge_iff_le, Int.le_ediv_iff_mul_le hn]
      have h3 : (9223372036854775807 / 1000 : Int) * n ≤ (9223372036854775807 / 1000) * 1000 := Int.mul_le_mul_of_nonneg_left (by omega) (by decide)
      omega
    omega
  · have e : (⟨#[48]⟩ : Str).length = 1 := rfl
    rw [e, Nat.one_mul, Int.toNat_natCast]
    exact decide_eq_false (by rw [sizeLine_eq]; omega)
end
end RuS

/-! Numbers in texts; heaps with a table. -/
namespace C1
open PySem PySem.Spec PyProof.Rows L2 SX
open K0 (Cs digs isNum)
open GxR (TabG Tabbed TabB GenS)
abbrev sIsNum : Stmt := topS 3
theorem scIsNum : FnScope ["text"] ["text"] (defScope sIsNum) := ⟨rfl, rfl, rfl, by decide +kernel, rfl, by decide +kernel, by decide +kernel⟩
structure Gr (P : Addr) (H H' : Hp) : Prop where
  tab : TabG H' P
  old : ∀ b o, b ≠ P → H b = some o → H' b = some o
section
variable {P : Addr} {H H1 H2 : Hp}
theorem Gr.refl (t : TabG H P) : Gr P H H := ⟨t, fun _ _ _ e => e⟩
theorem Gr.trans (a : Gr P H H1) (b : Gr P H1 H2) : Gr P H H2 := ⟨b.tab, fun c o n e => b.old c o n (a.old c o n e)⟩
theorem Gr.of (t : Tabbed P H H1) : Gr P H H1 := ⟨t.1, fun b o n e => by rw [t.2 b n]; exact e⟩
theorem tab_ne (t : TabG H P) {p : Addr} (n : H p = none) : p ≠ P := fun z => by
  obtain ⟨ps, e, _⟩ := t
  rw [z, e] at n
  cases n
theorem tab_is (t : TabG H P) {p : Addr} {o : HO} (e : H p = some o) (d : ∀ ps, o ≠ .tbl ps) : p ≠ P := fun z => by
  obtain ⟨ps, e2, _⟩ := t
  rw [z, e2] at e
  exact d ps (Option.some.inj e).symm
theorem Gr.laid (t : TabG H P) {p : Addr} {o : HO} (n : H p = none) : Gr P H (upd H p o) := by
  have np := tab_ne t n
  obtain ⟨ps, e, r⟩ := t
  exact ⟨⟨ps, by rw [upd_ne np.symm]; exact e, r⟩, fun b u _ hb => by rw [upd_ne (ne_of_none hb n)]; exact hb⟩
theorem Gr.at (g : Gr P H H1) (t : TabG H P) {p : Addr} {o : HO} (e : H p = some o) (d : ∀ ps, o ≠ .tbl ps) : H1 p = some o := g.old p o (tab_is t e d) e
theorem Gr.none (g : Gr P H H1) (t : TabG H P) {p : Addr} (n : H1 p = none) : H p = none := by
  have np := tab_ne g.tab n
  cases e : H p with
  | none => rfl
  | some o =>
    rw [g.old p o np e] at n
    cases n
theorem Gr.seqT (g : Gr P H H1) (t : TabG H P) {K : PySem.W.Frag} {a : Addr} {xs : List V} (h : SqT K H a xs) : SqT K H1 a xs := by
  rcases h with (h | ⟨o, h⟩) | h
  · exact .inl (.inl (g.at t h (fun ps z => by cases z)))
  · exact .inl (.inr ⟨o, g.at t h (fun ps z => by cases z)⟩)
  · exact .inr h
theorem Gr.seqL (g : Gr P H H1) (t : TabG H P) {K : PySem.W.Frag} {a : Addr} {xs : List V} (h : SqL K H a xs) : SqL K H1 a xs := by
  rcases h with (h | ⟨o, h⟩) | h
  · exact .inl (.inl (g.at t h (fun ps z => by cases z)))
  · exact .inl (.inr ⟨o, g.at t h (fun ps z => by cases z)⟩)
  · exact .inr h
end
theorem beq_S (a b : Cs) : (V.str (S a) = V.str (S b)) ↔ a = b := ⟨fun e => S_inj (V.str.inj e), fun e => by rw [e]⟩
theorem at_S {t : Cs} {i : Nat} {c : Nat} (h : t[i]? = some c) : atI (S t).cps.toList ((i : Nat) : Int) = some c := atI_nat (j := i) h
theorem len_S {t : Cs} (h : t.length ≤ sizeLine) : (S t).length ≤ sizeLine := by
  rw [S_len]
  exact h
theorem dec_sig {c k : Nat} {x : Str} (hx : x = S [k]) : decide (V.str ⟨#[c]⟩ = V.str x) = decide (c = k) := by
  subst hx
  by_cases h : c = k
  · subst h
    rw [decide_eq_true rfl, decide_eq_true rfl]
  · rw [decide_eq_false h, decide_eq_false (fun z => h (by
      have z2 := S_inj (a := [c]) (b := [k]) (V.str.inj z)
      exact (List.cons.inj z2).1))]
theorem dec_S {a b : Cs} {x : Str} (hx : x = S b) : decide (V.str (S a) = V.str x) = decide (a = b) := by
  subst hx
  by_cases h : a = b
  · subst h
    rw [decide_eq_true rfl, decide_eq_true rfl]
  · rw [decide_eq_false h, decide_eq_false (fun z => h (S_inj (V.str.inj z)))]
theorem of_sig {c k : Nat} {x : Str} (hx : x = S [k]) (e : decide (V.str ⟨#[c]⟩ = V.str x) = true) : c = k := by
  rw [dec_sig hx] at e
  exact of_decide_eq_true e
theorem not_sig {c k : Nat} {x : Str} (hx : x = S [k]) (e : ¬ decide (V.str ⟨#[c]⟩ = V.str x) = true) : c ≠ k := fun z => by
  rw [dec_sig hx, decide_eq_true z] at e
  exact e rfl
theorem noFree : ∀ y ∈ ([((".0" : Str), NameKind.local), ("sign", .local), ("DIGITS", .globalImplicit)] : List (Str × NameKind)), y.2 ≠ .free := by decide +kernel
section
variable {P : Program} {w : World} {K : PySem.W.Frag} {mg : Str → Option Value} {base : Heap} {T : Addr}
def spNum (T : Addr) : Sp := fun vs H Q _ => ∃ t : Cs, vs = [.str (S t)] ∧ t.length ≤ sizeLine ∧ TabG H T ∧ ∀ H', Gr T H H' → Q (.bl (isNum t)) H'
theorem ok_isnum {f cP : Addr} {fd : FuncData} {oc : Value} {od an : Option Addr} {osl : Array (Option Value)} {kV doc pm ct : Value} {tk : Tok}
    (lk : K.lookup f = some ⟨oc, od, .func (PySem.W.fnOf "is_number" "is_number" (defArgs sIsNum) (defBody sIsNum) (defScope sIsNum) .none kV doc pm an (.ref cP) ct), osl⟩) (hcd : PySem.W.codeIn K (.ref cP) "is_number" = true)
    (gD : mg "DIGITS" = some (.str (Str.ofString "0123456789") tk)) (ma : mg "all" = none) (TB : TabB base mg cP T) :
    FnOk P w K mg base CX0 1 f (PySem.W.fnOf "is_number" "is_number" (defArgs sIsNum) (defBody sIsNum) (defScope sIsNum) .none kV doc pm an (.ref cP) ct) ["text"] (spNum T) := by
  refine fn_of lk hcd scIsNum (fun vs H Q E h => ?_) fun A outer s H vs Q E hr h => ?_
  · obtain ⟨t, rfl, _⟩ := h
    rfl
  · obtain ⟨t, rfl, hl, tb, q⟩ := h
    refine ⟨_, pss_cons (ps_if (PW.pt (pw_or (pt_not (pt_truth (pv 0) (by intro _; rfl))) (pw_or1 (PW.pt (pw_and (pt_cmpR op_eq (pe_ix ix_str (pv 0) pe_int (fun _ _ => rfl)) pe_str (nomark _)) (pw_and1 (pt_cmpR op_ne (pv 0) pe_str (nomark _))))))))
        (pss_one (ps_ret pe_bl)) pss_nil)
      (pss_one (ps_ret (K0G.pe_allM (pb := fun c => decide (c ∈ digs)) hr (by rfl) ma (by decide +kernel) TB rfl ⟨rfl, rfl, by decide +kernel, rfl, rfl, fun y hy e => absurd e (noFree y hy)⟩ (pv 0) (K0G.elt_in rfl rfl rfl gD (by decide) (by decide)) (by intro v; rfl)))), ?_⟩
    refine ⟨_, rfl, _, ⟨len_S hl, rfl⟩, ?_⟩
    rw [S_len]
    cases t with
    | nil =>
      refine iteT ?_
      refine iteT ?_
      exact q H (Gr.refl tb)
    | cons c r =>
      have hk : (((c :: r).length : Int) != 0) = true := by
        rw [List.length_cons]
        simp
        omega
      rw [hk]
      refine iteF ?_
      have last : ¬ (c = 48 ∧ r ≠ []) → tRet (GxR.tAllS T (fun c => decide (c ∈ digs)) (tVar 0)) { nx := fun x H' => Q V.non H', rt := Q } (L2.start ["text"] [V.str (S (c :: r))]) H := fun n => by
        refine ⟨_, rfl, S (c :: r), rfl, tb, fun H2 t2 => ?_⟩
        have e := q H2 (Gr.of t2)
        have e2 : isNum (c :: r) = (S (c :: r)).cps.toList.all fun c => decide (c ∈ digs) := if_neg n
        rw [e2] at e
        exact e
      refine ⟨_, rfl, _, _, c, rfl, rfl, len_S hl, at_S (i := 0) rfl, rfl, _, rfl, ite2 (fun e => ?_) (fun e => ?_)⟩
      · have hc := of_sig (k := 48) rfl e
        refine ⟨_, rfl, rfl, _, rfl, ite2 (fun e2 => ?_) (fun e2 => ?_)⟩
        · have hr2 : r ≠ [] := fun z => by
            subst z
            subst hc
            exact absurd e2 (by decide)
          have e3 := q H (Gr.refl tb)
          have e4 : isNum (c :: r) = false := if_pos ⟨hc, hr2⟩
          rw [e4] at e3
          exact e3
        · refine last fun z => ?_
          rw [dec_S (b := [48]) (x := "0") rfl, decide_eq_false (fun y => z.2 (List.cons.inj y).2)] at e2
          exact e2 rfl
      · refine iteF (last fun z => not_sig (k := 48) rfl e z.1)
theorem isNum_all {t : Cs} (h : isNum t = true) : t ≠ [] ∧ t.all (fun c => decide (48 ≤ c) && decide (c ≤ 57)) = true := by
  cases t with
  | nil => cases h
  | cons c r =>
    refine ⟨List.cons_ne_nil _ _, ?_⟩
    unfold isNum at h
    simp only [] at h
    split at h
    · cases h
    · rw [List.all_eq_true] at h ⊢
      intro x hx
      have h1 : x ∈ digs := of_decide_eq_true (h x hx)
      have h2 : ∀ d ∈ digs, (decide (48 ≤ d) && decide (d ≤ 57)) = true := by decide +kernel
      exact h2 x h1
end
end C1

/-! Numbers of a line. -/
namespace C1
open PySem PySem.Spec PyProof.Rows L2 SX
open K0 (Cs digs isNum)
open GxR (TabG Tabbed TabB GenS)
abbrev rIntS : List V → Hp → VK → Prop := fun xs H Q => ∃ (a : Str) (n : Int), xs = [.str a] ∧ PySem.intText? a = some n ∧ a.length ≤ 640 ∧ Q (.int n) H
abbrev cs (x : Str) : Cs := x.cps.toList
structure BT (mg : Str → Option Value) : Prop where
  len : mg "len" = none
  all : mg "all" = none
  tuple : mg "tuple" = none
  int : mg "int" = none
theorem iteF' {b : Bool} {A B : Prop} (hb : b = false) (h : B) : if b = true then A else B := by
  rw [hb]
  exact iteF h
theorem iteT' {b : Bool} {A B : Prop} (hb : b = true) (h : A) : if b = true then A else B := by
  rw [hb]
  exact iteT h
theorem str_at {xs : List Str} {i : Nat} {v : V} (h : (xs.map V.str)[i]? = some v) : ∃ x, xs[i]? = some x ∧ v = .str x := by
  rw [List.getElem?_map] at h
  cases e : xs[i]? with
  | none =>
    rw [e] at h
    cases h
  | some x =>
    rw [e] at h
    cases h
    exact ⟨x, rfl, rfl⟩
def numB (x : Str) : Bool := isNum (cs x)
def numV (x : Str) : Nat := NumText.digitsVal (cs x)
theorem num_int {x : Str} (h : numB x = true) (hl : (cs x).length ≤ 600) : intText? x = some ((numV x : Nat) : Int) ∧ x.length ≤ 640 := by
  obtain ⟨hne, hall⟩ := isNum_all h
  have hi := int_S hall hne (by omega)
  rw [S_tl] at hi
  refine ⟨hi, ?_⟩
  show x.cps.size ≤ 640
  rw [Array.length_toList] at hl
  omega
end C1

/-! The error of a line; lines of a text. -/
namespace C1
open PySem PySem.Spec PyProof.Rows L2 SX
open K0 (Cs digs isNum)
open GxR (TabG Tabbed TabB GenS)
abbrev sInitB : Stmt := L2.inClass (topS 9) 0
abbrev sWhole : Stmt := topS 11
abbrev sTextOf : Stmt := topS 12
theorem scInitB : FnScope ["self", "line"] ["self", "line"] (defScope sInitB) := ⟨rfl, rfl, rfl, by decide +kernel, rfl, by decide +kernel, by decide +kernel⟩
theorem scWhole : FnScope ["text", "lines"] ["text"] (defScope sWhole) := ⟨rfl, rfl, rfl, by decide +kernel, rfl, by decide +kernel, by decide +kernel⟩
/-- an int that is a line's number -/
def Pl (i : Int) : Prop := 0 ≤ i ∧ i < 1000000000
theorem Pl.log {i : Int} (h : Pl i) : i.natAbs.log2 < 1920 := by
  obtain ⟨h1, h2⟩ := h
  by_cases h0 : i.natAbs = 0
  · rw [h0]
    decide
  · exact (Nat.log2_lt h0).mpr (Nat.lt_of_lt_of_le (show i.natAbs < 2 ^ 30 by omega) (Nat.pow_le_pow_right (by decide) (by decide)))
theorem Pl.len {i : Int} (h : Pl i) : (Str.ofString (toString i)).length ≤ 9 := PyProof.Rows.toString_length_le h.1 (by decide) (by have := h.2; omega)
theorem app_len (a b : Str) : (a ++ b).length = a.length + b.length := by
  show (a.cps ++ b.cps).size = _
  rw [Array.size_append]
  rfl
def fsL (n : Int) : List (Str × V) := [("line", .int n)]
section
variable {P : Program} {w : World} {K : PySem.W.Frag} {mg : Str → Option Value} {base : Heap} {T : Addr}
def spInitB (K : PySem.W.Frag) : Sp := fun vs H Q _ => ∃ (a C : Addr) (n : Int), vs = [.ref a, .int n] ∧ OexC K C ∧ PySem.W.findIn K (.ref C) "line" = some none ∧ Pl n ∧
  H a = some (exo a C none) ∧ ∀ dx H', H dx = none → dx ≠ a → H' a = some (exo a C (some dx)) → H' dx = some (exd dx (fsL n)) → (∀ b, b ≠ a → b ≠ dx → H' b = H b) → Q .non H'
theorem ok_initB {f C0 : Addr} {fd : FuncData} (F : Fun K "__init__" "BadLine.__init__" sInitB f fd) (g0 : mg "CutError" = some (.ref C0)) (h1 : PySem.W.specialIn K (.ref C0) "__getattribute__" = some (some (.builtin "type.__getattribute__")))
    (h2 : PySem.W.readsIn K C0 (.type "type") = true) (h3 : PySem.W.findCls K (.ref C0) (.type "type") "__init__" = some (.val (.builtin "ValueError.__init__"))) :
    FnOk P w K mg base CX0 1 f fd ["self", "line"] (spInitB K) := by
  refine F.ok scInitB (fun vs H Q E h => ?_) (fun cdv A outer s H vs Q E hr h => ?_)
  · obtain ⟨a, C, n, rfl, _⟩ := h
    rfl
  · obtain ⟨a, C, n, rfl, O, n1, p1, ea, q⟩ := h
    refine ⟨_, pss_cons (ps_expr (K0E.pe_baseinit (mc := .type "type") (by rfl) g0 (by decide) h1 h2 h3 (pa_cons (pv 0) (pa_cons (pe_joined (PJ.cons pe_str (PJ.cons (pe_fmt (pv 1)) PJ.nil))) pa_nil))))
      (pss_one (ps_ost (pv 0) (pv 1))), ?_⟩
    have l1 : (Str.empty ++ ("line " : Str)).length = 5 := by decide +kernel
    have e1 := p1.len
    have big : (100 : Nat) ≤ sizeLine := by
      rw [sizeLine_eq]
      decide
    refine ⟨_, rfl, _, rfl, Nat.le_trans (Nat.le_of_eq l1) (by omega), _, rfl, .inr ⟨_, rfl, p1.log, _, rfl, ?_, ?_⟩⟩
    · rw [app_len, l1]
      omega
    · refine ⟨a, C, _, rfl, (by show 1 ≤ 1000; decide), O, ea, ?_⟩
      refine ⟨_, rfl, _, rfl, a, C, rfl, O, n1, .inl ⟨ea, fun dx nd ne => ?_⟩⟩
      exact q dx _ nd ne upd_same (by rw [upd_ne ne]; exact upd_same) fun b na nb => by rw [upd_ne na, upd_ne nb]
/-- what the written part says of BadLine -/
structure ErrB (K : PySem.W.Frag) (mg : Str → Option Value) (C fI : Addr) : Prop where
  o : OexC K C
  iC : PySem.W.findIn K (.ref C) "__init__" = some (some (.ref fI))
  nL : PySem.W.findIn K (.ref C) "line" = some none
  g : mg "BadLine" = some (.ref C)
theorem raise_line {C fI : Addr} {n : Int} {H : Hp} {Qx : XK} (R : ErrB K mg C fI) (p1 : Pl n) (q : ∀ d H', Same H H' → H d = none → H' d = some (.xd (fsL n)) → Qx (.ref C) (some d) H') :
    ∀ a, H a = none → spInitB K (.ref a :: ([.int n] ++ [])) (upd H a (exo a C none))
      (fun v H2 => v = .non ∧ ∃ (d : Addr) (fs : List (Str × V)), H2 a = some (exo a C (some d)) ∧ H2 d = some (exd d fs) ∧ H d = none ∧ Qx (.ref C) (some d) (upd (del H2 a) d (.xd fs))) (fun _ _ _ => False) := by
  intro a na
  refine ⟨a, C, n, rfl, R.o, R.nL, p1, upd_same, fun dx H2 nd ne e1 e2 e3 => ?_⟩
  have nd' : H dx = none := by
    rw [upd_ne ne] at nd
    exact nd
  refine ⟨rfl, dx, _, e1, e2, nd', q dx _ (fun b o e => ?_) nd' upd_same⟩
  have n1 : b ≠ a := ne_of_none e na
  have n2 : b ≠ dx := ne_of_none e nd'
  rw [upd_ne n2, del_ne n1, e3 b n1 n2, upd_ne n1]
  exact e
/-! lines of a text -/
abbrev nlS : Str := Str.ofString "\n"
def splitL (x : Str) : List Str := Txt.split x nlS
def wholeB (x : Str) : Bool := decide ((splitL x).getLast? = some (Str.ofString "")) && !decide ((splitL x).length = 1)
def spWhole (K : PySem.W.Frag) (C : Addr) : Sp := fun vs H Q E => ∃ x : Str, vs = [.str x] ∧ x.cps.size ≤ 100000 ∧
  (wholeB x = true → ∀ H' p, Same H H' → H p = none → H' p = some (.lst ((splitL x).dropLast.map V.str)) → Q (.ref p) H') ∧
  (wholeB x = false → ∀ H' d, Same H H' → H' d = some (.xd (fsL (splitL x).length)) → E (.ref C) (some d) H')
theorem cnt_bd (c : Nat) : ∀ l : List Nat, 0 ≤ PyProof.Rows.cnt c l ∧ PyProof.Rows.cnt c l ≤ (l.length : Int)
  | [] => ⟨Int.le_refl 0, Int.le_refl 0⟩
  | n :: r => by
    have h := cnt_bd c r
    rw [PyProof.Rows.cnt_cons, List.length_cons]
    by_cases e : n = c
    · rw [if_pos e]
      omega
    · rw [if_neg e]
      omega
theorem split_cnt (x : Str) : ((splitL x).length : Int) = 1 + PyProof.Rows.cnt 10 x.cps.toList := PyProof.Rows.split_len x 10
theorem split_len (x : Str) : (splitL x).length ≤ x.cps.size + 1 := by
  have h1 := split_cnt x
  have h2 := (cnt_bd 10 x.cps.toList).2
  rw [Array.length_toList] at h2
  omega
theorem split_pos (x : Str) : 0 < (splitL x).length := by
  have h1 := split_cnt x
  have h2 := (cnt_bd 10 x.cps.toList).1
  omega
theorem ok_whole {f C fI : Addr} {fd fdI : FuncData} (F : Fun K "whole_lines" "whole_lines" sWhole f fd) (B : BT mg) (R : ErrB K mg C fI) (tI : PySem.W.typeIn K (.ref fI) = some (.type "function")) (GI : FnOk P w K mg base CX0 1 fI fdI ["self", "line"] (spInitB K)) (bI : Binds K fdI ["self", "line"] []) :
    FnOk P w K mg base (L2.CX P w) 3 f fd ["text"] (spWhole K C) := by
  refine F.okX scWhole (fun vs H Q E h => ?_) (fun cdv A outer s H vs Q E hr h => ?_)
  · obtain ⟨x, rfl, _⟩ := h
    rfl
  · obtain ⟨x, rfl, hx, q, qe⟩ := h
    have nd := scWhole.nd
    refine ⟨_, pss_cons (ps_set (i := 1) nd rfl (.inl rfl) (pe_split (pv 0) pe_str))
      (C8.pss_cut (ps_if (PW.pt (pw_or (pt_cmpR op_ne (pe_ix ix_list (pv 1) (pe_un un_neg pe_int) (fun _ _ => rfl)) pe_str (nomark _)) (pw_or1 (pt_cmpR op_eq (pe_callB call_len_seq (by rfl) B.len PySem.boot_len (pa_cons (pv 1) pa_nil)) pe_int (nomark _)))))
        (pss_one (ps_raise rfl (takes_of rfl rfl rfl rfl) (pmk_oex R.o R.iC tI GI hr bI .nil pass0 (by rfl) R.g (pa_cons (pe_callB call_len_seq (by rfl) B.len PySem.boot_len (pa_cons (pv 1) pa_nil)) pa_nil)))) pss_nil)
      (pss_one (ps_ret (pe_slice sl_list (pv 1) po_none (po_some (pe_un un_neg pe_int)))))), ?_⟩
    have hp := split_pos x
    have hl := split_len x
    refine ⟨_, rfl, ⟨x, rfl⟩, x, nlS, rfl, rfl, rfl, (by show x.cps.size + 2 ≤ sizeLine; rw [sizeLine_eq]; omega), fun p np => ?_⟩
    have s1 : Same H (upd H p (.lst ((splitL x).map V.str))) := Same.up np
    have e1 : (upd H p (.lst ((splitL x).map V.str))) p = some (.lst ((splitL x).map V.str)) := upd_same
    have hne : splitL x ≠ [] := fun z => by rw [z] at hp; cases hp
    have eL : (splitL x).getLast? = some ((splitL x).getLast hne) := List.getLast?_eq_some_getLast hne
    have hlast : atI ((splitL x).map V.str) (-1) = some (V.str ((splitL x).getLast hne)) := by
      unfold atI ixN
      rw [if_neg (by decide), List.length_map, if_pos (by omega)]
      show ((splitL x).map V.str)[((-1 : Int) + ((splitL x).length : Int)).toNat]? = _
      rw [show ((-1 : Int) + ((splitL x).length : Int)).toNat = (splitL x).length - 1 by omega, List.getElem?_map, ← List.getLast?_eq_getElem?, eL]
      rfl
    have lp : Pl ((splitL x).length : Int) := ⟨by omega, by omega⟩
    have bad : wholeB x = false → ∀ a, (upd H p (.lst ((splitL x).map V.str))) a = none → _ := fun e => raise_line (H := upd H p (.lst ((splitL x).map V.str))) (n := ((splitL x).length : Int)) (Qx := fun cls d H' => E cls d H') R lp fun d H' s2 _ e3 => qe e H' d (s1.trans s2) e3
    refine ⟨fun σ H' => σ = [some (.str x), some (.ref p)] ∧ H' = upd H p (.lst ((splitL x).map V.str)) ∧ wholeB x = true, ?_, ?_⟩
    · refine ⟨_, rfl, _, rfl, p, _, _, _, rfl, rfl, SqL.of e1, hlast, rfl, _, rfl, ?_⟩
      by_cases hL : (splitL x).getLast hne = Str.ofString ""
      · refine iteF' (by rw [decide_eq_true (by rw [hL])]; rfl) ?_
        refine ⟨_, rfl, p, _, rfl, .inl (SqL.of e1), rfl, _, rfl, ?_⟩
        rw [List.length_map]
        by_cases h1 : (splitL x).length = 1
        · refine iteT' (decide_eq_true (by rw [h1]; rfl)) ?_
          refine ⟨_, rfl, p, _, rfl, .inl (SqL.of e1), (by show 1 ≤ 1000; decide), ?_⟩
          rw [List.length_map]
          exact bad (by unfold wholeB; rw [decide_eq_true h1]; exact Bool.and_false _)
        · refine iteF' (decide_eq_false (fun z => h1 (by have := V.int.inj z; omega))) ⟨rfl, rfl, ?_⟩
          unfold wholeB
          rw [eL, hL, decide_eq_true rfl, decide_eq_false h1]
          rfl
      · refine iteT' (by rw [decide_eq_false (fun z => hL (V.str.inj z))]; rfl) ?_
        refine ⟨_, rfl, p, _, rfl, .inl (SqL.of e1), (by show 1 ≤ 1000; decide), ?_⟩
        rw [List.length_map]
        exact bad (by unfold wholeB; rw [eL, decide_eq_false (fun z => hL (Option.some.inj z))]; exact Bool.false_and _)
    rintro σ H' ⟨rfl, rfl, hw⟩
    refine ⟨_, rfl, _, rfl, _, rfl, p, _, rfl, SqL.of e1, fun r nr => ?_⟩
    refine q hw _ r (s1.trans (Same.up nr)) (s1.free nr) (upd_same.trans (congrArg (fun l => some (HO.lst l)) ?_))
    show ((splitL x).map V.str |>.drop (HT.sIx ((splitL x).map V.str).length 0 none)).take (HT.sIx ((splitL x).map V.str).length ((splitL x).map V.str).length (some (-1)) - HT.sIx ((splitL x).map V.str).length 0 none) = _
    rw [HT.sIx_none, List.drop_zero, List.length_map, Nat.sub_zero]
    rw [show HT.sIx (splitL x).length (splitL x).length (some (-1)) = (splitL x).length - 1 by
      show ((-1 : Int) + ((splitL x).length : Int)).toNat = _
      omega]
    rw [List.dropLast_eq_take, List.map_take]
end
end C1

/-! A text of lines. -/
namespace C1
open PySem PySem.Spec PyProof.Rows L2 SX
theorem scTextOf : FnScope ["lines", "line"] ["lines"] (defScope sTextOf) := ⟨rfl, rfl, rfl, by decide +kernel, rfl, by decide +kernel, by decide +kernel⟩
abbrev NTO : List Str := ["lines", "line"]
abbrev rAddStr : R2 := fun x y H Q => ∃ i j, x = V.str i ∧ y = V.str j ∧ i.length + j.length ≤ sizeLine ∧ Q (V.str (i ++ j)) H
def textL (xs : List Str) : Str := Txt.join (Str.ofString "") (xs.map fun x => x ++ nlS)
theorem len_sum {xs : List Str} {b : Nat} (h : ∀ x ∈ xs, x.length ≤ b) : (xs.map (·.length)).sum ≤ xs.length * b := by
  induction xs with
  | nil => exact Nat.zero_le _
  | cons x xs ih =>
    have h1 := h x (List.mem_cons_self ..)
    have h2 := ih fun y hy => h y (List.mem_cons_of_mem _ hy)
    rw [List.map_cons, List.sum_cons, List.length_cons, Nat.succ_mul]
    omega
section
variable {P : Program} {w : World} {K : PySem.W.Frag} {mg : Str → Option Value} {base : Heap} {T : Addr}
def spTextOf (K : PySem.W.Frag) : Sp := fun vs H Q _ => ∃ (p : Addr) (xs : List Str), vs = [.ref p] ∧ SqL K H p (xs.map V.str) ∧ xs.length ≤ 900 ∧ (∀ x ∈ xs, x.length ≤ 10000) ∧ ∀ H', Same H H' → Q (.str (textL xs)) H'
theorem ok_textOf {f : Addr} {fd : FuncData} (F : Fun K "text_of" "text_of" sTextOf f fd) : FnOk P w K mg base CX0 1 f fd ["lines"] (spTextOf K) := by
  refine F.ok scTextOf (fun vs H Q E h => ?_) (fun cdv A outer s H vs Q E hr h => ?_)
  · obtain ⟨p, xs, rfl, _⟩ := h
    rfl
  · obtain ⟨p, xs, rfl, hp, hl, hx, q⟩ := h
    have nd := scTextOf.nd
    refine ⟨_, (pss_one (ps_ret (pe_join (pe_str) (pe_lc (own := [("line", 1)]) (g := gName 1) (tt := tYes) (te := tOp rAddStr (tVar 1) (tC (.str "\n")))  rfl nd (pi_list (pv 0)) (blkOk_by (own := [("line", 1)]) (N := NTO) (sc := defScope sTextOf) (by decide +kernel)) (fun _ _ _ _ _ => pg_name (i := 1) nd rfl (.inl rfl)) (fun _ _ _ _ _ => pts_nil) (fun _ _ _ _ _ => by exact (pe_op op_add_str (pv 1) (pe_str))))))), ?_⟩
    refine ⟨⟨_, rfl⟩, ?_⟩
    refine ⟨_, rfl, p, rfl, ⟨_, hp⟩, fun D nD => ?_⟩
    refine lc_list (xs := xs.map V.str) (fun i H2 => H2 = upd H D (.lst ((xs.take i).map fun x => V.str (x ++ nlS)))) rfl (fun i H2 _ h => ?_) (fun i v H2 hv h => ?_) (fun H2 h => ?_)
    · subst h
      exact (Same.up nD).seq hp
    · subst h
      obtain ⟨x, ex, rfl⟩ := str_at hv
      have hil : i < xs.length := (List.getElem?_eq_some_iff.mp ex).1
      have h1 := hx x (List.mem_of_getElem? ex)
      refine ⟨rfl, _, rfl, x, nlS, rfl, rfl, ?_, _, upd_same, ?_, ?_⟩
      · have : nlS.length = 1 := by decide +kernel
        rw [this, sizeLine_eq]
        omega
      · rw [List.length_map, List.length_take]
        exact lineS200 (by omega)
      · rw [upd_upd, take_snoc ex, List.map_append]
        rfl
    · subst h
      rw [List.length_map, List.take_length]
      refine ⟨Str.ofString "", D, xs.map fun x => x ++ nlS, rfl, rfl, .inl (SqL.of (upd_same.trans (by rw [List.map_map]; rfl))), ?_, q _ (Same.up nD)⟩
      have h1 := len_sum (xs := xs.map fun x => x ++ nlS) (b := 10001) fun y hy => by
        obtain ⟨x, h, rfl⟩ := List.mem_map.mp hy
        rw [app_len]
        have : nlS.length = 1 := by decide +kernel
        have := hx x h
        omega
      rw [List.length_map] at h1 ⊢
      have h0 : (Str.ofString "").length = 0 := by decide +kernel
      rw [h0, Nat.mul_zero, Nat.add_zero]
      have h2 : xs.length * 10001 ≤ 900 * 10001 := Nat.mul_le_mul_right _ hl
      omega
end
end C1

/-! Texts. -/
namespace C1
open PySem PySem.Spec PyProof.Rows L2 SX
open K0 (Cs digs isNum)
open GxR (TabG Tabbed TabB GenS)
def spS (x : Str) : List Str := Txt.split x (Str.ofString " ")
end C1
/-! Texts: joined, split. -/
namespace C1
open PySem PySem.Spec PyProof.Rows L2 SX
abbrev spB : Str := Str.ofString " "
theorem joinL_mem {S : List Nat} {c : Nat} : ∀ {ps : List (List Nat)}, c ∈ TL.joinL S ps → c ∈ S ∨ ∃ p ∈ ps, c ∈ p
  | [], h => by cases h
  | [p], h => .inr ⟨p, List.mem_singleton.mpr rfl, h⟩
  | p :: q :: r, h => by
    rcases List.mem_append.mp (show c ∈ p ++ (S ++ TL.joinL S (q :: r)) from h) with z | z
    · exact .inr ⟨p, List.mem_cons_self .., z⟩
    · rcases List.mem_append.mp z with z | z
      · exact .inl z
      · rcases joinL_mem z with z | ⟨x, hx, z⟩
        · exact .inl z
        · exact .inr ⟨x, List.mem_cons_of_mem _ hx, z⟩
theorem mem_joinL {S : List Nat} {c : Nat} {p : List Nat} (hc : c ∈ p) : ∀ {ps : List (List Nat)}, p ∈ ps → c ∈ TL.joinL S ps
  | [], h => by cases h
  | [q], h => by
    rw [List.mem_singleton.mp h] at hc
    exact hc
  | q :: q2 :: r, h => by
    show c ∈ q ++ (S ++ TL.joinL S (q2 :: r))
    rcases List.mem_cons.mp h with z | z
    · rw [z] at hc
      exact List.mem_append_left _ hc
    · exact List.mem_append_right _ (List.mem_append_right _ (mem_joinL hc z))
theorem joinL_len {S : List Nat} {b : Nat} : ∀ {ps : List (List Nat)}, (∀ p ∈ ps, p.length ≤ b) → (TL.joinL S ps).length ≤ ps.length * (b + S.length)
  | [], _ => Nat.zero_le _
  | [p], h => by
    have := h p (List.mem_singleton.mpr rfl)
    show p.length ≤ 1 * (b + S.length)
    omega
  | p :: q :: r, h => by
    have h1 := h p (List.mem_cons_self ..)
    have h2 := joinL_len (S := S) (ps := q :: r) fun x hx => h x (List.mem_cons_of_mem _ hx)
    show (p ++ (S ++ TL.joinL S (q :: r))).length ≤ ((q :: r).length + 1) * (b + S.length)
    rw [List.length_append, List.length_append, Nat.succ_mul]
    omega
theorem cs_join (y : Str) (ps : List Str) : (Txt.join y ps).cps.toList = TL.joinL y.cps.toList (ps.map fun p => p.cps.toList) := by
  rw [TL.join_eq]
  exact TL.tl_join y ps
theorem join_mem {y : Str} {ps : List Str} {c : Nat} (h : c ∈ (Txt.join y ps).cps.toList) : c ∈ y.cps.toList ∨ ∃ p ∈ ps, c ∈ p.cps.toList := by
  rw [cs_join] at h
  rcases joinL_mem h with z | ⟨p, hp, z⟩
  · exact .inl z
  · obtain ⟨q, hq, rfl⟩ := List.mem_map.mp hp
    exact .inr ⟨q, hq, z⟩
theorem join_size {y : Str} {ps : List Str} {b : Nat} (h : ∀ p ∈ ps, p.cps.size ≤ b) : (Txt.join y ps).cps.size ≤ ps.length * (b + y.cps.size) := by
  rw [← Array.length_toList, cs_join]
  have := joinL_len (S := y.cps.toList) (b := b) (ps := ps.map fun p => p.cps.toList) fun p hp => by
    obtain ⟨q, hq, rfl⟩ := List.mem_map.mp hp
    rw [Array.length_toList]
    exact h q hq
  rw [List.length_map, Array.length_toList] at this
  exact this
theorem part_mem {x y p : Str} {c : Nat} (hp : p ∈ Txt.split x y) (hc : c ∈ p.cps.toList) : c ∈ x.cps.toList := by
  have e : Txt.join y (Txt.split x y) = x := by
    rw [TL.join_eq]
    exact PySem.StrLaws.join_split x y
  rw [← e, cs_join]
  exact mem_joinL hc (List.mem_map.mpr ⟨p, hp, rfl⟩)
theorem part_size {x y p : Str} (hp : p ∈ Txt.split x y) : p.cps.size ≤ x.cps.size := PyProof.Rows.part_short hp
theorem spS_join {ps : List Str} (hne : ps ≠ []) (h : ∀ p ∈ ps, 32 ∉ p.cps.toList) : spS (Txt.join spB ps) = ps := TL.split_join (s := 32) (S := []) rfl (by decide +kernel) hne h
theorem spS_len (x : Str) : (spS x).length ≤ x.cps.size + 1 := by
  have h1 : ((spS x).length : Int) = 1 + PyProof.Rows.cnt 32 x.cps.toList := PyProof.Rows.split_len x 32
  have h2 := (cnt_bd 32 x.cps.toList).2
  rw [Array.length_toList] at h2
  omega
theorem spS_free {x p : Str} (h : p ∈ spS x) : 32 ∉ p.cps.toList := PySem.StrLaws.split_free x 32 p h
theorem spS_ne (x : Str) : spS x ≠ [] := fun z => by
  have h1 : ((spS x).length : Int) = 1 + PyProof.Rows.cnt 32 x.cps.toList := PyProof.Rows.split_len x 32
  have h2 := (cnt_bd 32 x.cps.toList).1
  rw [z] at h1
  simp at h1
  omega
theorem nl_cs : nlS.cps.toList = [10] := rfl
theorem app_cs (a b : Str) : (a ++ b).cps.toList = a.cps.toList ++ b.cps.toList := TL.tl_append a b
theorem joinL_nil : ∀ ps : List (List Nat), TL.joinL [] ps = ps.flatten
  | [] => rfl
  | [p] => by
    show p = p ++ []
    rw [List.append_nil]
  | p :: q :: r => by
    show p ++ ([] ++ TL.joinL [] (q :: r)) = p ++ (q :: r).flatten
    rw [List.nil_append, joinL_nil (q :: r)]
theorem joinL_nl : ∀ ps : List (List Nat), TL.joinL [10] (ps ++ [[]]) = (ps.map fun p => p ++ [10]).flatten
  | [] => rfl
  | [p] => by
    show p ++ ([10] ++ []) = (p ++ [10]) ++ []
    rw [List.append_nil, List.append_nil]
  | p :: q :: r => by
    show p ++ ([10] ++ TL.joinL [10] ((q :: r) ++ [[]])) = (p ++ [10]) ++ ((q :: r).map fun p => p ++ [10]).flatten
    rw [joinL_nl (q :: r), List.append_assoc]
theorem text_eq (xs : List Str) : textL xs = Txt.join nlS (xs ++ [Str.ofString ""]) := by
  apply TL.ext_tl
  show (textL xs).cps.toList = _
  unfold textL
  rw [cs_join]
  show _ = (Txt.join nlS (xs ++ [Str.ofString ""])).cps.toList
  rw [cs_join, nl_cs, List.map_append]
  show TL.joinL [] ((xs.map fun x => x ++ nlS).map fun p => p.cps.toList) = TL.joinL [10] (xs.map (fun p => p.cps.toList) ++ [[]])
  rw [joinL_nil, joinL_nl, List.map_map, List.map_map]
  congr 1
  exact List.map_congr_left fun x _ => app_cs x nlS
theorem split_text {xs : List Str} (h : ∀ x ∈ xs, 10 ∉ x.cps.toList) : splitL (textL xs) = xs ++ [Str.ofString ""] := by
  rw [text_eq]
  refine TL.split_join (s := 10) (S := []) rfl (by decide +kernel) (by simp) fun p hp => ?_
  rcases List.mem_append.mp hp with z | z
  · exact h p z
  · rw [List.mem_singleton.mp z]
    decide
theorem split_lines {xs : List Str} (hne : xs ≠ []) (h : ∀ x ∈ xs, 10 ∉ x.cps.toList) : splitL (Txt.join nlS xs) = xs := TL.split_join (s := 10) (S := []) rfl (by decide +kernel) hne h
theorem nl_free {x y : Str} (h : y ∈ splitL x) : 10 ∉ y.cps.toList := PySem.StrLaws.split_free x 10 y h
/-- a line: short, below 128, no new line -/
structure LnB (b : Nat) (y : Str) : Prop where
  sz : y.cps.size ≤ b
  as : ∀ c ∈ y.cps.toList, c < 128
  nl : 10 ∉ y.cps.toList
/-- a text whose lines are such -/
structure TxB (x : Str) : Prop where
  sz : x.cps.size ≤ 100000
  ln : (splitL x).length ≤ 900
  ls : ∀ y ∈ splitL x, LnB 800 y
theorem LnB.parts {y : Str} (h : LnB 800 y) : (spS y).length ≤ 900 ∧ ∀ z ∈ spS y, LnB 800 z := by
  have := spS_len y
  have := h.sz
  refine ⟨by omega, fun z hz => ⟨Nat.le_trans (part_size hz) h.sz, fun c hc => h.as c (part_mem hz hc), fun hc => h.nl (part_mem hz hc)⟩⟩
theorem LnB.up {a b : Nat} {y : Str} (h : LnB a y) (l : a ≤ b) : LnB b y := ⟨Nat.le_trans h.sz l, h.as, h.nl⟩
theorem ln_nil : LnB 0 (Str.ofString "") := ⟨Nat.le_refl 0, fun c h => (by cases h), fun h => (by cases h)⟩
theorem txb_text {xs : List Str} {b : Nat} (h : ∀ x ∈ xs, LnB b x) (hb : b ≤ 200) (hl : xs.length ≤ 400) : TxB (textL xs) := by
  have e := split_text (xs := xs) fun x hx => (h x hx).nl
  refine ⟨?_, ?_, fun y hy => ?_⟩
  · rw [text_eq]
    have := join_size (y := nlS) (ps := xs ++ [Str.ofString ""]) (b := b) fun p hp => by
      rcases List.mem_append.mp hp with z | z
      · exact (h p z).sz
      · rw [List.mem_singleton.mp z]
        exact Nat.zero_le _
    have e1 : nlS.cps.size = 1 := rfl
    rw [List.length_append, e1] at this
    have h2 : (xs.length + [Str.ofString ""].length) * (b + 1) ≤ 401 * 201 := Nat.mul_le_mul (by show xs.length + 1 ≤ 401; omega) (by omega)
    omega
  · rw [e, List.length_append]
    show xs.length + 1 ≤ 900
    omega
  · rw [e] at hy
    rcases List.mem_append.mp hy with z | z
    · exact (h y z).up (by omega)
    · rw [List.mem_singleton.mp z]
      exact ln_nil.up (Nat.zero_le _)
theorem txb_join {xs : List Str} {b : Nat} (hne : xs ≠ []) (h : ∀ x ∈ xs, LnB b x) (hb : b ≤ 200) (hl : xs.length ≤ 400) : TxB (Txt.join nlS xs) := by
  have e := split_lines (xs := xs) hne fun x hx => (h x hx).nl
  refine ⟨?_, ?_, fun y hy => ?_⟩
  · have := join_size (y := nlS) (ps := xs) (b := b) fun p hp => (h p hp).sz
    have e1 : nlS.cps.size = 1 := rfl
    rw [e1] at this
    have h2 : xs.length * (b + 1) ≤ 400 * 201 := Nat.mul_le_mul hl (by omega)
    omega
  · rw [e]
    omega
  · rw [e] at hy
    exact (h y hy).up (by omega)
theorem ln_app {a b : Nat} {x y : Str} (h : LnB a x) (h' : LnB b y) : LnB (a + b) (x ++ y) := by
  refine ⟨?_, fun c hc => ?_, fun hc => ?_⟩
  · rw [← Array.length_toList, app_cs, List.length_append, Array.length_toList, Array.length_toList]
    exact Nat.add_le_add h.sz h'.sz
  · rw [app_cs] at hc
    exact (List.mem_append.mp hc).elim (h.as c) (h'.as c)
  · rw [app_cs] at hc
    exact (List.mem_append.mp hc).elim h.nl h'.nl
theorem ln_join {b : Nat} {ps : List Str} (h : ∀ p ∈ ps, LnB b p) : LnB (ps.length * (b + 1)) (Txt.join spB ps) := by
  refine ⟨join_size (y := spB) fun p hp => (h p hp).sz, fun c hc => ?_, fun hc => ?_⟩
  · rcases join_mem hc with z | ⟨p, hp, z⟩
    · rw [List.mem_singleton.mp (show c ∈ [32] from z)]
      decide
    · exact (h p hp).as c z
  · rcases join_mem hc with z | ⟨p, hp, z⟩
    · exact absurd z (by decide)
    · exact (h p hp).nl z
end C1

/-! Comprehensions whose items are data, made one by one. -/
namespace C1
open PySem PySem.Spec PyProof.Rows L2 SX
theorem dps_at {K : PySem.W.Frag} {H : Hp} {vs : List V} {ds : List PyData} {i : Nat} {x : V} {d : PyData} (h : DpAll K H vs ds) (hx : vs[i]? = some x) (hd : ds[i]? = some d) : Dp K H x d := by
  obtain ⟨d', e, h⟩ := dps_get h hx
  rw [hd] at e
  cases e
  exact h
theorem noLs_take : ∀ {F : List PyData} {i : Nat}, noLs F = true → noLs (F.take i) = true
  | [], i, h => by
    rw [List.take_nil]
    rfl
  | d :: F, 0, h => rfl
  | d :: F, i + 1, h => by
    have h' := Bool.and_eq_true_iff.mp (show (noL d && noLs F) = true from h)
    show (noL d && noLs (F.take i)) = true
    rw [h'.1, noLs_take h'.2]
    rfl
theorem noLs_at {F : List PyData} {i : Nat} {d : PyData} (h : noLs F = true) (e : F[i]? = some d) : noL d = true := noLs_mem h d (List.mem_of_getElem? e)
theorem at_len2 {α β : Type} {xs : List α} {F : List β} (hl : xs.length = F.length) {i : Nat} {x : α} (h : xs[i]? = some x) : ∃ d, F[i]? = some d := by
  have := (List.getElem?_eq_some_iff.mp h).1
  exact ⟨_, List.getElem?_eq_getElem (by omega)⟩
section
variable {K : PySem.W.Frag} {a : Addr} {xs : List V} {g : TG} {te : TE} {vs : List Nat} {σ : L2.St} {H0 : Hp} {D : Addr} {Qd : Hp → Prop}
theorem lc_tupD (F : List PyData) (hF : noLs F = true) (hlen : xs.length = F.length) (hn : xs.length ≤ 1000) (hl : SqT K H0 a xs) (hD : H0 D = none)
    (hs : ∀ (i : Nat) (x : V) (d : PyData) (H : Hp) (Q : VK), xs[i]? = some x → F[i]? = some d → Same H0 H → (∀ y H4, Same H H4 → Dp K H4 y d → Q y H4) → g x (wipe σ vs) H fun σ2 H2 => wipe σ2 vs = wipe σ vs ∧ te σ2 H2 Q)
    (hd : ∀ H acc, Same H0 H → H D = some (.lst acc) → DpAll K H acc F → Qd H) :
    ∃ W : Nat → Nat → Hp → Prop, (∃ m, W 0 m (upd H0 D (.lst []))) ∧ ∀ i m H, W i m H →
      ((Itt K a).stop i H ∧ Qd H) ∨ ((Itt K a).go i H ∧ ∃ Nx : Hp → Prop, (∀ H', Nx H' → ∃ m', m' < m ∧ W (i + 1) m' H') ∧ ∀ x H', (Itt K a).yld i H x H' → g x (wipe σ vs) H' fun σ2 H2 => wipe σ2 vs = wipe σ vs ∧ tYes σ2 H2 fun b H3 =>
        if b = true then te σ2 H3 fun y H4 => ∃ acc, H4 D = some (.lst acc) ∧ acc.length < sizeLine ∧ Nx (upd H4 D (.lst (acc ++ [y]))) else Nx H3) := by
  refine lc_tup (xs := xs) (fun i H => Same H0 H ∧ ∃ acc, H D = some (.lst acc) ∧ DpAll K H acc (F.take i)) ⟨same_new hD, [], upd_same, .nil⟩ (fun i H _ h => same_tup h.1 _ _ hl) (fun i x H hx h => ?_) (fun H h => ?_)
  · obtain ⟨sm, acc, e, dp⟩ := h
    obtain ⟨d, hd'⟩ := at_len2 hlen hx
    have lt := dps_len dp
    rw [List.length_take] at lt
    have hi := (List.getElem?_eq_some_iff.mp hx).1
    exact hs i x d H (fun y H4 => ∃ acc, H4 D = some (.lst acc) ∧ acc.length < sizeLine ∧ (Same H0 (upd H4 D (.lst (acc ++ [y]))) ∧ ∃ acc', (upd H4 D (.lst (acc ++ [y]))) D = some (.lst acc') ∧ DpAll K (upd H4 D (.lst (acc ++ [y]))) acc' (F.take (i + 1)))) hx hd' sm
      (fun y H4 s4 dy => ⟨acc, s4 _ _ e, lineS200 (by omega), same_put (sm.trans s4) hD, acc ++ [y], upd_same, by
        rw [take_snoc hd']
        exact push_dps (s4 _ _ e) (dps_stay (same_tup s4) _ _ dp (noLs_take hF)) (noLs_take hF) dy (noLs_at hF hd')⟩)
  · obtain ⟨sm, acc, e, dp⟩ := h
    rw [hlen, List.take_length] at dp
    exact hd H acc sm e dp
theorem lc_listD (F : List PyData) (hF : noLs F = true) (hlen : xs.length = F.length) (hn : xs.length ≤ 1000) (hl : SqL K H0 a xs) (hD : H0 D = none)
    (hs : ∀ (i : Nat) (x : V) (d : PyData) (H : Hp) (Q : VK), xs[i]? = some x → F[i]? = some d → Same H0 H → (∀ y H4, Same H H4 → Dp K H4 y d → Q y H4) → g x (wipe σ vs) H fun σ2 H2 => wipe σ2 vs = wipe σ vs ∧ te σ2 H2 Q)
    (hd : ∀ H acc, Same H0 H → H D = some (.lst acc) → DpAll K H acc F → Qd H) :
    ∃ W : Nat → Nat → Hp → Prop, (∃ m, W 0 m (upd H0 D (.lst []))) ∧ ∀ i m H, W i m H →
      ((Itl K a).stop i H ∧ Qd H) ∨ ((Itl K a).go i H ∧ ∃ Nx : Hp → Prop, (∀ H', Nx H' → ∃ m', m' < m ∧ W (i + 1) m' H') ∧ ∀ x H', (Itl K a).yld i H x H' → g x (wipe σ vs) H' fun σ2 H2 => wipe σ2 vs = wipe σ vs ∧ tYes σ2 H2 fun b H3 =>
        if b = true then te σ2 H3 fun y H4 => ∃ acc, H4 D = some (.lst acc) ∧ acc.length < sizeLine ∧ Nx (upd H4 D (.lst (acc ++ [y]))) else Nx H3) := by
  refine lc_list (xs := xs) (fun i H => Same H0 H ∧ ∃ acc, H D = some (.lst acc) ∧ DpAll K H acc (F.take i)) ⟨same_new hD, [], upd_same, .nil⟩ (fun i H _ h => h.1.seq hl) (fun i x H hx h => ?_) (fun H h => ?_)
  · obtain ⟨sm, acc, e, dp⟩ := h
    obtain ⟨d, hd'⟩ := at_len2 hlen hx
    have lt := dps_len dp
    rw [List.length_take] at lt
    have hi := (List.getElem?_eq_some_iff.mp hx).1
    exact hs i x d H (fun y H4 => ∃ acc, H4 D = some (.lst acc) ∧ acc.length < sizeLine ∧ (Same H0 (upd H4 D (.lst (acc ++ [y]))) ∧ ∃ acc', (upd H4 D (.lst (acc ++ [y]))) D = some (.lst acc') ∧ DpAll K (upd H4 D (.lst (acc ++ [y]))) acc' (F.take (i + 1)))) hx hd' sm
      (fun y H4 s4 dy => ⟨acc, s4 _ _ e, lineS200 (by omega), same_put (sm.trans s4) hD, acc ++ [y], upd_same, by
        rw [take_snoc hd']
        exact push_dps (s4 _ _ e) (dps_stay (same_tup s4) _ _ dp (noLs_take hF)) (noLs_take hF) dy (noLs_at hF hd')⟩)
  · obtain ⟨sm, acc, e, dp⟩ := h
    rw [hlen, List.take_length] at dp
    exact hd H acc sm e dp
theorem lc_rangeD {lo : Int} {n : Nat} (F : List PyData) (hF : noLs F = true) (hlen : n = F.length) (hn : n ≤ 1000) (hD : H0 D = none)
    (hs : ∀ (i : Nat) (d : PyData) (H : Hp) (Q : VK), i < n → F[i]? = some d → Same H0 H → (∀ y H4, Same H H4 → Dp K H4 y d → Q y H4) → g (.int (lo + i)) (wipe σ vs) H fun σ2 H2 => wipe σ2 vs = wipe σ vs ∧ te σ2 H2 Q)
    (hd : ∀ H acc, Same H0 H → H D = some (.lst acc) → DpAll K H acc F → Qd H) :
    ∃ W : Nat → Nat → Hp → Prop, (∃ m, W 0 m (upd H0 D (.lst []))) ∧ ∀ i m H, W i m H →
      ((Itr lo n).stop i H ∧ Qd H) ∨ ((Itr lo n).go i H ∧ ∃ Nx : Hp → Prop, (∀ H', Nx H' → ∃ m', m' < m ∧ W (i + 1) m' H') ∧ ∀ x H', (Itr lo n).yld i H x H' → g x (wipe σ vs) H' fun σ2 H2 => wipe σ2 vs = wipe σ vs ∧ tYes σ2 H2 fun b H3 =>
        if b = true then te σ2 H3 fun y H4 => ∃ acc, H4 D = some (.lst acc) ∧ acc.length < sizeLine ∧ Nx (upd H4 D (.lst (acc ++ [y]))) else Nx H3) := by
  refine lc_range (fun i H => Same H0 H ∧ ∃ acc, H D = some (.lst acc) ∧ DpAll K H acc (F.take i)) ⟨same_new hD, [], upd_same, .nil⟩ (fun i H hi h => ?_) (fun H h => ?_)
  · obtain ⟨sm, acc, e, dp⟩ := h
    obtain ⟨d, hd'⟩ : ∃ d, F[i]? = some d := ⟨_, List.getElem?_eq_getElem (by omega)⟩
    have lt := dps_len dp
    rw [List.length_take] at lt
    exact hs i d H (fun y H4 => ∃ acc, H4 D = some (.lst acc) ∧ acc.length < sizeLine ∧ (Same H0 (upd H4 D (.lst (acc ++ [y]))) ∧ ∃ acc', (upd H4 D (.lst (acc ++ [y]))) D = some (.lst acc') ∧ DpAll K (upd H4 D (.lst (acc ++ [y]))) acc' (F.take (i + 1)))) hi hd' sm
      (fun y H4 s4 dy => ⟨acc, s4 _ _ e, lineS200 (by omega), same_put (sm.trans s4) hD, acc ++ [y], upd_same, by
        rw [take_snoc hd']
        exact push_dps (s4 _ _ e) (dps_stay (same_tup s4) _ _ dp (noLs_take hF)) (noLs_take hF) dy (noLs_at hF hd')⟩)
  · obtain ⟨sm, acc, e, dp⟩ := h
    rw [hlen, List.take_length] at dp
    exact hd H acc sm e dp
/-- the items are kept or left out, each as it is -/
theorem lc_tupF {tt : TT} {j : Nat} (F : List PyData) (pb : PyData → Bool) (hF : noLs F = true) (hx : DpAll K H0 xs F) (hn : xs.length ≤ 1000) (hl : SqT K H0 a xs) (hD : H0 D = none)
    (hs : ∀ (i : Nat) (x : V) (d : PyData) (H : Hp) (Q : Bool → Hp → Prop), xs[i]? = some x → F[i]? = some d → Same H0 H → Dp K H x d → (∀ H4, Same H H4 → Q (pb d) H4) → tt ((wipe σ vs).set j (some x)) H Q)
    (hσ : ∀ v, ((wipe σ vs).set j (some v))[j]? = some (some v) ∧ wipe ((wipe σ vs).set j (some v)) vs = wipe σ vs)
    (hd : ∀ H acc, Same H0 H → H D = some (.lst acc) → DpAll K H acc (F.filter pb) → Qd H) :
    ∃ W : Nat → Nat → Hp → Prop, (∃ m, W 0 m (upd H0 D (.lst []))) ∧ ∀ i m H, W i m H →
      ((Itt K a).stop i H ∧ Qd H) ∨ ((Itt K a).go i H ∧ ∃ Nx : Hp → Prop, (∀ H', Nx H' → ∃ m', m' < m ∧ W (i + 1) m' H') ∧ ∀ x H', (Itt K a).yld i H x H' → gName j x (wipe σ vs) H' fun σ2 H2 => wipe σ2 vs = wipe σ vs ∧ tt σ2 H2 fun b H3 =>
        if b = true then tVar j σ2 H3 fun y H4 => ∃ acc, H4 D = some (.lst acc) ∧ acc.length < sizeLine ∧ Nx (upd H4 D (.lst (acc ++ [y]))) else Nx H3) := by
  have noF : ∀ G : List PyData, noLs G = true → noLs (G.filter pb) = true := fun G h => by
    induction G with
    | nil => rfl
    | cons d G ih =>
      have h' := Bool.and_eq_true_iff.mp (show (noL d && noLs G) = true from h)
      rw [List.filter_cons]
      split
      · show (noL d && noLs (G.filter pb)) = true
        rw [h'.1, ih h'.2]
        rfl
      · exact ih h'.2
  refine lc_tup (xs := xs) (fun i H => Same H0 H ∧ ∃ acc, H D = some (.lst acc) ∧ DpAll K H acc ((F.take i).filter pb)) ⟨same_new hD, [], upd_same, .nil⟩ (fun i H _ h => same_tup h.1 _ _ hl) (fun i x H hxi h => ?_) (fun H h => ?_)
  · obtain ⟨sm, acc, e, dp⟩ := h
    obtain ⟨d, hd', dx⟩ := dps_get hx hxi
    have dx2 : Dp K H x d := dp_stay (same_tup sm) _ _ dx (noLs_at hF hd')
    have lt := dps_len dp
    have lt2 := List.length_filter_le pb (F.take i)
    rw [List.length_take] at lt2
    have hi := (List.getElem?_eq_some_iff.mp hxi).1
    have nn := noF _ (noLs_take (i := i) hF)
    refine ⟨(hσ x).2, hs i x d H _ hxi hd' sm dx2 fun H4 s4 => ?_⟩
    cases hb : pb d with
    | true =>
      refine ⟨x, (hσ x).1, acc, s4 _ _ e, lineS200 (by omega), same_put (sm.trans s4) hD, acc ++ [x], upd_same, ?_⟩
      rw [take_snoc hd', List.filter_append, List.filter_cons_of_pos hb, List.filter_nil]
      exact push_dps (s4 _ _ e) (dps_stay (same_tup s4) _ _ dp nn) nn (dp_stay (same_tup s4) _ _ dx2 (noLs_at hF hd')) (noLs_at hF hd')
    | false =>
      refine ⟨sm.trans s4, acc, s4 _ _ e, ?_⟩
      rw [take_snoc hd', List.filter_append, List.filter_cons_of_neg (by rw [hb]; decide), List.filter_nil, List.append_nil]
      exact dps_stay (same_tup s4) _ _ dp nn
  · obtain ⟨sm, acc, e, dp⟩ := h
    rw [dps_len hx, List.take_length] at dp
    exact hd H acc sm e dp
end
theorem noLs_tups : ∀ xss : List (List PyData), (∀ xs ∈ xss, noLs xs = true) → noLs (xss.map .tuple) = true
  | [], _ => rfl
  | xs :: r, h => by
    show (noLs xs && noLs (r.map .tuple)) = true
    rw [h xs (List.mem_cons_self ..), noLs_tups r fun y hy => h y (List.mem_cons_of_mem _ hy)]
    rfl
theorem noLs_strs : ∀ xs : List Str, noLs (xs.map .str) = true
  | [] => rfl
  | _ :: r => noLs_strs r
theorem strs_dps {K : PySem.W.Frag} {H : Hp} : ∀ {vs : List V} {xs : List Str}, DpAll K H vs (xs.map .str) → vs = xs.map V.str
  | [], [], _ => rfl
  | _ :: _, _ :: _, .cons a b => by
    cases a
    rw [strs_dps b]
    rfl
theorem dps_ofs {K : PySem.W.Frag} {H : Hp} : ∀ xs : List Str, DpAll K H (xs.map V.str) (xs.map .str)
  | [] => .nil
  | x :: r => .cons (.str x) (dps_ofs r)
end C1

/-! Lines of parts. -/
namespace C1
open PySem PySem.Spec PyProof.Rows L2 SX
open K0 (Cs digs isNum)
open GxR (TabG Tabbed TabB GenS)
abbrev rJoin (K : PySem.W.Frag) : V → List V → Hp → VK → Prop := fun x xs H Q => ∃ a p, ∃ ys : List Str, x = .str a ∧ xs = [.ref p] ∧ (SqL K H p (ys.map V.str) ∨ SqT K H p (ys.map V.str)) ∧
      (ys.map (·.length)).sum + ys.length * a.length ≤ 16777216 ∧ Q (.str (Txt.join a ys)) H
abbrev rStrA : List V → Hp → VK → Prop := fun xs H Q => (∃ i, xs = [.int i] ∧ i.natAbs.log2 < 1920 ∧ Q (.str (toString i)) H) ∨ (∃ a, xs = [.str a] ∧ Q (.str a) H)
theorem call_str_any {X : Cx} : CallR X (.type "str") rStrA := CallR.or call_str_int SkE.call_str_str
def unT : PyData → List PyData
  | .tuple ds => ds
  | _ => []
def wordsP : List Str := ["net", "latch", "told", "and"]
def PartOk : PyData → Prop
  | .int i => 0 ≤ i ∧ i < 1000000000
  | .str s => s ∈ wordsP
  | _ => False
def pS : PyData → Str
  | .int i => Str.ofString (toString i)
  | .str s => s
  | _ => Str.ofString ""
def lineT (ds : List PyData) : Str := Txt.join spB (ds.map pS)
theorem words_ln : ∀ s ∈ wordsP, s.cps.size ≤ 9 ∧ (∀ c ∈ s.cps.toList, c < 128 ∧ c ≠ 10 ∧ c ≠ 32) := by decide +kernel
theorem num_cs {i : Int} (h : 0 ≤ i) : (Str.ofString (toString i)).cps.toList = TL.numL i.toNat := by
  have e : i = ((i.toNat : Nat) : Int) := (Int.toNat_of_nonneg h).symm
  have := TL.tl_num i.toNat
  rw [← e] at this
  exact this
theorem part_ln {d : PyData} (h : PartOk d) : LnB 9 (pS d) ∧ 32 ∉ (pS d).cps.toList := by
  cases d with
  | int i =>
    obtain ⟨h0, h1⟩ := h
    have e := num_cs h0
    have dg := TL.numL_digits i.toNat
    refine ⟨⟨?_, fun c hc => ?_, fun hc => ?_⟩, fun hc => ?_⟩
    · exact Pl.len (i := i) ⟨h0, h1⟩
    · rw [show (pS (.int i)).cps.toList = TL.numL i.toNat from e] at hc
      have := (dg c hc).2
      omega
    · rw [show (pS (.int i)).cps.toList = TL.numL i.toNat from e] at hc
      have := (dg 10 hc).1
      omega
    · rw [show (pS (.int i)).cps.toList = TL.numL i.toNat from e] at hc
      have := (dg 32 hc).1
      omega
  | str s =>
    obtain ⟨a, b⟩ := words_ln s h
    exact ⟨⟨a, fun c hc => (b c hc).1, fun hc => (b 10 hc).2.1 rfl⟩, fun hc => (b 32 hc).2.2 rfl⟩
  | none => exact h.elim
  | bool _ => exact h.elim
  | tuple _ => exact h.elim
  | list _ => exact h.elim
  | dict _ => exact h.elim
structure LpOk (ds : List PyData) : Prop where
  ne : ds ≠ []
  len : ds.length ≤ 6
  ok : ∀ d ∈ ds, PartOk d
theorem part_noL {d : PyData} (h : PartOk d) : noL d = true := by
  cases d <;> first | rfl | exact h.elim
theorem LpOk.noL {ds : List PyData} (h : LpOk ds) : noLs ds = true := by
  have key : ∀ l : List PyData, (∀ d ∈ l, PartOk d) → noLs l = true := fun l => by
    induction l with
    | nil => exact fun _ => rfl
    | cons d l ih =>
      intro h
      show (C1.noL d && noLs l) = true
      rw [part_noL (h d (List.mem_cons_self ..)), ih fun x hx => h x (List.mem_cons_of_mem _ hx)]
      rfl
  exact key _ h.ok
theorem LpOk.line {ds : List PyData} (h : LpOk ds) : LnB 60 (lineT ds) := by
  have := ln_join (b := 9) (ps := ds.map pS) fun p hp => by
    obtain ⟨d, hd, rfl⟩ := List.mem_map.mp hp
    exact (part_ln (h.ok d hd)).1
  refine this.up ?_
  rw [List.length_map]
  have := h.len
  omega
theorem LpOk.spl {ds : List PyData} (h : LpOk ds) : spS (lineT ds) = ds.map pS := spS_join (by simpa using h.ne) fun p hp => by
  obtain ⟨d, hd, rfl⟩ := List.mem_map.mp hp
  exact (part_ln (h.ok d hd)).2
theorem nat_part {n : Nat} (h : n < 1000000000) : PartOk (iD n) := ⟨by omega, by omega⟩
theorem word_part {s : Str} (h : s ∈ wordsP) : PartOk (.str s) := h
theorem all_part {ds : List PyData} (h : ∀ d ∈ ds, PartOk d) {w : Str} (hw : w ∈ wordsP) (hl : ds.length ≤ 5) : LpOk (.str w :: ds) :=
  ⟨by simp, by show ds.length + 1 ≤ 6; omega, fun d hd => by
    rcases List.mem_cons.mp hd with z | z
    · rw [z]
      exact hw
    · exact h d z⟩
section
variable {P : Program} {w : World} {K : PySem.W.Frag} {mg : Str → Option Value} {base : Heap} {T : Addr}
theorem star_lc {wd : Str} {a : Addr} {xs : List V} {H0 : Hp} {D : Addr} {σ : L2.St} {vs : List Nat} {j : Nat} {Qd : Hp → Prop} (dss : List (List PyData)) (hF : ∀ ds ∈ dss, noLs ds = true) (hx : DpAll K H0 xs (dss.map .tuple)) (hn : xs.length ≤ 1000)
    (hm : ∀ ds ∈ dss, ds.length ≤ 900) (hl : SqT K H0 a xs) (hD : H0 D = none) (hσ : ∀ v, ((wipe σ vs).set j (some v))[j]? = some (some v) ∧ wipe ((wipe σ vs).set j (some v)) vs = wipe σ vs)
    (hd : ∀ H acc, Same H0 H → H D = some (.lst acc) → DpAll K H acc (dss.map fun ds => .tuple (.str wd :: ds)) → Qd H) :
    ∃ W : Nat → Nat → Hp → Prop, (∃ m, W 0 m (upd H0 D (.lst []))) ∧ ∀ i m H, W i m H →
      ((Itt K a).stop i H ∧ Qd H) ∨ ((Itt K a).go i H ∧ ∃ Nx : Hp → Prop, (∀ H', Nx H' → ∃ m', m' < m ∧ W (i + 1) m' H') ∧ ∀ x H', (Itt K a).yld i H x H' → gName j x (wipe σ vs) H' fun σ2 H2 => wipe σ2 vs = wipe σ vs ∧ tYes σ2 H2 fun b H3 =>
        if b = true then (tTup (tCons (tC (.str wd)) (StX.tStar K (tVar j) tNil))) σ2 H3 fun y H4 => ∃ acc, H4 D = some (.lst acc) ∧ acc.length < sizeLine ∧ Nx (upd H4 D (.lst (acc ++ [y]))) else Nx H3) := by
  have eF : (dss.map fun ds => PyData.tuple (.str wd :: ds)) = (dss.map fun ds => .str wd :: ds).map .tuple := by
    rw [List.map_map]
    rfl
  have nF : noLs (dss.map fun ds => PyData.tuple (.str wd :: ds)) = true := by
    rw [eF]
    refine noLs_tups _ fun xs h => ?_
    obtain ⟨ds, h2, rfl⟩ := List.mem_map.mp h
    show (true && noLs ds) = true
    rw [hF ds h2]
    rfl
  refine lc_tupD (dss.map fun ds => .tuple (.str wd :: ds)) nF (by rw [List.length_map]; have := dps_len hx; rw [List.length_map] at this; exact this) hn hl hD (fun i x d H Q hxi hdi sm q => ?_) hd
  rw [List.getElem?_map] at hdi
  obtain ⟨ds, eds, rfl⟩ := Option.map_eq_some_iff.mp hdi
  have dx : Dp K H0 x (.tuple ds) := dps_at hx hxi (by rw [List.getElem?_map, eds]; rfl)
  have mem := List.mem_of_getElem? eds
  obtain ⟨b, ys, rfl, sq, dys⟩ := dp_tup dx
  have ly := dps_len dys
  have lm := hm ds mem
  have sq2 := same_tup sm _ _ sq
  refine ⟨(hσ _).2, _, (hσ _).1, b, ys, rfl, .inl sq2, ?_, fun p np => q _ _ (Same.up np) ?_⟩
  · exact line200 (show ((V.str wd) :: (ys ++ [])).length ≤ 1000 by rw [List.append_nil, List.length_cons]; omega)
  · rw [List.append_nil]
    exact .tup (SqT.of upd_same) (.cons (.str wd) (dps_stay (fun b xs h => same_tup (sm.trans (Same.up np)) _ _ h) _ _ dys (hF ds mem)))
theorem line_te {σ : L2.St} {H : Hp} {x : V} {ds : List PyData} {L j : Nat} {Q : VK} (hσ : σ[L]? = some (some x)) (hx : Dp K H x (.tuple ds)) (ok : LpOk ds) (hj : ∀ v, ((wipe σ [j]).set j (some v))[j]? = some (some v) ∧ wipe ((wipe σ [j]).set j (some v)) [j] = wipe σ [j])
    (q : ∀ H', Same H H' → Q (.str (lineT ds)) H') : (L2.tM1 (rJoin K) (tC (.str " ")) (tLc (iTup K (tVar L)) (gName j) tYes (tCB rStrA (tCons (tVar j) tNil)) [j])) σ H Q := by
  obtain ⟨b, ys, rfl, sq, dys⟩ := dp_tup hx
  have ly := dps_len dys
  have lm := ok.len
  refine ⟨⟨_, rfl⟩, _, hσ, b, rfl, ⟨_, sq⟩, fun D nD => ?_⟩
  refine lc_tupD ((ds.map pS).map .str) (noLs_strs _) (by rw [List.length_map, List.length_map]; exact ly) (by omega) sq nD (fun i x d H2 Q2 hxi hdi sm q2 => ?_) (fun H2 acc sm e dp => ?_)
  · rw [List.getElem?_map, List.getElem?_map] at hdi
    obtain ⟨s, es, rfl⟩ := Option.map_eq_some_iff.mp hdi
    obtain ⟨d, ed, rfl⟩ := Option.map_eq_some_iff.mp es
    have dx := dps_at dys hxi ed
    have pk := ok.ok d (List.mem_of_getElem? ed)
    refine ⟨(hj _).2, _, (hj _).1, ?_⟩
    cases dx with
    | int i => exact .inl ⟨i, rfl, Pl.log (i := i) pk, q2 _ _ (fun _ _ e => e) (.str _)⟩
    | str s => exact .inr ⟨s, rfl, q2 _ _ (fun _ _ e => e) (.str _)⟩
    | _ => exact pk.elim
  · have ea := strs_dps dp
    subst ea
    refine ⟨Str.ofString " ", D, ds.map pS, rfl, rfl, .inl (SqL.of e), ?_, q H2 sm⟩
    have h1 := len_sum (xs := ds.map pS) (b := 9) fun y hy => by
      obtain ⟨d, hd, rfl⟩ := List.mem_map.mp hy
      exact (part_ln (ok.ok d hd)).1.sz
    rw [List.length_map] at h1 ⊢
    have h0 : (Str.ofString " ").length = 1 := by decide +kernel
    rw [h0]
    omega
end
theorem line_cons (wd : Str) {ds : List PyData} (h : ds ≠ []) : lineT (.str wd :: ds) = wd ++ spB ++ lineT ds := by
  cases ds with
  | nil => exact absurd rfl h
  | cons d r =>
    apply TL.ext_tl
    show (Txt.join spB (pS (.str wd) :: pS d :: r.map pS)).cps.toList = (wd ++ spB ++ lineT (d :: r)).cps.toList
    rw [app_cs, app_cs]
    unfold lineT
    rw [cs_join, cs_join]
    show wd.cps.toList ++ (spB.cps.toList ++ TL.joinL spB.cps.toList _) = _
    rw [List.append_assoc]
    rfl
theorem line_one (d : PyData) : lineT [d] = pS d := by
  apply TL.ext_tl
  show (Txt.join spB [pS d]).cps.toList = _
  rw [cs_join]
  rfl
theorem str_app (a b c : Str) : a ++ b ++ c = a ++ (b ++ c) := by
  apply TL.ext_tl
  show (a ++ b ++ c).cps.toList = (a ++ (b ++ c)).cps.toList
  rw [app_cs, app_cs, app_cs, app_cs, List.append_assoc]
section
variable {K : PySem.W.Frag}
theorem str_te {σ : L2.St} {H : Hp} {x : V} {d : PyData} {j : Nat} {Q : VK} (hσ : σ[j]? = some (some x)) (hx : Dp K H x d) (ok : PartOk d) (q : Q (.str (pS d)) H) : (tCB rStrA (tCons (tVar j) tNil)) σ H Q := by
  refine ⟨_, hσ, ?_⟩
  cases hx with
  | int i => exact .inl ⟨i, rfl, Pl.log (i := i) ok, q⟩
  | str s => exact .inr ⟨s, rfl, q⟩
  | _ => exact ok.elim
theorem part_len {d : PyData} (h : PartOk d) : (pS d).length ≤ 9 := (part_ln h).1.sz
end
theorem cut_strs (xs : List Str) (lo hi : Option Int) : ∃ zs : List Str, cutV (xs.map V.str) lo hi = zs.map V.str ∧ (∀ z ∈ zs, z ∈ xs) ∧ zs.length ≤ xs.length := by
  refine ⟨(xs.drop (HT.sIx xs.length 0 lo)).take (HT.sIx xs.length xs.length hi - HT.sIx xs.length 0 lo), ?_, ?_, ?_⟩
  · unfold cutV
    rw [List.length_map, List.map_take, List.map_drop]
  · exact fun z hz => List.mem_of_mem_drop (List.mem_of_mem_take hz)
  · rw [List.length_take, List.length_drop]
    omega
theorem joinL_eq {S : List Nat} : ∀ {ps : List (List Nat)}, ps ≠ [] → (TL.joinL S ps).length + S.length = (ps.map (·.length)).sum + ps.length * S.length
  | [], h => absurd rfl h
  | [p], _ => by
    show p.length + S.length = (p.length + 0) + 1 * S.length
    omega
  | p :: q :: r, _ => by
    have ih := joinL_eq (S := S) (ps := q :: r) (by simp)
    show (p ++ (S ++ TL.joinL S (q :: r))).length + S.length = (p.length + ((q :: r).map (·.length)).sum) + ((q :: r).length + 1) * S.length
    rw [List.length_append, List.length_append, Nat.succ_mul]
    omega
theorem sum_set (v : Nat) : ∀ (l : List Nat) (i : Nat), (l.set i v).sum ≤ l.sum + v
  | [], _ => Nat.zero_le _
  | x :: l, 0 => by
    show v + l.sum ≤ (x + l.sum) + v
    omega
  | x :: l, i + 1 => by
    have := sum_set v l i
    show x + (l.set i v).sum ≤ (x + l.sum) + v
    omega
theorem join_set {y z : Str} {i b c : Nat} (hy : LnB b y) (hz : LnB c z) : LnB (b + c) (Txt.join spB ((spS y).set i z)) := by
  have e : Txt.join spB (spS y) = y := by
    rw [TL.join_eq]
    exact PySem.StrLaws.join_split y spB
  refine ⟨?_, fun k hk => ?_, fun hk => ?_⟩
  · have h1 := congrArg (fun s : Str => s.cps.toList.length) e
    simp only [cs_join, Array.length_toList] at h1
    have ne := spS_ne y
    have q1 := joinL_eq (S := spB.cps.toList) (ps := (spS y).map fun p => p.cps.toList) (by simpa using ne)
    have q2 := joinL_eq (S := spB.cps.toList) (ps := ((spS y).set i z).map fun p => p.cps.toList) (by simpa using ne)
    have q3 := sum_set z.cps.size (((spS y).map fun p => p.cps.toList).map (·.length)) i
    have e3 : (((spS y).set i z).map fun p => p.cps.toList).map (·.length) = (((spS y).map fun p => p.cps.toList).map (·.length)).set i z.cps.size := by
      rw [List.map_set, List.map_set, Array.length_toList]
    have a1 := hy.sz
    have a2 := hz.sz
    rw [← Array.length_toList, cs_join]
    rw [e3] at q2
    simp only [List.length_map, List.length_set] at q1 q2
    omega
  · rcases join_mem hk with w | ⟨p, hp, w⟩
    · rw [List.mem_singleton.mp (show k ∈ [32] from w)]
      decide
    · rcases List.mem_or_eq_of_mem_set hp with v | v
      · exact hy.as k (part_mem v w)
      · rw [v] at w
        exact hz.as k w
  · rcases join_mem hk with w | ⟨p, hp, w⟩
    · exact absurd w (by decide)
    · rcases List.mem_or_eq_of_mem_set hp with v | v
      · exact hy.nl (part_mem v w)
      · rw [v] at w
        exact hz.nl w
section
variable {P : Program} {w : World} {K : PySem.W.Frag} {mg : Str → Option Value} {base : Heap} {T : Addr} {a l : Addr} {ds : List Int}
theorem two_te {σ : L2.St} {H : Hp} {v i j b : Nat} {q : Addr} {xs : List Str} {tA tB : TE} {Q : VK} (hv : σ[v]? = some (some (.ref q))) (e : H q = some (.lst (xs.map V.str))) (W : Wd H a l ds) (qa : q ≠ a)
    (hA : ∀ H1 (R : VK), R (iV i) H1 → tA σ H1 R) (hB : ∀ H1 (R : VK), R (iV j) H1 → tB σ H1 R) (hx : ∀ x ∈ xs, LnB b x) (hl : xs.length ≤ 200)
    (hq : ∀ (H' : Hp) (p : Addr) (ys : List Str), Kp a H H' → Wd H' a l ds → H' p = some (.lst (ys.map V.str)) → p ≠ a → (∀ y ∈ ys, LnB b y) → ys.length ≤ 2 * xs.length → Q (.ref p) H') :
    (tOp rCat (tSl (rSlL K) (tVar v) tNoPart (tPart tA)) (tSl (rSlL K) (tVar v) (tPart tB) tNoPart)) σ H Q := by
  obtain ⟨z1, ez1, m1, l1⟩ := cut_strs xs none (some ((i : Nat) : Int))
  obtain ⟨z2, ez2, m2, l2⟩ := cut_strs xs (some ((j : Nat) : Int)) none
  refine ⟨_, hv, hA _ _ ⟨_, rfl, q, _, rfl, SqL.of e, fun s1 n1 => ?_⟩⟩
  have k1 := Kp.new (a := a) (o := .lst (cutV (xs.map V.str) none (some ((i : Nat) : Int)))) n1
  have W1 := W.new (o := .lst (cutV (xs.map V.str) none (some ((i : Nat) : Int)))) n1
  have e1 := k1 _ _ qa e
  have f1 : (upd H s1 (.lst (cutV (xs.map V.str) none (some ((i : Nat) : Int))))) s1 = some (.lst (z1.map V.str)) := by rw [upd_same, ez1]
  generalize upd H s1 (.lst (cutV (xs.map V.str) none (some ((i : Nat) : Int)))) = H1 at k1 W1 e1 f1
  refine ⟨_, hv, hB _ _ ⟨_, rfl, q, _, rfl, SqL.of e1, fun s2 n2 => ?_⟩⟩
  have k2 := Kp.new (a := a) (o := .lst (cutV (xs.map V.str) (some ((j : Nat) : Int)) none)) n2
  have W2 := W1.new (o := .lst (cutV (xs.map V.str) (some ((j : Nat) : Int)) none)) n2
  have f2 : (upd H1 s2 (.lst (cutV (xs.map V.str) (some ((j : Nat) : Int)) none))) s2 = some (.lst (z2.map V.str)) := by rw [upd_same, ez2]
  have f1' := k2 _ _ (W1.at'.elim fun n h => ne_of f1 h.2 (by intro z; cases z)) f1
  generalize upd H1 s2 (.lst (cutV (xs.map V.str) (some ((j : Nat) : Int)) none)) = H2 at k2 W2 f2 f1'
  refine ⟨s1, s2, _, _, rfl, rfl, f1', f2, line200 (by rw [List.length_map, List.length_map]; omega), fun p np => ?_⟩
  refine hq _ p (z1 ++ z2) ((k1.trans k2).trans (Kp.new np)) (W2.new np) (by rw [upd_same, List.map_append]) (W2.fresh np) (fun y hy => ?_) (by rw [List.length_append]; omega)
  rcases List.mem_append.mp hy with z | z
  · exact hx y (m1 y z)
  · exact hx y (m2 y z)
theorem ins_te {σ : L2.St} {H : Hp} {v i j b : Nat} {q : Addr} {xs : List Str} {tA tB te : TE} {Q : VK} (hv : σ[v]? = some (some (.ref q))) (e : H q = some (.lst (xs.map V.str))) (W : Wd H a l ds) (qa : q ≠ a)
    (hA : ∀ H1 (R : VK), R (iV i) H1 → tA σ H1 R) (hB : ∀ H1 (R : VK), R (iV j) H1 → tB σ H1 R) (hx : ∀ x ∈ xs, LnB b x) (hl : xs.length ≤ 200)
    (hte : ∀ H1 (R : VK), Kp a H H1 → Wd H1 a l ds → (∀ (y : Str) (H2 : Hp), Kp a H1 H2 → Wd H2 a l ds → LnB b y → R (.str y) H2) → te σ H1 R)
    (hq : ∀ (H' : Hp) (p : Addr) (ys : List Str), Kp a H H' → Wd H' a l ds → H' p = some (.lst (ys.map V.str)) → p ≠ a → (∀ y ∈ ys, LnB b y) → ys.length ≤ 2 * xs.length + 1 → Q (.ref p) H') :
    (tOp rCat (tOp rCat (tSl (rSlL K) (tVar v) tNoPart (tPart tA)) (tLst (tCons te tNil))) (tSl (rSlL K) (tVar v) (tPart tB) tNoPart)) σ H Q := by
  obtain ⟨z1, ez1, m1, l1⟩ := cut_strs xs none (some ((i : Nat) : Int))
  obtain ⟨z2, ez2, m2, l2⟩ := cut_strs xs (some ((j : Nat) : Int)) none
  refine ⟨_, hv, hA _ _ ⟨_, rfl, q, _, rfl, SqL.of e, fun s1 n1 => ?_⟩⟩
  have k1 := Kp.new (a := a) (o := .lst (cutV (xs.map V.str) none (some ((i : Nat) : Int)))) n1
  have W1 := W.new (o := .lst (cutV (xs.map V.str) none (some ((i : Nat) : Int)))) n1
  have e1 := k1 _ _ qa e
  have f1 : (upd H s1 (.lst (cutV (xs.map V.str) none (some ((i : Nat) : Int))))) s1 = some (.lst (z1.map V.str)) := by rw [upd_same, ez1]
  generalize upd H s1 (.lst (cutV (xs.map V.str) none (some ((i : Nat) : Int)))) = H1 at k1 W1 e1 f1
  have a1 : s1 ≠ a := W1.at'.elim fun n h => ne_of f1 h.2 (by intro z; cases z)
  refine hte _ _ k1 W1 fun y H2 k2 W2 hy => ?_
  replace e1 := k2 _ _ qa e1
  replace f1 := k2 _ _ a1 f1
  refine ⟨line200 (show 1 ≤ 1000 by decide), fun p3 n3 => ?_⟩
  have k3 := Kp.new (a := a) (o := .lst [V.str y]) n3
  have W3 := W2.new (o := .lst [V.str y]) n3
  have a3 := W2.fresh n3
  have f3 : (upd H2 p3 (.lst [V.str y])) p3 = some (.lst [V.str y]) := upd_same
  replace e1 := k3 _ _ qa e1
  replace f1 := k3 _ _ a1 f1
  generalize upd H2 p3 (.lst [V.str y]) = H3 at k3 W3 f3 e1 f1
  refine ⟨s1, p3, _, _, rfl, rfl, f1, f3, line200 (by rw [List.length_map]; show _ + 1 ≤ 1000; omega), fun p4 n4 => ?_⟩
  have k4 := Kp.new (a := a) (o := .lst (z1.map V.str ++ [V.str y])) n4
  have W4 := W3.new (o := .lst (z1.map V.str ++ [V.str y])) n4
  have a4 := W3.fresh n4
  have f4 : (upd H3 p4 (.lst (z1.map V.str ++ [V.str y]))) p4 = some (.lst ((z1 ++ [y]).map V.str)) := by rw [upd_same, List.map_append]; rfl
  replace e1 := k4 _ _ qa e1
  generalize upd H3 p4 (.lst (z1.map V.str ++ [V.str y])) = H4 at k4 W4 f4 e1
  refine ⟨_, hv, hB _ _ ⟨_, rfl, q, _, rfl, SqL.of e1, fun s2 n2 => ?_⟩⟩
  have k5 := Kp.new (a := a) (o := .lst (cutV (xs.map V.str) (some ((j : Nat) : Int)) none)) n2
  have W5 := W4.new (o := .lst (cutV (xs.map V.str) (some ((j : Nat) : Int)) none)) n2
  have f2 : (upd H4 s2 (.lst (cutV (xs.map V.str) (some ((j : Nat) : Int)) none))) s2 = some (.lst (z2.map V.str)) := by rw [upd_same, ez2]
  replace f4 := k5 _ _ a4 f4
  generalize upd H4 s2 (.lst (cutV (xs.map V.str) (some ((j : Nat) : Int)) none)) = H5 at k5 W5 f2 f4
  refine ⟨p4, s2, _, _, rfl, rfl, f4, f2, line200 (by rw [List.length_map, List.length_map, List.length_append]; show _ + 1 + _ ≤ 1000; omega), fun p np => ?_⟩
  refine hq _ p ((z1 ++ [y]) ++ z2) (((((k1.trans k2).trans k3).trans k4).trans k5).trans (Kp.new np)) (W5.new np) (by rw [upd_same]; simp only [List.map_append]) (W5.fresh np) (fun x hx2 => ?_) (by rw [List.length_append, List.length_append]; show _ + 1 + _ ≤ _; omega)
  rcases List.mem_append.mp hx2 with z | z
  · rcases List.mem_append.mp z with z | z
    · exact hx x (m1 x z)
    · rw [List.mem_singleton.mp z]
      exact hy
  · exact hx x (m2 x z)
theorem text_bound {xs : List Str} (hl : xs.length ≤ 900) (hx : ∀ x ∈ xs, x.length ≤ 10000) : ((xs.map fun x => x ++ nlS).map (·.length)).sum + (xs.map fun x => x ++ nlS).length * (Str.ofString "").length ≤ 16777216 := by
  have h1 := len_sum (xs := xs.map fun x => x ++ nlS) (b := 10001) fun y hy => by
    obtain ⟨x, h, rfl⟩ := List.mem_map.mp hy
    rw [app_len]
    have : nlS.length = 1 := by decide +kernel
    have := hx x h
    omega
  rw [List.length_map] at h1 ⊢
  have h0 : (Str.ofString "").length = 0 := by decide +kernel
  rw [h0, Nat.mul_zero, Nat.add_zero]
  have h2 : xs.length * 10001 ≤ 900 * 10001 := Nat.mul_le_mul_right _ hl
  omega
theorem text_lc {σ : L2.St} {H : Hp} {j : Nat} {q D : Addr} {xs : List Str} {vs : List Nat} {Qd : Hp → Prop} (e : H q = some (.lst (xs.map V.str))) (hl : xs.length ≤ 900) (hx : ∀ x ∈ xs, x.length ≤ 10000) (nD : H D = none)
    (hj : ∀ v, ((wipe σ vs).set j (some v))[j]? = some (some v) ∧ wipe ((wipe σ vs).set j (some v)) vs = wipe σ vs) (hd : ∀ H', Same H H' → H' D = some (.lst ((xs.map fun x => x ++ nlS).map V.str)) → Qd H') :
    ∃ W : Nat → Nat → Hp → Prop, (∃ m, W 0 m (upd H D (.lst []))) ∧ ∀ i m H, W i m H →
      ((Itl K q).stop i H ∧ Qd H) ∨ ((Itl K q).go i H ∧ ∃ Nx : Hp → Prop, (∀ H', Nx H' → ∃ m', m' < m ∧ W (i + 1) m' H') ∧ ∀ x H', (Itl K q).yld i H x H' → gName j x (wipe σ vs) H' fun σ2 H2 => wipe σ2 vs = wipe σ vs ∧ tYes σ2 H2 fun b H3 =>
        if b = true then (tOp rAddStr (tVar j) (tC (.str "\n"))) σ2 H3 fun y H4 => ∃ acc, H4 D = some (.lst acc) ∧ acc.length < sizeLine ∧ Nx (upd H4 D (.lst (acc ++ [y]))) else Nx H3) := by
  refine lc_listD ((xs.map fun x => x ++ nlS).map .str) (noLs_strs _) (by rw [List.length_map, List.length_map, List.length_map]) (by rw [List.length_map]; omega) (SqL.of e) nD (fun i x d H2 Q2 hxi hdi sm q2 => ?_) (fun H2 acc sm e2 dp => ?_)
  · rw [List.getElem?_map, List.getElem?_map] at hdi
    obtain ⟨s, es, rfl⟩ := Option.map_eq_some_iff.mp hdi
    obtain ⟨z, ez, rfl⟩ := Option.map_eq_some_iff.mp es
    rw [List.getElem?_map, ez] at hxi
    cases hxi
    refine ⟨(hj _).2, _, (hj _).1, z, nlS, rfl, rfl, ?_, q2 _ _ (fun _ _ e => e) (.str _)⟩
    have h1 := hx z (List.mem_of_getElem? ez)
    have : nlS.length = 1 := by decide +kernel
    rw [this, sizeLine_eq]
    omega
  · have ea := strs_dps dp
    subst ea
    exact hd _ sm e2
end
end C1

/-! Numbers of texts, by the program. -/
namespace C1
open PySem PySem.Spec PyProof.Rows L2 SX
open K0 (Cs digs isNum)
abbrev sPowerOfTen : Stmt := topS 6
abbrev sNumberOf : Stmt := topS 4
theorem scPowerOfTen : FnScope ["many"] ["many"] (defScope sPowerOfTen) := ⟨rfl, rfl, rfl, by decide +kernel, rfl, by decide +kernel, by decide +kernel⟩
theorem scNumberOf : FnScope ["text", "worth", "at", "part"] ["text"] (defScope sNumberOf) := ⟨rfl, rfl, rfl, by decide +kernel, rfl, by decide +kernel, by decide +kernel⟩
theorem rg_one {n : Nat} (h1 : 1 ≤ n) (h2 : n ≤ 600) : RgC 0 ((n : Nat) : Int) 1000 1 := by
  have e : Builtin.Range.rangeSize 0 ((n : Nat) : Int) 1000 = 1 := by
    unfold Builtin.Range.rangeSize
    rw [if_pos (by decide), if_pos (by omega)]
    omega
  refine ⟨by decide, by decide, ?_, e⟩
  unfold Builtin.Range.small
  rw [e]
  have fit : ∀ k : Nat, k ≤ 2000 → Builtin.Range.rangeFitsLong ((k : Nat) : Int) = true := fun k hk => by
    unfold Builtin.Range.rangeFitsLong
    rw [Bool.and_eq_true]
    exact ⟨decide_eq_true (by omega), decide_eq_true (by omega)⟩
  have f1 := fit n (by omega)
  have f2 : Builtin.Range.rangeFitsLong (((n : Nat) : Int) + (1000 - 1)) = true := by
    have := fit (n + 999) (by omega)
    rw [show (((n + 999 : Nat)) : Int) = ((n : Nat) : Int) + (1000 - 1) by omega] at this
    exact this
  rw [if_pos (by decide), f1, f2]
  rfl
theorem cut_whole {z : Str} (h : z.length ≤ 1000) : cutS z (some 0) (some 1000) = z := by
  apply TL.ext_tl
  show ((z.cps.toList.drop (HT.sIx z.length 0 (some 0))).take (HT.sIx z.length z.length (some 1000) - HT.sIx z.length 0 (some 0))) = z.cps.toList
  rw [show HT.sIx z.length 0 (some 0) = 0 from HT.sIx_nat z.length 0 0 ▸ (by omega), show HT.sIx z.length z.length (some 1000) = z.length from HT.sIx_nat z.length z.length 1000 ▸ (by omega), List.drop_zero, Nat.sub_zero]
  exact List.take_of_length_le (by rw [Array.length_toList]; exact Nat.le_refl _)
theorem ten_val (n : Nat) : NumText.digitsVal (49 :: List.replicate n 48) = 10 ^ n := by
  have key : ∀ (n a : Nat), (List.replicate n 48).foldl (fun acc c => acc * 10 + (c - 48)) a = a * 10 ^ n := fun n => by
    induction n with
    | zero =>
      intro a
      rw [Nat.pow_zero, Nat.mul_one]
      rfl
    | succ n ih =>
      intro a
      rw [List.replicate_succ, List.foldl_cons, ih, Nat.pow_succ, Nat.mul_comm (10 ^ n) 10, ← Nat.mul_assoc]
      rfl
  show (List.replicate n 48).foldl (fun acc c => acc * 10 + (c - 48)) 1 = _
  exact (key n 1).trans (Nat.one_mul _)
theorem ten_text {n : Nat} (h : n ≤ 600) : intText? (Str.ofString "1" ++ Txt.mul (Str.ofString "0") ((n : Nat) : Int)) = some (((10 ^ n : Nat)) : Int) ∧ (Str.ofString "1" ++ Txt.mul (Str.ofString "0") ((n : Nat) : Int)).length = n + 1 := by
  have e : (Str.ofString "1" ++ Txt.mul (Str.ofString "0") ((n : Nat) : Int)).cps.toList = 49 :: List.replicate n 48 := by
    rw [app_cs, show Str.ofString "0" = (⟨#[48]⟩ : Str) from rfl, RuS.mul_one]
    rfl
  have e2 : Str.ofString "1" ++ Txt.mul (Str.ofString "0") ((n : Nat) : Int) = S (49 :: List.replicate n 48) := TL.ext_tl (by
    show (Str.ofString "1" ++ Txt.mul (Str.ofString "0") ((n : Nat) : Int)).cps.toList = _
    rw [e])
  refine ⟨?_, ?_⟩
  · have hi := int_S (a := 49 :: List.replicate n 48) (List.all_eq_true.mpr fun c hc => by
      rcases List.mem_cons.mp hc with z | z
      · rw [z]
        rfl
      · rw [(List.mem_replicate.mp z).2]
        rfl) (by simp) (by rw [List.length_cons, List.length_replicate]; omega)
    rw [e2, hi, ten_val]
  · show (Str.ofString "1" ++ Txt.mul (Str.ofString "0") ((n : Nat) : Int)).cps.size = n + 1
    rw [← Array.length_toList, e, List.length_cons, List.length_replicate]
section
variable {P : Program} {w : World} {K : PySem.W.Frag} {mg : Str → Option Value} {base : Heap} {T : Addr}
structure BN (mg : Str → Option Value) : Prop where
  len : mg "len" = none
  int : mg "int" = none
  range : mg "range" = none
def spTen : Sp := fun vs H Q _ => ∃ n : Nat, vs = [iV n] ∧ n ≤ 600 ∧ Q (.int (((10 ^ n : Nat)) : Int)) H
theorem ok_ten {f : Addr} {fd : FuncData} (F : Fun K "power_of_ten" "power_of_ten" sPowerOfTen f fd) (B : BN mg) : FnOk P w K mg base CX0 1 f fd ["many"] spTen := by
  refine F.ok scPowerOfTen (fun vs H Q E h => ?_) (fun cdv A outer s H vs Q E hr h => ?_)
  · obtain ⟨n, rfl, _⟩ := h
    rfl
  · obtain ⟨n, rfl, hn, q⟩ := h
    have nd := scPowerOfTen.nd
    refine ⟨_, (pss_one (ps_ret (pe_callTy call_int_str (by rfl) B.int (by decide +kernel) (pa_cons (pe_op op_add_str (pe_str) (pe_op RuS.op_repS (pe_str) (pv 0))) pa_nil)))), ?_⟩
    obtain ⟨e1, e2⟩ := ten_text hn
    have e3 : (Str.ofString "1").length = 1 := rfl
    refine ⟨_, rfl, Str.ofString "0", _, rfl, rfl, RuS.mul_ok (by omega), _, _, rfl, rfl, ?_, _, _, rfl, e1, by omega, q⟩
    rw [app_len] at e2
    rw [e2, sizeLine_eq]
    omega
def spNof : Sp := fun vs H Q _ => ∃ x : Str, vs = [.str x] ∧ numB x = true ∧ x.cps.size ≤ 600 ∧ Q (iV (numV x)) H
theorem ok_nof {f fW : Addr} {fd fdW : FuncData} {tk : Tok} (F : Fun K "number_of" "number_of" sNumberOf f fd) (B : BN mg) (gA : mg "AT_ONCE" = some (.int 1000 tk))
    (GW : FnOk P w K mg base CX0 1 fW fdW ["many"] spTen) (kW : PySem.W.keepIn K (.ref fW) = true) (bW : Binds K fdW ["many"] []) (gW : mg "power_of_ten" = some (.ref fW)) : FnOk P w K mg base CX0 2 f fd ["text"] spNof := by
  refine F.ok scNumberOf (fun vs H Q E h => ?_) (fun cdv A outer s H vs Q E hr h => ?_)
  · obtain ⟨x, rfl, _⟩ := h
    rfl
  · obtain ⟨x, rfl, hx, hz, q⟩ := h
    have nd := scNumberOf.nd
    refine ⟨_, (pss_cons (ps_set (i := 1) nd rfl (.inl rfl) (pe_int))
      (C8.pss_cut (ps_for PassesOwn.never rfl (pi_range3 (by rfl) B.range (pa_cons (pe_int) (pa_cons (pe_callB call_len_str (by rfl) B.len PySem.boot_len (pa_cons (pv 0) pa_nil)) (pa_cons (pe_glob (v := .int 1000) (by rfl) gA ⟨_, rfl⟩) pa_nil)))) (pg_name (i := 2) nd rfl (.inl rfl)) (pss_cons (ps_set (i := 3) nd rfl (.inl rfl) (pe_slice sl_str (pv 0) (po_some (pv 2)) (po_some (pe_op op_add (pv 2) (pe_glob (v := .int 1000) (by rfl) gA ⟨_, rfl⟩)))))
      (pss_one (ps_set (i := 1) nd rfl (.inl rfl) (pe_op op_add (pe_op op_mul (pv 1) (pe_call GW hr (by rfl) gW kW bW .nil pass0 (pa_cons (pe_callB call_len_str (by rfl) B.len PySem.boot_len (pa_cons (pv 3) pa_nil)) pa_nil))) (pe_callTy call_int_str (by rfl) B.int (by decide +kernel) (pa_cons (pv 3) pa_nil)))))))
      (pss_one (ps_ret (pv 1))))), ?_⟩
    have h1 : 1 ≤ x.cps.size := by
      have := (isNum_all hx).1
      rw [← Array.length_toList]
      exact List.length_pos_iff.mpr this
    obtain ⟨e1, e2⟩ := num_int hx (by show x.cps.toList.length ≤ 600; rw [Array.length_toList]; exact hz)
    have ls : x.length ≤ sizeLine := by
      show x.cps.size ≤ _
      rw [sizeLine_eq]
      omega
    refine ⟨fun σ H' => H' = H ∧ ∃ y2 y3, σ = [some (.str x), some (iV (numV x)), y2, y3], ?_, ?_⟩
    · refine ⟨_, rfl, _, rfl, ls, 0, _, 1000, 1, rfl, rg_one (n := x.length) h1 hz, ?_⟩
      refine for_rangeC (lo := 0) (c := 1000) (n := 1) (fun i σ H' => H' = H ∧ ∃ y2 y3, σ = [some (.str x), some (if i = 0 then .int 0 else iV (numV x)), y2, y3]) ⟨rfl, none, none, rfl⟩ (fun i σ H' hi h => ?_) (fun σ H' h => ?_)
      · obtain ⟨rfl, y2, y3, rfl⟩ := h
        obtain rfl : i = 0 := by omega
        refine ⟨_, rfl, _, rfl, _, rfl, _, rfl, _, _, rfl, rfl, _, rfl, x, rfl, ls, ?_⟩
        rw [show ((0 : Int) + ((0 : Nat) : Int) * 1000) = 0 from rfl, show ((0 : Int) + 1000) = 1000 from rfl, cut_whole (z := x) (by show x.cps.size ≤ 1000; omega)]
        refine ⟨_, rfl, _, rfl, _, rfl, ls, x.length, rfl, hz, _, _, rfl, rfl, .inl ⟨by decide, by decide⟩, _, rfl, x, _, rfl, e1, e2, _, _, rfl, rfl, rfl, some (.int 0), some (.str x), ?_⟩
        show [some (V.str x), some (V.int (0 * ((10 ^ x.length : Nat) : Int) + ((numV x : Nat) : Int))), some (V.int 0), some (V.str x)] = _
        rw [Int.zero_mul, Int.zero_add]
        rfl
      · obtain ⟨rfl, y2, y3, rfl⟩ := h
        exact ⟨rfl, y2, y3, rfl⟩
    rintro σ H' ⟨rfl, y2, y3, rfl⟩
    exact ⟨_, rfl, q⟩
end
end C1

/-! Texts whose lines are short, also when signs are changed. -/
namespace C1
open PySem PySem.Spec PyProof.Rows L2 SX
open K0 (Cs digs isNum)
/-- the first line has at most k signs, the others at most b -/
def RL (b : Nat) : Nat → List Nat → Prop
  | _, [] => True
  | k, c :: r => if c = 10 then RL b b r else 1 ≤ k ∧ RL b (k - 1) r
theorem RL.mono {b b' : Nat} (hb : b ≤ b') : ∀ {l : List Nat} {k k' : Nat}, RL b k l → k ≤ k' → RL b' k' l
  | [], _, _, _, _ => trivial
  | c :: r, k, k', h, hk => by
    show if c = 10 then RL b' b' r else 1 ≤ k' ∧ RL b' (k' - 1) r
    have h' : if c = 10 then RL b b r else 1 ≤ k ∧ RL b (k - 1) r := h
    by_cases e : c = 10
    · rw [if_pos e] at h' ⊢
      exact RL.mono hb h' hb
    · rw [if_neg e] at h' ⊢
      exact ⟨by omega, RL.mono hb h'.2 (by omega)⟩
theorem RL.app {a b : Nat} : ∀ {u v : List Nat} {k : Nat}, RL a k u → RL b b v → RL (a + b) (k + b) (u ++ v)
  | [], v, k, _, h => RL.mono (by omega) h (by omega)
  | c :: r, v, k, hu, hv => by
    show if c = 10 then RL (a + b) (a + b) (r ++ v) else 1 ≤ k + b ∧ RL (a + b) (k + b - 1) (r ++ v)
    have h' : if c = 10 then RL a a r else 1 ≤ k ∧ RL a (k - 1) r := hu
    by_cases e : c = 10
    · rw [if_pos e] at h' ⊢
      exact RL.app h' hv
    · rw [if_neg e] at h' ⊢
      refine ⟨by omega, ?_⟩
      rw [show k + b - 1 = (k - 1) + b by omega]
      exact RL.app h'.2 hv
theorem RL.take {b : Nat} : ∀ {l : List Nat} {k n : Nat}, RL b k l → RL b k (l.take n)
  | [], _, _, _ => by
    rw [List.take_nil]
    trivial
  | c :: r, k, 0, _ => trivial
  | c :: r, k, n + 1, h => by
    show if c = 10 then RL b b (r.take n) else 1 ≤ k ∧ RL b (k - 1) (r.take n)
    have h' : if c = 10 then RL b b r else 1 ≤ k ∧ RL b (k - 1) r := h
    by_cases e : c = 10
    · rw [if_pos e] at h' ⊢
      exact RL.take h'
    · rw [if_neg e] at h' ⊢
      exact ⟨h'.1, RL.take h'.2⟩
theorem RL.drop {b : Nat} : ∀ {l : List Nat} {k n : Nat}, RL b k l → k ≤ b → RL b b (l.drop n)
  | [], _, _, _, _ => by
    rw [List.drop_nil]
    trivial
  | c :: r, k, 0, h, hk => RL.mono (Nat.le_refl b) h hk
  | c :: r, k, n + 1, h, hk => by
    show RL b b (r.drop n)
    have h' : if c = 10 then RL b b r else 1 ≤ k ∧ RL b (k - 1) r := h
    by_cases e : c = 10
    · rw [if_pos e] at h'
      exact RL.drop h' (Nat.le_refl b)
    · rw [if_neg e] at h'
      exact RL.drop h'.2 (by omega)
theorem RL.line {b : Nat} : ∀ {p rest : List Nat} {k : Nat}, p.length ≤ k → 10 ∉ p → RL b b rest → RL b k (p ++ 10 :: rest)
  | [], rest, k, _, _, h => by
    show if 10 = 10 then RL b b rest else _
    rw [if_pos rfl]
    exact h
  | c :: r, rest, k, hl, hn, h => by
    have hc : c ≠ 10 := fun e => hn (by rw [e]; exact List.mem_cons_self ..)
    rw [List.length_cons] at hl
    show if c = 10 then _ else 1 ≤ k ∧ RL b (k - 1) (r ++ 10 :: rest)
    rw [if_neg hc]
    exact ⟨by omega, RL.line (by omega) (fun z => hn (List.mem_cons_of_mem _ z)) h⟩
theorem RL.one {b : Nat} : ∀ {p : List Nat} {k : Nat}, p.length ≤ k → 10 ∉ p → RL b k p
  | [], _, _, _ => trivial
  | c :: r, k, hl, hn => by
    have hc : c ≠ 10 := fun e => hn (by rw [e]; exact List.mem_cons_self ..)
    rw [List.length_cons] at hl
    show if c = 10 then _ else 1 ≤ k ∧ RL b (k - 1) r
    rw [if_neg hc]
    exact ⟨by omega, RL.one (by omega) (fun z => hn (List.mem_cons_of_mem _ z))⟩
theorem RL.join {b : Nat} : ∀ {ps : List (List Nat)}, (∀ p ∈ ps, p.length ≤ b ∧ 10 ∉ p) → RL b b (TL.joinL [10] ps)
  | [], _ => trivial
  | [p], h => RL.one (h p (List.mem_singleton.mpr rfl)).1 (h p (List.mem_singleton.mpr rfl)).2
  | p :: q :: r, h => RL.line (h p (List.mem_cons_self ..)).1 (h p (List.mem_cons_self ..)).2 (RL.join fun x hx => h x (List.mem_cons_of_mem _ hx))
theorem RL.line_len {b : Nat} : ∀ {p rest : List Nat} {k : Nat}, RL b k (p ++ 10 :: rest) → 10 ∉ p → p.length ≤ k ∧ RL b b rest
  | [], rest, k, h, _ => by
    have h' : if 10 = 10 then RL b b rest else 1 ≤ k ∧ RL b (k - 1) rest := h
    rw [if_pos rfl] at h'
    exact ⟨Nat.zero_le _, h'⟩
  | c :: r, rest, k, h, hn => by
    have hc : c ≠ 10 := fun e => hn (by rw [e]; exact List.mem_cons_self ..)
    have h' : if c = 10 then RL b b (r ++ 10 :: rest) else 1 ≤ k ∧ RL b (k - 1) (r ++ 10 :: rest) := h
    rw [if_neg hc] at h'
    obtain ⟨a1, a2⟩ := RL.line_len h'.2 (fun z => hn (List.mem_cons_of_mem _ z))
    exact ⟨by rw [List.length_cons]; have := h'.1; omega, a2⟩
theorem RL.one_len {b : Nat} : ∀ {p : List Nat} {k : Nat}, RL b k p → 10 ∉ p → p.length ≤ k
  | [], _, _, _ => Nat.zero_le _
  | c :: r, k, h, hn => by
    have hc : c ≠ 10 := fun e => hn (by rw [e]; exact List.mem_cons_self ..)
    have h' : if c = 10 then RL b b r else 1 ≤ k ∧ RL b (k - 1) r := h
    rw [if_neg hc] at h'
    have := RL.one_len h'.2 (fun z => hn (List.mem_cons_of_mem _ z))
    rw [List.length_cons]
    have := h'.1
    omega
theorem RL.lines {b : Nat} : ∀ {ps : List (List Nat)}, RL b b (TL.joinL [10] ps) → (∀ p ∈ ps, 10 ∉ p) → ∀ p ∈ ps, p.length ≤ b
  | [], _, _, p, hp => by cases hp
  | [q], h, hn, p, hp => by
    rw [List.mem_singleton.mp hp]
    exact RL.one_len h (hn q (List.mem_singleton.mpr rfl))
  | q :: q2 :: r, h, hn, p, hp => by
    obtain ⟨a1, a2⟩ := RL.line_len (p := q) (rest := TL.joinL [10] (q2 :: r)) h (hn q (List.mem_cons_self ..))
    rcases List.mem_cons.mp hp with z | z
    · rw [z]
      exact a1
    · exact RL.lines a2 (fun x hx => hn x (List.mem_cons_of_mem _ hx)) p z
theorem count_join : ∀ {ps : List (List Nat)}, ps ≠ [] → (∀ p ∈ ps, 10 ∉ p) → (TL.joinL [10] ps).count 10 + 1 = ps.length
  | [], h, _ => absurd rfl h
  | [p], _, hn => by
    show p.count 10 + 1 = 1
    rw [List.count_eq_zero.mpr (hn p (List.mem_singleton.mpr rfl))]
  | p :: q :: r, _, hn => by
    have ih := count_join (ps := q :: r) (by simp) fun x hx => hn x (List.mem_cons_of_mem _ hx)
    show (p ++ (10 :: TL.joinL [10] (q :: r))).count 10 + 1 = (q :: r).length + 1
    rw [List.count_append, List.count_eq_zero.mpr (hn p (List.mem_cons_self ..)), List.count_cons_self]
    omega
/-- a text of at most n lines of at most b signs -/
structure TxL (b n : Nat) (x : Str) : Prop where
  run : RL b b (cs x)
  as : ∀ c ∈ cs x, c < 128
  nl : (cs x).count 10 + 1 ≤ n
theorem split_back (x : Str) : Txt.join nlS (splitL x) = x := by
  rw [TL.join_eq]
  exact PySem.StrLaws.join_split x nlS
theorem split_cs (x : Str) : cs x = TL.joinL [10] ((splitL x).map fun p => p.cps.toList) := by
  have := congrArg (fun s : Str => s.cps.toList) (split_back x)
  simp only [cs_join] at this
  exact this.symm
theorem TxL.lines {b n : Nat} {x : Str} (h : TxL b n x) : (splitL x).length ≤ n ∧ ∀ y ∈ splitL x, LnB b y := by
  have hn : ∀ p ∈ (splitL x).map fun p => p.cps.toList, 10 ∉ p := fun p hp => by
    obtain ⟨y, hy, rfl⟩ := List.mem_map.mp hp
    exact nl_free hy
  have hr := h.run
  have hc := h.nl
  rw [split_cs x] at hr hc
  have ne : (splitL x).map (fun p => p.cps.toList) ≠ [] := fun z => by
    have := split_pos x
    have z2 := List.map_eq_nil_iff.mp z
    rw [z2] at this
    cases this
  refine ⟨?_, fun y hy => ⟨?_, fun c hc => h.as c (part_mem hy hc), nl_free hy⟩⟩
  · have := count_join ne hn
    rw [List.length_map] at this
    omega
  · have := RL.lines hr hn y.cps.toList (List.mem_map.mpr ⟨y, hy, rfl⟩)
    rw [Array.length_toList] at this
    exact this
theorem TxL.size {b n : Nat} {x : Str} (h : TxL b n x) : x.cps.size ≤ n * (b + 1) := by
  obtain ⟨h1, h2⟩ := h.lines
  have := join_size (y := nlS) (ps := splitL x) (b := b) fun p hp => (h2 p hp).sz
  rw [split_back] at this
  have e : nlS.cps.size = 1 := rfl
  rw [e] at this
  exact Nat.le_trans this (Nat.mul_le_mul_right _ h1)
theorem txl_join {xs : List Str} {b n : Nat} (hne : xs ≠ []) (h : ∀ y ∈ xs, LnB b y) (hl : xs.length ≤ n) : TxL b n (Txt.join nlS xs) := by
  have hn : ∀ p ∈ xs.map fun p => p.cps.toList, p.length ≤ b ∧ 10 ∉ p := fun p hp => by
    obtain ⟨y, hy, rfl⟩ := List.mem_map.mp hp
    exact ⟨by rw [Array.length_toList]; exact (h y hy).sz, (h y hy).nl⟩
  have e : cs (Txt.join nlS xs) = TL.joinL [10] (xs.map fun p => p.cps.toList) := cs_join nlS xs
  refine ⟨?_, fun c hc => ?_, ?_⟩
  · rw [e]
    exact RL.join hn
  · rcases join_mem hc with z | ⟨p, hp, z⟩
    · rw [List.mem_singleton.mp (show c ∈ [10] from z)]
      decide
    · exact (h p hp).as c z
  · rw [e]
    have := count_join (ps := xs.map fun p => p.cps.toList) (fun z => hne (List.map_eq_nil_iff.mp z)) fun p hp => (hn p hp).2
    rw [List.length_map] at this
    omega
theorem txl_text {xs : List Str} {b n : Nat} (h : ∀ y ∈ xs, LnB b y) (hl : xs.length + 1 ≤ n) : TxL b n (textL xs) := by
  rw [text_eq]
  refine txl_join (by simp) (fun y hy => ?_) (by rw [List.length_append]; exact hl)
  rcases List.mem_append.mp hy with z | z
  · exact h y z
  · rw [List.mem_singleton.mp z]
    exact ln_nil.up (Nat.zero_le _)
theorem TxL.up {b n b' n' : Nat} {x : Str} (h : TxL b n x) (hb : b ≤ b') (hn : n ≤ n') : TxL b' n' x := ⟨RL.mono hb h.run hb, h.as, Nat.le_trans h.nl hn⟩
/-- signs left out, put in, or both -/
theorem TxL.edit {b n : Nat} {x y : Str} (h : TxL b n x) {i j : Nat} {m : List Nat} (hm : m.length ≤ 1) (ha : ∀ c ∈ m, c < 128) (e : cs y = (cs x).take i ++ (m ++ (cs x).drop j)) (hij : i ≤ j) : TxL (2 * b + 1) (n + 1) y := by
  have hr : RL 1 1 m := by
    match m, hm with
    | [], _ => trivial
    | [c], _ =>
      show if c = 10 then RL 1 1 [] else 1 ≤ 1 ∧ RL 1 0 []
      split
      · trivial
      · exact ⟨Nat.le_refl 1, trivial⟩
  refine ⟨?_, fun c hc => ?_, ?_⟩
  · rw [e]
    have := RL.app (RL.take (n := i) h.run) (RL.app hr (RL.drop (n := j) h.run (Nat.le_refl b)))
    exact RL.mono (by omega) this (by omega)
  · rw [e] at hc
    rcases List.mem_append.mp hc with z | z
    · exact h.as c (List.mem_of_mem_take z)
    · rcases List.mem_append.mp z with z | z
      · exact ha c z
      · exact h.as c (List.mem_of_mem_drop z)
  · rw [e, List.count_append, List.count_append]
    have h1 : m.count 10 ≤ 1 := Nat.le_trans List.count_le_length hm
    have h2 : ((cs x).take i).count 10 + ((cs x).drop j).count 10 ≤ (cs x).count 10 := by
      have h3 : ((cs x).drop j).count 10 ≤ ((cs x).drop i).count 10 := by
        rw [show j = i + (j - i) by omega, ← List.drop_drop]
        exact (List.drop_sublist _ _).count_le _
      have h4 : ((cs x).take i).count 10 + ((cs x).drop i).count 10 = (cs x).count 10 := by
        rw [← List.count_append, List.take_append_drop]
      omega
    have := h.nl
    omega
end C1

/-! The numbers of a line, by the program and by the law. -/
namespace C1
open PySem PySem.Spec PyProof.Rows L2 SX
open K0 (Cs digs isNum)
open GxR (TabG Tabbed TabB GenS)
abbrev NLI : List Str := ["line", "word", "many", "first", "parts", "part"]
abbrev NLU : List Str := ["line", "word", "many", "parts", "part", "sign"]
abbrev rNotInSign : R2 := fun x y H Q => ∃ (c : Nat) (z : Str), x = .str ⟨#[c]⟩ ∧ y = .str z ∧ Q (.bl (!decide (c ∈ z.cps.toList))) H
abbrev sgn (c : Nat) : V := .str ⟨#[c]⟩
abbrev sgD (c : Nat) : PyData := .str ⟨#[c]⟩
def asc (x : Str) : Prop := ∀ c ∈ cs x, c < 128
section
variable {P : Program} {w : World} {K : PySem.W.Frag} {mg : Str → Option Value} {base : Heap} {T : Addr} {H : Hp}
theorem lc_strF {x : Str} {pb : Nat → Bool} {D : Addr} {σ : L2.St} {wv : List Nat} {j : Nat} {tt : TT} {Qd : Hp → Prop} (hz : x.cps.size ≤ 100000)
    (ht : ∀ c H1 (R : Bool → Hp → Prop), R (pb c) H1 → tt ((wipe σ wv).set j (some (sgn c))) H1 R)
    (hσ : ∀ v, ((wipe σ wv).set j (some v))[j]? = some (some v) ∧ wipe ((wipe σ wv).set j (some v)) wv = wipe σ wv) (q : Qd (upd H D (.lst (((cs x).filter pb).map sgn)))) :
    ∃ W : Nat → Nat → Hp → Prop, (∃ m, W 0 m (upd H D (.lst []))) ∧ ∀ i m H, W i m H →
      ((Its x).stop i H ∧ Qd H) ∨ ((Its x).go i H ∧ ∃ Nx : Hp → Prop, (∀ H', Nx H' → ∃ m', m' < m ∧ W (i + 1) m' H') ∧ ∀ v H', (Its x).yld i H v H' → gName j v (wipe σ wv) H' fun σ2 H2 => wipe σ2 wv = wipe σ wv ∧ tt σ2 H2 fun b H3 =>
        if b = true then tVar j σ2 H3 fun y H4 => ∃ acc, H4 D = some (.lst acc) ∧ acc.length < sizeLine ∧ Nx (upd H4 D (.lst (acc ++ [y]))) else Nx H3) := by
  refine ⟨fun i m H1 => m = x.cps.size - i ∧ i ≤ x.cps.size ∧ H1 = upd H D (.lst ((((cs x).take i).filter pb).map sgn)), ⟨_, rfl, Nat.zero_le _, rfl⟩, ?_⟩
  rintro i m H1 ⟨rfl, hi, rfl⟩
  by_cases hlt : i < x.cps.size
  · refine .inr ⟨hlt, fun H2 => H2 = upd H D (.lst ((((cs x).take (i + 1)).filter pb).map sgn)), fun H' h => ⟨x.cps.size - (i + 1), by omega, rfl, by omega, h⟩, fun v H' y => ?_⟩
    obtain ⟨rfl, c, hc, rfl⟩ := y
    have ec : (cs x)[i]? = some c := by
      show x.cps.toList[i]? = some c
      rw [Array.getElem?_toList]
      exact hc
    refine ⟨(hσ _).2, ht c _ _ ?_⟩
    cases hb : pb c with
    | false =>
      show _ = _
      rw [take_snoc ec, List.filter_append, List.filter_cons_of_neg (by rw [hb]; decide), List.filter_nil, List.append_nil]
    | true =>
      refine ⟨_, (hσ _).1, _, upd_same, ?_, ?_⟩
      · rw [List.length_map, sizeLine_eq]
        have h1 := List.length_filter_le pb ((cs x).take i)
        rw [List.length_take] at h1
        omega
      · rw [upd_upd, take_snoc ec, List.filter_append, List.filter_cons_of_pos hb, List.filter_nil, List.map_append]
        rfl
  · have e : i = x.cps.size := by omega
    subst e
    refine .inl ⟨Nat.le_refl _, ?_⟩
    have : (cs x).take x.cps.size = cs x := List.take_of_length_le (by rw [Array.length_toList]; exact Nat.le_refl _)
    rw [this]
    exact q
theorem dps_sgn : ∀ l : List Nat, DpAll K H (l.map sgn) (l.map sgD)
  | [] => .nil
  | c :: l => .cons (.str _) (dps_sgn l)
end
theorem asc_ok {x : Str} (h : asc x) : PyData.canLay0 (.str x) = true := by
  show (x.cps.all fun c => decide (c < 0x110000)) = true
  rw [← Array.all_toList]
  refine List.all_eq_true.mpr fun c hc => decide_eq_true ?_
  have := h c hc
  omega
theorem cut_one (v : V) (l : List V) : cutV (v :: l) (some 1) none = l := by
  unfold cutV
  rw [HT.sIx_none, show HT.sIx (v :: l).length 0 (some 1) = 1 by
    show HT.sIx (l.length + 1) 0 (some ((1 : Nat) : Int)) = 1
    rw [HT.sIx_nat]
    omega]
  exact List.take_of_length_le (Nat.le_refl _)
def lnN (word : Str) (many : Nat) (x : Str) : Option (List Nat) := match spS x with
  | [] => none
  | w :: rest => if w = word ∧ rest.length = many ∧ rest.all numB = true then some (rest.map numV) else none
theorem LnB.parts2 {b : Nat} {y : Str} (h : LnB b y) (hb : b ≤ 600) : (spS y).length ≤ 601 ∧ ∀ z ∈ spS y, LnB b z := by
  have := spS_len y
  have := h.sz
  refine ⟨by omega, fun z hz => ⟨Nat.le_trans (part_size hz) h.sz, fun c hc => h.as c (part_mem hz hc), fun hc => h.nl (part_mem hz hc)⟩⟩
theorem lnN_eq {x w : Str} {rest : List Str} (e : spS x = w :: rest) (word : Str) (many : Nat) : lnN word many x = if w = word ∧ rest.length = many ∧ rest.all numB = true then some (rest.map numV) else none := by
  unfold lnN
  rw [e]
section
variable {P : Program} {w : World} {K : PySem.W.Frag} {mg : Str → Option Value} {base : Heap} {T : Addr}
end
end C1

/-! Literals and their texts, by the program. -/
namespace C1
open PySem PySem.Spec PyProof.Rows L2 SX
open K0 (Cs digs isNum)
open GxR (TabG Tabbed TabB GenS)
abbrev sNumberText : Stmt := topS 5
abbrev sLiteralText : Stmt := topS 22
abbrev sIsLiteral : Stmt := topS 24
abbrev sLiteralOf : Stmt := topS 25
theorem scNumberText : FnScope ["worth", "limit", "found", "low"] ["worth"] (defScope sNumberText) := ⟨rfl, rfl, rfl, by decide +kernel, rfl, by decide +kernel, by decide +kernel⟩
theorem scLiteralText : FnScope ["literal"] ["literal"] (defScope sLiteralText) := ⟨rfl, rfl, rfl, by decide +kernel, rfl, by decide +kernel, by decide +kernel⟩
theorem scIsLiteral : FnScope ["text", "digits"] ["text"] (defScope sIsLiteral) := ⟨rfl, rfl, rfl, by decide +kernel, rfl, by decide +kernel, by decide +kernel⟩
theorem scLiteralOf : FnScope ["text"] ["text"] (defScope sLiteralOf) := ⟨rfl, rfl, rfl, by decide +kernel, rfl, by decide +kernel, by decide +kernel⟩
theorem cs_app (x y : Str) : cs (x ++ y) = cs x ++ cs y := app_cs x y
theorem starts_minus (x : Str) : Txt.startswith x "-" = decide ((cs x).head? = some 45) := by
  have h := PySem.StrLaws.subAt_eq x ("-" : Str) 0
  unfold Txt.startswith
  rw [h]
  have e1 : ("-" : Str).cps.toList = [45] := by decide +kernel
  have e2 : ("-" : Str).length = 1 := by decide +kernel
  rw [e1, e2, List.drop_zero]
  have el : x.length = (cs x).length := Array.length_toList.symm
  rw [el]
  show (decide (0 + 1 ≤ (cs x).length) && ((cs x).take 1 == [45])) = _
  cases cs x with
  | nil => rfl
  | cons c r =>
    show (decide (0 + 1 ≤ r.length + 1) && ([c] == [45])) = decide (some c = some 45)
    rw [decide_eq_true (by omega), Bool.true_and]
    by_cases hc : c = 45
    · rw [hc]
      rfl
    · rw [decide_eq_false (fun z => hc (Option.some.inj z))]
      exact beq_eq_false_iff_ne.mpr (fun z => hc (List.head_eq_of_cons_eq z))
theorem cs_prefix (x : Str) : cs (Txt.removeprefix x "-") = if (cs x).head? = some 45 then (cs x).tail else cs x := by
  have h := starts_minus x
  unfold Txt.startswith at h
  rw [PySem.StrLaws.removeprefix_eq, h]
  have e2 : ("-" : Str).length = 1 := by decide +kernel
  by_cases hc : (cs x).head? = some 45
  · rw [if_pos hc, if_pos (decide_eq_true hc), e2]
    show (((cs x).drop 1).take (x.length - 1)).toArray.toList = _
    have el : x.length = (cs x).length := Array.length_toList.symm
    rw [List.toList_toArray, List.take_of_length_le (by rw [List.length_drop]; omega), List.drop_one]
  · rw [if_neg hc, if_neg (by rw [decide_eq_false hc]; decide)]
/-- a text's literal -/
def negB (x : Str) : Bool := decide ((cs x).head? = some 45)
def digS (x : Str) : List Nat := if (cs x).head? = some 45 then (cs x).tail else cs x
def litB (x : Str) : Bool := decide (digS x ≠ [48]) && isNum (digS x)
def litV (x : Str) : Int := if negB x = true then -((NumText.digitsVal (digS x) : Nat) : Int) else ((NumText.digitsVal (digS x) : Nat) : Int)
section
variable {P : Program} {w : World} {K : PySem.W.Frag} {mg : Str → Option Value} {base : Heap} {T : Addr}
def spNText : Sp := fun vs H Q _ => ∃ k : Nat, vs = [iV k] ∧ k < 1000000000 ∧ Q (.str (pS (iD k))) H
theorem ok_ntext {f : Addr} {fd : FuncData} {tk : Tok} (F : Fun K "number_text" "number_text" sNumberText f fd) (ms : mg "str" = none) (gA : mg "AT_ONCE" = some (.int 1000 tk)) : FnOk P w K mg base CX0 1 f fd ["worth"] spNText := by
  refine F.ok scNumberText (fun vs H Q E h => ?_) (fun cdv A outer s H vs Q E hr h => ?_)
  · obtain ⟨k, rfl, _⟩ := h
    rfl
  · obtain ⟨k, rfl, hk, q⟩ := h
    have nd := scNumberText.nd
    have hu := hr.units
    refine ⟨_, (pss_cons (ps_if (pt_cmpR op_lt (pe_bits (pv 0)) (pe_glob (v := .int 1000) (by rfl) gA ⟨_, rfl⟩) (nomark _)) (pss_one (ps_ret (pe_callTy call_str_int (by rfl) ms (by decide +kernel) (pa_cons (pv 0) pa_nil)))) pss_nil)
      pss_never), ?_⟩
    have hb : Builtin.Int.intBits ((k : Nat) : Int) ≤ 30 := intBits_le (by rw [Int.natAbs_natCast]; omega)
    refine ⟨_, rfl, _, rfl, _, _, rfl, rfl, _, rfl, iteT' (decide_eq_true (by omega)) ⟨_, rfl, _, rfl, ?_, q⟩⟩
    exact Pl.log (i := ((k : Nat) : Int)) (nat_part hk)
def litT (i : Int) : Str := if i < 0 then Str.ofString "-" ++ pS (.int (-i)) else pS (.int i)
def spLitText : Sp := fun vs H Q _ => ∃ i : Int, vs = [.int i] ∧ i.natAbs < 1000000000 ∧ Q (.str (litT i)) H
theorem ok_littext {f fT : Addr} {fd fdT : FuncData} (F : Fun K "literal_text" "literal_text" sLiteralText f fd)
    (GT : FnOk P w K mg base CX0 1 fT fdT ["worth"] spNText) (kT : PySem.W.keepIn K (.ref fT) = true) (bT : Binds K fdT ["worth"] []) (gT : mg "number_text" = some (.ref fT)) : FnOk P w K mg base CX0 2 f fd ["literal"] spLitText := by
  refine F.ok scLiteralText (fun vs H Q E h => ?_) (fun cdv A outer s H vs Q E hr h => ?_)
  · obtain ⟨i, rfl, _⟩ := h
    rfl
  · obtain ⟨i, rfl, hi, q⟩ := h
    have nd := scLiteralText.nd
    have hr1 : Room 1 _ := hr
    refine ⟨_, (pss_one (ps_ret (pe_ifExp (pt_cmpR op_lt (pv 0) (pe_int) (nomark _)) (pe_op op_add_str (pe_str) (pe_call GT hr1 (by rfl) gT kT bT .nil pass0 (pa_cons (pe_un un_neg (pv 0)) pa_nil))) (pe_call GT hr1 (by rfl) gT kT bT .nil pass0 (pa_cons (pv 0) pa_nil))))), ?_⟩
    refine ⟨_, rfl, _, _, rfl, rfl, _, rfl, ?_⟩
    unfold litT at q
    by_cases hn : i < 0
    · rw [if_pos hn] at q
      obtain ⟨k, hk⟩ : ∃ k : Nat, -i = (k : Int) := ⟨(-i).toNat, by omega⟩
      have hl := part_len (nat_part (n := k) (by omega))
      rw [hk] at q
      refine iteT' (decide_eq_true hn) ⟨_, rfl, _, rfl, k, ?_, by omega, _, _, rfl, rfl, ?_, q⟩
      · show [V.int (-i)] = [iV k]
        rw [hk]
      · have l1 : (Str.ofString "-").length = 1 := by decide +kernel
        rw [sizeLine_eq]
        show (Str.ofString "-").length + (pS (iD k)).length ≤ _
        omega
    · rw [if_neg hn] at q
      obtain ⟨k, rfl⟩ : ∃ k : Nat, i = (k : Int) := ⟨i.toNat, by omega⟩
      exact iteF' (decide_eq_false hn) ⟨_, rfl, k, rfl, by omega, q⟩
def spIsLit (T : Addr) : Sp := fun vs H Q _ => ∃ x : Str, vs = [.str x] ∧ x.cps.size ≤ 600 ∧ TabG H T ∧ ∀ H', Gr T H H' → Q (.bl (litB x)) H'
theorem ok_isLit {f fS : Addr} {fd fdS : FuncData} {tkE : Tok} (F : Fun K "is_literal" "is_literal" sIsLiteral f fd) (gE : mg "END" = some (.str (Str.ofString "0") tkE))
    (GS : FnOk P w K mg base CX0 1 fS fdS ["text"] (spNum T)) (kS : PySem.W.keepIn K (.ref fS) = true) (bS : Binds K fdS ["text"] []) (gS : mg "is_number" = some (.ref fS)) : FnOk P w K mg base CX0 2 f fd ["text"] (spIsLit T) := by
  refine F.ok scIsLiteral (fun vs H Q E h => ?_) (fun cdv A outer s H vs Q E hr h => ?_)
  · obtain ⟨x, rfl, _⟩ := h
    rfl
  · obtain ⟨x, rfl, hx, tb, q⟩ := h
    have nd := scIsLiteral.nd
    have hr1 : Room 1 _ := hr
    refine ⟨_, (pss_cons (ps_set (i := 1) nd rfl (.inl rfl) (pe_m1 PySem.F.slot_str_removeprefix PySem.F.type_str_removeprefix mt_removeprefix (pv 0) (pe_str)))
      (pss_one (ps_ret (pe_and (pe_cmpR op_ne (pv 1) (pe_glob (v := .str "0") (by rfl) gE ⟨_, rfl⟩) (nomark _)) (pe_one (pe_call GS hr1 (by rfl) gS kS bS .nil pass0 (pa_cons (pv 1) pa_nil))))))), ?_⟩
    have ed : cs (Txt.removeprefix x "-") = digS x := cs_prefix x
    have ld : (digS x).length ≤ 600 := by
      have el : (cs x).length = x.cps.size := Array.length_toList
      unfold digS
      split
      · rw [List.length_tail]
        omega
      · omega
    refine ⟨_, rfl, ⟨x, rfl⟩, x, "-", rfl, rfl, by rw [sizeLine_eq]; show x.cps.size ≤ _; omega, ?_⟩
    refine ⟨_, rfl, rfl, _, rfl, ?_⟩
    have e0 : Txt.removeprefix x "-" = Str.ofString "0" ↔ digS x = [48] := by
      rw [← ed]
      refine ⟨fun h => by rw [h]; decide +kernel, fun z => TL.ext_tl ?_⟩
      show cs (Txt.removeprefix x "-") = (Str.ofString "0").cps.toList
      rw [z]
      decide +kernel
    by_cases h : Txt.removeprefix x "-" = Str.ofString "0"
    · refine iteF' (by rw [decide_eq_true (by rw [h])]; rfl) ?_
      have eb : litB x = false := by
        unfold litB
        rw [decide_eq_false (fun z => z (e0.mp h))]
        rfl
      have := q H (Gr.refl tb)
      rw [eb] at this
      exact this
    · refine iteT' (by rw [decide_eq_false (fun z => h (V.str.inj z))]; rfl) ?_
      refine ⟨_, rfl, cs (Txt.removeprefix x "-"), by rw [S_tl]; rfl, by rw [ed, sizeLine_eq]; omega, tb, fun H' g => ?_⟩
      have eb : litB x = isNum (cs (Txt.removeprefix x "-")) := by
        unfold litB
        rw [ed, decide_eq_true (show digS x ≠ [48] from fun z => h (e0.mpr z)), Bool.true_and]
      have := q H' g
      rw [eb] at this
      exact this
theorem cs_from (z : Str) (k : Nat) : cs (cutS z (some ((k : Nat) : Int)) none) = (cs z).drop k := by
  show ((((z.cps.toList.drop (HT.sIx z.length 0 (some ((k : Nat) : Int)))).take (HT.sIx z.length z.length none - HT.sIx z.length 0 (some ((k : Nat) : Int)))).toArray).toList) = z.cps.toList.drop k
  rw [HT.sIx_none, HT.sIx_nat, List.toList_toArray]
  have : z.cps.toList.length = z.length := Array.length_toList
  rw [List.take_of_length_le (by rw [List.length_drop]; omega)]
  by_cases h : k ≤ z.length
  · rw [Nat.min_eq_left h]
  · rw [Nat.min_eq_right (by omega), List.drop_of_length_le (by omega), List.drop_of_length_le (by omega)]
def spLitOf : Sp := fun vs H Q _ => ∃ x : Str, vs = [.str x] ∧ litB x = true ∧ x.cps.size ≤ 600 ∧ Q (.int (litV x)) H
theorem ok_litOf {f fF : Addr} {fd fdF : FuncData} (F : Fun K "literal_of" "literal_of" sLiteralOf f fd)
    (GF : FnOk P w K mg base CX0 2 fF fdF ["text"] spNof) (kF : PySem.W.keepIn K (.ref fF) = true) (bF : Binds K fdF ["text"] []) (gF : mg "number_of" = some (.ref fF)) : FnOk P w K mg base CX0 3 f fd ["text"] spLitOf := by
  refine F.ok scLiteralOf (fun vs H Q E h => ?_) (fun cdv A outer s H vs Q E hr h => ?_)
  · obtain ⟨x, rfl, _⟩ := h
    rfl
  · obtain ⟨x, rfl, hb, hx, q⟩ := h
    have nd := scLiteralOf.nd
    have hr2 : Room 2 _ := hr
    refine ⟨_, (pss_one (ps_ret (pe_ifExp (pt_val (pe_m1 PySem.F.slot_str_startswith PySem.F.type_str_startswith mt_startswith (pv 0) (pe_str))) (pe_un un_neg (pe_call GF hr2 (by rfl) gF kF bF .nil pass0 (pa_cons (pe_slice sl_str (pv 0) (po_some (pe_int)) po_none) pa_nil))) (pe_call GF hr2 (by rfl) gF kF bF .nil pass0 (pa_cons (pv 0) pa_nil))))), ?_⟩
    have hnum : isNum (digS x) = true := by
      unfold litB at hb
      exact (Bool.and_eq_true_iff.mp hb).2
    refine ⟨_, rfl, ⟨x, rfl⟩, x, "-", rfl, rfl, _, rfl, ?_⟩
    rw [starts_minus]
    unfold litV negB at q
    by_cases h : (cs x).head? = some 45
    · rw [if_pos (decide_eq_true h)] at q
      have ed : cs (cutS x (some ((1 : Nat) : Int)) none) = digS x := by
        rw [cs_from]
        unfold digS
        rw [if_pos h, List.drop_one]
      have hl := cutS_length x (some ((1 : Nat) : Int)) none
      have hl2 : (cutS x (some ((1 : Nat) : Int)) none).length ≤ 600 := Nat.le_trans hl hx
      refine iteT' (decide_eq_true h) ⟨_, rfl, _, rfl, x, rfl, by rw [sizeLine_eq]; show x.cps.size ≤ _; omega, cutS x (some ((1 : Nat) : Int)) none, rfl, ?_, hl2, _, rfl, ?_⟩
      · unfold numB
        rw [ed]
        exact hnum
      · unfold numV
        rw [ed]
        exact q
    · rw [if_neg (by rw [decide_eq_false h]; decide)] at q
      have ed : cs x = digS x := by
        unfold digS
        rw [if_neg h]
      refine iteF' (decide_eq_false h) ⟨_, rfl, x, rfl, ?_, hx, ?_⟩
      · unfold numB
        rw [ed]
        exact hnum
      · unfold numV
        rw [ed]
        exact q
end
end C1

/-! *a, b = a list. -/
namespace StR
open PySem PySem.Spec PyProof.Rows L2
section
variable {prog : Program} {w : World} {A : Around}
variable {E : Value → Shared → Prop} {s : Shared}
theorem unpack_starM {la : Addr} {vals : Array Value} {k m : Nat} {Q : List Value → Shared → Prop} (hh : A.handled = none) (isl : s.heap.IsList la vals) (hm : k + m ≤ vals.size) (hz : vals.size ≤ sizeLine)
    (hQ : ∀ (hp : Heap) (tk : Nat), (∀ b o, s.heap.get? b = some o → hp.get? b = some o) → s.toks ≤ tk →
      Q (vals.toList.take k ++ [.ref hp.objs.size] ++ (vals.toList.drop k).drop ((vals.toList.drop k).length - m)) { s with heap := hp.push { cls := .type "list", data := .seq ((vals.toList.drop k).take ((vals.toList.drop k).length - m)).toArray }, toks := tk }) :
    wpAny (model prog w) A (unpackItems (.ref la) (k + 1 + m) (some k)) Q E s := by
  have hk : k ≤ vals.size := by omega
  have hlt : la ≠ s.heap.objs.size := by
    obtain ⟨o, there, _⟩ := isl
    exact Nat.ne_of_lt (Heap.lt_size there)
  unfold unpackItems
  refine wpAny_bind ?_
  unfold notIterableAtAll
  refine wpAny_bind (wpAny_specialOf isl.typeIs slot_list_iter.lookup ?_)
  refine wpAny_pure ?_
  simp only [if_false, Bool.false_eq_true]
  refine wpAny_bind (wpAny_holding (wpAny_pyIter_list isl ?_))
  refine wpAny_bind (wpAny_holding (PySem.W.kun_draw hlt k 0 _ _ ⟨_, Heap.get?_push_size _ rfl, rfl, rfl⟩ (isl.push _) (by omega) fun h1 it1 sb1 => ?_))
  have l1 : h1.IsList la vals := (isl.push _).extBut sb1.extBut hlt
  have up1 : ∀ b o, s.heap.get? b = some o → h1.get? b = some o := fun b o e => sb1.extBut b o (Nat.ne_of_lt (Heap.lt_size e)) (Heap.get?_push_of_some _ e)
  have lt1 : (vals.toList.take k).length = k := by
    rw [List.length_take, Array.length_toList]
    omega
  rw [List.drop_zero, lt1, if_neg (Nat.lt_irrefl k)]
  have it1' : h1.IsListIter s.heap.objs.size la k := by
    have h := it1
    rw [Nat.zero_add] at h
    exact h
  refine wpAny_bind (wpAny_holding (wpAny_collect_iter (.inr (.inr (.inl rfl))) (walks_from (A := A.in1) hh s.heap.objs.size la hlt vals k hk).toS (fun i s2 q => ?_) ⟨it1', l1⟩ (fun b mb => ?_) (List.mem_cons_self ..) (fun s2 acc mv ac => ?_) (by omega)))
  · obtain ⟨⟨o, e, c, _⟩, _⟩ := q
    exact ⟨o, e, c⟩
  · rcases List.mem_cons.mp mb with rfl | mb
    · obtain ⟨o, e, _⟩ := it1'
      exact Heap.lt_size e
    · rw [List.mem_singleton.mp mb]
      obtain ⟨o, e, _⟩ := l1
      exact Heap.lt_size e
  · have ea := items_drop hk ac
    rw [ea]
    obtain ⟨hp2, gs2, dd2, tk2, os2⟩ := s2
    obtain ⟨m1, m2, m3, m4, m5⟩ := mv
    dsimp only at m1 m2 m3 m4 m5
    subst m2 m3 m4
    have e0 : k + 1 + m - 1 - k = m := by omega
    rw [e0]
    have ld : (vals.toList.drop k).length = vals.size - k := by rw [List.length_drop, Array.length_toList]
    rw [if_neg (by rw [ld]; omega)]
    refine wpAny_bind (wpAny_newList (wpAny_pure ?_) ?_)
    · exact hQ hp2 tk2 (fun b o e => m1 b o (by rw [List.mem_singleton]; exact Nat.ne_of_lt (Heap.lt_size e)) (up1 b o e)) m5
    · rw [List.length_take, List.length_drop, Array.length_toList]
      omega
end
/-- a starred name, then m names, = a list -/
def gStarF (K : PySem.W.Frag) (m : Nat) (t : TGs) : TG := fun v σ H Q => ∃ a xs, v = .ref a ∧ SqL K H a xs ∧ m ≤ xs.length ∧ ∀ p, H p = none → t (.ref p :: xs.drop (xs.length - m)) σ (upd H p (.lst (xs.take (xs.length - m)))) Q
section
variable {X : Cx} {pos : Pos}
theorem pgs_first {e : Expr} {es : List Expr} {np : Pos} {t : TG} {u : TGs} (h1 : PG X e t) (h2 : PGs X es u) : PGs X (.Starred e np :: es) (gCons t u) := by
  refine ⟨fun pins t0 σ H vs us Q I rel q => ?_⟩
  obtain ⟨v, vr, e1, q⟩ := q
  subst e1
  cases rel with
  | cons r0 rr =>
    show wpAny _ _ (assignInOrder (assign e X.env :: (assignEach es X.env).map (·.2)) _) _ _ _
    refine assignInOrder_cons (thn (h1.run pins t0 σ H _ _ _ I r0 q) fun _ t1 ⟨σ1, H1, I1, q1⟩ => ?_)
    exact h2.run pins t1 σ1 H1 _ _ Q I1 rr q1
theorem pg_starF {es : List Expr} {k : Nat} {t : TGs} {m : Nat} (hc : X.calm = true) (h : PGs X es t)
    (hn : (assignEach es X.env).length = 0 + 1 + m := by rfl) (hst : (assignEach es X.env).findIdx? (·.1) = some 0 := by rfl) : PG X (.Tuple es k pos) (gStarF X.K m t) := by
  refine ⟨fun pins s σ H v u Q I rel q => ?_⟩
  obtain ⟨a, xs, e1, sq, isl, q⟩ := q
  subst e1
  cases rel
  obtain ⟨its, rv, pl, hz⟩ := I.list sq
  have hlen : its.length = xs.length := rv.length.symm
  rw [PyProof.Rows.assign_Tuple]
  refine wpAny_bind (wpAny_standAt ?_)
  unfold unpack
  rw [hn, hst]
  refine wpAny_bind (wpAny_holding (unpack_starM (I.ok.hd hc) pl.isList (by rw [List.size_toArray, hlen]; omega) (by rw [List.size_toArray, hlen]; exact hz) fun hp tk up ht => ?_))
  have I1 : Inv X pins σ H { s with heap := hp, toks := tk } := I.kept fun b o e => up b o e
  have hf : H hp.objs.size = none := I1.hok.fresh (Nat.le_refl _)
  have ei : its.toArray.toList = its := rfl
  rw [ei, List.drop_zero, List.take_zero, List.nil_append, hlen]
  have I2 : Inv X pins σ (upd H hp.objs.size (.lst (xs.take (xs.length - m)))) { s with heap := hp.push { cls := .type "list", data := .seq (its.take (xs.length - m)).toArray }, toks := tk } := by
    refine I1.laid (t' := tk) (fun b u e => Heap.get?_push_of_some _ e) (Nat.le_refl _) ?_
    exact ⟨by rw [List.length_take]; omega, its.take (xs.length - m), 0, Vals.take (xs.length - m) rv, Heap.get?_push_size _ rfl⟩
  refine h.run pins _ σ _ (.ref hp.objs.size :: xs.drop (xs.length - m)) _ Q I2 ?_ (q _ hf)
  exact .cons rfl (Vals.drop _ rv)
end
end StR

/-! A clause's line, read by the program. -/
namespace C1
open PySem PySem.Spec PyProof.Rows L2 SX
open K0 (Cs digs isNum)
open GxR (TabG Tabbed TabB GenS)
abbrev sClauseOf : Stmt := topS 23
theorem scClauseOf : FnScope ["line", "end", "parts", "part"] ["line"] (defScope sClauseOf) := ⟨rfl, rfl, rfl, by decide +kernel, rfl, by decide +kernel, by decide +kernel⟩
abbrev NCO : List Str := ["line", "end", "parts", "part"]
def clN (x : Str) : Option (List Int) := if (spS x).getLast? = some (Str.ofString "0") ∧ (spS x).dropLast.all litB = true then some ((spS x).dropLast.map litV) else none
section
variable {P : Program} {w : World} {K : PySem.W.Frag} {mg : Str → Option Value} {base : Heap} {T : Addr}
def spClause (K : PySem.W.Frag) (T : Addr) : Sp := fun vs H Q _ => ∃ x : Str, vs = [.str x] ∧ LnB 600 x ∧ TabG H T ∧
  (∀ H', Gr T H H' → clN x = none → Q .non H') ∧ ∀ H' t ns, Gr T H H' → clN x = some ns → SqT K H' t (ns.map V.int) → Q (.ref t) H'
theorem ok_clause {f fS fF : Addr} {fd fdS fdF : FuncData} {tkE : Tok} (F : Fun K "clause_of" "clause_of" sClauseOf f fd) (B : BT mg) (gE : mg "END" = some (.str (Str.ofString "0") tkE))
    (GS : FnOk P w K mg base CX0 2 fS fdS ["text"] (spIsLit T)) (kS : PySem.W.keepIn K (.ref fS) = true) (bS : Binds K fdS ["text"] []) (gS : mg "is_literal" = some (.ref fS))
    (GF : FnOk P w K mg base CX0 3 fF fdF ["text"] spLitOf) (kF : PySem.W.keepIn K (.ref fF) = true) (bF : Binds K fdF ["text"] []) (gF : mg "literal_of" = some (.ref fF)) :
    FnOk P w K mg base CX0 4 f fd ["line"] (spClause K T) := by
  refine F.ok scClauseOf (fun vs H Q E h => ?_) (fun cdv A outer s H vs Q E hr h => ?_)
  · obtain ⟨x, rfl, _⟩ := h
    rfl
  · obtain ⟨x, rfl, hx, tb, qn, qs⟩ := h
    have nd := scClauseOf.nd
    have hr3 : Room 3 _ := hr
    have hr2 : Room 2 _ := hr.mono (by decide)
    refine ⟨_, (pss_cons (ps_asg (pe_split (pv 0) (pe_str)) (StR.pg_starF (m := 1) rfl (StR.pgs_first (pg_name (i := 2) nd rfl (.inl rfl)) (pgs_cons (pg_name (i := 1) nd rfl (.inl rfl)) pgs_nil))))
      (C8.pss_cut (ps_if (PW.pt (pw_or (pt_cmpR op_ne (pv 1) (pe_glob (v := .str "0") (by rfl) gE ⟨_, rfl⟩) (nomark _)) (pw_or1 (pt_not (pt_val (pe_callB (cr_all rfl) (by rfl) B.all (by decide +kernel) (pa_cons (pe_lc (own := [("part", 3)]) (g := gName 3) (tt := tYes) (te := tCall (spIsLit T) [] E0 (tCons (tVar 3) tNil))  rfl nd (pi_list (pv 2)) (blkOk_by (own := [("part", 3)]) (N := NCO) (sc := defScope sClauseOf) (by decide +kernel)) (fun _ _ _ _ _ => pg_name (i := 3) nd rfl (.inl rfl)) (fun _ _ _ _ _ => pts_nil) (fun _ _ _ _ _ => by exact (pe_call GS hr2 (by rfl) gS kS bS .nil pass0 (pa_cons (pv 3) pa_nil)))) pa_nil))))))) (pss_one (ps_ret (pe_non))) pss_nil)
      (pss_one (ps_ret (pe_callTy call_tuple_of (by rfl) B.tuple (by decide +kernel) (pa_cons (pe_lc (own := [("part", 3)]) (g := gName 3) (tt := tYes) (te := tCall spLitOf [] E0 (tCons (tVar 3) tNil))  rfl nd (pi_list (pv 2)) (blkOk_by (own := [("part", 3)]) (N := NCO) (sc := defScope sClauseOf) (by decide +kernel)) (fun _ _ _ _ _ => pg_name (i := 3) nd rfl (.inl rfl)) (fun _ _ _ _ _ => pts_nil) (fun _ _ _ _ _ => by exact (pe_call GF hr3 (by rfl) gF kF bF .nil pass0 (pa_cons (pv 3) pa_nil)))) pa_nil)))))), ?_⟩
    obtain ⟨hl, hp⟩ := hx.parts2 (Nat.le_refl _)
    obtain ⟨xs, lt, esp⟩ : ∃ xs lt, spS x = xs ++ [lt] := ⟨_, _, (List.dropLast_concat_getLast (spS_ne x)).symm⟩
    have eln : clN x = if lt = Str.ofString "0" ∧ xs.all litB = true then some (xs.map litV) else none := by
      unfold clN
      rw [esp, List.getLast?_concat, List.dropLast_concat]
      by_cases h : lt = Str.ofString "0"
      · rw [h]
        simp
      · rw [if_neg (fun z => h (Option.some.inj z.1)), if_neg (fun z => h z.1)]
    rw [esp] at hl hp
    have hlx : xs.length ≤ 600 := by
      have : (xs ++ [lt]).length = xs.length + 1 := List.length_append
      omega
    have hpx : ∀ z ∈ xs, LnB 600 z := fun z hz => hp z (List.mem_append_left _ hz)
    refine ⟨_, rfl, ⟨x, rfl⟩, x, Str.ofString " ", rfl, rfl, rfl, (by show x.cps.size + 2 ≤ sizeLine; have := hx.sz; rw [sizeLine_eq]; omega), fun pr npr => ?_⟩
    have gP : Gr T H (upd H pr (.lst ((Txt.split x (Str.ofString " ")).map V.str))) := Gr.laid tb npr
    have eP : (upd H pr (.lst ((Txt.split x (Str.ofString " ")).map V.str))) pr = some (.lst ((xs ++ [lt]).map V.str)) := upd_same.trans (congrArg (fun l => some (HO.lst (List.map V.str l))) esp)
    generalize upd H pr (.lst ((Txt.split x (Str.ofString " ")).map V.str)) = H1 at gP eP
    have el : ((xs ++ [lt]).map V.str).length - 1 = xs.length := by
      rw [List.length_map, List.length_append]
      exact Nat.add_sub_cancel ..
    have e1 : ((xs ++ [lt]).map V.str).take (((xs ++ [lt]).map V.str).length - 1) = xs.map V.str := by
      rw [el, List.map_append, List.take_left' (List.length_map _)]
    have e2 : ((xs ++ [lt]).map V.str).drop (((xs ++ [lt]).map V.str).length - 1) = [V.str lt] := by
      rw [el, List.map_append, List.drop_left' (List.length_map _)]
      rfl
    refine ⟨pr, _, rfl, SqL.of eP, by rw [List.length_map, List.length_append]; exact Nat.le_add_left .., fun p np => ?_⟩
    rw [e1, e2]
    have g1 := gP.trans (Gr.laid gP.tab np (o := .lst (xs.map V.str)))
    have ep : (upd H1 p (.lst (xs.map V.str))) p = some (.lst (xs.map V.str)) := upd_same
    generalize upd H1 p (.lst (xs.map V.str)) = H2 at g1 ep
    refine ⟨_, _, rfl, _, _, rfl, rfl, ?_⟩
    have tb2 := g1.tab
    refine ⟨fun σ H' => σ = [some (.str x), some (.str lt), some (.ref p), none] ∧ Gr T H2 H' ∧ lt = Str.ofString "0" ∧ xs.all litB = true, ?_, ?_⟩
    · refine ⟨_, rfl, rfl, _, rfl, ?_⟩
      by_cases hw : lt = Str.ofString "0"
      · refine iteF' (by rw [decide_eq_true (by rw [hw])]; rfl) ?_
        refine ⟨_, rfl, p, rfl, ⟨_, SqL.of ep⟩, fun D nD => ?_⟩
        refine lc_list (xs := xs.map V.str) (fun i H3 => Gr T H2 H3 ∧ H3 D = some (.lst (((xs.take i).map litB).map V.bl))) ⟨Gr.laid tb2 nD, upd_same⟩ (fun i H3 _ h => h.1.seqL tb2 (SqL.of ep)) (fun i v H3 hv h => ?_) (fun H3 h => ?_)
        · obtain ⟨g, e⟩ := h
          obtain ⟨z, ez, rfl⟩ := str_at hv
          have hil : i < xs.length := (List.getElem?_eq_some_iff.mp ez).1
          refine ⟨rfl, _, rfl, z, rfl, (hpx z (List.mem_of_getElem? ez)).sz, g.tab, fun H4 g4 => ?_⟩
          have e4 := g4.at g.tab e (fun ps z => by cases z)
          refine ⟨_, e4, ?_, ?_, ?_⟩
          · rw [List.length_map, List.length_map, List.length_take]
            exact lineS200 (by omega)
          · have nDT := tab_ne tb2 nD
            refine ⟨?_, fun b o hb he => ?_⟩
            · obtain ⟨ps, ep, r⟩ := (g.trans g4).tab
              exact ⟨ps, by rw [upd_ne nDT.symm]; exact ep, r⟩
            · rw [upd_ne (ne_of_none he nD)]
              exact (g.trans g4).old b o hb he
          · rw [upd_same, take_snoc ez, List.map_append, List.map_append]
            rfl
        · obtain ⟨g, e⟩ := h
          rw [List.length_map, List.take_length] at e
          refine ⟨D, _, rfl, SqL.of e, _, rfl, ?_⟩
          have ea : (xs.map litB).all id = xs.all litB := by
            rw [List.all_map]
            rfl
          rw [ea]
          cases ha : xs.all litB with
          | false => exact iteT (qn H3 (g1.trans g) (by rw [eln, if_neg (fun z => by rw [ha] at z; cases z.2)]))
          | true => exact iteF ⟨rfl, g, hw, rfl⟩
      · exact iteT' (by rw [decide_eq_false (fun z => hw (V.str.inj z))]; rfl) (qn H2 g1 (by rw [eln, if_neg (fun z => hw z.1)]))
    rintro σ H3 ⟨rfl, g3, hw, ha⟩
    have hall := List.all_eq_true.mp ha
    have g13 := g1.trans g3
    have ep3 := g3.at tb2 ep (fun ps z => by cases z)
    refine ⟨_, rfl, p, rfl, ⟨_, SqL.of ep3⟩, fun D2 nD2 => ?_⟩
    refine lc_list (xs := xs.map V.str) (fun i H4 => H4 = upd H3 D2 (.lst (((xs.take i).map litV).map V.int))) rfl (fun i H4 _ h => ?_) (fun i v H4 hv h => ?_) (fun H4 h => ?_)
    · subst h
      exact (Gr.laid g3.tab nD2).seqL g3.tab (SqL.of ep3)
    · subst h
      obtain ⟨z, ez, rfl⟩ := str_at hv
      have hil : i < xs.length := (List.getElem?_eq_some_iff.mp ez).1
      have mz := List.mem_of_getElem? ez
      refine ⟨rfl, _, rfl, z, rfl, hall z mz, (hpx z mz).sz, _, upd_same, ?_, ?_⟩
      · rw [List.length_map, List.length_map, List.length_take]
        exact lineS200 (by omega)
      · rw [upd_upd, take_snoc ez, List.map_append, List.map_append]
        rfl
    · subst h
      rw [List.length_map, List.take_length]
      refine ⟨D2, _, rfl, .inl ⟨SqL.of upd_same, fun t nt => ?_⟩⟩
      have g4 := g13.trans ((Gr.laid g3.tab nD2).trans (Gr.laid (o := .tup ((xs.map litV).map V.int)) (Gr.laid (o := .lst ((xs.map litV).map V.int)) g3.tab nD2).tab nt))
      exact qs _ t (xs.map litV) g4 (by rw [eln, if_pos ⟨hw, ha⟩]) (SqT.of upd_same)
end
end C1

/-! A clause's line, written by the program. -/
namespace C1
open PySem PySem.Spec PyProof.Rows L2 SX
open K0 (Cs digs isNum)
open GxR (TabG Tabbed TabB GenS)
abbrev sClauseLine : Stmt := topS 21
abbrev NCL : List Str := ["clause", "literal"]
theorem scClauseLine : FnScope NCL ["clause"] (defScope sClauseLine) := ⟨rfl, rfl, rfl, by decide +kernel, rfl, by decide +kernel, by decide +kernel⟩
def clT (ls : List Int) : Str := Txt.join spB (ls.map litT ++ [Str.ofString "0"])
theorem litT_len {i : Int} (h : i.natAbs < 1000000000) : (litT i).length ≤ 10 := by
  unfold litT
  split
  · obtain ⟨k, hk⟩ : ∃ k : Nat, -i = (k : Int) := ⟨(-i).toNat, by omega⟩
    have hl := part_len (nat_part (n := k) (by omega))
    have l1 : (Str.ofString "-").length = 1 := by decide +kernel
    rw [hk, app_len, l1]
    show 1 + (pS (iD k)).length ≤ 10
    omega
  · obtain ⟨k, rfl⟩ : ∃ k : Nat, i = (k : Int) := ⟨i.toNat, by omega⟩
    have hl := part_len (nat_part (n := k) (by omega))
    show (pS (iD k)).length ≤ 10
    omega
section
variable {P : Program} {w : World} {K : PySem.W.Frag} {mg : Str → Option Value} {base : Heap} {T : Addr}
def spCLine (K : PySem.W.Frag) : Sp := fun vs H Q _ => ∃ (a : Addr) (ls : List Int), vs = [.ref a] ∧ SqT K H a (ls.map V.int) ∧ ls.length ≤ 100 ∧ (∀ i ∈ ls, i.natAbs < 1000000000) ∧ ∀ H', Same H H' → Q (.str (clT ls)) H'
theorem ok_cline {f fT : Addr} {fd fdT : FuncData} {tkE : Tok} (F : Fun K "clause_line" "clause_line" sClauseLine f fd) (gE : mg "END" = some (.str (Str.ofString "0") tkE))
    (GT : FnOk P w K mg base CX0 2 fT fdT ["literal"] spLitText) (kT : PySem.W.keepIn K (.ref fT) = true) (bT : Binds K fdT ["literal"] []) (gT : mg "literal_text" = some (.ref fT)) : FnOk P w K mg base CX0 3 f fd ["clause"] (spCLine K) := by
  refine F.ok scClauseLine (fun vs H Q E h => ?_) (fun cdv A outer s H vs Q E hr h => ?_)
  · obtain ⟨a, ls, rfl, _⟩ := h
    rfl
  · obtain ⟨a, ls, rfl, sq, hl, hb, q⟩ := h
    have nd := scClauseLine.nd
    have hr2 : Room 2 _ := hr
    refine ⟨_, (pss_one (ps_ret (pe_join (pe_str) (pe_lst (StX.pa_star (pe_lc (own := [("literal", 1)]) (g := gName 1) (tt := tYes) (te := tCall spLitText [] E0 (tCons (tVar 1) tNil)) rfl nd (pi_tup (pv 0)) (blkOk_by (own := [("literal", 1)]) (N := NCL) (sc := defScope sClauseLine) (by decide +kernel)) (fun _ _ _ _ _ => pg_name (i := 1) nd rfl (.inl rfl)) (fun _ _ _ _ _ => pts_nil) (fun _ _ _ _ _ => by exact (pe_call GT hr2 (by rfl) gT kT bT .nil pass0 (pa_cons (pv 1) pa_nil)))) (pa_cons (pe_glob (v := .str "0") (by rfl) gE ⟨_, rfl⟩) pa_nil)))))), ?_⟩
    refine ⟨⟨_, rfl⟩, _, rfl, a, rfl, ⟨_, sq⟩, fun D nD => ?_⟩
    refine lc_tupD (xs := ls.map V.int) ((ls.map litT).map .str) (noLs_strs _) (by rw [List.length_map, List.length_map, List.length_map]) (by rw [List.length_map]; omega) sq nD (fun i x d H2 Q2 hxi hdi sm q2 => ?_) (fun H2 acc sm e dp => ?_)
    · rw [List.getElem?_map, List.getElem?_map] at hdi
      rw [List.getElem?_map] at hxi
      obtain ⟨z, ez, rfl⟩ := Option.map_eq_some_iff.mp hxi
      rw [ez] at hdi
      cases hdi
      exact ⟨rfl, _, rfl, z, rfl, hb z (List.mem_of_getElem? ez), q2 _ _ (Same.refl _) (.str _)⟩
    · have ea := strs_dps dp
      subst ea
      refine ⟨D, _, rfl, .inr (SqL.of e), line200 (by rw [List.length_append, List.length_map, List.length_map]; show _ + 1 ≤ 1000; omega), fun p np => ?_⟩
      refine ⟨Str.ofString " ", p, ls.map litT ++ [Str.ofString "0"], rfl, rfl, .inl (SqL.of (by rw [upd_same, List.map_append]; rfl)), ?_, q _ (sm.trans (Same.up np))⟩
      have h1 := len_sum (xs := ls.map litT ++ [Str.ofString "0"]) (b := 10) fun y hy => by
        rcases List.mem_append.mp hy with z | z
        · obtain ⟨i, hi, rfl⟩ := List.mem_map.mp z
          exact litT_len (hb i hi)
        · rw [List.mem_singleton.mp z]
          decide +kernel
      have h0 : (Str.ofString " ").length = 1 := by decide +kernel
      have h2 : (ls.map litT ++ [Str.ofString "0"]).length = ls.length + 1 := by
        rw [List.length_append, List.length_map]
        rfl
      rw [h2] at h1 ⊢
      rw [h0]
      omega
end
end C1

/-! The head of clauses, read by the program. -/
namespace C1
open PySem PySem.Spec PyProof.Rows L2 SX
open K0 (Cs digs isNum)
open GxR (TabG Tabbed TabB GenS)
abbrev sHeadNumbers : Stmt := topS 20
theorem scHeadNumbers : FnScope ["line", "parts", "part"] ["line"] (defScope sHeadNumbers) := ⟨rfl, rfl, rfl, by decide +kernel, rfl, by decide +kernel, by decide +kernel⟩
abbrev NHN : List Str := ["line", "parts", "part"]
def headN (x : Str) : Option (List Nat) := if (spS x).length = 4 ∧ Txt.join spB ((spS x).take 2) = Str.ofString "p cnf" ∧ ((spS x).drop 2).all numB = true then some (((spS x).drop 2).map numV) else none
theorem cut_to (xs : List V) (k : Nat) : cutV xs none (some ((k : Nat) : Int)) = xs.take k := by
  unfold cutV
  rw [HT.sIx_none, HT.sIx_nat, Nat.sub_zero, List.drop_zero]
  by_cases h : k ≤ xs.length
  · rw [Nat.min_eq_left h]
  · rw [Nat.min_eq_right (by omega), List.take_length, List.take_of_length_le (by omega)]
theorem cut_hi (xs : List V) (k : Nat) : cutV xs (some ((k : Nat) : Int)) none = xs.drop k := by
  unfold cutV
  rw [HT.sIx_none, HT.sIx_nat]
  by_cases h : k ≤ xs.length
  · rw [Nat.min_eq_left h]
    exact List.take_of_length_le (by rw [List.length_drop]; omega)
  · rw [Nat.min_eq_right (by omega), List.drop_length, List.take_nil, List.drop_of_length_le (by omega)]
theorem grS {H1 H2 : Hp} {T : Addr} (tb : TabG H1 T) (s : Same H1 H2) : Gr T H1 H2 := by
  obtain ⟨ps, e, r⟩ := tb
  exact ⟨⟨ps, s _ _ e, r⟩, fun b o _ e => s b o e⟩
section
variable {P : Program} {w : World} {K : PySem.W.Frag} {mg : Str → Option Value} {base : Heap} {T : Addr}
def spHead (K : PySem.W.Frag) (T C : Addr) : Sp := fun vs H Q E => ∃ x : Str, vs = [.str x] ∧ LnB 600 x ∧ TabG H T ∧
  (∀ H' p ns, Gr T H H' → headN x = some ns → H p = none → H' p = some (.lst (ns.map iV)) → Q (.ref p) H') ∧
  (headN x = none → ∀ H' d, Gr T H H' → H' d = some (.xd (fsL 1)) → E (.ref C) (some d) H')
theorem ok_head {f fS fF fI C : Addr} {fd fdS fdF fdI : FuncData} {tkH : Tok} (F : Fun K "head_numbers" "head_numbers" sHeadNumbers f fd) (B : BT mg) (gH : mg "HEAD" = some (.str (Str.ofString "p cnf") tkH))
    (GS : FnOk P w K mg base CX0 1 fS fdS ["text"] (spNum T)) (kS : PySem.W.keepIn K (.ref fS) = true) (bS : Binds K fdS ["text"] []) (gS : mg "is_number" = some (.ref fS))
    (GF : FnOk P w K mg base CX0 2 fF fdF ["text"] spNof) (kF : PySem.W.keepIn K (.ref fF) = true) (bF : Binds K fdF ["text"] []) (gF : mg "number_of" = some (.ref fF))
    (R : ErrB K mg C fI) (tI : PySem.W.typeIn K (.ref fI) = some (.type "function")) (GI : FnOk P w K mg base CX0 1 fI fdI ["self", "line"] (spInitB K)) (bI : Binds K fdI ["self", "line"] []) :
    FnOk P w K mg base (L2.CX P w) 3 f fd ["line"] (spHead K T C) := by
  refine F.okX scHeadNumbers (fun vs H Q E h => ?_) (fun cdv A outer s H vs Q E hr h => ?_)
  · obtain ⟨x, rfl, _⟩ := h
    rfl
  · obtain ⟨x, rfl, hx, tb, qs, qe⟩ := h
    have nd := scHeadNumbers.nd
    have hr2 : Room 2 _ := hr
    have hr1 : Room 1 _ := hr.mono (by decide)
    have hrI : Room 2 _ := hr2
    refine ⟨_, (pss_cons (ps_set (i := 1) nd rfl (.inl rfl) (pe_split (pv 0) (pe_str)))
      (C8.pss_cut (ps_if (PW.pt (pw_or (pt_cmpR op_ne (pe_callB call_len_seq (by rfl) B.len PySem.boot_len (pa_cons (pv 1) pa_nil)) (pe_int) (nomark _)) (pw_or (pt_cmpR op_ne (pe_join (pe_str) (pe_slice sl_list (pv 1) po_none (po_some (pe_int)))) (pe_glob (v := .str "p cnf") (by rfl) gH ⟨_, rfl⟩) (nomark _)) (pw_or1 (pt_not (pt_val (pe_callB (cr_all rfl) (by rfl) B.all (by decide +kernel) (pa_cons (pe_lc (own := [("part", 2)]) (g := gName 2) (tt := tYes) (te := tCall (spNum T) [] E0 (tCons (tVar 2) tNil))  rfl nd (pi_list (pe_slice sl_list (pv 1) (po_some (pe_int)) po_none)) (blkOk_by (own := [("part", 2)]) (N := NHN) (sc := defScope sHeadNumbers) (by decide +kernel)) (fun _ _ _ _ _ => pg_name (i := 2) nd rfl (.inl rfl)) (fun _ _ _ _ _ => pts_nil) (fun _ _ _ _ _ => by exact (pe_call GS hr1 (by rfl) gS kS bS .nil pass0 (pa_cons (pv 2) pa_nil)))) pa_nil)))))))) (pss_one (ps_raise rfl (takes_of rfl rfl rfl rfl) (pmk_oex R.o R.iC tI GI hrI bI .nil pass0 (by rfl) R.g (pa_cons (pe_int) pa_nil)))) pss_nil)
      (pss_one (ps_ret (pe_lc (own := [("part", 2)]) (g := gName 2) (tt := tYes) (te := tCall spNof [] E0 (tCons (tVar 2) tNil))  rfl nd (pi_list (pe_slice sl_list (pv 1) (po_some (pe_int)) po_none)) (blkOk_by (own := [("part", 2)]) (N := NHN) (sc := defScope sHeadNumbers) (by decide +kernel)) (fun _ _ _ _ _ => pg_name (i := 2) nd rfl (.inl rfl)) (fun _ _ _ _ _ => pts_nil) (fun _ _ _ _ _ => by exact (pe_call GF hr2 (by rfl) gF kF bF .nil pass0 (pa_cons (pv 2) pa_nil)))))))), ?_⟩
    obtain ⟨hl, hp⟩ := hx.parts2 (Nat.le_refl _)
    refine ⟨_, rfl, ⟨x, rfl⟩, x, Str.ofString " ", rfl, rfl, rfl, (by show x.cps.size + 2 ≤ sizeLine; have := hx.sz; rw [sizeLine_eq]; omega), fun pr npr => ?_⟩
    have gP : Gr T H (upd H pr (.lst ((spS x).map V.str))) := Gr.laid tb npr
    have eP : (upd H pr (.lst ((spS x).map V.str))) pr = some (.lst ((spS x).map V.str)) := upd_same
    have raise : headN x = none → ∀ H4, Gr T H H4 → ∀ a, H4 a = none → _ := fun e H4 g4 => raise_line (H := H4) (n := 1) (Qx := fun cls d H' => E cls d H') R ⟨by decide, by decide⟩ fun d H5 s5 _ e5 => qe e H5 d (g4.trans (grS g4.tab s5)) e5
    have hpr : ∀ b o, H b = some o → b ≠ pr := fun b o h z => by rw [z, npr] at h; cases h
    show gName 1 (.ref pr) _ (upd H pr (.lst ((spS x).map V.str))) _
    generalize upd H pr (.lst ((spS x).map V.str)) = H1 at gP eP
    have lsn : ((spS x).map V.str).length = (spS x).length := List.length_map _
    refine ⟨fun σ H' => σ = [some (.str x), some (.ref pr), none] ∧ Gr T H1 H' ∧ (spS x).length = 4 ∧ Txt.join spB ((spS x).take 2) = Str.ofString "p cnf" ∧ ((spS x).drop 2).all numB = true, ?_, ?_⟩
    · refine ⟨_, rfl, pr, _, rfl, .inl (SqL.of eP), rfl, _, rfl, ?_⟩
      rw [lsn]
      by_cases h4 : (spS x).length = 4
      · refine iteF' (by rw [decide_eq_true (by rw [h4]; rfl)]; rfl) ?_
        refine ⟨⟨_, rfl⟩, _, rfl, _, rfl, pr, _, rfl, SqL.of eP, fun s1 n1 => ?_⟩
        have g1 : Gr T H1 (upd H1 s1 (.lst (cutV ((spS x).map V.str) none (some 2)))) := Gr.laid gP.tab n1
        have e1 : (upd H1 s1 (.lst (cutV ((spS x).map V.str) none (some 2)))) s1 = some (.lst (((spS x).take 2).map V.str)) := upd_same.trans (congrArg (fun l => some (HO.lst l)) (by rw [List.map_take]; exact cut_to _ 2))
        generalize upd H1 s1 (.lst (cutV ((spS x).map V.str) none (some 2))) = H2 at g1 e1
        have l2 : ((spS x).take 2).length = 2 := by rw [List.length_take, h4]; rfl
        refine ⟨Str.ofString " ", s1, (spS x).take 2, rfl, rfl, .inl (SqL.of e1), ?_, rfl, _, rfl, ?_⟩
        · have h1 := len_sum (xs := (spS x).take 2) (b := 600) fun y hy => (hp y (List.mem_of_mem_take hy)).sz
          have h0 : (Str.ofString " ").length = 1 := by decide +kernel
          rw [h0]
          rw [l2] at h1 ⊢
          omega
        by_cases hh : Txt.join spB ((spS x).take 2) = Str.ofString "p cnf"
        · refine iteF' (by rw [decide_eq_true (congrArg V.str hh)]; rfl) ?_
          have eP2 := g1.at gP.tab eP (fun ps z => by cases z)
          refine ⟨_, rfl, _, rfl, pr, _, rfl, SqL.of eP2, fun s2 n2 => ⟨s2, rfl, ⟨_, SqL.of upd_same⟩, fun D nD => ?_⟩⟩
          have g2 := g1.trans (Gr.laid g1.tab n2 (o := .lst (cutV ((spS x).map V.str) (some 2) none)))
          have e2 : (upd H2 s2 (.lst (cutV ((spS x).map V.str) (some 2) none))) s2 = some (.lst (((spS x).drop 2).map V.str)) := upd_same.trans (congrArg (fun l => some (HO.lst l)) (by rw [List.map_drop]; exact cut_hi _ 2))
          generalize upd H2 s2 (.lst (cutV ((spS x).map V.str) (some 2) none)) = H3 at g2 e2 nD
          have hd2 : ∀ z ∈ (spS x).drop 2, LnB 600 z := fun z hz => hp z (List.mem_of_mem_drop hz)
          have ld2 : ((spS x).drop 2).length = 2 := by rw [List.length_drop, h4]
          obtain ⟨ys, eys⟩ : ∃ ys, (spS x).drop 2 = ys := ⟨_, rfl⟩
          rw [eys] at e2 hd2 ld2
          rw [eys]
          refine lc_list (xs := ys.map V.str) (fun i H4 => Gr T H3 H4 ∧ H4 D = some (.lst (((ys.take i).map numB).map V.bl))) ⟨Gr.laid g2.tab nD, upd_same⟩ (fun i H4 _ h => h.1.seqL g2.tab (SqL.of e2)) (fun i v H4 hv h => ?_) (fun H4 h => ?_)
          · obtain ⟨g, e⟩ := h
            obtain ⟨z, ez, rfl⟩ := str_at hv
            have hil : i < ys.length := (List.getElem?_eq_some_iff.mp ez).1
            refine ⟨rfl, _, rfl, cs z, by rw [S_tl]; rfl, ?_, g.tab, fun H5 g5 => ?_⟩
            · rw [Array.length_toList]
              have := (hd2 z (List.mem_of_getElem? ez)).sz
              rw [sizeLine_eq]
              omega
            have e4 := g5.at g.tab e (fun ps z => by cases z)
            refine ⟨_, e4, ?_, ?_, ?_⟩
            · rw [List.length_map, List.length_map, List.length_take]
              exact lineS200 (by omega)
            · have nDT := tab_ne g2.tab nD
              refine ⟨?_, fun b o hb he => ?_⟩
              · obtain ⟨ps, ep, r⟩ := (g.trans g5).tab
                exact ⟨ps, by rw [upd_ne nDT.symm]; exact ep, r⟩
              · rw [upd_ne (ne_of_none he nD)]
                exact (g.trans g5).old b o hb he
            · rw [upd_same, take_snoc ez, List.map_append, List.map_append]
              rfl
          · obtain ⟨g, e⟩ := h
            rw [List.length_map, List.take_length] at e
            refine ⟨D, _, rfl, SqL.of e, _, rfl, ?_⟩
            have ea : (ys.map numB).all id = ys.all numB := by
              rw [List.all_map]
              rfl
            rw [ea]
            cases ha : ys.all numB with
            | false =>
              refine iteT ⟨(by show 1 ≤ 1000; decide), ?_⟩
              exact raise (by unfold headN; rw [if_neg (fun z => by rw [eys, ha] at z; cases z.2.2)]) H4 (gP.trans (g2.trans g))
            | true => exact iteF ⟨rfl, g2.trans g, h4, hh, rfl⟩
        · refine iteT' (by rw [decide_eq_false (fun z => hh (V.str.inj z))]; rfl) ⟨(by show 1 ≤ 1000; decide), ?_⟩
          exact raise (by unfold headN; rw [if_neg (fun z => hh z.2.1)]) H2 (gP.trans g1)
      · refine iteT' (by rw [decide_eq_false (fun z => h4 (by have := V.int.inj z; omega))]; rfl) ⟨(by show 1 ≤ 1000; decide), ?_⟩
        exact raise (by unfold headN; rw [if_neg (fun z => h4 z.1)]) H1 gP
    rintro σ H5 ⟨rfl, g5, h4, hh, ha⟩
    have g05 := gP.trans g5
    have eP5 := g5.at gP.tab eP (fun ps z => by cases z)
    have hall := List.all_eq_true.mp ha
    have ehd : headN x = some (((spS x).drop 2).map numV) := by
      unfold headN
      rw [if_pos ⟨h4, hh, ha⟩]
    refine ⟨_, rfl, _, rfl, pr, _, rfl, SqL.of eP5, fun s3 n3 => ⟨s3, rfl, ⟨_, SqL.of upd_same⟩, fun D nD => ?_⟩⟩
    have g6 := g05.trans (Gr.laid g05.tab n3 (o := .lst (cutV ((spS x).map V.str) (some 2) none)))
    have e3 : (upd H5 s3 (.lst (cutV ((spS x).map V.str) (some 2) none))) s3 = some (.lst (((spS x).drop 2).map V.str)) := upd_same.trans (congrArg (fun l => some (HO.lst l)) (by rw [List.map_drop]; exact cut_hi _ 2))
    generalize upd H5 s3 (.lst (cutV ((spS x).map V.str) (some 2) none)) = H6 at g6 e3 nD
    have hd2 : ∀ z ∈ (spS x).drop 2, LnB 600 z := fun z hz => hp z (List.mem_of_mem_drop hz)
    have ld2 : ((spS x).drop 2).length = 2 := by rw [List.length_drop, h4]
    refine lc_list (xs := ((spS x).drop 2).map V.str) (fun i H4 => H4 = upd H6 D (.lst (((((spS x).drop 2).take i).map numV).map iV))) rfl (fun i H4 _ h => ?_) (fun i v H4 hv h => ?_) (fun H4 h => ?_)
    · subst h
      exact (Gr.laid g6.tab nD).seqL g6.tab (SqL.of e3)
    · subst h
      obtain ⟨z, ez, rfl⟩ := str_at hv
      have hil : i < ((spS x).drop 2).length := (List.getElem?_eq_some_iff.mp ez).1
      have mz := List.mem_of_getElem? ez
      refine ⟨rfl, _, rfl, z, rfl, hall z mz, (hd2 z mz).sz, _, upd_same, ?_, ?_⟩
      · rw [List.length_map, List.length_map, List.length_take]
        exact lineS200 (by omega)
      · rw [upd_upd, take_snoc ez, List.map_append, List.map_append]
        rfl
    · subst h
      rw [List.length_map, List.take_length]
      exact qs _ D _ (g6.trans (Gr.laid g6.tab nD)) ehd (g6.none tb nD) upd_same
end
end C1

/-! Proofs read by the program. -/
namespace C1
open PySem PySem.Spec PyProof.Rows L2 SX
open K0 (Cs digs isNum)
open GxR (TabG Tabbed TabB GenS)
abbrev sReadProof : Stmt := topS 19
theorem scReadProof : FnScope ["text", "clauses", "at", "line", "clause"] ["text"] (defScope sReadProof) := ⟨rfl, rfl, rfl, by decide +kernel, rfl, by decide +kernel, by decide +kernel⟩
abbrev NRP : List Str := ["text", "clauses", "at", "line", "clause"]
def linesOf (x : Str) : List Str := (splitL x).dropLast
def clD (ns : List Int) : PyData := .tuple (ns.map .int)
def readPf : Nat → List (List Int) → List Str → Sum Nat (List (List Int))
  | _, acc, [] => .inr acc
  | k, acc, x :: xs => match clN x with
    | none => .inl (k + 1)
    | some ns => readPf (k + 1) (acc ++ [ns]) xs
def proofN (x : Str) : Sum Nat (List (List Int)) := if x = Str.ofString "" then .inr [] else if wholeB x = true then readPf 0 [] (linesOf x) else .inl (splitL x).length
theorem noLs_ii : ∀ ns : List Int, noLs (ns.map .int) = true
  | [] => rfl
  | _ :: r => noLs_ii r
theorem noLs_cl : ∀ xs : List (List Int), noLs (xs.map clD) = true
  | [] => rfl
  | x :: r => by
    show (noLs (x.map .int) && noLs (r.map clD)) = true
    rw [noLs_ii, noLs_cl r]
    rfl
theorem dps_ii {K : PySem.W.Frag} {H : Hp} : ∀ ns : List Int, DpAll K H (ns.map V.int) (ns.map .int)
  | [] => .nil
  | _ :: r => .cons (.int _) (dps_ii r)
structure BD (mg : Str → Option Value) : Prop where
  enumerate : mg "enumerate" = none
section
variable {P : Program} {w : World} {K : PySem.W.Frag} {mg : Str → Option Value} {base : Heap} {T : Addr}
theorem for_enL {K : PySem.W.Frag} {a : Addr} {xs : List V} {g : TG} {tb : TS} {D : Ends} {σ : L2.St} {H : Hp} (Rv : Nat → L2.St → Hp → Prop) (h0 : Rv 0 σ H) (hl : ∀ i σ H, i ≤ xs.length → Rv i σ H → SqL K H a xs)
    (hs : ∀ i x T σ H, xs[i]? = some x → Rv i σ H → H T = none → g (.ref T) σ (upd H T (.tup [.int (i : Nat), x])) fun σ2 H2 => tb { D with nx := Rv (i + 1), ct := Rv (i + 1), bk := D.nx } σ2 H2) (hd : ∀ σ H, Rv xs.length σ H → D.nx σ H) :
    ∃ V : Nat → Nat → L2.St → Hp → Prop, (∃ m, V 0 m σ H) ∧ ∀ i m σ H, V i m σ H →
      ((Ite K a).stop i H ∧ D.nx σ H) ∨ ((Ite K a).go i H ∧ ∃ N : L2.St → Hp → Prop, (∀ σ' H', N σ' H' → ∃ m', m' < m ∧ V (i + 1) m' σ' H') ∧ ∀ x H', (Ite K a).yld i H x H' → g x σ H' fun σ2 H2 => tb { D with nx := N, ct := N, bk := D.nx } σ2 H2) := by
  refine ⟨fun i m σ H => m = xs.length - i ∧ i ≤ xs.length ∧ Rv i σ H, ?_, ?_⟩
  · exact ⟨xs.length, rfl, Nat.zero_le _, h0⟩
  rintro i m σ H ⟨rfl, hi, q⟩
  have sq := hl i σ H hi q
  by_cases lt : i < xs.length
  · refine .inr ⟨⟨xs, xs[i], sq, by simp [lt]⟩, Rv (i + 1), fun σ' H' q' => ⟨xs.length - (i + 1), by omega, rfl, lt, q'⟩, fun v H' y => ?_⟩
    obtain ⟨T, x, rfl, nT, rfl, hx⟩ := y
    exact hs i x T σ H (hx xs sq) q nT
  · obtain rfl : i = xs.length := by omega
    exact .inl ⟨⟨xs, sq, Nat.le_refl _⟩, hd σ H q⟩
def spRProof (K : PySem.W.Frag) (T C : Addr) : Sp := fun vs H Q E => ∃ x : Str, vs = [.str x] ∧ TxL 250 140 x ∧ TabG H T ∧
  (∀ ls, proofN x = .inr ls → ∀ H' v, Gr T H H' → Dp K H' v (.tuple (ls.map clD)) → Q v H') ∧
  ∀ n, proofN x = .inl n → ∀ H' d, Gr T H H' → H' d = some (.xd (fsL (n : Nat))) → E (.ref C) (some d) H'
theorem ok_rproof {f fW fN fI C : Addr} {fd fdW fdN fdI : FuncData} (F : Fun K "read_proof" "read_proof" sReadProof f fd) (B : BT mg) (B2 : BD mg)
    (GW : FnOk P w K mg base (L2.CX P w) 3 fW fdW ["text"] (spWhole K C)) (kW : PySem.W.keepIn K (.ref fW) = true) (bW : Binds K fdW ["text"] []) (gW : mg "whole_lines" = some (.ref fW))
    (GN : FnOk P w K mg base CX0 4 fN fdN ["line"] (spClause K T)) (kN : PySem.W.keepIn K (.ref fN) = true) (bN : Binds K fdN ["line"] []) (gN : mg "clause_of" = some (.ref fN))
    (R : ErrB K mg C fI) (tI : PySem.W.typeIn K (.ref fI) = some (.type "function")) (GI : FnOk P w K mg base CX0 1 fI fdI ["self", "line"] (spInitB K)) (bI : Binds K fdI ["self", "line"] []) :
    FnOk P w K mg base (L2.CX P w) 5 f fd ["text"] (spRProof K T C) := by
  refine F.okX scReadProof (fun vs H Q E h => ?_) (fun cdv A outer s H vs Q E hr h => ?_)
  · obtain ⟨x, rfl, _⟩ := h
    rfl
  · obtain ⟨x, rfl, hx, tb, q, qe⟩ := h
    have nd := scReadProof.nd
    have hr4 : Room 4 _ := hr
    have hr3 : Room 3 _ := hr.mono (by decide)
    have hrI : Room 2 _ := hr.mono (by decide)
    refine ⟨_, (pss_cons (ps_set (i := 1) nd rfl (.inl rfl) (pe_lst pa_nil))
      (C8.pss_cut (ps_for (passes_of rfl) rfl (pi_enum (by rfl) B2.enumerate (pa_cons (pe_ifExp (pt_truth (pv 0) (fun _ => rfl)) (pe_callS GW hr3 (by rfl) gW kW bW (fun σ => passAt (takes_of rfl rfl rfl rfl) σ) (pa_cons (pv 0) pa_nil)) (pe_lst pa_nil)) pa_nil)) (pg_tup (by rfl) (pgs_cons (pg_name (i := 2) nd rfl (.inl rfl)) (pgs_cons (pg_name (i := 3) nd rfl (.inl rfl)) pgs_nil))) (pss_cons (ps_set (i := 4) nd rfl (.inl rfl) (pe_call GN hr4 (by rfl) gN kN bN .nil pass0 (pa_cons (pv 3) pa_nil)))
      (pss_cons (ps_if (pt_cmpR op_isN (pv 4) (pe_non) (nomark _)) (pss_one (ps_raise rfl (takes_of rfl rfl rfl rfl) (pmk_oex R.o R.iC tI GI hrI bI .nil pass0 (by rfl) R.g (pa_cons (pe_op op_add (pv 2) (pe_int)) pa_nil)))) pss_nil)
      (pss_one (ps_expr (pe_bm PySem.F.plainAttrs_list PySem.F.slot_list_append PySem.F.type_list_append mt_append (pv 1) (pa_cons (pv 4) pa_nil)))))))
      (pss_one (ps_ret (pe_callTy call_tuple_of (by rfl) B.tuple (by decide +kernel) (pa_cons (pv 1) pa_nil)))))), ?_⟩
    obtain ⟨hn, hls⟩ := hx.lines
    have hsz := hx.size
    have hp := split_pos x
    refine ⟨Nat.zero_le _, fun fl nfl => ?_⟩
    have g0 : Gr T H (upd H fl (.lst [])) := Gr.laid tb nfl
    have e0 : (upd H fl (.lst [])) fl = some (.lst []) := upd_same
    generalize upd H fl (.lst []) = H0 at g0 e0
    have tb0 := g0.tab
    have nflT := tab_ne tb nfl
    refine ⟨fun σ H' => ∃ (y2 y3 y4 : Option V) (vs : List V) (acc : List (List Int)), σ = [some (.str x), some (.ref fl), y2, y3, y4] ∧ Gr T H H' ∧ H' fl = some (.lst vs) ∧ DpAll K H' vs (acc.map clD) ∧ proofN x = .inr acc, ?_, ?_⟩
    · refine ⟨_, rfl, decide (x ≠ Str.ofString ""), ⟨by rw [sizeLine_eq]; show x.cps.size ≤ _; omega, ?_⟩, ?_⟩
      · by_cases h : x = Str.ofString ""
        · subst h
          decide +kernel
        · rw [decide_eq_true h]
          have hpos : x.length ≠ 0 := fun z => by
            refine h (TL.ext_tl ?_)
            have : x.cps.toList = [] := List.eq_nil_of_length_eq_zero (by rw [Array.length_toList]; exact z)
            show x.cps.toList = (Str.ofString "").cps.toList
            rw [this]
            rfl
          exact (bne_iff_ne.mpr (by omega)).symm
      by_cases hx0 : x = Str.ofString ""
      · refine iteF' (decide_eq_false (fun z => z hx0)) ?_
        refine ⟨Nat.zero_le _, fun lp nlp => ⟨lp, _, rfl, SqL.of upd_same, ?_⟩⟩
        have g1 := g0.trans (Gr.laid tb0 nlp (o := .lst []))
        have e1 := (Gr.laid tb0 nlp (o := .lst [])).at tb0 e0 (fun ps z => by cases z)
        refine for_enL (xs := []) (fun i σ H' => ∃ (y2 y3 y4 : Option V) (vs : List V) (acc : List (List Int)), i = 0 ∧ H' lp = some (.lst []) ∧ σ = [some (.str x), some (.ref fl), y2, y3, y4] ∧ Gr T H H' ∧ H' fl = some (.lst vs) ∧ DpAll K H' vs (acc.map clD) ∧ proofN x = .inr acc) ⟨none, none, none, [], [], rfl, upd_same, rfl, g1, e1, .nil, if_pos hx0⟩ (fun i σ H' _ h => ?_) (fun i v U σ H' hv => by cases hv) (fun σ H' h => ?_)
        · obtain ⟨_, _, _, _, _, _, e, _⟩ := h
          exact SqL.of e
        · obtain ⟨y2, y3, y4, vs, acc, _, _, h⟩ := h
          exact ⟨y2, y3, y4, vs, acc, h⟩
      · refine iteT' (decide_eq_true hx0) ?_
        have eP0 : wholeB x = false → proofN x = .inl (splitL x).length := fun e => by
          unfold proofN
          rw [if_neg hx0, e]
          rfl
        refine ⟨_, rfl, x, rfl, by omega, fun hw H1 p s1 np e1 => ?_, fun hw H1 d s1 e1 => qe _ (eP0 hw) H1 d (g0.trans (grS tb0 s1)) e1⟩
        have eP1 : proofN x = readPf 0 [] (linesOf x) := by
          unfold proofN
          rw [if_neg hx0, if_pos hw]
        have g1 := grS tb0 s1
        have tb1 := g1.tab
        have hlen : (linesOf x).length ≤ 140 := by
          unfold linesOf
          rw [List.length_dropLast]
          omega
        have hyl : ∀ y ∈ linesOf x, LnB 600 y := fun y h => (hls y (List.dropLast_subset _ h)).up (by decide)
        replace e1 : H1 p = some (.lst ((linesOf x).map V.str)) := e1
        generalize linesOf x = xs at e1 hlen hyl eP1
        have e10 := s1 _ _ e0
        have pfl : p ≠ fl := fun z => by
          rw [z, e0] at np
          cases np
        refine ⟨p, _, rfl, SqL.of e1, ?_⟩
        refine for_enL (xs := xs.map V.str) (fun i σ H' => ∃ (y2 y3 y4 : Option V) (vs : List V) (acc : List (List Int)), σ = [some (.str x), some (.ref fl), y2, y3, y4] ∧ Gr T H H' ∧ H' p = some (.lst (xs.map V.str)) ∧ H' fl = some (.lst vs) ∧ DpAll K H' vs (acc.map clD) ∧ acc.length = i ∧ proofN x = readPf i acc (xs.drop i)) ⟨none, none, none, [], [], rfl, g0.trans g1, e1, e10, .nil, rfl, eP1⟩ (fun i σ H' _ h => ?_) (fun i v U σ H' hv h nU => ?_) (fun σ H' h => ?_)
        · obtain ⟨_, _, _, _, _, _, _, e, _⟩ := h
          exact SqL.of e
        · obtain ⟨y2, y3, y4, vs, acc, rfl, g, ep, efl, dacc, lacc, er⟩ := h
          obtain ⟨y, ey, rfl⟩ := str_at hv
          have hil : i < xs.length := (List.getElem?_eq_some_iff.mp ey).1
          have edr : xs.drop i = y :: xs.drop (i + 1) := by
            obtain ⟨h1, h2⟩ := List.getElem?_eq_some_iff.mp ey
            rw [List.drop_eq_getElem_cons h1, h2]
          have er2 : proofN x = match clN y with
            | none => .inl (i + 1)
            | some ns => readPf (i + 1) (acc ++ [ns]) (xs.drop (i + 1)) := by
            rw [er, edr]
            rfl
          have gu := Gr.laid g.tab nU (o := .tup [.int ((i : Nat) : Int), .str y])
          have gU := g.trans gu
          have epU := gu.at g.tab ep (fun ps z => by cases z)
          have eflU := gu.at g.tab efl (fun ps z => by cases z)
          have daccU := dps_stay (fun _ _ h => gu.seqT g.tab h) _ _ dacc (noLs_cl acc)
          refine ⟨U, _, rfl, SqT.of upd_same, rfl, _, _, rfl, _, _, rfl, rfl, ?_⟩
          generalize upd H' U (.tup [.int ((i : Nat) : Int), .str y]) = H2u at gU epU eflU daccU gu
          refine ⟨_, rfl, y, rfl, hyl y (List.mem_of_getElem? ey), gU.tab, fun H4 g4 en => ?_, fun H4 t4 ns g4 en sq4 => ?_⟩
          · refine ⟨_, rfl, rfl, _, rfl, iteT ⟨_, rfl, _, _, rfl, rfl, (by show 1 ≤ 1000; decide), ?_⟩⟩
            exact raise_line (H := H4) (n := ((i : Nat) : Int) + 1) (Qx := fun cls d H' => E cls d H') R ⟨by omega, by omega⟩ fun d H5 s5 _ e5 => qe (i + 1) (by rw [er2, en]) H5 d ((gU.trans g4).trans (grS (gU.trans g4).tab s5)) e5
          · refine ⟨_, rfl, rfl, _, rfl, iteF ?_⟩
            have gV := gU.trans g4
            have efl4 := g4.at gU.tab eflU (fun ps z => by cases z)
            have ep4 := g4.at gU.tab epU (fun ps z => by cases z)
            have dacc4 := dps_stay (fun _ _ h => g4.seqT gU.tab h) _ _ daccU (noLs_cl acc)
            have lvs : vs.length = acc.length := by
              have := dps_len dacc
              rw [List.length_map] at this
              exact this
            refine ⟨_, rfl, .inl ⟨rfl, _, SqL.of efl4⟩, _, rfl, fl, vs, .ref t4, rfl, rfl, efl4, lineS200 (by omega), ?_⟩
            refine ⟨_, _, _, vs ++ [.ref t4], acc ++ [ns], rfl, ⟨?_, fun b o hb he => ?_⟩, by rw [upd_ne pfl]; exact ep4, upd_same, ?_, by rw [List.length_append, lacc]; rfl, by rw [er2, en]⟩
            · obtain ⟨ps, ep, r⟩ := gV.tab
              exact ⟨ps, by rw [upd_ne nflT.symm]; exact ep, r⟩
            · rw [upd_ne (ne_of_none he nfl)]
              exact gV.old b o hb he
            · rw [List.map_append]
              exact push_dps efl4 dacc4 (noLs_cl acc) (.tup sq4 (dps_ii ns)) (noLs_ii ns)
        · obtain ⟨y2, y3, y4, vs, acc, rfl, g, ep, efl, dacc, lacc, er⟩ := h
          rw [List.length_map, List.drop_length] at er
          exact ⟨y2, y3, y4, vs, acc, rfl, g, efl, dacc, er⟩
    rintro σ H5 ⟨y2, y3, y4, vs, acc, rfl, g, efl, dacc, er⟩
    refine ⟨_, rfl, fl, _, rfl, .inl ⟨SqL.of efl, fun t nt => ?_⟩⟩
    exact q acc er _ _ (g.trans (Gr.laid g.tab nt)) (.tup (SqT.of upd_same) (dps_stay (same_tup (Same.up nt)) _ _ dacc (noLs_cl acc)))
end
end C1

/-! Proofs written by the program. -/
namespace C1
open PySem PySem.Spec PyProof.Rows L2 SX
open K0 (Cs digs isNum)
open GxR (TabG Tabbed TabB GenS)
abbrev sPrintProof : Stmt := topS 17
theorem scPrintProof : FnScope ["proof", "clause"] ["proof"] (defScope sPrintProof) := ⟨rfl, rfl, rfl, by decide +kernel, rfl, by decide +kernel, by decide +kernel⟩
abbrev NPP : List Str := ["proof", "clause"]
/-- clauses as the law draws them -/
structure ClsOk (cs : List (List Int)) : Prop where
  len : cs.length ≤ 100
  ls : ∀ c ∈ cs, c.length ≤ 100 ∧ ∀ i ∈ c, i.natAbs < 1000000000
def clsL (cs : List (List Int)) : List Str := cs.map clT
theorem clT_len {c : List Int} (h : c.length ≤ 100) (hb : ∀ i ∈ c, i.natAbs < 1000000000) : (clT c).length ≤ 2000 := by
  have := join_size (y := spB) (ps := c.map litT ++ [Str.ofString "0"]) (b := 10) fun p hp => by
    rcases List.mem_append.mp hp with z | z
    · obtain ⟨i, hi, rfl⟩ := List.mem_map.mp z
      exact litT_len (hb i hi)
    · rw [List.mem_singleton.mp z]
      decide +kernel
  rw [List.length_append, List.length_map] at this
  have e : spB.cps.size = 1 := rfl
  rw [e] at this
  have h2 : (c.length + [Str.ofString "0"].length) * (10 + 1) ≤ 101 * 11 := Nat.mul_le_mul (by show c.length + 1 ≤ 101; omega) (Nat.le_refl _)
  show (Txt.join spB _).cps.size ≤ 2000
  omega
theorem row_ii {K : PySem.W.Frag} {H : Hp} {v : V} {ns : List Int} (h : Dp K H v (clD ns)) : ∃ t, v = .ref t ∧ SqT K H t (ns.map V.int) := by
  obtain ⟨t, xs, e, sq, dp⟩ := dp_tup h
  have key : ∀ (ns : List Int) (xs : List V), DpAll K H xs (ns.map .int) → xs = ns.map V.int := fun ns => by
    induction ns with
    | nil => intro xs h; cases h; rfl
    | cons n ns ih =>
      intro xs h
      cases h with
      | cons a b =>
      cases a
      rw [ih _ b]
      rfl
  rw [key ns xs dp] at sq
  exact ⟨t, e, sq⟩
section
variable {P : Program} {w : World} {K : PySem.W.Frag} {mg : Str → Option Value} {base : Heap} {T : Addr}
def spPProof (K : PySem.W.Frag) : Sp := fun vs H Q _ => ∃ (a : Addr) (cs : List (List Int)), vs = [.ref a] ∧ Dp K H (.ref a) (.tuple (cs.map clD)) ∧ ClsOk cs ∧ ∀ H', Same H H' → Q (.str (textL (clsL cs))) H'
theorem ok_pproof {f fT fN : Addr} {fd fdT fdN : FuncData} (F : Fun K "print_proof" "print_proof" sPrintProof f fd)
    (GN : FnOk P w K mg base CX0 3 fN fdN ["clause"] (spCLine K)) (kN : PySem.W.keepIn K (.ref fN) = true) (bN : Binds K fdN ["clause"] []) (gN : mg "clause_line" = some (.ref fN))
    (GT : FnOk P w K mg base CX0 1 fT fdT ["lines"] (spTextOf K)) (kT : PySem.W.keepIn K (.ref fT) = true) (bT : Binds K fdT ["lines"] []) (gT : mg "text_of" = some (.ref fT)) :
    FnOk P w K mg base CX0 4 f fd ["proof"] (spPProof K) := by
  refine F.ok scPrintProof (fun vs H Q E h => ?_) (fun cdv A outer s H vs Q E hr h => ?_)
  · obtain ⟨a, cs, rfl, _⟩ := h
    rfl
  · obtain ⟨a, cs, rfl, hd, ok, q⟩ := h
    have nd := scPrintProof.nd
    have hr3 : Room 3 _ := hr
    have hr1 : Room 1 _ := hr.mono (by decide)
    refine ⟨_, (pss_one (ps_ret (pe_call GT hr1 (by rfl) gT kT bT .nil pass0 (pa_cons (pe_lc (own := [("clause", 1)]) (g := gName 1) (tt := tYes) (te := tCall (spCLine K) [] E0 (tCons (tVar 1) tNil))  rfl nd (pi_tup (pv 0)) (blkOk_by (own := [("clause", 1)]) (N := NPP) (sc := defScope sPrintProof) (by decide +kernel)) (fun _ _ _ _ _ => pg_name (i := 1) nd rfl (.inl rfl)) (fun _ _ _ _ _ => pts_nil) (fun _ _ _ _ _ => by exact (pe_call GN hr3 (by rfl) gN kN bN .nil pass0 (pa_cons (pv 1) pa_nil)))) pa_nil)))), ?_⟩
    obtain ⟨b, xs, e, sq, dp⟩ := dp_tup hd
    cases e
    have lx := dps_len dp
    rw [List.length_map] at lx
    have hl := ok.len
    refine ⟨_, rfl, a, rfl, ⟨_, sq⟩, fun D nD => ?_⟩
    refine lc_tupD (xs := xs) ((clsL cs).map .str) (noLs_strs _) (by unfold clsL; rw [List.length_map, List.length_map, lx]) (by omega) sq nD (fun i v d H2 Q2 hxi hdi sm q2 => ?_) (fun H2 acc sm e dp2 => ?_)
    · obtain ⟨c, ec, rfl⟩ : ∃ c, cs[i]? = some c ∧ PyData.str (clT c) = d := by
        unfold clsL at hdi
        rw [List.getElem?_map, List.getElem?_map] at hdi
        obtain ⟨s1, h1, rfl⟩ := Option.map_eq_some_iff.mp hdi
        obtain ⟨c, h2, rfl⟩ := Option.map_eq_some_iff.mp h1
        exact ⟨c, h2, rfl⟩
      have dv : Dp K H v (clD c) := dps_at dp hxi (by rw [List.getElem?_map, ec]; rfl)
      obtain ⟨t, rfl, st⟩ := row_ii dv
      obtain ⟨o1, o2⟩ := ok.ls c (List.mem_of_getElem? ec)
      exact ⟨rfl, _, rfl, t, c, rfl, same_tup sm _ _ st, o1, o2, fun H3 s3 => q2 _ _ s3 (.str _)⟩
    · have ea := strs_dps dp2
      subst ea
      refine ⟨D, clsL cs, rfl, SqL.of e, by unfold clsL; rw [List.length_map]; omega, fun z hz => ?_, fun H' s' => q H' (sm.trans s')⟩
      obtain ⟨c, hc, rfl⟩ := List.mem_map.mp hz
      obtain ⟨o1, o2⟩ := ok.ls c hc
      exact Nat.le_trans (clT_len o1 o2) (by decide)
end
end C1

/-! Clauses read by the program. -/
namespace C1
open PySem PySem.Spec PyProof.Rows L2 SX
open K0 (Cs digs isNum)
open GxR (TabG Tabbed TabB GenS)
abbrev sReadClauses : Stmt := topS 18
theorem scReadClauses : FnScope ["text", "lines", "many", "number", "clauses", "at", "line", "clause", "literal"] ["text"] (defScope sReadClauses) := ⟨rfl, rfl, rfl, by decide +kernel, rfl, by decide +kernel, by decide +kernel⟩
abbrev NRC : List Str := ["text", "lines", "many", "number", "clauses", "at", "line", "clause", "literal"]
def okC (many : Nat) (ns : List Int) : Bool := ns.all fun i => decide (i.natAbs ≤ many)
def readCl (many number : Nat) : Nat → List (List Int) → List Str → Sum Nat (List (List Int))
  | _, acc, [] => .inr acc
  | k, acc, x :: xs => if number ≤ k then .inl (k + 2) else match clN x with
    | none => .inl (k + 2)
    | some ns => if okC many ns = true then readCl many number (k + 1) (acc ++ [ns]) xs else .inl (k + 2)
def endC (x : Str) (many number : Nat) (r : Sum Nat (List (List Int))) : Sum Nat (Nat × List (List Int)) := match r with
  | .inl n => .inl n
  | .inr acc => if acc.length < number then .inl ((linesOf x).length + 1) else .inr (many, acc)
def clausesN (x : Str) : Sum Nat (Nat × List (List Int)) := if wholeB x = true then (match linesOf x with
    | [] => .inl 1
    | h :: rest => match headN h with
      | some [m, n] => endC x m n (readCl m n 0 [] rest)
      | _ => .inl 1)
  else .inl (splitL x).length
theorem headN_len {x : Str} {ns : List Nat} (h : headN x = some ns) : ns.length = 2 := by
  unfold headN at h
  split at h
  · rename_i hc
    cases h
    rw [List.length_map, List.length_drop, hc.1]
  · cases h
theorem clauses_none {x hd : Str} {rest : List Str} (hw : wholeB x = true) (el : linesOf x = hd :: rest) (en : headN hd = none) : clausesN x = .inl 1 := by
  unfold clausesN
  rw [if_pos hw, el]
  simp only [en]
theorem clauses_some {x hd : Str} {rest : List Str} {m n : Nat} (hw : wholeB x = true) (el : linesOf x = hd :: rest) (en : headN hd = some [m, n]) : clausesN x = endC x m n (readCl m n 0 [] rest) := by
  unfold clausesN
  rw [if_pos hw, el]
  simp only [en]
abbrev rAbs : List V → Hp → VK → Prop := fun xs H Q => ∃ i, xs = [.int i] ∧ Q (.int (if i < 0 then -i else i)) H
structure BA (mg : Str → Option Value) : Prop where
  abs : mg "abs" = none
section
variable {P : Program} {w : World} {K : PySem.W.Frag} {mg : Str → Option Value} {base : Heap} {T : Addr}
def spRClauses (K : PySem.W.Frag) (T C : Addr) : Sp := fun vs H Q E => ∃ x : Str, vs = [.str x] ∧ TxL 250 140 x ∧ TabG H T ∧
  (∀ m ls, clausesN x = .inr (m, ls) → ∀ H' v, Gr T H H' → Dp K H' v (.tuple [iD m, .tuple (ls.map clD)]) → Q v H') ∧
  ∀ n, clausesN x = .inl n → ∀ H' d, Gr T H H' → H' d = some (.xd (fsL (n : Nat))) → E (.ref C) (some d) H'
theorem ok_rclauses {f fW fD fN fI C : Addr} {fd fdW fdD fdN fdI : FuncData} (F : Fun K "read_clauses" "read_clauses" sReadClauses f fd) (B : BT mg) (B2 : BD mg) (BAb : BA mg)
    (GW : FnOk P w K mg base (L2.CX P w) 3 fW fdW ["text"] (spWhole K C)) (kW : PySem.W.keepIn K (.ref fW) = true) (bW : Binds K fdW ["text"] []) (gW : mg "whole_lines" = some (.ref fW))
    (GD : FnOk P w K mg base (L2.CX P w) 3 fD fdD ["line"] (spHead K T C)) (kD : PySem.W.keepIn K (.ref fD) = true) (bD : Binds K fdD ["line"] []) (gD : mg "head_numbers" = some (.ref fD))
    (GN : FnOk P w K mg base CX0 4 fN fdN ["line"] (spClause K T)) (kN : PySem.W.keepIn K (.ref fN) = true) (bN : Binds K fdN ["line"] []) (gN : mg "clause_of" = some (.ref fN))
    (R : ErrB K mg C fI) (tI : PySem.W.typeIn K (.ref fI) = some (.type "function")) (GI : FnOk P w K mg base CX0 1 fI fdI ["self", "line"] (spInitB K)) (bI : Binds K fdI ["self", "line"] []) :
    FnOk P w K mg base (L2.CX P w) 5 f fd ["text"] (spRClauses K T C) := by
  refine F.okX scReadClauses (fun vs H Q E h => ?_) (fun cdv A outer s H vs Q E hr h => ?_)
  · obtain ⟨x, rfl, _⟩ := h
    rfl
  · obtain ⟨x, rfl, hx, tb, q, qe⟩ := h
    have nd := scReadClauses.nd
    have hr4 : Room 4 _ := hr
    have hr3 : Room 3 _ := hr.mono (by decide)
    have hrI : Room 2 _ := hr.mono (by decide)
    refine ⟨_, (pss_cons (ps_set (i := 1) nd rfl (.inl rfl) (pe_callS GW hr3 (by rfl) gW kW bW (fun σ => passAt (takes_of rfl rfl rfl rfl) σ) (pa_cons (pv 0) pa_nil)))
      (pss_cons (ps_asg (pe_callS GD hr3 (by rfl) gD kD bD (fun σ => passAt (takes_of rfl rfl rfl rfl) σ) (pa_cons (pe_ix ix_list (pv 1) (pe_int) (fun _ _ => rfl)) pa_nil)) (pg_lst (by rfl) (pgs_cons (pg_name (i := 2) nd rfl (.inr rfl)) (pgs_cons (pg_name (i := 3) nd rfl (.inl rfl)) pgs_nil))))
      (pss_cons (ps_set (i := 4) nd rfl (.inl rfl) (pe_lst pa_nil))
      (C8.pss_cut (ps_for (passes_of rfl) rfl (pi_enum (by rfl) B2.enumerate (pa_cons (pe_slice sl_list (pv 1) (po_some (pe_int)) po_none) pa_nil)) (pg_tup (by rfl) (pgs_cons (pg_name (i := 5) nd rfl (.inl rfl)) (pgs_cons (pg_name (i := 6) nd rfl (.inl rfl)) pgs_nil))) (pss_cons (ps_set (i := 7) nd rfl (.inl rfl) (pe_call GN hr4 (by rfl) gN kN bN .nil pass0 (pa_cons (pv 6) pa_nil)))
      (C8.pss_cut (ps_if (PW.pt (pw_or (pt_cmpR op_ge (pv 5) (pv 3) (nomark _)) (pw_or (pt_cmpR op_isN (pv 7) (pe_non) (nomark _)) (pw_or1 (pt_not (pt_val (pe_callB (cr_all rfl) (by rfl) B.all (by decide +kernel) (pa_cons (pe_lc (own := [("literal", 8)]) (g := gName 8) (tt := tYes) (te := tOp (rI0 fun i j => .bl (decide (i ≤ j))) (tCB rAbs (tCons (tVar 8) tNil)) (tVar 2))  rfl nd (pi_tup (pv 7)) (blkOk_by (own := [("literal", 8)]) (N := NRC) (sc := defScope sReadClauses) (by decide +kernel)) (fun _ _ _ _ _ => pg_name (i := 8) nd rfl (.inl rfl)) (fun _ _ _ _ _ => pts_nil) (fun _ _ _ _ _ => by exact (pe_cmpR op_le (pe_callB call_abs (by rfl) BAb.abs (by decide +kernel) (pa_cons (pv 8) pa_nil)) (pv 2) (nomark _)))) pa_nil)))))))) (pss_one (ps_raise rfl (takes_of rfl rfl rfl rfl) (pmk_oex R.o R.iC tI GI hrI bI .nil pass0 (by rfl) R.g (pa_cons (pe_op op_add (pv 5) (pe_int)) pa_nil)))) pss_nil)
      (pss_one (ps_expr (pe_bm PySem.F.plainAttrs_list PySem.F.slot_list_append PySem.F.type_list_append mt_append (pv 4) (pa_cons (pv 7) pa_nil)))))))
      (pss_cons (ps_if (pt_cmpR op_lt (pe_callB call_len_seq (by rfl) B.len PySem.boot_len (pa_cons (pv 4) pa_nil)) (pv 3) (nomark _)) (pss_one (ps_raise rfl (takes_of rfl rfl rfl rfl) (pmk_oex R.o R.iC tI GI hrI bI .nil pass0 (by rfl) R.g (pa_cons (pe_op op_add (pe_callB call_len_seq (by rfl) B.len PySem.boot_len (pa_cons (pv 1) pa_nil)) (pe_int)) pa_nil)))) pss_nil)
      (pss_one (ps_ret (pe_tup (pa_cons (pv 2) (pa_cons (pe_callTy call_tuple_of (by rfl) B.tuple (by decide +kernel) (pa_cons (pv 4) pa_nil)) pa_nil)))))))))), ?_⟩
    obtain ⟨hn, hls⟩ := hx.lines
    have hsz := hx.size
    have hp := split_pos x
    have eP0 : wholeB x = false → clausesN x = .inl (splitL x).length := fun e => by
      unfold clausesN
      rw [e]
      rfl
    refine ⟨_, rfl, x, rfl, by omega, fun hw H1 p s1 np e1 => ?_, fun hw H1 d s1 e1 => qe _ (eP0 hw) H1 d (grS tb s1) e1⟩
    have g1 := grS tb s1
    have tb1 := g1.tab
    have hlen : (linesOf x).length ≤ 140 := by
      unfold linesOf
      rw [List.length_dropLast]
      omega
    have hyl : ∀ y ∈ linesOf x, LnB 600 y := fun y h => (hls y (List.dropLast_subset _ h)).up (by decide)
    have h2 : 2 ≤ (splitL x).length := by
      unfold wholeB at hw
      rw [Bool.and_eq_true] at hw
      have : (splitL x).length ≠ 1 := fun z => by
        rw [decide_eq_true z] at hw
        cases hw.2
      omega
    obtain ⟨hd, rest, el⟩ : ∃ h r, linesOf x = h :: r := by
      cases e : linesOf x with
      | nil =>
        have := congrArg List.length e
        unfold linesOf at this
        rw [List.length_dropLast] at this
        simp at this
        omega
      | cons a b => exact ⟨a, b, rfl⟩
    replace e1 : H1 p = some (.lst ((hd :: rest).map V.str)) := by
      rw [← el]
      exact e1
    have hyl2 : ∀ y ∈ hd :: rest, LnB 600 y := by
      rw [← el]
      exact hyl
    have lrest : rest.length + 1 = (linesOf x).length := by
      rw [el]
      rfl
    have raise : ∀ (n : Nat), n ≤ 1000 → clausesN x = .inl n → ∀ (i : Int), i = ((n : Nat) : Int) → ∀ H4, Gr T H H4 → ∀ a, H4 a = none → _ := fun n hn e i ei H4 g4 => raise_line (H := H4) (n := i) (Qx := fun cls d H' => E cls d H') R (by rw [ei]; exact ⟨by omega, by omega⟩) fun d H5 s5 _ e5 => qe _ e H5 d (g4.trans (grS g4.tab s5)) (by rw [← ei]; exact e5)
    refine ⟨_, rfl, p, _, _, _, rfl, rfl, SqL.of e1, atI_nat (j := 0) rfl, hd, rfl, hyl2 hd (List.mem_cons_self ..), tb1, fun H2 t ns g2 en nt et => ?_, fun en H2 d g2 e2 => qe 1 (clauses_none hw el en) H2 d (g1.trans g2) e2⟩
    obtain ⟨m, n, rfl⟩ : ∃ m n, ns = [m, n] := by
      have := headN_len en
      match ns, this with
      | [a, b], _ => exact ⟨a, b, rfl⟩
    have eP2 := clauses_some hw el en
    have g12 := g1.trans g2
    have tb2 := g12.tab
    have ep2 := g2.at tb1 e1 (fun ps z => by cases z)
    refine ⟨t, _, rfl, SqL.of et, rfl, _, _, rfl, _, _, rfl, rfl, ?_⟩
    refine ⟨Nat.zero_le _, fun fl nfl => ?_⟩
    have gl0 := Gr.laid (o := .lst []) tb2 nfl
    have gF := g12.trans gl0
    have eF : (upd H2 fl (.lst [])) fl = some (.lst []) := upd_same
    have epF := gl0.at tb2 ep2 (fun ps z => by cases z)
    have nflH := g12.none tb nfl
    have pfl : p ≠ fl := fun z => by
      rw [z, nfl] at ep2
      cases ep2
    generalize upd H2 fl (.lst []) = H3 at gF eF epF
    have tb3 := gF.tab
    have nflT := tab_ne tb2 nfl
    refine ⟨fun σ H' => ∃ (y5 y6 y7 : Option V) (vs : List V) (acc : List (List Int)), σ = [some (.str x), some (.ref p), some (iV m), some (iV n), some (.ref fl), y5, y6, y7, none] ∧ Gr T H H' ∧ H' p = some (.lst ((hd :: rest).map V.str)) ∧ H' fl = some (.lst vs) ∧ DpAll K H' vs (acc.map clD) ∧ acc.length ≤ 140 ∧ readCl m n 0 [] rest = .inr acc, ?_, ?_⟩
    · refine ⟨_, rfl, _, rfl, p, _, rfl, SqL.of epF, fun sp nsp => ?_⟩
      have esp : (upd H3 sp (.lst (cutV ((hd :: rest).map V.str) (some 1) none))) sp = some (.lst (rest.map V.str)) := upd_same.trans (congrArg (fun l => some (HO.lst l)) (cut_hi _ 1))
      have gs := Gr.laid (o := .lst (cutV ((hd :: rest).map V.str) (some 1) none)) tb3 nsp
      have gS := gF.trans gs
      have epS := gs.at tb3 epF (fun ps z => by cases z)
      have eflS := gs.at tb3 eF (fun ps z => by cases z)
      have spfl : sp ≠ fl := fun z => by
        rw [z, eF] at nsp
        cases nsp
      generalize upd H3 sp (.lst (cutV ((hd :: rest).map V.str) (some 1) none)) = H4 at gS esp epS eflS
      refine ⟨sp, _, rfl, SqL.of esp, ?_⟩
      refine for_enL (xs := rest.map V.str) (fun i σ H' => ∃ (y5 y6 y7 : Option V) (vs : List V) (acc : List (List Int)), σ = [some (.str x), some (.ref p), some (iV m), some (iV n), some (.ref fl), y5, y6, y7, none] ∧ Gr T H H' ∧ H' p = some (.lst ((hd :: rest).map V.str)) ∧ H' sp = some (.lst (rest.map V.str)) ∧ H' fl = some (.lst vs) ∧ DpAll K H' vs (acc.map clD) ∧ acc.length = i ∧ readCl m n 0 [] rest = readCl m n i acc (rest.drop i)) ⟨none, none, none, [], [], rfl, gS, epS, esp, eflS, .nil, rfl, rfl⟩ (fun i σ H' _ h => ?_) (fun i v U σ H' hv h nU => ?_) (fun σ H' h => ?_)
      · obtain ⟨_, _, _, _, _, _, _, _, e, _⟩ := h
        exact SqL.of e
      · obtain ⟨y5, y6, y7, vs, acc, rfl, g, ep, es, efl, dacc, lacc, er⟩ := h
        obtain ⟨y, ey, rfl⟩ := str_at hv
        have hil : i < rest.length := (List.getElem?_eq_some_iff.mp ey).1
        have edr : rest.drop i = y :: rest.drop (i + 1) := by
          obtain ⟨h1, h2⟩ := List.getElem?_eq_some_iff.mp ey
          rw [List.drop_eq_getElem_cons h1, h2]
        have er2 : readCl m n 0 [] rest = if n ≤ i then .inl (i + 2) else match clN y with
          | none => .inl (i + 2)
          | some ns => if okC m ns = true then readCl m n (i + 1) (acc ++ [ns]) (rest.drop (i + 1)) else .inl (i + 2) := by
          rw [er, edr]
          rfl
        have hy6 := hyl2 y (List.mem_cons_of_mem _ (List.mem_of_getElem? ey))
        have gu := Gr.laid g.tab nU (o := .tup [.int ((i : Nat) : Int), .str y])
        have gU := g.trans gu
        have epU := gu.at g.tab ep (fun ps z => by cases z)
        have esU := gu.at g.tab es (fun ps z => by cases z)
        have eflU := gu.at g.tab efl (fun ps z => by cases z)
        have daccU := dps_stay (fun _ _ h => gu.seqT g.tab h) _ _ dacc (noLs_cl acc)
        refine ⟨U, _, rfl, SqT.of upd_same, rfl, _, _, rfl, _, _, rfl, rfl, ?_⟩
        generalize upd H' U (.tup [.int ((i : Nat) : Int), .str y]) = H2u at gU epU esU eflU daccU gu
        have bad : readCl m n 0 [] rest = .inl (i + 2) → clausesN x = .inl (i + 2) := fun e => by
          rw [eP2, e]
          rfl
        have lvs : vs.length = acc.length := by
          have := dps_len dacc
          rw [List.length_map] at this
          exact this
        refine ⟨_, rfl, y, rfl, hy6, gU.tab, fun H4 g4 en => ?_, fun H4 t4 ns g4 en sq4 => ?_⟩
        · have gV := gU.trans g4
          refine ⟨fun _ _ => False, ?_, fun _ _ h => h.elim⟩
          refine ⟨_, rfl, _, rfl, _, _, rfl, rfl, _, rfl, ?_⟩
          have hbad : clausesN x = .inl (i + 2) := bad (by
            rw [er2, en]
            by_cases hk : n ≤ i
            · rw [if_pos hk]
            · rw [if_neg hk])
          by_cases hk : n ≤ i
          · refine iteT' (decide_eq_true (by omega)) ⟨_, rfl, _, _, rfl, rfl, (by show 1 ≤ 1000; decide), ?_⟩
            exact raise (i + 2) (by omega) hbad _ (by omega) H4 gV
          · refine iteF' (decide_eq_false (by omega)) ⟨_, rfl, rfl, _, rfl, iteT ⟨_, rfl, _, _, rfl, rfl, (by show 1 ≤ 1000; decide), ?_⟩⟩
            exact raise (i + 2) (by omega) hbad _ (by omega) H4 gV
        · have gV := gU.trans g4
          have efl4 := g4.at gU.tab eflU (fun ps z => by cases z)
          have ep4 := g4.at gU.tab epU (fun ps z => by cases z)
          have es4 := g4.at gU.tab esU (fun ps z => by cases z)
          have dacc4 := dps_stay (fun _ _ h => g4.seqT gU.tab h) _ _ daccU (noLs_cl acc)
          have lns : ns.length ≤ 601 := by
            unfold clN at en
            split at en
            · cases en
              rw [List.length_map, List.length_dropLast]
              have := (hy6.parts2 (Nat.le_refl _)).1
              omega
            · cases en
          refine ⟨fun σ H' => σ = [some (.str x), some (.ref p), some (iV m), some (iV n), some (.ref fl), some (.int ((i : Nat) : Int)), some (.str y), some (.ref t4), none] ∧ Same H4 H' ∧ ¬ n ≤ i ∧ okC m ns = true, ?_, ?_⟩
          · refine ⟨_, rfl, _, rfl, _, _, rfl, rfl, _, rfl, ?_⟩
            by_cases hk : n ≤ i
            · refine iteT' (decide_eq_true (by omega)) ⟨_, rfl, _, _, rfl, rfl, (by show 1 ≤ 1000; decide), ?_⟩
              exact raise (i + 2) (by omega) (bad (by rw [er2, if_pos hk])) _ (by omega) H4 gV
            · refine iteF' (decide_eq_false (by omega)) ⟨_, rfl, rfl, _, rfl, iteF ?_⟩
              refine ⟨_, rfl, t4, rfl, ⟨_, sq4⟩, fun D nD => ?_⟩
              refine lc_tup (xs := ns.map V.int) (fun j H5 => H5 = upd H4 D (.lst (((ns.take j).map fun z => decide (z.natAbs ≤ m)).map V.bl))) rfl (fun j H5 _ h => ?_) (fun j v H5 hv h => ?_) (fun H5 h => ?_)
              · subst h
                exact same_tup (Same.up nD) _ _ sq4
              · subst h
                rw [List.getElem?_map] at hv
                obtain ⟨z, ez, rfl⟩ := Option.map_eq_some_iff.mp hv
                have hjl : j < ns.length := (List.getElem?_eq_some_iff.mp ez).1
                refine ⟨rfl, _, rfl, z, rfl, _, rfl, _, _, rfl, rfl, _, upd_same, ?_, ?_⟩
                · rw [List.length_map, List.length_map, List.length_take, sizeLine_eq]
                  omega
                · rw [upd_upd, take_snoc ez, List.map_append, List.map_append]
                  have : (decide ((if z < 0 then -z else z) ≤ ((m : Nat) : Int))) = decide (z.natAbs ≤ m) := decide_eq_decide.mpr (by split <;> omega)
                  exact congrArg (fun b => upd H4 D (.lst (List.map V.bl (List.map (fun z => decide (z.natAbs ≤ m)) (List.take j ns)) ++ [V.bl b]))) this
              · subst h
                rw [List.length_map, List.take_length]
                refine ⟨D, _, rfl, SqL.of upd_same, _, rfl, ?_⟩
                have ea : (ns.map fun z => decide (z.natAbs ≤ m)).all id = okC m ns := by
                  rw [List.all_map]
                  rfl
                rw [ea]
                cases ha : okC m ns with
                | false =>
                  refine iteT ⟨_, rfl, _, _, rfl, rfl, (by show 1 ≤ 1000; decide), ?_⟩
                  exact raise (i + 2) (by omega) (bad (by rw [er2, if_neg hk, en]; simp only [ha]; rfl)) _ (by omega) _ (gV.trans (Gr.laid gV.tab nD))
                | true => exact iteF ⟨rfl, Same.up nD, hk, rfl⟩
          rintro σ H5 ⟨rfl, s5, hk, hok⟩
          have g5 := grS gV.tab s5
          have gW := gV.trans g5
          have efl5 := s5 _ _ efl4
          have ep5 := s5 _ _ ep4
          have es5 := s5 _ _ es4
          have dacc5 := dps_stay (same_tup s5) _ _ dacc4 (noLs_cl acc)
          refine ⟨_, rfl, .inl ⟨rfl, _, SqL.of efl5⟩, _, rfl, fl, vs, .ref t4, rfl, rfl, efl5, lineS200 (by omega), ?_⟩
          refine ⟨_, _, _, vs ++ [.ref t4], acc ++ [ns], rfl, ⟨?_, fun b o hb he => ?_⟩, by rw [upd_ne pfl]; exact ep5, by rw [upd_ne spfl]; exact es5, upd_same, ?_, by rw [List.length_append, lacc]; rfl, by rw [er2, if_neg hk, en]; simp only [hok, if_true]⟩
          · obtain ⟨ps, ep, r⟩ := gW.tab
            exact ⟨ps, by rw [upd_ne nflT.symm]; exact ep, r⟩
          · rw [upd_ne (ne_of_none he nflH)]
            exact gW.old b o hb he
          · rw [List.map_append]
            exact push_dps efl5 dacc5 (noLs_cl acc) (.tup (same_tup s5 _ _ sq4) (dps_ii ns)) (noLs_ii ns)
      · obtain ⟨y5, y6, y7, vs, acc, rfl, g, ep, es, efl, dacc, lacc, er⟩ := h
        rw [List.length_map, List.drop_length] at er
        rw [List.length_map] at lacc
        exact ⟨y5, y6, y7, vs, acc, rfl, g, ep, efl, dacc, by omega, er⟩
    rintro σ H5 ⟨y5, y6, y7, vs, acc, rfl, g, ep, efl, dacc, lacc, er⟩
    have lvs : vs.length = acc.length := by
      have := dps_len dacc
      rw [List.length_map] at this
      exact this
    refine ⟨_, rfl, fl, _, rfl, .inl (SqL.of efl), _, rfl, _, _, rfl, rfl, _, rfl, ?_⟩
    rw [lvs]
    by_cases hc : acc.length < n
    · refine iteT' (decide_eq_true (by omega)) ⟨_, rfl, p, _, rfl, .inl (SqL.of ep), _, _, rfl, rfl, (by show 1 ≤ 1000; decide), ?_⟩
      exact raise ((linesOf x).length + 1) (by omega) (by rw [eP2, er]; exact if_pos hc) _ (by rw [el, List.length_map]; rfl) H5 g
    · refine iteF' (decide_eq_false (by omega)) ⟨_, rfl, _, rfl, fl, _, rfl, .inl ⟨SqL.of efl, fun t nt => ⟨by show 2 ≤ sizeLine; decide, fun u nu => ?_⟩⟩⟩
      have gt := Gr.laid (o := .tup vs) g.tab nt
      have gu := Gr.laid (o := .tup [iV m, .ref t]) gt.tab nu
      refine q m acc (by rw [eP2, er]; exact if_neg hc) _ _ (g.trans (gt.trans gu)) (.tup (SqT.of upd_same) (.cons (.int _) (.cons (.tup (gu.seqT gt.tab (SqT.of upd_same)) ?_) .nil)))
      exact dps_stay (same_tup (Same.up nu)) _ _ (dps_stay (same_tup (Same.up nt)) _ _ dacc (noLs_cl acc)) (noLs_cl acc)
end
end C1

/-! Clauses written by the program. -/
namespace C1
open PySem PySem.Spec PyProof.Rows L2 SX
open K0 (Cs digs isNum)
open GxR (TabG Tabbed TabB GenS)
abbrev sPrintClauses : Stmt := topS 16
theorem scPrintClauses : FnScope ["many", "clauses", "lines", "clause"] ["many", "clauses"] (defScope sPrintClauses) := ⟨rfl, rfl, rfl, by decide +kernel, rfl, by decide +kernel, by decide +kernel⟩
abbrev NPC : List Str := ["many", "clauses", "lines", "clause"]
def headT (m n : Nat) : Str := ((((Str.empty ++ Str.ofString "p cnf") ++ Str.ofString " ") ++ pS (iD m)) ++ Str.ofString " ") ++ pS (iD n)
theorem headT_len {m n : Nat} (hm : m < 1000000000) (hn : n < 1000000000) : (headT m n).length ≤ 40 := by
  unfold headT
  have l1 := part_len (nat_part (n := m) hm)
  have l2 := part_len (nat_part (n := n) hn)
  have e1 : (Str.ofString "p cnf").length = 5 := by decide +kernel
  have e2 : (Str.ofString " ").length = 1 := by decide +kernel
  have e3 : (Str.empty).length = 0 := by decide +kernel
  rw [app_len, app_len, app_len, app_len, app_len, e1, e2, e3]
  omega
section
variable {P : Program} {w : World} {K : PySem.W.Frag} {mg : Str → Option Value} {base : Heap} {T : Addr}
def spPClauses (K : PySem.W.Frag) : Sp := fun vs H Q _ => ∃ (m : Nat) (a : Addr) (cs : List (List Int)), vs = [iV m, .ref a] ∧ m < 1000000000 ∧ Dp K H (.ref a) (.tuple (cs.map clD)) ∧ ClsOk cs ∧ ∀ H', Same H H' → Q (.str (textL (headT m cs.length :: clsL cs))) H'
theorem ok_pclauses {f fF fT fN : Addr} {fd fdF fdT fdN : FuncData} {tkH : Tok} (F : Fun K "print_clauses" "print_clauses" sPrintClauses f fd) (B : BT mg) (gH : mg "HEAD" = some (.str (Str.ofString "p cnf") tkH))
    (GF : FnOk P w K mg base CX0 1 fF fdF ["worth"] spNText) (kF : PySem.W.keepIn K (.ref fF) = true) (bF : Binds K fdF ["worth"] []) (gF : mg "number_text" = some (.ref fF))
    (GN : FnOk P w K mg base CX0 3 fN fdN ["clause"] (spCLine K)) (kN : PySem.W.keepIn K (.ref fN) = true) (bN : Binds K fdN ["clause"] []) (gN : mg "clause_line" = some (.ref fN))
    (GT : FnOk P w K mg base CX0 1 fT fdT ["lines"] (spTextOf K)) (kT : PySem.W.keepIn K (.ref fT) = true) (bT : Binds K fdT ["lines"] []) (gT : mg "text_of" = some (.ref fT)) :
    FnOk P w K mg base CX0 4 f fd ["many", "clauses"] (spPClauses K) := by
  refine F.ok scPrintClauses (fun vs H Q E h => ?_) (fun cdv A outer s H vs Q E hr h => ?_)
  · obtain ⟨m, a, cs, rfl, _⟩ := h
    rfl
  · obtain ⟨m, a, cs, rfl, hm, hd, ok, q⟩ := h
    have nd := scPrintClauses.nd
    have hr3 : Room 3 _ := hr
    have hr1 : Room 1 _ := hr.mono (by decide)
    refine ⟨_, (pss_cons (ps_set (i := 2) nd rfl (.inl rfl) (pe_lst (pa_cons (pe_joined (PJ.cons (pe_fmt (pe_glob (v := .str "p cnf") (by rfl) gH ⟨_, rfl⟩)) (PJ.cons pe_str (PJ.cons (pe_fmt (pe_call GF hr1 (by rfl) gF kF bF .nil pass0 (pa_cons (pv 0) pa_nil))) (PJ.cons pe_str (PJ.cons (pe_fmt (pe_call GF hr1 (by rfl) gF kF bF .nil pass0 (pa_cons (pe_callB call_len_seq (by rfl) B.len PySem.boot_len (pa_cons (pv 1) pa_nil)) pa_nil))) PJ.nil)))))) pa_nil)))
      (pss_cons (ps_expr (pe_bm PySem.F.plainAttrs_list PySem.F.slot_list_extend PySem.F.type_list_extend mt_extend (pv 2) (pa_cons (pe_lc (own := [("clause", 3)]) (g := gName 3) (tt := tYes) (te := tCall (spCLine K) [] E0 (tCons (tVar 3) tNil))  rfl nd (pi_tup (pv 1)) (blkOk_by (own := [("clause", 3)]) (N := NPC) (sc := defScope sPrintClauses) (by decide +kernel)) (fun _ _ _ _ _ => pg_name (i := 3) nd rfl (.inl rfl)) (fun _ _ _ _ _ => pts_nil) (fun _ _ _ _ _ => by exact (pe_call GN hr3 (by rfl) gN kN bN .nil pass0 (pa_cons (pv 3) pa_nil)))) pa_nil)))
      (pss_one (ps_ret (pe_call GT hr1 (by rfl) gT kT bT .nil pass0 (pa_cons (pv 2) pa_nil)))))), ?_⟩
    obtain ⟨b, xs, e, sq, dp⟩ := dp_tup hd
    cases e
    have lx := dps_len dp
    rw [List.length_map] at lx
    have hl := ok.len
    have l1 := part_len (nat_part (n := m) hm)
    have l2 := part_len (nat_part (n := cs.length) (by omega))
    have e1 : (Str.ofString "p cnf").length = 5 := by decide +kernel
    have e2 : (Str.ofString " ").length = 1 := by decide +kernel
    have e3 : (Str.empty).length = 0 := by decide +kernel
    have e4 : ((((Str.empty ++ Str.ofString "p cnf") ++ Str.ofString " ") ++ pS (iD m)) ++ Str.ofString " ") ++ pS (iD cs.length) = headT m cs.length := rfl
    refine .inl ⟨_, rfl, by rw [e1, sizeLine_eq]; decide, _, rfl, by rw [app_len, e3, e1, sizeLine_eq]; decide, ?_⟩
    refine ⟨_, rfl, by rw [app_len, app_len, e3, e1, e2, sizeLine_eq]; decide, ?_⟩
    refine ⟨_, rfl, m, rfl, hm, .inl ⟨_, rfl, by rw [sizeLine_eq]; omega, _, rfl, by rw [app_len, app_len, app_len, e3, e1, e2, sizeLine_eq]; omega, ?_⟩⟩
    refine ⟨_, rfl, by rw [app_len, app_len, app_len, app_len, e3, e1, e2, sizeLine_eq]; omega, ?_⟩
    refine ⟨_, rfl, a, _, rfl, .inr sq, cs.length, (by rw [lx]; rfl), by omega, .inl ⟨_, rfl, by rw [sizeLine_eq]; omega, _, rfl, by rw [app_len, app_len, app_len, app_len, app_len, e3, e1, e2, sizeLine_eq]; omega, ?_⟩⟩
    refine ⟨(by show 1 ≤ sizeLine; rw [sizeLine_eq]; decide), fun l nl => ?_⟩
    have el : (upd H l (.lst [V.str (headT m cs.length)])) l = some (.lst [V.str (headT m cs.length)]) := upd_same
    have s1 : Same H (upd H l (.lst [V.str (headT m cs.length)])) := Same.up nl
    show gName 2 (.ref l) _ (upd H l (.lst [V.str (headT m cs.length)])) _
    generalize upd H l (.lst [V.str (headT m cs.length)]) = H1 at el s1
    have sq1 := same_tup s1 _ _ sq
    have dp1 := dps_stay (same_tup s1) _ _ dp (noLs_cl cs)
    refine ⟨_, rfl, .inl ⟨rfl, _, SqL.of el⟩, _, rfl, a, rfl, ⟨_, sq1⟩, fun D nD => ?_⟩
    refine lc_tupD (xs := xs) ((clsL cs).map .str) (noLs_strs _) (by unfold clsL; rw [List.length_map, List.length_map, lx]) (by omega) sq1 nD (fun i v d H2 Q2 hxi hdi sm q2 => ?_) (fun H2 acc sm e dp2 => ?_)
    · obtain ⟨c, ec, rfl⟩ : ∃ c, cs[i]? = some c ∧ PyData.str (clT c) = d := by
        unfold clsL at hdi
        rw [List.getElem?_map, List.getElem?_map] at hdi
        obtain ⟨s1, h1, rfl⟩ := Option.map_eq_some_iff.mp hdi
        obtain ⟨c, h2, rfl⟩ := Option.map_eq_some_iff.mp h1
        exact ⟨c, h2, rfl⟩
      have dv : Dp K H1 v (clD c) := dps_at dp1 hxi (by rw [List.getElem?_map, ec]; rfl)
      obtain ⟨t, rfl, st⟩ := row_ii dv
      obtain ⟨o1, o2⟩ := ok.ls c (List.mem_of_getElem? ec)
      exact ⟨rfl, _, rfl, t, c, rfl, same_tup sm _ _ st, o1, o2, fun H3 s3 => q2 _ _ s3 (.str _)⟩
    · have ea := strs_dps dp2
      subst ea
      have el2 := sm _ _ el
      refine ⟨l, D, _, _, rfl, rfl, el2, e, ?_, ?_⟩
      · have : (clsL cs).length = cs.length := List.length_map _
        rw [List.length_map, this, sizeLine_eq]
        show 1 + cs.length ≤ _
        omega
      have lD : l ≠ D := fun z => by
        rw [z, nD] at el
        cases el
      refine ⟨_, rfl, l, headT m cs.length :: clsL cs, rfl, SqL.of upd_same, ?_, fun z hz => ?_, fun H' s' => q H' ?_⟩
      · have : (clsL cs).length = cs.length := List.length_map _
        rw [List.length_cons, this]
        omega
      · rcases List.mem_cons.mp hz with rfl | hz
        · have := headT_len hm (n := cs.length) (by omega)
          omega
        · obtain ⟨c, hc, rfl⟩ := List.mem_map.mp hz
          obtain ⟨o1, o2⟩ := ok.ls c hc
          exact Nat.le_trans (clT_len o1 o2) (by decide)
      · intro b o hb
        have hbl : b ≠ l := ne_of_none hb nl
        refine s' _ _ ?_
        rw [upd_ne hbl]
        exact sm _ _ (s1 _ _ hb)
end
end C1

/-! A text turned, by the law. -/
namespace C1
open PySem PySem.Spec PyProof.Rows L2 SX
open K0 (Cs digs isNum)
abbrev sLawLineTurned : Stmt := topS 37
theorem scLawLineTurned : FnScope ["w", "lines", "at", "other", "way", "rest", "parts", "k", "part"] ["w", "lines"] (defScope sLawLineTurned) := ⟨rfl, rfl, rfl, by decide +kernel, rfl, by decide +kernel, by decide +kernel⟩
abbrev NLTu : List Str := ["w", "lines", "at", "other", "way", "rest", "parts", "k", "part"]
section
variable {P : Program} {w : World} {K : PySem.W.Frag} {mg : Str → Option Value} {base : Heap} {T : Addr} {a l : Addr} {ds : List Int}
theorem two_te2 {σ : L2.St} {H : Hp} {v i j : Nat} {q : Addr} {xs : List Str} {tA tB : TE} {Q : VK} (hv : σ[v]? = some (some (.ref q))) (e : H q = some (.lst (xs.map V.str))) (W : Wd H a l ds) (qa : q ≠ a)
    (hA : ∀ H1 (R : VK), R (iV i) H1 → tA σ H1 R) (hB : ∀ H1 (R : VK), R (iV j) H1 → tB σ H1 R) (hl : xs.length ≤ 200)
    (hq : ∀ (H' : Hp) (p : Addr), Kp a H H' → Wd H' a l ds → H' p = some (.lst ((xs.take i ++ xs.drop j).map V.str)) → p ≠ a → Q (.ref p) H') :
    (tOp rCat (tSl (rSlL K) (tVar v) tNoPart (tPart tA)) (tSl (rSlL K) (tVar v) (tPart tB) tNoPart)) σ H Q := by
  have ez1 : cutV (xs.map V.str) none (some ((i : Nat) : Int)) = (xs.take i).map V.str := by rw [cut_to, List.map_take]
  have l1 : (xs.take i).length ≤ xs.length := by rw [List.length_take]; omega
  have ez2 : cutV (xs.map V.str) (some ((j : Nat) : Int)) none = (xs.drop j).map V.str := by rw [cut_hi, List.map_drop]
  have l2 : (xs.drop j).length ≤ xs.length := by rw [List.length_drop]; omega
  refine ⟨_, hv, hA _ _ ⟨_, rfl, q, _, rfl, SqL.of e, fun s1 n1 => ?_⟩⟩
  have k1 := Kp.new (a := a) (o := .lst (cutV (xs.map V.str) none (some ((i : Nat) : Int)))) n1
  have W1 := W.new (o := .lst (cutV (xs.map V.str) none (some ((i : Nat) : Int)))) n1
  have e1 := k1 _ _ qa e
  have f1 : (upd H s1 (.lst (cutV (xs.map V.str) none (some ((i : Nat) : Int))))) s1 = some (.lst ((xs.take i).map V.str)) := by rw [upd_same, ez1]
  generalize upd H s1 (.lst (cutV (xs.map V.str) none (some ((i : Nat) : Int)))) = H1 at k1 W1 e1 f1
  refine ⟨_, hv, hB _ _ ⟨_, rfl, q, _, rfl, SqL.of e1, fun s2 n2 => ?_⟩⟩
  have k2 := Kp.new (a := a) (o := .lst (cutV (xs.map V.str) (some ((j : Nat) : Int)) none)) n2
  have W2 := W1.new (o := .lst (cutV (xs.map V.str) (some ((j : Nat) : Int)) none)) n2
  have f2 : (upd H1 s2 (.lst (cutV (xs.map V.str) (some ((j : Nat) : Int)) none))) s2 = some (.lst ((xs.drop j).map V.str)) := by rw [upd_same, ez2]
  have f1' := k2 _ _ (W1.at'.elim fun n h => ne_of f1 h.2 (by intro z; cases z)) f1
  generalize upd H1 s2 (.lst (cutV (xs.map V.str) (some ((j : Nat) : Int)) none)) = H2 at k2 W2 f2 f1'
  refine ⟨s1, s2, _, _, rfl, rfl, f1', f2, line200 (by rw [List.length_map, List.length_map]; omega), fun p np => ?_⟩
  exact hq _ p ((k1.trans k2).trans (Kp.new np)) (W2.new np) (by rw [upd_same, List.map_append]) (W2.fresh np)
theorem ins_te2 {σ : L2.St} {H : Hp} {v i j : Nat} {q : Addr} {xs : List Str} {Py : Str → Prop} {tA tB te : TE} {Q : VK} (hv : σ[v]? = some (some (.ref q))) (e : H q = some (.lst (xs.map V.str))) (W : Wd H a l ds) (qa : q ≠ a)
    (hA : ∀ H1 (R : VK), R (iV i) H1 → tA σ H1 R) (hB : ∀ H1 (R : VK), R (iV j) H1 → tB σ H1 R) (hl : xs.length ≤ 200)
    (hte : ∀ H1 (R : VK), Kp a H H1 → Wd H1 a l ds → (∀ (y : Str) (H2 : Hp), Kp a H1 H2 → Wd H2 a l ds → Py y → R (.str y) H2) → te σ H1 R)
    (hq : ∀ (H' : Hp) (p : Addr) (y : Str), Py y → Kp a H H' → Wd H' a l ds → H' p = some (.lst (((xs.take i ++ [y]) ++ xs.drop j).map V.str)) → p ≠ a → Q (.ref p) H') :
    (tOp rCat (tOp rCat (tSl (rSlL K) (tVar v) tNoPart (tPart tA)) (tLst (tCons te tNil))) (tSl (rSlL K) (tVar v) (tPart tB) tNoPart)) σ H Q := by
  have ez1 : cutV (xs.map V.str) none (some ((i : Nat) : Int)) = (xs.take i).map V.str := by rw [cut_to, List.map_take]
  have l1 : (xs.take i).length ≤ xs.length := by rw [List.length_take]; omega
  have ez2 : cutV (xs.map V.str) (some ((j : Nat) : Int)) none = (xs.drop j).map V.str := by rw [cut_hi, List.map_drop]
  have l2 : (xs.drop j).length ≤ xs.length := by rw [List.length_drop]; omega
  refine ⟨_, hv, hA _ _ ⟨_, rfl, q, _, rfl, SqL.of e, fun s1 n1 => ?_⟩⟩
  have k1 := Kp.new (a := a) (o := .lst (cutV (xs.map V.str) none (some ((i : Nat) : Int)))) n1
  have W1 := W.new (o := .lst (cutV (xs.map V.str) none (some ((i : Nat) : Int)))) n1
  have e1 := k1 _ _ qa e
  have f1 : (upd H s1 (.lst (cutV (xs.map V.str) none (some ((i : Nat) : Int))))) s1 = some (.lst ((xs.take i).map V.str)) := by rw [upd_same, ez1]
  generalize upd H s1 (.lst (cutV (xs.map V.str) none (some ((i : Nat) : Int)))) = H1 at k1 W1 e1 f1
  have a1 : s1 ≠ a := W1.at'.elim fun n h => ne_of f1 h.2 (by intro z; cases z)
  refine hte _ _ k1 W1 fun y H2 k2 W2 hy => ?_
  replace e1 := k2 _ _ qa e1
  replace f1 := k2 _ _ a1 f1
  refine ⟨line200 (show 1 ≤ 1000 by decide), fun p3 n3 => ?_⟩
  have k3 := Kp.new (a := a) (o := .lst [V.str y]) n3
  have W3 := W2.new (o := .lst [V.str y]) n3
  have a3 := W2.fresh n3
  have f3 : (upd H2 p3 (.lst [V.str y])) p3 = some (.lst [V.str y]) := upd_same
  replace e1 := k3 _ _ qa e1
  replace f1 := k3 _ _ a1 f1
  generalize upd H2 p3 (.lst [V.str y]) = H3 at k3 W3 f3 e1 f1
  refine ⟨s1, p3, _, _, rfl, rfl, f1, f3, line200 (by rw [List.length_map]; show _ + 1 ≤ 1000; omega), fun p4 n4 => ?_⟩
  have k4 := Kp.new (a := a) (o := .lst ((xs.take i).map V.str ++ [V.str y])) n4
  have W4 := W3.new (o := .lst ((xs.take i).map V.str ++ [V.str y])) n4
  have a4 := W3.fresh n4
  have f4 : (upd H3 p4 (.lst ((xs.take i).map V.str ++ [V.str y]))) p4 = some (.lst (((xs.take i) ++ [y]).map V.str)) := by rw [upd_same, List.map_append]; rfl
  replace e1 := k4 _ _ qa e1
  generalize upd H3 p4 (.lst ((xs.take i).map V.str ++ [V.str y])) = H4 at k4 W4 f4 e1
  refine ⟨_, hv, hB _ _ ⟨_, rfl, q, _, rfl, SqL.of e1, fun s2 n2 => ?_⟩⟩
  have k5 := Kp.new (a := a) (o := .lst (cutV (xs.map V.str) (some ((j : Nat) : Int)) none)) n2
  have W5 := W4.new (o := .lst (cutV (xs.map V.str) (some ((j : Nat) : Int)) none)) n2
  have f2 : (upd H4 s2 (.lst (cutV (xs.map V.str) (some ((j : Nat) : Int)) none))) s2 = some (.lst ((xs.drop j).map V.str)) := by rw [upd_same, ez2]
  replace f4 := k5 _ _ a4 f4
  generalize upd H4 s2 (.lst (cutV (xs.map V.str) (some ((j : Nat) : Int)) none)) = H5 at k5 W5 f2 f4
  refine ⟨p4, s2, _, _, rfl, rfl, f4, f2, line200 (by rw [List.length_map, List.length_map, List.length_append]; show _ + 1 + _ ≤ 1000; omega), fun p np => ?_⟩
  exact hq _ p y hy (((((k1.trans k2).trans k3).trans k4).trans k5).trans (Kp.new np)) (W5.new np) (by rw [upd_same]; simp only [List.map_append]) (W5.fresh np)
end
def wordsT : List Str := ["", "-", "--1", "-0", "0", "1", "-13", "cnf"]
theorem wordsT_ln : ∀ s ∈ wordsT, s.cps.size ≤ 5 ∧ (∀ c ∈ s.cps.toList, c < 128 ∧ c ≠ 10) := by decide +kernel
theorem LnB.app {b c : Nat} {x y : Str} (h : LnB b x) (k : LnB c y) : LnB (b + c) (x ++ y) := by
  have e : (x ++ y).cps.toList = x.cps.toList ++ y.cps.toList := app_cs x y
  refine ⟨?_, fun z hz => ?_, fun hz => ?_⟩
  · have := app_len x y
    have h1 : (x ++ y).cps.size = x.cps.size + y.cps.size := this
    have := h.sz
    have := k.sz
    omega
  · rw [e] at hz
    exact (List.mem_append.mp hz).elim (h.as z) (k.as z)
  · rw [e] at hz
    exact (List.mem_append.mp hz).elim h.nl k.nl
section
variable {P : Program} {w : World} {K : PySem.W.Frag} {mg : Str → Option Value} {base : Heap} {T : Addr}
def spTurn (K : PySem.W.Frag) : Sp := fun vs H Q _ => ∃ (a l p : Addr) (ds : List Int) (xs : List Str) (b : Nat), vs = [.ref a, .ref p] ∧ Wd H a l ds ∧ H p = some (.lst (xs.map V.str)) ∧ xs ≠ [] ∧ xs.length ≤ 138 ∧ b ≤ 190 ∧ (∀ x ∈ xs, LnB b x) ∧
  ∀ (H' : Hp) (q : Addr) (ys : List Str), Kp a H H' → Wd H' a l ds → H' q = some (.lst (ys.map V.str)) → ys.length ≤ xs.length + 1 → (∀ y ∈ ys, LnB (2 * b + 5) y) → Q (.ref q) H'
theorem ok_turn {f fN fY : Addr} {fd fdN fdY : FuncData} (F : Fun K "_law_line_turned" "_law_line_turned" sLawLineTurned f fd) (B : BT mg)
    (GN : FnOk P w K mg base CX0 1 fN fdN ["w", "many"] spNext) (kN : PySem.W.keepIn K (.ref fN) = true) (bN : Binds K fdN ["w", "many"] []) (gN : mg "_law_next" = some (.ref fN))
    (GY : FnOk P w K mg base CX0 2 fY fdY ["w", "rows"] (spPick K)) (kY : PySem.W.keepIn K (.ref fY) = true) (bY : Binds K fdY ["w", "rows"] []) (gY : mg "_law_pick" = some (.ref fY)) :
    FnOk P w K mg base CX0 3 f fd ["w", "lines"] (spTurn K) := by
  refine F.ok scLawLineTurned (fun vs H Q E h => ?_) (fun cdv A outer s H vs Q E hr h => ?_)
  · obtain ⟨a, l, p, ds, xs, b, rfl, _⟩ := h
    rfl
  · obtain ⟨a, l, p, ds, xs, b, rfl, W, ep, hne, hlen, hb, hx, q⟩ := h
    have nd := scLawLineTurned.nd
    have pa : p ≠ a := W.at'.elim fun n h => ne_of ep h.2 (by intro z; cases z)
    have hpos : 0 < xs.length := List.length_pos_iff.mpr hne
    have hr2 : Room 2 _ := hr
    have hr1 : Room 1 _ := hr.mono (by decide)
    refine ⟨_, (pss_cons (ps_set (i := 2) nd rfl (.inl rfl) (pe_call GN hr1 (by rfl) gN kN bN .nil pass0 (pa_cons (pv 0) (pa_cons (pe_callB call_len_seq (by rfl) B.len PySem.boot_len (pa_cons (pv 1) pa_nil)) pa_nil))))
      (pss_cons (ps_set (i := 3) nd rfl (.inl rfl) (pe_call GN hr1 (by rfl) gN kN bN .nil pass0 (pa_cons (pv 0) (pa_cons (pe_callB call_len_seq (by rfl) B.len PySem.boot_len (pa_cons (pv 1) pa_nil)) pa_nil))))
      (pss_cons (ps_set (i := 4) nd rfl (.inl rfl) (pe_call GN hr1 (by rfl) gN kN bN .nil pass0 (pa_cons (pv 0) (pa_cons (pe_int) pa_nil))))
      (pss_cons (ps_if (pt_cmpR op_eq (pv 4) (pe_int) (nomark _)) (pss_one (ps_ret (pe_op op_cat (pe_slice sl_list (pv 1) po_none (po_some (pv 2))) (pe_slice sl_list (pv 1) (po_some (pe_op op_add (pv 2) (pe_int))) po_none)))) pss_nil)
      (pss_cons (ps_if (pt_cmpR op_eq (pv 4) (pe_int) (nomark _)) (pss_one (ps_ret (pe_op op_cat (pe_op op_cat (pe_slice sl_list (pv 1) po_none (po_some (pv 2))) (pe_lst (pa_cons (pe_ix ix_list (pv 1) (pv 2) (fun _ _ => rfl)) pa_nil))) (pe_slice sl_list (pv 1) (po_some (pv 2)) po_none)))) pss_nil)
      (pss_cons (ps_if (pt_cmpR op_eq (pv 4) (pe_int) (nomark _)) (pss_cons (ps_set (i := 5) nd rfl (.inl rfl) (pe_op op_cat (pe_slice sl_list (pv 1) po_none (po_some (pv 2))) (pe_slice sl_list (pv 1) (po_some (pe_op op_add (pv 2) (pe_int))) po_none)))
      (pss_one (ps_ret (pe_op op_cat (pe_op op_cat (pe_slice sl_list (pv 5) po_none (po_some (pv 3))) (pe_lst (pa_cons (pe_ix ix_list (pv 1) (pv 2) (fun _ _ => rfl)) pa_nil))) (pe_slice sl_list (pv 5) (po_some (pv 3)) po_none))))) pss_nil)
      (pss_cons (ps_set (i := 6) nd rfl (.inl rfl) (pe_split (pe_ix ix_list (pv 1) (pv 2) (fun _ _ => rfl)) (pe_str)))
      (pss_cons (ps_set (i := 7) nd rfl (.inl rfl) (pe_call GN hr1 (by rfl) gN kN bN .nil pass0 (pa_cons (pv 0) (pa_cons (pe_callB call_len_seq (by rfl) B.len PySem.boot_len (pa_cons (pv 6) pa_nil)) pa_nil))))
      (pss_cons (ps_set (i := 8) nd rfl (.inl rfl) (pe_call GY hr2 (by rfl) gY kY bY .nil pass0 (pa_cons (pv 0) (pa_cons (pe_lst (pa_cons (pe_op op_add_str (pe_str) (pe_ix ix_list (pv 6) (pv 7) (fun _ _ => rfl))) (pa_cons (pe_op op_add_str (pe_ix ix_list (pv 6) (pv 7) (fun _ _ => rfl)) (pe_str)) (pa_cons (pe_str) (pa_cons (pe_str) (pa_cons (pe_str) (pa_cons (pe_str) (pa_cons (pe_str) (pa_cons (pe_str) (pa_cons (pe_str) (pa_cons (pe_str) (pa_cons (pe_op op_add_str (pe_str) (pe_ix ix_list (pv 6) (pv 7) (fun _ _ => rfl))) pa_nil)))))))))))) pa_nil))))
      (pss_one (ps_ret (pe_op op_cat (pe_op op_cat (pe_slice sl_list (pv 1) po_none (po_some (pv 2))) (pe_lst (pa_cons (pe_join (pe_str) (pe_op op_cat (pe_op op_cat (pe_slice sl_list (pv 6) po_none (po_some (pv 7))) (pe_lst (pa_cons (pv 8) pa_nil))) (pe_slice sl_list (pv 6) (po_some (pe_op op_add (pv 7) (pe_int))) po_none))) pa_nil))) (pe_slice sl_list (pv 1) (po_some (pe_op op_add (pv 2) (pe_int))) po_none))))))))))))), ?_⟩
    -- at, other, way
    refine ⟨_, rfl, _, rfl, p, _, rfl, .inl (SqL.of ep), a, l, ds, _, rfl, by rw [List.length_map]; omega, W, fun at0 H1 hat k1 _ W1 => ?_⟩
    rw [List.length_map] at hat
    replace hat : at0 < xs.length := by omega
    have e1 := k1 _ _ pa ep
    obtain ⟨y, ey⟩ : ∃ y, xs[at0]? = some y := ⟨_, List.getElem?_eq_getElem hat⟩
    have hyb := hx y (List.mem_of_getElem? ey)
    have eyV : (xs.map V.str)[at0]? = some (.str y) := by rw [List.getElem?_map, ey]; rfl
    refine ⟨_, rfl, _, rfl, p, _, rfl, .inl (SqL.of e1), a, l, ds, _, rfl, by rw [List.length_map]; omega, W1, fun ot H2 hot k2 _ W2 => ?_⟩
    rw [List.length_map] at hot
    replace hot : ot < xs.length := by omega
    have e2 := k2 _ _ pa e1
    refine ⟨_, rfl, a, l, ds, _, rfl, by decide, W2, fun wy H3 hwy k3 _ W3 => ?_⟩
    have e3 := k3 _ _ pa e2
    have k13 := k1.trans (k2.trans k3)
    have hx2 : ∀ z ∈ xs, LnB (2 * b + 5) z := fun z hz => (hx z hz).up (by omega)
    refine ⟨_, rfl, rfl, _, rfl, ?_⟩
    by_cases t0 : wy = 0
    · refine iteT' (decide_eq_true (congrArg V.int (by omega))) ?_
      refine two_te2 (i := at0) (j := at0 + 1) rfl e3 W3 pa (fun H1 R h => ⟨_, rfl, h⟩) (fun H1 R h => ⟨_, rfl, _, _, rfl, rfl, h⟩) (by omega) fun H' p' k' W' e' _ => ?_
      exact q H' p' _ (k13.trans k') W' e' (by rw [List.length_append, List.length_take, List.length_drop]; omega) (fun z hz => (List.mem_append.mp hz).elim (fun h => hx2 z (List.mem_of_mem_take h)) (fun h => hx2 z (List.mem_of_mem_drop h)))
    refine iteF' (decide_eq_false (fun z => t0 (by have := V.int.inj z; omega))) ?_
    refine ⟨_, rfl, rfl, _, rfl, ?_⟩
    by_cases t1 : wy = 1
    · refine iteT' (decide_eq_true (congrArg V.int (by omega))) ?_
      refine ins_te2 (Py := fun z => z = y) (i := at0) (j := at0) rfl e3 W3 pa (fun H1 R h => ⟨_, rfl, h⟩) (fun H1 R h => ⟨_, rfl, h⟩) (by omega) (fun H5 R k5 W5 c => ?_) fun H' p' z hz k' W' e' _ => ?_
      · exact ⟨_, rfl, _, rfl, p, _, _, _, rfl, rfl, SqL.of (k5 _ _ pa e3), atI_nat (j := at0) eyV, c y _ (Kp.refl _) W5 rfl⟩
      · subst hz
        refine q H' p' _ (k13.trans k') W' e' (by rw [List.length_append, List.length_append, List.length_take, List.length_drop]; show _ + 1 + _ ≤ _; omega) (fun u hu => ?_)
        rcases List.mem_append.mp hu with h | h
        · rcases List.mem_append.mp h with h | h
          · exact hx2 u (List.mem_of_mem_take h)
          · rw [List.mem_singleton.mp h]
            exact hyb.up (by omega)
        · exact hx2 u (List.mem_of_mem_drop h)
    refine iteF' (decide_eq_false (fun z => t1 (by have := V.int.inj z; omega))) ?_
    refine ⟨_, rfl, rfl, _, rfl, ?_⟩
    by_cases t2 : wy = 2
    · refine iteT' (decide_eq_true (congrArg V.int (by omega))) ?_
      refine two_te2 (i := at0) (j := at0 + 1) rfl e3 W3 pa (fun H1 R h => ⟨_, rfl, h⟩) (fun H1 R h => ⟨_, rfl, _, _, rfl, rfl, h⟩) (by omega) fun H6 p6 k6 W6 e6 a6 => ?_
      have lr : (xs.take at0 ++ xs.drop (at0 + 1)).length ≤ xs.length := by rw [List.length_append, List.length_take, List.length_drop]; omega
      have mr : ∀ z ∈ xs.take at0 ++ xs.drop (at0 + 1), LnB (2 * b + 5) z := fun z hz => (List.mem_append.mp hz).elim (fun h => hx2 z (List.mem_of_mem_take h)) (fun h => hx2 z (List.mem_of_mem_drop h))
      have ep6 := k6 _ _ pa e3
      refine ins_te2 (Py := fun z => z = y) (i := ot) (j := ot) rfl e6 W6 a6 (fun H1 R h => ⟨_, rfl, h⟩) (fun H1 R h => ⟨_, rfl, h⟩) (by omega) (fun H7 R k7 W7 c => ?_) fun H' p' z hz k' W' e' _ => ?_
      · exact ⟨_, rfl, _, rfl, p, _, _, _, rfl, rfl, SqL.of (k7 _ _ pa ep6), atI_nat (j := at0) eyV, c y _ (Kp.refl _) W7 rfl⟩
      · subst hz
        refine q H' p' _ (k13.trans (k6.trans k')) W' e' (by rw [List.length_append, List.length_append, List.length_take, List.length_drop]; show _ + 1 + _ ≤ _; omega) (fun u hu => ?_)
        rcases List.mem_append.mp hu with h | h
        · rcases List.mem_append.mp h with h | h
          · exact mr u (List.mem_of_mem_take h)
          · rw [List.mem_singleton.mp h]
            exact hyb.up (by omega)
        · exact mr u (List.mem_of_mem_drop h)
    refine iteF' (decide_eq_false (fun z => t2 (by have := V.int.inj z; omega))) ?_
    -- a part
    refine ⟨_, rfl, _, rfl, p, _, _, _, rfl, rfl, SqL.of e3, atI_nat (j := at0) eyV, ⟨y, rfl⟩, y, Str.ofString " ", rfl, rfl, rfl, (by show y.cps.size + 2 ≤ sizeLine; have := hyb.sz; rw [sizeLine_eq]; omega), fun pr npr => ?_⟩
    have k4 := k13.trans (Kp.new npr (o := .lst ((Txt.split y (Str.ofString " ")).map V.str)))
    have W4 := W3.new npr (o := .lst ((Txt.split y (Str.ofString " ")).map V.str))
    have e4 := (Kp.new npr (o := .lst ((Txt.split y (Str.ofString " ")).map V.str)) (a := a)) _ _ pa e3
    have er : (upd H3 pr (.lst ((Txt.split y (Str.ofString " ")).map V.str))) pr = some (.lst ((spS y).map V.str)) := upd_same
    have pra := W3.fresh npr
    generalize upd H3 pr (.lst ((Txt.split y (Str.ofString " ")).map V.str)) = H4 at k4 W4 e4 er
    have hsp : 0 < (spS y).length := List.length_pos_iff.mpr (spS_ne y)
    refine ⟨_, rfl, _, rfl, pr, _, rfl, .inl (SqL.of er), a, l, ds, _, rfl, by rw [List.length_map]; omega, W4, fun k0 H5 hk k5 _ W5 => ?_⟩
    rw [List.length_map] at hk
    replace hk : k0 < (spS y).length := by omega
    have e5 := k5 _ _ pa e4
    replace er := k5 _ _ pra er
    replace k5 := k4.trans k5
    obtain ⟨z, ez⟩ : ∃ z, (spS y)[k0]? = some z := ⟨_, List.getElem?_eq_getElem hk⟩
    have ezV : ((spS y).map V.str)[k0]? = some (.str z) := by rw [List.getElem?_map, ez]; rfl
    obtain ⟨lsp, psp⟩ := hyb.parts2 (by omega)
    have hz := psp z (List.mem_of_getElem? ez)
    have lz : z.length ≤ 190 := Nat.le_trans hz.sz hb
    have lsp2 : (spS y).length ≤ 191 := by
      have := spS_len y
      have := hyb.sz
      omega
    have l0 : (Str.ofString "0").length = 1 := by decide +kernel
    have l9 : (Str.ofString "3").length = 1 := by decide +kernel
    have l8 : (Str.ofString "-").length = 1 := by decide +kernel
    refine ⟨_, rfl, _, rfl, _, rfl, pr, _, _, _, rfl, rfl, SqL.of er, atI_nat (j := k0) ezV, "0", z, rfl, rfl, by rw [sizeLine_eq]; show (Str.ofString "0").length + _ ≤ _; omega, _, rfl, _, rfl, pr, _, _, _, rfl, rfl, SqL.of er, atI_nat (j := k0) ezV, z, "3", rfl, rfl, by rw [sizeLine_eq]; show _ + (Str.ofString "3").length ≤ _; omega, _, rfl, _, rfl, pr, _, _, _, rfl, rfl, SqL.of er, atI_nat (j := k0) ezV, "-", z, rfl, rfl, by rw [sizeLine_eq]; show (Str.ofString "-").length + _ ≤ _; omega, line200 (show 11 ≤ 1000 by decide), fun pk npk => ?_⟩
    refine ⟨a, l, pk, ds, _, .str (Str.ofString "0" ++ z) :: .str (z ++ Str.ofString "3") :: (wordsT.map .str ++ [.str (Str.ofString "-" ++ z)]), rfl, W5.new npk, upd_same, .cons (.str _) (.cons (.str _) (dps_app (dps_ofs wordsT) (.cons (.str _) .nil))), rfl, Nat.succ_pos _, fun H6 v d k6 W6 dv hm => ?_⟩
    obtain ⟨s0, rfl, hs0⟩ : ∃ s0, d = .str s0 ∧ LnB (b + 5) s0 := by
      rcases List.mem_cons.mp hm with rfl | hm
      · exact ⟨_, rfl, (LnB.app (b := 1) (c := b) ⟨by decide +kernel, by decide +kernel, by decide +kernel⟩ hz).up (by omega)⟩
      rcases List.mem_cons.mp hm with rfl | hm
      · exact ⟨_, rfl, (LnB.app (b := b) (c := 1) hz ⟨by decide +kernel, by decide +kernel, by decide +kernel⟩).up (by omega)⟩
      rcases List.mem_append.mp hm with hm | hm
      case inr =>
        rw [List.mem_singleton.mp hm]
        exact ⟨_, rfl, (LnB.app (b := 1) (c := b) ⟨by decide +kernel, by decide +kernel, by decide +kernel⟩ hz).up (by omega)⟩
      obtain ⟨s0, h0, rfl⟩ := List.mem_map.mp hm
      obtain ⟨q1, q2⟩ := wordsT_ln s0 h0
      exact ⟨s0, rfl, by omega, fun c hc => (q2 c hc).1, fun hc => (q2 10 hc).2 rfl⟩
    cases dv
    have kk := k5.trans ((Kp.new npk).trans k6)
    have e6 := k6 _ _ pa ((Kp.new npk (a := a)) _ _ pa e5)
    have er6 := k6 _ _ pra ((Kp.new npk (a := a)) _ _ pra er)
    refine ins_te2 (Py := fun u => LnB (b + (b + 5)) u) (i := at0) (j := at0 + 1) rfl e6 W6 pa (fun H1 R h => ⟨_, rfl, h⟩) (fun H1 R h => ⟨_, rfl, _, _, rfl, rfl, h⟩) (by omega) (fun H7 R k7 W7 c => ?_) fun H' p' u hu k' W' e' _ => ?_
    · refine ⟨⟨_, rfl⟩, ?_⟩
      refine ins_te2 (Py := fun u => u = s0) (i := k0) (j := k0 + 1) rfl (k7 _ _ pra er6) W7 pra (fun H1 R h => ⟨_, rfl, h⟩) (fun H1 R h => ⟨_, rfl, _, _, rfl, rfl, h⟩) (by omega) (fun H8 R8 k8 W8 c8 => ⟨_, rfl, c8 s0 _ (Kp.refl _) W8 rfl⟩) fun H8 p8 u hu k8 W8 e8 _ => ?_
      subst hu
      have eS : (spS y).take k0 ++ [u] ++ (spS y).drop (k0 + 1) = (spS y).set k0 u := by
        rw [List.set_eq_take_append_cons_drop, if_pos hk, List.append_assoc]
        rfl
      rw [eS] at e8
      refine ⟨Str.ofString " ", p8, _, rfl, rfl, .inl (SqL.of e8), ?_, c _ _ k8 W8 (join_set hyb hs0)⟩
      have h1 := len_sum (xs := (spS y).set k0 u) (b := 200) fun v hv => by
        rcases List.mem_or_eq_of_mem_set hv with h | h
        · exact Nat.le_trans (psp v h).sz (by omega)
        · rw [h]
          exact Nat.le_trans hs0.sz (by omega)
      have h0 : (Str.ofString " ").length = 1 := by decide +kernel
      rw [List.length_set] at h1 ⊢
      rw [h0]
      omega
    · refine q H' p' _ (kk.trans k') W' e' (by rw [List.length_append, List.length_append, List.length_take, List.length_drop]; show _ + 1 + _ ≤ _; omega) (fun v hv => ?_)
      rcases List.mem_append.mp hv with h | h
      · rcases List.mem_append.mp h with h | h
        · exact hx2 v (List.mem_of_mem_take h)
        · rw [List.mem_singleton.mp h]
          exact hu.up (by omega)
      · exact hx2 v (List.mem_of_mem_drop h)
end
end C1

/-! A text bent, by the law. -/
namespace C1
open PySem PySem.Spec PyProof.Rows L2 SX
open K0 (Cs digs isNum)
abbrev sLawBent : Stmt := topS 38
theorem scLawBent : FnScope ["w", "text", "way", "at", "lines"] ["w", "text"] (defScope sLawBent) := ⟨rfl, rfl, rfl, by decide +kernel, rfl, by decide +kernel, by decide +kernel⟩
abbrev NLB : List Str := ["w", "text", "way", "at", "lines"]
theorem cs_to (z : Str) (k : Nat) : cs (cutS z none (some ((k : Nat) : Int))) = (cs z).take k := by
  show ((((z.cps.toList.drop (HT.sIx z.length 0 none)).take (HT.sIx z.length z.length (some ((k : Nat) : Int)) - HT.sIx z.length 0 none)).toArray).toList) = z.cps.toList.take k
  rw [HT.sIx_none, HT.sIx_nat, List.drop_zero, Nat.sub_zero, List.toList_toArray]
  have : z.cps.toList.length = z.length := Array.length_toList
  by_cases h : k ≤ z.length
  · rw [Nat.min_eq_left h]
  · rw [Nat.min_eq_right (by omega), List.take_of_length_le (by omega), List.take_of_length_le (by omega)]
theorem cutS_len (z : Str) (lo hi : Option Int) : (cutS z lo hi).length ≤ z.length := cutS_length z lo hi
theorem joinL_end (S : List Nat) : ∀ ps : List (List Nat), ps ≠ [] → TL.joinL S (ps ++ [[]]) = TL.joinL S ps ++ S
  | [], h => absurd rfl h
  | [p], _ => by
    show p ++ (S ++ []) = p ++ S
    rw [List.append_nil]
  | p :: q :: r, _ => by
    show p ++ (S ++ TL.joinL S ((q :: r) ++ [[]])) = (p ++ (S ++ TL.joinL S (q :: r))) ++ S
    rw [joinL_end S (q :: r) (by simp), List.append_assoc, List.append_assoc]
theorem text_join {xs : List Str} (h : xs ≠ []) : Txt.join nlS xs ++ nlS = textL xs := by
  rw [text_eq]
  apply TL.ext_tl
  show (Txt.join nlS xs ++ nlS).cps.toList = (Txt.join nlS (xs ++ [Str.ofString ""])).cps.toList
  rw [app_cs, cs_join, cs_join, List.map_append]
  exact (joinL_end _ _ (by simpa using h)).symm
theorem txl_end {ys : List Str} {b n : Nat} (h : ∀ y ∈ ys, LnB b y) (hl : ys.length + 1 ≤ n) (hn : 2 ≤ n) : TxL b n (Txt.join nlS ys ++ nlS) := by
  cases ys with
  | nil =>
    have e : Txt.join nlS [] ++ nlS = Txt.join nlS [Str.ofString "", Str.ofString ""] := by decide +kernel
    rw [e]
    refine txl_join (by simp) (fun y hy => ?_) hn
    simp only [List.mem_cons, List.mem_nil_iff, or_false, or_self] at hy
    rw [hy]
    exact ln_nil.up (Nat.zero_le _)
  | cons y r =>
    rw [text_join (by simp)]
    exact txl_text h hl
def signT : List Str := ["0", "1", " ", "\n", "-", "x", "p"]
theorem signT_ok : ∀ s ∈ signT, (cs s).length = 1 ∧ ∀ c ∈ cs s, c < 128 := by decide +kernel
theorem str_pos {x : Str} (h : x ≠ Str.ofString "") : 0 < x.length := by
  cases e : x.length with
  | zero =>
    refine absurd (TL.ext_tl ?_) h
    have : x.cps.toList = [] := List.eq_nil_of_length_eq_zero (by rw [Array.length_toList]; exact e)
    show x.cps.toList = (Str.ofString "").cps.toList
    rw [this]
    rfl
  | succ n => omega
section
variable {P : Program} {w : World} {K : PySem.W.Frag} {mg : Str → Option Value} {base : Heap} {T : Addr}
def spBent (K : PySem.W.Frag) : Sp := fun vs H Q _ => ∃ (a l : Addr) (ds : List Int) (x : Str) (b n : Nat), vs = [.ref a, .str x] ∧ Wd H a l ds ∧ x ≠ Str.ofString "" ∧ TxL b n x ∧ b ≤ 190 ∧ n ≤ 138 ∧
  ∀ (H' : Hp) (y : Str), Kp a H H' → Wd H' a l ds → TxL (2 * b + 5) (n + 2) y → Q (.str y) H'
theorem ok_bent {f fN fY fL : Addr} {fd fdN fdY fdL : FuncData} (F : Fun K "_law_bent" "_law_bent" sLawBent f fd) (B : BT mg)
    (GN : FnOk P w K mg base CX0 1 fN fdN ["w", "many"] spNext) (kN : PySem.W.keepIn K (.ref fN) = true) (bN : Binds K fdN ["w", "many"] []) (gN : mg "_law_next" = some (.ref fN))
    (GY : FnOk P w K mg base CX0 2 fY fdY ["w", "rows"] (spPick K)) (kY : PySem.W.keepIn K (.ref fY) = true) (bY : Binds K fdY ["w", "rows"] []) (gY : mg "_law_pick" = some (.ref fY))
    (GL : FnOk P w K mg base CX0 3 fL fdL ["w", "lines"] (spTurn K)) (kL : PySem.W.keepIn K (.ref fL) = true) (bL : Binds K fdL ["w", "lines"] []) (gL : mg "_law_line_turned" = some (.ref fL)) :
    FnOk P w K mg base CX0 4 f fd ["w", "text"] (spBent K) := by
  refine F.ok scLawBent (fun vs H Q E h => ?_) (fun cdv A outer s H vs Q E hr h => ?_)
  · obtain ⟨a, l, ds, x, b, n, rfl, _⟩ := h
    rfl
  · obtain ⟨a, l, ds, x, b, n, rfl, W, hne, hx, hb, hn, q⟩ := h
    have nd := scLawBent.nd
    have hr3 : Room 3 _ := hr
    have hr2 : Room 2 _ := hr.mono (by decide)
    have hr1 : Room 1 _ := hr.mono (by decide)
    refine ⟨_, (pss_cons (ps_set (i := 2) nd rfl (.inl rfl) (pe_call GN hr1 (by rfl) gN kN bN .nil pass0 (pa_cons (pv 0) (pa_cons (pe_int) pa_nil))))
      (pss_cons (ps_set (i := 3) nd rfl (.inl rfl) (pe_call GN hr1 (by rfl) gN kN bN .nil pass0 (pa_cons (pv 0) (pa_cons (pe_callB call_len_str (by rfl) B.len PySem.boot_len (pa_cons (pv 1) pa_nil)) pa_nil))))
      (pss_cons (ps_set (i := 4) nd rfl (.inl rfl) (pe_split (pv 1) (pe_str)))
      (C8.pss_cut (ps_if (PW.pt (pw_and (pt_cmpR op_eq (pe_ix ix_list (pv 4) (pe_op op_sub (pe_callB call_len_seq (by rfl) B.len PySem.boot_len (pa_cons (pv 4) pa_nil)) (pe_int)) (fun _ _ => rfl)) (pe_str) (nomark _)) (pw_and1 (pt_cmpR op_gt (pe_callB call_len_seq (by rfl) B.len PySem.boot_len (pa_cons (pv 4) pa_nil)) (pe_int) (nomark _))))) (pss_one (ps_set (i := 4) nd rfl (.inl rfl) (pe_slice sl_list (pv 4) po_none (po_some (pe_un un_neg pe_int))))) pss_nil)
      (pss_cons (ps_if (pt_cmpR op_lt (pv 2) (pe_int) (nomark _)) (pss_one (ps_ret (pe_op op_add_str (pe_join (pe_str) (pe_call GL hr3 (by rfl) gL kL bL .nil pass0 (pa_cons (pv 0) (pa_cons (pv 4) pa_nil)))) (pe_str)))) pss_nil)
      (pss_cons (ps_if (pt_cmpR op_eq (pv 2) (pe_int) (nomark _)) (pss_one (ps_ret (pe_op op_add_str (pe_slice sl_str (pv 1) po_none (po_some (pv 3))) (pe_slice sl_str (pv 1) (po_some (pe_op op_add (pv 3) (pe_int))) po_none)))) pss_nil)
      (pss_cons (ps_if (pt_cmpR op_eq (pv 2) (pe_int) (nomark _)) (pss_one (ps_ret (pe_op op_add_str (pe_op op_add_str (pe_slice sl_str (pv 1) po_none (po_some (pv 3))) (pe_call GY hr2 (by rfl) gY kY bY .nil pass0 (pa_cons (pv 0) (pa_cons (pe_lst (pa_cons (pe_str) (pa_cons (pe_str) (pa_cons (pe_str) (pa_cons (pe_str) (pa_cons (pe_str) (pa_cons (pe_str) pa_nil))))))) pa_nil)))) (pe_slice sl_str (pv 1) (po_some (pv 3)) po_none)))) pss_nil)
      (pss_cons (ps_if (pt_cmpR op_eq (pv 2) (pe_int) (nomark _)) (pss_one (ps_ret (pe_op op_add_str (pe_op op_add_str (pe_slice sl_str (pv 1) po_none (po_some (pv 3))) (pe_call GY hr2 (by rfl) gY kY bY .nil pass0 (pa_cons (pv 0) (pa_cons (pe_lst (pa_cons (pe_str) (pa_cons (pe_str) (pa_cons (pe_str) (pa_cons (pe_str) (pa_cons (pe_str) (pa_cons (pe_str) pa_nil))))))) pa_nil)))) (pe_slice sl_str (pv 1) (po_some (pe_op op_add (pv 3) (pe_int))) po_none)))) pss_nil)
      (pss_one (ps_ret (pe_slice sl_str (pv 1) po_none (po_some (pv 3))))))))))))), ?_⟩
    have hpos := str_pos hne
    have hsz := hx.size
    have hsz2 : x.length ≤ 138 * (190 + 1) := Nat.le_trans hsz (Nat.mul_le_mul hn (by omega))
    obtain ⟨hln, hls⟩ := hx.lines
    have hp := split_pos x
    refine ⟨_, rfl, a, l, ds, _, rfl, by decide, W, fun wy H1 hwy k1 _ W1 => ?_⟩
    refine ⟨_, rfl, _, rfl, x, rfl, by rw [sizeLine_eq]; omega, a, l, ds, _, rfl, by omega, W1, fun at0 H2 hat k2 _ W2 => ?_⟩
    replace hat : at0 < x.length := by omega
    refine ⟨_, rfl, ⟨x, rfl⟩, x, nlS, rfl, rfl, rfl, (by show x.length + 2 ≤ sizeLine; rw [sizeLine_eq]; omega), fun p np => ?_⟩
    have k3 := (k1.trans k2).trans (Kp.new np (o := .lst ((Txt.split x nlS).map V.str)))
    have W3 := W2.new np (o := .lst ((Txt.split x nlS).map V.str))
    have eP : (upd H2 p (.lst ((Txt.split x nlS).map V.str))) p = some (.lst ((splitL x).map V.str)) := upd_same
    have pa := W2.fresh np
    generalize upd H2 p (.lst ((Txt.split x nlS).map V.str)) = H3 at k3 W3 eP
    have hne2 : splitL x ≠ [] := fun z => by rw [z] at hp; cases hp
    have eL : (splitL x).getLast? = some ((splitL x).getLast hne2) := List.getLast?_eq_some_getLast hne2
    have hlast : atI ((splitL x).map V.str) (((splitL x).length : Int) - 1) = some (.str ((splitL x).getLast hne2)) := by
      rw [show ((splitL x).length : Int) - 1 = (((splitL x).length - 1 : Nat) : Int) by omega]
      exact atI_nat (by rw [List.getElem?_map, ← List.getLast?_eq_getElem?, eL]; rfl)
    refine ⟨fun σ H' => ∃ (p' : Addr) (ys : List Str), σ = [some (.ref a), some (.str x), some (iV wy), some (iV at0), some (.ref p')] ∧ Kp a H H' ∧ Wd H' a l ds ∧ H' p' = some (.lst (ys.map V.str)) ∧ ys ≠ [] ∧ ys.length ≤ n ∧ ∀ y ∈ ys, LnB b y, ?_, ?_⟩
    · refine ⟨_, rfl, _, rfl, p, _, rfl, .inl (SqL.of eP), _, _, rfl, rfl, ?_⟩
      rw [List.length_map]
      refine ⟨p, _, _, _, rfl, rfl, SqL.of eP, hlast, rfl, _, rfl, ?_⟩
      by_cases hL : (splitL x).getLast hne2 = Str.ofString ""
      · refine iteT' (decide_eq_true (by rw [hL])) ?_
        refine ⟨_, rfl, p, _, rfl, .inl (SqL.of eP), _, _, rfl, rfl, _, rfl, ?_⟩
        rw [List.length_map]
        by_cases h1 : 1 < (splitL x).length
        · refine iteT' (decide_eq_true (by omega)) ?_
          refine ⟨_, rfl, _, rfl, _, rfl, p, _, rfl, SqL.of eP, fun r nr => ?_⟩
          have k4 := k3.trans (Kp.new nr (o := .lst (cutV ((splitL x).map V.str) none (some (-1)))))
          have W4 := W3.new nr (o := .lst (cutV ((splitL x).map V.str) none (some (-1))))
          have er : (upd H3 r (.lst (cutV ((splitL x).map V.str) none (some (-1))))) r = some (.lst ((splitL x).dropLast.map V.str)) := by
            refine upd_same.trans (congrArg (fun l => some (HO.lst l)) ?_)
            show ((splitL x).map V.str |>.drop (HT.sIx ((splitL x).map V.str).length 0 none)).take (HT.sIx ((splitL x).map V.str).length ((splitL x).map V.str).length (some (-1)) - HT.sIx ((splitL x).map V.str).length 0 none) = _
            rw [HT.sIx_none, List.drop_zero, List.length_map, Nat.sub_zero]
            rw [show HT.sIx (splitL x).length (splitL x).length (some (-1)) = (splitL x).length - 1 by
              show ((-1 : Int) + ((splitL x).length : Int)).toNat = _
              omega]
            rw [List.dropLast_eq_take, List.map_take]
          exact ⟨r, (splitL x).dropLast, rfl, k4, W4, er, (fun z => by have := congrArg List.length z; rw [List.length_dropLast] at this; simp at this; omega), by rw [List.length_dropLast]; omega, fun y hy => hls y (List.dropLast_subset _ hy)⟩
        · refine iteF' (decide_eq_false (by omega)) ?_
          exact ⟨p, splitL x, rfl, k3, W3, eP, hne2, hln, hls⟩
      · refine iteF' (decide_eq_false (fun z => hL (V.str.inj z))) ?_
        exact ⟨p, splitL x, rfl, k3, W3, eP, hne2, hln, hls⟩
    rintro σ H' ⟨p', ys, rfl, k4, W4, ep', hys, lys, hy⟩
    have lcs : (cs x).length = x.length := Array.length_toList
    have edit : ∀ {y : Str} {m : List Nat} {j : Nat}, m.length ≤ 1 → (∀ c ∈ m, c < 128) → cs y = (cs x).take at0 ++ (m ++ (cs x).drop j) → at0 ≤ j → TxL (2 * b + 5) (n + 2) y := fun hm ha e hj => (hx.edit hm ha e hj).up (by omega) (by omega)
    have sl := cutS_len x
    refine ⟨_, rfl, _, _, rfl, rfl, _, rfl, ?_⟩
    by_cases c4 : wy < 4
    · refine iteT' (decide_eq_true (by omega)) ?_
      refine ⟨⟨_, rfl⟩, _, rfl, _, rfl, a, l, p', ds, ys, b, rfl, W4, ep', hys, by omega, hb, hy, fun H5 q5 zs k5 W5 e5 lz hz => ?_⟩
      refine ⟨nlS, q5, zs, rfl, rfl, .inl (SqL.of e5), ?_, _, nlS, rfl, rfl, ?_, q H5 _ (k4.trans k5) W5 (txl_end hz (by omega) (by omega))⟩
      · have h1 := len_sum (xs := zs) (b := 385) fun z h => Nat.le_trans (hz z h).sz (by omega)
        have h0 : nlS.length = 1 := by decide +kernel
        rw [h0]
        omega
      · have h1 := join_size (y := nlS) (ps := zs) (b := 385) fun z h => Nat.le_trans (hz z h).sz (by omega)
        have h0 : nlS.length = 1 := by decide +kernel
        have h2 : zs.length * (385 + nlS.cps.size) ≤ 139 * (385 + 1) := Nat.mul_le_mul (by omega) (by show 385 + nlS.length ≤ _; omega)
        rw [sizeLine_eq]
        show (Txt.join nlS zs).cps.size + nlS.length ≤ _
        omega
    refine iteF' (decide_eq_false (by omega)) ?_
    refine ⟨_, rfl, rfl, _, rfl, ?_⟩
    by_cases c5 : wy = 4
    · refine iteT' (decide_eq_true (congrArg V.int (by omega))) ?_
      refine ⟨_, rfl, _, rfl, _, rfl, x, rfl, by rw [sizeLine_eq]; omega, _, rfl, _, rfl, _, _, rfl, rfl, _, rfl, x, rfl, by rw [sizeLine_eq]; omega, _, _, rfl, rfl, ?_, q H' _ k4 W4 (edit (m := []) (j := at0 + 1) (by decide) (fun c h => by cases h) ?_ (by omega))⟩
      · have h1 := sl none (some ((at0 : Nat) : Int))
        have h2 := sl (some (((at0 : Nat) : Int) + 1)) none
        rw [sizeLine_eq]
        omega
      · rw [cs_app, cs_to, show ((at0 : Nat) : Int) + 1 = ((at0 + 1 : Nat) : Int) by omega, cs_from]
        rfl
    refine iteF' (decide_eq_false (fun z => c5 (by have := V.int.inj z; omega))) ?_
    have pickT : ∀ {d : PyData} {v : V} {H5 : Hp}, d ∈ signT.map PyData.str → Dp K H5 v d → ∃ s0, v = .str s0 ∧ (cs s0).length = 1 ∧ ∀ c ∈ cs s0, c < 128 := fun {d v H5} hm dv => by
      obtain ⟨s0, h0, rfl⟩ := List.mem_map.mp hm
      cases dv
      exact ⟨s0, rfl, signT_ok s0 h0⟩
    have subs : ∀ {ws : List Str}, (∀ u ∈ ws, u ∈ signT) → ∀ {d : PyData}, d ∈ ws.map PyData.str → d ∈ signT.map PyData.str := fun {ws} h {d} hd => by
      obtain ⟨u, hu, rfl⟩ := List.mem_map.mp hd
      exact List.mem_map.mpr ⟨u, h u hu, rfl⟩
    have h1 := sl none (some ((at0 : Nat) : Int))
    refine ⟨_, rfl, rfl, _, rfl, ?_⟩
    by_cases c6 : wy = 5
    · refine iteT' (decide_eq_true (congrArg V.int (by omega))) ?_
      refine ⟨_, rfl, _, rfl, _, rfl, x, rfl, by rw [sizeLine_eq]; omega, _, rfl, line200 (show 6 ≤ 1000 by decide), fun pk npk => ?_⟩
      refine ⟨a, l, pk, ds, _, (["0", "1", " ", "\n", "-", "x"] : List Str).map .str, rfl, W4.new npk, upd_same, dps_ofs (["0", "1", " ", "\n", "-", "x"] : List Str), rfl, Nat.succ_pos _, fun H5 v d k5 W5 dv hm => ?_⟩
      obtain ⟨s0, rfl, ls, hs⟩ := pickT (subs (by decide +kernel) hm) dv
      have ls2 : s0.length = 1 := by rw [← ls]; exact Array.length_toList.symm
      have h2 := sl (some ((at0 : Nat) : Int)) none
      refine ⟨_, s0, rfl, rfl, by rw [sizeLine_eq]; omega, _, rfl, _, rfl, _, rfl, x, rfl, by rw [sizeLine_eq]; omega, _, _, rfl, rfl, ?_, q H5 _ (k4.trans ((Kp.new npk).trans k5)) W5 (edit (m := cs s0) (j := at0) (by omega) hs ?_ (Nat.le_refl _))⟩
      · rw [sizeLine_eq, app_len]
        omega
      · rw [cs_app, cs_app, cs_to, cs_from, List.append_assoc]
    refine iteF' (decide_eq_false (fun z => c6 (by have := V.int.inj z; omega))) ?_
    refine ⟨_, rfl, rfl, _, rfl, ?_⟩
    by_cases c7 : wy = 6
    · refine iteT' (decide_eq_true (congrArg V.int (by omega))) ?_
      refine ⟨_, rfl, _, rfl, _, rfl, x, rfl, by rw [sizeLine_eq]; omega, _, rfl, line200 (show 6 ≤ 1000 by decide), fun pk npk => ?_⟩
      refine ⟨a, l, pk, ds, _, (["0", "1", " ", "\n", "-", "p"] : List Str).map .str, rfl, W4.new npk, upd_same, dps_ofs (["0", "1", " ", "\n", "-", "p"] : List Str), rfl, Nat.succ_pos _, fun H5 v d k5 W5 dv hm => ?_⟩
      obtain ⟨s0, rfl, ls, hs⟩ := pickT (subs (by decide +kernel) hm) dv
      have ls2 : s0.length = 1 := by rw [← ls]; exact Array.length_toList.symm
      have h2 := sl (some (((at0 : Nat) : Int) + 1)) none
      refine ⟨_, s0, rfl, rfl, by rw [sizeLine_eq]; omega, _, rfl, _, rfl, _, _, rfl, rfl, _, rfl, x, rfl, by rw [sizeLine_eq]; omega, _, _, rfl, rfl, ?_, q H5 _ (k4.trans ((Kp.new npk).trans k5)) W5 (edit (m := cs s0) (j := at0 + 1) (by omega) hs ?_ (by omega))⟩
      · rw [sizeLine_eq, app_len]
        omega
      · rw [cs_app, cs_app, cs_to, show ((at0 : Nat) : Int) + 1 = ((at0 + 1 : Nat) : Int) by omega, cs_from, List.append_assoc]
    refine iteF' (decide_eq_false (fun z => c7 (by have := V.int.inj z; omega))) ?_
    refine ⟨_, rfl, _, rfl, _, rfl, x, rfl, by rw [sizeLine_eq]; omega, q H' _ k4 W4 (edit (m := []) (j := (cs x).length + at0) (by decide) (fun c h => by cases h) ?_ (by omega))⟩
    rw [cs_to, List.drop_of_length_le (by omega)]
    simp
end
end C1

/-! The law's draws of clauses. -/
namespace C1
open PySem PySem.Spec PyProof.Rows L2 SX
abbrev sLawClauses : Stmt := topS 30
theorem scLawClauses : FnScope ["w", "many", "found", "k", "some", "j", "one"] ["w", "many"] (defScope sLawClauses) := ⟨rfl, rfl, rfl, by decide +kernel, rfl, by decide +kernel, by decide +kernel⟩
abbrev NLCl : List Str := ["w", "many", "found", "k", "some", "j", "one"]
def ClIn (m : Nat) (c : List Int) : Prop := c.length ≤ 4 ∧ ∀ i ∈ c, 1 ≤ i.natAbs ∧ i.natAbs ≤ m
section
variable {P : Program} {w : World} {K : PySem.W.Frag} {mg : Str → Option Value} {base : Heap} {T : Addr}
def spDrawC (K : PySem.W.Frag) : Sp := fun vs H Q _ => ∃ (a l : Addr) (ds : List Int) (m : Nat), vs = [.ref a, iV m] ∧ 0 < m ∧ m ≤ 12 ∧ Wd H a l ds ∧
  ∀ (H' : Hp) (p : Addr) (cs : List (List Int)), Kp a H H' → Wd H' a l ds → cs.length ≤ 9 → (∀ c ∈ cs, ClIn m c) → Dp K H' (.ref p) (.tuple (cs.map clD)) → Q (.ref p) H'
theorem ok_drawC {f fN : Addr} {fd fdN : FuncData} (F : Fun K "_law_clauses" "_law_clauses" sLawClauses f fd) (B : BT mg) (BG : Gp mg) (GN : FnOk P w K mg base CX0 1 fN fdN ["w", "many"] spNext) (kN : PySem.W.keepIn K (.ref fN) = true) (bN : Binds K fdN ["w", "many"] []) (gN : mg "_law_next" = some (.ref fN)) :
    FnOk P w K mg base CX0 2 f fd ["w", "many"] (spDrawC K) := by
  refine F.ok scLawClauses (fun vs H Q E h => ?_) (fun cdv A outer s H vs Q E hr h => ?_)
  · obtain ⟨a, l, ds, m, rfl, _⟩ := h
    rfl
  · obtain ⟨a, l, ds, m, rfl, pos, hm, W, q⟩ := h
    have nd := scLawClauses.nd
    have hr1 : Room 1 _ := hr
    refine ⟨_, (pss_cons (ps_set (i := 2) nd rfl (.inl rfl) (pe_lst pa_nil))
      (C8.pss_cut (ps_for PassesOwn.never rfl (pi_range1 (by rfl) BG.range (pa_cons (pe_call GN hr1 (by rfl) gN kN bN .nil pass0 (pa_cons (pv 0) (pa_cons (pe_int) pa_nil))) pa_nil)) (pg_name (i := 3) nd rfl (.inl rfl)) (pss_cons (ps_setLc (i := 4) (own := [("j", 5)]) (g := gName 5) (tt := tYes) (te := tOp (rI0 fun i j => .int (i + j)) (tC (.int 1)) (tCall spNext [] E0 (tCons (tVar 0) (tCons (tVar 1) tNil))))  rfl nd rfl rfl (sw_true rfl rfl rfl (by decide +kernel)) (pi_range1 (by rfl) BG.range (pa_cons (pe_call GN hr1 (by rfl) gN kN bN .nil pass0 (pa_cons (pv 0) (pa_cons (pe_int) pa_nil))) pa_nil)) (blkOk_by (own := [("j", 5)]) (N := NLCl) (sc := defScope sLawClauses) (by decide +kernel)) (fun _ _ _ _ _ => pg_name (i := 5) nd rfl (.inl rfl)) (fun _ _ _ _ _ => pts_nil) (fun _ _ _ _ _ => by exact (pe_op op_add (pe_int) (pe_call GN hr1 (by rfl) gN kN bN .nil pass0 (pa_cons (pv 0) (pa_cons (pv 1) pa_nil))))))
      (pss_one (ps_expr (pe_bm PySem.F.plainAttrs_list PySem.F.slot_list_append PySem.F.type_list_append mt_append (pv 2) (pa_cons (pe_callTy call_tuple_of (by rfl) B.tuple (by decide +kernel) (pa_cons (pe_lc (own := [("one", 6)]) (g := gName 6) (tt := tYes) (te := tOp (rI CMul fun i j => .int (i * j)) (tVar 6) (tOp (rI0 fun i j => .int (i - j)) (tC (.int 1)) (tOp (rI CMul fun i j => .int (i * j)) (tC (.int 2)) (tCall spNext [] E0 (tCons (tVar 0) (tCons (tC (.int 2)) tNil))))))  rfl nd (pi_list (pv 4)) (blkOk_by (own := [("one", 6)]) (N := NLCl) (sc := defScope sLawClauses) (by decide +kernel)) (fun _ _ _ _ _ => pg_name (i := 6) nd rfl (.inl rfl)) (fun _ _ _ _ _ => pts_nil) (fun _ _ _ _ _ => by exact (pe_op op_mul (pv 6) (pe_op op_sub (pe_int) (pe_op op_mul (pe_int) (pe_call GN hr1 (by rfl) gN kN bN .nil pass0 (pa_cons (pv 0) (pa_cons (pe_int) pa_nil)))))))) pa_nil)) pa_nil))))))
      (pss_one (ps_ret (pe_callTy call_tuple_of (by rfl) B.tuple (by decide +kernel) (pa_cons (pv 2) pa_nil)))))), ?_⟩
    refine ⟨Nat.zero_le _, fun F nF => ?_⟩
    have W0 := W.new nF (o := .lst [])
    have k0 : Kp a H (upd H F (.lst [])) := Kp.new nF
    obtain ⟨neF, neFl⟩ := W.ne2 nF
    have eF : (upd H F (.lst [])) F = some (.lst []) := upd_same
    refine ⟨fun σ H' => ∃ (y3 y4 : Option V) (tl : List V) (cs : List (List Int)), σ = [some (.ref a), some (iV m), some (.ref F), y3, y4, none, none] ∧ Kp a H H' ∧ Wd H' a l ds ∧ H' F = some (.lst tl) ∧ DpAll K H' tl (cs.map clD) ∧ cs.length ≤ 9 ∧ ∀ c ∈ cs, ClIn m c, ?_, ?_⟩
    · refine ⟨_, rfl, a, l, ds, 10, rfl, by decide, W0, fun n H1 hn k1 _ W1 => ?_⟩
      refine ⟨n, rfl, by omega, by omega, for_range (n := n) (fun i σ H' => ∃ (y3 y4 : Option V) (tl : List V) (cs : List (List Int)), σ = [some (.ref a), some (iV m), some (.ref F), y3, y4, none, none] ∧ Kp a H H' ∧ Wd H' a l ds ∧ H' F = some (.lst tl) ∧ DpAll K H' tl (cs.map clD) ∧ cs.length = i ∧ ∀ c ∈ cs, ClIn m c) ⟨none, none, [], [], rfl, k0.trans k1, W1, k1 F _ neF eF, .nil, rfl, fun c h => by cases h⟩ (fun i σ H' hi h => ?_) (fun σ H' h => ?_)⟩
      · obtain ⟨y3, y4, tl, cs, rfl, k2, W2, eT, dT, lp, hp⟩ := h
        have ltl := dps_len dT
        rw [List.length_map] at ltl
        refine ⟨_, rfl, a, l, ds, 5, rfl, by decide, W2, fun n5 H3 hn5 k3 _ W3 => ?_⟩
        refine ⟨n5, rfl, by omega, by omega, fun D nD => ?_⟩
        obtain ⟨neD, neDl⟩ := W3.ne2 nD
        refine lc_draw (n := n5) (Pk := fun x => 1 ≤ x ∧ x ≤ m) nD W3 (by omega) (fun j H1 R hj k1 W1 r => ⟨_, rfl, _, rfl, a, l, ds, _, rfl, by omega, W1, fun x H2 hx k2 _ W2 => ⟨_, _, rfl, rfl, ?_⟩⟩) (fun x => rfl) fun H4 xs k4 W4 lxs bxs eD => ?_
        · show R (.int ((1 : Int) + ((x : Nat) : Int))) H2
          rw [show (1 : Int) + ((x : Nat) : Int) = ((1 + x : Nat) : Int) by omega]
          exact r (1 + x) H2 ⟨by omega, by omega⟩ k2 W2
        have k34 := k3.trans k4
        refine ⟨_, rfl, .inl ⟨rfl, _, SqL.of (k34 F _ neF eT)⟩, _, rfl, D, rfl, ⟨_, SqL.of eD⟩, fun D2 nD2 => ?_⟩
        obtain ⟨neD2, neD2l⟩ := W4.ne2 nD2
        refine lc_list (xs := xs.map iV) (fun j H5 => Kp a H4 H5 ∧ Wd H5 a l ds ∧ ∃ zs : List Int, zs.length = j ∧ (∀ z ∈ zs, 1 ≤ z.natAbs ∧ z.natAbs ≤ m) ∧ H5 D2 = some (.lst (zs.map V.int))) ⟨Kp.new nD2, W4.new nD2, [], rfl, (fun z h => by cases h), upd_same⟩ (fun j H5 _ h => SqL.of (h.1 D _ neD eD)) (fun j v H5 hv h => ?_) (fun H5 h => ?_)
        · obtain ⟨k5, W5, zs, lz, hz, e5⟩ := h
          rw [List.getElem?_map] at hv
          obtain ⟨x, ex, rfl⟩ := Option.map_eq_some_iff.mp hv
          obtain ⟨x1, x2⟩ := bxs x (List.mem_of_getElem? ex)
          have hjl : j < xs.length := (List.getElem?_eq_some_iff.mp ex).1
          refine ⟨rfl, _, rfl, _, rfl, a, l, ds, 2, rfl, by decide, W5, fun r H6 hr6 k6 _ W6 => ⟨_, _, rfl, rfl, .inl ⟨by decide, by decide⟩, _, _, rfl, rfl, _, _, rfl, rfl, .inl ⟨by omega, by omega⟩, ?_⟩⟩
          have e6 := k6 D2 _ neD2 e5
          refine ⟨_, e6, by rw [List.length_map]; exact lineS200 (by omega), (k5.trans k6).put nD2, W6.put neD2 neD2l, zs ++ [((x : Nat) : Int) * (1 - 2 * ((r : Nat) : Int))], by rw [List.length_append, lz]; rfl, fun z h => ?_, ?_⟩
          · rcases List.mem_append.mp h with h | h
            · exact hz z h
            · rw [List.mem_singleton.mp h]
              have : r = 0 ∨ r = 1 := by omega
              rcases this with rfl | rfl
              · show 1 ≤ (((x : Nat) : Int) * 1).natAbs ∧ (((x : Nat) : Int) * 1).natAbs ≤ m
                omega
              · show 1 ≤ (((x : Nat) : Int) * (-1)).natAbs ∧ (((x : Nat) : Int) * (-1)).natAbs ≤ m
                omega
          · rw [upd_same, List.map_append]
            rfl
        · obtain ⟨k5, W5, zs, lz, hz, e5⟩ := h
          refine ⟨D2, _, rfl, .inl ⟨SqL.of e5, fun t nt => ?_⟩⟩
          have k35 := k34.trans k5
          have k36 := k35.trans (Kp.new nt (o := .tup (zs.map V.int)))
          have W6 := W5.new nt (o := .tup (zs.map V.int))
          have eT6 := k36 F _ neF eT
          refine ⟨F, _, _, rfl, rfl, eT6, lineS200 (by omega), _, _, _, cs ++ [zs], rfl, (k2.trans k36).put nF, W6.put neF neFl, upd_same, ?_, by rw [List.length_append, lp]; rfl, fun c hc => ?_⟩
          · rw [List.map_append]
            exact push_dps eT6 (stay_dps W2 k36 (noLs_cl _) dT) (noLs_cl _) (.tup (SqT.of upd_same) (dps_ii zs)) (noLs_ii zs)
          · rcases List.mem_append.mp hc with h | h
            · exact hp c h
            · rw [List.mem_singleton.mp h]
              exact ⟨by rw [List.length_map] at lz; omega, hz⟩
      · obtain ⟨y3, y4, tl, cs, rfl, k2, W2, eT, dT, lp, hp⟩ := h
        exact ⟨y3, y4, tl, cs, rfl, k2, W2, eT, dT, by omega, hp⟩
    rintro σ H2 ⟨y3, y4, tl, cs, rfl, k2, W2, eT, dT, lp, hp⟩
    refine ⟨_, rfl, F, _, rfl, .inl ⟨SqL.of eT, fun t nt => ?_⟩⟩
    exact q _ t cs (k2.trans (Kp.new nt)) (W2.new nt) lp hp (.tup (SqT.of upd_same) (dps_stay (same_tup (Same.up nt)) _ _ dT (noLs_cl cs)))
end
end C1

/-! The law's lines of clauses. -/
namespace C1
open PySem PySem.Spec PyProof.Rows L2 SX
open K0 (Cs digs isNum)
abbrev rStrInt : List V → Hp → VK → Prop := fun xs H Q => ∃ i, xs = [.int i] ∧ i.natAbs.log2 < 1920 ∧ Q (.str (toString i)) H
abbrev sLawLine : Stmt := topS 31
abbrev sLawLines : Stmt := topS 32
theorem scLawLine : FnScope ["clause", "one"] ["clause"] (defScope sLawLine) := ⟨rfl, rfl, rfl, by decide +kernel, rfl, by decide +kernel, by decide +kernel⟩
abbrev NLLi : List Str := ["clause", "one"]
theorem scLawLines : FnScope ["clauses", "clause"] ["clauses"] (defScope sLawLines) := ⟨rfl, rfl, rfl, by decide +kernel, rfl, by decide +kernel, by decide +kernel⟩
abbrev NLLs : List Str := ["clauses", "clause"]
theorem of_app (a b : String) : Str.ofString (a ++ b) = Str.ofString a ++ Str.ofString b := by
  apply TL.ext_tl
  show (Str.ofString (a ++ b)).cps.toList = (Str.ofString a ++ Str.ofString b).cps.toList
  rw [app_cs, Str.ofString_eq_toList, Str.ofString_eq_toList, Str.ofString_eq_toList]
  simp
theorem litT_eq (i : Int) : litT i = Str.ofString (toString i) := by
  unfold litT
  cases i with
  | ofNat m =>
    rw [if_neg (by show ¬ ((m : Nat) : Int) < 0; omega)]
    rfl
  | negSucc m =>
    rw [if_pos (by omega)]
    show _ = Str.ofString ("-" ++ toString (m + 1))
    rw [of_app]
    rfl
theorem line_flat : ∀ ps : List (List Nat), TL.joinL [32] (ps ++ [[48]]) = (ps.map fun p => p ++ [32]).flatten ++ [48]
  | [] => rfl
  | [p] => by
    show p ++ ([32] ++ [48]) = ((p ++ [32]) ++ []) ++ [48]
    rw [List.append_nil, List.append_assoc]
  | p :: q :: r => by
    show p ++ ([32] ++ TL.joinL [32] ((q :: r) ++ [[48]])) = ((p ++ [32]) ++ ((q :: r).map fun p => p ++ [32]).flatten) ++ [48]
    rw [line_flat (q :: r)]
    simp only [List.append_assoc]
theorem clT_eq (c : List Int) : Txt.join (Str.ofString "") (c.map fun i => Str.ofString (toString i) ++ Str.ofString " ") ++ Str.ofString "0\n" = clT c ++ nlS := by
  apply TL.ext_tl
  show (Txt.join (Str.ofString "") (c.map fun i => Str.ofString (toString i) ++ Str.ofString " ") ++ Str.ofString "0\n").cps.toList = (clT c ++ nlS).cps.toList
  unfold clT
  rw [app_cs, app_cs, cs_join, cs_join, List.map_append]
  have e1 : (Str.ofString "").cps.toList = [] := by decide +kernel
  have e2 : spB.cps.toList = [32] := by decide +kernel
  have e3 : (Str.ofString "0\n").cps.toList = [48, 10] := by decide +kernel
  have e4 : nlS.cps.toList = [10] := by decide +kernel
  have e5 : [Str.ofString "0"].map (fun p : Str => p.cps.toList) = [[48]] := by decide +kernel
  have e6 : (Str.ofString " ").cps.toList = [32] := by decide +kernel
  rw [e1, e2, e3, e4, e5, joinL_nil, line_flat, List.map_map, List.map_map, List.map_map, List.append_assoc]
  have : ((fun p : Str => p.cps.toList) ∘ fun i : Int => Str.ofString (toString i) ++ Str.ofString " ") = ((fun p : List Nat => p ++ [32]) ∘ (fun p : Str => p.cps.toList) ∘ litT) := by
    funext i
    show (Str.ofString (toString i) ++ Str.ofString " ").cps.toList = (litT i).cps.toList ++ [32]
    rw [app_cs, e6, litT_eq]
  rw [this]
  rfl
section
variable {P : Program} {w : World} {K : PySem.W.Frag} {mg : Str → Option Value} {base : Heap} {T : Addr}
def spLLine (K : PySem.W.Frag) : Sp := fun vs H Q _ => ∃ (a : Addr) (ls : List Int), vs = [.ref a] ∧ SqT K H a (ls.map V.int) ∧ ls.length ≤ 100 ∧ (∀ i ∈ ls, i.natAbs < 1000000000) ∧ ∀ H', Same H H' → Q (.str (clT ls ++ nlS)) H'
theorem ok_lline {f : Addr} {fd : FuncData} (F : Fun K "_law_line" "_law_line" sLawLine f fd) (BL : Bl mg) : FnOk P w K mg base CX0 1 f fd ["clause"] (spLLine K) := by
  refine F.ok scLawLine (fun vs H Q E h => ?_) (fun cdv A outer s H vs Q E hr h => ?_)
  · obtain ⟨a, ls, rfl, _⟩ := h
    rfl
  · obtain ⟨a, ls, rfl, sq, hl, hb, q⟩ := h
    have nd := scLawLine.nd
    refine ⟨_, (pss_one (ps_ret (pe_op op_add_str (pe_join (pe_str) (pe_lc (own := [("one", 1)]) (g := gName 1) (tt := tYes) (te := tOp rAddStr (tCB rStrInt (tCons (tVar 1) tNil)) (tC (.str " ")))  rfl nd (pi_tup (pv 0)) (blkOk_by (own := [("one", 1)]) (N := NLLi) (sc := defScope sLawLine) (by decide +kernel)) (fun _ _ _ _ _ => pg_name (i := 1) nd rfl (.inl rfl)) (fun _ _ _ _ _ => pts_nil) (fun _ _ _ _ _ => by exact (pe_op op_add_str (pe_callTy call_str_int (by rfl) BL.str (by decide +kernel) (pa_cons (pv 1) pa_nil)) (pe_str))))) (pe_str)))), ?_⟩
    have l1 : (Str.ofString " ").length = 1 := by decide +kernel
    have l2 : (Str.ofString "0\n").length = 2 := by decide +kernel
    have lt : ∀ i ∈ ls, (Str.ofString (toString i)).length ≤ 10 := fun i hi => by
      rw [← litT_eq]
      exact litT_len (hb i hi)
    refine ⟨⟨_, rfl⟩, _, rfl, a, rfl, ⟨_, sq⟩, fun D nD => ?_⟩
    refine lc_tupD (xs := ls.map V.int) ((ls.map fun i => Str.ofString (toString i) ++ Str.ofString " ").map .str) (noLs_strs _) (by rw [List.length_map, List.length_map, List.length_map]) (by rw [List.length_map]; omega) sq nD (fun i x d H2 Q2 hxi hdi sm q2 => ?_) (fun H2 acc sm e dp => ?_)
    · rw [List.getElem?_map, List.getElem?_map] at hdi
      rw [List.getElem?_map] at hxi
      obtain ⟨z, ez, rfl⟩ := Option.map_eq_some_iff.mp hxi
      rw [ez] at hdi
      cases hdi
      have hz := lt z (List.mem_of_getElem? ez)
      refine ⟨rfl, _, rfl, z, rfl, ?_, _, _, rfl, rfl, by rw [l1, sizeLine_eq]; omega, q2 _ _ (Same.refl _) (.str _)⟩
      have h1 := hb z (List.mem_of_getElem? ez)
      have : z.natAbs.log2 ≤ z.natAbs := Nat.log2_le_self _
      by_cases h0 : z.natAbs = 0
      · rw [h0]
        decide
      · exact Nat.lt_of_lt_of_le ((Nat.log2_lt h0).mpr (show z.natAbs < 2 ^ 30 by omega)) (by decide)
    · have ea := strs_dps dp
      subst ea
      have hs : ∀ y ∈ ls.map fun i => Str.ofString (toString i) ++ Str.ofString " ", y.length ≤ 11 := fun y hy => by
        obtain ⟨i, hi, rfl⟩ := List.mem_map.mp hy
        have := lt i hi
        rw [app_len, l1]
        omega
      have h1 := len_sum hs
      have h0 : (Str.ofString "").length = 0 := by decide +kernel
      rw [List.length_map] at h1
      refine ⟨Str.ofString "", D, _, rfl, rfl, .inl (SqL.of e), by rw [h0, List.length_map]; omega, _, _, rfl, rfl, ?_, ?_⟩
      · have h3 := join_size (y := Str.ofString "") (ps := ls.map fun i => Str.ofString (toString i) ++ Str.ofString " ") (b := 11) hs
        rw [List.length_map] at h3
        have e0 : (Str.ofString "").cps.size = 0 := h0
        rw [e0] at h3
        rw [l2, sizeLine_eq]
        show (Txt.join (Str.ofString "") _).cps.size + 2 ≤ _
        have h4 : ls.length * (11 + 0) ≤ 100 * 11 := Nat.mul_le_mul hl (Nat.le_refl _)
        omega
      · rw [clT_eq]
        exact q _ sm
def spLLines (K : PySem.W.Frag) : Sp := fun vs H Q _ => ∃ (a : Addr) (cs : List (List Int)), vs = [.ref a] ∧ Dp K H (.ref a) (.tuple (cs.map clD)) ∧ ClsOk cs ∧ ∀ H', Same H H' → Q (.str (textL (clsL cs))) H'
theorem ok_llines {f fL : Addr} {fd fdL : FuncData} (F : Fun K "_law_lines" "_law_lines" sLawLines f fd)
    (GL : FnOk P w K mg base CX0 1 fL fdL ["clause"] (spLLine K)) (kL : PySem.W.keepIn K (.ref fL) = true) (bL : Binds K fdL ["clause"] []) (gL : mg "_law_line" = some (.ref fL)) : FnOk P w K mg base CX0 2 f fd ["clauses"] (spLLines K) := by
  refine F.ok scLawLines (fun vs H Q E h => ?_) (fun cdv A outer s H vs Q E hr h => ?_)
  · obtain ⟨a, cs, rfl, _⟩ := h
    rfl
  · obtain ⟨a, cs, rfl, hd, ok, q⟩ := h
    have nd := scLawLines.nd
    have hr1 : Room 1 _ := hr
    refine ⟨_, (pss_one (ps_ret (pe_join (pe_str) (pe_lc (own := [("clause", 1)]) (g := gName 1) (tt := tYes) (te := tCall (spLLine K) [] E0 (tCons (tVar 1) tNil))  rfl nd (pi_tup (pv 0)) (blkOk_by (own := [("clause", 1)]) (N := NLLs) (sc := defScope sLawLines) (by decide +kernel)) (fun _ _ _ _ _ => pg_name (i := 1) nd rfl (.inl rfl)) (fun _ _ _ _ _ => pts_nil) (fun _ _ _ _ _ => by exact (pe_call GL hr1 (by rfl) gL kL bL .nil pass0 (pa_cons (pv 1) pa_nil))))))), ?_⟩
    obtain ⟨b, xs, e, sq, dp⟩ := dp_tup hd
    cases e
    have lx := dps_len dp
    rw [List.length_map] at lx
    have hl := ok.len
    refine ⟨⟨_, rfl⟩, _, rfl, a, rfl, ⟨_, sq⟩, fun D nD => ?_⟩
    refine lc_tupD (xs := xs) (((clsL cs).map fun x => x ++ nlS).map .str) (noLs_strs _) (by unfold clsL; rw [List.length_map, List.length_map, List.length_map, lx]) (by omega) sq nD (fun i v d H2 Q2 hxi hdi sm q2 => ?_) (fun H2 acc sm e dp2 => ?_)
    · obtain ⟨c, ec, rfl⟩ : ∃ c, cs[i]? = some c ∧ PyData.str (clT c ++ nlS) = d := by
        unfold clsL at hdi
        rw [List.getElem?_map, List.getElem?_map, List.getElem?_map] at hdi
        obtain ⟨s1, h1, rfl⟩ := Option.map_eq_some_iff.mp hdi
        obtain ⟨s2, h2, rfl⟩ := Option.map_eq_some_iff.mp h1
        obtain ⟨c, h3, rfl⟩ := Option.map_eq_some_iff.mp h2
        exact ⟨c, h3, rfl⟩
      have dv : Dp K H v (clD c) := dps_at dp hxi (by rw [List.getElem?_map, ec]; rfl)
      obtain ⟨t, rfl, st⟩ := row_ii dv
      obtain ⟨o1, o2⟩ := ok.ls c (List.mem_of_getElem? ec)
      exact ⟨rfl, _, rfl, t, c, rfl, same_tup sm _ _ st, o1, o2, fun H3 s3 => q2 _ _ s3 (.str _)⟩
    · have ea := strs_dps dp2
      subst ea
      have hs : ∀ y ∈ (clsL cs).map fun x => x ++ nlS, y.length ≤ 2001 := fun y hy => by
        obtain ⟨x, hx, rfl⟩ := List.mem_map.mp hy
        obtain ⟨c, hc, rfl⟩ := List.mem_map.mp hx
        obtain ⟨o1, o2⟩ := ok.ls c hc
        have := clT_len o1 o2
        have h0 : nlS.length = 1 := by decide +kernel
        rw [app_len, h0]
        omega
      have h1 := len_sum hs
      have h0 : (Str.ofString "").length = 0 := by decide +kernel
      have h2 : ((clsL cs).map fun x => x ++ nlS).length = cs.length := by
        unfold clsL
        rw [List.length_map, List.length_map]
      rw [h2] at h1
      exact ⟨Str.ofString "", D, _, rfl, rfl, .inl (SqL.of e), by rw [h0, h2]; omega, q _ sm⟩
end
end C1

/-! The law's reading of a clause. -/
namespace C1
open PySem PySem.Spec PyProof.Rows L2 SX
open K0 (Cs digs isNum)
abbrev sLawNumber : Stmt := topS 33
abbrev sLawClause : Stmt := topS 34
theorem scLawNumber : FnScope ["part", "sign"] ["part"] (defScope sLawNumber) := ⟨rfl, rfl, rfl, by decide +kernel, rfl, by decide +kernel, by decide +kernel⟩
abbrev NLNu : List Str := ["part", "sign"]
theorem scLawClause : FnScope ["line", "parts", "found", "part", "least", "number"] ["line"] (defScope sLawClause) := ⟨rfl, rfl, rfl, by decide +kernel, rfl, by decide +kernel, by decide +kernel⟩
abbrev NLC2 : List Str := ["line", "parts", "found", "part", "least", "number"]
def lnV (x : Str) : Int := if numB x = true then ((numV x : Nat) : Int) else -1
theorem num_pos {t : Cs} (h : isNum t = true) : (NumText.digitsVal t < 1 ↔ t = [48]) := by
  cases t with
  | nil => cases h
  | cons c r =>
    by_cases hc : c = 48
    · by_cases hr : r = []
      · rw [hc, hr]
        exact ⟨fun _ => rfl, fun _ => by decide⟩
      · have : isNum (c :: r) = false := if_pos ⟨hc, hr⟩
        rw [this] at h
        cases h
    · have h2 : isNum (c :: r) = (c :: r).all fun d => decide (d ∈ digs) := if_neg (fun z => hc z.1)
      rw [h2] at h
      have hd := of_decide_eq_true (List.all_eq_true.mp h c (List.mem_cons_self ..))
      have hge : 48 ≤ c := (by decide : ∀ d ∈ digs, 48 ≤ d) c hd
      have := NumText.digitsVal_pos (c := c) (cs := r) (by omega)
      exact ⟨fun z => by omega, fun z => absurd (List.head_eq_of_cons_eq z) hc⟩
theorem cut_last (xs : List V) : cutV xs none (some (-1)) = xs.dropLast := by
  show (xs.drop (HT.sIx xs.length 0 none)).take (HT.sIx xs.length xs.length (some (-1)) - HT.sIx xs.length 0 none) = _
  rw [HT.sIx_none, List.drop_zero, Nat.sub_zero]
  rw [show HT.sIx xs.length xs.length (some (-1)) = xs.length - 1 by
    show ((-1 : Int) + (xs.length : Int)).toNat = _
    omega]
  rw [List.dropLast_eq_take]
theorem least_eq (x : Str) : decide (V.str (cutS x none (some ((1 : Nat) : Int))) = V.str "-") = negB x := by
  unfold negB
  refine decide_eq_decide.mpr ⟨fun z => ?_, fun z => ?_⟩
  · have h := congrArg cs (V.str.inj z)
    rw [cs_to] at h
    have e1 : cs ("-" : Str) = [45] := by decide +kernel
    rw [e1] at h
    cases e : cs x with
    | nil => rw [e] at h; cases h
    | cons c r =>
      rw [e] at h
      exact congrArg some (List.head_eq_of_cons_eq (show [c] = [45] from h))
  · refine congrArg V.str (TL.ext_tl ?_)
    show cs (cutS x none (some ((1 : Nat) : Int))) = cs ("-" : Str)
    have e1 : cs ("-" : Str) = [45] := by decide +kernel
    rw [cs_to, e1]
    cases e : cs x with
    | nil => rw [e] at z; cases z
    | cons c r =>
      rw [e] at z
      show [c] = [45]
      rw [Option.some.inj z]
section
variable {P : Program} {w : World} {K : PySem.W.Frag} {mg : Str → Option Value} {base : Heap} {T : Addr}
def spLNum : Sp := fun vs H Q _ => ∃ x : Str, vs = [.str x] ∧ LnB 600 x ∧ ∀ H', Same H H' → Q (.int (lnV x)) H'
theorem ok_lnumber {f : Addr} {fd : FuncData} (F : Fun K "_law_number" "_law_number" sLawNumber f fd) (B : BT mg) : FnOk P w K mg base CX0 1 f fd ["part"] spLNum := by
  refine F.ok scLawNumber (fun vs H Q E h => ?_) (fun cdv A outer s H vs Q E hr h => ?_)
  · obtain ⟨x, rfl, _⟩ := h
    rfl
  · obtain ⟨x, rfl, hx, q⟩ := h
    have ha := hx.as
    have hz0 := hx.sz
    have hz : x.cps.size ≤ 100000 := Nat.le_trans hz0 (by decide)
    obtain ⟨t, rfl⟩ : ∃ t : Cs, x = S t := ⟨cs x, (S_tl x).symm⟩
    have nd := scLawNumber.nd
    have hu := hr.units
    have hl : t.length ≤ sizeLine := by
      rw [sizeLine_eq]
      have : t.length ≤ 100000 := hz
      omega
    have eB : numB (S t) = isNum t := rfl
    have qf : numB (S t) = false → ∀ H', Same H H' → Q (.int (-1)) H' := fun e H' s => by
      have := q H' s
      unfold lnV at this
      rw [e] at this
      exact this
    refine ⟨_, (C8.pss_cut (ps_if (PW.pt (pw_or (pt_cmpR op_eq (pv 0) (pe_str) (nomark _)) (pw_or (pt_cmpR (op_neD hu) (pe_lc (own := [("sign", 1)]) (g := gName 1) (tt := tTest (tOp rNotInSign (tVar 1) (tC (.str "0123456789")))) (te := tVar 1)  rfl nd (pi_str (pv 0)) (blkOk_by (own := [("sign", 1)]) (N := NLNu) (sc := defScope sLawNumber) (by decide +kernel)) (fun _ _ _ _ _ => pg_name (i := 1) nd rfl (.inl rfl)) (fun _ _ _ _ _ => pts_one (pt_cmpR op_notIn_sign (pv 1) (pe_str) rfl)) (fun _ _ _ _ _ => by exact (pv 1))) (pe_lst pa_nil) (nomark _)) (pw_or1 (PW.pt (pw_and (pt_cmpR op_eq (pe_ix ix_str (pv 0) (pe_int) (fun _ _ => rfl)) (pe_str) (nomark _)) (pw_and1 (pt_cmpR op_ne (pv 0) (pe_str) (nomark _))))))))) (pss_one (ps_ret (pe_un un_neg pe_int))) pss_nil)
      (pss_one (ps_ret (pe_callTy call_int_str (by rfl) B.int (by decide +kernel) (pa_cons (pv 0) pa_nil))))), ?_⟩
    refine ⟨fun σ H' => σ = [some (.str (S t)), none] ∧ Same H H' ∧ numB (S t) = true, ?_, ?_⟩
    · refine ⟨_, rfl, rfl, _, rfl, ?_⟩
      rw [dec_S (b := []) (x := "") rfl]
      cases t with
      | nil => exact iteT ⟨_, rfl, qf rfl H (Same.refl H)⟩
      | cons c r =>
        refine iteF ?_
        have isN : ∀ (n : ¬ (c = 48 ∧ r ≠ [])), isNum (c :: r) = (c :: r).all fun d => decide (d ∈ digs) := fun n => if_neg n
        refine ⟨_, rfl, _, rfl, fun D nD => ?_⟩
        refine lc_strF (x := S (c :: r)) (pb := fun c => !decide (c ∈ digs)) hz (fun c H1 R k => ⟨_, rfl, c, _, rfl, rfl, _, rfl, k⟩) (fun v => ⟨rfl, rfl⟩) ?_
        refine ⟨Nat.zero_le _, fun z nz => ?_⟩
        have sD : Same H (upd (upd H D (.lst ((((c :: r).filter fun c => !decide (c ∈ digs))).map sgn))) z (.lst [])) := (Same.up nD).trans (Same.up nz)
        have eD := (Same.up (o := .lst []) nz) D _ (upd_same (H := H) (a := D) (o := .lst ((((c :: r).filter fun c => !decide (c ∈ digs))).map sgn)))
        refine ⟨.list (((c :: r).filter fun c => !decide (c ∈ digs)).map sgD), .list [], .lst (SqL.of eD) (dps_sgn _), .lst (SqL.of upd_same) .nil, shaped_list _ (fun d hd => ?_), shaped_list [] (fun d hd => by cases hd), _, rfl, ?_⟩
        · obtain ⟨k, hk, rfl⟩ := List.mem_map.mp hd
          have h1 := ha k (List.mem_filter.mp hk).1
          refine ⟨?_, Nat.zero_le _⟩
          show (Array.all #[k] fun c => decide (c < 0x110000)) = true
          simp
          omega
        rw [eqv_nil]
        by_cases hall : ∀ k ∈ c :: r, k ∈ digs
        · have e0 : (c :: r).filter (fun c => !decide (c ∈ digs)) = [] := List.filter_eq_nil_iff.mpr fun k hk => by rw [decide_eq_true (hall k hk)]; decide
          have hA : (c :: r).all (fun d => decide (d ∈ digs)) = true := List.all_eq_true.mpr fun k hk => decide_eq_true (hall k hk)
          generalize hH : (upd (upd H D (.lst ((((c :: r).filter fun c => !decide (c ∈ digs))).map sgn))) z (.lst [])) = H2 at sD
          rw [e0]
          refine iteF ?_
          refine ⟨_, rfl, _, _, c, rfl, rfl, len_S hl, at_S (i := 0) rfl, rfl, _, rfl, ?_⟩
          rw [dec_sig (k := 48) (x := "0") rfl]
          by_cases hc : c = 48
          · rw [decide_eq_true hc]
            refine iteT ?_
            refine ⟨_, rfl, rfl, _, rfl, ?_⟩
            rw [dec_S (b := [48]) (x := "0") rfl]
            by_cases hr2 : r = []
            · refine iteF' (by rw [decide_eq_true (by rw [hc, hr2])]; rfl) ?_
              refine ⟨rfl, sD, ?_⟩
              rw [eB, isN (fun z => z.2 hr2), hA]
            · refine iteT' (by rw [decide_eq_false (fun z => hr2 (List.cons.inj z).2)]; rfl) ⟨_, rfl, qf ?_ _ sD⟩
              rw [eB, show isNum (c :: r) = false from if_pos ⟨hc, hr2⟩]
          · rw [decide_eq_false hc]
            refine iteF ?_
            refine ⟨rfl, sD, ?_⟩
            rw [eB, isN (fun z => hc z.1), hA]
        · have e0 : ((List.filter (fun c => !decide (c ∈ digs)) (c :: r)).map sgD).isEmpty = false := by
            obtain ⟨k, hk⟩ := Classical.not_forall.mp hall
            obtain ⟨h1, h2⟩ := Classical.not_imp.mp hk
            have : k ∈ List.filter (fun c => !decide (c ∈ digs)) (c :: r) := List.mem_filter.mpr ⟨h1, by rw [decide_eq_false h2]; rfl⟩
            cases e : List.filter (fun c => !decide (c ∈ digs)) (c :: r) with
            | nil => rw [e] at this; cases this
            | cons _ _ => rfl
          rw [e0]
          refine iteT ⟨_, rfl, qf ?_ _ sD⟩
          rw [eB]
          have : isNum (c :: r) = false := by
            by_cases hn : c = 48 ∧ r ≠ []
            · exact if_pos hn
            · rw [isN hn]
              exact Bool.eq_false_iff.mpr fun z => hall fun k hk => of_decide_eq_true (List.all_eq_true.mp z k hk)
          rw [this]
    rintro σ H1 ⟨rfl, s1, hb⟩
    obtain ⟨hi, h6⟩ := num_int hb hz0
    refine ⟨_, rfl, S t, _, rfl, hi, h6, ?_⟩
    have := q H1 s1
    unfold lnV at this
    rw [hb] at this
    exact this
theorem lnV_lit {x d : Str} (e : cs d = digS x) : (lnV d < 1 → litB x = false) ∧ (¬ lnV d < 1 → litB x = true ∧ litV x = if negB x = true then 0 - lnV d else lnV d) := by
  have eB : numB d = isNum (digS x) := by rw [← e]; rfl
  have eV : numV d = NumText.digitsVal (digS x) := by rw [← e]; rfl
  unfold lnV litB litV
  rw [eB, eV]
  cases h : isNum (digS x) with
  | false =>
    refine ⟨fun _ => Bool.and_false _, fun z => absurd ?_ z⟩
    rw [if_neg (by decide)]
    decide
  | true =>
    have hp := num_pos h
    rw [if_pos rfl]
    by_cases h0 : digS x = [48]
    · rw [h0]
      exact ⟨fun _ => rfl, fun z => absurd (show ((NumText.digitsVal [48] : Nat) : Int) < 1 by decide) z⟩
    · refine ⟨fun z => absurd (hp.mp (by omega)) h0, fun _ => ⟨by rw [decide_eq_true h0]; rfl, ?_⟩⟩
      split
      · omega
      · rfl
def spLCl (K : PySem.W.Frag) : Sp := fun vs H Q _ => ∃ x : Str, vs = [.str x] ∧ LnB 600 x ∧
  (∀ H', Same H H' → clN x = none → Q .non H') ∧ ∀ (H' : Hp) (t : Addr) (ns : List Int), Same H H' → clN x = some ns → SqT K H' t (ns.map V.int) → Q (.ref t) H'
theorem ok_lclause {f fN : Addr} {fd fdN : FuncData} (F : Fun K "_law_clause" "_law_clause" sLawClause f fd) (B : BT mg)
    (GN : FnOk P w K mg base CX0 1 fN fdN ["part"] spLNum) (kN : PySem.W.keepIn K (.ref fN) = true) (bN : Binds K fdN ["part"] []) (gN : mg "_law_number" = some (.ref fN)) :
    FnOk P w K mg base CX0 2 f fd ["line"] (spLCl K) := by
  refine F.ok scLawClause (fun vs H Q E h => ?_) (fun cdv A outer s H vs Q E hr h => ?_)
  · obtain ⟨x, rfl, _⟩ := h
    rfl
  · obtain ⟨x, rfl, hx, qn, qs⟩ := h
    have nd := scLawClause.nd
    have hr1 : Room 1 _ := hr
    refine ⟨_, (pss_cons (ps_set (i := 1) nd rfl (.inl rfl) (pe_split (pv 0) (pe_str)))
      (pss_cons (ps_if (pt_cmpR op_ne (pe_ix ix_list (pv 1) (pe_op op_sub (pe_callB call_len_seq (by rfl) B.len PySem.boot_len (pa_cons (pv 1) pa_nil)) (pe_int)) (fun _ _ => rfl)) (pe_str) (nomark _)) (pss_one (ps_ret (pe_non))) pss_nil)
      (pss_cons (ps_set (i := 2) nd rfl (.inl rfl) (pe_lst pa_nil))
      (C8.pss_cut (ps_for PassesOwn.never rfl (pi_list (pe_slice sl_list (pv 1) po_none (po_some (pe_un un_neg pe_int)))) (pg_name (i := 3) nd rfl (.inl rfl)) (pss_cons (ps_set (i := 4) nd rfl (.inl rfl) (pe_cmpR op_eq (pe_slice sl_str (pv 3) po_none (po_some (pe_int))) (pe_str) (nomark _)))
      (pss_cons (ps_set (i := 5) nd rfl (.inl rfl) (pe_call GN hr1 (by rfl) gN kN bN .nil pass0 (pa_cons (pe_ifExp (pt_val (pv 4)) (pe_slice sl_str (pv 3) (po_some (pe_int)) po_none) (pv 3)) pa_nil)))
      (pss_cons (ps_if (pt_cmpR op_lt (pv 5) (pe_int) (nomark _)) (pss_one (ps_ret (pe_non))) pss_nil)
      (pss_one (ps_expr (pe_bm PySem.F.plainAttrs_list PySem.F.slot_list_append PySem.F.type_list_append mt_append (pv 2) (pa_cons (pe_ifExp (pt_val (pv 4)) (pe_op op_sub (pe_int) (pv 5)) (pv 5)) pa_nil))))))))
      (pss_one (ps_ret (pe_callTy call_tuple_of (by rfl) B.tuple (by decide +kernel) (pa_cons (pv 2) pa_nil)))))))), ?_⟩
    obtain ⟨hl, hp⟩ := hx.parts2 (Nat.le_refl _)
    obtain ⟨xs, lt, esp⟩ : ∃ xs lt, spS x = xs ++ [lt] := ⟨_, _, (List.dropLast_concat_getLast (spS_ne x)).symm⟩
    have eln : clN x = if lt = Str.ofString "0" ∧ xs.all litB = true then some (xs.map litV) else none := by
      unfold clN
      rw [esp, List.getLast?_concat, List.dropLast_concat]
      by_cases h : lt = Str.ofString "0"
      · rw [h]
        simp
      · rw [if_neg (fun z => h (Option.some.inj z.1)), if_neg (fun z => h z.1)]
    rw [esp] at hl hp
    have hlx : xs.length ≤ 600 := by
      have : (xs ++ [lt]).length = xs.length + 1 := List.length_append
      omega
    have hpx : ∀ z ∈ xs, LnB 600 z := fun z hz => hp z (List.mem_append_left _ hz)
    refine ⟨_, rfl, ⟨x, rfl⟩, x, Str.ofString " ", rfl, rfl, rfl, (by show x.cps.size + 2 ≤ sizeLine; have := hx.sz; rw [sizeLine_eq]; omega), fun pr npr => ?_⟩
    have gP : Same H (upd H pr (.lst ((Txt.split x (Str.ofString " ")).map V.str))) := Same.up npr
    have eP : (upd H pr (.lst ((Txt.split x (Str.ofString " ")).map V.str))) pr = some (.lst ((xs ++ [lt]).map V.str)) := upd_same.trans (congrArg (fun l => some (HO.lst (List.map V.str l))) esp)
    generalize upd H pr (.lst ((Txt.split x (Str.ofString " ")).map V.str)) = H1 at gP eP
    have hlast : atI ((xs ++ [lt]).map V.str) (((((xs ++ [lt]).map V.str).length : Nat) : Int) - 1) = some (.str lt) := by
      rw [List.length_map, List.length_append]
      rw [show ((xs.length + [lt].length : Nat) : Int) - 1 = ((xs.length : Nat) : Int) by show ((xs.length + 1 : Nat) : Int) - 1 = _; omega]
      exact atI_nat (by rw [List.getElem?_map, List.getElem?_append_right (Nat.le_refl _), Nat.sub_self]; rfl)
    refine ⟨_, rfl, _, rfl, pr, _, rfl, .inl (SqL.of eP), _, _, rfl, rfl, pr, _, _, _, rfl, rfl, SqL.of eP, hlast, rfl, _, rfl, ?_⟩
    by_cases hw : lt = Str.ofString "0"
    case neg => exact iteT' (by rw [decide_eq_false (fun z => hw (V.str.inj z))]; rfl) (qn H1 gP (by rw [eln, if_neg (fun z => hw z.1)]))
    refine iteF' (by rw [decide_eq_true (by rw [hw])]; rfl) ?_
    refine ⟨Nat.zero_le _, fun fl nfl => ?_⟩
    have s0 : Same H1 (upd H1 fl (.lst [])) := Same.up nfl
    have e0 : (upd H1 fl (.lst [])) fl = some (.lst []) := upd_same
    have eP0 := s0 _ _ eP
    refine ⟨fun σ H' => ∃ (y3 y4 y5 : Option V), σ = [some (.str x), some (.ref pr), some (.ref fl), y3, y4, y5] ∧ Same H H' ∧ xs.all litB = true ∧ H' fl = some (.lst ((xs.map litV).map V.int)), ?_, ?_⟩
    · refine ⟨_, rfl, _, rfl, _, rfl, pr, _, rfl, SqL.of eP0, fun sp nsp => ?_⟩
      have s1 : Same H1 _ := s0.trans (Same.up nsp (o := .lst (cutV ((xs ++ [lt]).map V.str) none (some (-1)))))
      have e1 := (Same.up nsp (o := .lst (cutV ((xs ++ [lt]).map V.str) none (some (-1))))) _ _ e0
      have esp2 : (upd (upd H1 fl (.lst [])) sp (.lst (cutV ((xs ++ [lt]).map V.str) none (some (-1))))) sp = some (.lst (xs.map V.str)) := upd_same.trans (congrArg (fun l => some (HO.lst l)) (by rw [cut_last, List.map_append]; exact List.dropLast_concat))
      generalize upd (upd H1 fl (.lst [])) sp (.lst (cutV ((xs ++ [lt]).map V.str) none (some (-1)))) = H2 at s1 e1 esp2
      have spfl : sp ≠ fl := fun z => by
        rw [z, e0] at nsp
        cases nsp
      have nflH : H fl = none := by
        cases h : H fl with
        | none => rfl
        | some o => rw [gP _ _ h] at nfl; cases nfl
      refine ⟨sp, rfl, ⟨_, SqL.of esp2⟩, ?_⟩
      refine for_list (xs := xs.map V.str) (fun i σ H' => ∃ (y3 y4 y5 : Option V), σ = [some (.str x), some (.ref pr), some (.ref fl), y3, y4, y5] ∧ Same H H' ∧ H' sp = some (.lst (xs.map V.str)) ∧ (xs.take i).all litB = true ∧ H' fl = some (.lst (((xs.take i).map litV).map V.int))) ⟨none, none, none, rfl, gP.trans s1, esp2, rfl, e1⟩ (fun i σ H' _ h => ?_) (fun i v σ H' hv h => ?_) (fun σ H' h => ?_)
      · obtain ⟨_, _, _, _, _, e, _⟩ := h
        exact SqL.of e
      · obtain ⟨y3, y4, y5, rfl, g, es, ha, ef⟩ := h
        obtain ⟨z, ez, rfl⟩ := str_at hv
        have mz := List.mem_of_getElem? ez
        have hz := hpx z mz
        have hil : i < xs.length := (List.getElem?_eq_some_iff.mp ez).1
        have hzs : z.length ≤ sizeLine := by
          rw [sizeLine_eq]
          have : z.length ≤ 600 := hz.sz
          omega
        have bad : litB z = false → clN x = none := fun e => by
          rw [eln, if_neg (fun y => by have := List.all_eq_true.mp y.2 z mz; rw [e] at this; cases this)]
        refine ⟨_, rfl, _, rfl, z, rfl, hzs, rfl, ?_⟩
        show gName 4 (V.bl (decide (V.str (cutS z none (some ((1 : Nat) : Int))) = V.str "-"))) _ _ _
        rw [least_eq]
        cases hn : negB z with
        | true =>
          have h45 : (cs z).head? = some 45 := of_decide_eq_true hn
          have ed : cs (cutS z (some ((1 : Nat) : Int)) none) = digS z := by
            rw [cs_from]
            unfold digS
            rw [if_pos h45, List.drop_one]
          have hd : LnB 600 (cutS z (some ((1 : Nat) : Int)) none) := by
            refine ⟨Nat.le_trans (cutS_len z _ _) hz.sz, fun c hc => hz.as c ?_, fun hc => hz.nl ?_⟩
            · exact List.mem_of_mem_drop (show c ∈ (cs z).drop 1 by rw [← cs_from]; exact hc)
            · exact List.mem_of_mem_drop (show 10 ∈ (cs z).drop 1 by rw [← cs_from]; exact hc)
          refine ⟨_, rfl, _, rfl, iteT ⟨_, rfl, _, rfl, z, rfl, hzs, cutS z (some ((1 : Nat) : Int)) none, rfl, hd, fun H4 s4 => ?_⟩⟩
          obtain ⟨o1, o2⟩ := lnV_lit (x := z) (d := (cutS z (some ((1 : Nat) : Int)) none)) ed
          refine ⟨_, rfl, _, _, rfl, rfl, _, rfl, ?_⟩
          by_cases hlt : lnV (cutS z (some ((1 : Nat) : Int)) none) < 1
          · exact iteT' (decide_eq_true hlt) (qn _ (g.trans s4) (bad (o1 hlt)))
          · obtain ⟨oB, oV⟩ := o2 hlt
            rw [if_pos hn] at oV
            refine iteF' (decide_eq_false hlt) ?_
            have ef4 := s4 _ _ ef
            refine ⟨_, rfl, .inl ⟨rfl, _, SqL.of ef4⟩, _, rfl, _, rfl, iteT ⟨_, rfl, _, _, rfl, rfl, ?_⟩⟩
            refine ⟨fl, _, _, rfl, rfl, ef4, by rw [List.length_map, List.length_map, List.length_take]; exact lineS200 (by omega), _, _, _, rfl, ?_, ?_, ?_, ?_⟩
            · intro b o hb
              rw [upd_ne (ne_of_none hb nflH)]
              exact s4 _ _ (g _ _ hb)
            · rw [upd_ne spfl]
              exact s4 _ _ es
            · rw [take_snoc ez, List.all_append, ha]
              show (true && (litB z && true)) = true
              rw [oB]
              rfl
            · rw [upd_same, take_snoc ez, List.map_append, List.map_append]
              show _ = some (HO.lst (_ ++ [V.int (litV z)]))
              rw [oV]
        | false =>
          have h45 : ¬ (cs z).head? = some 45 := of_decide_eq_false hn
          have ed : cs z = digS z := by
            unfold digS
            rw [if_neg h45]
          refine ⟨_, rfl, _, rfl, iteF ⟨_, rfl, z, rfl, hz, fun H4 s4 => ?_⟩⟩
          obtain ⟨o1, o2⟩ := lnV_lit (x := z) (d := z) ed
          refine ⟨_, rfl, _, _, rfl, rfl, _, rfl, ?_⟩
          by_cases hlt : lnV z < 1
          · exact iteT' (decide_eq_true hlt) (qn _ (g.trans s4) (bad (o1 hlt)))
          · obtain ⟨oB, oV⟩ := o2 hlt
            rw [if_neg (by rw [hn]; decide)] at oV
            refine iteF' (decide_eq_false hlt) ?_
            have ef4 := s4 _ _ ef
            refine ⟨_, rfl, .inl ⟨rfl, _, SqL.of ef4⟩, _, rfl, _, rfl, iteF ⟨_, rfl, ?_⟩⟩
            refine ⟨fl, _, _, rfl, rfl, ef4, by rw [List.length_map, List.length_map, List.length_take]; exact lineS200 (by omega), _, _, _, rfl, ?_, ?_, ?_, ?_⟩
            · intro b o hb
              rw [upd_ne (ne_of_none hb nflH)]
              exact s4 _ _ (g _ _ hb)
            · rw [upd_ne spfl]
              exact s4 _ _ es
            · rw [take_snoc ez, List.all_append, ha]
              show (true && (litB z && true)) = true
              rw [oB]
              rfl
            · rw [upd_same, take_snoc ez, List.map_append, List.map_append]
              show _ = some (HO.lst (_ ++ [V.int (litV z)]))
              rw [oV]
      · obtain ⟨y3, y4, y5, rfl, g, es, ha, ef⟩ := h
        rw [List.length_map, List.take_length] at ha ef
        exact ⟨_, _, _, rfl, g, ha, ef⟩
    rintro σ H2 ⟨y3, y4, y5, rfl, g, ha, ef⟩
    refine ⟨_, rfl, fl, _, rfl, .inl ⟨SqL.of ef, fun t nt => ?_⟩⟩
    exact qs _ t (xs.map litV) (g.trans (Same.up nt)) (by rw [eln, if_pos ⟨hw, ha⟩]) (SqT.of upd_same)
end
end C1

/-! What is due, by the law. -/
namespace C1
open PySem PySem.Spec PyProof.Rows L2 SX
open K0 (Cs digs isNum)
abbrev rIsN : R2 := fun x y H Q => y = .non ∧ Q (.bl (decide (x = .non))) H
theorem split_nil : splitL (Str.ofString "") = [Str.ofString ""] := by decide +kernel
theorem sw_cell {elt : Expr} {gs : List Comprehension} {scope : Scope} {pos py : Pos} {y : Str} {l : Nat} {env : Env} (hk : env.scope.kind = .function) (hy : env.scope.names.lookup y = some .cell) : swapsWith (.ListComp elt gs scope pos) (some (.Name y py)) l env = pure false := by
  have ky : env.kindOf y = some .cell := hy
  have hb : env.blockKind = .function := by unfold Env.blockKind; rw [hk]; rfl
  unfold swapsWith
  simp only [hb, ky]
  rfl
/-! ### bits -/
abbrev sLawProofDue : Stmt := topS 35
theorem scLawProofDue : FnScope ["text", "lines", "found", "wrong", "line", "k"] ["text"] (defScope sLawProofDue) := ⟨rfl, rfl, rfl, by decide +kernel, rfl, by decide +kernel, by decide +kernel⟩
abbrev NLPD : List Str := ["text", "lines", "found", "wrong", "line", "k"]
def optD : Option (List Int) → PyData
  | none => .none
  | some ns => clD ns
def wrongs : Nat → List Str → List Nat
  | _, [] => []
  | k, y :: ys => if (clN y).isNone = true then k :: wrongs (k + 1) ys else wrongs (k + 1) ys
theorem wrongs_snoc (y : Str) : ∀ (k : Nat) (ys : List Str), wrongs k (ys ++ [y]) = wrongs k ys ++ (if (clN y).isNone = true then [k + ys.length] else [])
  | k, [] => by
    show (if (clN y).isNone = true then k :: wrongs (k + 1) [] else wrongs (k + 1) []) = [] ++ _
    split <;> rfl
  | k, z :: zs => by
    have ih := wrongs_snoc y (k + 1) zs
    show (if (clN z).isNone = true then k :: wrongs (k + 1) (zs ++ [y]) else wrongs (k + 1) (zs ++ [y])) = (if (clN z).isNone = true then k :: wrongs (k + 1) zs else wrongs (k + 1) zs) ++ (if (clN y).isNone = true then [k + (zs.length + 1)] else [])
    rw [ih, show k + (zs.length + 1) = k + 1 + zs.length by omega]
    split <;> rfl
theorem wrongs_len : ∀ (k : Nat) (ys : List Str), (wrongs k ys).length ≤ ys.length
  | _, [] => Nat.le_refl _
  | k, z :: zs => by
    have ih := wrongs_len (k + 1) zs
    unfold wrongs
    split
    · exact Nat.succ_le_succ ih
    · exact Nat.le_succ_of_le ih
theorem readPf_eq : ∀ (k : Nat) (acc : List (List Int)) (ys : List Str), readPf k acc ys = match wrongs k ys with
    | [] => .inr (acc ++ ys.filterMap clN)
    | j :: _ => .inl (j + 1)
  | k, acc, [] => by
    show Sum.inr acc = Sum.inr (acc ++ [])
    rw [List.append_nil]
  | k, acc, y :: ys => by
    unfold readPf wrongs
    cases e : clN y with
    | none => rfl
    | some ns =>
      show readPf (k + 1) (acc ++ [ns]) ys = match wrongs (k + 1) ys with
        | [] => .inr (acc ++ (y :: ys).filterMap clN)
        | j :: _ => .inl (j + 1)
      rw [readPf_eq (k + 1) (acc ++ [ns]) ys, List.filterMap_cons, e, List.append_assoc]
      rfl
theorem wrongs_nil : ∀ (k : Nat) (ys : List Str), wrongs k ys = [] → (ys.map fun y => optD (clN y)) = (ys.filterMap clN).map clD
  | _, [], _ => rfl
  | k, y :: ys, h => by
    unfold wrongs at h
    cases e : clN y with
    | none => rw [e] at h; cases h
    | some ns =>
      rw [e] at h
      have ih := wrongs_nil (k + 1) ys h
      rw [List.map_cons, List.filterMap_cons, e]
      show _ :: _ = _ :: _
      rw [ih]
      rfl
theorem noL_opt (o : Option (List Int)) : noL (optD o) = true := by
  cases o with
  | none => rfl
  | some ns => exact noLs_ii ns
theorem noLs_opt : ∀ ys : List Str, noLs (ys.map fun y => optD (clN y)) = true
  | [] => rfl
  | y :: r => by
    show (noL (optD (clN y)) && noLs (r.map fun y => optD (clN y))) = true
    rw [noL_opt, noLs_opt r]
    rfl
def proofD (x : Str) : PyData := match proofN x with
  | .inr ls => .tuple (ls.map clD)
  | .inl n => iD n
section
variable {P : Program} {w : World} {K : PySem.W.Frag} {mg : Str → Option Value} {base : Heap} {T : Addr}
def spPDue (K : PySem.W.Frag) : Sp := fun vs H Q _ => ∃ x : Str, vs = [.str x] ∧ TxL 250 140 x ∧ ∀ H' v, Same H H' → Dp K H' v (proofD x) → Q v H'
theorem ok_pdue {f fC : Addr} {fd fdC : FuncData} (F : Fun K "_law_proof_due" "_law_proof_due" sLawProofDue f fd) (B : BT mg) (BL : Bl mg)
    (GC : FnOk P w K mg base CX0 2 fC fdC ["line"] (spLCl K)) (kC : PySem.W.keepIn K (.ref fC) = true) (bC : Binds K fdC ["line"] []) (gC : mg "_law_clause" = some (.ref fC)) :
    FnOk P w K mg base CX0 3 f fd ["text"] (spPDue K) := by
  refine F.ok scLawProofDue (fun vs H Q E h => ?_) (fun cdv A outer s H vs Q E hr h => ?_)
  · obtain ⟨x, rfl, _⟩ := h
    rfl
  · obtain ⟨x, rfl, hx, q⟩ := h
    have nd := scLawProofDue.nd
    have hr2 : Room 2 _ := hr
    have hu := hr.units
    refine ⟨_, (pss_cons (ps_set (i := 1) nd rfl (.inl rfl) (pe_split (pv 0) (pe_str)))
      (pss_cons (ps_if (pt_cmpR op_ne (pe_ix ix_list (pv 1) (pe_op op_sub (pe_callB call_len_seq (by rfl) B.len PySem.boot_len (pa_cons (pv 1) pa_nil)) (pe_int)) (fun _ _ => rfl)) (pe_str) (nomark _)) (pss_one (ps_ret (pe_callB call_len_seq (by rfl) B.len PySem.boot_len (pa_cons (pv 1) pa_nil)))) pss_nil)
      (pss_cons (ps_set (i := 2) nd rfl (.inr rfl) (pe_lc (own := [("line", 4)]) (g := gName 4) (tt := tYes) (te := tCall (spLCl K) [] E0 (tCons (tVar 4) tNil))  rfl nd (pi_list (pe_slice sl_list (pv 1) po_none (po_some (pe_un un_neg pe_int)))) (blkOk_by (own := [("line", 4)]) (N := NLPD) (sc := defScope sLawProofDue) (by decide +kernel)) (fun _ _ _ _ _ => pg_name (i := 4) nd rfl (.inl rfl)) (fun _ _ _ _ _ => pts_nil) (fun _ _ _ _ _ => by exact (pe_call GC hr2 (by rfl) gC kC bC .nil pass0 (pa_cons (pv 4) pa_nil)))) (sw_cell rfl rfl))
      (pss_cons (ps_setLc (i := 3) (own := [("k", 5)]) (g := gName 5) (tt := tTest (tOp rIsN (tOp (rIxL K) (tVar 2) (tVar 5)) (tC .non))) (te := tVar 5)  rfl nd rfl rfl (sw_true rfl rfl rfl (by decide +kernel)) (pi_range1 (by rfl) BL.range (pa_cons (pe_callB call_len_seq (by rfl) B.len PySem.boot_len (pa_cons (pv 2) pa_nil)) pa_nil)) (blkOk_by (own := [("k", 5)]) (N := NLPD) (sc := defScope sLawProofDue) (by decide +kernel)) (fun _ _ _ _ _ => pg_name (i := 5) nd rfl (.inl rfl)) (fun _ _ _ _ _ => pts_one (pt_cmpR op_isN (pe_ix ix_list (pv 2) (pv 5) (fun _ _ => rfl)) (pe_non) (nomark _))) (fun _ _ _ _ _ => by exact (pv 5)))
      (pss_one (ps_ret (pe_ifExp (pt_cmpR (op_eqD hu) (pv 3) (pe_lst pa_nil) (nomark _)) (pe_callTy call_tuple_of (by rfl) B.tuple (by decide +kernel) (pa_cons (pv 2) pa_nil)) (pe_op op_add (pe_ix ix_list (pv 3) (pe_int) (fun _ _ => rfl)) (pe_int))))))))), ?_⟩
    obtain ⟨hn, hls⟩ := hx.lines
    have hsz := hx.size
    have hp := split_pos x
    obtain ⟨L, lt, esp⟩ : ∃ L lt, splitL x = L ++ [lt] := ⟨_, _, (List.dropLast_concat_getLast (fun z => by rw [z] at hp; cases hp)).symm⟩
    have eD : linesOf x = L := by
      unfold linesOf
      rw [esp, List.dropLast_concat]
    have lsp : (splitL x).length = L.length + 1 := by
      rw [esp, List.length_append]
      rfl
    have hyl : ∀ y ∈ L, LnB 600 y := fun y h => (hls y (by rw [esp]; exact List.mem_append_left _ h)).up (by decide)
    refine ⟨_, rfl, ⟨x, rfl⟩, x, nlS, rfl, rfl, rfl, (by show x.length + 2 ≤ sizeLine; rw [sizeLine_eq]; show x.cps.size + 2 ≤ _; omega), fun pr npr => ?_⟩
    have gP : Same H (upd H pr (.lst ((Txt.split x nlS).map V.str))) := Same.up npr
    have eP : (upd H pr (.lst ((Txt.split x nlS).map V.str))) pr = some (.lst ((L ++ [lt]).map V.str)) := upd_same.trans (congrArg (fun l => some (HO.lst (List.map V.str l))) esp)
    show gName 1 (.ref pr) _ (upd H pr (.lst ((Txt.split x nlS).map V.str))) _
    generalize upd H pr (.lst ((Txt.split x nlS).map V.str)) = H1 at gP eP
    have hlast : atI ((L ++ [lt]).map V.str) (((((L ++ [lt]).map V.str).length : Nat) : Int) - 1) = some (.str lt) := by
      rw [List.length_map, List.length_append]
      rw [show ((L.length + [lt].length : Nat) : Int) - 1 = ((L.length : Nat) : Int) by show ((L.length + 1 : Nat) : Int) - 1 = _; omega]
      exact atI_nat (by rw [List.getElem?_map, List.getElem?_append_right (Nat.le_refl _), Nat.sub_self]; rfl)
    refine ⟨_, rfl, _, rfl, pr, _, rfl, .inl (SqL.of eP), _, _, rfl, rfl, pr, _, _, _, rfl, rfl, SqL.of eP, hlast, rfl, _, rfl, ?_⟩
    by_cases hw : lt = Str.ofString ""
    case neg =>
      refine iteT' (by rw [decide_eq_false (fun z => hw (V.str.inj z))]; rfl) ⟨_, rfl, pr, _, rfl, .inl (SqL.of eP), q _ _ gP ?_⟩
      have e : proofN x = .inl (splitL x).length := by
        unfold proofN
        rw [if_neg (fun z => ?_), if_neg (fun z => ?_)]
        · unfold wholeB at z
          rw [Bool.and_eq_true] at z
          have z1 := z.1
          rw [esp, List.getLast?_concat] at z1
          exact hw (Option.some.inj (of_decide_eq_true z1))
        · rw [z, split_nil] at esp
          have := congrArg List.getLast? esp
          rw [List.getLast?_concat] at this
          exact hw (Option.some.inj this).symm
      unfold proofD
      rw [e, List.length_map, ← esp]
      exact .int _
    refine iteF' (by rw [decide_eq_true (by rw [hw])]; rfl) ?_
    have eN : proofN x = readPf 0 [] L := by
      unfold proofN
      by_cases h0 : x = Str.ofString ""
      · have : L = [] := by
          rw [h0, split_nil] at lsp
          exact List.eq_nil_of_length_eq_zero (by have : 1 = L.length + 1 := lsp; omega)
        rw [if_pos h0, this]
        rfl
      · rw [if_neg h0, if_pos, eD]
        unfold wholeB
        rw [esp, List.getLast?_concat, hw, decide_eq_true rfl]
        rw [show decide ((L ++ [Str.ofString ""]).length = 1) = false from decide_eq_false (fun z => ?_)]
        · rfl
        · rw [List.length_append] at z
          have hL : L = [] := List.eq_nil_of_length_eq_zero (by have : L.length + 1 = 1 := z; omega)
          rw [hL, hw] at esp
          have := split_back x
          rw [esp] at this
          exact h0 (this.symm.trans (by decide +kernel))
    refine ⟨_, rfl, _, rfl, _, rfl, pr, _, rfl, SqL.of eP, fun sp nsp => ?_⟩
    have s1 : Same H1 (upd H1 sp (.lst (cutV ((L ++ [lt]).map V.str) none (some (-1))))) := Same.up nsp
    have esp2 : (upd H1 sp (.lst (cutV ((L ++ [lt]).map V.str) none (some (-1))))) sp = some (.lst (L.map V.str)) := upd_same.trans (congrArg (fun l => some (HO.lst l)) (by rw [cut_last, List.map_append]; exact List.dropLast_concat))
    generalize upd H1 sp (.lst (cutV ((L ++ [lt]).map V.str) none (some (-1)))) = H2 at s1 esp2
    have hL : L.length ≤ 140 := by omega
    refine ⟨sp, rfl, ⟨_, SqL.of esp2⟩, fun D nD => ?_⟩
    refine lc_listD (xs := L.map V.str) (L.map fun y => optD (clN y)) (noLs_opt L) (by rw [List.length_map, List.length_map]) (by rw [List.length_map]; omega) (SqL.of esp2) nD (fun i v d H3 Q3 hxi hdi sm q3 => ?_) (fun H3 acc sm e3 dp3 => ?_)
    · obtain ⟨y, ey, rfl⟩ := str_at hxi
      rw [List.getElem?_map, ey] at hdi
      obtain rfl : optD (clN y) = d := Option.some.inj hdi
      refine ⟨rfl, _, rfl, y, rfl, hyl y (List.mem_of_getElem? ey), fun H4 s4 en => ?_, fun H4 t ns s4 en st => ?_⟩
      · rw [en] at q3
        exact q3 _ _ s4 .non
      · rw [en] at q3
        exact q3 _ _ s4 (.tup st (dps_ii ns))
    · have l3 := dps_len dp3
      rw [List.length_map] at l3
      refine ⟨_, rfl, D, _, rfl, .inl (SqL.of e3), L.length, by rw [l3], by omega, by omega, fun D2 nD2 => ?_⟩
      refine lc_range (n := L.length) (fun i H4 => Same H3 H4 ∧ H4 D2 = some (.lst ((wrongs 0 (L.take i)).map iV))) ⟨Same.up nD2, upd_same⟩ (fun i H4 hi h => ?_) (fun H4 h => ?_)
      · obtain ⟨s4, e4⟩ := h
        obtain ⟨y, ey⟩ : ∃ y, L[i]? = some y := ⟨_, List.getElem?_eq_getElem hi⟩
        obtain ⟨v, ev, dv⟩ := dps_put dp3 (show (L.map fun y => optD (clN y))[i]? = some (optD (clN y)) by rw [List.getElem?_map, ey]; rfl)
        have hat : atI acc ((0 : Int) + ((i : Nat) : Int)) = some v := by
          rw [Int.zero_add]
          exact atI_nat ev
        refine ⟨rfl, _, rfl, _, rfl, D, _, _, _, rfl, rfl, SqL.of (s4 _ _ e3), hat, rfl, _, rfl, ?_⟩
        have ew : wrongs 0 (L.take (i + 1)) = wrongs 0 (L.take i) ++ (if (clN y).isNone = true then [i] else []) := by
          rw [take_snoc ey, wrongs_snoc, List.length_take, Nat.zero_add, Nat.min_eq_left (by omega)]
        cases ec : clN y with
        | none =>
          rw [ec] at dv
          cases dv
          refine iteT' (decide_eq_true rfl) ⟨_, rfl, _, e4, ?_, ?_, ?_⟩
          · rw [List.length_map]
            have := wrongs_len 0 (L.take i)
            rw [List.length_take] at this
            exact lineS200 (by omega)
          · exact same_put s4 nD2
          · rw [upd_same, ew, ec, List.map_append, Int.zero_add]
            rfl
        | some ns =>
          rw [ec] at dv
          obtain ⟨b, ys, rfl, _⟩ := dp_tup dv
          refine iteF' (decide_eq_false (fun z => by cases z)) ⟨s4, ?_⟩
          rw [ew, ec]
          show _ = some (HO.lst ((wrongs 0 (L.take i) ++ []).map iV))
          rw [List.append_nil]
          exact e4
      · obtain ⟨s4, e4⟩ := h
        rw [List.take_length] at e4
        have er := readPf_eq 0 [] L
        refine ⟨_, rfl, Nat.zero_le _, fun z nz => ?_⟩
        have sz : Same H4 (upd H4 z (.lst [])) := Same.up nz
        refine ⟨.list ((wrongs 0 L).map iD), .list [], .lst (SqL.of (sz _ _ e4)) (dps_ints _), .lst (SqL.of upd_same) .nil, shaped_list _ (cL_int _), shaped_list [] (fun d hd => by cases hd), _, rfl, ?_⟩
        rw [eqv_nil]
        have s34 := s4.trans sz
        have eD3 := s34 _ _ e3
        have sall := (((gP.trans s1).trans sm).trans s4).trans sz
        cases ec : wrongs 0 L with
        | nil =>
          rw [ec] at er
          refine iteT ⟨_, rfl, D, _, rfl, .inl ⟨SqL.of eD3, fun t nt => ?_⟩⟩
          refine q _ _ (sall.trans (Same.up nt)) ?_
          unfold proofD
          rw [eN, er]
          refine .tup (SqT.of upd_same) ?_
          have := dps_stay (same_tup (s34.trans (Same.up nt (o := .tup acc)))) _ _ dp3 (noLs_opt L)
          rw [wrongs_nil 0 L ec] at this
          exact this
        | cons j r =>
          rw [ec] at er
          rw [ec] at e4
          refine iteF ⟨_, rfl, D2, _, _, _, rfl, rfl, SqL.of (sz _ _ e4), atI_nat (j := 0) rfl, _, _, rfl, rfl, q _ _ sall ?_⟩
          unfold proofD
          rw [eN, er]
          exact .int _
end
end C1

/-! What is due of clauses, by the law. -/
namespace C1
open PySem PySem.Spec PyProof.Rows L2 SX
open K0 (Cs digs isNum)
abbrev rAbsL : List V → Hp → VK → Prop := fun xs H Q => ∃ i, xs = [.int i] ∧ Q (.int (if i < 0 then -i else i)) H
abbrev sLawClausesDue : Stmt := topS 36
theorem scLawClausesDue : FnScope ["text", "lines", "heads", "many", "count", "found", "k", "clause", "part", "one"] ["text"] (defScope sLawClausesDue) := ⟨rfl, rfl, rfl, by decide +kernel, rfl, by decide +kernel, by decide +kernel⟩
abbrev NLCD : List Str := ["text", "lines", "heads", "many", "count", "found", "k", "clause", "part", "one"]
theorem split_sp {xs : List Str} (hne : xs ≠ []) (h : ∀ x ∈ xs, 32 ∉ x.cps.toList) : spS (Txt.join spB xs) = xs := TL.split_join (s := 32) (S := []) rfl (by decide +kernel) hne h
theorem sp_free {x y : Str} (h : y ∈ spS x) : 32 ∉ y.cps.toList := PySem.StrLaws.split_free x 32 y h
theorem head_two {x u v : Str} (hu : u ∈ spS x) (hv : v ∈ spS x) : Txt.join spB [u, v] = Str.ofString "p cnf" ↔ (u = "p" ∧ v = "cnf") := by
  constructor
  · intro e
    have h := split_sp (xs := [u, v]) (by simp) (fun y hy => by
      rcases List.mem_cons.mp hy with rfl | hy
      · exact sp_free hu
      · rw [List.mem_singleton.mp hy]
        exact sp_free hv)
    rw [e] at h
    have h2 : spS (Str.ofString "p cnf") = [Str.ofString "p", Str.ofString "cnf"] := by decide +kernel
    rw [h2] at h
    exact ⟨(List.cons.inj h).1.symm, (List.cons.inj (List.cons.inj h).2).1.symm⟩
  · rintro ⟨rfl, rfl⟩
    decide +kernel
theorem eqv_two (u v a b : Str) : PyData.eqv (.list [.str u, .str v]) (.list [.str a, .str b]) = (decide (u = a) && decide (v = b)) := by
  simp only [PyData.eqv, PyData.eqvAll, Bool.and_true]
  rfl
theorem headN_eq {x u v s t : Str} (e : spS x = [u, v, s, t]) : headN x = if u = "p" ∧ v = "cnf" ∧ numB s = true ∧ numB t = true then some [numV s, numV t] else none := by
  unfold headN
  have hu : u ∈ spS x := by rw [e]; simp
  have hv : v ∈ spS x := by rw [e]; simp
  have ht := head_two hu hv
  rw [e]
  have hh : ([u, v, s, t].length = 4 ∧ Txt.join spB ([u, v, s, t].take 2) = Str.ofString "p cnf" ∧ ([u, v, s, t].drop 2).all numB = true) ↔ (u = "p" ∧ v = "cnf" ∧ numB s = true ∧ numB t = true) := by
    show (4 = 4 ∧ Txt.join spB [u, v] = Str.ofString "p cnf" ∧ (numB s && (numB t && true)) = true) ↔ _
    rw [ht, Bool.and_true, Bool.and_eq_true, and_assoc]
    simp
  by_cases h : u = "p" ∧ v = "cnf" ∧ numB s = true ∧ numB t = true
  · rw [if_pos h, if_pos (hh.mpr h)]
    rfl
  · rw [if_neg h, if_neg (fun z => h (hh.mp z))]
theorem okC_flt (m : Nat) (ns : List Int) : ((ns.filter fun z => decide (m < z.natAbs)).map PyData.int).isEmpty = okC m ns := by
  induction ns with
  | nil => rfl
  | cons z r ih =>
    show _ = (decide (z.natAbs ≤ m) && okC m r)
    by_cases h : m < z.natAbs
    · rw [List.filter_cons_of_pos (p := fun z : Int => decide (m < z.natAbs)) (decide_eq_true h), decide_eq_false (by omega)]
      rfl
    · rw [List.filter_cons_of_neg (by rw [decide_eq_false h]; decide), ih, decide_eq_true (by omega)]
      rfl
theorem lay_ii {ns : List Int} : LayAll (ns.map .int) := fun d h => by
  obtain ⟨k, _, rfl⟩ := List.mem_map.mp h
  exact ⟨rfl, Nat.zero_le _⟩
theorem lnV_neg (x : Str) : decide (lnV x < 0) = !numB x := by
  unfold lnV
  cases numB x with
  | false => rfl
  | true =>
    rw [if_pos rfl]
    exact decide_eq_false (by omega)
theorem lay_ln {b : Nat} {x : Str} (h : LnB b x) : PyData.canLay0 (.str x) = true ∧ PyData.depth (.str x) ≤ 5 := by
  refine ⟨?_, Nat.zero_le _⟩
  show (Array.all x.cps fun c => decide (c < 0x110000)) = true
  rw [← Array.all_toList]
  exact List.all_eq_true.mpr fun c hc => decide_eq_true (by have := h.as c hc; omega)
theorem headN_not {x : Str} (h : (spS x).length ≠ 4) : headN x = none := by
  unfold headN
  rw [if_neg (fun z => h z.1)]
def clausesD (x : Str) : PyData := match clausesN x with
  | .inr r => .tuple [iD r.1, .tuple (r.2.map clD)]
  | .inl n => iD n
section
variable {P : Program} {w : World} {K : PySem.W.Frag} {mg : Str → Option Value} {base : Heap} {T : Addr}
def spCDue (K : PySem.W.Frag) : Sp := fun vs H Q _ => ∃ x : Str, vs = [.str x] ∧ TxL 250 140 x ∧ ∀ H' v, Same H H' → Dp K H' v (clausesD x) → Q v H'
theorem ok_cdue {f fC fN : Addr} {fd fdC fdN : FuncData} (F : Fun K "_law_clauses_due" "_law_clauses_due" sLawClausesDue f fd) (B : BT mg) (BL : Bl mg)
    (GC : FnOk P w K mg base CX0 2 fC fdC ["line"] (spLCl K)) (kC : PySem.W.keepIn K (.ref fC) = true) (bC : Binds K fdC ["line"] []) (gC : mg "_law_clause" = some (.ref fC))
    (GN : FnOk P w K mg base CX0 1 fN fdN ["part"] spLNum) (kN : PySem.W.keepIn K (.ref fN) = true) (bN : Binds K fdN ["part"] []) (gN : mg "_law_number" = some (.ref fN)) :
    FnOk P w K mg base CX0 3 f fd ["text"] (spCDue K) := by
  refine F.ok scLawClausesDue (fun vs H Q E h => ?_) (fun cdv A outer s H vs Q E hr h => ?_)
  · obtain ⟨x, rfl, _⟩ := h
    rfl
  · obtain ⟨x, rfl, hx, q⟩ := h
    have nd := scLawClausesDue.nd
    have hr2 : Room 2 _ := hr
    have hr1 : Room 1 _ := hr.mono (by decide)
    have hu := hr.units
    refine ⟨_, (pss_cons (ps_set (i := 1) nd rfl (.inl rfl) (pe_split (pv 0) (pe_str)))
      (pss_cons (ps_if (pt_cmpR op_ne (pe_ix ix_list (pv 1) (pe_op op_sub (pe_callB call_len_seq (by rfl) B.len PySem.boot_len (pa_cons (pv 1) pa_nil)) (pe_int)) (fun _ _ => rfl)) (pe_str) (nomark _)) (pss_one (ps_ret (pe_callB call_len_seq (by rfl) B.len PySem.boot_len (pa_cons (pv 1) pa_nil)))) pss_nil)
      (pss_cons (ps_set (i := 2) nd rfl (.inl rfl) (pe_split (pe_ix ix_list (pv 1) (pe_int) (fun _ _ => rfl)) (pe_str)))
      (C8.pss_cut (ps_if (PW.pt (pw_or (pt_cmpR op_ne (pe_callB call_len_seq (by rfl) B.len PySem.boot_len (pa_cons (pv 2) pa_nil)) (pe_int) (nomark _)) (pw_or (pt_cmpR (op_neD hu) (pe_slice sl_list (pv 2) po_none (po_some (pe_int))) (pe_lst (pa_cons (pe_str) (pa_cons (pe_str) pa_nil))) (nomark _)) (pw_or1 (pt_cmpR (op_neD hu) (pe_lc (own := [("part", 8)]) (g := gName 8) (tt := tTest (tOp (rI0 fun i j => .bl (decide (i < j))) (tCall spLNum [] E0 (tCons (tVar 8) tNil)) (tC (.int 0)))) (te := tVar 8)  rfl nd (pi_list (pe_slice sl_list (pv 2) (po_some (pe_int)) po_none)) (blkOk_by (own := [("part", 8)]) (N := NLCD) (sc := defScope sLawClausesDue) (by decide +kernel)) (fun _ _ _ _ _ => pg_name (i := 8) nd rfl (.inl rfl)) (fun _ _ _ _ _ => pts_one (pt_cmpR op_lt (pe_call GN hr1 (by rfl) gN kN bN .nil pass0 (pa_cons (pv 8) pa_nil)) (pe_int) (nomark _))) (fun _ _ _ _ _ => by exact (pv 8))) (pe_lst pa_nil) (nomark _)))))) (pss_one (ps_ret (pe_int))) pss_nil)
      (pss_cons (ps_asg (pe_tup (pa_cons (pe_callTy call_int_str (by rfl) B.int (by decide +kernel) (pa_cons (pe_ix ix_list (pv 2) (pe_int) (fun _ _ => rfl)) pa_nil)) (pa_cons (pe_callTy call_int_str (by rfl) B.int (by decide +kernel) (pa_cons (pe_ix ix_list (pv 2) (pe_int) (fun _ _ => rfl)) pa_nil)) pa_nil))) (pg_tup (by rfl) (pgs_cons (pg_name (i := 3) nd rfl (.inr rfl)) (pgs_cons (pg_name (i := 4) nd rfl (.inl rfl)) pgs_nil))))
      (pss_cons (ps_set (i := 5) nd rfl (.inl rfl) (pe_lst pa_nil))
      (C8.pss_cut (ps_for PassesOwn.never rfl (pi_range2 (by rfl) BL.range (pa_cons (pe_int) (pa_cons (pe_op op_sub (pe_callB call_len_seq (by rfl) B.len PySem.boot_len (pa_cons (pv 1) pa_nil)) (pe_int)) pa_nil))) (pg_name (i := 6) nd rfl (.inl rfl)) (pss_cons (ps_set (i := 7) nd rfl (.inl rfl) (pe_call GC hr2 (by rfl) gC kC bC .nil pass0 (pa_cons (pe_ix ix_list (pv 1) (pv 6) (fun _ _ => rfl)) pa_nil)))
      (C8.pss_cut (ps_if (PW.pt (pw_or (pt_cmpR op_isN (pv 7) (pe_non) (nomark _)) (pw_or (pt_cmpR (op_neD hu) (pe_lc (own := [("one", 9)]) (g := gName 9) (tt := tTest (tOp (rI0 fun i j => .bl (decide (j < i))) (tCB rAbs (tCons (tVar 9) tNil)) (tVar 3))) (te := tVar 9)  rfl nd (pi_tup (pv 7)) (blkOk_by (own := [("one", 9)]) (N := NLCD) (sc := defScope sLawClausesDue) (by decide +kernel)) (fun _ _ _ _ _ => pg_name (i := 9) nd rfl (.inl rfl)) (fun _ _ _ _ _ => pts_one (pt_cmpR op_gt (pe_callB call_abs (by rfl) BL.abs (by decide +kernel) (pa_cons (pv 9) pa_nil)) (pv 3) (nomark _))) (fun _ _ _ _ _ => by exact (pv 9))) (pe_lst pa_nil) (nomark _)) (pw_or1 (pt_cmpR op_eq (pe_callB call_len_seq (by rfl) B.len PySem.boot_len (pa_cons (pv 5) pa_nil)) (pv 4) (nomark _)))))) (pss_one (ps_ret (pe_op op_add (pv 6) (pe_int)))) pss_nil)
      (pss_one (ps_expr (pe_bm PySem.F.plainAttrs_list PySem.F.slot_list_append PySem.F.type_list_append mt_append (pv 5) (pa_cons (pv 7) pa_nil)))))))
      (pss_one (ps_ret (pe_ifExp (pt_cmpR op_eq (pe_callB call_len_seq (by rfl) B.len PySem.boot_len (pa_cons (pv 5) pa_nil)) (pv 4) (nomark _)) (pe_tup (pa_cons (pv 3) (pa_cons (pe_callTy call_tuple_of (by rfl) B.tuple (by decide +kernel) (pa_cons (pv 5) pa_nil)) pa_nil))) (pe_callB call_len_seq (by rfl) B.len PySem.boot_len (pa_cons (pv 1) pa_nil)))))))))))), ?_⟩
    obtain ⟨hn, hls⟩ := hx.lines
    have hsz := hx.size
    have hp := split_pos x
    obtain ⟨L, lt, esp⟩ : ∃ L lt, splitL x = L ++ [lt] := ⟨_, _, (List.dropLast_concat_getLast (fun z => by rw [z] at hp; cases hp)).symm⟩
    have eD : linesOf x = L := by
      unfold linesOf
      rw [esp, List.dropLast_concat]
    have lsp : (splitL x).length = L.length + 1 := by
      rw [esp, List.length_append]
      rfl
    have hyl : ∀ y ∈ L ++ [lt], LnB 600 y := fun y h => (hls y (by rw [esp]; exact h)).up (by decide)
    have inlQ : ∀ n H' v, clausesN x = .inl n → Same H H' → v = iV n → Q v H' := fun n H' v e s ev => q _ _ s (by
      unfold clausesD
      rw [e, ev]
      exact .int _)
    refine ⟨_, rfl, ⟨x, rfl⟩, x, nlS, rfl, rfl, rfl, (by show x.length + 2 ≤ sizeLine; rw [sizeLine_eq]; show x.cps.size + 2 ≤ _; omega), fun pr npr => ?_⟩
    have gP : Same H (upd H pr (.lst ((Txt.split x nlS).map V.str))) := Same.up npr
    have eP : (upd H pr (.lst ((Txt.split x nlS).map V.str))) pr = some (.lst ((L ++ [lt]).map V.str)) := upd_same.trans (congrArg (fun l => some (HO.lst (List.map V.str l))) esp)
    show gName 1 (.ref pr) _ (upd H pr (.lst ((Txt.split x nlS).map V.str))) _
    generalize upd H pr (.lst ((Txt.split x nlS).map V.str)) = H1 at gP eP
    have lmap : ((L ++ [lt]).map V.str).length = L.length + 1 := by
      rw [List.length_map, List.length_append]
      rfl
    have hlast : atI ((L ++ [lt]).map V.str) (((((L ++ [lt]).map V.str).length : Nat) : Int) - 1) = some (.str lt) := by
      rw [lmap]
      rw [show ((L.length + 1 : Nat) : Int) - 1 = ((L.length : Nat) : Int) by omega]
      exact atI_nat (by rw [List.getElem?_map, List.getElem?_append_right (Nat.le_refl _), Nat.sub_self]; rfl)
    have notW : wholeB x = false → clausesN x = .inl (L.length + 1) := fun e => by
      unfold clausesN
      rw [e, lsp]
      rfl
    refine ⟨_, rfl, _, rfl, pr, _, rfl, .inl (SqL.of eP), _, _, rfl, rfl, pr, _, _, _, rfl, rfl, SqL.of eP, hlast, rfl, _, rfl, ?_⟩
    by_cases hw : lt = Str.ofString ""
    case neg =>
      refine iteT' (by rw [decide_eq_false (fun z => hw (V.str.inj z))]; rfl) ⟨_, rfl, pr, _, rfl, .inl (SqL.of eP), ?_⟩
      refine inlQ (L.length + 1) _ _ (notW ?_) gP (by rw [lmap])
      unfold wholeB
      rw [esp, List.getLast?_concat, decide_eq_false (fun z => hw (Option.some.inj z))]
      rfl
    refine iteF' (by rw [decide_eq_true (by rw [hw])]; rfl) ?_
    obtain ⟨hd, tl, ehd⟩ : ∃ hd tl, L ++ [lt] = hd :: tl := by
      cases e : L ++ [lt] with
      | nil => exact absurd (congrArg List.length e) (by simp)
      | cons a b => exact ⟨a, b, rfl⟩
    have hhd := hyl hd (by rw [ehd]; exact List.mem_cons_self ..)
    -- whole, or a head that is none
    have key : headN hd = none → clausesN x = .inl 1 := fun en => by
      cases hL : L with
      | nil =>
        refine (notW ?_).trans (by rw [hL]; rfl)
        unfold wholeB
        rw [lsp, hL]
        exact Bool.and_false _
      | cons a b =>
        rw [hL] at ehd
        have ea : a = hd := (List.cons.inj ehd).1
        refine clauses_none (hd := hd) (rest := b) ?_ (by rw [eD, hL, ea]) en
        unfold wholeB
        rw [lsp, hL, esp, List.getLast?_concat, hw, decide_eq_true rfl, decide_eq_false (by simp)]
        rfl
    refine ⟨_, rfl, pr, _, _, _, rfl, rfl, SqL.of eP, atI_nat (j := 0) (by rw [ehd]; rfl), ⟨hd, rfl⟩, hd, Str.ofString " ", rfl, rfl, rfl, (by show hd.cps.size + 2 ≤ sizeLine; have := hhd.sz; rw [sizeLine_eq]; omega), fun ph nph => ?_⟩
    have gH : Same H1 (upd H1 ph (.lst ((Txt.split hd (Str.ofString " ")).map V.str))) := Same.up nph
    have eH : (upd H1 ph (.lst ((Txt.split hd (Str.ofString " ")).map V.str))) ph = some (.lst ((spS hd).map V.str)) := upd_same
    show gName 2 (.ref ph) _ (upd H1 ph (.lst ((Txt.split hd (Str.ofString " ")).map V.str))) _
    generalize upd H1 ph (.lst ((Txt.split hd (Str.ofString " ")).map V.str)) = H2 at gH eH
    have lsh : ((spS hd).map V.str).length = (spS hd).length := List.length_map _
    obtain ⟨hl4, hp4⟩ := hhd.parts2 (Nat.le_refl _)
    refine ⟨fun σ H' => σ = [some (.str x), some (.ref pr), some (.ref ph), none, none, none, none, none, none, none] ∧ Same H2 H' ∧ ∃ s t, (spS hd).map V.str = [.str "p", .str "cnf", .str s, .str t] ∧ numB s = true ∧ numB t = true ∧ s ∈ spS hd ∧ t ∈ spS hd ∧ headN hd = some [numV s, numV t], ?_, ?_⟩
    · refine ⟨_, rfl, ph, _, rfl, .inl (SqL.of eH), rfl, _, rfl, ?_⟩
      rw [lsh]
      by_cases h4 : (spS hd).length = 4
      case neg =>
        refine iteT' (by rw [decide_eq_false (fun z => h4 (by have := V.int.inj z; omega))]; rfl) ?_
        exact inlQ 1 _ _ (key (headN_not h4)) (gP.trans gH) rfl
      refine iteF' (by rw [decide_eq_true (by rw [h4]; rfl)]; rfl) ?_
      obtain ⟨u, v, s, t, e4⟩ : ∃ u v s t, spS hd = [u, v, s, t] := by
        match e : spS hd, h4 with
        | [u, v, s, t], _ => exact ⟨u, v, s, t, rfl⟩
      have eh := headN_eq e4
      rw [e4] at eH
      have hu4 : LnB 600 u := hp4 u (by rw [e4]; simp)
      have hv4 : LnB 600 v := hp4 v (by rw [e4]; simp)
      have hs4 : LnB 600 s := hp4 s (by rw [e4]; simp)
      have ht4 : LnB 600 t := hp4 t (by rw [e4]; simp)
      refine ⟨_, rfl, _, rfl, ph, _, rfl, SqL.of eH, fun s1 n1 => ?_⟩
      have c1 : Same H2 (upd H2 s1 (.lst (cutV ([u, v, s, t].map V.str) none (some 2)))) := Same.up n1
      have e1 : (upd H2 s1 (.lst (cutV ([u, v, s, t].map V.str) none (some 2)))) s1 = some (.lst [.str u, .str v]) := upd_same.trans (congrArg (fun l => some (HO.lst l)) (cut_to ([u, v, s, t].map V.str) 2))
      generalize upd H2 s1 (.lst (cutV ([u, v, s, t].map V.str) none (some 2))) = H3 at c1 e1
      refine ⟨line200 (show 2 ≤ 1000 by decide), fun s2 n2 => ?_⟩
      have c2 : Same H3 (upd H3 s2 (.lst [.str "p", .str "cnf"])) := Same.up n2
      refine ⟨.list [.str u, .str v], .list [.str "p", .str "cnf"], .lst (SqL.of (c2 _ _ e1)) (.cons (.str _) (.cons (.str _) .nil)), .lst (SqL.of upd_same) (.cons (.str _) (.cons (.str _) .nil)), shaped_list _ (fun d hd => ?_), by decide +kernel, _, rfl, ?_⟩
      · rcases List.mem_cons.mp hd with rfl | hd
        · exact lay_ln hu4
        · rw [List.mem_singleton.mp hd]
          exact lay_ln hv4
      rw [eqv_two]
      have c12 := c1.trans c2
      generalize upd H3 s2 (.lst [.str "p", .str "cnf"]) = H4 at c2 c12
      by_cases huv : u = "p" ∧ v = "cnf"
      case neg =>
        refine iteT' (by rw [← Bool.decide_and, decide_eq_false huv]; rfl) ?_
        exact inlQ 1 _ _ (key (by rw [eh, if_neg (fun z => huv ⟨z.1, z.2.1⟩)])) ((gP.trans gH).trans c12) rfl
      obtain ⟨rfl, rfl⟩ := huv
      refine iteF' (by rw [decide_eq_true rfl, decide_eq_true rfl]; rfl) ?_
      have eH4 := c12 _ _ eH
      refine ⟨_, rfl, _, rfl, ph, _, rfl, SqL.of eH4, fun s3 n3 => ?_⟩
      have c3 : Same H4 (upd H4 s3 (.lst (cutV ([Str.ofString "p", Str.ofString "cnf", s, t].map V.str) (some 2) none))) := Same.up n3
      have e3 : (upd H4 s3 (.lst (cutV ([Str.ofString "p", Str.ofString "cnf", s, t].map V.str) (some 2) none))) s3 = some (.lst ([s, t].map V.str)) := upd_same.trans (congrArg (fun l => some (HO.lst l)) (cut_hi ([Str.ofString "p", Str.ofString "cnf", s, t].map V.str) 2))
      generalize upd H4 s3 (.lst (cutV ([Str.ofString "p", Str.ofString "cnf", s, t].map V.str) (some 2) none)) = H5 at c3 e3
      refine ⟨s3, rfl, ⟨_, SqL.of e3⟩, fun D nD => ?_⟩
      have hst : ∀ z ∈ [s, t], LnB 600 z := fun z hz => by
        rcases List.mem_cons.mp hz with rfl | hz
        · exact hs4
        · rw [List.mem_singleton.mp hz]
          exact ht4
      obtain ⟨ys, eys⟩ : ∃ ys, [s, t] = ys := ⟨_, rfl⟩
      have lys : ys.length = 2 := by rw [← eys]; rfl
      rw [eys] at e3 hst
      refine lc_list (xs := ys.map V.str) (fun i H6 => Same H5 H6 ∧ H6 D = some (.lst (((ys.take i).filter fun z => !numB z).map V.str))) ⟨Same.up nD, upd_same⟩ (fun i H6 _ h => SqL.of (h.1 _ _ e3)) (fun i v H6 hv h => ?_) (fun H6 h => ?_)
      · obtain ⟨g, e⟩ := h
        obtain ⟨z, ez, rfl⟩ := str_at hv
        have hil : i < ys.length := (List.getElem?_eq_some_iff.mp ez).1
        refine ⟨rfl, _, rfl, z, rfl, hst z (List.mem_of_getElem? ez), fun H7 s7 => ⟨_, _, rfl, rfl, _, rfl, ?_⟩⟩
        rw [lnV_neg]
        have e7 := s7 _ _ e
        cases hb : numB z with
        | true =>
          refine iteF ⟨g.trans s7, ?_⟩
          rw [take_snoc ez, List.filter_append, List.filter_cons_of_neg (by rw [hb]; decide), List.filter_nil, List.append_nil]
          exact e7
        | false =>
          refine iteT ⟨_, rfl, _, e7, ?_, same_put (g.trans s7) nD, ?_⟩
          · rw [List.length_map]
            have := List.length_filter_le (fun z => !numB z) (ys.take i)
            rw [List.length_take] at this
            exact lineS200 (by omega)
          · rw [upd_same, take_snoc ez, List.filter_append, List.filter_cons_of_pos (by rw [hb]; rfl), List.filter_nil, List.map_append]
            rfl
      · obtain ⟨g, e⟩ := h
        rw [List.length_map, List.take_length] at e
        refine ⟨Nat.zero_le _, fun z nz => ?_⟩
        have cz : Same H6 (upd H6 z (.lst [])) := Same.up nz
        refine ⟨.list ((ys.filter fun z => !numB z).map .str), .list [], .lst (SqL.of (cz _ _ e)) (dps_ofs _), .lst (SqL.of upd_same) .nil, shaped_list _ (fun d hd => ?_), shaped_list [] (fun d hd => by cases hd), _, rfl, ?_⟩
        · obtain ⟨y, hy, rfl⟩ := List.mem_map.mp hd
          exact lay_ln (hst y (List.mem_filter.mp hy).1)
        rw [eqv_nil]
        have sall := (((c12.trans c3).trans g).trans cz)
        rw [← eys]
        cases hs : numB s with
        | false =>
          have ef : ([s, t].filter fun z => !numB z) = s :: ([t].filter fun z => !numB z) := List.filter_cons_of_pos (by rw [hs]; rfl)
          rw [ef]
          exact iteT (inlQ 1 _ _ (key (by rw [eh, if_neg (fun z => by rw [hs] at z; cases z.2.2.1)])) ((gP.trans gH).trans sall) rfl)
        | true =>
          have ef : ([s, t].filter fun z => !numB z) = ([t].filter fun z => !numB z) := List.filter_cons_of_neg (by rw [hs]; decide)
          rw [ef]
          cases ht : numB t with
          | false =>
            have ef : ([t].filter fun z => !numB z) = [t] := List.filter_cons_of_pos (by rw [ht]; rfl)
            rw [ef]
            exact iteT (inlQ 1 _ _ (key (by rw [eh, if_neg (fun z => by rw [ht] at z; cases z.2.2.2)])) ((gP.trans gH).trans sall) rfl)
          | true =>
            have ef : ([t].filter fun z => !numB z) = [] := List.filter_cons_of_neg (by rw [ht]; decide)
            rw [ef]
            refine iteF ⟨rfl, sall, s, t, by rw [e4]; rfl, hs, ht, by rw [e4]; simp, by rw [e4]; simp, by rw [eh, if_pos ⟨rfl, rfl, hs, ht⟩]⟩
    rintro σ H3 ⟨rfl, g3, s, t, e4, hs, ht, ms, mt, ehead⟩
    have gA := (gP.trans gH).trans g3
    rw [e4] at eH
    have eH3 := g3 _ _ eH
    obtain ⟨hi1, hi2⟩ := num_int hs (hp4 s ms).sz
    obtain ⟨hj1, hj2⟩ := num_int ht (hp4 t mt).sz
    refine ⟨_, rfl, ph, _, _, _, rfl, rfl, SqL.of eH3, atI_nat (j := 2) rfl, s, _, rfl, hi1, hi2, _, rfl, ph, _, _, _, rfl, rfl, SqL.of eH3, atI_nat (j := 3) rfl, t, _, rfl, hj1, hj2, line200 (show 2 ≤ 1000 by decide), fun tp ntp => ?_⟩
    have cT : Same H3 (upd H3 tp (.tup [iV (numV s), iV (numV t)])) := Same.up ntp
    refine ⟨tp, _, rfl, SqT.of upd_same, rfl, _, _, rfl, _, _, rfl, rfl, ?_⟩
    generalize upd H3 tp (.tup [iV (numV s), iV (numV t)]) = H4 at cT
    obtain ⟨m, em⟩ : ∃ m, numV s = m := ⟨_, rfl⟩
    obtain ⟨n, en⟩ : ∃ n, numV t = n := ⟨_, rfl⟩
    rw [em, en] at ehead
    rw [em, en]
    obtain ⟨rest, eL⟩ : ∃ rest, L = hd :: rest := by
      cases hL : L with
      | nil =>
        rw [hL] at ehd
        have : hd = lt := (List.cons.inj ehd).1.symm
        rw [this, hw] at ehead
        have h0 : headN (Str.ofString "") = none := by decide +kernel
        rw [h0] at ehead
        cases ehead
      | cons a b =>
        rw [hL] at ehd
        exact ⟨b, by rw [(List.cons.inj ehd).1]⟩
    have hwB : wholeB x = true := by
      unfold wholeB
      rw [lsp, eL, esp, List.getLast?_concat, hw, decide_eq_true rfl, decide_eq_false (by simp)]
      rfl
    have eP2 := clauses_some hwB (eD.trans eL) ehead
    have lrest : rest.length + 1 = L.length := by rw [eL]; rfl
    have gB := gA.trans cT
    have ePB := cT _ _ (g3 _ _ (gH _ _ eP))
    refine ⟨Nat.zero_le _, fun fl nfl => ?_⟩
    have cF : Same H4 (upd H4 fl (.lst [])) := Same.up nfl
    have eF : (upd H4 fl (.lst [])) fl = some (.lst []) := upd_same
    have ePF := cF _ _ ePB
    have gF := gB.trans cF
    have prfl : pr ≠ fl := fun z => by rw [z, nfl] at ePB; cases ePB
    have nflH : H fl = none := by
      cases h : H fl with
      | none => rfl
      | some o => rw [gB _ _ h] at nfl; cases nfl
    generalize upd H4 fl (.lst []) = H5 at cF eF ePF gF
    have nrest : ((((((L ++ [lt]).map V.str).length : Nat) : Int) - 1) - 1).toNat = rest.length := by
      rw [lmap]
      omega
    refine ⟨fun σ H' => ∃ (y6 y7 : Option V) (vs : List V) (acc : List (List Int)), σ = [some (.str x), some (.ref pr), some (.ref ph), some (iV m), some (iV n), some (.ref fl), y6, y7, none, none] ∧ Same H H' ∧ H' pr = some (.lst ((L ++ [lt]).map V.str)) ∧ H' fl = some (.lst vs) ∧ DpAll K H' vs (acc.map clD) ∧ acc.length ≤ n ∧ acc.length ≤ 140 ∧ readCl m n 0 [] rest = .inr acc, ?_, ?_⟩
    · refine ⟨_, rfl, pr, _, rfl, .inl (SqL.of ePF), _, _, rfl, rfl, _, _, rfl, ⟨by decide, by decide, by rw [lmap]; omega, by rw [lmap]; omega⟩, for_range (n := _) (fun i σ H' => ∃ (y6 y7 : Option V) (vs : List V) (acc : List (List Int)), σ = [some (.str x), some (.ref pr), some (.ref ph), some (iV m), some (iV n), some (.ref fl), y6, y7, none, none] ∧ Same H H' ∧ H' pr = some (.lst ((L ++ [lt]).map V.str)) ∧ H' fl = some (.lst vs) ∧ DpAll K H' vs (acc.map clD) ∧ acc.length = i ∧ i ≤ n ∧ readCl m n 0 [] rest = readCl m n i acc (rest.drop i)) ⟨none, none, [], [], rfl, gF, ePF, eF, .nil, rfl, Nat.zero_le _, rfl⟩ (fun i σ H' hi h => ?_) (fun σ H' h => ?_)⟩
      · obtain ⟨y6, y7, vs, acc, rfl, g, ep, ef, dacc, lacc, hin, er⟩ := h
        rw [nrest] at hi
        obtain ⟨y, ey⟩ : ∃ y, rest[i]? = some y := ⟨_, List.getElem?_eq_getElem hi⟩
        have edr : rest.drop i = y :: rest.drop (i + 1) := by
          obtain ⟨h1, h2⟩ := List.getElem?_eq_some_iff.mp ey
          rw [List.drop_eq_getElem_cons h1, h2]
        have er2 : readCl m n 0 [] rest = if n ≤ i then .inl (i + 2) else match clN y with
          | none => .inl (i + 2)
          | some ns => if okC m ns = true then readCl m n (i + 1) (acc ++ [ns]) (rest.drop (i + 1)) else .inl (i + 2) := by
          rw [er, edr]
          rfl
        have bad : readCl m n 0 [] rest = .inl (i + 2) → ∀ H7, Same H H7 → Q (.int ((1 : Int) + ((i : Nat) : Int) + 1)) H7 := fun e H7 s7 => inlQ (i + 2) _ _ (by rw [eP2, e]; rfl) s7 (by rw [show (1 : Int) + ((i : Nat) : Int) + 1 = ((i + 2 : Nat) : Int) by omega])
        have ay : atI ((L ++ [lt]).map V.str) ((1 : Int) + ((i : Nat) : Int)) = some (.str y) := by
          rw [show (1 : Int) + ((i : Nat) : Int) = ((i + 1 : Nat) : Int) by omega]
          refine atI_nat ?_
          rw [List.getElem?_map, eL, List.getElem?_append_left (by show i + 1 < rest.length + 1; omega), List.getElem?_cons_succ, ey]
          rfl
        have hy6 := hyl y (by rw [eL]; exact List.mem_append_left _ (List.mem_cons_of_mem _ (List.mem_of_getElem? ey)))
        have lvs : vs.length = acc.length := by
          have := dps_len dacc
          rw [List.length_map] at this
          exact this
        refine ⟨_, rfl, _, rfl, pr, _, _, _, rfl, rfl, SqL.of ep, ay, y, rfl, hy6, fun H6 s6 en6 => ?_, fun H6 t6 ns s6 en6 st6 => ?_⟩
        · refine ⟨fun _ _ => False, ?_, fun _ _ h => h.elim⟩
          refine ⟨_, rfl, rfl, _, rfl, iteT ⟨_, rfl, _, _, rfl, rfl, bad ?_ _ (g.trans s6)⟩⟩
          rw [er2, en6]
          split <;> rfl
        · have gW := g.trans s6
          have ef6 := s6 _ _ ef
          have ep6 := s6 _ _ ep
          have dacc6 := dps_stay (same_tup s6) _ _ dacc (noLs_cl acc)
          have lns : ns.length ≤ 601 := by
            unfold clN at en6
            split at en6
            · cases en6
              rw [List.length_map, List.length_dropLast]
              have := (hy6.parts2 (Nat.le_refl _)).1
              omega
            · cases en6
          refine ⟨fun σ H' => σ = [some (.str x), some (.ref pr), some (.ref ph), some (iV m), some (iV n), some (.ref fl), some (.int ((1 : Int) + ((i : Nat) : Int))), some (.ref t6), none, none] ∧ Same H6 H' ∧ i < n ∧ okC m ns = true, ?_, ?_⟩
          · refine ⟨_, rfl, rfl, _, rfl, iteF ?_⟩
            refine ⟨_, rfl, t6, rfl, ⟨_, st6⟩, fun D nD => ?_⟩
            refine lc_tup (xs := ns.map V.int) (fun j H7 => H7 = upd H6 D (.lst (((ns.take j).filter fun z => decide (m < z.natAbs)).map V.int))) rfl (fun j H7 _ h => ?_) (fun j v H7 hv h => ?_) (fun H7 h => ?_)
            · subst h
              exact same_tup (Same.up nD) _ _ st6
            · subst h
              rw [List.getElem?_map] at hv
              obtain ⟨z, ez, rfl⟩ := Option.map_eq_some_iff.mp hv
              have hjl : j < ns.length := (List.getElem?_eq_some_iff.mp ez).1
              have ed : (decide (((m : Nat) : Int) < (if z < 0 then -z else z))) = decide (m < z.natAbs) := decide_eq_decide.mpr (by split <;> omega)
              refine ⟨rfl, _, rfl, z, rfl, _, rfl, _, _, rfl, rfl, _, rfl, ?_⟩
              rw [ed]
              by_cases hz : m < z.natAbs
              · refine iteT' (decide_eq_true hz) ⟨_, rfl, _, upd_same, ?_, ?_⟩
                · rw [List.length_map, sizeLine_eq]
                  have := List.length_filter_le (fun z : Int => decide (m < z.natAbs)) (ns.take j)
                  rw [List.length_take] at this
                  omega
                · rw [upd_upd, take_snoc ez, List.filter_append, List.filter_cons_of_pos (p := fun z : Int => decide (m < z.natAbs)) (decide_eq_true hz), List.filter_nil, List.map_append]
                  rfl
              · refine iteF' (decide_eq_false hz) ?_
                rw [take_snoc ez, List.filter_append, List.filter_cons_of_neg (by rw [decide_eq_false hz]; decide), List.filter_nil, List.append_nil]
            · subst h
              rw [List.length_map, List.take_length]
              refine ⟨Nat.zero_le _, fun z nz => ?_⟩
              have c7 : Same H6 (upd H6 D (.lst ((ns.filter fun z => decide (m < z.natAbs)).map V.int))) := Same.up nD
              have eD7 : (upd H6 D (.lst ((ns.filter fun z => decide (m < z.natAbs)).map V.int))) D = some (.lst ((ns.filter fun z => decide (m < z.natAbs)).map V.int)) := upd_same
              generalize upd H6 D (.lst ((ns.filter fun z => decide (m < z.natAbs)).map V.int)) = H7 at c7 eD7 nz
              have cz : Same H7 (upd H7 z (.lst [])) := Same.up nz
              refine ⟨.list ((ns.filter fun z => decide (m < z.natAbs)).map .int), .list [], .lst (SqL.of (cz _ _ eD7)) (dps_ii _), .lst (SqL.of upd_same) .nil, shaped_list _ lay_ii, shaped_list [] (fun d hd => by cases hd), _, rfl, ?_⟩
              rw [eqv_nil, okC_flt]
              have c67 := c7.trans cz
              cases ha : okC m ns with
              | false =>
                refine iteT ⟨_, rfl, _, _, rfl, rfl, bad ?_ _ (gW.trans c67)⟩
                rw [er2, en6]
                split
                · rfl
                · exact if_neg (by rw [ha]; decide)
              | true =>
                refine iteF ⟨_, rfl, fl, _, rfl, .inl (SqL.of (c67 _ _ ef6)), _, rfl, rfl, _, rfl, ?_⟩
                rw [lvs, lacc]
                by_cases hk : i = n
                · refine iteT' (decide_eq_true (by rw [hk])) ⟨_, rfl, _, _, rfl, rfl, bad ?_ _ (gW.trans c67)⟩
                  rw [er2, if_pos (by omega)]
                · exact iteF' (decide_eq_false (fun z => hk (by have := V.int.inj z; omega))) ⟨rfl, c67, by omega, rfl⟩
          rintro σ H7 ⟨rfl, c7, hin2, hok⟩
          have ef7 := c7 _ _ ef6
          refine ⟨_, rfl, .inl ⟨rfl, _, SqL.of ef7⟩, _, rfl, fl, vs, .ref t6, rfl, rfl, ef7, lineS200 (by omega), ?_⟩
          refine ⟨_, _, vs ++ [.ref t6], acc ++ [ns], rfl, ?_, by rw [upd_ne prfl]; exact c7 _ _ ep6, upd_same, ?_, by rw [List.length_append, lacc]; rfl, by omega, by rw [er2, if_neg (by omega), en6]; simp only [hok, if_true]⟩
          · intro b o hb
            rw [upd_ne (ne_of_none hb nflH)]
            exact c7 _ _ (gW _ _ hb)
          · rw [List.map_append]
            exact push_dps ef7 (dps_stay (same_tup c7) _ _ dacc6 (noLs_cl acc)) (noLs_cl acc) (.tup (same_tup c7 _ _ st6) (dps_ii ns)) (noLs_ii ns)
      · obtain ⟨y6, y7, vs, acc, rfl, g, ep, ef, dacc, lacc, hin, er⟩ := h
        rw [nrest] at lacc
        rw [nrest, List.drop_length] at er
        rw [nrest] at hin
        exact ⟨y6, y7, vs, acc, rfl, g, ep, ef, dacc, by omega, by omega, er⟩
    rintro σ H7 ⟨y6, y7, vs, acc, rfl, g, ep, ef, dacc, lacc, l140, er⟩
    have lvs : vs.length = acc.length := by
      have := dps_len dacc
      rw [List.length_map] at this
      exact this
    refine ⟨_, rfl, fl, _, rfl, .inl (SqL.of ef), _, rfl, rfl, _, rfl, ?_⟩
    rw [lvs]
    by_cases hc : acc.length = n
    · refine iteT' (decide_eq_true (by rw [hc])) ⟨_, rfl, _, rfl, fl, _, rfl, .inl ⟨SqL.of ef, fun t nt => ⟨line200 (show 2 ≤ 1000 by decide), fun u nu => ?_⟩⟩⟩
      have gt : Same H7 (upd H7 t (.tup vs)) := Same.up nt
      have gu : Same _ (upd (upd H7 t (.tup vs)) u (.tup [iV m, .ref t])) := Same.up nu
      refine q _ _ (g.trans (gt.trans gu)) ?_
      have eC : clausesN x = .inr (m, acc) := by
        rw [eP2, er]
        exact if_neg (by omega)
      unfold clausesD
      rw [eC]
      refine .tup (SqT.of upd_same) (.cons (.int _) (.cons (.tup (same_tup gu _ _ (SqT.of upd_same)) ?_) .nil))
      exact dps_stay (same_tup (gt.trans gu)) _ _ dacc (noLs_cl acc)
    · refine iteF' (decide_eq_false (fun z => hc (by have := V.int.inj z; omega))) ⟨_, rfl, pr, _, rfl, .inl (SqL.of ep), ?_⟩
      refine inlQ (L.length + 1) _ _ (by rw [eP2, er, ← eD]; exact if_pos (by omega)) g (by rw [lmap])
end
end C1

/-! What the law is told of a text. -/
namespace LSr
open PySem PySem.Spec PyProof.Rows L2
/-- the i-th slot holds the def at f, which may raise -/
def tCallLS (i : Nat) (f : Addr) (sp : Sp) (E : L2.St → XK) (t : TA) : TE := fun σ H Q => σ[i]? = some (some (.ref f)) ∧ t σ H fun vs H1 => sp vs H1 Q (E σ)
theorem pe_callLS {X : Cx} {CX : CXT} {k i : Nat} {f : Addr} {fd : FuncData} {ps : List Str} {sp : Sp} {E : L2.St → XK} {x : Str} {p pos : Pos} {e : Expr} {es : List Expr} {t : TA} (F : FnOk X.prog X.w X.K X.mg X.base CX k f fd ps sp) (hr : Room k X.A) (hN : X.N[i]? = some x) (hv : Vis X.env.scope x) (hk : PySem.W.keepIn X.K (.ref f) = true) (hb : Binds X.K fd ps []) (hx : ∀ σ, PassesAt CX X σ (E σ)) (ha : PA X (e :: es) t)
    (hdb : (x == ("__debug__" : Str)) = false := by decide) (hcd : (x == ("__classdict__" : Str)) = false := by decide)
    (he : starEach (e :: es) X.env = (false, eval e X.env) :: starEach es X.env := by rfl) (hpl : (backTo pos (starEach es X.env)).any (·.1) = false := by rfl) : PE X (.Call (.Name x p) (e :: es) [] pos) (tCallLS i f sp E t) := by
  refine ⟨fun pins s σ H Q I h => ?_⟩
  obtain ⟨hs, ht⟩ := h
  refine wpAny_Call_Name_kw (thn ((pe_var (pos := p) hN hv hdb hcd).run pins s σ H (fun v H1 => v = .ref f ∧ H1 = H) I ⟨.ref f, hs, rfl, rfl⟩) fun u s1 ⟨v, H1, I1, r1, q1⟩ => ?_)
  obtain ⟨rfl, rfl⟩ := q1
  cases r1
  refine PySem.W.callWith_K (h₀ := X.base) I.ok.mod.kin hk (thn (ha.run pos pins s1 σ _ _ I1 ht) fun us s2 ⟨vs, H2, I2, r, q⟩ => ⟨I2.kIn, ?_⟩) he hpl
  exact run_fnS F hr hb (hx σ) I2 r q
end LSr
namespace K0
open PySem PySem.Spec PyProof.Rows L2
theorem pss_cls {X : Cx} {sts : List Stmt} {t : TS} {cls : Value} {C : Addr} (h : cls = .ref C → PSs X sts t) : PSs X sts (fun D σ H => cls = .ref C ∧ t D σ H) :=
  ⟨fun pins s σ H D I q => (h q.1).run pins s σ H D I q.2⟩
end K0
namespace C1
open PySem PySem.Spec PyProof.Rows L2 SX
open K0 (Cs digs isNum)
open GxR (TabG Tabbed TabB GenS)
abbrev sLawTold : Stmt := topS 39
theorem scLawTold : FnScope ["read", "text", "e"] ["read", "text"] (defScope sLawTold) := ⟨rfl, rfl, rfl, by decide +kernel, rfl, by decide +kernel, by decide +kernel⟩
structure ErrT (K : PySem.W.Frag) (mg : Str → Option Value) (C : Addr) : Prop where
  g : mg "BadLine" = some (.ref C)
  x : XfC K C
  c : ExcC K C
  nL : PySem.W.findIn K (.ref C) "line" = some none
abbrev sufL (K : PySem.W.Frag) (C : Addr) : K0T.Suite := fun a cls d => fun D σ H => cls = .ref C ∧ tSeq (tIfS (tOr (tNot (tB (tCB (K0E.rIsF K C a d) (tCons (tVar 2) (tCons (tC (.ref C)) tNil))))) (tOr (tNot (tB (tCB (rIsi K) (tCons (tXf a cls d C "line" (tVar 2)) (tCons (tC (.ty "int")) tNil))))) (tB (tCB (rIsi K) (tCons (tXf a cls d C "line" (tVar 2)) (tCons (tC (.ty "bool")) tNil)))))) (tRet (tC (.str "else"))) tNext) (tRet (tXf a cls d C "line" (tVar 2))) D σ H
section
variable {P : Program} {w : World} {K : PySem.W.Frag} {mg : Str → Option Value} {base : Heap} {T : Addr}
def spToldC (K : PySem.W.Frag) (T fP : Addr) : Sp := fun vs H Q _ => ∃ x : Str, vs = [.ref fP, .str x] ∧ TxL 250 140 x ∧ TabG H T ∧ ∀ H' v, Gr T H H' → Dp K H' v (clausesD x) → Q v H'
theorem ok_toldC {f fP C CC : Addr} {fd fdP : FuncData} (F : Fun K "_law_told" "_law_told" sLawTold f fd) (X : ErrT K mg C) (gC : mg "CutError" = some (.ref CC)) (B : Gp mg)
    (GP : FnOk P w K mg base (L2.CX P w) 5 fP fdP ["text"] (spRClauses K T C)) (kP : PySem.W.keepIn K (.ref fP) = true) (bP : Binds K fdP ["text"] [])
    (e1 : PySem.W.exmOne K (.ref C) (.ref CC) = some true) (i1 : PySem.W.kitOne K (.ref C) (.ref C) = some true) :
    FnOk P w K mg base CX0 6 f fd ["read", "text"] (spToldC K T fP) := by
  refine F.ok scLawTold (fun vs H Q E h => ?_) (fun cdv A outer s H vs Q E hr h => ?_)
  · obtain ⟨x, rfl, _⟩ := h
    rfl
  · obtain ⟨x, rfl, hx, tb, q⟩ := h
    have nd := scLawTold.nd
    have hr5 : Room 5 _ := hr
    have hu := hr.units
    refine ⟨_, (pss_one (K0T.ps_try_ases (i := 2) (tb := fun W => tRet (LSr.tCallLS 0 fP (spRClauses K T C) (WE W) (tCons (tVar 1) tNil))) (Wo := fun _ _ _ _ => False) rfl rfl nd rfl rfl takes0 (fun W pn xe tk _ => pss_one (ps_ret (by exact (LSr.pe_callLS GP hr5 (by rfl) (Or.inl rfl) kP bP (fun σ => passAt tk σ) (by exact (pa_cons (pv 1) pa_nil)))))) (.cons (ts := sufL K C) ⟨rfl, by decide, .inl gC⟩ (fun a oe cls d pn hz hf => by exact (K0.pss_cls (C := C) fun hcls => (pss_cons (ps_if (PW.pt (pw_or (pt_not (pt_val (pe_callB (K0E.call_isF X.c (hcls ▸ hz) hf) (by rfl) B.isi (by decide +kernel) (pa_cons (pv 2) (pa_cons (pe_glob (v := .ref C) (by rfl) X.g rfl) pa_nil))))) (pw_or (pt_not (pt_val (pe_callB call_isi (by rfl) B.isi (by decide +kernel) (pa_cons (pe_xf X.x X.nL hz hf (pv 2)) (pa_cons (pe_bltn (v := .ty "int") (by rfl) B.it (by decide +kernel) rfl) pa_nil))))) (pw_or1 (pt_val (pe_callB call_isi (by rfl) B.isi (by decide +kernel) (pa_cons (pe_xf X.x X.nL hz hf (pv 2)) (pa_cons (pe_bltn (v := .ty "bool") (by rfl) B.bo (by decide +kernel) rfl) pa_nil)))))))) (pss_one (ps_ret pe_str)) pss_nil) (pss_one (ps_ret (pe_xf X.x X.nL hz hf (pv 2))))))) .nil))), ?_⟩
    refine ⟨rfl, _, rfl, x, rfl, hx, tb, fun m ls ed H1 v g1 dv => ?_, fun n en H1 d g1 e3 => ?_⟩
    · refine q _ _ g1 ?_
      unfold clausesD
      rw [ed]
      exact dv
    · refine ⟨true, e1, fun _ ax nax => ⟨rfl, ?_⟩, fun z => nomatch z⟩
      refine ⟨_, rfl, .ref C, .ref C, true, d, fsL (n : Nat), rfl, (fun u h => h), i1, rfl, e3, _, rfl, iteF ?_⟩
      refine ⟨_, rfl, rfl, rfl, d, fsL (n : Nat), .int (n : Nat), rfl, e3, rfl, _, _, _, _, _, rfl, .ty "int", tyx_of (K := K) (H := H1) (.int (n : Nat)) rfl, kit_ty (kit_int (.int (n : Nat)) rfl), ?_⟩
      refine ⟨_, rfl, iteF ?_⟩
      refine ⟨_, rfl, rfl, rfl, d, fsL (n : Nat), .int (n : Nat), rfl, e3, rfl, _, _, _, _, _, rfl, .ty "bool", tyx_of (K := K) (H := H1) (.int (n : Nat)) rfl, kit_ty (kit_one "bool" (.inl rfl) (.int (n : Nat)) rfl), ?_⟩
      refine ⟨_, rfl, iteF ?_⟩
      refine ⟨_, rfl, rfl, rfl, d, fsL (n : Nat), .int (n : Nat), rfl, e3, rfl, q _ _ g1 ?_⟩
      unfold clausesD
      rw [en]
      exact .int _
def spToldP (K : PySem.W.Frag) (T fP : Addr) : Sp := fun vs H Q _ => ∃ x : Str, vs = [.ref fP, .str x] ∧ TxL 250 140 x ∧ TabG H T ∧ ∀ H' v, Gr T H H' → Dp K H' v (proofD x) → Q v H'
theorem ok_toldP {f fP C CC : Addr} {fd fdP : FuncData} (F : Fun K "_law_told" "_law_told" sLawTold f fd) (X : ErrT K mg C) (gC : mg "CutError" = some (.ref CC)) (B : Gp mg)
    (GP : FnOk P w K mg base (L2.CX P w) 5 fP fdP ["text"] (spRProof K T C)) (kP : PySem.W.keepIn K (.ref fP) = true) (bP : Binds K fdP ["text"] [])
    (e1 : PySem.W.exmOne K (.ref C) (.ref CC) = some true) (i1 : PySem.W.kitOne K (.ref C) (.ref C) = some true) :
    FnOk P w K mg base CX0 6 f fd ["read", "text"] (spToldP K T fP) := by
  refine F.ok scLawTold (fun vs H Q E h => ?_) (fun cdv A outer s H vs Q E hr h => ?_)
  · obtain ⟨x, rfl, _⟩ := h
    rfl
  · obtain ⟨x, rfl, hx, tb, q⟩ := h
    have nd := scLawTold.nd
    have hr5 : Room 5 _ := hr
    have hu := hr.units
    refine ⟨_, (pss_one (K0T.ps_try_ases (i := 2) (tb := fun W => tRet (LSr.tCallLS 0 fP (spRProof K T C) (WE W) (tCons (tVar 1) tNil))) (Wo := fun _ _ _ _ => False) rfl rfl nd rfl rfl takes0 (fun W pn xe tk _ => pss_one (ps_ret (by exact (LSr.pe_callLS GP hr5 (by rfl) (Or.inl rfl) kP bP (fun σ => passAt tk σ) (by exact (pa_cons (pv 1) pa_nil)))))) (.cons (ts := sufL K C) ⟨rfl, by decide, .inl gC⟩ (fun a oe cls d pn hz hf => by exact (K0.pss_cls (C := C) fun hcls => (pss_cons (ps_if (PW.pt (pw_or (pt_not (pt_val (pe_callB (K0E.call_isF X.c (hcls ▸ hz) hf) (by rfl) B.isi (by decide +kernel) (pa_cons (pv 2) (pa_cons (pe_glob (v := .ref C) (by rfl) X.g rfl) pa_nil))))) (pw_or (pt_not (pt_val (pe_callB call_isi (by rfl) B.isi (by decide +kernel) (pa_cons (pe_xf X.x X.nL hz hf (pv 2)) (pa_cons (pe_bltn (v := .ty "int") (by rfl) B.it (by decide +kernel) rfl) pa_nil))))) (pw_or1 (pt_val (pe_callB call_isi (by rfl) B.isi (by decide +kernel) (pa_cons (pe_xf X.x X.nL hz hf (pv 2)) (pa_cons (pe_bltn (v := .ty "bool") (by rfl) B.bo (by decide +kernel) rfl) pa_nil)))))))) (pss_one (ps_ret pe_str)) pss_nil) (pss_one (ps_ret (pe_xf X.x X.nL hz hf (pv 2))))))) .nil))), ?_⟩
    refine ⟨rfl, _, rfl, x, rfl, hx, tb, fun ls ed H1 v g1 dv => ?_, fun n en H1 d g1 e3 => ?_⟩
    · refine q _ _ g1 ?_
      unfold proofD
      rw [ed]
      exact dv
    · refine ⟨true, e1, fun _ ax nax => ⟨rfl, ?_⟩, fun z => nomatch z⟩
      refine ⟨_, rfl, .ref C, .ref C, true, d, fsL (n : Nat), rfl, (fun u h => h), i1, rfl, e3, _, rfl, iteF ?_⟩
      refine ⟨_, rfl, rfl, rfl, d, fsL (n : Nat), .int (n : Nat), rfl, e3, rfl, _, _, _, _, _, rfl, .ty "int", tyx_of (K := K) (H := H1) (.int (n : Nat)) rfl, kit_ty (kit_int (.int (n : Nat)) rfl), ?_⟩
      refine ⟨_, rfl, iteF ?_⟩
      refine ⟨_, rfl, rfl, rfl, d, fsL (n : Nat), .int (n : Nat), rfl, e3, rfl, _, _, _, _, _, rfl, .ty "bool", tyx_of (K := K) (H := H1) (.int (n : Nat)) rfl, kit_ty (kit_one "bool" (.inl rfl) (.int (n : Nat)) rfl), ?_⟩
      refine ⟨_, rfl, iteF ?_⟩
      refine ⟨_, rfl, rfl, rfl, d, fsL (n : Nat), .int (n : Nat), rfl, e3, rfl, q _ _ g1 ?_⟩
      unfold proofD
      rw [en]
      exact .int _
end
end C1

/-! Whether a thing is plain, by the law. -/
namespace C1
open PySem PySem.Spec PyProof.Rows L2 SX
open K0 (Cs digs isNum)
open GxR (TabG Tabbed TabB GenS)
abbrev sLawIsPlain : Stmt := topS 40
theorem scLawIsPlain : FnScope ["thing", "clause", "one"] ["thing"] (defScope sLawIsPlain) := ⟨rfl, rfl, rfl, by decide +kernel, rfl, by decide +kernel, by decide +kernel⟩
abbrev NIP : List Str := ["thing", "clause", "one"]
theorem flt_none (F : List PyData) : F.filter (fun _ => false) = [] := List.filter_eq_nil_iff.mpr fun _ _ => by decide
section
variable {P : Program} {w : World} {K : PySem.W.Frag} {mg : Str → Option Value} {base : Heap} {T : Addr}
def spPlain (K : PySem.W.Frag) : Sp := fun vs H Q _ => ∃ (v : V) (cs : List (List Int)), vs = [v] ∧ Dp K H v (.tuple (cs.map clD)) ∧ cs.length ≤ 200 ∧ (∀ c ∈ cs, c.length ≤ 700) ∧ ∀ H', Same H H' → Q (.bl true) H'
theorem ok_plain {f : Addr} {fd : FuncData} (F : Fun K "_law_is_plain" "_law_is_plain" sLawIsPlain f fd) (BG : Gp mg) : FnOk P w K mg base CX0 1 f fd ["thing"] (spPlain K) := by
  refine F.ok scLawIsPlain (fun vs H Q E h => ?_) (fun cdv A outer s H vs Q E hr h => ?_)
  · obtain ⟨v, cs, rfl, _⟩ := h
    rfl
  · obtain ⟨v, cs, rfl, hd, hl, hc, q⟩ := h
    have nd := scLawIsPlain.nd
    have hu := hr.units
    refine ⟨_, (C8.pss_cut (ps_if (PW.pt (pw_or (pt_not (pt_val (pe_callB call_isi (by rfl) BG.isi (by decide +kernel) (pa_cons (pv 0) (pa_cons (pe_bltn (v := .ty "tuple") (by rfl) BG.tu (by decide +kernel) rfl) pa_nil))))) (pw_or1 (pt_cmpR (op_neD hu) (pe_lc (own := [("clause", 1)]) (g := gName 1) (tt := tNot (tB (tCB (rIsi K) (tCons (tVar 1) (tCons (tC (.ty "tuple")) tNil))))) (te := tVar 1)  rfl nd (pi_tup (pv 0)) (blkOk_by (own := [("clause", 1)]) (N := NIP) (sc := defScope sLawIsPlain) (by decide +kernel)) (fun _ _ _ _ _ => pg_name (i := 1) nd rfl (.inl rfl)) (fun _ _ _ _ _ => pts_one (pt_not (pt_val (pe_callB call_isi (by rfl) BG.isi (by decide +kernel) (pa_cons (pv 1) (pa_cons (pe_bltn (v := .ty "tuple") (by rfl) BG.tu (by decide +kernel) rfl) pa_nil)))))) (fun _ _ _ _ _ => by exact (pv 1))) (pe_lst pa_nil) (nomark _))))) (pss_one (ps_ret (pe_bl))) pss_nil)
      (C8.pss_cut (ps_for PassesOwn.never rfl (pi_tup (pv 0)) (pg_name (i := 1) nd rfl (.inl rfl)) (pss_one (ps_if (pt_cmpR (op_neD hu) (pe_lc (own := [("one", 2)]) (g := gName 2) (tt := tOr (tNot (tB (tCB (rIsi K) (tCons (tVar 2) (tCons (tC (.ty "int")) tNil))))) (tB (tCB (rIsi K) (tCons (tVar 2) (tCons (tC (.ty "bool")) tNil))))) (te := tVar 2)  rfl nd (pi_tup (pv 1)) (blkOk_by (own := [("one", 2)]) (N := NIP) (sc := defScope sLawIsPlain) (by decide +kernel)) (fun _ _ _ _ _ => pg_name (i := 2) nd rfl (.inl rfl)) (fun _ _ _ _ _ => pts_one (PW.pt (pw_or (pt_not (pt_val (pe_callB call_isi (by rfl) BG.isi (by decide +kernel) (pa_cons (pv 2) (pa_cons (pe_bltn (v := .ty "int") (by rfl) BG.it (by decide +kernel) rfl) pa_nil))))) (pw_or1 (pt_val (pe_callB call_isi (by rfl) BG.isi (by decide +kernel) (pa_cons (pv 2) (pa_cons (pe_bltn (v := .ty "bool") (by rfl) BG.bo (by decide +kernel) rfl) pa_nil)))))))) (fun _ _ _ _ _ => by exact (pv 2))) (pe_lst pa_nil) (nomark _)) (pss_one (ps_ret (pe_bl))) pss_nil)))
      (pss_one (ps_ret (pe_bl))))), ?_⟩
    obtain ⟨a, xs, rfl, sq, dp⟩ := dp_tup hd
    have lx := dps_len dp
    rw [List.length_map] at lx
    refine ⟨fun σ H' => σ = [some (.ref a), none, none] ∧ Same H H', ?_, ?_⟩
    · refine ⟨_, rfl, .ref a, .ty "tuple", .type "tuple", .type "tuple", true, rfl, .ty _, tyx_tup sq, kit_ty (by decide +kernel), _, rfl, iteF ?_⟩
      refine ⟨_, rfl, a, rfl, ⟨_, sq⟩, fun D nD => ?_⟩
      refine lc_tupF (xs := xs) (cs.map clD) (fun _ => false) (noLs_cl cs) dp (by omega) sq nD (fun i x d H2 Q2 hxi hdi sm dx q2 => ?_) (fun v => ⟨rfl, rfl⟩) (fun H2 acc sm e da => ?_)
      · rw [List.getElem?_map] at hdi
        obtain ⟨c, ec, rfl⟩ := Option.map_eq_some_iff.mp hdi
        obtain ⟨t, rfl, st⟩ := row_ii dx
        exact ⟨_, rfl, .ref t, .ty "tuple", .type "tuple", .type "tuple", true, rfl, .ty _, tyx_tup st, kit_ty (by decide +kernel), _, rfl, q2 _ (Same.refl _)⟩
      · rw [flt_none] at da
        cases da
        refine ⟨Nat.zero_le _, fun z nz => ?_⟩
        have cz : Same H2 (upd H2 z (.lst [])) := Same.up nz
        refine ⟨.list [], .list [], .lst (SqL.of (cz _ _ e)) .nil, .lst (SqL.of upd_same) .nil, shaped_list [] (fun d hd => by cases hd), shaped_list [] (fun d hd => by cases hd), _, rfl, ?_⟩
        rw [eqv_nil]
        exact iteF ⟨rfl, sm.trans cz⟩
    rintro σ H1 ⟨rfl, s1⟩
    refine ⟨fun σ H' => Same H H', ?_, fun σ H' s' => q H' s'⟩
    refine ⟨_, rfl, a, rfl, ⟨_, same_tup s1 _ _ sq⟩, ?_⟩
    refine for_tup (xs := xs) (fun i σ H' => ∃ y1, σ = [some (.ref a), y1, none] ∧ Same H H') ⟨none, rfl, s1⟩ (fun i σ H' _ h => ?_) (fun i x σ H' hx h => ?_) (fun σ H' h => h.elim fun _ h => h.2)
    · obtain ⟨_, _, s⟩ := h
      exact same_tup s _ _ sq
    · obtain ⟨y1, rfl, s2⟩ := h
      obtain ⟨d, hd2, dx⟩ := dps_get dp hx
      rw [List.getElem?_map] at hd2
      obtain ⟨c, ec, rfl⟩ := Option.map_eq_some_iff.mp hd2
      obtain ⟨t, rfl, st⟩ := row_ii dx
      have st2 := same_tup s2 _ _ st
      have lc := hc c (List.mem_of_getElem? ec)
      refine ⟨_, rfl, t, rfl, ⟨_, st2⟩, fun D nD => ?_⟩
      refine lc_tupF (xs := c.map V.int) (c.map .int) (fun _ => false) (noLs_ii c) (dps_ii c) (by rw [List.length_map]; omega) st2 nD (fun i x d H2 Q2 hxi hdi sm dx q2 => ?_) (fun v => ⟨rfl, rfl⟩) (fun H2 acc sm e da => ?_)
      · rw [List.getElem?_map] at hxi
        obtain ⟨z, ez, rfl⟩ := Option.map_eq_some_iff.mp hxi
        refine ⟨_, rfl, .int z, .ty "int", .type "int", .type "int", true, rfl, .ty _, .base (.int _), kit_ty (by decide +kernel), _, rfl, iteF ?_⟩
        exact ⟨_, rfl, .int z, .ty "bool", .type "int", .type "bool", false, rfl, .ty _, .base (.int _), kit_ty (by decide +kernel), _, rfl, q2 _ (Same.refl _)⟩
      · rw [flt_none] at da
        cases da
        refine ⟨Nat.zero_le _, fun z nz => ?_⟩
        have cz : Same H2 (upd H2 z (.lst [])) := Same.up nz
        refine ⟨.list [], .list [], .lst (SqL.of (cz _ _ e)) .nil, .lst (SqL.of upd_same) .nil, shaped_list [] (fun d hd => by cases hd), shaped_list [] (fun d hd => by cases hd), _, rfl, ?_⟩
        rw [eqv_nil]
        exact iteF ⟨_, rfl, (s2.trans sm).trans cz⟩
end
end C1

/-! Texts read back. -/
namespace C1
open PySem PySem.Spec PyProof.Rows L2 SX
open K0 (Cs digs isNum)
theorem lit_cs {i : Int} : cs (litT i) = if i < 0 then 45 :: TL.numL i.natAbs else TL.numL i.natAbs := by
  unfold litT
  split
  · rename_i h
    have e : -i = ((i.natAbs : Nat) : Int) := by omega
    rw [cs_app, e]
    show cs (Str.ofString "-") ++ cs (pS (iD i.natAbs)) = _
    have e1 : cs (Str.ofString "-") = [45] := by decide +kernel
    have e2 : cs (pS (iD i.natAbs)) = TL.numL i.natAbs := TL.tl_num i.natAbs
    rw [e1, e2]
    rfl
  · rename_i h
    have e : i = ((i.natAbs : Nat) : Int) := by omega
    have e2 : cs (pS (iD i.natAbs)) = TL.numL i.natAbs := TL.tl_num i.natAbs
    rw [← e2]
    exact congrArg (fun z => cs (pS (.int z))) e
theorem lit_dig {i : Int} : digS (litT i) = TL.numL i.natAbs ∧ negB (litT i) = decide (i < 0) := by
  unfold digS negB
  rw [lit_cs]
  by_cases h : i < 0
  · rw [if_pos h, decide_eq_true h]
    exact ⟨rfl, rfl⟩
  · rw [if_neg h, decide_eq_false h]
    have hd : ¬ (TL.numL i.natAbs).head? = some 45 := fun z => by
      have := (TL.numL_digits i.natAbs 45 (List.mem_of_mem_head? z)).1
      omega
    rw [if_neg hd]
    exact ⟨rfl, decide_eq_false hd⟩
theorem lit_back {i : Int} (h : 1 ≤ i.natAbs) : litB (litT i) = true ∧ litV (litT i) = i := by
  obtain ⟨e1, e2⟩ := lit_dig (i := i)
  unfold litB litV
  rw [e1, e2, TL.numL_val, K0.num_isNum]
  refine ⟨?_, ?_⟩
  · have hne : TL.numL i.natAbs ≠ [48] := fun z => by
      have := TL.numL_val i.natAbs
      rw [z] at this
      have h0 : NumText.digitsVal [48] = 0 := by decide
      omega
    rw [decide_eq_true hne]
    rfl
  · by_cases h : i < 0
    · rw [decide_eq_true h, if_pos rfl]
      omega
    · rw [decide_eq_false h, if_neg (by decide)]
      omega
theorem lit_ln {i : Int} (h : i.natAbs < 1000000000) : LnB 10 (litT i) ∧ 32 ∉ (litT i).cps.toList := by
  have hm : ∀ c ∈ cs (litT i), 45 ≤ c ∧ c < 58 := fun c hc => by
    rw [lit_cs] at hc
    split at hc
    · rcases List.mem_cons.mp hc with rfl | hc
      · omega
      · have := TL.numL_digits i.natAbs c hc
        omega
    · have := TL.numL_digits i.natAbs c hc
      omega
  refine ⟨⟨litT_len h, fun c hc => by have := hm c hc; omega, fun hc => by have := hm 10 hc; omega⟩, fun hc => by have := hm 32 hc; omega⟩
theorem zero_ln : LnB 10 (Str.ofString "0") ∧ 32 ∉ (Str.ofString "0").cps.toList := ⟨⟨by decide +kernel, by decide +kernel, by decide +kernel⟩, by decide +kernel⟩
theorem cl_ln {c : List Int} (h : ∀ i ∈ c, i.natAbs < 1000000000) : ∀ p ∈ c.map litT ++ [Str.ofString "0"], LnB 10 p ∧ 32 ∉ p.cps.toList := fun p hp => by
  rcases List.mem_append.mp hp with z | z
  · obtain ⟨i, hi, rfl⟩ := List.mem_map.mp z
    exact lit_ln (h i hi)
  · rw [List.mem_singleton.mp z]
    exact zero_ln
theorem cl_spl {c : List Int} (h : ∀ i ∈ c, i.natAbs < 1000000000) : spS (clT c) = c.map litT ++ [Str.ofString "0"] := split_sp (by simp) fun p hp => (cl_ln h p hp).2
theorem cl_line {c : List Int} (hl : c.length ≤ 4) (h : ∀ i ∈ c, i.natAbs < 1000000000) : LnB 56 (clT c) := by
  have := ln_join (b := 10) (ps := c.map litT ++ [Str.ofString "0"]) fun p hp => (cl_ln h p hp).1
  refine this.up ?_
  rw [List.length_append, List.length_map]
  show (c.length + 1) * _ ≤ 56
  have : (c.length + 1) * (10 + 1) ≤ 5 * 11 := Nat.mul_le_mul (by omega) (Nat.le_refl _)
  omega
theorem ClIn.big {m : Nat} {c : List Int} (h : ClIn m c) (hm : m ≤ 12) : ∀ i ∈ c, i.natAbs < 1000000000 := fun i hi => by
  have := h.2 i hi
  omega
theorem cl_back {m : Nat} {c : List Int} (h : ClIn m c) (hm : m ≤ 12) : clN (clT c) = some c ∧ okC m c = true := by
  have hb := h.big hm
  refine ⟨?_, ?_⟩
  · unfold clN
    rw [cl_spl hb, List.getLast?_concat, List.dropLast_concat, if_pos]
    · congr 1
      rw [List.map_map]
      have : ∀ c : List Int, (∀ i ∈ c, 1 ≤ i.natAbs) → c.map (litV ∘ litT) = c := fun c => by
        induction c with
        | nil => exact fun _ => rfl
        | cons i r ih =>
          intro h
          rw [List.map_cons, ih fun x hx => h x (List.mem_cons_of_mem _ hx)]
          show litV (litT i) :: r = _
          rw [(lit_back (h i (List.mem_cons_self ..))).2]
      exact this c fun i hi => (h.2 i hi).1
    · refine ⟨rfl, List.all_eq_true.mpr fun p hp => ?_⟩
      obtain ⟨i, hi, rfl⟩ := List.mem_map.mp hp
      exact (lit_back (h.2 i hi).1).1
  · exact List.all_eq_true.mpr fun i hi => decide_eq_true (h.2 i hi).2
theorem readPf_back {m : Nat} (hm : m ≤ 12) : ∀ (k : Nat) (acc xs : List (List Int)), (∀ c ∈ xs, ClIn m c) → readPf k acc (xs.map clT) = .inr (acc ++ xs)
  | k, acc, [], _ => by
    rw [List.append_nil]
    rfl
  | k, acc, c :: r, h => by
    have ih := readPf_back hm (k + 1) (acc ++ [c]) r fun x hx => h x (List.mem_cons_of_mem _ hx)
    have e := (cl_back (h c (List.mem_cons_self ..)) hm).1
    rw [List.map_cons]
    unfold readPf
    rw [e]
    refine Eq.trans ih ?_
    rw [List.append_assoc]
    rfl
theorem readCl_back {m n : Nat} (hm : m ≤ 12) : ∀ (k : Nat) (acc xs : List (List Int)), k + xs.length ≤ n → (∀ c ∈ xs, ClIn m c) → readCl m n k acc (xs.map clT) = .inr (acc ++ xs)
  | k, acc, [], _, _ => by
    rw [List.append_nil]
    rfl
  | k, acc, c :: r, hk, h => by
    have hk2 : k + (r.length + 1) ≤ n := hk
    have ih := readCl_back (n := n) hm (k + 1) (acc ++ [c]) r (by omega) fun x hx => h x (List.mem_cons_of_mem _ hx)
    obtain ⟨e, eo⟩ := cl_back (h c (List.mem_cons_self ..)) hm
    rw [List.map_cons]
    unfold readCl
    rw [if_neg (by omega), e]
    simp only [eo, if_true]
    refine Eq.trans ih ?_
    rw [List.append_assoc]
    rfl
theorem head_join (m n : Nat) : headT m n = Txt.join spB [Str.ofString "p", Str.ofString "cnf", pS (iD m), pS (iD n)] := by
  apply TL.ext_tl
  show cs (headT m n) = (Txt.join spB [Str.ofString "p", Str.ofString "cnf", pS (iD m), pS (iD n)]).cps.toList
  unfold headT
  rw [cs_join, cs_app, cs_app, cs_app, cs_app, cs_app]
  have e1 : cs Str.empty = [] := by decide +kernel
  have e2 : cs (Str.ofString "p cnf") = [112, 32, 99, 110, 102] := by decide +kernel
  have e3 : cs (Str.ofString " ") = [32] := by decide +kernel
  have e4 : spB.cps.toList = [32] := by decide +kernel
  have e5 : (Str.ofString "p").cps.toList = [112] := by decide +kernel
  have e6 : (Str.ofString "cnf").cps.toList = [99, 110, 102] := by decide +kernel
  rw [e1, e2, e3, e4]
  show _ = (Str.ofString "p").cps.toList ++ ([32] ++ ((Str.ofString "cnf").cps.toList ++ ([32] ++ (cs (pS (iD m)) ++ ([32] ++ cs (pS (iD n)))))))
  rw [e5, e6]
  simp
theorem num_back {n : Nat} : numB (pS (iD n)) = true ∧ numV (pS (iD n)) = n := by
  have e : cs (pS (iD n)) = TL.numL n := TL.tl_num n
  unfold numB numV
  rw [e]
  refine ⟨?_, TL.numL_val n⟩
  rw [K0.num_isNum]
theorem head_parts {m n : Nat} (hm : m < 1000000000) (hn : n < 1000000000) : ∀ p ∈ [Str.ofString "p", Str.ofString "cnf", pS (iD m), pS (iD n)], LnB 9 p ∧ 32 ∉ p.cps.toList := fun p hp => by
  simp only [List.mem_cons, List.mem_nil_iff, or_false] at hp
  rcases hp with rfl | rfl | rfl | rfl
  · exact ⟨⟨by decide +kernel, by decide +kernel, by decide +kernel⟩, by decide +kernel⟩
  · exact ⟨⟨by decide +kernel, by decide +kernel, by decide +kernel⟩, by decide +kernel⟩
  · exact part_ln (nat_part hm)
  · exact part_ln (nat_part hn)
theorem head_back {m n : Nat} (hm : m < 1000000000) (hn : n < 1000000000) : headN (headT m n) = some [m, n] ∧ LnB 56 (headT m n) := by
  have hp := head_parts hm hn
  have es : spS (headT m n) = [Str.ofString "p", Str.ofString "cnf", pS (iD m), pS (iD n)] := by
    rw [head_join]
    exact split_sp (by simp) fun p h => (hp p h).2
  refine ⟨?_, ?_⟩
  · rw [headN_eq es, if_pos ⟨rfl, rfl, num_back.1, num_back.1⟩, num_back.2, num_back.2]
  · have := ln_join (b := 9) (ps := [Str.ofString "p", Str.ofString "cnf", pS (iD m), pS (iD n)]) fun p h => (hp p h).1
    rw [head_join]
    exact this.up (by show 4 * (9 + 1) ≤ 56; decide)
theorem text_whole {xs : List Str} {b : Nat} (hne : xs ≠ []) (h : ∀ x ∈ xs, LnB b x) : wholeB (textL xs) = true ∧ linesOf (textL xs) = xs := by
  have e := split_text (xs := xs) fun x hx => (h x hx).nl
  have hl : 0 < xs.length := List.length_pos_iff.mpr hne
  refine ⟨?_, ?_⟩
  · unfold wholeB
    rw [e, List.getLast?_concat, decide_eq_true rfl, decide_eq_false (by rw [List.length_append]; show ¬ xs.length + 1 = 1; omega)]
    rfl
  · unfold linesOf
    rw [e, List.dropLast_concat]
theorem text_ne {xs : List Str} (hne : xs ≠ []) (h : wholeB (textL xs) = true) : textL xs ≠ Str.ofString "" := fun z => by
  rw [z] at h
  unfold wholeB at h
  rw [split_nil] at h
  cases h
def clausesT (m : Nat) (xs : List (List Int)) : Str := textL (headT m xs.length :: clsL xs)
theorem cls_ln {m : Nat} {xs : List (List Int)} (hm : m ≤ 12) (h : ∀ c ∈ xs, ClIn m c) : ∀ y ∈ clsL xs, LnB 56 y := fun y hy => by
  obtain ⟨c, hc, rfl⟩ := List.mem_map.mp hy
  exact cl_line (h c hc).1 ((h c hc).big hm)
theorem clauses_back {m : Nat} {xs : List (List Int)} (hm : m ≤ 12) (hl : xs.length ≤ 9) (h : ∀ c ∈ xs, ClIn m c) : clausesN (clausesT m xs) = .inr (m, xs) ∧ TxL 56 12 (clausesT m xs) ∧ clausesT m xs ≠ Str.ofString "" := by
  obtain ⟨hb, hln⟩ := head_back (m := m) (n := xs.length) (by omega) (by omega)
  have ha : ∀ y ∈ headT m xs.length :: clsL xs, LnB 56 y := fun y hy => by
    rcases List.mem_cons.mp hy with rfl | hy
    · exact hln
    · exact cls_ln hm h y hy
  obtain ⟨w, l⟩ := text_whole (xs := headT m xs.length :: clsL xs) (by simp) ha
  refine ⟨?_, txl_text ha ?_, text_ne (by simp) w⟩
  · unfold clausesT
    rw [clauses_some w l hb]
    have := readCl_back (m := m) (n := xs.length) hm 0 [] xs (by omega) h
    rw [show clsL xs = xs.map clT from rfl, this]
    exact if_neg (Nat.lt_irrefl _)
  · have : (clsL xs).length = xs.length := List.length_map _
    rw [List.length_cons, this]
    omega
theorem proof_back {m : Nat} {xs : List (List Int)} (hm : m ≤ 12) (hl : xs.length ≤ 9) (h : ∀ c ∈ xs, ClIn m c) : proofN (textL (clsL xs)) = .inr xs ∧ TxL 56 12 (textL (clsL xs)) := by
  refine ⟨?_, txl_text (cls_ln hm h) ?_⟩
  · cases xs with
    | nil => rfl
    | cons c r =>
      have hne : clsL (c :: r) ≠ [] := by simp [clsL]
      obtain ⟨w, l⟩ := text_whole hne (cls_ln hm h)
      unfold proofN
      rw [if_neg (text_ne hne w), if_pos w, l]
      exact readPf_back hm 0 [] (c :: r) h
  · have : (clsL xs).length = xs.length := List.length_map _
    omega
/-- a clause more behind a proof -/
theorem text_more (xs : List Str) : textL xs ++ Str.ofString "1 0\n" = textL (xs ++ [Str.ofString "1 0"]) := by
  apply TL.ext_tl
  show (textL xs ++ Str.ofString "1 0\n").cps.toList = (textL (xs ++ [Str.ofString "1 0"])).cps.toList
  unfold textL
  rw [app_cs, cs_join, cs_join, List.map_append, List.map_append]
  have e1 : (Str.ofString "").cps.toList = [] := by decide +kernel
  rw [e1, joinL_nil, joinL_nil, List.flatten_append]
  have e2 : (List.map (fun p : Str => p.cps.toList) (List.map (fun x => x ++ nlS) [Str.ofString "1 0"])).flatten = (Str.ofString "1 0\n").cps.toList := by decide +kernel
  rw [e2]
theorem more_txl {m : Nat} {xs : List (List Int)} (hm : m ≤ 12) (hl : xs.length ≤ 9) (h : ∀ c ∈ xs, ClIn m c) : TxL 56 12 (textL (clsL xs) ++ Str.ofString "1 0\n") ∧ textL (clsL xs) ++ Str.ofString "1 0\n" ≠ Str.ofString "" := by
  rw [text_more]
  have ha : ∀ y ∈ clsL xs ++ [Str.ofString "1 0"], LnB 56 y := fun y hy => by
    rcases List.mem_append.mp hy with hy | hy
    · exact cls_ln hm h y hy
    · rw [List.mem_singleton.mp hy]
      exact ⟨by decide +kernel, by decide +kernel, by decide +kernel⟩
  obtain ⟨w, l⟩ := text_whole (xs := clsL xs ++ [Str.ofString "1 0"]) (by simp) ha
  refine ⟨txl_text ha ?_, text_ne (by simp) w⟩
  have : (clsL xs).length = xs.length := List.length_map _
  rw [List.length_append, this]
  show xs.length + 1 + 1 ≤ 12
  omega
theorem law_text (m : Nat) (xs : List (List Int)) : (((Str.ofString "p cnf " ++ pS (iD m)) ++ Str.ofString " ") ++ pS (iD xs.length)) ++ Str.ofString "\n" ++ textL (clsL xs) = clausesT m xs := by
  apply TL.ext_tl
  show ((((Str.ofString "p cnf " ++ pS (iD m)) ++ Str.ofString " ") ++ pS (iD xs.length)) ++ Str.ofString "\n" ++ textL (clsL xs)).cps.toList = (clausesT m xs).cps.toList
  unfold clausesT textL headT
  rw [app_cs, app_cs, app_cs, app_cs, app_cs, cs_join, cs_join]
  have e1 : (Str.ofString "").cps.toList = [] := by decide +kernel
  rw [e1, joinL_nil, joinL_nil, List.map_cons, List.map_cons, List.flatten_cons, app_cs, app_cs, app_cs, app_cs, app_cs, app_cs]
  have e2 : (Str.ofString "p cnf ").cps.toList = [112, 32, 99, 110, 102, 32] := by decide +kernel
  have e3 : (Str.ofString "p cnf").cps.toList = [112, 32, 99, 110, 102] := by decide +kernel
  have e4 : Str.empty.cps.toList = [] := by decide +kernel
  have e5 : (Str.ofString " ").cps.toList = [32] := by decide +kernel
  have e6 : nlS.cps.toList = (Str.ofString "\n").cps.toList := by decide +kernel
  rw [e2, e3, e4, e5, e6]
  simp
end C1

/-! The law. -/
namespace C1
open PySem PySem.Spec PyProof.Rows L2 SX
open K0 (Cs digs isNum)
open GxR (TabG Tabbed TabB GenS)
abbrev sLaw : Stmt := topS 41
theorem scLaw : FnScope ["script", "w", "many", "clauses", "head", "text", "proof", "back", "turn", "bent"] ["script"] (defScope sLaw) := ⟨rfl, rfl, rfl, by decide +kernel, rfl, by decide +kernel, by decide +kernel⟩
abbrev NLW : List Str := ["script", "w", "many", "clauses", "head", "text", "proof", "back", "turn", "bent"]
theorem passN {X : Cx} : Passes (L2.CX X.prog X.w) X E0 := fun _ _ _ _ _ _ _ c => by
  obtain ⟨_, _, _, _, _, _, _, _, _, _, _, _, h⟩ := c
  exact h.elim
theorem wd_merge2 (l : Addr) : mergeK [] [(Sum.inr ("draws" : Str), V.ref l), (Sum.inr ("at" : Str), V.int 0)] = wdL l 0 := by
  have h1 : ¬ (Sum.inr ("draws" : Str) : Key) = Sum.inr ("at" : Str) := by decide
  unfold mergeK wdL
  simp [putK, h1]
section
variable {K : PySem.W.Frag} {a l T : Addr} {ds : List Int} {H H' : Hp}
theorem Wd.sm (W : Wd H a l ds) (s : Same H H') : Wd H' a l ds := by
  obtain ⟨n, n0, e⟩ := W.at'
  exact ⟨⟨n, n0, s _ _ e⟩, s _ _ W.dr, W.len⟩
theorem Wd.gr (W : Wd H a l ds) (tb : TabG H T) (g : Gr T H H') : Wd H' a l ds := by
  obtain ⟨n, n0, e⟩ := W.at'
  exact ⟨⟨n, n0, g.at tb e (fun ps z => by cases z)⟩, g.at tb W.dr (fun ps z => by cases z), W.len⟩
theorem tab_kp (W : Wd H a l ds) (tb : TabG H T) (k : Kp a H H') : TabG H' T := by
  obtain ⟨n, n0, e⟩ := W.at'
  have nT : a ≠ T := tab_is tb e (fun ps z => by cases z)
  obtain ⟨ps, e2, r⟩ := tb
  exact ⟨ps, k _ _ nT.symm e2, r⟩
theorem tab_sm (tb : TabG H T) (s : Same H H') : TabG H' T := by
  obtain ⟨ps, e2, r⟩ := tb
  exact ⟨ps, s _ _ e2, r⟩
end
theorem clN_len {y : Str} {ns : List Int} (h : clN y = some ns) (hy : LnB 600 y) : ns.length ≤ 601 := by
  unfold clN at h
  split at h
  · cases h
    rw [List.length_map, List.length_dropLast]
    have := (hy.parts2 (Nat.le_refl _)).1
    omega
  · cases h
theorem readPf_len : ∀ (k : Nat) (acc : List (List Int)) (ys : List Str) (ls : List (List Int)), readPf k acc ys = .inr ls → (∀ y ∈ ys, LnB 600 y) → (∀ c ∈ acc, c.length ≤ 601) → ls.length ≤ acc.length + ys.length ∧ ∀ c ∈ ls, c.length ≤ 601
  | k, acc, [], ls, h, _, ha => by
    cases h
    exact ⟨Nat.le_refl _, ha⟩
  | k, acc, y :: ys, ls, h, hy, ha => by
    unfold readPf at h
    cases e : clN y with
    | none => rw [e] at h; cases h
    | some ns =>
      rw [e] at h
      obtain ⟨a, b⟩ := readPf_len (k + 1) (acc ++ [ns]) ys ls h (fun z hz => hy z (List.mem_cons_of_mem _ hz)) (fun c hc => by
        rcases List.mem_append.mp hc with hc | hc
        · exact ha c hc
        · rw [List.mem_singleton.mp hc]
          exact clN_len e (hy y (List.mem_cons_self ..)))
      refine ⟨?_, b⟩
      rw [List.length_append] at a
      show ls.length ≤ acc.length + (ys.length + 1)
      have : [ns].length = 1 := rfl
      omega
theorem readCl_len {m n : Nat} : ∀ (k : Nat) (acc : List (List Int)) (ys : List Str) (ls : List (List Int)), readCl m n k acc ys = .inr ls → (∀ y ∈ ys, LnB 600 y) → (∀ c ∈ acc, c.length ≤ 601) → ls.length ≤ acc.length + ys.length ∧ ∀ c ∈ ls, c.length ≤ 601
  | k, acc, [], ls, h, _, ha => by
    cases h
    exact ⟨Nat.le_refl _, ha⟩
  | k, acc, y :: ys, ls, h, hy, ha => by
    unfold readCl at h
    split at h
    · cases h
    cases e : clN y with
    | none => rw [e] at h; cases h
    | some ns =>
      rw [e] at h
      simp only [] at h
      split at h
      · obtain ⟨a, b⟩ := readCl_len (k + 1) (acc ++ [ns]) ys ls h (fun z hz => hy z (List.mem_cons_of_mem _ hz)) (fun c hc => by
          rcases List.mem_append.mp hc with hc | hc
          · exact ha c hc
          · rw [List.mem_singleton.mp hc]
            exact clN_len e (hy y (List.mem_cons_self ..)))
        refine ⟨?_, b⟩
        rw [List.length_append] at a
        show ls.length ≤ acc.length + (ys.length + 1)
        have : [ns].length = 1 := rfl
        omega
      · cases h
theorem cls_gd {ls : List (List Int)} (h : ls.length ≤ 200) (hc : ∀ c ∈ ls, c.length ≤ 700) : gd 2 (.tuple (ls.map clD)) = true := gd_tup (by rw [List.length_map]; omega) fun d hd => by
  obtain ⟨c, hm, rfl⟩ := List.mem_map.mp hd
  have := hc c hm
  exact gd_tup (by rw [List.length_map]; omega) fun d hd => by
    obtain ⟨k, _, rfl⟩ := List.mem_map.mp hd
    exact gd_int k
theorem pair_gd {m : Nat} {ls : List (List Int)} (h : ls.length ≤ 200) (hc : ∀ c ∈ ls, c.length ≤ 700) : gd 3 (.tuple [iD m, .tuple (ls.map clD)]) = true := gd_tup (by show 2 ≤ 1000; decide) fun d hd => by
  rcases List.mem_cons.mp hd with rfl | hd
  · exact gd_int _
  · rw [List.mem_singleton.mp hd]
    exact cls_gd h hc
theorem gd_both {n : Nat} {d : PyData} (h : gd n d = true) (hn : n ≤ 60) : noL d = true ∧ SeqAt.shaped d = true := ⟨(gd_ok n d h).1, gd_shaped h hn⟩
theorem lines_ln {x : Str} (h : TxL 250 140 x) : (linesOf x).length ≤ 140 ∧ ∀ y ∈ linesOf x, LnB 600 y := by
  obtain ⟨hn, hls⟩ := h.lines
  unfold linesOf
  refine ⟨by rw [List.length_dropLast]; omega, fun y hy => (hls y (List.dropLast_subset _ hy)).up (by decide)⟩
theorem proof_gd {x : Str} (h : TxL 250 140 x) : noL (proofD x) = true ∧ SeqAt.shaped (proofD x) = true := by
  obtain ⟨h1, h2⟩ := lines_ln h
  unfold proofD
  cases e : proofN x with
  | inl n => exact gd_both (n := 0) (gd_int _) (by decide)
  | inr ls =>
    unfold proofN at e
    split at e
    · cases e
      exact gd_both (n := 2) (cls_gd (ls := []) (by decide) (fun c hc => by cases hc)) (by decide)
    · split at e
      · obtain ⟨a, b⟩ := readPf_len 0 [] (linesOf x) ls e h2 (fun c hc => by cases hc)
        have a2 : ls.length ≤ 0 + (linesOf x).length := a
        exact gd_both (n := 2) (cls_gd (by omega) fun c hc => by have := b c hc; omega) (by decide)
      · cases e
theorem clauses_gd {x : Str} (h : TxL 250 140 x) : noL (clausesD x) = true ∧ SeqAt.shaped (clausesD x) = true := by
  obtain ⟨h1, h2⟩ := lines_ln h
  unfold clausesD
  cases e : clausesN x with
  | inl n => exact gd_both (n := 0) (gd_int _) (by decide)
  | inr r =>
    unfold clausesN at e
    split at e
    · split at e
      · cases e
      · rename_i hd rest el
        split at e
        · rename_i m n en
          unfold endC at e
          split at e
          · cases e
          · rename_i acc er
            split at e
            · cases e
            · cases e
              rw [el] at h1 h2
              obtain ⟨a, b⟩ := readCl_len 0 [] rest acc er (fun y hy => h2 y (List.mem_cons_of_mem _ hy)) (fun c hc => by cases hc)
              have a2 : acc.length ≤ 0 + rest.length := a
              have h3 : rest.length + 1 ≤ 140 := h1
              exact gd_both (n := 3) (pair_gd (ls := acc) (by omega) fun c hc => by have := b c hc; omega) (by decide)
        · cases e
    · cases e
theorem nil_txl : TxL 250 140 (Str.ofString "") := ⟨trivial, fun c h => (by cases h), by decide⟩
theorem nil_res : clausesD (Str.ofString "") = iD 1 := by
  have e : clausesN (Str.ofString "") = .inl 1 := by
    unfold clausesN
    rw [if_neg (by unfold wholeB; rw [split_nil]; decide), split_nil]
    rfl
  unfold clausesD
  rw [e]
section
variable {P : Program} {w : World} {K : PySem.W.Frag} {mg : Str → Option Value} {base : Heap} {T : Addr}
def spLaw (K : PySem.W.Frag) (T : Addr) : Sp := fun vs H Q _ => ∃ (a : Addr) (ns : List Int), vs = [.ref a] ∧ SqL K H a (ns.map V.int) ∧ ns.length ≤ 63 ∧ TabG H T ∧ ∀ H', Q (.bl true) H'
theorem ok_law {f fD fN fC fL fPC fPP fRC fRP fT fB fU fV fK C : Addr} {fd fdD fdN fdC fdL fdPC fdPP fdRC fdRP fdT fdB fdU fdV fdK : FuncData} (F : Fun K "law" "law" sLaw f fd) (B : BT mg) (BL : Bl mg) (BG : Gp mg)
    (GD : FnOk P w K mg base CX0 1 fD fdD ["script", "many"] (spDraws K)) (kD : PySem.W.keepIn K (.ref fD) = true) (bD : Binds K fdD ["script", "many"] []) (gD : mg "_law_draws" = some (.ref fD))
    (GN : FnOk P w K mg base CX0 1 fN fdN ["w", "many"] spNext) (kN : PySem.W.keepIn K (.ref fN) = true) (bN : Binds K fdN ["w", "many"] []) (gN : mg "_law_next" = some (.ref fN))
    (GC : FnOk P w K mg base CX0 2 fC fdC ["w", "many"] (spDrawC K)) (kC : PySem.W.keepIn K (.ref fC) = true) (bC : Binds K fdC ["w", "many"] []) (gC : mg "_law_clauses" = some (.ref fC))
    (GL : FnOk P w K mg base CX0 2 fL fdL ["clauses"] (spLLines K)) (kL : PySem.W.keepIn K (.ref fL) = true) (bL : Binds K fdL ["clauses"] []) (gL : mg "_law_lines" = some (.ref fL))
    (GPC : FnOk P w K mg base CX0 4 fPC fdPC ["many", "clauses"] (spPClauses K)) (kPC : PySem.W.keepIn K (.ref fPC) = true) (bPC : Binds K fdPC ["many", "clauses"] []) (gPC : mg "print_clauses" = some (.ref fPC))
    (GPP : FnOk P w K mg base CX0 4 fPP fdPP ["proof"] (spPProof K)) (kPP : PySem.W.keepIn K (.ref fPP) = true) (bPP : Binds K fdPP ["proof"] []) (gPP : mg "print_proof" = some (.ref fPP))
    (GRC : FnOk P w K mg base (L2.CX P w) 5 fRC fdRC ["text"] (spRClauses K T C)) (kRC : PySem.W.keepIn K (.ref fRC) = true) (bRC : Binds K fdRC ["text"] []) (gRC : mg "read_clauses" = some (.ref fRC))
    (GRP : FnOk P w K mg base (L2.CX P w) 5 fRP fdRP ["text"] (spRProof K T C)) (kRP : PySem.W.keepIn K (.ref fRP) = true) (bRP : Binds K fdRP ["text"] []) (gRP : mg "read_proof" = some (.ref fRP))
    (GTC : FnOk P w K mg base CX0 6 fT fdT ["read", "text"] (spToldC K T fRC)) (GTP : FnOk P w K mg base CX0 6 fT fdT ["read", "text"] (spToldP K T fRP)) (kT : PySem.W.keepIn K (.ref fT) = true) (bT : Binds K fdT ["read", "text"] []) (gT : mg "_law_told" = some (.ref fT))
    (GB : FnOk P w K mg base CX0 4 fB fdB ["w", "text"] (spBent K)) (kB : PySem.W.keepIn K (.ref fB) = true) (bB : Binds K fdB ["w", "text"] []) (gB : mg "_law_bent" = some (.ref fB))
    (GU : FnOk P w K mg base CX0 3 fU fdU ["text"] (spCDue K)) (kU : PySem.W.keepIn K (.ref fU) = true) (bU : Binds K fdU ["text"] []) (gU : mg "_law_clauses_due" = some (.ref fU))
    (GV : FnOk P w K mg base CX0 3 fV fdV ["text"] (spPDue K)) (kV : PySem.W.keepIn K (.ref fV) = true) (bV : Binds K fdV ["text"] []) (gV : mg "_law_proof_due" = some (.ref fV))
    (GK : FnOk P w K mg base CX0 1 fK fdK ["thing"] (spPlain K)) (kK : PySem.W.keepIn K (.ref fK) = true) (bK : Binds K fdK ["thing"] []) (gK : mg "_law_is_plain" = some (.ref fK)) :
    FnOk P w K mg base CX0 7 f fd ["script"] (spLaw K T) := by
  refine F.ok scLaw (fun vs H Q E h => ?_) (fun cdv A outer s H vs Q E hr h => ?_)
  · obtain ⟨a, ns, rfl, _⟩ := h
    rfl
  · obtain ⟨a, ns, rfl, hS, hlen, tb, q⟩ := h
    have nd := scLaw.nd
    have hr6 : Room 6 _ := hr
    have hr5 : Room 5 _ := hr.mono (by decide)
    have hr4 : Room 4 _ := hr.mono (by decide)
    have hr3 : Room 3 _ := hr.mono (by decide)
    have hr2 : Room 2 _ := hr.mono (by decide)
    have hr1 : Room 1 _ := hr.mono (by decide)
    have hu := hr.units
    refine ⟨_, (pss_cons (ps_set (i := 1) nd rfl (.inl rfl) (pe_disp (pps_cons (pe_str) (pe_call GD hr1 (by rfl) gD kD bD .nil pass0 (pa_cons (pv 0) (pa_cons (pe_int) pa_nil))) (pps_cons (pe_str) (pe_int) pps_nil)) rfl rfl (by intro z; cases z) (by decide)))
      (pss_cons (ps_set (i := 2) nd rfl (.inl rfl) (pe_op op_add (pe_int) (pe_call GN hr1 (by rfl) gN kN bN .nil pass0 (pa_cons (pv 1) (pa_cons (pe_int) pa_nil)))))
      (pss_cons (ps_set (i := 3) nd rfl (.inl rfl) (pe_call GC hr2 (by rfl) gC kC bC .nil pass0 (pa_cons (pv 1) (pa_cons (pv 2) pa_nil))))
      (pss_cons (ps_set (i := 4) nd rfl (.inl rfl) (pe_op op_add_str (pe_op op_add_str (pe_op op_add_str (pe_op op_add_str (pe_str) (pe_callTy call_str_int (by rfl) BL.str (by decide +kernel) (pa_cons (pv 2) pa_nil))) (pe_str)) (pe_callTy call_str_int (by rfl) BL.str (by decide +kernel) (pa_cons (pe_callB call_len_seq (by rfl) B.len PySem.boot_len (pa_cons (pv 3) pa_nil)) pa_nil))) (pe_str)))
      (pss_cons (ps_par (i := 5) (j := 6) (by rfl) nd rfl rfl (by decide) rfl rfl (pa_cons (pe_call GPC hr4 (by rfl) gPC kPC bPC .nil pass0 (pa_cons (pv 2) (pa_cons (pv 3) pa_nil))) (pa_cons (pe_call GPP hr4 (by rfl) gPP kPP bPP .nil pass0 (pa_cons (pv 3) pa_nil)) pa_nil)) (by rfl))
      (C8.pss_cut (ps_if (PW.pt (pw_or (pt_not (pt_val (pe_callB call_isi (by rfl) BG.isi (by decide +kernel) (pa_cons (pv 5) (pa_cons (pe_bltn (v := .ty "str") (by rfl) BL.str (by decide +kernel) rfl) pa_nil))))) (pw_or (pt_not (pt_val (pe_callB call_isi (by rfl) BG.isi (by decide +kernel) (pa_cons (pv 6) (pa_cons (pe_bltn (v := .ty "str") (by rfl) BL.str (by decide +kernel) rfl) pa_nil))))) (pw_or (pt_cmpR op_ne (pv 5) (pe_op op_add_str (pv 4) (pe_call GL hr2 (by rfl) gL kL bL .nil pass0 (pa_cons (pv 3) pa_nil))) (nomark _)) (pw_or1 (pt_cmpR op_ne (pv 6) (pe_call GL hr2 (by rfl) gL kL bL .nil pass0 (pa_cons (pv 3) pa_nil)) (nomark _))))))) (pss_one (ps_ret (pe_bl))) pss_nil)
      (pss_cons (ps_set (i := 7) nd rfl (.inl rfl) (pe_call (E := E0) GRC hr5 (by rfl) gRC kRC bRC .nil passN (pa_cons (pv 5) pa_nil)))
      (C8.pss_cut (ps_if (PW.pt (pw_or (pt_not (pt_val (pe_callB call_isi (by rfl) BG.isi (by decide +kernel) (pa_cons (pv 7) (pa_cons (pe_bltn (v := .ty "tuple") (by rfl) BG.tu (by decide +kernel) rfl) pa_nil))))) (pw_or (pt_cmpR (op_neD hu) (pv 7) (pe_tup (pa_cons (pv 2) (pa_cons (pv 3) pa_nil))) (nomark _)) (pw_or1 (pt_not (pt_val (pe_call GK hr1 (by rfl) gK kK bK .nil pass0 (pa_cons (pe_ix ix_tup (pv 7) (pe_int) (fun _ _ => rfl)) pa_nil)))))))) (pss_one (ps_ret (pe_bl))) pss_nil)
      (C8.pss_cut (ps_if (PW.pt (pw_or (pt_cmpR (op_neD hu) (pe_call (E := E0) GRP hr5 (by rfl) gRP kRP bRP .nil passN (pa_cons (pv 6) pa_nil)) (pv 3) (nomark _)) (pw_or1 (pt_not (pt_val (pe_call GK hr1 (by rfl) gK kK bK .nil pass0 (pa_cons (pe_call (E := E0) GRP hr5 (by rfl) gRP kRP bRP .nil passN (pa_cons (pv 6) pa_nil)) pa_nil))))))) (pss_one (ps_ret (pe_bl))) pss_nil)
      (C8.pss_cut (ps_for PassesOwn.never rfl (pi_range1 (by rfl) BL.range (pa_cons (pe_int) pa_nil)) (pg_name (i := 8) nd rfl (.inl rfl)) (pss_cons (ps_set (i := 9) nd rfl (.inl rfl) (pe_call GB hr4 (by rfl) gB kB bB .nil pass0 (pa_cons (pv 1) (pa_cons (pv 5) pa_nil))))
      (C8.pss_cut (ps_if (PW.pt (pw_and (pt_cmpR op_ne (pv 9) (pe_str) (nomark _)) (pw_and1 (pt_cmpR op_eq (pe_call GN hr1 (by rfl) gN kN bN .nil pass0 (pa_cons (pv 1) (pa_cons (pe_int) pa_nil))) (pe_int) (nomark _))))) (pss_one (ps_set (i := 9) nd rfl (.inl rfl) (pe_call GB hr4 (by rfl) gB kB bB .nil pass0 (pa_cons (pv 1) (pa_cons (pv 9) pa_nil))))) pss_nil)
      (pss_cons (ps_if (pt_cmpR (op_neD hu) (pe_call GTC hr6 (by rfl) gT kT bT .nil pass0 (pa_cons (pe_glob (v := .ref fRC) (by rfl) gRC rfl) (pa_cons (pv 9) pa_nil))) (pe_call GU hr3 (by rfl) gU kU bU .nil pass0 (pa_cons (pv 9) pa_nil)) (nomark _)) (pss_one (ps_ret (pe_bl))) pss_nil)
      (pss_cons (ps_set (i := 9) nd rfl (.inl rfl) (pe_call GB hr4 (by rfl) gB kB bB .nil pass0 (pa_cons (pv 1) (pa_cons (pe_op op_add_str (pv 6) (pe_str)) pa_nil))))
      (pss_one (ps_if (pt_cmpR (op_neD hu) (pe_call GTP hr6 (by rfl) gT kT bT .nil pass0 (pa_cons (pe_glob (v := .ref fRP) (by rfl) gRP rfl) (pa_cons (pv 9) pa_nil))) (pe_call GV hr3 (by rfl) gV kV bV .nil pass0 (pa_cons (pv 9) pa_nil)) (nomark _)) (pss_one (ps_ret (pe_bl))) pss_nil)))))))
      (pss_one (ps_ret (pe_cmpR op_eq (pe_call GTC hr6 (by rfl) gT kT bT .nil pass0 (pa_cons (pe_glob (v := .ref fRC) (by rfl) gRC rfl) (pa_cons (pe_str) pa_nil))) (pe_int) (nomark _)))))))))))))), ?_⟩
    refine fun wa nwa => ?_
    have tb0 := tab_sm tb (Same.up nwa (o := .dK []))
    refine ⟨_, rfl, a, ns, 220, rfl, (same_new nwa).seq hS, hlen, by decide, fun H1 l ds s1 nl el lds => ?_⟩
    have hwa1 : H1 wa = some (.dK []) := s1 _ _ upd_same
    have tb1 := tab_sm tb0 s1
    refine ⟨hwa1, [(.inr ("draws" : Str), .ref l), (.inr ("at" : Str), .int 0)], rfl, (by show 2 ≤ 15; decide), ?_⟩
    rw [wd_merge2]
    have nlw : l ≠ wa := fun z => by
      rw [z, upd_same] at nl
      cases nl
    have W : Wd (upd H1 wa (.dK (wdL l 0))) wa l ds := ⟨⟨0, Int.le_refl 0, upd_same⟩, by rw [upd_ne nlw]; exact el, lds⟩
    have nwT : T ≠ wa := (tab_is tb1 hwa1 (fun ps z => by cases z)).symm
    have tb2 : TabG (upd H1 wa (.dK (wdL l 0))) T := by
      obtain ⟨ps, e, r⟩ := tb1
      exact ⟨ps, by rw [upd_ne nwT]; exact e, r⟩
    generalize upd H1 wa (.dK (wdL l 0)) = H2 at W tb2
    -- many, clauses
    refine ⟨_, rfl, wa, l, ds, _, rfl, by decide, W, fun r0 H3 hr0 k3 _ W3 => ⟨_, _, rfl, rfl, ?_⟩⟩
    show gName 2 (V.int ((1 : Int) + ((r0 : Nat) : Int))) _ _ _
    obtain ⟨m, em, hm1, hm2⟩ : ∃ m : Nat, (1 : Int) + ((r0 : Nat) : Int) = ((m : Nat) : Int) ∧ 0 < m ∧ m ≤ 12 := ⟨1 + r0, by omega, by omega, by omega⟩
    rw [em]
    have tb3 := tab_kp W tb2 k3
    refine ⟨_, rfl, _, rfl, wa, l, ds, m, rfl, hm1, hm2, W3, fun H4 p cs k4 W4 lcs hcs hd => ?_⟩
    have tb4 := tab_kp W3 tb3 k4
    have okc : ClsOk cs := ⟨by omega, fun c hc => ⟨by have := (hcs c hc).1; omega, (hcs c hc).big hm2⟩⟩
    obtain ⟨hbC, txC, neC⟩ := clauses_back hm2 lcs hcs
    obtain ⟨hbP, txP⟩ := proof_back hm2 lcs hcs
    obtain ⟨txM, neM⟩ := more_txl hm2 lcs hcs
    have lc7 : ∀ c ∈ cs, c.length ≤ 700 := fun c hc => by have := (hcs c hc).1; omega
    have gC2 := gd_both (cls_gd (by omega) lc7) (by decide)
    have gC3 := gd_both (pair_gd (m := m) (by omega) lc7) (by decide)
    obtain ⟨px, xs, epx, sq, dp⟩ := dp_tup hd
    cases epx
    have lxs := dps_len dp
    rw [List.length_map] at lxs
    -- the head
    have l1 := part_len (nat_part (n := m) (by omega))
    have l2 := part_len (nat_part (n := cs.length) (by omega))
    have g1 := Pl.log (i := ((m : Nat) : Int)) (nat_part (n := m) (by omega))
    have g2 := Pl.log (i := ((cs.length : Nat) : Int)) (nat_part (n := cs.length) (by omega))
    have z1 : (Str.ofString "p cnf ").length = 6 := by decide +kernel
    have z2 : (Str.ofString " ").length = 1 := by decide +kernel
    have z3 : (Str.ofString "\n").length = 1 := by decide +kernel
    have l1' : (Str.ofString (toString ((m : Nat) : Int))).length ≤ 9 := l1
    have l2' : (Str.ofString (toString ((cs.length : Nat) : Int))).length ≤ 9 := l2
    refine ⟨_, rfl, _, rfl, g1, _, _, rfl, rfl, by rw [z1, sizeLine_eq]; omega, ?_⟩
    refine ⟨_, _, rfl, rfl, by rw [app_len, z1, z2, sizeLine_eq]; omega, ?_⟩
    refine ⟨_, rfl, p, _, rfl, .inr sq, ?_⟩
    rw [lxs]
    refine ⟨_, rfl, g2, _, _, rfl, rfl, by rw [app_len, app_len, z1, z2, sizeLine_eq]; omega, ?_⟩
    refine ⟨_, _, rfl, rfl, by rw [app_len, app_len, app_len, z1, z2, z3, sizeLine_eq]; omega, ?_⟩
    obtain ⟨hdS, ehd⟩ : ∃ hdS, (((Str.ofString "p cnf " ++ pS (iD m)) ++ Str.ofString " ") ++ pS (iD cs.length)) ++ Str.ofString "\n" = hdS := ⟨_, rfl⟩
    have hhd : hdS.length ≤ 60 := by
      rw [← ehd, app_len, app_len, app_len, app_len, z1, z2, z3]
      omega
    have hlaw := law_text m cs
    rw [ehd] at hlaw
    show gName 4 (.str ((((Str.ofString "p cnf " ++ pS (iD m)) ++ Str.ofString " ") ++ pS (iD cs.length)) ++ Str.ofString "\n")) _ _ _
    rw [ehd]
    -- text, proof
    refine ⟨_, rfl, _, rfl, m, p, cs, rfl, by omega, hd, okc, fun H5 s5 => ?_⟩
    have hd5 := dp_stay (same_tup s5) _ _ hd gC2.1
    refine ⟨_, rfl, p, cs, rfl, hd5, okc, fun H6 s6 => ?_⟩
    have hd6 := dp_stay (same_tup s6) _ _ hd5 gC2.1
    have W6 := (W4.sm s5).sm s6
    have tb6 := tab_sm (tab_sm tb4 s5) s6
    obtain ⟨ps, eps⟩ : ∃ ps, textL (clsL cs) = ps := ⟨_, rfl⟩
    have hpsz : ps.length ≤ 12 * 57 := by
      have := txP.size
      rw [eps] at this
      exact Nat.le_trans this (by decide)
    obtain ⟨tx, etx⟩ : ∃ tx, clausesT m cs = tx := ⟨_, rfl⟩
    have etx' : textL (headT m cs.length :: clsL cs) = tx := etx
    rw [eps, etx] at hlaw
    rw [eps] at hbP txP txM neM
    rw [etx] at hbC txC neC
    have txC2 : TxL 250 140 tx := txC.up (by decide) (by decide)
    have txP2 : TxL 250 140 ps := txP.up (by decide) (by decide)
    have eRC : clausesD tx = .tuple [iD m, .tuple (cs.map clD)] := by
      unfold clausesD
      rw [hbC]
    have eRP : proofD ps = .tuple (cs.map clD) := by
      unfold proofD
      rw [hbP]
    refine ⟨_, _, rfl, ?_⟩
    refine ⟨fun σ H' => σ = [some (.ref a), some (.ref wa), some (iV m), some (.ref p), some (.str hdS), some (.str tx), some (.str ps), none, none, none] ∧ Wd H' wa l ds ∧ TabG H' T ∧ Dp K H' (.ref p) (.tuple (cs.map clD)), ?_, ?_⟩
    · rw [etx', eps]
      refine ⟨_, rfl, .str tx, .ty "str", .type "str", .type "str", true, rfl, .ty _, .base (.str _), kit_ty (by decide +kernel), _, rfl, iteF ?_⟩
      refine ⟨_, rfl, .str ps, .ty "str", .type "str", .type "str", true, rfl, .ty _, .base (.str _), kit_ty (by decide +kernel), _, rfl, iteF ?_⟩
      refine ⟨_, rfl, _, rfl, _, rfl, p, cs, rfl, hd6, okc, fun H7 s7 => ⟨_, _, rfl, rfl, by rw [eps, sizeLine_eq]; omega, rfl, _, rfl, ?_⟩⟩
      have hd7 := dp_stay (same_tup s7) _ _ hd6 gC2.1
      refine iteF' (by rw [eps, hlaw, decide_eq_true rfl]; rfl) ?_
      refine ⟨_, rfl, _, rfl, p, cs, rfl, hd7, okc, fun H8 s8 => ⟨rfl, _, rfl, ?_⟩⟩
      exact iteF' (by rw [eps, decide_eq_true rfl]; rfl) ⟨rfl, (W6.sm s7).sm s8, tab_sm (tab_sm tb6 s7) s8, dp_stay (same_tup s8) _ _ hd7 gC2.1⟩
    rintro σ H7 ⟨rfl, W7, tb7, hd7⟩
    refine ⟨_, rfl, tx, rfl, txC2, tb7, fun m' ls' e H8 v g8 dv => ?_, fun n e => by rw [hbC] at e; cases e⟩
    rw [hbC] at e
    cases e
    have W8 := W7.gr tb7 g8
    have tb8 := g8.tab
    have hd8 : Dp K H8 (.ref p) (.tuple (cs.map clD)) := dp_stay (fun b xs h => g8.seqT tb7 h) _ _ hd7 gC2.1
    obtain ⟨b, ys, rfl, sqb, dpb⟩ := dp_tup dv
    obtain ⟨v1, v2, eys, dv1, dv2⟩ : ∃ v1 v2, ys = [v1, v2] ∧ Dp K H8 v1 (iD m) ∧ Dp K H8 v2 (.tuple (cs.map clD)) := by
      cases dpb with
      | cons d1 r =>
      cases r with
      | cons d2 r =>
      cases r
      exact ⟨_, _, rfl, d1, d2⟩
    subst eys
    refine ⟨fun σ H' => ∃ y7, σ = [some (.ref a), some (.ref wa), some (iV m), some (.ref p), some (.str hdS), some (.str tx), some (.str ps), y7, none, none] ∧ Wd H' wa l ds ∧ TabG H' T ∧ Dp K H' (.ref p) (.tuple (cs.map clD)), ?_, ?_⟩
    · refine ⟨_, rfl, .ref b, .ty "tuple", .type "tuple", .type "tuple", true, rfl, .ty _, tyx_tup sqb, kit_ty (by decide +kernel), _, rfl, iteF ?_⟩
      refine ⟨_, rfl, _, rfl, _, rfl, line200 (show 2 ≤ 1000 by decide), fun tp ntp => ?_⟩
      have st : Same H8 (upd H8 tp (.tup [iV m, .ref p])) := Same.up ntp
      refine ⟨_, _, dp_stay (same_tup st) _ _ dv gC3.1, .tup (SqT.of upd_same) (.cons (.int _) (.cons (dp_stay (same_tup st) _ _ hd8 gC2.1) .nil)), gC3.2, gC3.2, _, rfl, ?_⟩
      rw [SeqAt.eqv_refl _ (SeqAt.canLay_of_shaped gC3.2)]
      refine iteF ?_
      have hd9 := dp_stay (same_tup st) _ _ hd8 gC2.1
      refine ⟨_, rfl, b, _, _, _, rfl, rfl, same_tup st _ _ sqb, atI_nat (j := 1) rfl, v2, cs, rfl, dp_stay (same_tup st) _ _ dv2 gC2.1, by omega, lc7, fun Ha sa => ⟨_, rfl, ?_⟩⟩
      exact iteF ⟨_, rfl, (W8.sm st).sm sa, tab_sm (tab_sm tb8 st) sa, dp_stay (same_tup sa) _ _ hd9 gC2.1⟩
    rintro σ H9 ⟨y7, rfl, W9, tb9, hd9⟩
    refine ⟨fun σ H' => ∃ y7, σ = [some (.ref a), some (.ref wa), some (iV m), some (.ref p), some (.str hdS), some (.str tx), some (.str ps), y7, none, none] ∧ Wd H' wa l ds ∧ TabG H' T, ?_, ?_⟩
    · refine ⟨_, rfl, ps, rfl, txP2, tb9, fun ls e Ha v ga dv => ?_, fun n e => by rw [hbP] at e; cases e⟩
      rw [hbP] at e
      cases e
      have hda : Dp K Ha (.ref p) (.tuple (cs.map clD)) := dp_stay (fun b xs h => ga.seqT tb9 h) _ _ hd9 gC2.1
      have Wa := W9.gr tb9 ga
      refine ⟨_, rfl, _, _, dv, hda, gC2.2, gC2.2, _, rfl, ?_⟩
      rw [SeqAt.eqv_refl _ (SeqAt.canLay_of_shaped gC2.2)]
      refine iteF ?_
      refine ⟨_, rfl, ps, rfl, txP2, ga.tab, fun ls e Hb v gb dv => ?_, fun n e => by rw [hbP] at e; cases e⟩
      rw [hbP] at e
      cases e
      refine ⟨_, cs, rfl, dv, by omega, lc7, fun Hc sc => ⟨_, rfl, ?_⟩⟩
      exact iteF ⟨_, rfl, (Wa.gr ga.tab gb).sm sc, tab_sm gb.tab sc⟩
    rintro σ Ha ⟨y7', rfl, Wa, tba⟩
    refine ⟨fun σ H' => TabG H' T, ?_, fun σ' H' tb' => ?_⟩
    · refine ⟨4, rfl, by decide, by decide, for_range (n := 4) (fun i σ H' => ∃ y7 y8 y9 : Option V, σ = [some (.ref a), some (.ref wa), some (iV m), some (.ref p), some (.str hdS), some (.str tx), some (.str ps), y7, y8, y9] ∧ Wd H' wa l ds ∧ TabG H' T) ⟨_, none, none, rfl, Wa, tba⟩ (fun i σ H' hi h => ?_) (fun σ H' h => by obtain ⟨_, _, _, _, _, t⟩ := h; exact t)⟩
      obtain ⟨y7, y8, y9, rfl, W', tb'⟩ := h
      refine ⟨_, rfl, _, rfl, wa, l, ds, tx, 56, 12, rfl, W', neC, txC, by decide, by decide, fun Hb y kb Wb ty => ?_⟩
      have tbb := tab_kp W' tb' kb
      refine ⟨fun σ H' => ∃ z : Str, σ = [some (.ref a), some (.ref wa), some (iV m), some (.ref p), some (.str hdS), some (.str tx), some (.str ps), y7, some (.int (0 + (i : Nat))), some (.str z)] ∧ Wd H' wa l ds ∧ TabG H' T ∧ TxL 250 140 z, ?_, ?_⟩
      · refine ⟨_, rfl, rfl, _, rfl, ?_⟩
        by_cases hy : y = Str.ofString ""
        · exact iteF' (by rw [decide_eq_true (by rw [hy])]; rfl) ⟨y, rfl, Wb, tbb, ty.up (by decide) (by decide)⟩
        · refine iteT' (by rw [decide_eq_false (fun z => hy (V.str.inj z))]; rfl) ?_
          refine ⟨_, rfl, wa, l, ds, _, rfl, by decide, Wb, fun r1 Hc hr1' kc _ Wc => ⟨rfl, _, rfl, ?_⟩⟩
          have tbc := tab_kp Wb tbb kc
          by_cases h0 : r1 = 0
          · refine iteT' (decide_eq_true (congrArg V.int (by omega))) ?_
            exact ⟨_, rfl, _, rfl, wa, l, ds, y, 117, 14, rfl, Wc, hy, ty, by decide, by decide, fun Hd z kd Wd' tz => ⟨z, rfl, Wd', tab_kp Wc tbc kd, tz.up (by decide) (by decide)⟩⟩
          · exact iteF' (decide_eq_false (fun z => h0 (by have := V.int.inj z; omega))) ⟨y, rfl, Wc, tbc, ty.up (by decide) (by decide)⟩
      rintro σ Hc ⟨z, rfl, Wc, tbc, tz⟩
      have rg := clauses_gd tz
      refine ⟨_, rfl, z, rfl, tz, tbc, fun Hd v gd' dv => ?_⟩
      have tbd := gd'.tab
      have Wd1 := Wc.gr tbc gd'
      refine ⟨_, rfl, z, rfl, tz, fun He v2 se dv2 => ?_⟩
      refine ⟨_, _, dp_stay (same_tup se) _ _ dv rg.1, dv2, rg.2, rg.2, _, rfl, ?_⟩
      rw [SeqAt.eqv_refl _ (SeqAt.canLay_of_shaped rg.2)]
      refine iteF ?_
      have We := Wd1.sm se
      have tbe := tab_sm tbd se
      have z4 : (Str.ofString "1 0\n").length = 4 := by decide +kernel
      refine ⟨_, rfl, _, rfl, _, _, rfl, rfl, by rw [z4, sizeLine_eq]; omega, wa, l, ds, ps ++ Str.ofString "1 0\n", 56, 12, rfl, We, neM, txM, by decide, by decide, fun Hf y2 kf Wf ty2 => ?_⟩
      have tbf := tab_kp We tbe kf
      have tz2 : TxL 250 140 y2 := ty2.up (by decide) (by decide)
      have rg2 := proof_gd tz2
      refine ⟨_, rfl, y2, rfl, tz2, tbf, fun Hg v gg dv => ?_⟩
      refine ⟨_, rfl, y2, rfl, tz2, fun Hh v2 sh dv2 => ?_⟩
      refine ⟨_, _, dp_stay (same_tup sh) _ _ dv rg2.1, dv2, rg2.2, rg2.2, _, rfl, ?_⟩
      rw [SeqAt.eqv_refl _ (SeqAt.canLay_of_shaped rg2.2)]
      exact iteF ⟨_, _, _, rfl, (Wf.gr tbf gg).sm sh, tab_sm gg.tab sh⟩
    refine ⟨Str.ofString "", rfl, nil_txl, tb', fun Hb v gb dv => ?_⟩
    rw [nil_res] at dv
    cases dv
    exact ⟨rfl, q _⟩
end
end C1

/-! What the top leaves, and the end. -/
namespace C1
open PySem PySem.Spec PyProof.Rows L2 SX
open GxR (TabG Tabbed TabB GenS)
theorem kit_ref {K : PySem.W.Frag} {t : Value} {C : Addr} (hd : PySem.W.hasDictIn K C = true) (ty : PySem.W.typeIn K (.ref C) = some (.type "type")) (s : PySem.W.subIn K t (.ref C) = some true) : PySem.W.kitOne K t (.ref C) = some true := by
  obtain ⟨cd, hc, _⟩ := PySem.W.any_some hd
  have e : ((PySem.W.clsIn K C).isSome && PySem.W.typeIn K (.ref C) == some (.type "type")) = true := by
    rw [hc, ty]
    rfl
  unfold PySem.W.kitOne
  by_cases q : (t == Value.ref C) = true
  · rw [if_pos q]
  · rw [if_neg q]
    show (if ((PySem.W.clsIn K C).isSome && PySem.W.typeIn K (.ref C) == some (.type "type")) = true then PySem.W.subIn K t (.ref C) else none) = some true
    rw [if_pos e]
    exact s
/-- the table of is_number's code is empty at the law's call -/
def OwnT (K : PySem.W.Frag) (mg : Str → Option Value) (h : Heap) : Prop := ∀ (f c P : Addr) (o : Obj) (fd : FuncData) (e : Value) (dd : Option Addr) (vs : Array Value) (sl : Array (Option Value)),
  mg "is_number" = some (.ref f) → K.lookup f = some o → o.data = .func fd → fd.code = .ref c → K.lookup c = some ⟨e, dd, .fields vs, sl⟩ → vs[11]? = some (.ref P) → h.get? P = some { cls := .none, data := .fields #[] } ∧ PySem.W.CodeHd h c P
theorem walk_ofDef {l : PySem.W.OpenLaw} {n k : Nat} {q : Program} {loose : List Str} {XP : (Str → Option Value) → Heap → Prop} {YP : World → Heap → Prop} {d : DefRec} {K : Params → PySem.W.Frag} {CX : World → CXT} {x nm : Str}
    (hn : l.most = some n) (hn2 : n ≤ sizeLine) (hdf : d.params.defaults = []) (hr : Room k callerA) (hrec : ((recsOf q).any fun e => e.name == "is_number") = true) (hY : ∀ (w : World) (h : Heap), YP w h → (K w.params).In h)
    (F : ∀ (w : World) (mg : Str → Option Value) (fa : Addr) (h : Heap), YP w h → (K w.params).In h → h.Ns mainGlobals mg → mg d.name = some (.ref fa) → OwnT (K w.params) mg h → LamX.LawAtS l w (K w.params) (CX w) k n x mg fa h)
    (hCX : ∀ (w : World) (H : Hp) (s : Shared) (e : Value) (s' : Shared), CX w [] H s (fun _ _ _ => False) e s' → False) :
    PySem.W.WalkO q loose XP YP l.row.toRowW d [] (fun f vs => PySem.call f vs) := by
  refine Att.attach_callB hn hdf fun w s0 s1 mg mb fa o pm cd doc a vs ns G Y ho hd hcd hmg hobj hints hlen hbits hg => ?_
  have KX := hY w _ Y
  have own : OwnT (K w.params) mg s1.heap := fun f c P o1 fd1 e dd vs1 sl k0 k1 k2 k3 k4 k5 => by
    obtain ⟨r, hm, hnm⟩ := List.any_eq_true.mp hrec
    have hnm2 : r.name = "is_number" := beq_iff_eq.mp hnm
    obtain ⟨a2, o2, fd2, c2, P2, h1, h2, h3, h4, h5, h6⟩ := G.T.tab r hm
    rw [hnm2, k0] at h1
    cases h1
    have g1 := KX _ _ k1
    rw [g1] at h2
    cases h2
    rw [k2] at h3
    cases h3
    rw [k3] at h4
    cases h4
    have hc := PySem.W.CodeHd.of h5 h6
    obtain ⟨⟨oc, vc, b1, _, b3, b4⟩, hP⟩ := h6
    have g2 := KX _ _ k4
    rw [g2] at b1
    cases b1
    cases b3
    rw [k5] at b4
    cases b4
    exact ⟨hP, hc⟩
  obtain ⟨fd, cs, sp, hT, nT, C, hb, hsp, hF⟩ := F w mg fa _ Y KX G.T.g hmg own
  exact LamX.law_callTs KX G.T.g G.T.b G.T.builtins G.T.nolimit hg hT nT C G.T.bmain hobj hints (Nat.le_trans hlen hn2) hr hF hb (fun H hH hS => hsp H a ns hlen hbits hH hS) fun H e s' => hCX w H s1 e s'
theorem all_mk {l : PySem.W.OpenLaw} {w : World} {K : PySem.W.Frag} {h : Heap} {mg : Str → Option Value} {fa : Addr} (X : K.In h) (G : h.Ns mainGlobals mg) (hfa : mg "law" = some (.ref fa)) (own : OwnT K mg h)
    {f0 : Addr} {od0 an0 : Option Addr} {sl0 : Array (Option Value)} {oc0 kV0 dc0 pm0  ct0 : Value}
    {f1 : Addr} {od1 an1 : Option Addr} {sl1 : Array (Option Value)} {oc1 kV1 dc1 pm1 cd1 ct1 : Value}
    {f2 : Addr} {od2 an2 : Option Addr} {sl2 : Array (Option Value)} {oc2 kV2 dc2 pm2 cd2 ct2 : Value}
    {f3 : Addr} {od3 an3 : Option Addr} {sl3 : Array (Option Value)} {oc3 kV3 dc3 pm3 cd3 ct3 : Value}
    {f4 : Addr} {od4 an4 : Option Addr} {sl4 : Array (Option Value)} {oc4 kV4 dc4 pm4 cd4 ct4 : Value}
    {f5 : Addr} {od5 an5 : Option Addr} {sl5 : Array (Option Value)} {oc5 kV5 dc5 pm5 cd5 ct5 : Value}
    {f6 : Addr} {od6 an6 : Option Addr} {sl6 : Array (Option Value)} {oc6 kV6 dc6 pm6 cd6 ct6 : Value}
    {f7 : Addr} {od7 an7 : Option Addr} {sl7 : Array (Option Value)} {oc7 kV7 dc7 pm7 cd7 ct7 : Value}
    {f8 : Addr} {od8 an8 : Option Addr} {sl8 : Array (Option Value)} {oc8 kV8 dc8 pm8 cd8 ct8 : Value}
    {f9 : Addr} {od9 an9 : Option Addr} {sl9 : Array (Option Value)} {oc9 kV9 dc9 pm9 cd9 ct9 : Value}
    {f10 : Addr} {od10 an10 : Option Addr} {sl10 : Array (Option Value)} {oc10 kV10 dc10 pm10 cd10 ct10 : Value}
    {f11 : Addr} {od11 an11 : Option Addr} {sl11 : Array (Option Value)} {oc11 kV11 dc11 pm11 cd11 ct11 : Value}
    {f12 : Addr} {od12 an12 : Option Addr} {sl12 : Array (Option Value)} {oc12 kV12 dc12 pm12 cd12 ct12 : Value}
    {f13 : Addr} {od13 an13 : Option Addr} {sl13 : Array (Option Value)} {oc13 kV13 dc13 pm13 cd13 ct13 : Value}
    {f14 : Addr} {od14 an14 : Option Addr} {sl14 : Array (Option Value)} {oc14 kV14 dc14 pm14 cd14 ct14 : Value}
    {f15 : Addr} {od15 an15 : Option Addr} {sl15 : Array (Option Value)} {oc15 kV15 dc15 pm15 cd15 ct15 : Value}
    {f16 : Addr} {od16 an16 : Option Addr} {sl16 : Array (Option Value)} {oc16 kV16 dc16 pm16 cd16 ct16 : Value}
    {f17 : Addr} {od17 an17 : Option Addr} {sl17 : Array (Option Value)} {oc17 kV17 dc17 pm17 cd17 ct17 : Value}
    {f18 : Addr} {od18 an18 : Option Addr} {sl18 : Array (Option Value)} {oc18 kV18 dc18 pm18 cd18 ct18 : Value}
    {f19 : Addr} {od19 an19 : Option Addr} {sl19 : Array (Option Value)} {oc19 kV19 dc19 pm19 cd19 ct19 : Value}
    {f20 : Addr} {od20 an20 : Option Addr} {sl20 : Array (Option Value)} {oc20 kV20 dc20 pm20 cd20 ct20 : Value}
    {f21 : Addr} {od21 an21 : Option Addr} {sl21 : Array (Option Value)} {oc21 kV21 dc21 pm21 cd21 ct21 : Value}
    {f22 : Addr} {od22 an22 : Option Addr} {sl22 : Array (Option Value)} {oc22 kV22 dc22 pm22 cd22 ct22 : Value}
    {f23 : Addr} {od23 an23 : Option Addr} {sl23 : Array (Option Value)} {oc23 kV23 dc23 pm23 cd23 ct23 : Value}
    {f24 : Addr} {od24 an24 : Option Addr} {sl24 : Array (Option Value)} {oc24 kV24 dc24 pm24 cd24 ct24 : Value}
    {f25 : Addr} {od25 an25 : Option Addr} {sl25 : Array (Option Value)} {oc25 kV25 dc25 pm25 cd25 ct25 : Value}
    {f26 : Addr} {od26 an26 : Option Addr} {sl26 : Array (Option Value)} {oc26 kV26 dc26 pm26 cd26 ct26 : Value}
    {f27 : Addr} {od27 an27 : Option Addr} {sl27 : Array (Option Value)} {oc27 kV27 dc27 pm27 cd27 ct27 : Value}
    {f28 : Addr} {od28 an28 : Option Addr} {sl28 : Array (Option Value)} {oc28 kV28 dc28 pm28 cd28 ct28 : Value}
    {f29 : Addr} {od29 an29 : Option Addr} {sl29 : Array (Option Value)} {oc29 kV29 dc29 pm29 cd29 ct29 : Value}
    {f30 : Addr} {od30 an30 : Option Addr} {sl30 : Array (Option Value)} {oc30 kV30 dc30 pm30 cd30 ct30 : Value}
    {cP Tb : Addr} {pe : Value} {pd : Option Addr} {pvs : Array Value} {psl : Array (Option Value)}
    {fI : Addr} {odI anI : Option Addr} {slI : Array (Option Value)} {ocI kVI dcI pmI cdI ctI : Value} {CB CC NCB : Addr} {nmCB qCB : Str} {bsCB : List Value} {snCB : List Str} {subCB : List Value} {abCB : Bool} {colCB : Option Bool} {ddCB : Option Addr} {m0CB m1CB m2CB m3CB m5CB : Option Value}
    {tkD : Tok}
    {tkA tkE tkH : Tok}
    (a0 : PySem.W.nsIn K mainGlobals "is_number" = some (some (.ref f0)))
    (l0 : K.lookup f0 = some ⟨oc0, od0, .func (PySem.W.fnOf "is_number" "is_number" (defArgs sIsNum) (defBody sIsNum) (defScope sIsNum) .none kV0 dc0 pm0 an0 (.ref cP) ct0), sl0⟩)
    (c0 : PySem.W.codeIn K (.ref cP) "is_number" = true)
    (k0 : PySem.W.keepIn K (.ref f0) = true)
    (a1 : PySem.W.nsIn K mainGlobals "number_of" = some (some (.ref f1)))
    (l1 : K.lookup f1 = some ⟨oc1, od1, .func (PySem.W.fnOf "number_of" "number_of" (defArgs sNumberOf) (defBody sNumberOf) (defScope sNumberOf) .none kV1 dc1 pm1 an1 cd1 ct1), sl1⟩)
    (c1 : PySem.W.codeIn K cd1 "number_of" = true)
    (k1 : PySem.W.keepIn K (.ref f1) = true)
    (a2 : PySem.W.nsIn K mainGlobals "power_of_ten" = some (some (.ref f2)))
    (l2 : K.lookup f2 = some ⟨oc2, od2, .func (PySem.W.fnOf "power_of_ten" "power_of_ten" (defArgs sPowerOfTen) (defBody sPowerOfTen) (defScope sPowerOfTen) .none kV2 dc2 pm2 an2 cd2 ct2), sl2⟩)
    (c2 : PySem.W.codeIn K cd2 "power_of_ten" = true)
    (k2 : PySem.W.keepIn K (.ref f2) = true)
    (a3 : PySem.W.nsIn K mainGlobals "number_text" = some (some (.ref f3)))
    (l3 : K.lookup f3 = some ⟨oc3, od3, .func (PySem.W.fnOf "number_text" "number_text" (defArgs sNumberText) (defBody sNumberText) (defScope sNumberText) .none kV3 dc3 pm3 an3 cd3 ct3), sl3⟩)
    (c3 : PySem.W.codeIn K cd3 "number_text" = true)
    (k3 : PySem.W.keepIn K (.ref f3) = true)
    (a4 : PySem.W.nsIn K mainGlobals "whole_lines" = some (some (.ref f4)))
    (l4 : K.lookup f4 = some ⟨oc4, od4, .func (PySem.W.fnOf "whole_lines" "whole_lines" (defArgs sWhole) (defBody sWhole) (defScope sWhole) .none kV4 dc4 pm4 an4 cd4 ct4), sl4⟩)
    (c4 : PySem.W.codeIn K cd4 "whole_lines" = true)
    (k4 : PySem.W.keepIn K (.ref f4) = true)
    (a5 : PySem.W.nsIn K mainGlobals "text_of" = some (some (.ref f5)))
    (l5 : K.lookup f5 = some ⟨oc5, od5, .func (PySem.W.fnOf "text_of" "text_of" (defArgs sTextOf) (defBody sTextOf) (defScope sTextOf) .none kV5 dc5 pm5 an5 cd5 ct5), sl5⟩)
    (c5 : PySem.W.codeIn K cd5 "text_of" = true)
    (k5 : PySem.W.keepIn K (.ref f5) = true)
    (a6 : PySem.W.nsIn K mainGlobals "print_clauses" = some (some (.ref f6)))
    (l6 : K.lookup f6 = some ⟨oc6, od6, .func (PySem.W.fnOf "print_clauses" "print_clauses" (defArgs sPrintClauses) (defBody sPrintClauses) (defScope sPrintClauses) .none kV6 dc6 pm6 an6 cd6 ct6), sl6⟩)
    (c6 : PySem.W.codeIn K cd6 "print_clauses" = true)
    (k6 : PySem.W.keepIn K (.ref f6) = true)
    (a7 : PySem.W.nsIn K mainGlobals "print_proof" = some (some (.ref f7)))
    (l7 : K.lookup f7 = some ⟨oc7, od7, .func (PySem.W.fnOf "print_proof" "print_proof" (defArgs sPrintProof) (defBody sPrintProof) (defScope sPrintProof) .none kV7 dc7 pm7 an7 cd7 ct7), sl7⟩)
    (c7 : PySem.W.codeIn K cd7 "print_proof" = true)
    (k7 : PySem.W.keepIn K (.ref f7) = true)
    (a8 : PySem.W.nsIn K mainGlobals "read_clauses" = some (some (.ref f8)))
    (l8 : K.lookup f8 = some ⟨oc8, od8, .func (PySem.W.fnOf "read_clauses" "read_clauses" (defArgs sReadClauses) (defBody sReadClauses) (defScope sReadClauses) .none kV8 dc8 pm8 an8 cd8 ct8), sl8⟩)
    (c8 : PySem.W.codeIn K cd8 "read_clauses" = true)
    (k8 : PySem.W.keepIn K (.ref f8) = true)
    (a9 : PySem.W.nsIn K mainGlobals "read_proof" = some (some (.ref f9)))
    (l9 : K.lookup f9 = some ⟨oc9, od9, .func (PySem.W.fnOf "read_proof" "read_proof" (defArgs sReadProof) (defBody sReadProof) (defScope sReadProof) .none kV9 dc9 pm9 an9 cd9 ct9), sl9⟩)
    (c9 : PySem.W.codeIn K cd9 "read_proof" = true)
    (k9 : PySem.W.keepIn K (.ref f9) = true)
    (a10 : PySem.W.nsIn K mainGlobals "head_numbers" = some (some (.ref f10)))
    (l10 : K.lookup f10 = some ⟨oc10, od10, .func (PySem.W.fnOf "head_numbers" "head_numbers" (defArgs sHeadNumbers) (defBody sHeadNumbers) (defScope sHeadNumbers) .none kV10 dc10 pm10 an10 cd10 ct10), sl10⟩)
    (c10 : PySem.W.codeIn K cd10 "head_numbers" = true)
    (k10 : PySem.W.keepIn K (.ref f10) = true)
    (a11 : PySem.W.nsIn K mainGlobals "clause_line" = some (some (.ref f11)))
    (l11 : K.lookup f11 = some ⟨oc11, od11, .func (PySem.W.fnOf "clause_line" "clause_line" (defArgs sClauseLine) (defBody sClauseLine) (defScope sClauseLine) .none kV11 dc11 pm11 an11 cd11 ct11), sl11⟩)
    (c11 : PySem.W.codeIn K cd11 "clause_line" = true)
    (k11 : PySem.W.keepIn K (.ref f11) = true)
    (a12 : PySem.W.nsIn K mainGlobals "literal_text" = some (some (.ref f12)))
    (l12 : K.lookup f12 = some ⟨oc12, od12, .func (PySem.W.fnOf "literal_text" "literal_text" (defArgs sLiteralText) (defBody sLiteralText) (defScope sLiteralText) .none kV12 dc12 pm12 an12 cd12 ct12), sl12⟩)
    (c12 : PySem.W.codeIn K cd12 "literal_text" = true)
    (k12 : PySem.W.keepIn K (.ref f12) = true)
    (a13 : PySem.W.nsIn K mainGlobals "clause_of" = some (some (.ref f13)))
    (l13 : K.lookup f13 = some ⟨oc13, od13, .func (PySem.W.fnOf "clause_of" "clause_of" (defArgs sClauseOf) (defBody sClauseOf) (defScope sClauseOf) .none kV13 dc13 pm13 an13 cd13 ct13), sl13⟩)
    (c13 : PySem.W.codeIn K cd13 "clause_of" = true)
    (k13 : PySem.W.keepIn K (.ref f13) = true)
    (a14 : PySem.W.nsIn K mainGlobals "is_literal" = some (some (.ref f14)))
    (l14 : K.lookup f14 = some ⟨oc14, od14, .func (PySem.W.fnOf "is_literal" "is_literal" (defArgs sIsLiteral) (defBody sIsLiteral) (defScope sIsLiteral) .none kV14 dc14 pm14 an14 cd14 ct14), sl14⟩)
    (c14 : PySem.W.codeIn K cd14 "is_literal" = true)
    (k14 : PySem.W.keepIn K (.ref f14) = true)
    (a15 : PySem.W.nsIn K mainGlobals "literal_of" = some (some (.ref f15)))
    (l15 : K.lookup f15 = some ⟨oc15, od15, .func (PySem.W.fnOf "literal_of" "literal_of" (defArgs sLiteralOf) (defBody sLiteralOf) (defScope sLiteralOf) .none kV15 dc15 pm15 an15 cd15 ct15), sl15⟩)
    (c15 : PySem.W.codeIn K cd15 "literal_of" = true)
    (k15 : PySem.W.keepIn K (.ref f15) = true)
    (a16 : PySem.W.nsIn K mainGlobals "_law_draws" = some (some (.ref f16)))
    (l16 : K.lookup f16 = some ⟨oc16, od16, .func (PySem.W.fnOf "_law_draws" "_law_draws" (defArgs sDraws) (defBody sDraws) (defScope sDraws) .none kV16 dc16 pm16 an16 cd16 ct16), sl16⟩)
    (c16 : PySem.W.codeIn K cd16 "_law_draws" = true)
    (k16 : PySem.W.keepIn K (.ref f16) = true)
    (a17 : PySem.W.nsIn K mainGlobals "_law_next" = some (some (.ref f17)))
    (l17 : K.lookup f17 = some ⟨oc17, od17, .func (PySem.W.fnOf "_law_next" "_law_next" (defArgs sNext) (defBody sNext) (defScope sNext) .none kV17 dc17 pm17 an17 cd17 ct17), sl17⟩)
    (c17 : PySem.W.codeIn K cd17 "_law_next" = true)
    (k17 : PySem.W.keepIn K (.ref f17) = true)
    (a18 : PySem.W.nsIn K mainGlobals "_law_pick" = some (some (.ref f18)))
    (l18 : K.lookup f18 = some ⟨oc18, od18, .func (PySem.W.fnOf "_law_pick" "_law_pick" (defArgs sLawPick) (defBody sLawPick) (defScope sLawPick) .none kV18 dc18 pm18 an18 cd18 ct18), sl18⟩)
    (c18 : PySem.W.codeIn K cd18 "_law_pick" = true)
    (k18 : PySem.W.keepIn K (.ref f18) = true)
    (a19 : PySem.W.nsIn K mainGlobals "_law_clauses" = some (some (.ref f19)))
    (l19 : K.lookup f19 = some ⟨oc19, od19, .func (PySem.W.fnOf "_law_clauses" "_law_clauses" (defArgs sLawClauses) (defBody sLawClauses) (defScope sLawClauses) .none kV19 dc19 pm19 an19 cd19 ct19), sl19⟩)
    (c19 : PySem.W.codeIn K cd19 "_law_clauses" = true)
    (k19 : PySem.W.keepIn K (.ref f19) = true)
    (a20 : PySem.W.nsIn K mainGlobals "_law_line" = some (some (.ref f20)))
    (l20 : K.lookup f20 = some ⟨oc20, od20, .func (PySem.W.fnOf "_law_line" "_law_line" (defArgs sLawLine) (defBody sLawLine) (defScope sLawLine) .none kV20 dc20 pm20 an20 cd20 ct20), sl20⟩)
    (c20 : PySem.W.codeIn K cd20 "_law_line" = true)
    (k20 : PySem.W.keepIn K (.ref f20) = true)
    (a21 : PySem.W.nsIn K mainGlobals "_law_lines" = some (some (.ref f21)))
    (l21 : K.lookup f21 = some ⟨oc21, od21, .func (PySem.W.fnOf "_law_lines" "_law_lines" (defArgs sLawLines) (defBody sLawLines) (defScope sLawLines) .none kV21 dc21 pm21 an21 cd21 ct21), sl21⟩)
    (c21 : PySem.W.codeIn K cd21 "_law_lines" = true)
    (k21 : PySem.W.keepIn K (.ref f21) = true)
    (a22 : PySem.W.nsIn K mainGlobals "_law_number" = some (some (.ref f22)))
    (l22 : K.lookup f22 = some ⟨oc22, od22, .func (PySem.W.fnOf "_law_number" "_law_number" (defArgs sLawNumber) (defBody sLawNumber) (defScope sLawNumber) .none kV22 dc22 pm22 an22 cd22 ct22), sl22⟩)
    (c22 : PySem.W.codeIn K cd22 "_law_number" = true)
    (k22 : PySem.W.keepIn K (.ref f22) = true)
    (a23 : PySem.W.nsIn K mainGlobals "_law_clause" = some (some (.ref f23)))
    (l23 : K.lookup f23 = some ⟨oc23, od23, .func (PySem.W.fnOf "_law_clause" "_law_clause" (defArgs sLawClause) (defBody sLawClause) (defScope sLawClause) .none kV23 dc23 pm23 an23 cd23 ct23), sl23⟩)
    (c23 : PySem.W.codeIn K cd23 "_law_clause" = true)
    (k23 : PySem.W.keepIn K (.ref f23) = true)
    (a24 : PySem.W.nsIn K mainGlobals "_law_proof_due" = some (some (.ref f24)))
    (l24 : K.lookup f24 = some ⟨oc24, od24, .func (PySem.W.fnOf "_law_proof_due" "_law_proof_due" (defArgs sLawProofDue) (defBody sLawProofDue) (defScope sLawProofDue) .none kV24 dc24 pm24 an24 cd24 ct24), sl24⟩)
    (c24 : PySem.W.codeIn K cd24 "_law_proof_due" = true)
    (k24 : PySem.W.keepIn K (.ref f24) = true)
    (a25 : PySem.W.nsIn K mainGlobals "_law_clauses_due" = some (some (.ref f25)))
    (l25 : K.lookup f25 = some ⟨oc25, od25, .func (PySem.W.fnOf "_law_clauses_due" "_law_clauses_due" (defArgs sLawClausesDue) (defBody sLawClausesDue) (defScope sLawClausesDue) .none kV25 dc25 pm25 an25 cd25 ct25), sl25⟩)
    (c25 : PySem.W.codeIn K cd25 "_law_clauses_due" = true)
    (k25 : PySem.W.keepIn K (.ref f25) = true)
    (a26 : PySem.W.nsIn K mainGlobals "_law_line_turned" = some (some (.ref f26)))
    (l26 : K.lookup f26 = some ⟨oc26, od26, .func (PySem.W.fnOf "_law_line_turned" "_law_line_turned" (defArgs sLawLineTurned) (defBody sLawLineTurned) (defScope sLawLineTurned) .none kV26 dc26 pm26 an26 cd26 ct26), sl26⟩)
    (c26 : PySem.W.codeIn K cd26 "_law_line_turned" = true)
    (k26 : PySem.W.keepIn K (.ref f26) = true)
    (a27 : PySem.W.nsIn K mainGlobals "_law_bent" = some (some (.ref f27)))
    (l27 : K.lookup f27 = some ⟨oc27, od27, .func (PySem.W.fnOf "_law_bent" "_law_bent" (defArgs sLawBent) (defBody sLawBent) (defScope sLawBent) .none kV27 dc27 pm27 an27 cd27 ct27), sl27⟩)
    (c27 : PySem.W.codeIn K cd27 "_law_bent" = true)
    (k27 : PySem.W.keepIn K (.ref f27) = true)
    (a28 : PySem.W.nsIn K mainGlobals "_law_told" = some (some (.ref f28)))
    (l28 : K.lookup f28 = some ⟨oc28, od28, .func (PySem.W.fnOf "_law_told" "_law_told" (defArgs sLawTold) (defBody sLawTold) (defScope sLawTold) .none kV28 dc28 pm28 an28 cd28 ct28), sl28⟩)
    (c28 : PySem.W.codeIn K cd28 "_law_told" = true)
    (k28 : PySem.W.keepIn K (.ref f28) = true)
    (a29 : PySem.W.nsIn K mainGlobals "_law_is_plain" = some (some (.ref f29)))
    (l29 : K.lookup f29 = some ⟨oc29, od29, .func (PySem.W.fnOf "_law_is_plain" "_law_is_plain" (defArgs sLawIsPlain) (defBody sLawIsPlain) (defScope sLawIsPlain) .none kV29 dc29 pm29 an29 cd29 ct29), sl29⟩)
    (c29 : PySem.W.codeIn K cd29 "_law_is_plain" = true)
    (k29 : PySem.W.keepIn K (.ref f29) = true)
    (a30 : PySem.W.nsIn K mainGlobals "law" = some (some (.ref f30)))
    (l30 : K.lookup f30 = some ⟨oc30, od30, .func (PySem.W.fnOf "law" "law" (defArgs sLaw) (defBody sLaw) (defScope sLaw) .none kV30 dc30 pm30 an30 cd30 ct30), sl30⟩)
    (c30 : PySem.W.codeIn K cd30 "law" = true)
    (k30 : PySem.W.keepIn K (.ref f30) = true)
    (lc : K.lookup cP = some ⟨pe, pd, .fields pvs, psl⟩)
    (lp : pvs[11]? = some (.ref Tb))
    (ln : K.lookup Tb = none)
    (gCC : PySem.W.nsIn K mainGlobals "CutError" = some (some (.ref CC)))
    (gCB : PySem.W.nsIn K mainGlobals "BadLine" = some (some (.ref CB)))
    (iCB : PySem.W.findIn K (.ref CB) "__init__" = some (some (.ref fI)))
    (tI : PySem.W.typeIn K (.ref fI) = some (.type "function"))
    (lI : K.lookup fI = some ⟨ocI, odI, .func (PySem.W.fnOf "__init__" "BadLine.__init__" (defArgs sInitB) (defBody sInitB) (defScope sInitB) .none kVI dcI pmI anI cdI ctI), slI⟩)
    (cI : PySem.W.codeIn K cdI "BadLine.__init__" = true)
    (kI : PySem.W.keepIn K (.ref fI) = true)
    (xCB : K.lookup CB = some (excClassObj nmCB qCB CB NCB bsCB [.ref CC, .type "ValueError", .type "Exception", .type "BaseException", .type "object"] true snCB subCB abCB colCB ddCB m0CB m1CB m2CB m3CB m5CB "ValueError.__new__"))
    (saCB : PySem.W.findIn K (.ref CB) "__setattr__" = some (some (.builtin "object.__setattr__")))
    (gaCB : PySem.W.findIn K (.ref CB) "__getattribute__" = some (some (.builtin "BaseException.__getattribute__")))
    (ggCB : PySem.W.findIn K (.ref CB) "__getattr__" = some none)
    (exCB : PySem.W.subIn K (.ref CB) (.type "BaseException") = some true)
    (tyCB : PySem.W.typeIn K (.ref CB) = some (.type "type"))
    (kpCB : PySem.W.keepIn K (.ref CB) = true)
    (hdCB : PySem.W.hasDictIn K CB = true)
    (clCB : PySem.W.findIn K (.ref CB) "__class__" = some (some (.builtin "object.__class__")))
    (moCB : PySem.W.mroIn K CB (.type "object") = some true)
    (nRCB : PySem.W.findIn K (.ref CB) "line" = some none)
    (sg : PySem.W.specialIn K (.builtin "object.__class__") "__get__" = some (some (.builtin "getset_descriptor.__get__")))
    (tk : PySem.W.takesIn K (.builtin "object.__class__") = some true)
    (sp : PySem.W.specialIn K (.ref CC) "__getattribute__" = some (some (.builtin "type.__getattribute__")))
    (rd : PySem.W.readsIn K CC (.type "type") = true)
    (fc : PySem.W.findCls K (.ref CC) (.type "type") "__init__" = some (.val (.builtin "ValueError.__init__")))
    (sCBCB : PySem.W.subIn K (.ref CB) (.ref CB) = some true)
    (qCBCC : PySem.W.subIn K (.ref CB) (.ref CC) = some true)
    (hdCC : PySem.W.hasDictIn K CC = true)
    (tyCC : PySem.W.typeIn K (.ref CC) = some (.type "type"))
    (tDi : PySem.W.nsIn K mainGlobals "DIGITS" = some (some (.str (Str.ofString "0123456789") tkD)))
    (tAo : PySem.W.nsIn K mainGlobals "AT_ONCE" = some (some (.int 1000 tkA)))
    (tEn : PySem.W.nsIn K mainGlobals "END" = some (some (.str (Str.ofString "0") tkE)))
    (tHe : PySem.W.nsIn K mainGlobals "HEAD" = some (some (.str (Str.ofString "p cnf") tkH)))
    (exCC : PySem.W.subIn K (.ref CC) (.type "BaseException") = some true)
    (z_type : PySem.W.nsIn K mainGlobals "type" = some none)
    (z_int : PySem.W.nsIn K mainGlobals "int" = some none)
    (z_tuple : PySem.W.nsIn K mainGlobals "tuple" = some none)
    (z_bool : PySem.W.nsIn K mainGlobals "bool" = some none)
    (z_str : PySem.W.nsIn K mainGlobals "str" = some none)
    (z_len : PySem.W.nsIn K mainGlobals "len" = some none)
    (z_all : PySem.W.nsIn K mainGlobals "all" = some none)
    (z_range : PySem.W.nsIn K mainGlobals "range" = some none)
    (z_abs : PySem.W.nsIn K mainGlobals "abs" = some none)
    (z_isinstance : PySem.W.nsIn K mainGlobals "isinstance" = some none)
    (z_enumerate : PySem.W.nsIn K mainGlobals "enumerate" = some none)
    (z_min : PySem.W.nsIn K mainGlobals "min" = some none)
    (z_list : PySem.W.nsIn K mainGlobals "list" = some none) :
    LamX.LawAtS l w K CX0 7 63 "script" mg fa h := by
  have M := fun {x : Str} {v : Value} (e : PySem.W.nsIn K mainGlobals x = some (some v)) => PySem.W.mg_of X G e
  have Z := fun {x : Str} (e : PySem.W.nsIn K mainGlobals x = some none) => PySem.W.mg_none_of X G e
  have e := hfa.symm.trans (M a30)
  cases e
  have line : ∀ n : Nat, n ≤ 100 → n ≤ sizeLine := fun n h => by
    rw [sizeLine_eq]
    omega
  have F0 := fun_mk (st := sIsNum) l0 c0 k0
  have B0 := F0.binds (ps := ["text"]) fun _ _ _ _ _ _ us hl => match us, hl with | [_], _ => rfl
  have F1 := fun_mk (st := sNumberOf) l1 c1 k1
  have B1 := F1.binds (ps := ["text"]) fun _ _ _ _ _ _ us hl => match us, hl with | [_], _ => rfl
  have F2 := fun_mk (st := sPowerOfTen) l2 c2 k2
  have B2 := F2.binds (ps := ["many"]) fun _ _ _ _ _ _ us hl => match us, hl with | [_], _ => rfl
  have F3 := fun_mk (st := sNumberText) l3 c3 k3
  have B3 := F3.binds (ps := ["worth"]) fun _ _ _ _ _ _ us hl => match us, hl with | [_], _ => rfl
  have F4 := fun_mk (st := sWhole) l4 c4 k4
  have B4 := F4.binds (ps := ["text"]) fun _ _ _ _ _ _ us hl => match us, hl with | [_], _ => rfl
  have F5 := fun_mk (st := sTextOf) l5 c5 k5
  have B5 := F5.binds (ps := ["lines"]) fun _ _ _ _ _ _ us hl => match us, hl with | [_], _ => rfl
  have F6 := fun_mk (st := sPrintClauses) l6 c6 k6
  have B6 := F6.binds (ps := ["many", "clauses"]) fun _ _ _ _ _ _ us hl => match us, hl with | [_, _], _ => rfl
  have F7 := fun_mk (st := sPrintProof) l7 c7 k7
  have B7 := F7.binds (ps := ["proof"]) fun _ _ _ _ _ _ us hl => match us, hl with | [_], _ => rfl
  have F8 := fun_mk (st := sReadClauses) l8 c8 k8
  have B8 := F8.binds (ps := ["text"]) fun _ _ _ _ _ _ us hl => match us, hl with | [_], _ => rfl
  have F9 := fun_mk (st := sReadProof) l9 c9 k9
  have B9 := F9.binds (ps := ["text"]) fun _ _ _ _ _ _ us hl => match us, hl with | [_], _ => rfl
  have F10 := fun_mk (st := sHeadNumbers) l10 c10 k10
  have B10 := F10.binds (ps := ["line"]) fun _ _ _ _ _ _ us hl => match us, hl with | [_], _ => rfl
  have F11 := fun_mk (st := sClauseLine) l11 c11 k11
  have B11 := F11.binds (ps := ["clause"]) fun _ _ _ _ _ _ us hl => match us, hl with | [_], _ => rfl
  have F12 := fun_mk (st := sLiteralText) l12 c12 k12
  have B12 := F12.binds (ps := ["literal"]) fun _ _ _ _ _ _ us hl => match us, hl with | [_], _ => rfl
  have F13 := fun_mk (st := sClauseOf) l13 c13 k13
  have B13 := F13.binds (ps := ["line"]) fun _ _ _ _ _ _ us hl => match us, hl with | [_], _ => rfl
  have F14 := fun_mk (st := sIsLiteral) l14 c14 k14
  have B14 := F14.binds (ps := ["text"]) fun _ _ _ _ _ _ us hl => match us, hl with | [_], _ => rfl
  have F15 := fun_mk (st := sLiteralOf) l15 c15 k15
  have B15 := F15.binds (ps := ["text"]) fun _ _ _ _ _ _ us hl => match us, hl with | [_], _ => rfl
  have F16 := fun_mk (st := sDraws) l16 c16 k16
  have B16 := F16.binds (ps := ["script", "many"]) fun _ _ _ _ _ _ us hl => match us, hl with | [_, _], _ => rfl
  have F17 := fun_mk (st := sNext) l17 c17 k17
  have B17 := F17.binds (ps := ["w", "many"]) fun _ _ _ _ _ _ us hl => match us, hl with | [_, _], _ => rfl
  have F18 := fun_mk (st := sLawPick) l18 c18 k18
  have B18 := F18.binds (ps := ["w", "rows"]) fun _ _ _ _ _ _ us hl => match us, hl with | [_, _], _ => rfl
  have F19 := fun_mk (st := sLawClauses) l19 c19 k19
  have B19 := F19.binds (ps := ["w", "many"]) fun _ _ _ _ _ _ us hl => match us, hl with | [_, _], _ => rfl
  have F20 := fun_mk (st := sLawLine) l20 c20 k20
  have B20 := F20.binds (ps := ["clause"]) fun _ _ _ _ _ _ us hl => match us, hl with | [_], _ => rfl
  have F21 := fun_mk (st := sLawLines) l21 c21 k21
  have B21 := F21.binds (ps := ["clauses"]) fun _ _ _ _ _ _ us hl => match us, hl with | [_], _ => rfl
  have F22 := fun_mk (st := sLawNumber) l22 c22 k22
  have B22 := F22.binds (ps := ["part"]) fun _ _ _ _ _ _ us hl => match us, hl with | [_], _ => rfl
  have F23 := fun_mk (st := sLawClause) l23 c23 k23
  have B23 := F23.binds (ps := ["line"]) fun _ _ _ _ _ _ us hl => match us, hl with | [_], _ => rfl
  have F24 := fun_mk (st := sLawProofDue) l24 c24 k24
  have B24 := F24.binds (ps := ["text"]) fun _ _ _ _ _ _ us hl => match us, hl with | [_], _ => rfl
  have F25 := fun_mk (st := sLawClausesDue) l25 c25 k25
  have B25 := F25.binds (ps := ["text"]) fun _ _ _ _ _ _ us hl => match us, hl with | [_], _ => rfl
  have F26 := fun_mk (st := sLawLineTurned) l26 c26 k26
  have B26 := F26.binds (ps := ["w", "lines"]) fun _ _ _ _ _ _ us hl => match us, hl with | [_, _], _ => rfl
  have F27 := fun_mk (st := sLawBent) l27 c27 k27
  have B27 := F27.binds (ps := ["w", "text"]) fun _ _ _ _ _ _ us hl => match us, hl with | [_, _], _ => rfl
  have F28 := fun_mk (st := sLawTold) l28 c28 k28
  have B28 := F28.binds (ps := ["read", "text"]) fun _ _ _ _ _ _ us hl => match us, hl with | [_, _], _ => rfl
  have F29 := fun_mk (st := sLawIsPlain) l29 c29 k29
  have B29 := F29.binds (ps := ["thing"]) fun _ _ _ _ _ _ us hl => match us, hl with | [_], _ => rfl
  have F30 := fun_mk (st := sLaw) l30 c30 k30
  have B30 := F30.binds (ps := ["script"]) fun _ _ _ _ _ _ us hl => match us, hl with | [_], _ => rfl
  have FI := fun_mk (st := sInitB) lI cI kI
  have BI := FI.binds (ps := ["self", "line"]) fun _ _ _ _ _ _ us hl => match us, hl with | [_, _], _ => rfl
  have OB : OexC K CB := ⟨⟨_, _, _, _, _, _, _, _, _, _, _, _, _, _, _, xCB, by show PySem.HandSPX.refsVE [.type "ValueError", .type "Exception", .type "BaseException", .type "object"] = true; decide +kernel⟩, saCB, exCB, tyCB, kpCB⟩
  have RB : ErrB K mg CB fI := ⟨OB, iCB, nRCB, M gCB⟩
  have XB : ErrT K mg CB := ⟨M gCB, ⟨gaCB, ggCB, exCB, hdCB⟩, ⟨gaCB, ggCB, exCB, hdCB, clCB, sg, tk, moCB⟩, nRCB⟩
  have GP : Gp mg := ⟨Z z_type, Z z_int, Z z_tuple, Z z_bool, Z z_len, Z z_all, Z z_enumerate, Z z_isinstance, Z z_min, Z z_range, Z z_list⟩
  have BL : Bl mg := ⟨Z z_len, Z z_range, Z z_abs, Z z_int, Z z_str⟩
  have BB : BT mg := ⟨Z z_len, Z z_all, Z z_tuple, Z z_int⟩
  have BN1 : BN mg := ⟨Z z_len, Z z_int, Z z_range⟩
  have BD1 : BD mg := ⟨Z z_enumerate⟩
  have BA1 : BA mg := ⟨Z z_abs⟩
  obtain ⟨hP, hC⟩ := own _ _ _ _ _ _ _ _ _ (M a0) l0 rfl rfl lc lp
  refine ⟨PySem.W.fnOf "law" "law" (defArgs sLaw) (defBody sLaw) (defScope sLaw) .none kV30 dc30 pm30 an30 cd30 ct30, [(cP, Tb)], spLaw K Tb, fun p hp => ?_, fun p hp => ?_, fun p hp => ?_, fun s u => .of_eq rfl, fun H a ns hl _ hH hS => ⟨a, ns, rfl, hS, hl, ⟨#[], hH _ (List.mem_singleton.mpr rfl), trivial⟩, fun _ => rfl⟩, fun base _ _ TB => ?_⟩
  · rw [List.mem_singleton.mp hp]
    exact hP
  · rw [List.mem_singleton.mp hp]
    exact ln
  · rw [List.mem_singleton.mp hp]
    exact hC
  · have tb0 := TB _ (List.mem_singleton.mpr rfl)
    have tb : TabB base mg cP Tb := ⟨tb0.code, tb0.bm, tb0.gP⟩
    have G0 := ok_isnum (P := l.prog) (w := w) (fd := PySem.W.fnOf "is_number" "is_number" (defArgs sIsNum) (defBody sIsNum) (defScope sIsNum) .none kV0 dc0 pm0 an0 (.ref cP) ct0) l0 c0 (M tDi) (Z z_all) tb
    have GI : FnOk l.prog w K mg base CX0 1 fI _ ["self", "line"] (spInitB K) := ok_initB FI (M gCC) sp rd fc
    have G2 : FnOk l.prog w K mg base CX0 1 f2 _ ["many"] spTen := ok_ten F2 BN1
    have G1 : FnOk l.prog w K mg base CX0 2 f1 _ ["text"] spNof := ok_nof F1 BN1 (M tAo) G2 k2 B2 (M a2)
    have G3 : FnOk l.prog w K mg base CX0 1 f3 _ ["worth"] spNText := ok_ntext F3 (Z z_str) (M tAo)
    have G4 : FnOk l.prog w K mg base (L2.CX l.prog w) 3 f4 _ ["text"] (spWhole K CB) := ok_whole F4 BB RB tI GI BI
    have G5 : FnOk l.prog w K mg base CX0 1 f5 _ ["lines"] (spTextOf K) := ok_textOf F5
    have G12 : FnOk l.prog w K mg base CX0 2 f12 _ ["literal"] spLitText := ok_littext F12 G3 k3 B3 (M a3)
    have G14 : FnOk l.prog w K mg base CX0 2 f14 _ ["text"] (spIsLit Tb) := ok_isLit F14 (M tEn) G0 k0 B0 (M a0)
    have G15 : FnOk l.prog w K mg base CX0 3 f15 _ ["text"] spLitOf := ok_litOf F15 G1 k1 B1 (M a1)
    have G13 : FnOk l.prog w K mg base CX0 4 f13 _ ["line"] (spClause K Tb) := ok_clause F13 BB (M tEn) G14 k14 B14 (M a14) G15 k15 B15 (M a15)
    have G11 : FnOk l.prog w K mg base CX0 3 f11 _ ["clause"] (spCLine K) := ok_cline F11 (M tEn) G12 k12 B12 (M a12)
    have G10 : FnOk l.prog w K mg base (L2.CX l.prog w) 3 f10 _ ["line"] (spHead K Tb CB) := ok_head F10 BB (M tHe) G0 k0 B0 (M a0) G1 k1 B1 (M a1) RB tI GI BI
    have G9 : FnOk l.prog w K mg base (L2.CX l.prog w) 5 f9 _ ["text"] (spRProof K Tb CB) := ok_rproof F9 BB BD1 G4 k4 B4 (M a4) G13 k13 B13 (M a13) RB tI GI BI
    have G8 : FnOk l.prog w K mg base (L2.CX l.prog w) 5 f8 _ ["text"] (spRClauses K Tb CB) := ok_rclauses F8 BB BD1 BA1 G4 k4 B4 (M a4) G10 k10 B10 (M a10) G13 k13 B13 (M a13) RB tI GI BI
    have G7 : FnOk l.prog w K mg base CX0 4 f7 _ ["proof"] (spPProof K) := ok_pproof F7 G11 k11 B11 (M a11) G5 k5 B5 (M a5)
    have G6 : FnOk l.prog w K mg base CX0 4 f6 _ ["many", "clauses"] (spPClauses K) := ok_pclauses F6 BB (M tHe) G3 k3 B3 (M a3) G11 k11 B11 (M a11) G5 k5 B5 (M a5)
    have G16 : FnOk l.prog w K mg base CX0 1 f16 _ ["script", "many"] (spDraws K) := ok_draws F16 BL
    have G17 : FnOk l.prog w K mg base CX0 1 f17 _ ["w", "many"] spNext := ok_next F17 BL
    have G18 : FnOk l.prog w K mg base CX0 2 f18 _ ["w", "rows"] (spPick K) := ok_pick F18 GP G17 k17 B17 (M a17)
    have G19 : FnOk l.prog w K mg base CX0 2 f19 _ ["w", "many"] (spDrawC K) := ok_drawC F19 BB GP G17 k17 B17 (M a17)
    have G20 : FnOk l.prog w K mg base CX0 1 f20 _ ["clause"] (spLLine K) := ok_lline F20 BL
    have G21 : FnOk l.prog w K mg base CX0 2 f21 _ ["clauses"] (spLLines K) := ok_llines F21 G20 k20 B20 (M a20)
    have G22 : FnOk l.prog w K mg base CX0 1 f22 _ ["part"] spLNum := ok_lnumber F22 BB
    have G23 : FnOk l.prog w K mg base CX0 2 f23 _ ["line"] (spLCl K) := ok_lclause F23 BB G22 k22 B22 (M a22)
    have G24 : FnOk l.prog w K mg base CX0 3 f24 _ ["text"] (spPDue K) := ok_pdue F24 BB BL G23 k23 B23 (M a23)
    have G25 : FnOk l.prog w K mg base CX0 3 f25 _ ["text"] (spCDue K) := ok_cdue F25 BB BL G23 k23 B23 (M a23) G22 k22 B22 (M a22)
    have G26 : FnOk l.prog w K mg base CX0 3 f26 _ ["w", "lines"] (spTurn K) := ok_turn F26 BB G17 k17 B17 (M a17) G18 k18 B18 (M a18)
    have G27 : FnOk l.prog w K mg base CX0 4 f27 _ ["w", "text"] (spBent K) := ok_bent F27 BB G17 k17 B17 (M a17) G18 k18 B18 (M a18) G26 k26 B26 (M a26)
    have G29 : FnOk l.prog w K mg base CX0 1 f29 _ ["thing"] (spPlain K) := ok_plain F29 GP
    have GTC : FnOk l.prog w K mg base CX0 6 f28 _ ["read", "text"] (spToldC K Tb f8) := ok_toldC F28 XB (M gCC) GP G8 k8 B8 (PySem.W.exm_ref exCC hdCC tyCC qCBCC) (kit_ref hdCB tyCB sCBCB)
    have GTP : FnOk l.prog w K mg base CX0 6 f28 _ ["read", "text"] (spToldP K Tb f9) := ok_toldP F28 XB (M gCC) GP G9 k9 B9 (PySem.W.exm_ref exCC hdCC tyCC qCBCC) (kit_ref hdCB tyCB sCBCB)
    exact ok_law F30 BB BL GP G16 k16 B16 (M a16) G17 k17 B17 (M a17) G19 k19 B19 (M a19) G21 k21 B21 (M a21) G6 k6 B6 (M a6) G7 k7 B7 (M a7) G8 k8 B8 (M a8) G9 k9 B9 (M a9) GTC GTP k28 B28 (M a28) G27 k27 B27 (M a27) G25 k25 B25 (M a25) G24 k24 B24 (M a24) G29 k29 B29 (M a29)
end C1

open PySem PySem.W PyProof.Rows
set_option maxRecDepth 100000 in
set_option maxHeartbeats 0 in
theorem PySem.Challenge.cw_stagecut_k44_texts_of_clauses_and_proofs_holds : PySem.Challenge.rw_stagecut_k44_texts_of_clauses_and_proofs.Holds := by
  w_on; o_law; k_head; (case hw => w_witness2)
  k_fill
  refine C1.walk_ofDef (l := PySem.Challenge.rw_stagecut_k44_texts_of_clauses_and_proofs) (n := 63) (k := 7) (x := "script") (nm := "is_number") (CX := fun _ => L2.CX0) rfl (by decide) rfl ⟨rfl, by decide, by decide⟩ (by decide +kernel) (fun w h Y => PySem.W.kIn_of Y) ?F (fun _ _ _ _ _ h => h)
  case F =>
    intro w mg fa h Y KX G hmg own
    refine' C1.all_mk KX G hmg own ?a0 ?l0 ?c0 ?k0 ?a1 ?l1 ?c1 ?k1 ?a2 ?l2 ?c2 ?k2 ?a3 ?l3 ?c3 ?k3 ?a4 ?l4 ?c4 ?k4 ?a5 ?l5 ?c5 ?k5 ?a6 ?l6 ?c6 ?k6 ?a7 ?l7 ?c7 ?k7 ?a8 ?l8 ?c8 ?k8 ?a9 ?l9 ?c9 ?k9 ?a10 ?l10 ?c10 ?k10 ?a11 ?l11 ?c11 ?k11 ?a12 ?l12 ?c12 ?k12 ?a13 ?l13 ?c13 ?k13 ?a14 ?l14 ?c14 ?k14 ?a15 ?l15 ?c15 ?k15 ?a16 ?l16 ?c16 ?k16 ?a17 ?l17 ?c17 ?k17 ?a18 ?l18 ?c18 ?k18 ?a19 ?l19 ?c19 ?k19 ?a20 ?l20 ?c20 ?k20 ?a21 ?l21 ?c21 ?k21 ?a22 ?l22 ?c22 ?k22 ?a23 ?l23 ?c23 ?k23 ?a24 ?l24 ?c24 ?k24 ?a25 ?l25 ?c25 ?k25 ?a26 ?l26 ?c26 ?k26 ?a27 ?l27 ?c27 ?k27 ?a28 ?l28 ?c28 ?k28 ?a29 ?l29 ?c29 ?k29 ?a30 ?l30 ?c30 ?k30 ?lc ?lp ?ln ?gCC ?gCB ?iCB ?tI ?lI ?cI ?kI ?xCB ?saCB ?gaCB ?ggCB ?exCB ?tyCB ?kpCB ?hdCB ?clCB ?moCB ?nRCB ?sg ?tk ?sp ?rd ?fc ?sCBCB ?qCBCC ?hdCC ?tyCC ?tDi ?tAo ?tEn ?tHe ?exCC ?z_type ?z_int ?z_tuple ?z_bool ?z_str ?z_len ?z_all ?z_range ?z_abs ?z_isinstance ?z_enumerate ?z_min ?z_list
    (case a0 => k_is)
    (case l0 => k_is)
    (case c0 => k_is)
    (case k0 => k_is)
    (case a1 => k_is)
    (case l1 => k_is)
    (case c1 => k_is)
    (case k1 => k_is)
    (case a2 => k_is)
    (case l2 => k_is)
    (case c2 => k_is)
    (case k2 => k_is)
    (case a3 => k_is)
    (case l3 => k_is)
    (case c3 => k_is)
    (case k3 => k_is)
    (case a4 => k_is)
    (case l4 => k_is)
    (case c4 => k_is)
    (case k4 => k_is)
    (case a5 => k_is)
    (case l5 => k_is)
    (case c5 => k_is)
    (case k5 => k_is)
    (case a6 => k_is)
    (case l6 => k_is)
    (case c6 => k_is)
    (case k6 => k_is)
    (case a7 => k_is)
    (case l7 => k_is)
    (case c7 => k_is)
    (case k7 => k_is)
    (case a8 => k_is)
    (case l8 => k_is)
    (case c8 => k_is)
    (case k8 => k_is)
    (case a9 => k_is)
    (case l9 => k_is)
    (case c9 => k_is)
    (case k9 => k_is)
    (case a10 => k_is)
    (case l10 => k_is)
    (case c10 => k_is)
    (case k10 => k_is)
    (case a11 => k_is)
    (case l11 => k_is)
    (case c11 => k_is)
    (case k11 => k_is)
    (case a12 => k_is)
    (case l12 => k_is)
    (case c12 => k_is)
    (case k12 => k_is)
    (case a13 => k_is)
    (case l13 => k_is)
    (case c13 => k_is)
    (case k13 => k_is)
    (case a14 => k_is)
    (case l14 => k_is)
    (case c14 => k_is)
    (case k14 => k_is)
    (case a15 => k_is)
    (case l15 => k_is)
    (case c15 => k_is)
    (case k15 => k_is)
    (case a16 => k_is)
    (case l16 => k_is)
    (case c16 => k_is)
    (case k16 => k_is)
    (case a17 => k_is)
    (case l17 => k_is)
    (case c17 => k_is)
    (case k17 => k_is)
    (case a18 => k_is)
    (case l18 => k_is)
    (case c18 => k_is)
    (case k18 => k_is)
    (case a19 => k_is)
    (case l19 => k_is)
    (case c19 => k_is)
    (case k19 => k_is)
    (case a20 => k_is)
    (case l20 => k_is)
    (case c20 => k_is)
    (case k20 => k_is)
    (case a21 => k_is)
    (case l21 => k_is)
    (case c21 => k_is)
    (case k21 => k_is)
    (case a22 => k_is)
    (case l22 => k_is)
    (case c22 => k_is)
    (case k22 => k_is)
    (case a23 => k_is)
    (case l23 => k_is)
    (case c23 => k_is)
    (case k23 => k_is)
    (case a24 => k_is)
    (case l24 => k_is)
    (case c24 => k_is)
    (case k24 => k_is)
    (case a25 => k_is)
    (case l25 => k_is)
    (case c25 => k_is)
    (case k25 => k_is)
    (case a26 => k_is)
    (case l26 => k_is)
    (case c26 => k_is)
    (case k26 => k_is)
    (case a27 => k_is)
    (case l27 => k_is)
    (case c27 => k_is)
    (case k27 => k_is)
    (case a28 => k_is)
    (case l28 => k_is)
    (case c28 => k_is)
    (case k28 => k_is)
    (case a29 => k_is)
    (case l29 => k_is)
    (case c29 => k_is)
    (case k29 => k_is)
    (case a30 => k_is)
    (case l30 => k_is)
    (case c30 => k_is)
    (case k30 => k_is)
    (case lc => k_is)
    (case lp => rfl)
    (case ln => first | kernel_rfl | with_unfolding_all rfl | rfl)
    (case gCC => k_is)
    (case gCB => k_is)
    (case iCB => k_is)
    (case tI => k_is)
    (case lI => k_is)
    (case cI => k_is)
    (case kI => k_is)
    (case xCB => k_is)
    (case saCB => k_is)
    (case gaCB => k_is)
    (case ggCB => k_is)
    (case exCB => k_is)
    (case tyCB => k_is)
    (case kpCB => k_is)
    (case hdCB => k_is)
    (case clCB => k_is)
    (case moCB => k_is)
    (case nRCB => k_is)
    (case sg => k_is)
    (case tk => k_is)
    (case sp => k_is)
    (case rd => k_is)
    (case fc => k_is)
    (case sCBCB => k_is)
    (case qCBCC => k_is)
    (case hdCC => k_is)
    (case tyCC => k_is)
    (case tDi => k_is)
    (case tAo => k_is)
    (case tEn => k_is)
    (case tHe => k_is)
    (case exCC => k_is)
    (case z_type => k_is)
    (case z_int => k_is)
    (case z_tuple => k_is)
    (case z_bool => k_is)
    (case z_str => k_is)
    (case z_len => k_is)
    (case z_all => k_is)
    (case z_range => k_is)
    (case z_abs => k_is)
    (case z_isinstance => k_is)
    (case z_enumerate => k_is)
    (case z_min => k_is)
    (case z_list => k_is)

