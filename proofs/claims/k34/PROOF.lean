import PyProof.Rows.All
import Wide.All
import OpenK.AllK
import Wide.FinOn
import PySem.Challenge.RW_stagecut_k34_texts_of_nets
import HandS.ForMost
import HandS.ForExc
import HandS.Codes
import HandS.StrMore
import HandS.IsInst
import HandS.More
import HandS.Zip
import HandS.WideBits
import HandS.CallLocal
import HandS.DictComp
import HandS.TupLe
import HandS.Conv
import HandS.Zip0
import HandS.TupAny
import HandS.Star
import HandS.AnyAll
import HandS.ExcInit
import HandS.ExcField
import HandS.ExcIs
import KE.KExcIs
import HandS.TryOnly
import KE.KTupSum
import PyProof.StrBlock2
import HandS.NoneIn
import HandS.FStr
import HandS.RaiseMore
import PyProof.SeqIndex
import PyProof.Rows.StrSplitCount
import PyProof.Rows.StrSplitAre
import PyProof.StrLawsTight
import PyProof.StrLawsChain
import HandS.EndTab
set_option Elab.async false
set_option linter.all false
set_option maxRecDepth 100000
set_option maxHeartbeats 8000000
set_option pp.maxSteps 500
/-! enumerate of a tuple. -/
namespace EnT
open PySem PySem.Spec PyProof.Rows L2
open PySem.Sem (wp)
open PySem.AutoSeq1 (wpAny_loadPart')
theorem draws_tup {prog : Program} {w : World} {A : Around} (hh : A.handled = none) (it tp : Addr) (hne : tp ≠ it) (vals : Array Value) :
    Draws prog w A it [it, tp] vals.size (fun i v => vals[i]? = some v) (fun i h => h.IsTupleIter it tp i ∧ h.IsTuple tp vals) where
  live := fun _ _ q => by
    obtain ⟨⟨ob, e, _⟩, _⟩ := q
    exact ⟨ob, e⟩
  frame := fun _ _ _ q k => ⟨q.1.at fun ob e => k it (by simp) ob e, q.2.at fun ob e => k tp (by simp) ob e⟩
  item := fun i s Q E hi q k => by
    refine RZ.nextOf_tuple_item q.1 q.2 (x := vals[i]) (by simp [hi]) fun hp q1 q2 => ?_
    exact k _ hp s.toks (by simp [hi]) ⟨q1, q.2.extBut q2.extBut hne⟩ q2
  done := fun s Q E q k => RZ.nextOf_tuple_end hh q.1 q.2 (by simp) k
abbrev itO (tp : Addr) : Obj := { cls := .type "tuple_iterator", data := .fields #[.ref tp, .int 0 0] }
abbrev enO (it : Addr) : Obj := { cls := .type "enumerate", data := .fields #[.none, .bool false, .ref it, rawInt 0, .none, .none] }
theorem new_enumT (tp : Addr) (vals : Array Value) (n : Nat) (dct : Option Addr) (sl : Array (Option Value)) :
    Meets (Builtin.«enumerate.__new__» ⟨[.type "enumerate", .ref tp], []⟩) (fun _ R s => s.heap.get? tp = some { cls := .type "tuple", dict := dct, data := .seq vals n, slots := sl } ∧
      R (.ok (.ret (.ref (s.heap.push (itO tp)).objs.size))) { s with heap := (s.heap.push (itO tp)).push (enO s.heap.objs.size) }) := by
  refine .of_wp fun prog w A R s hq => ?_
  obtain ⟨hp, gs, dd, tk, rest⟩ := s
  obtain ⟨ht, q⟩ := hq
  have sub := sub_enumerate
  have isT : Heap.IsTuple (Shared.heap ⟨hp, gs, dd, tk, rest⟩) tp vals := ⟨_, ht, rfl, n, rfl⟩
  wp_walk using wpAny_loadPart' ht
  refine wpAny_stack_any fun _ => wpAny_pure ?_
  split
  · rename_i c _ _ _ _ _
    cases (c == Value.type "enumerate")
    · wp_walk using wpAny_loadPart' ht, wpAny_pyIter_tuple isT
      exact ⟨_, rfl, q⟩
    · wp_walk using wpAny_loadPart' ht, wpAny_pyIter_tuple isT
      exact ⟨_, rfl, q⟩
  · wp_walk using wpAny_loadPart' ht, wpAny_pyIter_tuple isT
    exact ⟨_, rfl, q⟩
section
variable {prog : Program} {w : World} {A : Around} {E : Value → Shared → Prop} {s : Shared}
theorem call_enumT {tp : Addr} {vals : Array Value} {Q : Value → Shared → Prop} (hT : s.heap.IsTuple tp vals)
    (k : ∀ hp, IsEnum hp (s.heap.objs.size + 1) s.heap.objs.size 0 .none → hp.IsTupleIter s.heap.objs.size tp 0 → (∀ b o, s.heap.get? b = some o → hp.get? b = some o) → Q (.ref (s.heap.objs.size + 1)) { s with heap := hp }) :
    wpAny (model prog w) A (call (.type "enumerate") [.ref tp]) Q E s := by
  obtain ⟨⟨cl, dct, dt, sl⟩, ht, e1, n, e2⟩ := hT
  obtain rfl : cl = .type "tuple" := e1
  obtain rfl : dt = .seq vals n := e2
  refine callType_new F.called_enumerate (by decide) (F.typeCall_enumerate_1 _) (F.newCall_enumerate_1 _) (fun ob => F.args_object_init_2 ob _) F.entry_enumerate_new (new_enumT tp vals n dct sl) ⟨ht, ?_⟩
  have sz : (s.heap.push (itO tp)).objs.size = s.heap.objs.size + 1 := Heap.size_push ..
  show _ ∧ _
  rw [sz]
  have en : IsEnum ((s.heap.push (itO tp)).push (enO s.heap.objs.size)) (s.heap.objs.size + 1) s.heap.objs.size 0 .none := by
    have g := Heap.get?_push_size (s.heap.push (itO tp)) (o := enO s.heap.objs.size) rfl
    rw [sz] at g
    exact g
  exact ⟨⟨_, en, rfl⟩, k _ en ⟨_, Heap.get?_push_of_some _ (Heap.get?_push_size _ rfl), rfl, rfl⟩ fun b o y => Heap.get?_push_of_some _ (Heap.get?_push_of_some _ y)⟩
end
/-- the tuple at a at each turn, its items in new pairs -/
def ItT (K : PySem.W.Frag) (a : Addr) : It :=
  ⟨fun i H => ∃ (xs : List V) (x : V), SqT K H a xs ∧ xs[i]? = some x, fun i H v H' => ∃ T x, v = .ref T ∧ H T = none ∧ H' = upd H T (.tup [.int (i : Nat), x]) ∧ ∀ xs, SqT K H a xs → xs[i]? = some x, fun i H => ∃ xs : List V, SqT K H a xs ∧ xs.length ≤ i⟩
theorem turn {P : Program} {w : World} {K : PySem.W.Frag} {elts : List Expr} {kk : Nat} {tpos : Pos} (a e it : Addr) :
    Turn P w K (.Tuple elts kk tpos) (ItT K a) [e, it] e (fun i h => (∃ old, IsEnum h e it ((i : Nat) : Int) old) ∧ h.IsTupleIter it a i ∧ e ≠ it) where
  mem := by simp
  obj := fun i h q b hb => by
    obtain ⟨⟨old, en⟩, ⟨o, ho, hc, hd⟩, _⟩ := q
    rcases (show b = e ∨ b = it by simpa using hb) with rfl | rfl
    · exact ⟨_, en, fun v z => nomatch z⟩
    · exact ⟨o, ho, fun v z => by rw [hd] at z; cases z⟩
  keep := fun i h h' q k => by
    obtain ⟨⟨old, en⟩, ti, ne⟩ := q
    exact ⟨⟨old, k e (by simp) _ en⟩, ti.at fun o z => k it (by simp) o z, ne⟩
  item := by
    intro X hP hw hK hc i pins s σ H E I hf q hg
    subst hP hw hK
    obtain ⟨⟨old, en⟩, ti, ne⟩ := q
    obtain ⟨xs, x, hq, hx⟩ := hg
    obtain ⟨its, rv, p, hz⟩ := I.tuple hq
    have p : s.heap.IsTuple a its.toArray := p
    obtain ⟨u, hu, ru⟩ := rv.get hx
    have an : a ≠ it := fun z => by
      obtain ⟨o1, g1, c1, _⟩ := p
      obtain ⟨o2, g2, c2, _⟩ := ti
      rw [z, g2] at g1
      cases g1
      rw [c2] at c1
      exact absurd c1 (by decide)
    have ea : e ≠ a := fun z => by
      obtain ⟨o1, g1, c1, _⟩ := p
      have en2 : s.heap.get? e = some _ := en
      rw [z, g1] at en2
      cases en2
      exact absurd (show Value.type "enumerate" = Value.type "tuple" from c1) (by decide)
    have el : e < s.heap.objs.size := Heap.lt_size en
    have il : it < s.heap.objs.size := by
      obtain ⟨_, z, _⟩ := ti
      exact Heap.lt_size z
    have hl := (List.getElem?_eq_some_iff.mp hu).1
    refine wpAny_pyNext_enum_itemD (draws_tup (show X.A.in1.handled = none from I.ok.hd hc) it a an its.toArray) en ⟨ti, p⟩ (by simpa using hl) ne (by simp [ne, ea]) fun y h' tk hy ho hs hT hsz hk => ?_
    obtain rfl : u = y := by
      have z : its.toArray[i]? = some y := hy
      have z2 : its.toArray[i]? = some u := by simpa using hu
      rw [z] at z2
      exact (Option.some.inj z2).symm
    refine ⟨_, rfl, wpAny_letOwnedTupleGo_enum (s := { s with heap := h', toks := tk + 1 }) ho fun h2 en2 sb => ?_⟩
    have hT2 : h2.get? s.heap.objs.size = some { cls := .type "tuple", data := .seq #[.int i tk, u] } := (sb.2 _ (Nat.ne_of_gt el)).trans hT
    have old2 : ∀ b o, b ≠ e → b ≠ it → s.heap.get? b = some o → h2.get? b = some o := fun b o n1 n2 z => (sb.2 b n1).trans (hk b o n1 n2 z)
    have fresh : ObjOk X.prog X.w (upd H s.heap.objs.size (.tup [.int (i : Nat), x])) h2 s.heap.objs.size (.tup [.int (i : Nat), x]) := ⟨by show 2 ≤ sizeLine; decide, [.int i tk, u], .cons ⟨_, rfl⟩ (.cons ru .nil), ⟨_, hT2, rfl, _, rfl⟩⟩
    have I1 : Inv X pins σ (upd H s.heap.objs.size (.tup [.int (i : Nat), x])) { s with heap := h2, toks := tk + 1 } :=
      I.turnedNew (ch := [e, it]) (fun b ob hb z => old2 b ob (fun y => hb (by simp [y])) (fun y => hb (by simp [y])) z) hf (Nat.le_refl _) fresh
    refine ⟨.ref s.heap.objs.size, _, I1, rfl, ⟨_, x, rfl, I.hok.fresh (Nat.le_refl _), rfl, fun ys hy => by rw [I.tuple_inj hy hq]; exact hx⟩, ⟨⟨u, ?_⟩, hs.1.at fun o z => (sb.2 it ne.symm).trans z, ne⟩, fun b hb => ?_⟩
    · rw [show ((i + 1 : Nat) : Int) = (i : Int) + 1 by omega]
      exact en2
    · have lt : b < s.heap.objs.size := by
        rcases (show b = e ∨ b = it by simpa using hb) with rfl | rfl
        · exact el
        · exact il
      rw [upd_ne (Nat.ne_of_lt lt)]
      exact (hf b hb).1
  done := by
    intro X hP hw hK hc i pins s σ H E I hf q hg
    subst hP hw hK
    obtain ⟨⟨old, en⟩, ti, ne⟩ := q
    obtain ⟨xs, hq, hx⟩ := hg
    obtain ⟨its, rv, p, hz⟩ := I.tuple hq
    have p : s.heap.IsTuple a its.toArray := p
    obtain ⟨f0, f1, f2, f3, f4, f5⟩ := hf it (by simp)
    have hl := rv.length
    have hend : its.toArray[i]? = none := by simp; omega
    have hT : s.TypeIs (.ref e) "enumerate" := ⟨_, en, rfl⟩
    unfold pyNext
    refine wpAny_bind (wpAny_attempt (wpAny_callSpecial?_slot (name := Str.ofString "__next__") hT F.slot_enumerate_next (wpAny_call_entry F.slot_enumerate_next hT F.entry_enumerate_next ?_ (F.args_enumerate_next_1 _))))
    show wpAny _ _ (field (.ref e) 2 >>= _) _ _ _
    refine wpAny_bind (wpAny_field en rfl (x := .ref it) rfl ?_)
    refine wpAny_bind (RZ.nextOf_tuple_end (show X.A.in1.handled = none from I.ok.hd hc) ti p hend fun h' x eb hx' => ?_)
    obtain ⟨o, ho, hcl⟩ := hx'
    refine wpAny_bind (wpAny_isInstance (T := "StopIteration") (b := true) ⟨o, ho, hcl⟩ isSubtype_stop ?_)
    exact wpAny_pure ⟨rfl, I.turned (t' := s.toks) (fun b o hb z => eb b o hb z) f0 f1 f3 f4 f5⟩
  self := fun A i s Q E q h => by
    obtain ⟨⟨_, en⟩, _⟩ := q
    exact wpAny_pyIter_enum en h
def iEnT (K : PySem.W.Frag) (ta : TA) : TI := fun σ H R => ta σ H fun vs H1 => ∃ a xs, vs = [.ref a] ∧ SqT K H1 a xs ∧ R (ItT K a) H1
theorem pi_enT {X : Cx} {e : Expr} {ta : TA} {p pos tpos : Pos} {elts : List Expr} {kk : Nat} (hg : Gl X "enumerate") (hm : X.mg "enumerate" = none) (ha : PA X [e] ta) (hs : starEach [e] X.env = [(false, eval e X.env)] := by rfl) :
    PI X (.Tuple elts kk tpos) (.Call (.Name "enumerate" p) [e] [] pos) (iEnT X.K ta) := by
  refine ⟨fun pins s σ H R I h => ?_⟩
  refine Call_ (ld_blt I hg hm boot_enumerate (PyProof.Rows.callWith_type1 (thn (ha.run pos pins s σ H _ I h) fun us s1 ⟨vs, H1, I1, r1, q1⟩ => ?_) hs rfl))
  obtain ⟨a, xs, rfl, hq, q⟩ := q1
  cases r1 with
  | cons r rr =>
    cases rr
    cases r
    obtain ⟨its, rv, pt, hz⟩ := I1.tuple hq
    refine call_enumT (show s1.heap.IsTuple a its.toArray from pt) fun hp en ti hk => wpAny_pyIter_enum en ?_
    have I2 : Inv X pins σ H1 { s1 with heap := hp } := I1.kept (t' := s1.toks) hk
    refine ⟨s1.heap.objs.size + 1, [s1.heap.objs.size + 1, s1.heap.objs.size], _, _, H1, rfl, I2, turn a (s1.heap.objs.size + 1) s1.heap.objs.size, ⟨⟨.none, en⟩, ti, Nat.succ_ne_self _⟩, fun b hb => ?_, q⟩
    have le : s1.heap.objs.size ≤ b := by
      rcases (show b = s1.heap.objs.size + 1 ∨ b = s1.heap.objs.size by simpa using hb) with z | z <;> rw [z]
      · exact Nat.le_add_right _ _
      · exact Nat.le_refl _
    exact I1.fpOk le (I1.hok.fresh le)
/-- the loop over it -/
theorem for_enT {K : PySem.W.Frag} {a : Addr} {xs : List V} {g : TG} {tb : TS} {D : Ends} {σ : L2.St} {H : Hp} (Pv : Nat → L2.St → Hp → Prop) (h0 : Pv 0 σ H) (hl : ∀ i σ H, i ≤ xs.length → Pv i σ H → SqT K H a xs)
    (hs : ∀ i x T σ H, xs[i]? = some x → Pv i σ H → H T = none → g (.ref T) σ (upd H T (.tup [.int (i : Nat), x])) fun σ2 H2 => tb { D with nx := Pv (i + 1), ct := Pv (i + 1), bk := D.nx } σ2 H2) (hd : ∀ σ H, Pv xs.length σ H → D.nx σ H) :
    ∃ W : Nat → Nat → L2.St → Hp → Prop, (∃ m, W 0 m σ H) ∧ ∀ i m σ H, W i m σ H →
      ((ItT K a).stop i H ∧ D.nx σ H) ∨ ((ItT K a).go i H ∧ ∃ N : L2.St → Hp → Prop, (∀ σ' H', N σ' H' → ∃ m', m' < m ∧ W (i + 1) m' σ' H') ∧ ∀ x H', (ItT K a).yld i H x H' → g x σ H' fun σ2 H2 => tb { D with nx := N, ct := N, bk := D.nx } σ2 H2) := by
  refine ⟨fun i m σ H => m = xs.length - i ∧ i ≤ xs.length ∧ Pv i σ H, ⟨xs.length, by simp, Nat.zero_le _, h0⟩, ?_⟩
  rintro i m σ H ⟨rfl, hi, q⟩
  have sq := hl i σ H hi q
  by_cases lt : i < xs.length
  · refine .inr ⟨⟨xs, xs[i], sq, by simp [lt]⟩, Pv (i + 1), fun σ' H' q' => ⟨xs.length - (i + 1), by omega, rfl, lt, q'⟩, fun v H' y => ?_⟩
    obtain ⟨T, x, rfl, nT, rfl, hx⟩ := y
    exact hs i x T σ H (hx xs sq) q nT
  · obtain rfl : i = xs.length := by omega
    exact .inl ⟨⟨xs, sq, Nat.le_refl _⟩, hd σ H q⟩
end EnT

/-! The law's draws; data. -/
namespace C1
open PySem PySem.Spec PyProof.Rows L2 SX
def topS (i : Nat) : Stmt := PySem.Challenge.pw_stagecut_k34_texts_of_nets.main.body.getD i (.Pass ⟨0, 0, 0, 0⟩)
abbrev sDraws : Stmt := topS 22
abbrev sNext : Stmt := topS 23
theorem scDraws : FnScope ["script", "many", "draws", "mixed", "k", "cell", "rest", "turn"] ["script", "many"] (defScope sDraws) := ⟨rfl, rfl, rfl, by decide +kernel, rfl, by decide +kernel, by decide +kernel⟩
theorem scNext : FnScope ["w", "many"] ["w", "many"] (defScope sNext) := ⟨rfl, rfl, rfl, by decide +kernel, rfl, by decide +kernel, by decide +kernel⟩
theorem cut_ints (ds : List Int) (lo hi : Option Int) : ∃ es : List Int, cutV (ds.map V.int) lo hi = es.map V.int ∧ es.length ≤ ds.length := by
  refine ⟨(ds.drop (HT.sIx ds.length 0 lo)).take (HT.sIx ds.length ds.length hi - HT.sIx ds.length 0 lo), ?_, ?_⟩
  · unfold cutV
    rw [List.length_map, List.map_take, List.map_drop]
  · rw [List.length_take, List.length_drop]
    omega
theorem ap_int (ds : List Int) (z : Int) : ds.map V.int ++ [V.int z] = (ds ++ [z]).map V.int := by
  rw [List.map_append]
  rfl
theorem same_new {H : Hp} {p : Addr} {o : HO} (n : H p = none) : Same H (upd H p o) := fun b x e => by
  rw [upd_ne (ne_of_none e n)]
  exact e
theorem same_put {H H1 : Hp} {l : Addr} {o : HO} (g : Same H H1) (n : H l = none) : Same H (upd H1 l o) := fun b x e => by
  rw [upd_ne (ne_of_none e n)]
  exact g b x e
section
variable {P : Program} {w : World} {K : PySem.W.Frag} {mg : Str → Option Value} {base : Heap}
/-- the built-ins that the law calls -/
structure Bl (mg : Str → Option Value) : Prop where
  len : mg "len" = none
  range : mg "range" = none
  abs : mg "abs" = none
  int : mg "int" = none
  str : mg "str" = none
def spDraws (K : PySem.W.Frag) : Sp := fun vs H Q _ => ∃ (a : Addr) (ns : List Int) (m : Nat), vs = [.ref a, .int ((m : Nat) : Int)] ∧ SqL K H a (ns.map V.int) ∧ ns.length ≤ 63 ∧ m ≤ 1000 ∧
  ∀ (H' : Hp) (p : Addr) (ds : List Int), Same H H' → H p = none → H' p = some (.lst (ds.map V.int)) → ds.length ≤ 10000 → Q (.ref p) H'
theorem ok_draws {f : Addr} {fd : FuncData} (F : Fun K "_law_draws" "_law_draws" sDraws f fd) (B : Bl mg) : FnOk P w K mg base CX0 1 f fd ["script", "many"] (spDraws K) := by
  refine F.ok scDraws (fun vs H Q E h => ?_) (fun cdv A outer s H vs Q E hr h => ?_)
  · obtain ⟨a, ns, m, rfl, _⟩ := h
    rfl
  · obtain ⟨a, ns, m, rfl, hS, hlen, hm, q⟩ := h
    have nd := scDraws.nd
    refine ⟨_, (pss_cons (ps_set (i := 2) nd rfl (.inl rfl) (pe_lst pa_nil))
      (pss_cons (ps_set (i := 3) nd rfl (.inl rfl) (pe_int))
      (pss_cons (ps_for PassesOwn.never rfl (pi_range1 (by rfl) B.range (pa_cons (pe_callB call_len_seq (by rfl) B.len PySem.boot_len (pa_cons (pv 0) pa_nil)) pa_nil)) (pg_name (i := 4) nd rfl (.inl rfl)) (pss_cons (ps_set (i := 5) nd rfl (.inl rfl) (pe_callB call_abs (by rfl) B.abs (by decide +kernel) (pa_cons (pe_callTy call_int1 (by rfl) B.int (by decide +kernel) (pa_cons (pe_ix ix_list (pv 0) (pv 4) (fun _ _ => rfl)) pa_nil)) pa_nil)))
      (pss_cons (ps_set (i := 3) nd rfl (.inl rfl) (pe_op op_mod (pe_callTy call_int1 (by rfl) B.int (by decide +kernel) (pa_cons (pe_op op_add (pe_op op_add (pe_op op_mul (pv 3) (pe_int)) (pe_op op_mod (pv 5) (pe_int))) (pv 4)) pa_nil)) (pe_int)))
      (pss_cons (ps_set (i := 6) nd rfl (.inl rfl) (pe_int))
      (C8.pss_cut (ps_if (pt_cmpR op_ge (pv 5) (pe_op op_pow pe_int pe_int) (nomark _)) (pss_one (ps_set (i := 6) nd rfl (.inl rfl) (pv 5)))
      (pss_cons (ps_expr (pe_bm PySem.F.plainAttrs_list PySem.F.slot_list_append PySem.F.type_list_append mt_append (pv 2) (pa_cons (pe_op op_mod (pe_callTy call_int1 (by rfl) B.int (by decide +kernel) (pa_cons (pv 5) pa_nil)) (pe_int)) pa_nil)))
      (pss_one (ps_expr (pe_bm PySem.F.plainAttrs_list PySem.F.slot_list_append PySem.F.type_list_append mt_append (pv 2) (pa_cons (pe_op op_mod (pe_op op_mod (pe_callTy call_int1 (by rfl) B.int (by decide +kernel) (pa_cons (pe_op op_add (pe_op op_mul (pv 3) (pe_int)) (pe_int)) pa_nil)) (pe_int)) (pe_int)) pa_nil))))))
      (pss_one (ps_for PassesOwn.never rfl (pi_range1 (by rfl) B.range (pa_cons (pe_int) pa_nil)) (pg_name (i := 7) nd rfl (.inl rfl)) (pss_one (ps_if (pt_cmpR op_gt (pv 6) pe_int (nomark _)) (pss_cons (ps_expr (pe_bm PySem.F.plainAttrs_list PySem.F.slot_list_append PySem.F.type_list_append mt_append (pv 2) (pa_cons (pe_op op_mod (pe_callTy call_int1 (by rfl) B.int (by decide +kernel) (pa_cons (pv 6) pa_nil)) (pe_int)) pa_nil)))
      (pss_one (ps_set (i := 6) nd rfl (.inl rfl) (pe_op op_fdiv (pv 6) (pe_int))))) pss_nil)))))))))
      (pss_cons (ps_for PassesOwn.never rfl (pi_range1 (by rfl) B.range (pa_cons (pv 1) pa_nil)) (pg_name (i := 4) nd rfl (.inl rfl)) (pss_cons (ps_set (i := 3) nd rfl (.inl rfl) (pe_op op_mod (pe_callTy call_int1 (by rfl) B.int (by decide +kernel) (pa_cons (pe_op op_add (pe_op op_add (pe_op op_mul (pv 3) (pe_int)) (pv 4)) (pe_int)) pa_nil)) (pe_int)))
      (pss_one (ps_expr (pe_bm PySem.F.plainAttrs_list PySem.F.slot_list_append PySem.F.type_list_append mt_append (pv 2) (pa_cons (pe_op op_mod (pe_callTy call_int1 (by rfl) B.int (by decide +kernel) (pa_cons (pv 3) pa_nil)) (pe_int)) pa_nil))))))
      (pss_one (ps_ret (pe_slice sl_list (pv 2) po_none (po_some (pv 1))))))))), ?_⟩
    refine ⟨Nat.zero_le _, fun l nl => ?_⟩
    have big : 100000 ≤ sizeLine := by
      rw [sizeLine_eq]
      decide
    let Iv : Nat → L2.St → Hp → Prop := fun n σ H' => ∃ (mixed : Int) (ds : List Int) (y4 y5 y6 y7 : Option V), σ = [some (.ref a), some (.int ((m : Nat) : Int)), some (.ref l), some (.int mixed), y4, y5, y6, y7] ∧ Same H H' ∧ H' l = some (.lst (ds.map V.int)) ∧ ds.length ≤ n ∧ 0 ≤ mixed ∧ mixed < 65537
    have h65 : ∀ x : Int, 0 ≤ x % 65537 ∧ x % 65537 < 65537 := fun x => ⟨Int.emod_nonneg x (by decide), Int.emod_lt_of_pos x (by decide)⟩
    refine ⟨_, rfl, a, ns.map V.int, rfl, .inl ((same_new nl).seq hS), ?_⟩
    rw [List.length_map]
    refine ⟨_, rfl, by omega, by omega, for_range (fun i σ H' => Iv (62 * i) σ H') ⟨7, [], none, none, none, none, rfl, same_new nl, upd_same, Nat.le_refl 0, by decide, by decide⟩ (fun i σ H1 hi h1 => ?_) (fun σ H1 h1 => ?_)⟩
    · obtain ⟨mixed, ds, y4, y5, y6, y7, rfl, g, el, dl, m0, m1⟩ := h1
      have hi2 : i < ns.length := by omega
      have hg : (ns.map V.int)[i]? = some (.int ns[i]) := by
        rw [List.getElem?_map, List.getElem?_eq_getElem hi2]
        rfl
      rw [Int.zero_add]
      refine ⟨_, rfl, _, rfl, a, _, _, _, rfl, rfl, g.seq hS, atI_nat (j := i) hg, .inl ⟨_, rfl, _, rfl, ?_⟩⟩
      generalize (if ns[i] < 0 then -ns[i] else ns[i]) = c
      refine ⟨_, rfl, _, _, rfl, rfl, .inl ⟨by omega, by omega⟩, _, rfl, _, _, rfl, rfl, (show (0 : Int) < 1000003 by decide), _, _, rfl, rfl, _, rfl, _, _, rfl, rfl, .inl ⟨_, rfl, _, _, rfl, rfl, (show (0 : Int) < 65537 by decide), ?_⟩⟩
      have mx := h65 (mixed * 48271 + c % 1000003 + ((i : Nat) : Int))
      -- behind the if: what the loop over 60 turns asks
      refine ⟨fun σ H2 => ∃ (ds : List Int) (rest : Int) (y7 : Option V), σ = [some (.ref a), some (.int ((m : Nat) : Int)), some (.ref l), some (.int ((mixed * 48271 + c % 1000003 + ((i : Nat) : Int)) % 65537)), some (.int ((i : Nat) : Int)), some (.int c), some (.int rest), y7] ∧ Same H H2 ∧ H2 l = some (.lst (ds.map V.int)) ∧ ds.length ≤ 62 * i + 2, ?_, ?_⟩
      · refine ⟨_, rfl, _, _, rfl, rfl, ⟨by decide, by decide, by decide⟩, _, _, rfl, rfl, _, rfl, ite2 (fun a1 => ?_) (fun a1 => ?_)⟩
        · exact ⟨_, rfl, ds, c, _, rfl, g, el, by omega⟩
        · refine ⟨_, rfl, .inl ⟨rfl, _, SqL.of el⟩, _, rfl, .inl ⟨_, rfl, _, _, rfl, rfl, (show (0 : Int) < 997 by decide), l, _, _, rfl, rfl, el, ?_, ?_⟩⟩
          · rw [List.length_map]
            omega
          · rw [ap_int]
            refine ⟨_, rfl, .inl ⟨rfl, _, SqL.of upd_same⟩, _, rfl, _, _, rfl, rfl, .inl ⟨by omega, by omega⟩, _, _, rfl, rfl, .inl ⟨_, rfl, _, _, rfl, rfl, (show (0 : Int) < 65521 by decide), _, _, rfl, rfl, (show (0 : Int) < 997 by decide), l, _, _, rfl, rfl, upd_same, ?_, ?_⟩⟩
            · rw [List.length_map, List.length_append]
              show ds.length + 1 < sizeLine
              omega
            · rw [ap_int]
              refine ⟨_, 0, _, rfl, same_put (same_put g nl) nl, upd_same, ?_⟩
              rw [List.length_append, List.length_append]
              show ds.length + 1 + 1 ≤ _
              omega
      · rintro σ H2 ⟨ds, rest, y7, rfl, g, el, dl⟩
        refine ⟨_, rfl, by decide, by decide, for_range (fun j σ H3 => ∃ (ds : List Int) (rest : Int) (y7 : Option V), σ = [some (.ref a), some (.int ((m : Nat) : Int)), some (.ref l), some (.int ((mixed * 48271 + c % 1000003 + ((i : Nat) : Int)) % 65537)), some (.int ((i : Nat) : Int)), some (.int c), some (.int rest), y7] ∧ Same H H3 ∧ H3 l = some (.lst (ds.map V.int)) ∧ ds.length ≤ 62 * i + 2 + j)
          ⟨ds, rest, y7, rfl, g, el, dl⟩ (fun j σ H3 hj h3 => ?_) (fun σ H3 h3 => ?_)⟩
        · obtain ⟨ds, rest, y7, rfl, g, el, dl⟩ := h3
          have hj2 : j < 60 := hj
          refine ⟨_, rfl, _, _, rfl, rfl, _, rfl, ite2 (fun a1 => ?_) (fun a1 => ?_)⟩
          · refine ⟨_, rfl, .inl ⟨rfl, _, SqL.of el⟩, _, rfl, .inl ⟨_, rfl, _, _, rfl, rfl, (show (0 : Int) < 997 by decide), l, _, _, rfl, rfl, el, ?_, ?_⟩⟩
            · rw [List.length_map]
              omega
            · rw [ap_int]
              refine ⟨_, rfl, _, _, rfl, rfl, ⟨by decide, by decide⟩, _, _, _, rfl, same_put g nl, upd_same, ?_⟩
              rw [List.length_append]
              show ds.length + 1 ≤ _
              omega
          · exact ⟨ds, rest, _, rfl, g, el, by omega⟩
        · obtain ⟨ds, rest, y7, rfl, g, el, dl⟩ := h3
          have dl2 : ds.length ≤ 62 * i + 2 + 60 := dl
          exact ⟨_, ds, _, _, _, _, rfl, g, el, by omega, mx.1, mx.2⟩
    · obtain ⟨mixed, ds, y4, y5, y6, y7, rfl, g, el, dl, m0, m1⟩ := h1
      have dl2 : ds.length ≤ 4000 := by omega
      refine ⟨_, rfl, _, rfl, by omega, by omega, for_range (fun j σ H2 => Iv (4000 + j) σ H2) ⟨mixed, ds, y4, y5, y6, y7, rfl, g, el, by omega, m0, m1⟩ (fun j σ H2 hj h2 => ?_) (fun σ H2 h2 => ?_)⟩
      · obtain ⟨mixed, ds, y4, y5, y6, y7, rfl, g, el, dl, m0, m1⟩ := h2
        have hj2 : j < m := by omega
        refine ⟨_, rfl, _, _, rfl, rfl, .inl ⟨by omega, by omega⟩, _, rfl, _, _, rfl, rfl, _, _, rfl, rfl, .inl ⟨_, rfl, _, _, rfl, rfl, (show (0 : Int) < 65537 by decide), ?_⟩⟩
        have mx := h65 (mixed * 16807 + (0 + ((j : Nat) : Int)) + 1)
        refine ⟨_, rfl, .inl ⟨rfl, _, SqL.of el⟩, _, rfl, .inl ⟨_, rfl, _, _, rfl, rfl, (show (0 : Int) < 997 by decide), l, _, _, rfl, rfl, el, ?_, ?_⟩⟩
        · rw [List.length_map]
          omega
        · rw [ap_int]
          refine ⟨_, _, _, _, _, _, rfl, same_put g nl, upd_same, ?_, mx.1, mx.2⟩
          rw [List.length_append]
          show ds.length + 1 ≤ _
          omega
      · obtain ⟨mixed, ds, y4, y5, y6, y7, rfl, g, el, dl, m0, m1⟩ := h2
        have dl3 : ds.length ≤ 5000 := by omega
        refine ⟨_, rfl, _, rfl, _, rfl, l, _, rfl, SqL.of el, fun p np => ?_⟩
        obtain ⟨es, e1, e2⟩ := cut_ints ds none (some ((m : Nat) : Int))
        rw [e1]
        exact q _ p es (fun b o e => same_new np b o (g b o e)) (g.free np) upd_same (by omega)
end
/-- the law's world: its draws and how many are taken -/
def wdL (l : Addr) (n : Int) : List (Key × V) := [(.inr ("draws" : Str), .ref l), (.inr ("at" : Str), .int n)]
theorem wd_draws (l : Addr) (n : Int) : valV (wdL l n) (.inr "draws") = some (.ref l) := valV_pos rfl
theorem wd_at (l : Addr) (n : Int) : valV (wdL l n) (.inr "at") = some (.int n) := (valV_neg (show ¬ (Sum.inr ("draws" : Str) : Key) = Sum.inr ("at" : Str) by decide)).trans (valV_pos rfl)
theorem wd_put (l : Addr) (n k : Int) : putK (wdL l n) (.inr ("at" : Str)) (.int k) = wdL l k := by
  have h1 : ¬ (Sum.inr ("draws" : Str) : Key) = Sum.inr ("at" : Str) := by decide
  unfold putK wdL
  simp [h1]
theorem get_draws {H : Hp} {a l : Addr} {n : Int} (h : H a = some (.dK (wdL l n))) : DGet H a (.str "draws") (some (.ref l)) := by
  have g := DGet.k (k := .inr "draws") h
  rw [wd_draws] at g
  exact g
theorem get_at {H : Hp} {a l : Addr} {n : Int} (h : H a = some (.dK (wdL l n))) : DGet H a (.str "at") (some (.int n)) := by
  have g := DGet.k (k := .inr "at") h
  rw [wd_at] at g
  exact g
theorem put_at {H : Hp} {a l : Addr} {n k : Int} (h : H a = some (.dK (wdL l n))) : DPut H a (.str "at") (.int k) (upd H a (.dK (wdL l k))) := by
  have g := DPut.k (k := .inr "at") (v := .int k) h (by rw [sizeLine_eq]; exact (by decide : 2 < 16777216))
  rw [wd_put] at g
  exact g
structure Wd (H : Hp) (a l : Addr) (ds : List Int) : Prop where
  at' : ∃ n : Int, 0 ≤ n ∧ H a = some (.dK (wdL l n))
  dr : H l = some (.lst (ds.map V.int))
  len : ds.length ≤ 10000
/-- all but the world at a is as it was -/
def Kp (a : Addr) (H H' : Hp) : Prop := ∀ b o, b ≠ a → H b = some o → H' b = some o
section
variable {a l : Addr} {ds : List Int} {H H1 H2 : Hp}
theorem Kp.refl (H : Hp) : Kp a H H := fun _ _ _ e => e
theorem Kp.trans (x : Kp a H H1) (y : Kp a H1 H2) : Kp a H H2 := fun b o n e => y b o n (x b o n e)
theorem Wd.ne (W : Wd H a l ds) : l ≠ a := by
  obtain ⟨n, _, e⟩ := W.at'
  exact ne_of W.dr e (by intro z; cases z)
theorem Kp.new {p : Addr} {o : HO} (n : H p = none) : Kp a H (upd H p o) := fun b u _ e => by
  rw [upd_ne (ne_of_none e n)]
  exact e
theorem Wd.new (W : Wd H a l ds) {p : Addr} {o : HO} (n : H p = none) : Wd (upd H p o) a l ds := by
  obtain ⟨k, k0, e⟩ := W.at'
  refine ⟨⟨k, k0, ?_⟩, ?_, W.len⟩
  · rw [upd_ne (ne_of_none e n)]
    exact e
  · rw [upd_ne (ne_of_none W.dr n)]
    exact W.dr
theorem Kp.step {o : HO} : Kp a H (upd H a o) := fun b u n e => by
  rw [upd_ne n]
  exact e
theorem Wd.step (W : Wd H a l ds) {n : Int} (h : 0 ≤ n) : Wd (upd H a (.dK (wdL l n))) a l ds := by
  refine ⟨⟨n, h, upd_same⟩, ?_, W.len⟩
  rw [upd_ne W.ne]
  exact W.dr
theorem Wd.fresh (W : Wd H a l ds) {p : Addr} (n : H p = none) : p ≠ a := fun z => by
  obtain ⟨k, _, e⟩ := W.at'
  rw [z, e] at n
  cases n
end
section
variable {P : Program} {w : World} {K : PySem.W.Frag} {mg : Str → Option Value} {base : Heap}
def spNext : Sp := fun vs H Q _ => ∃ (a l : Addr) (ds : List Int) (m : Int), vs = [.ref a, .int m] ∧ 0 < m ∧ Wd H a l ds ∧ ∀ (r : Nat) H', ((r : Nat) : Int) < m → Kp a H H' → (∀ b, b ≠ a → H' b = H b) → Wd H' a l ds → Q (.int ((r : Nat) : Int)) H'
theorem ok_next {f : Addr} {fd : FuncData} (F : Fun K "_law_next" "_law_next" sNext f fd) (B : Bl mg) : FnOk P w K mg base CX0 1 f fd ["w", "many"] spNext := by
  refine F.ok scNext (fun vs H Q E h => ?_) (fun cdv A outer s H vs Q E hr h => ?_)
  · obtain ⟨a, l, ds, m, rfl, _⟩ := h
    rfl
  · obtain ⟨a, l, ds, m, rfl, hm, W, q⟩ := h
    have hu := hu_of hr
    refine ⟨_, pss_cons (ps_daug hu (pv 0) pe_str pe_int in_add (fun _ _ _ => rfl))
      (pss_cons (ps_if (pt_cmpR op_gt (pe_dget hu (pv 0) pe_str (fun _ _ => rfl)) (pe_callB call_len_seq (by rfl) B.len PySem.boot_len (pa_cons (pe_dget hu (pv 0) pe_str (fun _ _ => rfl)) pa_nil)) (nomark _)) (pss_one (ps_ret pe_int)) pss_nil)
      (pss_one (ps_ret (pe_op op_mod (pe_callTy call_int1 (by rfl) B.int (by decide +kernel) (pa_cons (pe_ix ix_list (pe_dget hu (pv 0) pe_str (fun _ _ => rfl)) (pe_op op_sub (pe_dget hu (pv 0) pe_str (fun _ _ => rfl)) pe_int) (fun _ _ => rfl)) pa_nil)) (pv 1))))), ?_⟩
    obtain ⟨n, n0, e⟩ := W.at'
    refine ⟨_, rfl, a, _, rfl, get_at e, _, _, rfl, rfl, _, put_at e, ?_⟩
    have W1 : Wd (upd H a (.dK (wdL l (n + 1)))) a l ds := W.step (by omega)
    have e1 : (upd H a (.dK (wdL l (n + 1)))) a = some (.dK (wdL l (n + 1))) := upd_same
    refine ⟨_, rfl, a, _, rfl, get_at e1, _, rfl, a, _, rfl, get_draws e1, l, _, rfl, .inl (SqL.of W1.dr), _, _, rfl, rfl, _, rfl, ite2 (fun a1 => ?_) (fun a1 => ?_)⟩
    · exact q 0 _ hm Kp.step (fun b hb => upd_ne hb) W1
    · have b1 : ¬ ((ds.map V.int).length : Int) < n + 1 := fun z => a1 (decide_eq_true z)
      rw [List.length_map] at b1
      obtain ⟨j, ej⟩ : ∃ j : Nat, n + 1 - 1 = ((j : Nat) : Int) := ⟨n.toNat, by omega⟩
      have hj : j < ds.length := by omega
      have hg : (ds.map V.int)[j]? = some (.int ds[j]) := by
        rw [List.getElem?_map, List.getElem?_eq_getElem hj]
        rfl
      refine ⟨_, rfl, a, _, rfl, get_draws e1, _, rfl, a, _, rfl, get_at e1, _, _, rfl, rfl, l, _, _, .int ds[j], rfl, rfl, SqL.of W1.dr, ?_, .inl ⟨_, rfl, _, rfl, _, _, rfl, rfl, hm, ?_⟩⟩
      · rw [ej]
        exact atI_nat (j := j) hg
      · have z0 := Int.emod_nonneg ds[j] (show m ≠ 0 by omega)
        have z1 := Int.emod_lt_of_pos ds[j] hm
        obtain ⟨r, er⟩ : ∃ r : Nat, ds[j] % m = ((r : Nat) : Int) := ⟨(ds[j] % m).toNat, by omega⟩
        show Q (.int (ds[j] % m)) _
        rw [er]
        exact q r _ (by omega) Kp.step (fun b hb => upd_ne hb) W1
end
/-! data without lists: it stays where tuples stay -/
mutual
def noL : PyData → Bool
  | .list _ => false
  | .dict _ => false
  | .tuple ds => noLs ds
  | _ => true
def noLs : List PyData → Bool
  | [] => true
  | d :: ds => noL d && noLs ds
end
mutual
theorem dp_stay {K : PySem.W.Frag} {H H' : Hp} (st : ∀ a xs, SqT K H a xs → SqT K H' a xs) : ∀ (d : PyData) (v : V), Dp K H v d → noL d = true → Dp K H' v d
  | .none, _, h, _ => by cases h; exact .non
  | .bool _, _, h, _ => by cases h; exact .bl _
  | .int _, _, h, _ => by cases h; exact .int _
  | .str _, _, h, _ => by cases h; exact .str _
  | .list _, _, _, n => by cases n
  | .dict _, _, _, n => by cases n
  | .tuple ds, _, h, n => by
    cases h with
    | tup s a => exact .tup (st _ _ s) (dps_stay st ds _ a n)
theorem dps_stay {K : PySem.W.Frag} {H H' : Hp} (st : ∀ a xs, SqT K H a xs → SqT K H' a xs) : ∀ (ds : List PyData) (vs : List V), DpAll K H vs ds → noLs ds = true → DpAll K H' vs ds
  | [], _, h, _ => by cases h; exact .nil
  | d :: ds, _, h, n => by
    cases h with
    | cons a b =>
      have n2 : (noL d && noLs ds) = true := n
      rw [Bool.and_eq_true] at n2
      exact .cons (dp_stay st d _ a n2.1) (dps_stay st ds _ b n2.2)
end
theorem noLs_app : ∀ (a b : List PyData), noLs (a ++ b) = (noLs a && noLs b)
  | [], b => rfl
  | d :: a, b => by
    show (noL d && noLs (a ++ b)) = ((noL d && noLs a) && noLs b)
    rw [noLs_app a b, Bool.and_assoc]
theorem dps_app {K : PySem.W.Frag} {H : Hp} : ∀ {vs : List V} {ds : List PyData} {us : List V} {es : List PyData}, DpAll K H vs ds → DpAll K H us es → DpAll K H (vs ++ us) (ds ++ es)
  | _, _, _, _, .nil, h => h
  | _, _, _, _, .cons a b, h => .cons a (dps_app b h)
theorem dps_len {K : PySem.W.Frag} {H : Hp} : ∀ {vs : List V} {ds : List PyData}, DpAll K H vs ds → vs.length = ds.length
  | _, _, .nil => rfl
  | _, _, .cons _ b => by rw [List.length_cons, List.length_cons, dps_len b]
/-- a new object at p, the list at l grown: tuples stay -/
theorem tups_upd {K : PySem.W.Frag} {H : Hp} {l : Addr} {xs : List V} {o : HO} (e : H l = some (.lst xs)) : ∀ a ys, SqT K H a ys → SqT K (upd H l o) a ys := fun a ys h => by
  rcases h with (h | ⟨u, h⟩) | h
  · refine .inl (.inl ?_)
    rw [upd_ne (ne_of h e (by intro z; cases z))]
    exact h
  · refine .inl (.inr ⟨u, ?_⟩)
    rw [upd_ne (ne_of h e (by intro z; cases z))]
    exact h
  · exact .inr h
theorem dps_get {K : PySem.W.Frag} {H : Hp} : ∀ {vs : List V} {ds : List PyData} {i : Nat} {x : V}, DpAll K H vs ds → vs[i]? = some x → ∃ d, ds[i]? = some d ∧ Dp K H x d
  | _, _, _, _, .nil, h => by simp at h
  | _, _, 0, _, .cons a _, h => by
    have e := Option.some.inj h
    subst e
    exact ⟨_, rfl, a⟩
  | _, _, i + 1, _, .cons _ b, h => dps_get (i := i) b h
def LayAll (F : List PyData) : Prop := ∀ d ∈ F, PyData.canLay0 d = true ∧ PyData.depth d ≤ 5
theorem shaped_list : ∀ (F : List PyData), LayAll F → SeqAt.shaped (.list F) = true := by
  have h1 : ∀ F : List PyData, LayAll F → PyData.canLayAll0 F = true ∧ PyData.depthAll F ≤ 5 := by
    intro F
    induction F with
    | nil => exact fun _ => ⟨rfl, Nat.zero_le _⟩
    | cons d F ih =>
      intro h
      obtain ⟨a, b⟩ := ih fun x hx => h x (List.mem_cons_of_mem _ hx)
      obtain ⟨c, e⟩ := h d (List.mem_cons_self ..)
      refine ⟨?_, ?_⟩
      · show (PyData.canLay0 d && PyData.canLayAll0 F) = true
        rw [c, a]
        rfl
      · show max (PyData.depth d) (PyData.depthAll F) ≤ 5
        exact Nat.max_le.mpr ⟨e, b⟩
  intro F h
  obtain ⟨a, b⟩ := h1 F h
  unfold SeqAt.shaped
  rw [Bool.and_eq_true]
  refine ⟨a, decide_eq_true ?_⟩
  show PyData.depthAll F + 1 ≤ 64
  omega
abbrev iV (k : Nat) : V := .int ((k : Nat) : Int)
abbrev iD (k : Nat) : PyData := .int ((k : Nat) : Int)
theorem cL_int : ∀ ks : List Nat, LayAll (ks.map iD) := fun ks d h => by
  obtain ⟨k, _, e⟩ := List.mem_map.mp h
  subst e
  exact ⟨rfl, Nat.zero_le _⟩
theorem eqv_nil (xs : List PyData) : PyData.eqv (.list xs) (.list []) = xs.isEmpty := by
  cases xs with
  | nil => rfl
  | cons x r => rfl
theorem dps_ints {K : PySem.W.Frag} {H : Hp} : ∀ ks : List Nat, DpAll K H (ks.map iV) (ks.map iD)
  | [] => .nil
  | k :: ks => .cons (.int _) (dps_ints ks)
theorem dps_put {K : PySem.W.Frag} {H : Hp} : ∀ {vs : List V} {ds : List PyData} {i : Nat} {d : PyData}, DpAll K H vs ds → ds[i]? = some d → ∃ x, vs[i]? = some x ∧ Dp K H x d
  | _, _, _, _, .nil, h => by simp at h
  | _, _, 0, _, .cons a _, h => by
    have e := Option.some.inj h
    subst e
    exact ⟨_, rfl, a⟩
  | _, _, i + 1, _, .cons _ b, h => dps_put (i := i) b h
theorem int_at {ks : List Nat} {i k : Nat} (h : ks[i]? = some k) : (ks.map iV)[i]? = some (iV k) := by
  rw [List.getElem?_map, h]
  rfl
theorem kp_tup {K : PySem.W.Frag} {a : Addr} {H H' : Hp} {kvs : List (Key × V)} (e : H a = some (.dK kvs)) (k : Kp a H H') : ∀ b xs, SqT K H b xs → SqT K H' b xs := fun b xs h => by
  have ne : ∀ {o : HO}, H b = some o → (∀ k2, o ≠ .dK k2) → b ≠ a := fun h1 h2 z => by
    subst z
    rw [e] at h1
    cases h1
    exact h2 _ rfl
  rcases h with (h | ⟨u, h⟩) | h
  · exact .inl (.inl (k b _ (ne h (by intro _ z; cases z)) h))
  · exact .inl (.inr ⟨u, k b _ (ne h (by intro _ z; cases z)) h⟩)
  · exact .inr h
theorem wd_lne {H : Hp} {a l b : Addr} {ds : List Int} {xs : List V} (W : Wd H a l ds) (h : H b = some (.lst xs)) : b ≠ a := fun z => by
  obtain ⟨n, _, e⟩ := W.at'
  subst z
  rw [e] at h
  cases h
abbrev rLen (K : PySem.W.Frag) : List V → Hp → VK → Prop := fun xs H Q => ∃ p ys, xs = [V.ref p] ∧ (SqL K H p ys ∨ SqT K H p ys) ∧ Q (V.int ys.length) H
section
variable {a l r : Addr} {ds : List Int} {H H1 H2 : Hp}
theorem Kp.put {o : HO} (k : Kp a H H1) (n : H r = none) : Kp a H (upd H1 r o) := fun b u nb e => by
  rw [upd_ne (ne_of_none e n)]
  exact k b u nb e
theorem Wd.put {o : HO} (W : Wd H a l ds) (h1 : r ≠ a) (h2 : r ≠ l) : Wd (upd H r o) a l ds := by
  obtain ⟨k, k0, e⟩ := W.at'
  exact ⟨⟨k, k0, by rw [upd_ne h1.symm]; exact e⟩, by rw [upd_ne h2.symm]; exact W.dr, W.len⟩
theorem kp_none (k : Kp a H H1) (h : r ≠ a) (n : H1 r = none) : H r = none := by
  cases e : H r with
  | none => rfl
  | some o =>
    rw [k r o h e] at n
    cases n
theorem Wd.ne2 (W : Wd H a l ds) (n : H r = none) : r ≠ a ∧ r ≠ l := ⟨W.fresh n, fun z => by
  have := W.dr
  rw [← z, n] at this
  cases this⟩
variable {K : PySem.W.Frag}
theorem stay_dps {vs : List V} {es : List PyData} (W : Wd H a l ds) (k : Kp a H H1) (n : noLs es = true) (h : DpAll K H vs es) : DpAll K H1 vs es := by
  obtain ⟨_, _, e⟩ := W.at'
  exact dps_stay (kp_tup e k) _ _ h n
theorem push_dps {vs : List V} {es : List PyData} {v : V} {d : PyData} {o : HO} (e : H r = some (.lst vs)) (h : DpAll K H vs es) (n : noLs es = true) (hd : Dp K H v d) (nd : noL d = true) : DpAll K (upd H r o) (vs ++ [v]) (es ++ [d]) :=
  dps_app (dps_stay (tups_upd e) _ _ h n) (.cons (dp_stay (tups_upd e) _ _ hd nd) .nil)
end
def tyD : PyData → String
  | .none => "NoneType"
  | .bool _ => "bool"
  | .int _ => "int"
  | .str _ => "str"
  | .list _ => "list"
  | .tuple _ => "tuple"
  | .dict _ => "dict"
theorem ty_of {K : PySem.W.Frag} {H : Hp} {v : V} {d : PyData} (h : Dp K H v d) : TyB K H v (tyD d) := by
  cases h with
  | non => exact .non
  | bl b => exact .bl b
  | int i => exact .int i
  | str x => exact .str x
  | lst s _ => exact .lst s
  | tup s _ => exact .tup s
theorem ty_int {d : PyData} (h : tyD d = "int") : ∃ i, d = .int i := by
  cases d <;> simp [tyD] at h
  exact ⟨_, rfl⟩
theorem ty_tup {d : PyData} (h : tyD d = "tuple") : ∃ i, d = .tuple i := by
  cases d <;> simp [tyD] at h
  exact ⟨_, rfl⟩
theorem ty_str {d : PyData} (h : tyD d = "str") : ∃ i, d = .str i := by
  cases d <;> simp [tyD] at h
  exact ⟨_, rfl⟩
def isI (d : PyData) (lo hi : Int) : Bool := match d with
  | .int i => decide (lo ≤ i) && decide (i < hi)
  | _ => false
def isT (d : PyData) (n : Nat) : Bool := match d with
  | .tuple xs => decide (xs.length = n)
  | _ => false
theorem isI_iff {d : PyData} {lo hi : Int} : isI d lo hi = true ↔ ∃ i, d = .int i ∧ lo ≤ i ∧ i < hi := by
  cases d <;> simp [isI]
theorem isT_iff {d : PyData} {n : Nat} : isT d n = true ↔ ∃ xs, d = .tuple xs ∧ xs.length = n := by
  cases d <;> simp [isT]
theorem same_tup {K : PySem.W.Frag} {H H' : Hp} (s : Same H H') : ∀ b xs, SqT K H b xs → SqT K H' b xs := fun b xs h => by
  rcases h with (h | ⟨u, h⟩) | h
  · exact .inl (.inl (s _ _ h))
  · exact .inl (.inr ⟨u, s _ _ h⟩)
  · exact .inr h
theorem Same.up {H : Hp} {p : Addr} {o : HO} (n : H p = none) : Same H (upd H p o) := same_new n
section
variable {K : PySem.W.Frag} {H : Hp}
theorem dp_tup {H : Hp} {v : V} {ds : List PyData} (h : Dp K H v (.tuple ds)) : ∃ b xs, v = .ref b ∧ SqT K H b xs ∧ DpAll K H xs ds := by
  cases h with
  | tup s a => exact ⟨_, _, rfl, s, a⟩
end
theorem cst (n : Nat) : (2 : Int) ^ n = ((2 ^ n : Nat) : Int) := by
  rw [Int.natCast_pow]
  rfl
theorem vI {x y : Int} (h : x = y) : V.int x = V.int y := by rw [h]
def flD : PyData → Option V
  | .int i => some (.int i)
  | .str s => some (.str s)
  | _ => none
theorem sN {a b : Str} (h : a ≠ b) : V.str a ≠ V.str b := fun z => h (V.str.inj z)
theorem kT {A B : Prop} {x y : V} {i : Decidable (x = y)} (h : x = y) (a : A) : if @decide (x = y) i = true then A else B := by
  rw [if_pos (decide_eq_true h)]
  exact a
theorem kF {A B : Prop} {x y : V} {i : Decidable (x = y)} (h : x ≠ y) (b : B) : if @decide (x = y) i = true then A else B := by
  rw [if_neg (fun z => h (of_decide_eq_true z))]
  exact b
section
variable {K : PySem.W.Frag} {H : Hp}
theorem dps_flat {H : Hp} : ∀ {vs : List V} {ds : List PyData} {us : List V}, DpAll K H vs ds → ds.map flD = us.map some → vs = us
  | _, _, us, .nil, h => by
    cases us with
    | nil => rfl
    | cons _ _ => cases h
  | _, _, us, .cons (d := d) a b, h => by
    cases us with
    | nil => cases h
    | cons u us =>
      rw [List.map_cons, List.map_cons] at h
      injection h with h1 h2
      rw [dps_flat b h2]
      cases d with
      | int i => cases a; cases h1; rfl
      | str i => cases a; cases h1; rfl
      | _ => cases h1
end
theorem line200 {n : Nat} (h : n ≤ 1000) : n ≤ sizeLine := by
  rw [sizeLine_eq]
  omega
theorem lineS200 {n : Nat} (h : n ≤ 1000) : n < sizeLine := by
  rw [sizeLine_eq]
  omega
abbrev rTupleOf (K : PySem.W.Frag) : List V → Hp → VK → Prop := fun xs H Q => ∃ p ys, xs = [V.ref p] ∧ ((SqL K H p ys ∧ ∀ l, H l = none → Q (.ref l) (upd H l (.tup ys))) ∨ (SqT K H p ys ∧ Q (.ref p) H))
abbrev rOneShlN : R2 := fun x y H Q => ∃ k : Nat, x = .int 1 ∧ y = iV k ∧ k ≤ 1000 ∧ Q (iV (2 ^ k)) H
abbrev rModNN : R2 := fun x y H Q => ∃ n m : Nat, x = iV n ∧ y = iV m ∧ 0 < m ∧ Q (iV (n % m)) H
abbrev rAddN : R2 := fun x y H Q => ∃ n m : Nat, x = .int (n : Int) ∧ y = .int (m : Int) ∧ Q (.int ((n + m : Nat) : Int)) H
abbrev rMulN : R2 := fun x y H Q => ∃ n m : Nat, x = .int (n : Int) ∧ y = .int (m : Int) ∧ n ≤ 4294967296 ∧ Q (.int ((n * m : Nat) : Int)) H
abbrev rFdivN : R2 := fun x y H Q => ∃ n m : Nat, x = .int (n : Int) ∧ y = .int (m : Int) ∧ (1 ≤ m ∧ m < 1073741824) ∧ Q (.int ((n / m : Nat) : Int)) H
section
variable {X : Cx}
theorem op_oneShlN : OpR X (binaryOp .LShift) rOneShlN := by
  intro pins s σ H x y v u Q I rx ry h
  obtain ⟨k, rfl, rfl, hk, q⟩ := h
  exact op_oneShl pins s σ H _ _ v u Q I rx ry ⟨k, rfl, rfl, by omega, by rw [cst]; exact q⟩
theorem op_modNN : OpR X (binaryOp .Mod) rModNN := by
  intro pins s σ H x y v u Q I rx ry h
  obtain ⟨n, m, rfl, rfl, hm, q⟩ := h
  refine op_mod pins s σ H _ _ v u Q I rx ry ⟨_, _, rfl, rfl, show (0 : Int) < ((m : Nat) : Int) by omega, ?_⟩
  show Q (.int (((n : Nat) : Int) % ((m : Nat) : Int))) H
  rw [← Int.natCast_emod]
  exact q
end
theorem Wd.tup {K : PySem.W.Frag} {H H' : Hp} {a l : Addr} {ds : List Int} (W : Wd H a l ds) (k : Kp a H H') : ∀ b xs, SqT K H b xs → SqT K H' b xs := by
  obtain ⟨n, _, e⟩ := W.at'
  exact kp_tup e k
theorem getD_some {l : List Nat} {i x : Nat} (h : l[i]? = some x) : l.getD i 0 = x := by
  rw [List.getD_eq_getElem?_getD, h]
  rfl
theorem at_len {α β : Type} {xs : List α} {ys : List β} (hl : xs.length = ys.length) {i : Nat} {y : β} (h : ys[i]? = some y) : ∃ x, xs[i]? = some x :=
  ⟨_, List.getElem?_eq_getElem (by rw [hl]; exact (List.getElem?_eq_some_iff.mp h).1)⟩
theorem take_at {α : Type} {l : List α} {i j : Nat} {x : α} (h : (l.take i)[j]? = some x) : l[j]? = some x := by
  rw [List.getElem?_take] at h
  split at h
  · exact h
  · cases h
theorem take_snoc {α : Type} {l : List α} {i : Nat} {x : α} (h : l[i]? = some x) : l.take (i + 1) = l.take i ++ [x] := by
  rw [List.take_add_one, h]
  rfl
section
variable {K : PySem.W.Frag} {H H' : Hp}
theorem snoc_cases {α : Type} {l : List α} {x y : α} {j : Nat} (h : (l ++ [x])[j]? = some y) : (j < l.length ∧ l[j]? = some y) ∨ (j = l.length ∧ x = y) := by
  by_cases hj : j < l.length
  · rw [List.getElem?_append_left hj] at h
    exact .inl ⟨hj, h⟩
  · rw [List.getElem?_append_right (by omega)] at h
    have e0 : j - l.length = 0 := by
      have := (List.getElem?_eq_some_iff.mp h).1
      simp at this
      omega
    rw [e0] at h
    cases h
    exact .inr ⟨by omega, rfl⟩
end
section
variable {K : PySem.W.Frag} {H : Hp}
theorem tyx_tup {a : Addr} {xs : List V} (s : SqT K H a xs) : TyX K H (.ref a) (.type "tuple") := by
  rcases s with (s | ⟨u, s⟩) | ⟨o, its, k, s, c, _⟩
  · exact .base (.tup s)
  · exact .fTuple s
  · exact .kTuple s c
theorem tyx_lst {a : Addr} {xs : List V} (s : SqL K H a xs) : TyX K H (.ref a) (.type "list") := by
  rcases s with (s | ⟨u, s⟩) | ⟨o, its, k, s, c, _⟩
  · exact .base (.lst s)
  · exact .base (.frz s)
  · exact .kList s c
end
theorem tyx_of {K : PySem.W.Frag} {H : Hp} {v : V} {d : PyData} (h : Dp K H v d) (n : noL d = true) : TyX K H v (.type (tyD d)) := by
  cases h with
  | non => exact .base .non
  | bl b => exact .base (.bl b)
  | int i => exact .base (.int i)
  | str x => exact .base (.str x)
  | lst s _ => cases n
  | tup s _ =>
    rcases s with (s | ⟨u, s⟩) | ⟨o, its, k, s, c, _⟩
    · exact .base (.tup s)
    · exact .fTuple s
    · exact .kTuple s c
theorem kit_int (d : PyData) (n : noL d = true) : kitB (tyD d) "int" = some (decide (tyD d = "int") || decide (tyD d = "bool")) := by
  cases d with
  | list _ => cases n
  | dict _ => cases n
  | none => show kitB "NoneType" "int" = some (decide ("NoneType" = "int") || decide ("NoneType" = "bool")); decide +kernel
  | bool _ => show kitB "bool" "int" = some (decide ("bool" = "int") || decide ("bool" = "bool")); decide +kernel
  | int _ => show kitB "int" "int" = some (decide ("int" = "int") || decide ("int" = "bool")); decide +kernel
  | str _ => show kitB "str" "int" = some (decide ("str" = "int") || decide ("str" = "bool")); decide +kernel
  | tuple _ => show kitB "tuple" "int" = some (decide ("tuple" = "int") || decide ("tuple" = "bool")); decide +kernel
theorem kit_one (T : String) (hT : T = "bool" ∨ T = "tuple" ∨ T = "str") (d : PyData) (n : noL d = true) : kitB (tyD d) T = some (decide (tyD d = T)) := by
  rcases hT with rfl | rfl | rfl
  · cases d with
    | list _ => cases n
    | dict _ => cases n
    | none => show kitB "NoneType" "bool" = some (decide ("NoneType" = "bool")); decide +kernel
    | bool _ => show kitB "bool" "bool" = some (decide ("bool" = "bool")); decide +kernel
    | int _ => show kitB "int" "bool" = some (decide ("int" = "bool")); decide +kernel
    | str _ => show kitB "str" "bool" = some (decide ("str" = "bool")); decide +kernel
    | tuple _ => show kitB "tuple" "bool" = some (decide ("tuple" = "bool")); decide +kernel
  · cases d with
    | list _ => cases n
    | dict _ => cases n
    | none => show kitB "NoneType" "tuple" = some (decide ("NoneType" = "tuple")); decide +kernel
    | bool _ => show kitB "bool" "tuple" = some (decide ("bool" = "tuple")); decide +kernel
    | int _ => show kitB "int" "tuple" = some (decide ("int" = "tuple")); decide +kernel
    | str _ => show kitB "str" "tuple" = some (decide ("str" = "tuple")); decide +kernel
    | tuple _ => show kitB "tuple" "tuple" = some (decide ("tuple" = "tuple")); decide +kernel
  · cases d with
    | list _ => cases n
    | dict _ => cases n
    | none => show kitB "NoneType" "str" = some (decide ("NoneType" = "str")); decide +kernel
    | bool _ => show kitB "bool" "str" = some (decide ("bool" = "str")); decide +kernel
    | int _ => show kitB "int" "str" = some (decide ("int" = "str")); decide +kernel
    | str _ => show kitB "str" "str" = some (decide ("str" = "str")); decide +kernel
    | tuple _ => show kitB "tuple" "str" = some (decide ("tuple" = "str")); decide +kernel
theorem wd_merge (l : Addr) (n : Int) : mergeK [] [(.inr ("draws" : Str), .ref l), (.inr ("at" : Str), .int n)] = wdL l n := by
  have h1 : ¬ (Sum.inr ("draws" : Str) : Key) = Sum.inr ("at" : Str) := by decide
  unfold mergeK wdL
  simp [putK, h1]
theorem Wd.same {H H' : Hp} {a l : Addr} {ds : List Int} (W : Wd H a l ds) (s : Same H H') : Wd H' a l ds := by
  obtain ⟨n, n0, e⟩ := W.at'
  exact ⟨⟨n, n0, s _ _ e⟩, s _ _ W.dr, W.len⟩
theorem cut_take (xs : List V) (k : Nat) (h : k < xs.length) : cutV xs none (some ((k : Nat) : Int)) = xs.take k := by
  unfold cutV
  rw [HT.sIx_none, HT.sIx_nat, Nat.sub_zero, List.drop_zero, Nat.min_eq_left (by omega)]
theorem cut_drop (xs : List V) (k : Nat) (h : k < xs.length) : cutV xs (some (((k : Nat) : Int) + 1)) none = xs.drop (k + 1) := by
  unfold cutV
  rw [show ((k : Nat) : Int) + 1 = ((k + 1 : Nat) : Int) by omega, HT.sIx_none, HT.sIx_nat, Nat.min_eq_left (by omega)]
  exact List.take_of_length_le (by rw [List.length_drop]; omega)
theorem dps_take {K : PySem.W.Frag} {H : Hp} : ∀ {xs : List V} {ds : List PyData} (_ : DpAll K H xs ds) (k : Nat), DpAll K H (xs.take k) (ds.take k)
  | _, _, .nil, k => by simp; exact .nil
  | _, _, .cons _ _, 0 => .nil
  | _, _, .cons a b, k + 1 => .cons a (dps_take b k)
theorem dps_drop {K : PySem.W.Frag} {H : Hp} : ∀ {xs : List V} {ds : List PyData} (_ : DpAll K H xs ds) (k : Nat), DpAll K H (xs.drop k) (ds.drop k)
  | _, _, .nil, k => by simp; exact .nil
  | _, _, .cons a b, 0 => .cons a b
  | _, _, .cons _ b, k + 1 => dps_drop b k
theorem catA_read {K : PySem.W.Frag} {H : Hp} {a0 b0 : Addr} {xs ys : List V} {Q : VK} (hx : SqT K H a0 xs) (hy : SqT K H b0 ys) (hl : xs.length + ys.length ≤ sizeLine)
    (q : ∀ p H', Same H H' → (∀ a l ds, Wd H a l ds → Wd H' a l ds) → SqT K H' p (xs ++ ys) → Q (.ref p) H') : rCatA K (.ref a0) (.ref b0) H Q := by
  refine ⟨a0, b0, xs, ys, rfl, rfl, hx, hy, hl, fun e => ?_, fun e1 e2 => ?_, fun e1 e2 p np => ?_⟩
  · refine q b0 H (Same.refl H) (fun _ _ _ W => W) ?_
    rw [e]
    exact hy
  · refine q a0 H (Same.refl H) (fun _ _ _ W => W) ?_
    rw [e2, List.append_nil]
    exact hx
  · exact q p _ (Same.up np) (fun _ _ _ W => W.new np) (SqT.of upd_same)
theorem Same.kp {H H' : Hp} {a : Addr} (s : Same H H') : Kp a H H' := fun b o _ e => s b o e
theorem noLs_mem : ∀ {L : List PyData}, noLs L = true → ∀ d ∈ L, noL d = true
  | [], _, d, hd => by cases hd
  | a :: L, h, d, hd => by
    have h' := Bool.and_eq_true_iff.mp (show (noL a && noLs L) = true from h)
    rcases List.mem_cons.mp hd with rfl | hd
    · exact h'.1
    · exact noLs_mem h'.2 d hd
abbrev rListOf (K : PySem.W.Frag) : List V → Hp → VK → Prop := fun xs H Q => ∃ p ys, xs = [V.ref p] ∧ (SqL K H p ys ∨ SqT K H p ys) ∧ ∀ l, H l = none → Q (.ref l) (upd H l (.lst ys))
structure Gp (mg : Str → Option Value) : Prop where
  ty : mg "type" = none
  it : mg "int" = none
  tu : mg "tuple" = none
  bo : mg "bool" = none
  len : mg "len" = none
  all : mg "all" = none
  enumerate : mg "enumerate" = none
  isi : mg "isinstance" = none
  min : mg "min" = none
  range : mg "range" = none
  list : mg "list" = none
abbrev sIsTuple : Stmt := topS 10
abbrev sIsBelow : Stmt := topS 11
theorem scIsTuple : FnScope ["thing", "many"] ["thing", "many"] (defScope sIsTuple) := ⟨rfl, rfl, rfl, by decide +kernel, rfl, by decide +kernel, by decide +kernel⟩
theorem scIsBelow : FnScope ["thing", "limit"] ["thing", "limit"] (defScope sIsBelow) := ⟨rfl, rfl, rfl, by decide +kernel, rfl, by decide +kernel, by decide +kernel⟩
section
variable {P : Program} {w : World} {K : PySem.W.Frag} {mg : Str → Option Value} {base : Heap}
def spIsTuple (K : PySem.W.Frag) : Sp := fun vs H Q _ => ∃ (v : V) (d : PyData) (n : Nat), vs = [v, iV n] ∧ Dp K H v d ∧ Q (.bl (isT d n)) H
theorem ok_isTuple {f : Addr} {fd : FuncData} (F : Fun K "is_tuple" "is_tuple" sIsTuple f fd) (G : Gp mg) : FnOk P w K mg base CX0 1 f fd ["thing", "many"] (spIsTuple K) := by
  refine F.ok scIsTuple (fun vs H Q E h => ?_) (fun cdv A outer s H vs Q E hr h => ?_)
  · obtain ⟨v, d, n, rfl, _⟩ := h
    rfl
  · obtain ⟨v, d, n, rfl, hd, q⟩ := h
    refine ⟨_, (pss_one (ps_ret (pe_and (pe_cmpR op_isTyB (pe_callTy call_type1 (by rfl) G.ty (by decide +kernel) (pa_cons (pv 0) pa_nil)) (pe_bltn (v := .ty "tuple") (by rfl) G.tu (by decide +kernel) rfl) (nomark _)) (pe_one (pe_cmpR op_eq (pe_callB call_len_seq (by rfl) G.len PySem.boot_len (pa_cons (pv 0) pa_nil)) (pv 1) (nomark _)))))), ?_⟩
    refine ⟨_, rfl, _, _, rfl, ty_of hd, _, _, rfl, rfl, ?_⟩
    refine ⟨_, rfl, ite2 (fun a1 => ?_) (fun a1 => ?_)⟩
    · obtain ⟨ds, rfl⟩ := ty_tup (of_decide_eq_true a1)
      cases hd with
      | tup s a =>
        have l := dps_len a
        refine ⟨_, rfl, _, _, rfl, .inr s, _, rfl, rfl, ?_⟩
        rename_i xs
        have e2 : decide (V.int ((xs.length : Nat) : Int) = V.int ((n : Nat) : Int)) = isT (.tuple ds) n := by
          show _ = decide (ds.length = n)
          rw [l]
          refine decide_eq_decide.mpr ⟨fun h => ?_, fun h => by rw [h]⟩
          have := V.int.inj h
          omega
        rw [e2]
        exact q
    · have e : isT d n = false := by
        cases d with
        | tuple xs => exact absurd rfl a1
        | _ => rfl
      rw [e] at q
      exact q
def spIsBelow (K : PySem.W.Frag) : Sp := fun vs H Q _ => ∃ (v : V) (d : PyData) (n : Int), vs = [v, .int n] ∧ Dp K H v d ∧ Q (.bl (isI d 0 n)) H
theorem ok_isBelow {f : Addr} {fd : FuncData} (F : Fun K "is_below" "is_below" sIsBelow f fd) (G : Gp mg) : FnOk P w K mg base CX0 1 f fd ["thing", "limit"] (spIsBelow K) := by
  refine F.ok scIsBelow (fun vs H Q E h => ?_) (fun cdv A outer s H vs Q E hr h => ?_)
  · obtain ⟨v, d, n, rfl, _⟩ := h
    rfl
  · obtain ⟨v, d, n, rfl, hd, q⟩ := h
    refine ⟨_, (pss_one (ps_ret (pe_and (pe_cmpR op_isTyB (pe_callTy call_type1 (by rfl) G.ty (by decide +kernel) (pa_cons (pv 0) pa_nil)) (pe_bltn (v := .ty "int") (by rfl) G.it (by decide +kernel) rfl) (nomark _)) (pe_one (pe_chain op_le op_lt pe_int (pv 0) (pv 1)))))), ?_⟩
    refine ⟨_, rfl, _, _, rfl, ty_of hd, _, _, rfl, rfl, ?_⟩
    refine ⟨_, rfl, ite2 (fun a1 => ?_) (fun a1 => ?_)⟩
    · obtain ⟨i, rfl⟩ := ty_int (of_decide_eq_true a1)
      cases hd with
      | int i =>
        refine ⟨_, rfl, _, _, rfl, rfl, _, rfl, ite2 (fun a2 => ?_) (fun a2 => ?_)⟩
        · refine ⟨_, rfl, _, _, rfl, rfl, ?_⟩
          have e2 : isI (.int i) 0 n = decide (i < n) := by
            show (decide (0 ≤ i) && decide (i < n)) = _
            rw [a2]
            rfl
          rw [e2] at q
          exact q
        · have e2 : isI (.int i) 0 n = false := by
            show (decide (0 ≤ i) && decide (i < n)) = _
            rw [Bool.eq_false_iff.mpr a2]
            rfl
          rw [e2] at q
          exact q
    · have e : isI d 0 n = false := by
        cases d with
        | int xs => exact absurd rfl a1
        | _ => rfl
      rw [e] at q
      exact q
end
end C1

/-! Nets as data. -/
namespace C1
open PySem PySem.Spec PyProof.Rows L2 SX
def strsL : List Str := ["else", "0"]
def gd : Nat → PyData → Bool
  | _, .none => true
  | _, .bool _ => true
  | _, .int _ => true
  | _, .str s => decide (s ∈ strsL)
  | n + 1, .tuple ds => decide (ds.length ≤ 1000) && ds.all (gd n)
  | _, _ => false
theorem gd_ok : ∀ (n : Nat) (d : PyData), gd n d = true → noL d = true ∧ PyData.canLay0 d = true ∧ PyData.depth d ≤ n
  | _, .none, _ => ⟨rfl, rfl, Nat.zero_le _⟩
  | _, .bool _, _ => ⟨rfl, rfl, Nat.zero_le _⟩
  | _, .int _, _ => ⟨rfl, rfl, Nat.zero_le _⟩
  | n, .str s, h => by
    have h1 : s ∈ strsL := by
      cases n <;> exact of_decide_eq_true h
    have h2 : ∀ s ∈ strsL, PyData.canLay0 (.str s) = true := by decide +kernel
    exact ⟨rfl, h2 s h1, Nat.zero_le _⟩
  | 0, .tuple _, h => by cases h
  | n + 1, .tuple ds, h => by
    have h2 := (Bool.and_eq_true_iff.mp h).2
    have h3 : ∀ ds : List PyData, ds.all (gd n) = true → noLs ds = true ∧ PyData.canLayAll0 ds = true ∧ PyData.depthAll ds ≤ n := by
      intro ds
      induction ds with
      | nil => exact fun _ => ⟨rfl, rfl, Nat.zero_le _⟩
      | cons d ds ih =>
        intro h
        rw [List.all_cons, Bool.and_eq_true] at h
        obtain ⟨a1, a2, a3⟩ := gd_ok n d h.1
        obtain ⟨b1, b2, b3⟩ := ih h.2
        refine ⟨?_, ?_, ?_⟩
        · show (noL d && noLs ds) = true
          rw [a1, b1]
          rfl
        · show (PyData.canLay0 d && PyData.canLayAll0 ds) = true
          rw [a2, b2]
          rfl
        · show max (PyData.depth d) (PyData.depthAll ds) ≤ n
          exact Nat.max_le.mpr ⟨a3, b3⟩
    obtain ⟨a, b, c⟩ := h3 ds h2
    exact ⟨a, b, Nat.succ_le_succ c⟩
  | 0, .list _, h => by cases h
  | 0, .dict _, h => by cases h
  | _ + 1, .list _, h => by cases h
  | _ + 1, .dict _, h => by cases h
theorem gd_shaped {n : Nat} {d : PyData} (h : gd n d = true) (hn : n ≤ 60) : SeqAt.shaped d = true := by
  obtain ⟨_, b, c⟩ := gd_ok n d h
  unfold SeqAt.shaped
  rw [Bool.and_eq_true]
  exact ⟨b, decide_eq_true (by omega)⟩
theorem gd_mem {n : Nat} {ds : List PyData} (h : gd (n + 1) (.tuple ds) = true) {d : PyData} (hd : d ∈ ds) : gd n d = true := List.all_eq_true.mp (Bool.and_eq_true_iff.mp h).2 d hd
theorem gd_len {n : Nat} {ds : List PyData} (h : gd (n + 1) (.tuple ds) = true) : ds.length ≤ 1000 := of_decide_eq_true (Bool.and_eq_true_iff.mp h).1
theorem gd_tup {n : Nat} {ds : List PyData} (hl : ds.length ≤ 1000) (h : ∀ d ∈ ds, gd n d = true) : gd (n + 1) (.tuple ds) = true := Bool.and_eq_true_iff.mpr ⟨decide_eq_true hl, List.all_eq_true.mpr h⟩
theorem gd_int {n : Nat} (k : Int) : gd n (.int k) = true := by cases n <;> rfl
def pr (p : Nat × Nat) : PyData := .tuple [iD p.1, iD p.2]
structure Net where
  firsts : List Nat
  ands : List (Nat × Nat)
  nexts : List Nat
  outs : List Nat
def Net.d (n : Net) : PyData := .tuple [.tuple (n.firsts.map iD), .tuple (n.ands.map pr), .tuple (n.nexts.map iD), .tuple (n.outs.map iD)]
def Bits (l : List Nat) : Prop := ∀ x ∈ l, x < 2
structure NetOk (n : Net) : Prop where
  fb : Bits n.firsts
  fl : n.firsts.length ≤ 100
  al : n.ands.length ≤ 200
  nl : n.nexts.length = n.firsts.length
  ol : n.outs.length ≤ 100
  ao : ∀ (k : Nat) (p : Nat × Nat), n.ands[k]? = some p → p.1 < 2 * (1 + n.firsts.length + k) ∧ p.2 < 2 * (1 + n.firsts.length + k)
  no : ∀ x ∈ n.nexts, x < 2 * (1 + n.firsts.length + n.ands.length)
  oo : ∀ x ∈ n.outs, x < 2 * (1 + n.firsts.length + n.ands.length)
def memD (m : List Nat) : PyData := .tuple (m.map iD)
theorem noLs_int : ∀ m : List Nat, noLs (m.map iD) = true
  | [] => rfl
  | _ :: r => noLs_int r
theorem noLs_pr : ∀ ps : List (Nat × Nat), noLs (ps.map pr) = true
  | [] => rfl
  | p :: ps => noLs_pr ps
section
variable {P : Program} {w : World} {K : PySem.W.Frag} {mg : Str → Option Value} {base : Heap} {H H' : Hp}
structure NP (K : PySem.W.Frag) (H : Hp) (nA : Addr) (n : Net) : Prop where
  ex : ∃ (f a x o : Addr) (avs : List V), SqT K H nA [.ref f, .ref a, .ref x, .ref o] ∧ SqT K H f (n.firsts.map iV) ∧ (SqT K H a avs ∧ DpAll K H avs (n.ands.map pr)) ∧ SqT K H x (n.nexts.map iV) ∧ SqT K H o (n.outs.map iV)
theorem NP.stay {nA : Addr} {n : Net} (N : NP K H nA n) (st : ∀ a xs, SqT K H a xs → SqT K H' a xs) : NP K H' nA n := by
  obtain ⟨f, a, x, o, avs, h0, h1, h2, h3, h4⟩ := N.ex
  exact ⟨f, a, x, o, avs, st _ _ h0, st _ _ h1, ⟨st _ _ h2.1, dps_stay st _ _ h2.2 (noLs_pr _)⟩, st _ _ h3, st _ _ h4⟩
theorem NP.same {nA : Addr} {n : Net} (N : NP K H nA n) (s : Same H H') : NP K H' nA n := N.stay (same_tup s)
theorem dps_ints_eq {vs : List V} {ks : List Nat} (h : DpAll K H vs (ks.map iD)) : vs = ks.map iV := dps_flat h (by rw [List.map_map, List.map_map]; rfl)
theorem NP.of {nA : Addr} {n : Net} (h : Dp K H (.ref nA) n.d) : NP K H nA n := by
  obtain ⟨b, xs, e, s, q⟩ := dp_tup h
  cases e
  cases q with
  | cons a1 q => cases q with
  | cons a2 q => cases q with
  | cons a3 q => cases q with
  | cons a4 q =>
  cases q
  obtain ⟨b1, x1, rfl, s1, d1⟩ := dp_tup a1
  obtain ⟨b2, x2, rfl, s2, d2⟩ := dp_tup a2
  obtain ⟨b3, x3, rfl, s3, d3⟩ := dp_tup a3
  obtain ⟨b4, x4, rfl, s4, d4⟩ := dp_tup a4
  rw [dps_ints_eq d1] at s1
  rw [dps_ints_eq d3] at s3
  rw [dps_ints_eq d4] at s4
  exact ⟨b1, b2, b3, b4, x2, s, s1, ⟨s2, d2⟩, s3, s4⟩
theorem NP.dp {nA : Addr} {n : Net} (N : NP K H nA n) : Dp K H (.ref nA) n.d := by
  obtain ⟨f, a, x, o, avs, h0, h1, h2, h3, h4⟩ := N.ex
  exact .tup h0 (.cons (.tup h1 (dps_ints _)) (.cons (.tup h2.1 h2.2) (.cons (.tup h3 (dps_ints _)) (.cons (.tup h4 (dps_ints _)) .nil))))
theorem pr_at {vs : List V} {ps : List (Nat × Nat)} {i : Nat} {p : Nat × Nat} (h : DpAll K H vs (ps.map pr)) (e : ps[i]? = some p) : ∃ b, vs[i]? = some (.ref b) ∧ SqT K H b [iV p.1, iV p.2] := by
  obtain ⟨x, hx, hd⟩ := dps_put h (show (ps.map pr)[i]? = some (pr p) by rw [List.getElem?_map, e]; rfl)
  obtain ⟨b, xs, rfl, s, q⟩ := dp_tup hd
  rw [dps_flat q (us := [iV p.1, iV p.2]) rfl] at s
  exact ⟨b, hx, s⟩
end
end C1

/-! What is a net. -/
namespace C1
open PySem PySem.Spec PyProof.Rows L2 SX
abbrev sIsNet : Stmt := topS 13
theorem scIsNet : FnScope ["thing", "firsts", "ands", "nexts", "outs", "latches", "at", "part", "first", "side", "literal"] ["thing"] (defScope sIsNet) := ⟨rfl, rfl, rfl, by decide +kernel, rfl, by decide +kernel, by decide +kernel⟩
abbrev NIN : List Str := ["thing", "firsts", "ands", "nexts", "outs", "latches", "at", "part", "first", "side", "literal"]
def andB (n : Int) (d : PyData) : Bool := match d with
  | .tuple ds => decide (ds.length = 2) && ds.all fun x => isI x 0 n
  | _ => false
def andsB (L : Nat) : Nat → List PyData → Bool
  | _, [] => true
  | k, d :: ds => andB ((2 * (1 + L + k) : Nat) : Int) d && andsB L (k + 1) ds
def netB (d : PyData) : Bool := match d with
  | .tuple [.tuple fs, .tuple as, .tuple ns, .tuple os] => decide (ns.length = fs.length) && (fs.all fun x => isI x 0 2) && andsB fs.length 0 as && ((ns ++ os).all fun x => isI x 0 ((2 * (1 + fs.length + as.length) : Nat) : Int))
  | _ => false
theorem andsB_drop {L : Nat} : ∀ {ds : List PyData} {i k : Nat} {d : PyData}, ds[i]? = some d → andsB L k (ds.drop i) = (andB ((2 * (1 + L + k) : Nat) : Int) d && andsB L (k + 1) (ds.drop (i + 1)))
  | [], i, _, _, h => by simp at h
  | d0 :: ds, 0, k, d, h => by
    cases h
    rfl
  | d0 :: ds, i + 1, k, d, h => andsB_drop (ds := ds) (i := i) (k := k) h
theorem netB_four {ds : List PyData} (hl : ds.length = 4) (h : (ds.all fun d => decide (tyD d = "tuple")) = false) : netB (.tuple ds) = false := by
  match ds, hl with
  | [a, b, c, d], _ =>
    cases a <;> cases b <;> cases c <;> cases d <;> first | rfl | (exact absurd h (by decide)) | (simp [tyD] at h)
theorem filt_empty (b : PyData → Bool) : ∀ ds : List PyData, (ds.filter fun d => !(b d)).isEmpty = ds.all b
  | [] => rfl
  | d :: ds => by
    rw [List.filter_cons, List.all_cons]
    cases h : b d with
    | true =>
      rw [if_neg (by decide), Bool.true_and]
      exact filt_empty b ds
    | false => rfl
section
variable {P : Program} {w : World} {K : PySem.W.Frag} {mg : Str → Option Value} {base : Heap} {H H' : Hp}
/-- all([b of x for x in a tuple]) -/
theorem lc_all {a D : Addr} {xs : List V} {ds : List PyData} {b : PyData → Bool} {σ : L2.St} {Qd : Hp → Prop} {j : Nat} {wv : List Nat} {te : TE} (nD : H D = none) (sa : SqT K H a xs) (da : DpAll K H xs ds) (hn : noLs ds = true) (hl : ds.length ≤ 900)
    (ht : ∀ x d H1 (R : VK), Same H H1 → Dp K H1 x d → d ∈ ds → R (.bl (b d)) H1 → te ((wipe σ wv).set j (some x)) H1 R) (hσ : ∀ x, wipe ((wipe σ wv).set j (some x)) wv = wipe σ wv) (q : Qd (upd H D (.lst ((ds.map b).map V.bl)))) :
    ∃ W : Nat → Nat → Hp → Prop, (∃ m, W 0 m (upd H D (.lst []))) ∧ ∀ i m H, W i m H →
      ((Itt K a).stop i H ∧ Qd H) ∨ ((Itt K a).go i H ∧ ∃ Nx : Hp → Prop, (∀ H', Nx H' → ∃ m', m' < m ∧ W (i + 1) m' H') ∧ ∀ x H', (Itt K a).yld i H x H' → gName j x (wipe σ wv) H' fun σ2 H2 => wipe σ2 wv = wipe σ wv ∧ tYes σ2 H2 fun b H3 =>
        if b = true then te σ2 H3 fun y H4 => ∃ acc, H4 D = some (.lst acc) ∧ acc.length < sizeLine ∧ Nx (upd H4 D (.lst (acc ++ [y]))) else Nx H3) := by
  have lda := dps_len da
  have s6 : ∀ {o : HO}, Same H (upd H D o) := fun {o} => Same.up nD
  refine lc_tup (xs := xs) (fun i H1 => H1 = upd H D (.lst (((ds.take i).map b).map V.bl))) rfl (fun i H1 _ h => ?_) (fun i x H1 hx h => ?_) (fun H1 h => ?_)
  · subst h
    exact same_tup s6 _ _ sa
  · subst h
    obtain ⟨di, hdi, dx⟩ := dps_get (dps_stay (same_tup s6) _ _ da hn) hx
    refine ⟨hσ x, ?_⟩
    refine ht x di _ (fun y H4 => ∃ acc, H4 D = some (.lst acc) ∧ acc.length < sizeLine ∧ upd H4 D (.lst (acc ++ [y])) = upd H D (.lst (((ds.take (i + 1)).map b).map V.bl))) s6 dx (List.mem_of_getElem? hdi) ⟨_, upd_same, ?_, ?_⟩
    · rw [List.length_map, List.length_map]
      exact lineS200 (by rw [List.length_take]; omega)
    · rw [upd_upd, take_snoc hdi, List.map_append, List.map_append]
      rfl
  · subst h
    rw [lda, List.take_length]
    exact q
theorem all_id (b : PyData → Bool) (ds : List PyData) : (ds.map b).all id = ds.all b := by
  rw [List.all_map]
  rfl
/-- [x for x in a tuple if not b of x] -/
theorem lc_flt {a D : Addr} {xs : List V} {ds : List PyData} {b : PyData → Bool} {σ : L2.St} {Qd : Hp → Prop} {j : Nat} {wv : List Nat} {tt : TT} (nD : H D = none) (sa : SqT K H a xs) (da : DpAll K H xs ds) (hn : noLs ds = true) (hl : ds.length ≤ 900)
    (ht : ∀ x d H1 (R : Bool → Hp → Prop), Same H H1 → Dp K H1 x d → d ∈ ds → (∀ H2, Same H1 H2 → R (!(b d)) H2) → tt ((wipe σ wv).set j (some x)) H1 R)
    (hσ : ∀ x, ((wipe σ wv).set j (some x))[j]? = some (some x) ∧ wipe ((wipe σ wv).set j (some x)) wv = wipe σ wv) (q : ∀ H' zs, Same H H' → H' D = some (.lst zs) → DpAll K H' zs (ds.filter fun d => !(b d)) → Qd H') :
    ∃ W : Nat → Nat → Hp → Prop, (∃ m, W 0 m (upd H D (.lst []))) ∧ ∀ i m H, W i m H →
      ((Itt K a).stop i H ∧ Qd H) ∨ ((Itt K a).go i H ∧ ∃ Nx : Hp → Prop, (∀ H', Nx H' → ∃ m', m' < m ∧ W (i + 1) m' H') ∧ ∀ x H', (Itt K a).yld i H x H' → gName j x (wipe σ wv) H' fun σ2 H2 => wipe σ2 wv = wipe σ wv ∧ tt σ2 H2 fun b H3 =>
        if b = true then tVar j σ2 H3 fun y H4 => ∃ acc, H4 D = some (.lst acc) ∧ acc.length < sizeLine ∧ Nx (upd H4 D (.lst (acc ++ [y]))) else Nx H3) := by
  have lda := dps_len da
  refine lc_tup (xs := xs) (fun i H1 => Same H H1 ∧ ∃ zs, H1 D = some (.lst zs) ∧ zs.length ≤ i ∧ DpAll K H1 zs ((ds.take i).filter fun d => !(b d))) ⟨same_new nD, [], upd_same, Nat.zero_le _, .nil⟩ (fun i H1 _ h => same_tup h.1 _ _ sa) (fun i x H1 hx h => ?_) (fun H1 h => ?_)
  · obtain ⟨s1, zs, e, lz, dz⟩ := h
    obtain ⟨di, hdi, dx⟩ := dps_get (dps_stay (same_tup s1) _ _ da hn) hx
    have hil : i < ds.length := (List.getElem?_eq_some_iff.mp hdi).1
    have hnf : ∀ n, noLs ((ds.take n).filter fun d => !(b d)) = true := fun n => by
      have : ∀ l : List PyData, (∀ d ∈ l, noL d = true) → noLs l = true := fun l => by
        induction l with
        | nil => exact fun _ => rfl
        | cons d l ih =>
          intro h
          show (noL d && noLs l) = true
          rw [h d (List.mem_cons_self ..), ih fun x hx => h x (List.mem_cons_of_mem _ hx)]
          rfl
      exact this _ fun d hd => noLs_mem hn d (List.mem_of_mem_take (List.mem_filter.mp hd).1)
    refine ⟨(hσ x).2, ht x di H1 _ s1 dx (List.mem_of_getElem? hdi) fun H2 s2 => ?_⟩
    cases hb : b di with
    | true =>
      show _ ∧ _
      refine ⟨s1.trans s2, zs, s2 _ _ e, by omega, ?_⟩
      rw [take_snoc hdi, List.filter_append, List.filter_cons_of_neg (by rw [hb]; decide), List.filter_nil, List.append_nil]
      exact dps_stay (same_tup s2) _ _ dz (hnf i)
    | false =>
      refine ⟨x, (hσ x).1, zs, s2 _ _ e, lineS200 (by omega), same_put (s1.trans s2) nD, zs ++ [x], upd_same, by rw [List.length_append]; show zs.length + 1 ≤ i + 1; omega, ?_⟩
      rw [take_snoc hdi, List.filter_append, List.filter_cons_of_pos (by rw [hb]; rfl), List.filter_nil]
      exact push_dps (s2 _ _ e) (dps_stay (same_tup s2) _ _ dz (hnf i)) (hnf i) (dp_stay (same_tup s2) _ _ dx (noLs_mem hn _ (List.mem_of_getElem? hdi))) (noLs_mem hn _ (List.mem_of_getElem? hdi))
  · obtain ⟨s1, zs, e, lz, dz⟩ := h
    rw [lda, List.take_length] at dz
    exact q H1 zs s1 e dz
/-- a list of good things beside the empty one -/
theorem eq_nil {D : Addr} {zs : List V} {F : List PyData} {R : VK} {eq : Bool} (e : H D = some (.lst zs)) (dz : DpAll K H zs F) (hn : noLs F = true) (hF : LayAll F) (q : ∀ z, H z = none → R (.bl (if eq then F.isEmpty else !F.isEmpty)) (upd H z (.lst []))) :
    (0 ≤ sizeLine) ∧ ∀ z, H z = none → (if eq = true then rEqD K (.ref D) (.ref z) (upd H z (.lst [])) R else rNeD K (.ref D) (.ref z) (upd H z (.lst [])) R) := by
  refine ⟨Nat.zero_le _, fun z nz => ?_⟩
  have dz2 := dps_stay (same_tup (same_new (o := .lst []) nz)) _ _ dz hn
  have e2 := (same_new (o := .lst []) nz) _ _ e
  have q2 := q z nz
  cases eq with
  | true =>
    refine ⟨.list F, .list [], .lst (SqL.of e2) dz2, .lst (SqL.of upd_same) .nil, shaped_list F hF, shaped_list [] (fun d hd => by cases hd), ?_⟩
    rw [eqv_nil]
    exact q2
  | false =>
    refine ⟨.list F, .list [], .lst (SqL.of e2) dz2, .lst (SqL.of upd_same) .nil, shaped_list F hF, shaped_list [] (fun d hd => by cases hd), ?_⟩
    rw [eqv_nil]
    exact q2
theorem gd_lay {n : Nat} {ds : List PyData} (hg : ∀ d ∈ ds, gd n d = true) (hn : n ≤ 5) {p : PyData → Bool} : LayAll (ds.filter p) := fun d hd => by
  obtain ⟨_, b, c⟩ := gd_ok n d (hg d (List.mem_filter.mp hd).1)
  exact ⟨b, by omega⟩
theorem filt_noL {ds : List PyData} (hn : noLs ds = true) (p : PyData → Bool) : noLs (ds.filter p) = true := by
  have : ∀ l : List PyData, (∀ d ∈ l, noL d = true) → noLs l = true := fun l => by
    induction l with
    | nil => exact fun _ => rfl
    | cons d l ih =>
      intro h
      show (noL d && noLs l) = true
      rw [h d (List.mem_cons_self ..), ih fun x hx => h x (List.mem_cons_of_mem _ hx)]
      rfl
  exact this _ fun d hd => noLs_mem hn d (List.mem_filter.mp hd).1
def spIsNet (K : PySem.W.Frag) : Sp := fun vs H Q _ => ∃ (v : V) (d : PyData) (n : Nat), vs = [v] ∧ Dp K H v d ∧ gd n d = true ∧ n ≤ 4 ∧ (∀ ds, d = .tuple ds → ∀ es, .tuple es ∈ ds → es.length ≤ 400) ∧ ∀ H', Same H H' → Q (.bl (netB d)) H'
theorem ok_isNet {f fT fL : Addr} {fd fdT fdL : FuncData} (F : Fun K "is_net" "is_net" sIsNet f fd) (B : Gp mg) (GT : FnOk P w K mg base CX0 1 fT fdT ["thing", "many"] (spIsTuple K)) (kT : PySem.W.keepIn K (.ref fT) = true) (bT : Binds K fdT ["thing", "many"] []) (gT : mg "is_tuple" = some (.ref fT))
    (GL : FnOk P w K mg base CX0 1 fL fdL ["thing", "limit"] (spIsBelow K)) (kL : PySem.W.keepIn K (.ref fL) = true) (bL : Binds K fdL ["thing", "limit"] []) (gL : mg "is_below" = some (.ref fL)) : FnOk P w K mg base CX0 2 f fd ["thing"] (spIsNet K) := by
  refine F.ok scIsNet (fun vs H Q E h => ?_) (fun cdv A outer s H vs Q E hr h => ?_)
  · obtain ⟨v, d, n, rfl, _⟩ := h
    rfl
  · obtain ⟨v, d, n, rfl, hd, hg, hn, hlen, q⟩ := h
    have nd := scIsNet.nd
    have hr1 := hr
    have qf : netB d = false → ∀ {H'}, Same H H' → Q (.bl false) H' := fun e H' sm => by
      have := q H' sm
      rw [e] at this
      exact this
    refine ⟨_, (C8.pss_cut (ps_if (PW.pt (pw_or (pt_not (pt_val (pe_call GT hr1 (by rfl) gT kT bT .nil pass0 (pa_cons (pv 0) (pa_cons (pe_int) pa_nil))))) (pw_or1 (pt_not (pt_val (pe_callB (cr_all rfl) (by rfl) B.all (by decide +kernel) (pa_cons (pe_lc (own := [("part", 7)]) (g := gName 7) (tt := tYes) (te := tOp (fun x y H Q => ∃ a b, x = .ty a ∧ y = .ty b ∧ Q (.bl (decide (a = b))) H) (tCB (rTyp K) (tCons (tVar 7) tNil)) (tC (.ty "tuple")))  rfl nd (pi_tup (pv 0)) (blkOk_by (own := [("part", 7)]) (N := NIN) (sc := defScope sIsNet) (by decide +kernel)) (fun _ _ _ _ _ => pg_name (i := 7) nd rfl (.inl rfl)) (fun _ _ _ _ _ => pts_nil) (fun _ _ _ _ _ => by exact (pe_cmpR op_isTyB (pe_callTy call_type1 (by rfl) B.ty (by decide +kernel) (pa_cons (pv 7) pa_nil)) (pe_bltn (v := .ty "tuple") (by rfl) B.tu (by decide +kernel) rfl) (nomark _)))) pa_nil))))))) (pss_one (ps_ret (pe_bl))) pss_nil)
      (pss_cons (ps_asg (pv 0) (pg_tup (by rfl) (pgs_cons (pg_name (i := 1) nd rfl (.inl rfl)) (pgs_cons (pg_name (i := 2) nd rfl (.inr rfl)) (pgs_cons (pg_name (i := 3) nd rfl (.inl rfl)) (pgs_cons (pg_name (i := 4) nd rfl (.inl rfl)) pgs_nil))))))
      (pss_cons (ps_set (i := 5) nd rfl (.inr rfl) (pe_callB call_len_seq (by rfl) B.len PySem.boot_len (pa_cons (pv 1) pa_nil)))
      (C8.pss_cut (ps_if (PW.pt (pw_or (pt_cmpR op_ne (pe_callB call_len_seq (by rfl) B.len PySem.boot_len (pa_cons (pv 3) pa_nil)) (pv 5) (nomark _)) (pw_or1 (pt_not (pt_val (pe_callB (cr_all rfl) (by rfl) B.all (by decide +kernel) (pa_cons (pe_lc (own := [("first", 8)]) (g := gName 8) (tt := tYes) (te := tCall (spIsBelow K) [] E0 (tCons (tVar 8) (tCons (tC (.int 2)) tNil)))  rfl nd (pi_tup (pv 1)) (blkOk_by (own := [("first", 8)]) (N := NIN) (sc := defScope sIsNet) (by decide +kernel)) (fun _ _ _ _ _ => pg_name (i := 8) nd rfl (.inl rfl)) (fun _ _ _ _ _ => pts_nil) (fun _ _ _ _ _ => by exact (pe_call GL hr1 (by rfl) gL kL bL .nil pass0 (pa_cons (pv 8) (pa_cons (pe_int) pa_nil))))) pa_nil))))))) (pss_one (ps_ret (pe_bl))) pss_nil)
      (C8.pss_cut (ps_for PassesOwn.never rfl (EnT.pi_enT (by rfl) B.enumerate (pa_cons (pv 2) pa_nil)) (pg_tup (by rfl) (pgs_cons (pg_name (i := 6) nd rfl (.inr rfl)) (pgs_cons (pg_name (i := 7) nd rfl (.inl rfl)) pgs_nil))) (pss_one (ps_if (PW.pt (pw_or (pt_not (pt_val (pe_call GT hr1 (by rfl) gT kT bT .nil pass0 (pa_cons (pv 7) (pa_cons (pe_int) pa_nil))))) (pw_or1 (pt_not (pt_val (pe_callB (cr_all rfl) (by rfl) B.all (by decide +kernel) (pa_cons (pe_lc (own := [("side", 9)]) (g := gName 9) (tt := tYes) (te := tCall (spIsBelow K) [] E0 (tCons (tVar 9) (tCons (tOp rMulN (tC (.int 2)) (tOp rAddN (tOp rAddN (tC (.int 1)) (tVar 5)) (tVar 6))) tNil)))  rfl nd (pi_tup (pv 7)) (blkOk_by (own := [("side", 9)]) (N := NIN) (sc := defScope sIsNet) (by decide +kernel)) (fun _ _ _ _ _ => pg_name (i := 9) nd rfl (.inl rfl)) (fun _ _ _ _ _ => pts_nil) (fun _ _ _ _ _ => by exact (pe_call GL hr1 (by rfl) gL kL bL .nil pass0 (pa_cons (pv 9) (pa_cons (pe_op op_mulN (pe_int) (pe_op op_addN (pe_op op_addN (pe_int) (pv 5)) (pv 6))) pa_nil))))) pa_nil))))))) (pss_one (ps_ret (pe_bl))) pss_nil)))
      (pss_one (ps_ret (pe_callB (cr_all rfl) (by rfl) B.all (by decide +kernel) (pa_cons (pe_lc (own := [("literal", 10)]) (g := gName 10) (tt := tYes) (te := tCall (spIsBelow K) [] E0 (tCons (tVar 10) (tCons (tOp rMulN (tC (.int 2)) (tOp rAddN (tOp rAddN (tC (.int 1)) (tVar 5)) (tCB (rLen K) (tCons (tVar 2) tNil)))) tNil)))  rfl nd (pi_tup (pe_op op_catA (pv 3) (pv 4))) (blkOk_by (own := [("literal", 10)]) (N := NIN) (sc := defScope sIsNet) (by decide +kernel)) (fun _ _ _ _ _ => pg_name (i := 10) nd rfl (.inl rfl)) (fun _ _ _ _ _ => pts_nil) (fun _ _ _ _ _ => by exact (pe_call GL hr1 (by rfl) gL kL bL .nil pass0 (pa_cons (pv 10) (pa_cons (pe_op op_mulN (pe_int) (pe_op op_addN (pe_op op_addN (pe_int) (pv 5)) (pe_callB call_len_seq (by rfl) B.len PySem.boot_len (pa_cons (pv 2) pa_nil)))) pa_nil))))) pa_nil))))))))), ?_⟩
    refine ⟨fun σ H' => σ = [some v, none, none, none, none, none, none, none, none, none, none] ∧ Same H H' ∧ ∃ ds : List PyData, d = .tuple ds ∧ ds.length = 4 ∧ (ds.all fun d => decide (tyD d = "tuple")) = true, ?_, ?_⟩
    · refine ⟨_, rfl, v, d, 4, rfl, hd, _, rfl, ?_⟩
      cases ht : isT d 4 with
      | false =>
        refine iteT (qf ?_ (Same.refl H))
        unfold netB
        split
        · cases ht
        · rfl
      | true =>
        refine iteF ?_
        obtain ⟨ds, rfl, hl⟩ := isT_iff.mp ht
        obtain ⟨b, xs, rfl, sb, da⟩ := dp_tup hd
        have hnn : noLs ds = true := (gd_ok n _ hg).1
        refine ⟨_, rfl, b, rfl, ⟨_, sb⟩, fun D nD => ?_⟩
        refine lc_all (b := fun d => decide (tyD d = "tuple")) nD sb da hnn (by omega) (fun x d2 H1 R s1 dx hm r => ⟨_, rfl, _, _, rfl, ty_of dx, _, _, rfl, rfl, r⟩) (fun x => rfl) ?_
        refine ⟨D, _, rfl, SqL.of upd_same, _, rfl, ?_⟩
        rw [all_id]
        cases ha : (ds.all fun d => decide (tyD d = "tuple")) with
        | false => exact iteT (qf (netB_four hl ha) (Same.up nD))
        | true => exact iteF ⟨rfl, Same.up nD, ds, rfl, hl, ha⟩
    rintro σ H1 ⟨rfl, s1, ds, rfl, hl, hall⟩
    have hty : ∀ d ∈ ds, ∃ es, d = .tuple es := fun d hd => ty_tup (of_decide_eq_true (List.all_eq_true.mp hall d hd))
    match ds, hl with
    | [t0, t1, t2, t3], _ =>
      obtain ⟨fs, rfl⟩ := hty t0 (by simp)
      obtain ⟨as, rfl⟩ := hty t1 (by simp)
      obtain ⟨ns, rfl⟩ := hty t2 (by simp)
      obtain ⟨os, rfl⟩ := hty t3 (by simp)
      have hnn := (gd_ok n _ hg).1
      have lf := hlen _ rfl fs (by simp)
      have la := hlen _ rfl as (by simp)
      have ln := hlen _ rfl ns (by simp)
      have lo := hlen _ rfl os (by simp)
      obtain ⟨n, rfl⟩ : ∃ m, n = m + 2 := by
        match n, hg with
        | 0, h => cases h
        | 1, h => cases gd_mem h (List.mem_cons_self ..)
        | m + 2, _ => exact ⟨m, rfl⟩
      have g0 := gd_mem hg (d := .tuple fs) (by simp)
      have g1 := gd_mem hg (d := .tuple as) (by simp)
      have g2 := gd_mem hg (d := .tuple ns) (by simp)
      have g3 := gd_mem hg (d := .tuple os) (by simp)
      have n0 : noLs fs = true := (gd_ok _ _ g0).1
      have n1 : noLs as = true := (gd_ok _ _ g1).1
      have n2 : noLs ns = true := (gd_ok _ _ g2).1
      have n3 : noLs os = true := (gd_ok _ _ g3).1
      obtain ⟨b, xs, rfl, sb, da⟩ := dp_tup (dp_stay (same_tup s1) _ _ hd hnn)
      cases da with
      | cons a1 da => cases da with
      | cons a2 da => cases da with
      | cons a3 da => cases da with
      | cons a4 da =>
      cases da
      obtain ⟨b1, x1, rfl, s1', d1⟩ := dp_tup a1
      obtain ⟨b2, x2, rfl, s2', d2⟩ := dp_tup a2
      obtain ⟨b3, x3, rfl, s3', d3⟩ := dp_tup a3
      obtain ⟨b4, x4, rfl, s4', d4⟩ := dp_tup a4
      have k1 := dps_len d1
      have k2 := dps_len d2
      have k3 := dps_len d3
      have k4 := dps_len d4
      have hE : netB (.tuple [.tuple fs, .tuple as, .tuple ns, .tuple os]) = (decide (ns.length = fs.length) && (fs.all fun x => isI x 0 2) && andsB fs.length 0 as && ((ns ++ os).all fun x => isI x 0 ((2 * (1 + fs.length + as.length) : Nat) : Int))) := rfl
      refine ⟨_, rfl, b, _, rfl, sb, rfl, _, _, rfl, _, _, rfl, _, _, rfl, _, _, rfl, rfl, ?_⟩
      refine ⟨_, rfl, b1, _, rfl, .inr s1', ?_⟩
      refine ⟨fun σ H' => σ = [some (.ref b), some (.ref b1), some (.ref b2), some (.ref b3), some (.ref b4), some (iV fs.length), none, none, none, none, none] ∧ Same H1 H' ∧ ns.length = fs.length ∧ (fs.all fun x => isI x 0 2) = true, ?_, ?_⟩
      · refine ⟨_, rfl, b3, _, rfl, .inr s3', _, rfl, rfl, _, rfl, ?_⟩
        by_cases hnl : ns.length = fs.length
        · rw [show (!decide (V.int ((x3.length : Nat) : Int) = V.int ((x1.length : Nat) : Int))) = false by rw [decide_eq_true (by rw [k3, k1, hnl])]; rfl]
          refine iteF ?_
          refine ⟨_, rfl, b1, rfl, ⟨_, s1'⟩, fun D nD => ?_⟩
          refine lc_all (b := fun d => isI d 0 2) nD s1' d1 n0 (by omega) (fun x d2 H1 R s1 dx hm r => ⟨_, rfl, x, d2, 2, rfl, dx, r⟩) (fun x => rfl) ?_
          refine ⟨D, _, rfl, SqL.of upd_same, _, rfl, ?_⟩
          rw [all_id]
          cases ha : (fs.all fun d => isI d 0 2) with
          | false =>
            refine iteT (qf ?_ (s1.trans (Same.up nD)))
            rw [hE, ha, Bool.and_false, Bool.false_and, Bool.false_and]
          | true =>
            exact iteF ⟨by rw [k1]; rfl, Same.up nD, hnl, rfl⟩
        · rw [show (!decide (V.int ((x3.length : Nat) : Int) = V.int ((x1.length : Nat) : Int))) = true by rw [decide_eq_false (fun z => hnl (by have := V.int.inj z; omega))]; rfl]
          refine iteT (qf ?_ s1)
          rw [hE, decide_eq_false hnl, Bool.false_and, Bool.false_and, Bool.false_and]
      rintro σ H2 ⟨rfl, s2, hnl, hfb⟩
      have hE2 : netB (.tuple [.tuple fs, .tuple as, .tuple ns, .tuple os]) = (andsB fs.length 0 as && ((ns ++ os).all fun x => isI x 0 ((2 * (1 + fs.length + as.length) : Nat) : Int))) := by
        rw [hE, decide_eq_true hnl, hfb, Bool.true_and, Bool.true_and]
      refine ⟨fun σ H' => ∃ y6 y7, σ = [some (.ref b), some (.ref b1), some (.ref b2), some (.ref b3), some (.ref b4), some (iV fs.length), y6, y7, none, none, none] ∧ Same H2 H' ∧ andsB fs.length 0 as = true, ?_, ?_⟩
      · refine ⟨_, rfl, b2, _, rfl, same_tup s2 _ _ s2', ?_⟩
        refine EnT.for_enT (xs := x2) (fun i σ H' => ∃ y6 y7, σ = [some (.ref b), some (.ref b1), some (.ref b2), some (.ref b3), some (.ref b4), some (iV fs.length), y6, y7, none, none, none] ∧ Same H2 H' ∧ andsB fs.length 0 as = andsB fs.length i (as.drop i)) ⟨_, _, rfl, Same.refl _, rfl⟩ (fun i σ H' _ h => ?_) (fun i x T σ H' hx h nT => ?_) (fun σ H' h => ?_)
        · obtain ⟨_, _, rfl, s, _⟩ := h
          exact same_tup (s2.trans s) _ _ s2'
        · obtain ⟨_, _, rfl, s, e⟩ := h
          obtain ⟨di, hdi, _⟩ := dps_get d2 hx
          have s' : Same H2 (upd H' T (.tup [.int (i : Nat), x])) := s.trans (same_new nT)
          obtain ⟨di2, hdi2, dx⟩ := dps_get (dps_stay (same_tup (s2.trans s')) _ _ d2 n1) hx
          rw [hdi] at hdi2
          cases hdi2
          rw [andsB_drop hdi] at e
          have hm := List.mem_of_getElem? hdi
          have hil := (List.getElem?_eq_some_iff.mp hdi).1
          have hgi := gd_mem g1 hm
          refine ⟨T, _, rfl, SqT.of upd_same, rfl, _, _, rfl, _, _, rfl, rfl, ?_⟩
          have fls : andB ((2 * (1 + fs.length + i) : Nat) : Int) di = false → ∀ {H3}, Same H2 H3 → Q (.bl false) H3 := fun z H3 s3 => qf (by rw [hE2, e, z, Bool.false_and, Bool.false_and]) ((s1.trans s2).trans s3)
          refine ⟨_, rfl, x, di, 2, rfl, dx, _, rfl, ?_⟩
          cases ht : isT di 2 with
          | false =>
            refine iteT (fls ?_ s')
            unfold andB
            split
            · have : decide (_ = 2) = false := ht
              rw [this, Bool.false_and]
            · rfl
          | true =>
            refine iteF ?_
            obtain ⟨es, rfl, hl2⟩ := isT_iff.mp ht
            obtain ⟨bb, xx, rfl, sbb, dbb⟩ := dp_tup dx
            have nes : noLs es = true := noLs_mem n1 _ hm
            refine ⟨_, rfl, bb, rfl, ⟨_, sbb⟩, fun D nD => ?_⟩
            refine lc_all (b := fun d => isI d 0 ((2 * (1 + fs.length + i) : Nat) : Int)) nD sbb dbb nes (by omega) (fun x d2 H1 R s1 dx hm r => ⟨_, rfl, _, rfl, 1, fs.length, rfl, rfl, _, rfl, _, i, rfl, rfl, 2, _, rfl, rfl, by decide, x, d2, _, rfl, dx, r⟩) (fun x => rfl) ?_
            refine ⟨D, _, rfl, SqL.of upd_same, _, rfl, ?_⟩
            rw [all_id]
            have eA : andB ((2 * (1 + fs.length + i) : Nat) : Int) (.tuple es) = es.all fun d => isI d 0 ((2 * (1 + fs.length + i) : Nat) : Int) := by
              show (decide (es.length = 2) && _) = _
              rw [decide_eq_true hl2, Bool.true_and]
            rw [eA] at e
            cases ha : (es.all fun d => isI d 0 ((2 * (1 + fs.length + i) : Nat) : Int)) with
            | false => exact iteT (fls (by rw [eA, ha]) (s'.trans (Same.up nD)))
            | true =>
              rw [ha, Bool.true_and] at e
              exact iteF ⟨_, _, rfl, s'.trans (Same.up nD), e⟩
        · obtain ⟨_, _, rfl, s, e⟩ := h
          refine ⟨_, _, rfl, s, ?_⟩
          rw [e, k2, List.drop_length]
          rfl
      rintro σ H3 ⟨y6, y7, rfl, s3, hab⟩
      have hE3 : netB (.tuple [.tuple fs, .tuple as, .tuple ns, .tuple os]) = ((ns ++ os).all fun x => isI x 0 ((2 * (1 + fs.length + as.length) : Nat) : Int)) := by
        rw [hE2, hab, Bool.true_and]
      have s23 := s2.trans s3
      refine ⟨_, rfl, _, rfl, catA_read (same_tup s23 _ _ s3') (same_tup s23 _ _ s4') (line200 (by omega)) fun cA H4 s4 _ sc => ?_⟩
      have s24 := s23.trans s4
      have dcat : DpAll K H4 (x3 ++ x4) (ns ++ os) := dps_app (dps_stay (same_tup s24) _ _ d3 n2) (dps_stay (same_tup s24) _ _ d4 n3)
      refine ⟨cA, rfl, ⟨_, sc⟩, fun D nD => ?_⟩
      refine lc_all (b := fun d => isI d 0 ((2 * (1 + fs.length + as.length) : Nat) : Int)) nD sc dcat (by rw [noLs_app, n2, n3]; rfl) (by rw [List.length_append]; omega) (fun x d2' H1 R s1 dx hm r => ⟨_, rfl, _, rfl, 1, fs.length, rfl, rfl, _, rfl, b2, _, rfl, .inr (same_tup (s24.trans s1) _ _ s2'), _, as.length, rfl, by rw [k2], 2, _, rfl, rfl, by decide, x, d2', _, rfl, dx, r⟩) (fun x => rfl) ?_
      refine ⟨D, _, rfl, SqL.of upd_same, ?_⟩
      rw [all_id, ← hE3]
      exact q _ ((s1.trans s24).trans (Same.up nD))
end
end C1

/-! The law's tests. -/
namespace C1
open PySem PySem.Spec PyProof.Rows L2 SX
abbrev sLawIsNumber : Stmt := topS 27
abbrev sLawIsNet : Stmt := topS 28
theorem scLawIsNumber : FnScope ["thing", "most"] ["thing", "most"] (defScope sLawIsNumber) := ⟨rfl, rfl, rfl, by decide +kernel, rfl, by decide +kernel, by decide +kernel⟩
theorem scLawIsNet : FnScope ["thing", "firsts", "ands", "nexts", "outs", "at", "many", "part", "bit"] ["thing"] (defScope sLawIsNet) := ⟨rfl, rfl, rfl, by decide +kernel, rfl, by decide +kernel, by decide +kernel⟩
abbrev NLN : List Str := ["thing", "firsts", "ands", "nexts", "outs", "at", "many", "part", "bit"]
theorem iteN {c A B : Prop} [Decidable c] (hc : ¬ c) (h : A) : if (!decide c) = true then A else B := by
  rw [decide_eq_false hc]
  exact iteT h
section
variable {P : Program} {w : World} {K : PySem.W.Frag} {mg : Str → Option Value} {base : Heap} {H H' : Hp}
theorem ne_nilR {D : Addr} {zs : List V} {F : List PyData} {R : VK} (e : H D = some (.lst zs)) (dz : DpAll K H zs F) (hn : noLs F = true) (hF : LayAll F) (q : ∀ z, H z = none → R (.bl (!F.isEmpty)) (upd H z (.lst []))) :
    (0 ≤ sizeLine) ∧ ∀ z, H z = none → rNeD K (.ref D) (.ref z) (upd H z (.lst [])) R := eq_nil (eq := false) e dz hn hF q
def spIsN (K : PySem.W.Frag) : Sp := fun vs H Q _ => ∃ (v : V) (d : PyData) (n : Int), vs = [v, .int n] ∧ Dp K H v d ∧ noL d = true ∧ Q (.bl (isI d 0 n)) H
theorem ok_isN {f : Addr} {fd : FuncData} (F : Fun K "_law_is_number" "_law_is_number" sLawIsNumber f fd) (B : Gp mg) : FnOk P w K mg base CX0 1 f fd ["thing", "most"] (spIsN K) := by
  refine F.ok scLawIsNumber (fun vs H Q E h => ?_) (fun cdv A outer s H vs Q E hr h => ?_)
  · obtain ⟨v, d, n, rfl, _⟩ := h
    rfl
  · obtain ⟨v, d, n, rfl, hd, hn, q⟩ := h
    refine ⟨_, (pss_one (ps_ret (pe_and (pe_callB call_isi (by rfl) B.isi (by decide +kernel) (pa_cons (pv 0) (pa_cons (pe_bltn (v := .ty "int") (by rfl) B.it (by decide +kernel) rfl) pa_nil))) (pe_and (pe_not (pe_callB call_isi (by rfl) B.isi (by decide +kernel) (pa_cons (pv 0) (pa_cons (pe_bltn (v := .ty "bool") (by rfl) B.bo (by decide +kernel) rfl) pa_nil)))) (pe_one (pe_chain op_le op_lt (pe_int) (pv 0) (pv 1))))))), ?_⟩
    refine ⟨_, rfl, v, _, _, _, _, rfl, .ty "int", tyx_of hd hn, kit_ty (kit_int d hn), ?_⟩
    refine ⟨_, rfl, ?_⟩
    cases d with
    | list _ => cases hn
    | dict _ => cases hn
    | int i =>
      cases hd
      refine iteT ?_
      refine ⟨_, rfl, _, _, _, _, _, rfl, .ty "bool", tyx_of (K := K) (H := H) (.int i) rfl, kit_ty (kit_one "bool" (.inl rfl) (.int i) rfl), ?_⟩
      refine ⟨_, rfl, _, rfl, iteT ?_⟩
      refine ⟨_, rfl, _, _, rfl, rfl, _, rfl, ite2 (fun a1 => ?_) (fun a1 => ?_)⟩
      · refine ⟨_, rfl, _, _, rfl, rfl, ?_⟩
        have e : isI (.int i) 0 n = decide (i < n) := by
          show (decide (0 ≤ i) && decide (i < n)) = _
          rw [a1, Bool.true_and]
        rw [e] at q
        exact q
      · have e : isI (.int i) 0 n = false := by
          show (decide (0 ≤ i) && decide (i < n)) = _
          rw [Bool.eq_false_iff.mpr a1, Bool.false_and]
        rw [e] at q
        exact q
    | bool b =>
      cases hd
      refine iteT ?_
      refine ⟨_, rfl, _, _, _, _, _, rfl, .ty "bool", tyx_of (K := K) (H := H) (.bl b) rfl, kit_ty (kit_one "bool" (.inl rfl) (.bool b) rfl), ?_⟩
      exact ⟨_, rfl, _, rfl, iteF q⟩
    | none => exact iteF q
    | str _ => exact iteF q
    | tuple _ => exact iteF q
theorem ok_lNet {f fN : Addr} {fd fdN : FuncData} (F : Fun K "_law_is_net" "_law_is_net" sLawIsNet f fd) (B : Gp mg) (GN : FnOk P w K mg base CX0 1 fN fdN ["thing", "most"] (spIsN K)) (kN : PySem.W.keepIn K (.ref fN) = true) (bN : Binds K fdN ["thing", "most"] []) (gN : mg "_law_is_number" = some (.ref fN)) : FnOk P w K mg base CX0 2 f fd ["thing"] (spIsNet K) := by
  refine F.ok scLawIsNet (fun vs H Q E h => ?_) (fun cdv A outer s H vs Q E hr h => ?_)
  · obtain ⟨v, d, n, rfl, _⟩ := h
    rfl
  · obtain ⟨v, d, n, rfl, hd, hg, hn, hlen, q⟩ := h
    have nd := scLawIsNet.nd
    have hr1 := hr
    have hu := hr.units
    have qf : netB d = false → ∀ {H'}, Same H H' → Q (.bl false) H' := fun e H' sm => by
      have := q H' sm
      rw [e] at this
      exact this
    have hnl := (gd_ok n d hg).1
    refine ⟨_, (C8.pss_cut (ps_if (PW.pt (pw_or (pt_not (pt_val (pe_callB call_isi (by rfl) B.isi (by decide +kernel) (pa_cons (pv 0) (pa_cons (pe_bltn (v := .ty "tuple") (by rfl) B.tu (by decide +kernel) rfl) pa_nil))))) (pw_or (pt_cmpR op_ne (pe_callB call_len_seq (by rfl) B.len PySem.boot_len (pa_cons (pv 0) pa_nil)) (pe_int) (nomark _)) (pw_or1 (pt_cmpR (op_neD hu) (pe_lc (own := [("part", 7)]) (g := gName 7) (tt := tNot (tB (tCB (rIsi K) (tCons (tVar 7) (tCons (tC (.ty "tuple")) tNil))))) (te := tVar 7)  rfl nd (pi_tup (pv 0)) (blkOk_by (own := [("part", 7)]) (N := NLN) (sc := defScope sLawIsNet) (by decide +kernel)) (fun _ _ _ _ _ => pg_name (i := 7) nd rfl (.inl rfl)) (fun _ _ _ _ _ => pts_one (pt_not (pt_val (pe_callB call_isi (by rfl) B.isi (by decide +kernel) (pa_cons (pv 7) (pa_cons (pe_bltn (v := .ty "tuple") (by rfl) B.tu (by decide +kernel) rfl) pa_nil)))))) (fun _ _ _ _ _ => by exact (pv 7))) (pe_lst pa_nil) (nomark _)))))) (pss_one (ps_ret (pe_bl))) pss_nil)
      (pss_cons (ps_asg (pv 0) (pg_tup (by rfl) (pgs_cons (pg_name (i := 1) nd rfl (.inr rfl)) (pgs_cons (pg_name (i := 2) nd rfl (.inl rfl)) (pgs_cons (pg_name (i := 3) nd rfl (.inl rfl)) (pgs_cons (pg_name (i := 4) nd rfl (.inl rfl)) pgs_nil))))))
      (pss_cons (ps_if (pt_cmpR (op_neD hu) (pe_lc (own := [("bit", 8)]) (g := gName 8) (tt := tNot (tB (tCall (spIsN K) [] E0 (tCons (tVar 8) (tCons (tC (.int 2)) tNil))))) (te := tVar 8)  rfl nd (pi_tup (pv 1)) (blkOk_by (own := [("bit", 8)]) (N := NLN) (sc := defScope sLawIsNet) (by decide +kernel)) (fun _ _ _ _ _ => pg_name (i := 8) nd rfl (.inl rfl)) (fun _ _ _ _ _ => pts_one (pt_not (pt_val (pe_call GN hr1 (by rfl) gN kN bN .nil pass0 (pa_cons (pv 8) (pa_cons (pe_int) pa_nil)))))) (fun _ _ _ _ _ => by exact (pv 8))) (pe_lst pa_nil) (nomark _)) (pss_one (ps_ret (pe_bl))) pss_nil)
      (C8.pss_cut (ps_for PassesOwn.never rfl (pi_range1 (by rfl) B.range (pa_cons (pe_callB call_len_seq (by rfl) B.len PySem.boot_len (pa_cons (pv 2) pa_nil)) pa_nil)) (pg_name (i := 5) nd rfl (.inr rfl)) (C8.pss_cut (ps_if (PW.pt (pw_or (pt_not (pt_val (pe_callB call_isi (by rfl) B.isi (by decide +kernel) (pa_cons (pe_ix ix_tup (pv 2) (pv 5) (fun _ _ => rfl)) (pa_cons (pe_bltn (v := .ty "tuple") (by rfl) B.tu (by decide +kernel) rfl) pa_nil))))) (pw_or1 (pt_cmpR op_ne (pe_callB call_len_seq (by rfl) B.len PySem.boot_len (pa_cons (pe_ix ix_tup (pv 2) (pv 5) (fun _ _ => rfl)) pa_nil)) (pe_int) (nomark _))))) (pss_one (ps_ret (pe_bl))) pss_nil)
      (pss_one (ps_if (pt_cmpR (op_neD hu) (pe_lc (own := [("part", 7)]) (g := gName 7) (tt := tNot (tB (tCall (spIsN K) [] E0 (tCons (tVar 7) (tCons (tOp rMulN (tC (.int 2)) (tOp rAddN (tOp rAddN (tC (.int 1)) (tCB (rLen K) (tCons (tVar 1) tNil))) (tVar 5))) tNil))))) (te := tVar 7)  rfl nd (pi_tup (pe_ix ix_tup (pv 2) (pv 5) (fun _ _ => rfl))) (blkOk_by (own := [("part", 7)]) (N := NLN) (sc := defScope sLawIsNet) (by decide +kernel)) (fun _ _ _ _ _ => pg_name (i := 7) nd rfl (.inl rfl)) (fun _ _ _ _ _ => pts_one (pt_not (pt_val (pe_call GN hr1 (by rfl) gN kN bN .nil pass0 (pa_cons (pv 7) (pa_cons (pe_op op_mulN (pe_int) (pe_op op_addN (pe_op op_addN (pe_int) (pe_callB call_len_seq (by rfl) B.len PySem.boot_len (pa_cons (pv 1) pa_nil))) (pv 5))) pa_nil)))))) (fun _ _ _ _ _ => by exact (pv 7))) (pe_lst pa_nil) (nomark _)) (pss_one (ps_ret (pe_bl))) pss_nil))))
      (pss_cons (ps_set (i := 6) nd rfl (.inr rfl) (pe_op op_mulN (pe_int) (pe_op op_addN (pe_op op_addN (pe_int) (pe_callB call_len_seq (by rfl) B.len PySem.boot_len (pa_cons (pv 1) pa_nil))) (pe_callB call_len_seq (by rfl) B.len PySem.boot_len (pa_cons (pv 2) pa_nil)))))
      (pss_one (ps_ret (pe_and (pe_cmpR op_eq (pe_callB call_len_seq (by rfl) B.len PySem.boot_len (pa_cons (pv 3) pa_nil)) (pe_callB call_len_seq (by rfl) B.len PySem.boot_len (pa_cons (pv 1) pa_nil)) (nomark _)) (pe_one (pe_cmpR (op_eqD hu) (pe_lc (own := [("part", 7)]) (g := gName 7) (tt := tNot (tB (tCall (spIsN K) [] E0 (tCons (tVar 7) (tCons (tVar 6) tNil))))) (te := tVar 7)  rfl nd (pi_tup (pe_op op_catA (pv 3) (pv 4))) (blkOk_by (own := [("part", 7)]) (N := NLN) (sc := defScope sLawIsNet) (by decide +kernel)) (fun _ _ _ _ _ => pg_name (i := 7) nd rfl (.inl rfl)) (fun _ _ _ _ _ => pts_one (pt_not (pt_val (pe_call GN hr1 (by rfl) gN kN bN .nil pass0 (pa_cons (pv 7) (pa_cons (pv 6) pa_nil)))))) (fun _ _ _ _ _ => by exact (pv 7))) (pe_lst pa_nil) (nomark _))))))))))), ?_⟩
    refine ⟨fun σ H' => σ = [some v, none, none, none, none, none, none, none, none] ∧ Same H H' ∧ ∃ ds : List PyData, d = .tuple ds ∧ ds.length = 4 ∧ (ds.all fun d => decide (tyD d = "tuple")) = true, ?_, ?_⟩
    · refine ⟨_, rfl, v, _, _, _, _, rfl, .ty "tuple", tyx_of hd hnl, kit_ty (kit_one "tuple" (.inr (.inl rfl)) d hnl), _, rfl, ?_⟩
      cases d with
      | tuple ds =>
        refine iteNS rfl ?_
        obtain ⟨b, xs, rfl, sb, da⟩ := dp_tup hd
        have lda := dps_len da
        have hnn : noLs ds = true := hnl
        obtain ⟨n, rfl⟩ : ∃ m, n = m + 1 := by
          cases n with
          | zero => cases hg
          | succ m => exact ⟨m, rfl⟩
        refine ⟨_, rfl, _, _, rfl, .inr sb, rfl, _, rfl, ?_⟩
        by_cases hl : ds.length = 4
        · refine iteNS (by rw [lda, hl]; rfl) ?_
          refine ⟨_, rfl, b, rfl, ⟨_, sb⟩, fun D nD => ?_⟩
          refine lc_flt (b := fun d => decide (tyD d = "tuple")) nD sb da hnn (by omega) (fun x d2 H1 R s1 dx hm r => ⟨_, rfl, x, _, _, _, _, rfl, .ty "tuple", tyx_of dx (noLs_mem hnn _ hm), kit_ty (kit_one "tuple" (.inr (.inl rfl)) d2 (noLs_mem hnn _ hm)), _, rfl, r _ (Same.refl _)⟩) (fun x => ⟨rfl, rfl⟩) fun H1 zs s1 e dz => ?_
          refine ne_nilR e dz (filt_noL hnn _) (gd_lay (fun d hd => gd_mem hg hd) (by omega)) fun z nz => ⟨_, rfl, ?_⟩
          rw [filt_empty]
          cases ha : (ds.all fun d => decide (tyD d = "tuple")) with
          | false => exact iteT (qf (netB_four hl ha) (s1.trans (Same.up nz)))
          | true => exact iteF ⟨rfl, s1.trans (Same.up nz), ds, rfl, hl, ha⟩
        · refine iteN (fun z => hl (by have := V.int.inj z; omega)) (qf ?_ (Same.refl H))
          unfold netB
          split
          · rename_i e
            cases e
            exact absurd rfl hl
          · rfl
      | _ => exact iteN (fun e => by simp [tyD] at e) (qf rfl (Same.refl H))
    rintro σ H1 ⟨rfl, s1, ds, rfl, hl, hall⟩
    have hty : ∀ d ∈ ds, ∃ es, d = .tuple es := fun d hd => ty_tup (of_decide_eq_true (List.all_eq_true.mp hall d hd))
    match ds, hl with
    | [t0, t1, t2, t3], _ =>
      obtain ⟨fs, rfl⟩ := hty t0 (by simp)
      obtain ⟨as, rfl⟩ := hty t1 (by simp)
      obtain ⟨ns, rfl⟩ := hty t2 (by simp)
      obtain ⟨os, rfl⟩ := hty t3 (by simp)
      have hnn := (gd_ok n _ hg).1
      have lf := hlen _ rfl fs (by simp)
      have la := hlen _ rfl as (by simp)
      have ln := hlen _ rfl ns (by simp)
      have lo := hlen _ rfl os (by simp)
      obtain ⟨n, rfl⟩ : ∃ m, n = m + 2 := by
        match n, hg with
        | 0, h => cases h
        | 1, h => cases gd_mem h (List.mem_cons_self ..)
        | m + 2, _ => exact ⟨m, rfl⟩
      have g0 := gd_mem hg (d := .tuple fs) (by simp)
      have g1 := gd_mem hg (d := .tuple as) (by simp)
      have g2 := gd_mem hg (d := .tuple ns) (by simp)
      have g3 := gd_mem hg (d := .tuple os) (by simp)
      have n0 : noLs fs = true := (gd_ok _ _ g0).1
      have n1 : noLs as = true := (gd_ok _ _ g1).1
      have n2 : noLs ns = true := (gd_ok _ _ g2).1
      have n3 : noLs os = true := (gd_ok _ _ g3).1
      obtain ⟨b, xs, rfl, sb, da⟩ := dp_tup (dp_stay (same_tup s1) _ _ hd hnn)
      cases da with
      | cons a1 da => cases da with
      | cons a2 da => cases da with
      | cons a3 da => cases da with
      | cons a4 da =>
      cases da
      obtain ⟨b1, x1, rfl, s1', d1⟩ := dp_tup a1
      obtain ⟨b2, x2, rfl, s2', d2⟩ := dp_tup a2
      obtain ⟨b3, x3, rfl, s3', d3⟩ := dp_tup a3
      obtain ⟨b4, x4, rfl, s4', d4⟩ := dp_tup a4
      have k1 := dps_len d1
      have k2 := dps_len d2
      have k3 := dps_len d3
      have k4 := dps_len d4
      have hE : netB (.tuple [.tuple fs, .tuple as, .tuple ns, .tuple os]) = (decide (ns.length = fs.length) && (fs.all fun x => isI x 0 2) && andsB fs.length 0 as && ((ns ++ os).all fun x => isI x 0 ((2 * (1 + fs.length + as.length) : Nat) : Int))) := rfl
      refine ⟨_, rfl, b, _, rfl, sb, rfl, _, _, rfl, _, _, rfl, _, _, rfl, _, _, rfl, rfl, ?_⟩
      refine ⟨_, rfl, b1, rfl, ⟨_, s1'⟩, fun D nD => ?_⟩
      refine lc_flt (b := fun d => isI d 0 2) nD s1' d1 n0 (by omega) (fun x d2 H1 R s1 dx hm r => ⟨_, rfl, x, d2, 2, rfl, dx, noLs_mem n0 _ hm, _, rfl, r _ (Same.refl _)⟩) (fun x => ⟨rfl, rfl⟩) fun H2 zs s2 e dz => ?_
      refine ne_nilR e dz (filt_noL n0 _) (gd_lay (fun d hd => gd_mem g0 hd) (by omega)) fun z nz => ⟨_, rfl, ?_⟩
      rw [filt_empty]
      have s2z := s2.trans (Same.up (o := .lst []) nz)
      generalize upd H2 z (.lst []) = H3 at s2z
      cases hfb : (fs.all fun d => isI d 0 2) with
      | false =>
        refine iteT (qf ?_ (s1.trans s2z))
        rw [hE, hfb, Bool.and_false, Bool.false_and, Bool.false_and]
      | true =>
      refine iteF ?_
      have hE1 : netB (.tuple [.tuple fs, .tuple as, .tuple ns, .tuple os]) = (decide (ns.length = fs.length) && andsB fs.length 0 as && ((ns ++ os).all fun x => isI x 0 ((2 * (1 + fs.length + as.length) : Nat) : Int))) := by
        rw [hE, hfb, Bool.and_true]
      refine ⟨fun σ H' => ∃ y5, σ = [some (.ref b), some (.ref b1), some (.ref b2), some (.ref b3), some (.ref b4), y5, none, none, none] ∧ Same H1 H' ∧ andsB fs.length 0 as = true, ?_, ?_⟩
      · refine ⟨_, rfl, b2, _, rfl, .inr (same_tup s2z _ _ s2'), ?_⟩
        refine ⟨_, rfl, by omega, by omega, for_range (fun i σ H' => ∃ y5, σ = [some (.ref b), some (.ref b1), some (.ref b2), some (.ref b3), some (.ref b4), y5, none, none, none] ∧ Same H1 H' ∧ andsB fs.length 0 as = andsB fs.length i (as.drop i)) ⟨_, rfl, s2z, rfl⟩ (fun i σ H' hi h => ?_) (fun σ H' h => ?_)⟩
        · obtain ⟨_, rfl, s, e⟩ := h
          have hil : i < as.length := by omega
          obtain ⟨x, hx⟩ : ∃ x, x2[i]? = some x := ⟨_, List.getElem?_eq_getElem (by omega)⟩
          obtain ⟨di, hdi, dx⟩ := dps_get (dps_stay (same_tup s) _ _ d2 n1) hx
          rw [andsB_drop hdi] at e
          have hm := List.mem_of_getElem? hdi
          have gi := gd_mem g1 hm
          have ni := noLs_mem n1 _ hm
          have fls : andB ((2 * (1 + fs.length + i) : Nat) : Int) di = false → ∀ {H3}, Same H1 H3 → Q (.bl false) H3 := fun z H3 s3 => qf (by rw [hE1, e, z, Bool.false_and, Bool.and_false, Bool.false_and]) (s1.trans s3)
          rw [Int.zero_add]
          refine ⟨fun σ H4 => σ = [some (.ref b), some (.ref b1), some (.ref b2), some (.ref b3), some (.ref b4), some (iV i), none, none, none] ∧ H4 = H' ∧ ∃ es : List PyData, di = .tuple es ∧ es.length = 2, ?_, ?_⟩
          · refine ⟨_, rfl, _, rfl, b2, _, _, _, rfl, rfl, same_tup s _ _ s2', atI_nat hx, x, _, _, _, _, rfl, .ty "tuple", tyx_of dx ni, kit_ty (kit_one "tuple" (.inr (.inl rfl)) di ni), _, rfl, ?_⟩
            cases di with
            | tuple es =>
              refine iteNS rfl ?_
              obtain ⟨bb, xx, rfl, sbb, dbb⟩ := dp_tup dx
              have lbb := dps_len dbb
              refine ⟨_, rfl, _, rfl, b2, _, _, _, rfl, rfl, same_tup s _ _ s2', atI_nat hx, bb, _, rfl, .inr sbb, rfl, _, rfl, ?_⟩
              by_cases hl2 : es.length = 2
              · exact iteNS (by rw [lbb, hl2]; rfl) ⟨rfl, rfl, es, rfl, hl2⟩
              · refine iteN (fun z => hl2 (by have := V.int.inj z; omega)) (fls ?_ s)
                show (decide (es.length = 2) && _) = _
                rw [decide_eq_false hl2, Bool.false_and]
            | _ => exact iteN (fun e => by simp [tyD] at e) (fls rfl s)
          rintro σ H4 ⟨rfl, rfl, es, rfl, hl2⟩
          obtain ⟨bb, xx, rfl, sbb, dbb⟩ := dp_tup dx
          have nes : noLs es = true := ni
          refine ⟨_, rfl, _, rfl, b2, _, _, _, rfl, rfl, same_tup s _ _ s2', atI_nat hx, bb, rfl, ⟨_, sbb⟩, fun D nD => ?_⟩
          refine lc_flt (b := fun d => isI d 0 ((2 * (1 + fs.length + i) : Nat) : Int)) nD sbb dbb nes (by omega) (fun x d2 H5 R s5 dx hm r => ⟨_, rfl, _, rfl, b1, _, rfl, .inr (same_tup (s.trans s5) _ _ s1'), 1, fs.length, rfl, by rw [k1], _, rfl, _, i, rfl, rfl, 2, _, rfl, rfl, by decide, x, d2, _, rfl, dx, noLs_mem nes _ hm, _, rfl, r _ (Same.refl _)⟩) (fun x => ⟨rfl, rfl⟩) fun H5 zs s5 ez dz => ?_
          obtain ⟨n', hn', ges⟩ : ∃ n', n' ≤ 4 ∧ ∀ d ∈ es, gd n' d = true := by
            cases n with
            | zero => cases gi
            | succ m => exact ⟨m, by omega, fun d hd => gd_mem gi hd⟩
          refine ne_nilR ez dz (filt_noL nes _) (gd_lay ges (by omega)) fun z nz => ⟨_, rfl, ?_⟩
          rw [filt_empty]
          have eA : andB ((2 * (1 + fs.length + i) : Nat) : Int) (.tuple es) = es.all fun d => isI d 0 ((2 * (1 + fs.length + i) : Nat) : Int) := by
            show (decide (es.length = 2) && _) = _
            rw [decide_eq_true hl2, Bool.true_and]
          have s6 := s.trans (s5.trans (Same.up (o := .lst []) nz))
          rw [eA] at e
          cases ha : (es.all fun d => isI d 0 ((2 * (1 + fs.length + i) : Nat) : Int)) with
          | false => exact iteT (fls (by rw [eA, ha]) s6)
          | true =>
            rw [ha, Bool.true_and] at e
            exact iteF ⟨_, rfl, s6, e⟩
        · obtain ⟨_, rfl, s, e⟩ := h
          refine ⟨_, rfl, s, ?_⟩
          rw [e, k2, Int.toNat_natCast, List.drop_length]
          rfl
      rintro σ H4 ⟨y5, rfl, s4, hab⟩
      have hE2 : netB (.tuple [.tuple fs, .tuple as, .tuple ns, .tuple os]) = (decide (ns.length = fs.length) && ((ns ++ os).all fun x => isI x 0 ((2 * (1 + fs.length + as.length) : Nat) : Int))) := by
        rw [hE1, hab, Bool.and_true]
      refine ⟨_, rfl, b1, _, rfl, .inr (same_tup s4 _ _ s1'), 1, fs.length, rfl, by rw [k1], _, rfl, b2, _, rfl, .inr (same_tup s4 _ _ s2'), _, as.length, rfl, by rw [k2], 2, _, rfl, rfl, by decide, ?_⟩
      refine ⟨_, rfl, b3, _, rfl, .inr (same_tup s4 _ _ s3'), _, rfl, b1, _, rfl, .inr (same_tup s4 _ _ s1'), rfl, ?_⟩
      refine ⟨_, rfl, ?_⟩
      by_cases hnl2 : ns.length = fs.length
      · rw [show decide (V.int ((x3.length : Nat) : Int) = V.int ((x1.length : Nat) : Int)) = true from decide_eq_true (by rw [k3, k1, hnl2])]
        refine iteT ?_
        rw [decide_eq_true hnl2, Bool.true_and] at hE2
        refine ⟨_, rfl, _, rfl, catA_read (same_tup s4 _ _ s3') (same_tup s4 _ _ s4') (line200 (by omega)) fun cA H5 s5 _ sc => ?_⟩
        have s45 := s4.trans s5
        have dcat : DpAll K H5 (x3 ++ x4) (ns ++ os) := dps_app (dps_stay (same_tup s45) _ _ d3 n2) (dps_stay (same_tup s45) _ _ d4 n3)
        have ncat : noLs (ns ++ os) = true := by rw [noLs_app, n2, n3]; rfl
        refine ⟨cA, rfl, ⟨_, sc⟩, fun D nD => ?_⟩
        refine lc_flt (b := fun d => isI d 0 ((2 * (1 + fs.length + as.length) : Nat) : Int)) nD sc dcat ncat (by rw [List.length_append]; omega) (fun x d2 H1 R s1 dx hm r => ⟨_, rfl, _, rfl, x, d2, _, rfl, dx, noLs_mem ncat _ hm, _, rfl, r _ (Same.refl _)⟩) (fun x => ⟨rfl, rfl⟩) fun H6 zs s6 ez dz => ?_
        refine eq_nil (eq := true) ez dz (filt_noL ncat _) (gd_lay (fun d hd => (List.mem_append.mp hd).elim (gd_mem g2) (gd_mem g3)) (by omega)) fun z nz => ?_
        rw [filt_empty]
        have := q _ (s1.trans ((s45.trans s6).trans (Same.up (o := .lst []) nz)))
        rw [hE2] at this
        exact this
      · rw [show decide (V.int ((x3.length : Nat) : Int) = V.int ((x1.length : Nat) : Int)) = false from decide_eq_false (fun z => hnl2 (by have := V.int.inj z; omega))]
        refine iteF (qf ?_ (s1.trans s4))
        rw [hE2, decide_eq_false hnl2, Bool.false_and]
end
end C1

/-! The law's draws of nets. -/
namespace C1
open PySem PySem.Spec PyProof.Rows L2 SX
abbrev sLawPick : Stmt := topS 24
abbrev sLawLiteral : Stmt := topS 25
abbrev sLawNet : Stmt := topS 26
theorem scLawPick : FnScope ["w", "rows"] ["w", "rows"] (defScope sLawPick) := ⟨rfl, rfl, rfl, by decide +kernel, rfl, by decide +kernel, by decide +kernel⟩
theorem scLawLiteral : FnScope ["w", "many"] ["w", "many"] (defScope sLawLiteral) := ⟨rfl, rfl, rfl, by decide +kernel, rfl, by decide +kernel, by decide +kernel⟩
theorem scLawNet : FnScope ["w", "latches", "ands", "outs", "firsts", "pairs", "k", "one", "many", "nexts", "told"] ["w", "latches", "ands", "outs"] (defScope sLawNet) := ⟨rfl, rfl, rfl, by decide +kernel, rfl, by decide +kernel, by decide +kernel⟩
abbrev NLD : List Str := ["w", "latches", "ands", "outs", "firsts", "pairs", "k", "one", "many", "nexts", "told"]
section
variable {P : Program} {w : World} {K : PySem.W.Frag} {mg : Str → Option Value} {base : Heap} {H H' : Hp}
theorem lc_draw {a l D : Addr} {ds : List Int} {lo : Int} {n : Nat} {te : TE} {σ : L2.St} {wv : List Nat} {j : Nat} {Pk : Nat → Prop} {Qd : Hp → Prop} (nD : H D = none) (W : Wd H a l ds) (hn : n ≤ 500)
    (ht : ∀ i H1 (R : VK), i < n → Kp a H H1 → Wd H1 a l ds → (∀ x H2, Pk x → Kp a H1 H2 → Wd H2 a l ds → R (iV x) H2) → te ((wipe σ wv).set j (some (.int (lo + ((i : Nat) : Int))))) H1 R)
    (hσ : ∀ x, wipe ((wipe σ wv).set j (some x)) wv = wipe σ wv)
    (q : ∀ H' (xs : List Nat), Kp a H H' → Wd H' a l ds → xs.length = n → (∀ x ∈ xs, Pk x) → H' D = some (.lst (xs.map iV)) → Qd H') :
    ∃ W : Nat → Nat → Hp → Prop, (∃ m, W 0 m (upd H D (.lst []))) ∧ ∀ i m H, W i m H →
      ((Itr lo n).stop i H ∧ Qd H) ∨ ((Itr lo n).go i H ∧ ∃ Nx : Hp → Prop, (∀ H', Nx H' → ∃ m', m' < m ∧ W (i + 1) m' H') ∧ ∀ x H', (Itr lo n).yld i H x H' → gName j x (wipe σ wv) H' fun σ2 H2 => wipe σ2 wv = wipe σ wv ∧ tYes σ2 H2 fun b H3 =>
        if b = true then te σ2 H3 fun y H4 => ∃ acc, H4 D = some (.lst acc) ∧ acc.length < sizeLine ∧ Nx (upd H4 D (.lst (acc ++ [y]))) else Nx H3) := by
  obtain ⟨neD, neL⟩ := W.ne2 nD
  refine lc_range (n := n) (fun i H1 => Kp a H H1 ∧ Wd H1 a l ds ∧ ∃ xs : List Nat, xs.length = i ∧ (∀ x ∈ xs, Pk x) ∧ H1 D = some (.lst (xs.map iV))) ⟨Kp.new nD, W.new nD, [], rfl, (fun x h => by cases h), upd_same⟩ (fun i H1 hi h => ?_) (fun H1 h => ?_)
  · obtain ⟨k1, W1, xs, lx, px, e⟩ := h
    refine ⟨hσ _, ?_⟩
    refine ht i H1 (fun y H4 => ∃ acc, H4 D = some (.lst acc) ∧ acc.length < sizeLine ∧ (Kp a H (upd H4 D (.lst (acc ++ [y]))) ∧ Wd (upd H4 D (.lst (acc ++ [y]))) a l ds ∧ ∃ xs : List Nat, xs.length = i + 1 ∧ (∀ x ∈ xs, Pk x) ∧ (upd H4 D (.lst (acc ++ [y]))) D = some (.lst (xs.map iV)))) hi k1 W1 fun x H2 hx k2 W2 => ?_
    refine ⟨_, k2 D _ neD e, by rw [List.length_map]; exact lineS200 (by omega), (k1.trans k2).put nD, W2.put neD neL, xs ++ [x], by rw [List.length_append, lx]; rfl, fun y hy => ?_, ?_⟩
    · rcases List.mem_append.mp hy with h | h
      · exact px y h
      · rw [List.mem_singleton.mp h]
        exact hx
    · rw [upd_same, List.map_append]
      rfl
  · obtain ⟨k1, W1, xs, lx, px, e⟩ := h
    exact q H1 xs k1 W1 lx px e
def spPick (K : PySem.W.Frag) : Sp := fun vs H Q _ => ∃ (a l r : Addr) (ds : List Int) (xs : List V) (es : List PyData), vs = [.ref a, .ref r] ∧ Wd H a l ds ∧ H r = some (.lst xs) ∧ DpAll K H xs es ∧ noLs es = true ∧ 0 < es.length ∧ ∀ H' v d, Kp a H H' → Wd H' a l ds → Dp K H' v d → d ∈ es → Q v H'
theorem ok_pick {f fN : Addr} {fd fdN : FuncData} (F : Fun K "_law_pick" "_law_pick" sLawPick f fd) (B : Gp mg) (GN : FnOk P w K mg base CX0 1 fN fdN ["w", "many"] spNext) (kN : PySem.W.keepIn K (.ref fN) = true) (bN : Binds K fdN ["w", "many"] []) (gN : mg "_law_next" = some (.ref fN)) :
    FnOk P w K mg base CX0 2 f fd ["w", "rows"] (spPick K) := by
  refine F.ok scLawPick (fun vs H Q E h => ?_) (fun cdv A outer s H vs Q E hr h => ?_)
  · obtain ⟨a, l, r, ds, xs, es, rfl, _⟩ := h
    rfl
  · obtain ⟨a, l, r, ds, xs, es, rfl, W, e, de, ne, pos, q⟩ := h
    have lxs := dps_len de
    refine ⟨_, (pss_one (ps_ret (pe_ix ix_list (pv 1) (pe_call GN hr (by rfl) gN kN bN .nil pass0 (pa_cons (pv 0) (pa_cons (pe_callB call_len_seq (by rfl) B.len PySem.boot_len (pa_cons (pv 1) pa_nil)) pa_nil))) (fun _ _ => rfl)))), ?_⟩
    refine ⟨_, rfl, _, rfl, _, rfl, r, _, rfl, .inl (SqL.of e), a, l, ds, _, rfl, by omega, W, fun i H1 hi k1 _ W1 => ?_⟩
    obtain ⟨x, hx⟩ : ∃ x, xs[i]? = some x := ⟨_, List.getElem?_eq_getElem (by omega)⟩
    obtain ⟨d, hd, dx⟩ := dps_get (stay_dps W k1 ne de) hx
    exact ⟨r, _, _, _, rfl, rfl, SqL.of (k1 r _ (wd_lne W e) e), atI_nat hx, q H1 x d k1 W1 dx (List.mem_of_getElem? hd)⟩
def spLiteral : Sp := fun vs H Q _ => ∃ (a l : Addr) (ds : List Int) (many : Nat), vs = [.ref a, iV many] ∧ 0 < many ∧ many ≤ 900 ∧ Wd H a l ds ∧ ∀ x H', x < 2 * many → Kp a H H' → Wd H' a l ds → Q (iV x) H'
theorem ok_lliteral {f fN : Addr} {fd fdN : FuncData} (F : Fun K "_law_literal" "_law_literal" sLawLiteral f fd) (B : Gp mg) (GN : FnOk P w K mg base CX0 1 fN fdN ["w", "many"] spNext) (kN : PySem.W.keepIn K (.ref fN) = true) (bN : Binds K fdN ["w", "many"] []) (gN : mg "_law_next" = some (.ref fN)) :
    FnOk P w K mg base CX0 2 f fd ["w", "many"] spLiteral := by
  refine F.ok scLawLiteral (fun vs H Q E h => ?_) (fun cdv A outer s H vs Q E hr h => ?_)
  · obtain ⟨a, l, ds, many, rfl, _⟩ := h
    rfl
  · obtain ⟨a, l, ds, many, rfl, pos, hm, W, q⟩ := h
    refine ⟨_, (pss_cons (ps_if (pt_cmpR op_eq (pe_call GN hr (by rfl) gN kN bN .nil pass0 (pa_cons (pv 0) (pa_cons (pe_int) pa_nil))) (pe_int) (nomark _)) (pss_one (ps_ret (pe_call GN hr (by rfl) gN kN bN .nil pass0 (pa_cons (pv 0) (pa_cons (pe_op op_mulN (pe_int) (pv 1)) pa_nil))))) pss_nil)
      (pss_one (ps_ret (pe_op op_sub (pe_op op_sub (pe_op op_mulN (pe_int) (pv 1)) (pe_int)) (pe_call GN hr (by rfl) gN kN bN .nil pass0 (pa_cons (pv 0) (pa_cons (pe_callB (call_min2 rfl) (by rfl) B.min (by decide +kernel) (pa_cons (pe_op op_mulN (pe_int) (pv 1)) (pa_cons (pe_int) pa_nil))) pa_nil))))))), ?_⟩
    refine ⟨_, rfl, a, l, ds, 3, rfl, by decide, W, fun r H1 hr1 k1 _ W1 => ⟨rfl, _, rfl, ite2 (fun _ => ?_) (fun _ => ?_)⟩⟩
    · exact ⟨_, rfl, _, rfl, 2, many, rfl, rfl, by decide, a, l, ds, _, rfl, by omega, W1, fun r H2 hr k2 _ W2 => q r H2 (by omega) (k1.trans k2) W2⟩
    · refine ⟨_, rfl, 2, many, rfl, rfl, by decide, _, _, rfl, rfl, _, rfl, _, rfl, 2, many, rfl, rfl, by decide, _, _, rfl, a, l, ds, _, rfl, ?_, W1, fun r H2 hr k2 _ W2 => ⟨_, _, rfl, rfl, ?_⟩⟩
      · split <;> omega
      · have hr' : r < 2 * many := by
          split at hr <;> omega
        show Q (.int (((2 * many : Nat) : Int) - 1 - ((r : Nat) : Int))) H2
        rw [show ((2 * many : Nat) : Int) - 1 - ((r : Nat) : Int) = ((2 * many - 1 - r : Nat) : Int) by omega]
        exact q _ H2 (by omega) (k1.trans k2) W2
def spDrawn (K : PySem.W.Frag) : Sp := fun vs H Q _ => ∃ (a l : Addr) (ds : List Int) (L A O : Nat), vs = [.ref a, iV L, iV A, iV O] ∧ L ≤ 90 ∧ A ≤ 20 ∧ O ≤ 20 ∧ Wd H a l ds ∧ ∀ H' p n, Kp a H H' → Wd H' a l ds → NetOk n → n.firsts.length ≤ 90 → n.ands.length ≤ 20 → n.outs.length ≤ 20 → Dp K H' (.ref p) n.d → Q (.ref p) H'
theorem ok_drawn {f fN fL : Addr} {fd fdN fdL : FuncData} (F : Fun K "_law_net" "_law_net" sLawNet f fd) (B : Gp mg) (GN : FnOk P w K mg base CX0 1 fN fdN ["w", "many"] spNext) (kN : PySem.W.keepIn K (.ref fN) = true) (bN : Binds K fdN ["w", "many"] []) (gN : mg "_law_next" = some (.ref fN))
    (GL : FnOk P w K mg base CX0 2 fL fdL ["w", "many"] spLiteral) (kL : PySem.W.keepIn K (.ref fL) = true) (bL : Binds K fdL ["w", "many"] []) (gL : mg "_law_literal" = some (.ref fL)) : FnOk P w K mg base CX0 3 f fd ["w", "latches", "ands", "outs"] (spDrawn K) := by
  refine F.ok scLawNet (fun vs H Q E h => ?_) (fun cdv A outer s H vs Q E hr h => ?_)
  · obtain ⟨a, l, ds, L, A, O, rfl, _⟩ := h
    rfl
  · obtain ⟨a, l, ds, L, A, O, rfl, hL, hA, hO, W, q⟩ := h
    have nd := scLawNet.nd
    have hr2 := hr
    have hr1 : Room 1 _ := hr.mono (by decide)
    refine ⟨_, (pss_cons (ps_setLc (i := 4) (own := [("k", 6)]) (g := gName 6) (tt := tYes) (te := tCall spNext [] E0 (tCons (tVar 0) (tCons (tC (.int 2)) tNil)))  rfl nd rfl rfl (sw_true rfl rfl rfl (by decide +kernel)) (pi_range1 (by rfl) B.range (pa_cons (pv 1) pa_nil)) (blkOk_by (own := [("k", 6)]) (N := NLD) (sc := defScope sLawNet) (by decide +kernel)) (fun _ _ _ _ _ => pg_name (i := 6) nd rfl (.inl rfl)) (fun _ _ _ _ _ => pts_nil) (fun _ _ _ _ _ => by exact (pe_call GN hr1 (by rfl) gN kN bN .nil pass0 (pa_cons (pv 0) (pa_cons (pe_int) pa_nil)))))
      (pss_cons (ps_set (i := 5) nd rfl (.inl rfl) (pe_lst pa_nil))
      (C8.pss_cut (ps_for PassesOwn.never rfl (pi_range1 (by rfl) B.range (pa_cons (pv 2) pa_nil)) (pg_name (i := 6) nd rfl (.inl rfl)) (pss_cons (ps_set (i := 7) nd rfl (.inl rfl) (pe_call GL hr2 (by rfl) gL kL bL .nil pass0 (pa_cons (pv 0) (pa_cons (pe_op op_addN (pe_op op_addN (pe_int) (pv 1)) (pv 6)) pa_nil))))
      (pss_one (ps_expr (pe_bm PySem.F.plainAttrs_list PySem.F.slot_list_append PySem.F.type_list_append mt_append (pv 5) (pa_cons (pe_tup (pa_cons (pv 7) (pa_cons (pe_call GL hr2 (by rfl) gL kL bL .nil pass0 (pa_cons (pv 0) (pa_cons (pe_op op_addN (pe_op op_addN (pe_int) (pv 1)) (pv 6)) pa_nil))) pa_nil))) pa_nil))))))
      (pss_cons (ps_set (i := 8) nd rfl (.inr rfl) (pe_op op_addN (pe_op op_addN (pe_int) (pv 1)) (pv 2)))
      (pss_cons (ps_setLc (i := 9) (own := [("k", 6)]) (g := gName 6) (tt := tYes) (te := tCall spLiteral [] E0 (tCons (tVar 0) (tCons (tVar 8) tNil)))  rfl nd rfl rfl (sw_true rfl rfl rfl (by decide +kernel)) (pi_range1 (by rfl) B.range (pa_cons (pv 1) pa_nil)) (blkOk_by (own := [("k", 6)]) (N := NLD) (sc := defScope sLawNet) (by decide +kernel)) (fun _ _ _ _ _ => pg_name (i := 6) nd rfl (.inl rfl)) (fun _ _ _ _ _ => pts_nil) (fun _ _ _ _ _ => by exact (pe_call GL hr2 (by rfl) gL kL bL .nil pass0 (pa_cons (pv 0) (pa_cons (pv 8) pa_nil)))))
      (pss_cons (ps_setLc (i := 10) (own := [("k", 6)]) (g := gName 6) (tt := tYes) (te := tCall spLiteral [] E0 (tCons (tVar 0) (tCons (tVar 8) tNil)))  rfl nd rfl rfl (sw_true rfl rfl rfl (by decide +kernel)) (pi_range1 (by rfl) B.range (pa_cons (pv 3) pa_nil)) (blkOk_by (own := [("k", 6)]) (N := NLD) (sc := defScope sLawNet) (by decide +kernel)) (fun _ _ _ _ _ => pg_name (i := 6) nd rfl (.inl rfl)) (fun _ _ _ _ _ => pts_nil) (fun _ _ _ _ _ => by exact (pe_call GL hr2 (by rfl) gL kL bL .nil pass0 (pa_cons (pv 0) (pa_cons (pv 8) pa_nil)))))
      (pss_one (ps_ret (pe_tup (pa_cons (pe_callTy call_tuple_of (by rfl) B.tu (by decide +kernel) (pa_cons (pv 4) pa_nil)) (pa_cons (pe_callTy call_tuple_of (by rfl) B.tu (by decide +kernel) (pa_cons (pv 5) pa_nil)) (pa_cons (pe_callTy call_tuple_of (by rfl) B.tu (by decide +kernel) (pa_cons (pv 9) pa_nil)) (pa_cons (pe_callTy call_tuple_of (by rfl) B.tu (by decide +kernel) (pa_cons (pv 10) pa_nil)) pa_nil))))))))))))), ?_⟩
    refine ⟨_, rfl, _, rfl, by omega, by omega, fun D nD => ?_⟩
    obtain ⟨neD, neDl⟩ := W.ne2 nD
    refine lc_draw (n := L) (Pk := fun x => x < 2) nD W (by omega) (fun i H1 R hi k1 W1 r => ⟨_, rfl, a, l, ds, 2, rfl, by decide, W1, fun x H2 hx k2 _ W2 => r x H2 (by omega) k2 W2⟩) (fun x => rfl) fun H1 fs k1 W1 lfs bfs eD => ?_
    refine ⟨Nat.zero_le _, fun T nT => ?_⟩
    obtain ⟨neT, neTl⟩ := W1.ne2 nT
    refine ⟨fun σ H' => ∃ (y6 y7 : Option V) (tl : List V) (ps : List (Nat × Nat)), σ = [some (.ref a), some (iV L), some (iV A), some (iV O), some (.ref D), some (.ref T), y6, y7, none, none, none] ∧ Kp a H1 H' ∧ Wd H' a l ds ∧ H' T = some (.lst tl) ∧ DpAll K H' tl (ps.map pr) ∧ ps.length = A ∧ ∀ (k : Nat) (p : Nat × Nat), ps[k]? = some p → p.1 < 2 * (1 + L + k) ∧ p.2 < 2 * (1 + L + k), ?_, ?_⟩
    · refine ⟨_, rfl, _, rfl, by omega, by omega, for_range (fun i σ H' => ∃ (y6 y7 : Option V) (tl : List V) (ps : List (Nat × Nat)), σ = [some (.ref a), some (iV L), some (iV A), some (iV O), some (.ref D), some (.ref T), y6, y7, none, none, none] ∧ Kp a H1 H' ∧ Wd H' a l ds ∧ H' T = some (.lst tl) ∧ DpAll K H' tl (ps.map pr) ∧ ps.length = i ∧ ∀ (k : Nat) (p : Nat × Nat), ps[k]? = some p → p.1 < 2 * (1 + L + k) ∧ p.2 < 2 * (1 + L + k)) ⟨none, none, [], [], rfl, Kp.new nT, W1.new nT, upd_same, .nil, rfl, fun k p h => by simp at h⟩ (fun i σ H' hi h => ?_) (fun σ H' h => h)⟩
      obtain ⟨y6, y7, tl, ps, rfl, k2, W2, eT, dT, lp, hp⟩ := h
      have ltl := dps_len dT
      rw [List.length_map] at ltl
      have hi2 : i < A := by omega
      rw [Int.zero_add]
      refine ⟨_, rfl, _, rfl, 1, L, rfl, rfl, _, rfl, _, i, rfl, rfl, a, l, ds, _, rfl, by omega, by omega, W2, fun x H3 hx k3 W3 => ?_⟩
      have eT3 := k3 T _ neT eT
      refine ⟨_, rfl, .inl ⟨rfl, _, SqL.of eT3⟩, _, rfl, _, rfl, _, rfl, 1, L, rfl, rfl, _, rfl, _, i, rfl, rfl, a, l, ds, _, rfl, by omega, by omega, W3, fun y H4 hy k4 W4 => ⟨line200 (show 2 ≤ 1000 by decide), fun p np => ?_⟩⟩
      have k34 := k3.trans (k4.trans (Kp.new (o := .tup [iV x, iV y]) np))
      have W5 := W4.new (o := .tup [iV x, iV y]) np
      have eT5 := k34 T _ neT eT
      refine ⟨T, _, _, rfl, rfl, eT5, lineS200 (by omega), _, _, _, ps ++ [(x, y)], rfl, (k2.trans k34).put nT, W5.put neT neTl, upd_same, ?_, by rw [List.length_append, lp]; rfl, fun k p hkp => ?_⟩
      · rw [List.map_append]
        exact push_dps eT5 (stay_dps W2 k34 (noLs_pr _) dT) (noLs_pr _) (.tup (SqT.of upd_same) (.cons (.int _) (.cons (.int _) .nil))) rfl
      · rcases snoc_cases hkp with ⟨_, h⟩ | ⟨h1, h2⟩
        · exact hp k p h
        · subst h1
          subst h2
          rw [lp]
          exact ⟨hx, hy⟩
    rintro σ H2 ⟨y6, y7, tl, ps, rfl, k2, W2, eT, dT, lp, hp⟩
    refine ⟨_, rfl, 1, L, rfl, rfl, _, rfl, _, A, rfl, rfl, ?_⟩
    refine ⟨_, rfl, _, rfl, by omega, by omega, fun N nN => ?_⟩
    obtain ⟨neN, neNl⟩ := W2.ne2 nN
    refine lc_draw (n := L) (Pk := fun x => x < 2 * (1 + L + A)) nN W2 (by omega) (fun i H1 R hi k1 W1 r => ⟨_, rfl, _, rfl, a, l, ds, _, rfl, by omega, by omega, W1, fun x H2 hx k2 W2 => r x H2 hx k2 W2⟩) (fun x => rfl) fun H3 ns k3 W3 lns bns eN => ?_
    refine ⟨_, rfl, _, rfl, by omega, by omega, fun U nU => ?_⟩
    obtain ⟨neU, neUl⟩ := W3.ne2 nU
    refine lc_draw (n := O) (Pk := fun x => x < 2 * (1 + L + A)) nU W3 (by omega) (fun i H1 R hi k1 W1 r => ⟨_, rfl, _, rfl, a, l, ds, _, rfl, by omega, by omega, W1, fun x H2 hx k2 W2 => r x H2 hx k2 W2⟩) (fun x => rfl) fun H4 os k4 W4 los bos eU => ?_
    have k24 := k3.trans k4
    have k14 := k2.trans k24
    refine ⟨_, rfl, D, _, rfl, .inl ⟨SqL.of (k14 D _ neD eD), fun t1 n1 => ?_⟩⟩
    have g1 : Kp a H4 _ := Kp.new (o := .tup (fs.map iV)) n1
    have V1 := W4.new (o := .tup (fs.map iV)) n1
    refine ⟨_, rfl, T, _, rfl, .inl ⟨SqL.of ((k24.trans g1) T _ neT eT), fun t2 n2 => ?_⟩⟩
    have g2 := g1.trans (Kp.new (o := .tup tl) n2)
    have V2 := V1.new (o := .tup tl) n2
    refine ⟨_, rfl, N, _, rfl, .inl ⟨SqL.of ((k4.trans g2) N _ neN eN), fun t3 n3 => ?_⟩⟩
    have g3 := g2.trans (Kp.new (o := .tup (ns.map iV)) n3)
    have V3 := V2.new (o := .tup (ns.map iV)) n3
    refine ⟨_, rfl, U, _, rfl, .inl ⟨SqL.of (g3 U _ neU eU), fun t4 n4 => ?_⟩⟩
    have g4 := g3.trans (Kp.new (o := .tup (os.map iV)) n4)
    have V4 := V3.new (o := .tup (os.map iV)) n4
    refine ⟨line200 (show 4 ≤ 1000 by decide), fun p np => ?_⟩
    have g5 := g4.trans (Kp.new (o := .tup [.ref t1, .ref t2, .ref t3, .ref t4]) np)
    have V5 := V4.new (o := .tup [.ref t1, .ref t2, .ref t3, .ref t4]) np
    have p4 : Kp a _ _ := Kp.new (a := a) (o := .tup [.ref t1, .ref t2, .ref t3, .ref t4]) np
    have p3 := (Kp.new (a := a) (o := .tup (os.map iV)) n4).trans p4
    have p2 := (Kp.new (a := a) (o := .tup (ns.map iV)) n3).trans p3
    have p1 := (Kp.new (a := a) (o := .tup tl) n2).trans p2
    refine q _ p ⟨fs, ps, ns, os⟩ (k1.trans (k14.trans g5)) V5 ⟨bfs, by show fs.length ≤ 100; omega, by show ps.length ≤ 200; omega, by show ns.length = fs.length; omega, by show os.length ≤ 100; omega, ?_, ?_, ?_⟩ (by show fs.length ≤ 90; omega) (by show ps.length ≤ 20; omega) (by show os.length ≤ 20; omega) (.tup (SqT.of upd_same) (.cons (.tup (SqT.of (p1 t1 _ (W4.fresh n1) upd_same)) (dps_ints _)) (.cons (.tup (SqT.of (p2 t2 _ (V1.fresh n2) upd_same)) ?_) (.cons (.tup (SqT.of (p3 t3 _ (V2.fresh n3) upd_same)) (dps_ints _)) (.cons (.tup (SqT.of (p4 t4 _ (V3.fresh n4) upd_same)) (dps_ints _)) .nil)))))
    · show ∀ (k : Nat) (p : Nat × Nat), ps[k]? = some p → p.1 < 2 * (1 + fs.length + k) ∧ p.2 < 2 * (1 + fs.length + k)
      rw [lfs]
      exact hp
    · show ∀ x ∈ ns, x < 2 * (1 + fs.length + ps.length)
      rw [lfs, lp]
      exact bns
    · show ∀ x ∈ os, x < 2 * (1 + fs.length + ps.length)
      rw [lfs, lp]
      exact bos
    · exact stay_dps W2 (k24.trans g5) (noLs_pr _) dT
end
end C1

set_option maxHeartbeats 4000000
/-! The mathematics of the tokens: the relation Lx (what a text from a place on gives), words that are read whole, texts put together of gaps and words. -/
namespace K0
open PySem SX
abbrev Cs := List Nat
def lets : Cs := (Str.ofString "abcdefghijklmnopqrstuvwxyzABCDEFGHIJKLMNOPQRSTUVWXYZ").cps.toList
def digs : Cs := (Str.ofString "0123456789").cps.toList
def shorts : Cs := (Str.ofString ":;,()[]=+-*&|^~<?").cps.toList
def kwV : List L2.V := [.str "machine", .str "reg", .str "file", .str "rom", .str "at", .str "let", .str "guess", .str "when", .str "wide", .str "part", .str "join"]
def longV : List L2.V := [.str ":=", .str "<<", .str ">>", .str "=="]
def isKw (t : Cs) : Bool := L2.inV (.str (S t)) kwV
def isLong (t : Cs) : Bool := L2.inV (.str (S t)) longV
def goesOn (c : Nat) : Bool := decide (c ∈ lets) || (decide (c ∈ digs) || decide (c = 95))
def isNum (t : Cs) : Bool := match t with
  | [] => false
  | c :: r => if c = 48 ∧ r ≠ [] then false else (c :: r).all fun d => decide (d ∈ digs)
def small (t : Cs) : Option Nat := if t.length ≤ 10 ∧ isNum t = true then (if NumText.digitsVal t < 4294967296 then some (NumText.digitsVal t) else none) else none
def litOk (v wd : Nat) : Bool := decide (1 ≤ wd) && (decide (wd ≤ 32) && decide (v < 2 ^ wd))
abbrev KP := Str × PyData
def numTok (t : Cs) : Option KP :=
  let p := Txt.partition (S t) (S [119])
  if p.2.1 = S [] then (small p.1.cps.toList).map fun v => ("number", .int (v : Nat))
  else match small p.1.cps.toList, small p.2.2.cps.toList with
    | some v, some wd => if litOk v wd = true then some ("literal", .tuple [.int (v : Nat), .int (wd : Nat)]) else none
    | _, _ => none
def tokOf (t : Cs) : Option KP := match t with
  | [] => none
  | c :: _ => if c ∈ digs then numTok t else if c ∈ lets then (if isKw t = true then some ("keyword", .str (S t)) else some ("name", .str (S t))) else some ("sign", .str (S t))
def tokLen (s : Cs) : Option Nat := match s with
  | [] => none
  | h :: t => if h ∈ lets ∨ h ∈ digs then some (1 + (t.takeWhile goesOn).length)
    else if isLong ((h :: t).take 2) = true then some 2 else if h ∈ shorts then some 1 else none
def mk (kp : KP) (r c : Int) : PyData := .tuple [.str kp.1, kp.2, .int r, .int c]
inductive Out | ok (ts : List PyData) | bad (isChar : Bool) (r c : Int)
inductive Lx : Cs → Int → Int → List PyData → Out → Prop
  | nil {r c acc} : Lx [] r c acc (.ok (acc ++ [mk ("end", .str (S [])) r c]))
  | nl {s r c acc o} : Lx s (r + 1) 1 acc o → Lx (10 :: s) r c acc o
  | sp {s r c acc o} : Lx s r (c + 1) acc o → Lx (32 :: s) r c acc o
  | rem {s r c acc o} : Lx (s.dropWhile fun x => decide (x ≠ 10)) r (c + 1 + ((s.takeWhile fun x => decide (x ≠ 10)).length : Int)) acc o → Lx (35 :: s) r c acc o
  | tok {h t r c acc o n kp} : h ≠ 10 → h ≠ 32 → h ≠ 35 → tokLen (h :: t) = some n → tokOf ((h :: t).take n) = some kp → Lx ((h :: t).drop n) r (c + (n : Int)) (acc ++ [mk kp r c]) o → Lx (h :: t) r c acc o
  | badnum {h t r c acc n} : h ≠ 10 → h ≠ 32 → h ≠ 35 → tokLen (h :: t) = some n → tokOf ((h :: t).take n) = none → Lx (h :: t) r c acc (.bad false r c)
  | badch {h t r c acc} : h ≠ 10 → h ≠ 32 → h ≠ 35 → tokLen (h :: t) = none → Lx (h :: t) r c acc (.bad true r c)
/-- what may stand behind a word -/
inductive Stop : Cs → Prop
  | nil : Stop []
  | sp {s} : Stop (32 :: s)
  | nl {s} : Stop (10 :: s)
  | rem {s} : Stop (35 :: s)
def Good (t : Cs) (kp : KP) : Prop := t.length ≤ 40 ∧ ∀ rest r c acc o, Stop rest → Lx rest r (c + (t.length : Int)) (acc ++ [mk kp r c]) o → Lx (t ++ rest) r c acc o
def Bad (t : Cs) (b : Bool) : Prop := t.length ≤ 40 ∧ ∀ rest r c acc, Stop rest → Lx (t ++ rest) r c acc (.bad b r c)
inductive WordOk (t : Cs) (kp : KP) : Prop
  | good : kp.1 ≠ "bad" → Good t kp → WordOk t kp
  | bad (b : Bool) : kp = ((("bad" : Str), PyData.bool b) : KP) → Bad t b → WordOk t kp

theorem stop_take {rest : Cs} (h : Stop rest) : rest.takeWhile goesOn = [] := by
  cases h with
  | nil => rfl
  | sp => exact List.takeWhile_cons_of_neg (by decide +kernel)
  | nl => exact List.takeWhile_cons_of_neg (by decide +kernel)
  | rem => exact List.takeWhile_cons_of_neg (by decide +kernel)
theorem run_take {t rest : Cs} (h : ∀ c ∈ t, goesOn c = true) (hs : Stop rest) : (t ++ rest).takeWhile goesOn = t := by
  rw [List.takeWhile_append_of_pos h, stop_take hs, List.append_nil]
theorem start_ne {h : Nat} (e : h ∈ lets ∨ h ∈ digs) : h ≠ 10 ∧ h ≠ 32 ∧ h ≠ 35 := by
  refine ⟨?_, ?_, ?_⟩ <;> (rintro rfl; revert e; decide +kernel)
/-- a word that begins with a letter or a digit -/
theorem run_len {h : Nat} {t rest : Cs} (e : h ∈ lets ∨ h ∈ digs) (hg : ∀ c ∈ t, goesOn c = true) (hs : Stop rest) : tokLen (h :: (t ++ rest)) = some (1 + t.length) := by
  unfold tokLen
  simp only []
  rw [if_pos e, run_take hg hs]
theorem good_run {h : Nat} {t : Cs} {kp : KP} (e : h ∈ lets ∨ h ∈ digs) (hg : ∀ c ∈ t, goesOn c = true) (hl : t.length ≤ 39) (hk : tokOf (h :: t) = some kp) : Good (h :: t) kp := by
  refine ⟨by rw [List.length_cons]; omega, fun rest r c acc o hs hL => ?_⟩
  show Lx (h :: (t ++ rest)) _ _ _ _
  obtain ⟨n1, n2, n3⟩ := start_ne e
  have ht : (h :: (t ++ rest)).take (1 + t.length) = h :: t := by
    rw [Nat.add_comm 1 t.length, List.take_succ_cons, List.take_left]
  have hd : (h :: (t ++ rest)).drop (1 + t.length) = rest := by
    rw [Nat.add_comm 1 t.length, List.drop_succ_cons, List.drop_left]
  refine Lx.tok n1 n2 n3 (run_len e hg hs) (by rw [ht]; exact hk) ?_
  rw [hd]
  have el : ((h :: t).length : Int) = ((1 + t.length : Nat) : Int) := by rw [List.length_cons, Nat.add_comm 1 t.length]
  rw [el] at hL
  exact hL
theorem bad_run {h : Nat} {t : Cs} (e : h ∈ lets ∨ h ∈ digs) (hg : ∀ c ∈ t, goesOn c = true) (hl : t.length ≤ 39) (hk : tokOf (h :: t) = none) : Bad (h :: t) false := by
  refine ⟨by rw [List.length_cons]; omega, fun rest r c acc hs => ?_⟩
  show Lx (h :: (t ++ rest)) _ _ _ _
  obtain ⟨n1, n2, n3⟩ := start_ne e
  have ht : (h :: (t ++ rest)).take (1 + t.length) = h :: t := by
    rw [Nat.add_comm 1 t.length, List.take_succ_cons, List.take_left]
  exact Lx.badnum n1 n2 n3 (run_len e hg hs) (by rw [ht]; exact hk)
/-- the same by computation, for a word that is written out -/
def runChk (t : Cs) (kp : Option KP) : Bool := match t with
  | [] => false
  | h :: r => (decide (h ∈ lets) || decide (h ∈ digs)) && (r.all goesOn && (decide (r.length ≤ 39)))
theorem chk_parts {t : Cs} (h : runChk t none = true) : ∃ c r, t = c :: r ∧ (c ∈ lets ∨ c ∈ digs) ∧ (∀ x ∈ r, goesOn x = true) ∧ r.length ≤ 39 := by
  cases t with
  | nil => cases h
  | cons c r =>
    have h' : ((decide (c ∈ lets) || decide (c ∈ digs)) && (r.all goesOn && (decide (r.length ≤ 39)))) = true := h
    rw [Bool.and_eq_true, Bool.and_eq_true, Bool.or_eq_true, decide_eq_true_eq, decide_eq_true_eq, decide_eq_true_eq, List.all_eq_true] at h'
    exact ⟨c, r, rfl, h'.1, h'.2.1, h'.2.2⟩
theorem word_run {t : Cs} {kp : KP} (h : runChk t none = true) (hk : tokOf t = some kp) (hb : kp.1 ≠ "bad") : WordOk t kp := by
  obtain ⟨c, r, rfl, e, hg, hl⟩ := chk_parts h
  exact .good hb (good_run e hg hl hk)
theorem word_badrun {t : Cs} (h : runChk t none = true) (hk : tokOf t = none) : WordOk t (("bad", .bool false) : KP) := by
  obtain ⟨c, r, rfl, e, hg, hl⟩ := chk_parts h
  exact .bad false rfl (bad_run e hg hl hk)
/-- a sign: not a letter, not a digit; what stands behind makes no longer one of it -/
def signChk (h : Nat) : Bool := !decide (h ∈ lets) && (!decide (h ∈ digs) && (!isLong [h] && (!isLong [h, 32] && (!isLong [h, 10] && (!isLong [h, 35] && (!decide (h = 10) && (!decide (h = 32) && !decide (h = 35))))))))
theorem sign_len {h : Nat} {rest : Cs} (hc : signChk h = true) (hs : Stop rest) : tokLen (h :: rest) = if h ∈ shorts then some 1 else none := by
  unfold signChk at hc
  simp only [Bool.and_eq_true, Bool.not_eq_true', decide_eq_false_iff_not] at hc
  obtain ⟨h1, h2, h3, h4, h5, h6, _⟩ := hc
  have hl : isLong ((h :: rest).take 2) = false := by
    cases hs with
    | nil => exact h3
    | sp => exact h4
    | nl => exact h5
    | rem => exact h6
  unfold tokLen
  simp only []
  rw [if_neg (fun z => z.elim h1 h2), hl]
  rfl
theorem sign_ne {h : Nat} (hc : signChk h = true) : h ≠ 10 ∧ h ≠ 32 ∧ h ≠ 35 := by
  unfold signChk at hc
  simp only [Bool.and_eq_true, Bool.not_eq_true', decide_eq_false_iff_not] at hc
  exact ⟨hc.2.2.2.2.2.2.1, hc.2.2.2.2.2.2.2.1, hc.2.2.2.2.2.2.2.2⟩
theorem sign_tok {h : Nat} {t : Cs} (h1 : h ∉ lets) (h2 : h ∉ digs) : tokOf (h :: t) = some (("sign", .str (S (h :: t))) : KP) := by
  unfold tokOf
  simp only []
  rw [if_neg h2, if_neg h1]
theorem word_short {h : Nat} (hc : signChk h = true) (hm : h ∈ shorts) : WordOk [h] (("sign", .str (S [h])) : KP) := by
  obtain ⟨n1, n2, n3⟩ := sign_ne hc
  have hc' := hc
  unfold signChk at hc'
  simp only [Bool.and_eq_true, Bool.not_eq_true', decide_eq_false_iff_not] at hc'
  refine .good (show ("sign" : Str) ≠ "bad" by decide) ⟨(by decide : 1 ≤ 40), fun rest r c acc o hs hL => ?_⟩
  refine Lx.tok (n := 1) n1 n2 n3 ((sign_len hc hs).trans (if_pos hm)) (sign_tok hc'.1 hc'.2.1) ?_
  exact hL
theorem word_badch {h : Nat} (hc : signChk h = true) (hm : h ∉ shorts) : WordOk [h] (("bad", .bool true) : KP) := by
  obtain ⟨n1, n2, n3⟩ := sign_ne hc
  exact .bad true rfl ⟨(by decide : 1 ≤ 40), fun rest r c acc hs => Lx.badch n1 n2 n3 ((sign_len hc hs).trans (if_neg hm))⟩
theorem word_long {a b : Nat} (h1 : a ∉ lets) (h2 : a ∉ digs) (h3 : isLong [a, b] = true) (hn : a ≠ 10 ∧ a ≠ 32 ∧ a ≠ 35) : WordOk [a, b] (("sign", .str (S [a, b])) : KP) := by
  refine .good (show ("sign" : Str) ≠ "bad" by decide) ⟨(by decide : 2 ≤ 40), fun rest r c acc o hs hL => ?_⟩
  refine Lx.tok (n := 2) hn.1 hn.2.1 hn.2.2 ?_ (sign_tok (t := [b]) h1 h2) ?_
  · show tokLen (a :: b :: rest) = some 2
    unfold tokLen
    simp only []
    rw [if_neg (fun z => z.elim h1 h2)]
    show (if isLong [a, b] = true then some 2 else _) = _
    rw [if_pos h3]
  · exact hL
/-! numbers -/
theorem dig_iff {c : Nat} : (48 ≤ c ∧ c ≤ 57) → c ∈ digs := by
  rintro ⟨h1, h2⟩
  have : ∀ d : Nat, d < 58 → 48 ≤ d → d ∈ digs := by decide +kernel
  exact this c (by omega) h1
theorem num_head {n : Nat} (h : 0 < n) : ∃ c r, TL.numL n = c :: r ∧ c ≠ 48 := by
  induction n using Nat.strongRecOn with
  | _ n ih =>
    by_cases h10 : n < 10
    · exact ⟨48 + n, [], TL.numL_lt h10, by omega⟩
    · obtain ⟨c, r, e, hc⟩ := ih (n / 10) (by omega) (by omega)
      refine ⟨c, r ++ [48 + n % 10], ?_, hc⟩
      rw [TL.numL_step (by omega), e]
      rfl
theorem num_isNum (n : Nat) : isNum (TL.numL n) = true := by
  have hd := TL.numL_digits n
  have key : ∀ t : Cs, (∃ c r, t = c :: r ∧ ¬(c = 48 ∧ r ≠ [])) → (∀ x ∈ t, x ∈ digs) → isNum t = true := by
    rintro t ⟨c, r, rfl, hc⟩ hx
    unfold isNum
    simp only []
    rw [if_neg hc, List.all_eq_true]
    intro x hx'
    exact decide_eq_true (hx x hx')
  refine key _ ?_ fun x hx => dig_iff (hd x hx)
  by_cases h0 : n = 0
  · subst h0
    exact ⟨48, [], TL.numL_lt (by decide), fun z => z.2 rfl⟩
  · obtain ⟨c, r, e, hc⟩ := num_head (n := n) (by omega)
    exact ⟨c, r, e, fun z => hc z.1⟩
theorem small_num {n : Nat} (h : n < 4294967296) : small (TL.numL n) = some n := by
  unfold small
  rw [if_pos ⟨TL.numL_len (by decide) (by omega), num_isNum n⟩, TL.numL_val, if_pos h]
theorem num_noW (n : Nat) : (119 : Nat) ∉ TL.numL n := TL.numL_free (by omega)
theorem num_tok {n : Nat} (h : n < 4294967296) : numTok (TL.numL n) = some (("number", .int (n : Nat)) : KP) := by
  have e : Txt.partition (S (TL.numL n)) (S [119]) = (S (TL.numL n), Str.empty, Str.empty) := TL.partition_none (y := S [119]) (s := 119) (S := []) rfl (num_noW n)
  unfold numTok
  simp only [e]
  rw [if_pos (by rfl)]
  show (small (TL.numL n)).map _ = _
  rw [small_num h]
  rfl
theorem lit_tok {v wd : Nat} (h1 : 1 ≤ wd) (h2 : wd ≤ 32) (h3 : v < 2 ^ wd) : numTok (TL.numL v ++ 119 :: TL.numL wd) = some (("literal", .tuple [.int (v : Nat), .int (wd : Nat)]) : KP) := by
  have e : Txt.partition (S (TL.numL v ++ 119 :: TL.numL wd)) (S [119]) = (S (TL.numL v), S [119], S (TL.numL wd)) := by
    have e1 : S (TL.numL v ++ 119 :: TL.numL wd) = S (TL.numL v) ++ S [119] ++ S (TL.numL wd) := by
      rw [S_cat, S_cat, List.append_assoc]
      rfl
    rw [e1]
    exact TL.partition_app (y := S [119]) (s := 119) (S := []) rfl (num_noW v)
  have hv : v < 4294967296 := Nat.lt_of_lt_of_le h3 (Nat.pow_le_pow_right (by decide) h2)
  unfold numTok
  simp only [e]
  rw [if_neg (by decide)]
  show (match small (TL.numL v), small (TL.numL wd) with
    | some v, some wd => if litOk v wd = true then some ((("literal" : Str), PyData.tuple [.int (v : Nat), .int (wd : Nat)]) : KP) else none
    | _, _ => none) = _
  rw [small_num hv, small_num (by omega : wd < 4294967296)]
  have hk : litOk v wd = true := by
    unfold litOk
    rw [decide_eq_true h1, decide_eq_true h2, decide_eq_true h3]
    rfl
  simp only []
  rw [if_pos hk]
theorem dig_goes {c : Nat} (h : c ∈ digs) : goesOn c = true := by
  unfold goesOn
  rw [decide_eq_true h]
  simp
theorem num_cons (n : Nat) : ∃ c r, TL.numL n = c :: r ∧ c ∈ digs ∧ ∀ x ∈ r, x ∈ digs := by
  have hd := TL.numL_digits n
  have hn := TL.numL_ne n
  cases e : TL.numL n with
  | nil => exact absurd e hn
  | cons c r =>
    rw [e] at hd
    exact ⟨c, r, rfl, dig_iff hd.head, fun x hx => dig_iff (hd.tail x hx)⟩
theorem word_num {n : Nat} (h : n < 4294967296) : WordOk (TL.numL n) (("number", .int (n : Nat)) : KP) := by
  obtain ⟨c, r, e, hc, hr⟩ := num_cons n
  have hk := num_tok h
  have hl : (TL.numL n).length ≤ 10 := TL.numL_len (by decide) (by omega)
  rw [e] at hk hl ⊢
  rw [List.length_cons] at hl
  refine .good (show ("number" : Str) ≠ "bad" by decide) (good_run (.inr hc) (fun x hx => dig_goes (hr x hx)) (by omega) ?_)
  unfold tokOf
  simp only []
  rw [if_pos hc]
  exact hk
theorem word_lit {v wd : Nat} (h1 : 1 ≤ wd) (h2 : wd ≤ 32) (h3 : v < 2 ^ wd) : WordOk (TL.numL v ++ 119 :: TL.numL wd) (("literal", .tuple [.int (v : Nat), .int (wd : Nat)]) : KP) := by
  obtain ⟨c, r, e, hc, hr⟩ := num_cons v
  obtain ⟨c2, r2, e2, hc2, hr2⟩ := num_cons wd
  have hv : v < 4294967296 := Nat.lt_of_lt_of_le h3 (Nat.pow_le_pow_right (by decide) h2)
  have hk := lit_tok h1 h2 h3
  have hl : (TL.numL v).length ≤ 10 := TL.numL_len (by decide) (by omega)
  have hl2 : (TL.numL wd).length ≤ 10 := TL.numL_len (by decide) (by omega)
  rw [e] at hk hl ⊢
  rw [e2] at hk hl2 ⊢
  rw [List.length_cons] at hl hl2
  have hw : goesOn 119 = true := by decide +kernel
  refine .good (show ("literal" : Str) ≠ "bad" by decide) (good_run (t := r ++ 119 :: c2 :: r2) (.inr hc) (fun x hx => ?_) (by rw [List.length_append, List.length_cons, List.length_cons]; omega) ?_)
  · rcases List.mem_append.mp hx with h | h
    · exact dig_goes (hr x h)
    · rcases List.mem_cons.mp h with h | h
      · rw [h]; exact hw
      · rcases List.mem_cons.mp h with h | h
        · rw [h]; exact dig_goes hc2
        · exact dig_goes (hr2 x h)
  · show tokOf (c :: (r ++ 119 :: c2 :: r2)) = _
    unfold tokOf
    simp only []
    rw [if_pos hc]
    exact hk
end K0

set_option maxHeartbeats 4000000
/-! all(..) of a generator expression over a text whose element reads a global. -/
namespace K0G
open PySem PySem.Spec PyProof.Rows L2 GxR
/-- the element is a test of one sign; it may read the module's names -/
def EltM (X : Cx) (sc : Scope) (x : Str) (elt : Expr) (pb : Nat → Bool) : Prop :=
  ∀ (ce : Env) (B : Around) (Z : Value → Shared → Prop) (c : Nat) (t : Tok) (s2 : Shared) (m2 : Str → Option Value),
    ce.scope = sc → ce.globals = mainGlobals → s2.heap.Ns mainGlobals X.mg → s2.heap.Ns ce.locals m2 → m2 x = some (.str ⟨#[c]⟩ t) →
      wpAny (model X.prog X.w) B (eval elt ce) (fun y s3 => y = .bool (pb c) ∧ Keeps s2 s3) Z s2
/-- x in NAME, NAME a text of the module -/
theorem elt_in {X : Cx} {sc : Scope} {x y : Str} {z : Str} {u : Tok} {p1 p2 p3 : Pos} (hk : sc.kind = .function) (hx : sc.names.lookup x = some .local) (hy : sc.names.lookup y = some .globalImplicit)
    (hg : X.mg y = some (.str z u)) (dx : (x == ("__debug__" : Str)) = false) (dy : (y == ("__debug__" : Str)) = false) :
    EltM X sc x (.Compare (.Name x p1) [.In] [.Name y p2] p3) (fun c => decide (c ∈ z.cps.toList)) := by
  intro ce B Z c t s2 m2 hsc hgl hG hL hm
  have kx : ce.kindOf x = some .local := by
    show ce.scope.names.lookup x = _
    rw [hsc]
    exact hx
  have ky : ce.kindOf y = some .globalImplicit := by
    show ce.scope.names.lookup y = _
    rw [hsc]
    exact hy
  have kf : ce.scope.kind = .function := by
    rw [hsc]
    exact hk
  refine wpAny_Compare1 (wpAny_Name (wpAny_loadName_local kf kx hL hm ?_) dx)
  refine Calls.Name_function_global kf ky (Calls.loadGlobal_global (mg := X.mg) (by rw [hgl]; exact hG) hg ?_) dy
  exact in_str ⟨congrArg Value.bool (PySem.StrLaws.found_one z c), keeps_refl _⟩
theorem pe_allM {X : Cx} {c P : Addr} {elt iter : Expr} {x : Str} {px p pos gpos : Pos} {sc : Scope} {pb : Nat → Bool} {te : TE} {k : Nat}
    (hr : Room k X.A) (hg : Gl X "all") (hm : X.mg "all" = none) (hb : bootBuiltins "all" = some (.builtin "all"))
    (TB : TabB X.base X.mg c P) (hc : X.env.code = .ref c) (S : GenS X.env sc x) (hi : PE X iter te) (hel : EltM X sc x elt pb)
    (hs : ∀ v, genFold iter X.env v = pure v)
    (he : starEach [.GeneratorExp elt [⟨.Name x px, iter, [], 0⟩] sc gpos] X.env = (false, eval (.GeneratorExp elt [⟨.Name x px, iter, [], 0⟩] sc gpos) X.env) :: starEach [] X.env := by rfl) :
    PE X (.Call (.Name "all" p) [.GeneratorExp elt [⟨.Name x px, iter, [], 0⟩] sc gpos] [] pos) (tAllS P pb te) := by
  refine ⟨fun pins s σ H Q I h => ?_⟩
  refine wpAny_Call_Name_kw (ld_blt I hg hm hb (callWith_builtin1 ?_ he (by rfl)))
  rw [he]
  refine Calls.spliced_cons ?_
  refine wpAny_GeneratorExp_walksQ hr.hd S.co (closure_ok S.free) S.cell S.dot S.loc S.kind (by have := hr.dp; omega) ?_ hs
  refine thn (hi.run pins s σ H _ I h) fun xv s1 w1 => ?_
  obtain ⟨v, H1, I1, r1, a, ev, ⟨ps, hP, ht⟩, hQ⟩ := w1
  subst ev
  obtain ⟨t, rfl⟩ := r1
  refine wpAny_pyIter_str fun ob Sg Wk hSg => ?_
  -- the table's object, the walked text's iterator
  have tab1 : s1.heap.get? P = some { cls := .none, data := .fields ps } := I1.hok P _ hP
  have below : ∀ {b : Addr} {u : Obj}, s1.heap.get? b = some u → b < s1.heap.objs.size := fun e => Heap.lt_size e
  have tab2 : (s1.heap.push ob).get? P = some { cls := .none, data := .fields ps } := Heap.get?_push_of_some _ tab1
  have hd := TB.code.keeps (h' := s1.heap.push ob) fun b u e => Heap.get?_push_of_some _ (I1.bk b u e)
  have glob2 : (s1.heap.push ob).Ns mainGlobals X.mg := (I1.mod.glob.keeps I1.bk).push ob
  have lim2 : (s1.heap.push ob).NoLimit := I1.nolimit.push ob
  have stat : cStatics < s1.heap.objs.size ∧ cStatics ≠ P := by
    obtain ⟨m, hn, _⟩ := I1.nolimit
    refine ⟨hn.lt, fun z => ?_⟩
    obtain ⟨o, es, ep, e, d, _⟩ := hn
    rw [z, tab1] at e
    cases e
    cases d
  have size2 : (s1.heap.push ob).objs.size = s1.heap.objs.size + 1 := Heap.size_push ..
  refine ⟨lim2, ?_⟩
  -- both ways: the expression's code is made now, or was made before
  have both : ∀ (R : Value → Shared → Prop), (∀ (cv : Value) (h3 : Heap) (tk : Nat) (more : Array Value), Heap.ExtBut P (s1.heap.push ob) h3 → s1.heap.objs.size < h3.objs.size →
      h3.get? P = some { cls := .none, data := .fields (ps ++ more) } → TriplesOk (ps ++ more).toList → R cv { s1 with heap := h3, toks := tk }) →
      wpAny (model X.prog X.w) X.A (genexprCode X.env gpos (X.env.qual ++ "<genexpr>") sc) R X.xe { s1 with heap := s1.heap.push ob } := by
    intro R hR
    cases q : codeAmong gpos ps.toList with
    | none =>
      refine wpAny_genexprCodeX hc (hd.code tab2 ht) (hd.tab tab2) q fun c2 h2 tk ext ge lt isC _ isT _ => ?_
      obtain ⟨_, _, _, _, _, _, _, _, _, _, _, _, _, _, _, _, _, _, _, trip, _⟩ := isC
      refine hR _ h2 tk _ ext ?_ isT.2 trip
      have ge' : s1.heap.objs.size + 1 ≤ c2 := by
        rw [← size2]
        exact ge
      exact Nat.lt_of_lt_of_le (Nat.lt_of_succ_le ge') (Nat.le_of_lt lt)
    | some cv =>
      refine wpAny_genexprCode_hit hc (hd.code tab2 ht) q (hR cv (s1.heap.push ob) s1.toks #[] (Heap.ExtBut.refl _ _) (by rw [size2]; exact Nat.lt_succ_self _) ?_ ?_)
      · rw [Array.append_empty]
        exact tab2
      · rw [Array.append_empty]
        exact ht
  refine both _ fun cv h3 tk more ext grow tab3 trip => ?_
  obtain ⟨bm, bo, b1, b2, b3, b4, b5, b6, b7, b8⟩ := TB.bm
  have old3 : ∀ b u, b ≠ P → s1.heap.get? b = some u → h3.get? b = some u := fun b u n e => ext b u n (Heap.get?_push_of_some _ e)
  have glob3 : h3.Ns mainGlobals X.mg := glob2.extBut ext TB.gP
  refine wpAny_builtinsFor (m := X.mg) (by rw [I1.ok.glob]; exact glob3) b1 b2 (old3 bm bo b4 (I1.bk _ _ b5)) b6 b7 b8 ?_
  have notIt : ∀ b u, s1.heap.get? b = some u → b ∉ [s1.heap.objs.size] := fun b u e m => by
    have e1 := List.mem_singleton.mp m
    rw [e1] at e
    exact Nat.lt_irrefl _ (below e)
  refine ⟨s1.heap.objs.size, [s1.heap.objs.size], [s1.heap.objs.size], a.cps.size, SignAt a, Sg, (fun _ => true),
    (fun i y => ∃ cc, a.cps[i]? = some cc ∧ y = .bool (pb cc)), rfl, Wk, ?_, ?_, lim2.extBut ext stat.2, ?_, ?_, ?_⟩
  · exact (Wk X.A hr.hd).frame _ _ _ hSg fun b m u e => ext b u (fun z => notIt P _ tab1 (z ▸ m)) e
  · intro b m
    rw [List.mem_singleton.mp m]
    exact grow
  · exact fun m => Nat.ne_of_lt stat.1 (List.mem_singleton.mp m)
  · intro href hh
    refine ⟨fun B Z i v s2 m2 _ _ _ _ _ => ?_, fun B Z i v s2 m2 _ hv _ hn hmx hk => ?_⟩
    · simp only [List.forIn_nil]
      exact wpAny_pure ⟨rfl, keeps_refl _⟩
    · obtain ⟨cc, u, hcc, rfl⟩ := hv
      have gobj : ∀ o, h3.get? mainGlobals = some o → s2.heap.get? mainGlobals = some o := fun o e =>
        hk mainGlobals (List.mem_range.mpr (Heap.lt_size e)) (by
          have g1 := I1.mod.glob.keeps I1.bk
          obtain ⟨o1, _, _, e1, _⟩ := g1
          exact notIt _ _ e1) o (hh _ _ e)
      refine wpAny_mono (hel _ B Z cc u s2 m2 rfl I1.ok.glob (glob3.at gobj) hn hmx) (fun y s3 r => ⟨⟨cc, hcc, r.1⟩, r.2⟩) fun _ _ e => e
  · intro g h5 tk5 gs bare above size5 keep5 W5 at5
    simp only [GxR.passing_true, List.length_range] at W5
    refine Calls.spliced_nil (call_all_walkS (W5.in4_1.self 0 _ _ _ at5 ⟨g, _, _, _, _, _, _, trF pb a.cps.toList, rfl, W5.in4_1, at5, ?_, fun s' mv => ?_⟩))
    · intro j y sj Qj Ej hy hq
      obtain ⟨i, hij, cc, hcc, rfl⟩ := hy
      obtain ⟨hj, ej⟩ := List.getElem?_eq_some_iff.mp hij
      rw [List.getElem_range] at ej
      subst ej
      have e9 : a.cps.toList[j]? = some cc := by
        rw [Array.getElem?_toList]
        exact hcc
      have hq2 : Qj (trF pb a.cps.toList j) sj := hq
      rw [trF_some e9] at hq2
      exact wpAny_truthy_bool hq2
    · have free : ∀ b u, s1.heap.get? b = some u → b ∉ h3.objs.size :: [s1.heap.objs.size] := fun b u e m => by
        rcases List.mem_cons.mp m with z | z
        · have l := below e
          rw [z] at l
          exact Nat.lt_irrefl _ (Nat.lt_trans l grow)
        · exact notIt b u e z
      have J := inv_tab (more := more) (h' := s'.heap) (g' := s'.gens) (d' := s'.drawn) (t' := s'.toks) I1 hP
        (fun b u n e => mv.heap b u (free b u e) (keep5 b u (old3 b u n e))) (mv.heap P _ (free P _ tab1) (keep5 P _ tab3)) (AllBare.movedS (I1.bare.push bare) mv)
      rw [sh_eta s1 s' mv.os] at J
      refine ⟨.bl _, _, J, rfl, ?_⟩
      rw [all_signs a pb]
      exact hQ _ ⟨⟨ps ++ more, upd_same, trip⟩, fun b n => upd_ne n⟩
end K0G

set_option maxHeartbeats 4000000
/-! try with several clauses «except C as n», one name for all. -/
namespace K0T
open PySem PySem.Spec PyProof.Rows L2
abbrev Suite := Addr → Value → Option Addr → TS
/-- the ends of a suite: behind it the slot of the clause's name is empty -/
abbrev gone (i : Nat) (D : Ends) : Ends := { nx := fun σ H => D.nx (σ.set i none) H, rt := D.rt, bk := fun σ H => D.bk (σ.set i none) H, ct := fun σ H => D.ct (σ.set i none) H }
def wAll (K : PySem.W.Frag) (i : Nat) (Wo : WX) (D : Ends) : List (Value × Suite) → WX
  | [] => Wo
  | (c, ts) :: r => fun cls d σ H => ∃ b, PySem.W.exmOne K cls c = some b ∧ (b = true → ∀ a, H a = none → ts a cls d (gone i D) (σ.set i (some (.ref a))) H) ∧ (b = false → wAll K i Wo D r cls d σ H)
/-- the clauses, each by its class and its suite's reading -/
inductive Cl (X : Cx) (n : Str) : List ExceptHandler → List (Value × Suite) → Prop
  | nil : Cl X n [] []
  | cons {x : Str} {c : Value} {ts : Suite} {st : Stmt} {sts : List Stmt} {np cp : Pos} {r : List ExceptHandler} {l : List (Value × Suite)} : Names X x c →
      (∀ (a : Addr) (oe : Obj) (cls : Value) (d : Option Addr) (pn : List (Addr × Obj)), Zc cls d oe → (∃ vs, oe.data = .fields vs) → PSs (X.suite a ((a, oe) :: pn)) (st :: sts) (ts a cls d)) →
      Cl X n r l → Cl X n (.ExceptHandler (some (.Name x np)) (some n) (st :: sts) cp :: r) ((c, ts) :: l)
theorem no_frame {B h : Heap} {L : List Env} {a : Addr} {o : Obj} {vs : Array Value} (ff : h.FunFrames B L) (e : h.get? a = some o) (d : o.data = .fields vs) : a ∉ frs L := fun hm => by
  obtain ⟨_, o2, e2, hn⟩ := ff.mem hm
  rw [e] at e2
  cases e2
  exact hn _ d
section
variable {X : Cx} {n : Str} {i : Nat} {body : List Stmt} {h₀ : ExceptHandler} {hds : List ExceptHandler} {l : List (Value × Suite)} {pos : Pos} {tb : WX → TS} {Wo : WX}
theorem ps_try_ases (hs : X.stack = X.env :: X.outer) (hf : X.env.frame = some X.env.locals) (hN : X.N.Nodup) (hi : X.N[i]? = some n) (hln : X.env.kindOf n = some .local) (tk : Takes X Wo)
    (hb : ∀ (W : WX) (pn : List (Addr × Obj)) (xe : Value → Shared → Prop), Takes (X.tr pn xe) W → PassesOwn (model X.prog X.w) X.A X.env xe → PSs (X.tr pn xe) body (tb W))
    (hh : Cl X n (h₀ :: hds) l) : PS X (.Try body (h₀ :: hds) [] [] pos) (fun D σ H => tb (wAll X.K i Wo D l) D σ H) := by
  refine ⟨fun pins s σ H D I h => ?_⟩
  have ok := I.ok
  have frm : X.A.frames = some (X.env :: X.outer) := by
    rw [ok.frames, hs]
  refine wpAny_Try_except (wpAny_mono ((hb _ (X.pn ++ pins) _ (fun u s1 caught => ?_) PassesOwn.looking).run [] s σ H D (I.toTry _) h) (fun f s1 q => ?_) fun _ _ z => z)
  · obtain ⟨a, B, sI, p2, σ2, H2, cls, d, rfl, J0, nb, up, sky, na, os, ag, w⟩ := caught
    have J := J0.ofTry ok
    show wpAny (model X.prog X.w) X.A (noteFrame (.ref a) X.env) _ _ _
    refine Sky.land Zc.steady frm hf (by rw [← hs]; exact sky) fun h3 fl up3 => ?_
    have J3 : Inv X pins σ2 H2 { s1 with heap := h3 } := J.landed nb fl.1 (up.trans up3) os ag
    obtain ⟨oe, vs, he, hz, hd⟩ := fl.there
    have nfr := no_frame fl.2.2.1 he hd
    have nL : a ≠ X.env.locals := fun z => nfr (List.mem_filterMap.mpr ⟨X.env, List.mem_cons_self, by rw [hf, z]⟩)
    have nF : a ∉ X.fs := fun hm => by
      obtain ⟨e, h1, h2⟩ := List.mem_filterMap.mp hm
      exact nfr (List.mem_filterMap.mpr ⟨e, List.mem_cons_of_mem _ h1, h2⟩)
    have S3 := J3.suite he hd na nL nF
    have go : ∀ (hs2 : List ExceptHandler) (l2 : List (Value × Suite)), Cl X n hs2 l2 → wAll X.K i Wo D l2 cls d σ2 H2 →
        wpAny (model X.prog X.w) X.A (handleBy (.ref a) X.env hs2) (SP X pins D) X.xe { s1 with heap := h3 } := by
      intro hs2 l2 hc
      induction hc with
      | nil =>
        intro w2
        refine wpAny_handleBy_nil ?_
        obtain ⟨_, _, _, o5, v5, T, _, _, e5, _, d5, t5, _⟩ := id fl
        unfold PySem.passOn
        refine wpAny_bind (wpAny_field e5 d5 t5 ?_)
        rw [if_neg (show ¬ ((Value.ref T == Value.none) = true) from by simp)]
        have out : wpAny (model X.prog X.w) X.A (setFlight (.ref a) X.env.frame) (fun _ s4 => wpAny (model X.prog X.w) X.A (throw (.ref a) : Sem Flow) (SP X pins D) X.xe s4) X.xe { s1 with heap := h3 } := by
          rw [hf]
          exact HandSPX.setFlight_upZ fl fun h4 g4 up4 => wpAny_throw (tk _ _ ⟨a, B, sI, pins, σ2, H2, cls, d, rfl, J, nb, (up.trans up3).trans up4, .inr (.inr (by rw [hs]; exact g4)), na, os, ag, w2⟩)
        first
          | exact wpAny_bind (wpAny_pure (wpAny_bind out))
          | exact wpAny_bind out
      | @cons x c ts st sts np cp r2 l3 hnm hsu _ ih =>
        intro w2
        obtain ⟨b, hb1, yes, no⟩ := w2
        refine wpAny_handleBy_cons (codeAny_handlers_test ?_) (fun q => nomatch q)
        have look := PySem.W.exm_one (M := model X.prog X.w) J3.kIn (fun A Q E s k q => wpAny_typeOf_ref (k _ _ he) (by rw [hz.1]; exact q)) hb1
        have cname : ∀ {Q E : Value → Shared → Prop}, Q c { s1 with heap := h3 } → wpAny (model X.prog X.w) (X.A.mark (some (.ref a))) (eval (.Name x np) X.env) Q E { s1 with heap := h3 } := fun {Q E} q => by
          obtain ⟨hg, dbg, hm | ⟨hm, hv, hnn⟩⟩ := hnm
          · exact ld_glob (X := X.suite a ((a, oe) :: (X.pn ++ pins))) S3 hg hm q dbg
          · exact ld_blt (X := X.suite a ((a, oe) :: (X.pn ++ pins))) S3 hg hm hv q hnn dbg
        refine cname (look.here ?_)
        cases b with
        | false => exact ih (no rfl)
        | true =>
          refine codeAny_handlers_suite_as (HandSPX.lands_againZ fl fun h4 fl4 up4 => ?_)
          have J4 : Inv X pins σ2 H2 { s1 with heap := h4 } := J.landed nb fl4.1 ((up.trans up3).trans up4) os ag
          obtain ⟨o4, v4, e4, z4, d4⟩ := fl4.there
          refine store_ok (X := X.suite a ((a, o4) :: (X.pn ++ pins))) (v := .ref a) (J4.suite e4 d4 na nL nF) hN hi (.inl hln) rfl (fun s5 S5 => ?_) (.inr hln)
          refine wpAny_mono ((hsu a o4 cls d (X.pn ++ pins) z4 ⟨_, d4⟩).run [] s5 _ H2 _ S5 (yes rfl a na)) (fun f s6 q6 => ?_) fun _ _ z => False.elim z
          have leave : ∀ {σ6 : L2.St} {H6 : Hp} {Q : Shared → Prop}, Inv (X.suite a ((a, o4) :: (X.pn ++ pins))) [] σ6 H6 s6 → (∀ s7, Inv X pins (σ6.set i none) H6 s7 → Q s7) →
              wpAny (model X.prog X.w) X.A (do bindName X.env n .none; unbindBehindTheSuite X.env n cp) (fun _ s7 => Q s7) X.xe s6 := fun {σ6 H6 Q} S6 hq => gone_ok (S6.unsuite ok) hN hi hln hq
          cases f with
          | next => exact let ⟨σ6, H6, S6, q⟩ := q6; leave S6 fun s7 J7 => ⟨_, _, J7, q⟩
          | brk => exact let ⟨σ6, H6, S6, q⟩ := q6; leave S6 fun s7 J7 => ⟨_, _, J7, q⟩
          | cont => exact let ⟨σ6, H6, S6, q⟩ := q6; leave S6 fun s7 J7 => ⟨_, _, J7, q⟩
          | ret u => exact let ⟨v6, σ6, H6, S6, r6, q⟩ := q6; leave S6 fun s7 J7 => ⟨_, _, _, J7, r6, q⟩
    exact go _ _ hh w
  · cases f with
    | next => exact let ⟨σ2, H2, J, q2⟩ := q; wpAny_execs_nil ⟨σ2, H2, J.ofTry ok, q2⟩
    | brk => exact let ⟨σ2, H2, J, q2⟩ := q; ⟨σ2, H2, J.ofTry ok, q2⟩
    | cont => exact let ⟨σ2, H2, J, q2⟩ := q; ⟨σ2, H2, J.ofTry ok, q2⟩
    | ret u => exact let ⟨v, σ2, H2, J, r, q2⟩ := q; ⟨v, σ2, H2, J.ofTry ok, r, q2⟩
end
end K0T

set_option maxHeartbeats 4000000
/-! B.__init__(self, ..), B an own error class without an __init__ of its own; isinstance of a caught error that has fields. -/
namespace K0E
open PySem PySem.Spec PyProof.Rows L2
theorem pe_baseinit {X : Cx} {e : Expr} {es : List Expr} {ta : TA} {x : Str} {C : Addr} {mc : Value} {p1 p2 pos : Pos} {pl : Sem Bool} (hg : Gl X x) (hm : X.mg x = some (.ref C)) (dx : (x == ("__debug__" : Str)) = false)
    (h1 : PySem.W.specialIn X.K (.ref C) "__getattribute__" = some (some (.builtin "type.__getattribute__"))) (h2 : PySem.W.readsIn X.K C mc = true)
    (h3 : PySem.W.findCls X.K (.ref C) mc "__init__" = some (.val (.builtin "ValueError.__init__"))) (ha : PA X (e :: es) ta)
    (hc : eval (.Call (.Attribute (.Name x p1) "__init__" p2) (e :: es) [] pos) X.env = (do
      let ov ← eval (.Name x p1) X.env
      standAt p2.atName
      let (f, first) ← holding [ov] (getMethod ov "__init__" pl)
      callWith pos f first (backTo pos (starEach (e :: es) X.env)) (backToKw pos (keywordEach [] X.env))) := by rfl)
    (he : starEach (e :: es) X.env = (false, eval e X.env) :: starEach es X.env := by rfl) (hpl : (backTo pos (starEach es X.env)).any (·.1) = false := by rfl) :
    PE X (.Call (.Attribute (.Name x p1) "__init__" p2) (e :: es) [] pos) (tVeI X.K ta) := by
  refine ⟨fun pins s σ H Q I h => ?_⟩
  refine PySem.W.methodCall_KW (ld_glob I hg hm (PySem.W.method_cls I.kIn h1 (PySem.W.cls_value I.kIn h2 h3 (by decide +kernel) ?_)) dx) hc
  show wpAny _ _ (callWith pos (Value.builtin "ValueError.__init__") [] (backTo pos (starEach (e :: es) X.env)) []) _ _ _
  refine callWith_method1 (thn (ha.run pos pins _ σ H _ (I.tok _) h) fun us s1 w => ?_) he hpl
  obtain ⟨vs, H1, I1, r1, a, D, ws, ev, hl, T, ea, q⟩ := w
  subst ev
  cases r1 with
  | @cons _ u0 _ ur ra rw' =>
    obtain rfl : u0 = Value.ref a := ra
    refine oinit_ok T I1 ea ?_ fun s2 J => ⟨.non, H1, J, rfl, q⟩
    rw [← Paired.length rw', sizeLine_eq]
    exact Nat.le_trans hl (by decide)
/-- isinstance(e, c), e the error that the suite holds (its class D, its dict d) -/
def rIsF (K : PySem.W.Frag) (D a : Addr) (d : Option Addr) : List V → Hp → VK → Prop := fun xs H Q =>
  ∃ (c : V) (cv : Value) (b : Bool) (dd : Addr) (fs : List (Str × V)), xs = [.ref a, c] ∧ (∀ u, RelV c u → u = cv) ∧ PySem.W.kitOne K (.ref D) cv = some b ∧ d = some dd ∧ H dd = some (.xd fs) ∧ Q (.bl b) H
theorem call_isF {X : Cx} {a D : Addr} {oe : Obj} {d : Option Addr} {pn : List (Addr × Obj)} (C : ExcC X.K D) (hz : Zc (.ref D) d oe) (hf : ∃ vs, oe.data = .fields vs) : CallR (X.suite a ((a, oe) :: pn)) (.builtin "isinstance") (rIsF X.K D a d) := by
  intro pins s σ H xs us Q I r h
  obtain ⟨c, cv, b, dd, fs, rfl, hcv, e, ed, ex, q⟩ := h
  obtain ⟨vs, hv⟩ := hf
  obtain ⟨hget, _⟩ := I.pin (a, oe) (List.mem_append.mpr (.inl List.mem_cons_self))
  have hx : ObjOk X.prog X.w H s.heap dd (.xd fs) := I.hok dd _ ex
  obtain ⟨mA, hns, _⟩ := hx
  obtain ⟨od, ho, _⟩ := lookIn_ns hns
  subst ed
  have J : PySem.W.InstAt s.heap a oe D (some od) := ⟨hget, hz.1, by unfold PySem.W.notCls; rw [hv] <;> rfl, by rw [hz.2]; exact ho⟩
  cases r with
  | cons rx rr =>
    cases rr with
    | cons rt rr =>
      cases rr
      cases rx
      have ec := hcv _ rt
      subst ec
      exact PySem.W.kia_one (PySem.W.kitx_exc (by obtain ⟨cd, hc, _⟩ := PySem.W.any_some C.hd; rw [hc]; rfl) C.hg C.hk C.hs C.ha C.hn C.ht C.hm) I.kIn J e (fun z => nomatch z) fun tk => ⟨.bl b, H, I.kept (t' := tk) fun _ _ z => z, rfl, q⟩
end K0E

/-! a, *b = a list. -/
namespace StR
open PySem PySem.Spec PyProof.Rows L2
section
variable {prog : Program} {w : World} {A : Around}
variable {E : Value → Shared → Prop} {s : Shared}
theorem walks_from (hh : A.handled = none) (it la : Addr) (hne : la ≠ it) (vals : Array Value) (k : Nat) (hk : k ≤ vals.size) :
    Walks prog w A it [it, la] [it] (vals.size - k) (fun i v => vals[k + i]? = some v) (fun i h => h.IsListIter it la (k + i) ∧ h.IsList la vals) :=
  let W := Walks.list (prog := prog) (w := w) hh it la hne vals
  { sub := W.sub
    frame := fun i h h' q f => W.frame (k + i) h h' q f
    item := fun i s Q E hi q hQ => W.item (k + i) s Q E (by omega) q hQ
    done := fun s Q E q hQ => W.done s Q E (by
      have h := q
      rw [Nat.add_sub_cancel' hk] at h
      exact h) hQ
    self := fun i s Q E q hQ => W.self (k + i) s Q E q hQ }
theorem items_drop {vals acc : Array Value} {k : Nat} (hk : k ≤ vals.size) (h : ItemsOf (fun i v => vals[k + i]? = some v) acc (vals.size - k)) : acc.toList = vals.toList.drop k := by
  obtain ⟨h1, h2⟩ := h
  refine List.ext_getElem? fun i => ?_
  rw [List.getElem?_drop]
  rw [Array.getElem?_toList, Array.getElem?_toList]
  by_cases hi : i < acc.size
  · have e : acc[i]? = some acc[i] := Array.getElem?_eq_getElem hi
    rw [e]
    exact (h2 i _ e).symm
  · rw [Array.getElem?_eq_none (by omega), Array.getElem?_eq_none (by omega)]
theorem unpack_star {la : Addr} {vals : Array Value} {k : Nat} {Q : List Value → Shared → Prop} (hh : A.handled = none) (isl : s.heap.IsList la vals) (hk : k ≤ vals.size) (hz : vals.size ≤ sizeLine)
    (hQ : ∀ (hp : Heap) (tk : Nat), (∀ b o, s.heap.get? b = some o → hp.get? b = some o) → s.toks ≤ tk →
      Q (vals.toList.take k ++ [.ref hp.objs.size]) { s with heap := hp.push { cls := .type "list", data := .seq (vals.toList.drop k).toArray }, toks := tk }) :
    wpAny (model prog w) A (unpackItems (.ref la) (k + 1) (some k)) Q E s := by
  have hlt : la ≠ s.heap.objs.size := by
    obtain ⟨o, there, _⟩ := isl
    exact Nat.ne_of_lt (Heap.lt_size there)
  unfold unpackItems
  refine wpAny_bind ?_
  unfold notIterableAtAll
  refine wpAny_bind (wpAny_specialOf isl.typeIs slot_list_iter.lookup ?_)
  refine wpAny_pure ?_
  simp only [if_false, Bool.false_eq_true]
  refine wpAny_bind (wpAny_holding (wpAny_pyIter_list isl ?_))
  refine wpAny_bind (wpAny_holding (PySem.W.kun_draw hlt k 0 _ _ ⟨_, Heap.get?_push_size _ rfl, rfl, rfl⟩ (isl.push _) (by omega) fun h1 it1 sb1 => ?_))
  have l1 : h1.IsList la vals := (isl.push _).extBut sb1.extBut hlt
  have up1 : ∀ b o, s.heap.get? b = some o → h1.get? b = some o := fun b o e => sb1.extBut b o (Nat.ne_of_lt (Heap.lt_size e)) (Heap.get?_push_of_some _ e)
  have lt1 : (vals.toList.take k).length = k := by
    rw [List.length_take, Array.length_toList]
    omega
  rw [List.drop_zero, lt1, if_neg (Nat.lt_irrefl k)]
  have it1' : h1.IsListIter s.heap.objs.size la k := by
    have h := it1
    rw [Nat.zero_add] at h
    exact h
  refine wpAny_bind (wpAny_holding (wpAny_collect_iter (.inr (.inr (.inl rfl))) (walks_from (A := A.in1) hh s.heap.objs.size la hlt vals k hk).toS (fun i s2 q => ?_) ⟨it1', l1⟩ (fun b mb => ?_) (List.mem_cons_self ..) (fun s2 acc mv ac => ?_) (by omega)))
  · obtain ⟨⟨o, e, c, _⟩, _⟩ := q
    exact ⟨o, e, c⟩
  · rcases List.mem_cons.mp mb with rfl | mb
    · obtain ⟨o, e, _⟩ := it1'
      exact Heap.lt_size e
    · rw [List.mem_singleton.mp mb]
      obtain ⟨o, e, _⟩ := l1
      exact Heap.lt_size e
  · have ea := items_drop hk ac
    rw [ea]
    obtain ⟨hp2, gs2, dd2, tk2, os2⟩ := s2
    obtain ⟨m1, m2, m3, m4, m5⟩ := mv
    dsimp only at m1 m2 m3 m4 m5
    subst m2 m3 m4
    rw [if_neg (by omega)]
    refine wpAny_bind (wpAny_newList (wpAny_pure ?_) ?_)
    · have e0 : k + 1 - 1 - k = 0 := by omega
      rw [e0, Nat.sub_zero, List.take_length, List.drop_length, List.append_nil]
      exact hQ hp2 tk2 (fun b o e => m1 b o (by rw [List.mem_singleton]; exact Nat.ne_of_lt (Heap.lt_size e)) (up1 b o e)) m5
    · rw [List.length_take, List.length_drop, Array.length_toList]
      omega
end
/-- n names, then a starred one, = a list -/
def gStar (K : PySem.W.Frag) (n : Nat) (t : TGs) : TG := fun v σ H Q => ∃ a xs, v = .ref a ∧ SqL K H a xs ∧ n ≤ xs.length ∧ ∀ p, H p = none → t (xs.take n ++ [.ref p]) σ (upd H p (.lst (xs.drop n))) Q
section
variable {X : Cx} {pos : Pos}
theorem pgs_last {e : Expr} {np : Pos} {t : TG} {u : TGs} (h1 : PG X e t) (h2 : PGs X [] u) : PGs X [.Starred e np] (gCons t u) := by
  refine ⟨fun pins t0 σ H vs us Q I rel q => ?_⟩
  obtain ⟨v, vr, e1, q⟩ := q
  subst e1
  cases rel with
  | cons r0 rr =>
    show wpAny _ _ (assignInOrder (assign e X.env :: (assignEach [] X.env).map (·.2)) _) _ _ _
    refine assignInOrder_cons (thn (h1.run pins t0 σ H _ _ _ I r0 q) fun _ t1 ⟨σ1, H1, I1, q1⟩ => ?_)
    exact h2.run pins t1 σ1 H1 _ _ Q I1 rr q1
theorem pg_star {es : List Expr} {k : Nat} {t : TGs} {n : Nat} (hc : X.calm = true) (h : PGs X es t)
    (hn : (assignEach es X.env).length = n + 1 := by rfl) (hst : (assignEach es X.env).findIdx? (·.1) = some n := by rfl) : PG X (.Tuple es k pos) (gStar X.K n t) := by
  refine ⟨fun pins s σ H v u Q I rel q => ?_⟩
  obtain ⟨a, xs, e1, sq, isl, q⟩ := q
  subst e1
  cases rel
  obtain ⟨its, rv, pl, hz⟩ := I.list sq
  have hlen : its.length = xs.length := rv.length.symm
  rw [PyProof.Rows.assign_Tuple]
  refine wpAny_bind (wpAny_standAt ?_)
  unfold unpack
  rw [hn, hst]
  refine wpAny_bind (wpAny_holding (unpack_star (I.ok.hd hc) pl.isList (by rw [List.size_toArray, hlen]; exact isl) (by rw [List.size_toArray, hlen]; exact hz) fun hp tk up ht => ?_))
  have I1 : Inv X pins σ H { s with heap := hp, toks := tk } := I.kept fun b o e => up b o e
  have hf : H hp.objs.size = none := I1.hok.fresh (Nat.le_refl _)
  have I2 : Inv X pins σ (upd H hp.objs.size (.lst (xs.drop n))) { s with heap := hp.push { cls := .type "list", data := .seq (its.toArray.toList.drop n).toArray }, toks := tk } := by
    refine I1.laid (t' := tk) (fun b u e => Heap.get?_push_of_some _ e) (Nat.le_refl _) ?_
    exact ⟨by rw [List.length_drop]; omega, its.drop n, 0, Vals.drop n rv, Heap.get?_push_size _ rfl⟩
  refine h.run pins _ σ _ (xs.take n ++ [.ref hp.objs.size]) _ Q I2 ?_ (q _ hf)
  exact (Vals.take n rv).append (.cons rfl .nil)
end
end StR

/-! s * n, sum of a tuple. -/
namespace RuS
open PySem PySem.Spec PyProof.Rows L2
section
variable {X : Cx}
abbrev rRepS : R2 := fun x y H Q => ∃ (a : Str) (k : Int), x = .str a ∧ y = .int k ∧ MulOk a k ∧ Q (.str (Txt.mul a k)) H
theorem op_repS : OpR X (binaryOp .Mult) rRepS := by
  intro pins s σ H x y v u Q I rx ry h
  obtain ⟨a, k, rfl, rfl, ok, q⟩ := h
  obtain ⟨t, rfl⟩ := rx
  obtain ⟨t2, rfl⟩ := ry
  exact SB.mul ok fun t' tk => ⟨.str _, H, I.tok _, ⟨_, rfl⟩, q⟩
abbrev rSumT (K : PySem.W.Frag) : List V → Hp → VK → Prop := fun vs H Q => ∃ (a : Addr) (ns : List Int), vs = [V.ref a] ∧ SqT K H a (ns.map V.int) ∧ Q (.int ns.sum) H
theorem cr_sumT (hc : X.calm = true) : CallR X (.builtin "sum") (rSumT X.K) := by
  intro pins s σ H vs us Q I r h
  obtain ⟨a, ns, rfl, hs, q⟩ := h
  obtain ⟨its, rv, hl, _⟩ := I.tuple hs
  rw [Vals.ref1 r]
  have hi := rv.ints
  obtain ⟨xs, hx⟩ := hi.allInts.items
  have hn : numsOf its.toArray.toList = ns := by rw [show its.toArray.toList = its from rfl, hi.numsOf]
  rw [hx] at hl hn
  rw [nums_intItems] at hn
  refine PySem.W.ktm_sumG (I.ok.hd hc) hl fun h' tk t' hk => ?_
  rw [preSum_eq, List.take_of_length_le (by simp), hn]
  exact ⟨.int _, H, I.kept hk, ⟨_, rfl⟩, q⟩
theorem mul_one (n : Nat) : (Txt.mul ⟨#[48]⟩ ((n : Nat) : Int)).cps.toList = List.replicate n 48 := by
  have fold : ∀ (m : Nat) (acc : Array Nat), ((List.replicate m (#[48] : Array Nat)).foldl (· ++ ·) acc).toList = acc.toList ++ List.replicate m 48 := fun m => by
    induction m with
    | zero =>
      intro acc
      show acc.toList = acc.toList ++ []
      rw [List.append_nil]
    | succ m ih =>
      intro acc
      rw [List.replicate_succ, List.foldl_cons, ih, Array.toList_append, List.append_assoc]
      rfl
  unfold Txt.mul
  by_cases h1 : ((n : Nat) : Int) < 1
  · rw [if_pos h1]
    obtain rfl : n = 0 := by omega
    rfl
  · rw [if_neg h1]
    by_cases h2 : n = 1
    · subst h2
      rfl
    · rw [if_neg]
      · show ((List.replicate ((n : Nat) : Int).toNat (#[48] : Array Nat)).foldl (· ++ ·) #[]).toList = _
        rw [fold, Int.toNat_natCast]
        rfl
      · rw [Bool.or_eq_true, not_or]
        refine ⟨fun z => h2 (by have := beq_iff_eq.mp z; omega), fun z => ?_⟩
        have : ((⟨#[48]⟩ : Str).length == 0) = false := rfl
        rw [this] at z
        cases z
theorem mul_ok {n : Nat} (h : n ≤ 1000) : MulOk ⟨#[48]⟩ ((n : Nat) : Int) := by
  refine ⟨?_, fun h1 _ => ?_, fun h1 _ => ?_⟩
  · rw [Bool.or_eq_false_iff]
    exact ⟨decide_eq_false (by omega), decide_eq_false (by omega)⟩
  · have e : (((⟨#[48]⟩ : Str).length : Nat) : Int) = 1 := rfl
    rw [e]
    have : (2 ^ 63 - 1 : Int) / ((n : Nat) : Int) ≥ 9223372036854775807 / 1000 := by
      have hn : (0 : Int) < n := by omega
      rw [ge_iff_le, Int.le_ediv_iff_mul_le hn]
      have h3 : (9223372036854775807 / 1000 : Int) * n ≤ (9223372036854775807 / 1000) * 1000 := Int.mul_le_mul_of_nonneg_left (by omega) (by decide)
      omega
    omega
  · have e : (⟨#[48]⟩ : Str).length = 1 := rfl
    rw [e, Nat.one_mul, Int.toNat_natCast]
    exact decide_eq_false (by rw [sizeLine_eq]; omega)
end
end RuS

/-! Numbers in texts; heaps with a table. -/
namespace C1
open PySem PySem.Spec PyProof.Rows L2 SX
open K0 (Cs digs isNum)
open GxR (TabG Tabbed TabB GenS)
abbrev sIsNum : Stmt := topS 3
theorem scIsNum : FnScope ["text"] ["text"] (defScope sIsNum) := ⟨rfl, rfl, rfl, by decide +kernel, rfl, by decide +kernel, by decide +kernel⟩
structure Gr (P : Addr) (H H' : Hp) : Prop where
  tab : TabG H' P
  old : ∀ b o, b ≠ P → H b = some o → H' b = some o
section
variable {P : Addr} {H H1 H2 : Hp}
theorem Gr.refl (t : TabG H P) : Gr P H H := ⟨t, fun _ _ _ e => e⟩
theorem Gr.trans (a : Gr P H H1) (b : Gr P H1 H2) : Gr P H H2 := ⟨b.tab, fun c o n e => b.old c o n (a.old c o n e)⟩
theorem Gr.of (t : Tabbed P H H1) : Gr P H H1 := ⟨t.1, fun b o n e => by rw [t.2 b n]; exact e⟩
theorem tab_ne (t : TabG H P) {p : Addr} (n : H p = none) : p ≠ P := fun z => by
  obtain ⟨ps, e, _⟩ := t
  rw [z, e] at n
  cases n
theorem tab_is (t : TabG H P) {p : Addr} {o : HO} (e : H p = some o) (d : ∀ ps, o ≠ .tbl ps) : p ≠ P := fun z => by
  obtain ⟨ps, e2, _⟩ := t
  rw [z, e2] at e
  exact d ps (Option.some.inj e).symm
theorem Gr.laid (t : TabG H P) {p : Addr} {o : HO} (n : H p = none) : Gr P H (upd H p o) := by
  have np := tab_ne t n
  obtain ⟨ps, e, r⟩ := t
  exact ⟨⟨ps, by rw [upd_ne np.symm]; exact e, r⟩, fun b u _ hb => by rw [upd_ne (ne_of_none hb n)]; exact hb⟩
theorem Gr.at (g : Gr P H H1) (t : TabG H P) {p : Addr} {o : HO} (e : H p = some o) (d : ∀ ps, o ≠ .tbl ps) : H1 p = some o := g.old p o (tab_is t e d) e
theorem Gr.none (g : Gr P H H1) (t : TabG H P) {p : Addr} (n : H1 p = none) : H p = none := by
  have np := tab_ne g.tab n
  cases e : H p with
  | none => rfl
  | some o =>
    rw [g.old p o np e] at n
    cases n
theorem Gr.seqT (g : Gr P H H1) (t : TabG H P) {K : PySem.W.Frag} {a : Addr} {xs : List V} (h : SqT K H a xs) : SqT K H1 a xs := by
  rcases h with (h | ⟨o, h⟩) | h
  · exact .inl (.inl (g.at t h (fun ps z => by cases z)))
  · exact .inl (.inr ⟨o, g.at t h (fun ps z => by cases z)⟩)
  · exact .inr h
theorem Gr.seqL (g : Gr P H H1) (t : TabG H P) {K : PySem.W.Frag} {a : Addr} {xs : List V} (h : SqL K H a xs) : SqL K H1 a xs := by
  rcases h with (h | ⟨o, h⟩) | h
  · exact .inl (.inl (g.at t h (fun ps z => by cases z)))
  · exact .inl (.inr ⟨o, g.at t h (fun ps z => by cases z)⟩)
  · exact .inr h
end
theorem beq_S (a b : Cs) : (V.str (S a) = V.str (S b)) ↔ a = b := ⟨fun e => S_inj (V.str.inj e), fun e => by rw [e]⟩
theorem at_S {t : Cs} {i : Nat} {c : Nat} (h : t[i]? = some c) : atI (S t).cps.toList ((i : Nat) : Int) = some c := atI_nat (j := i) h
theorem len_S {t : Cs} (h : t.length ≤ sizeLine) : (S t).length ≤ sizeLine := by
  rw [S_len]
  exact h
theorem dec_sig {c k : Nat} {x : Str} (hx : x = S [k]) : decide (V.str ⟨#[c]⟩ = V.str x) = decide (c = k) := by
  subst hx
  by_cases h : c = k
  · subst h
    rw [decide_eq_true rfl, decide_eq_true rfl]
  · rw [decide_eq_false h, decide_eq_false (fun z => h (by
      have z2 := S_inj (a := [c]) (b := [k]) (V.str.inj z)
      exact (List.cons.inj z2).1))]
theorem dec_S {a b : Cs} {x : Str} (hx : x = S b) : decide (V.str (S a) = V.str x) = decide (a = b) := by
  subst hx
  by_cases h : a = b
  · subst h
    rw [decide_eq_true rfl, decide_eq_true rfl]
  · rw [decide_eq_false h, decide_eq_false (fun z => h (S_inj (V.str.inj z)))]
theorem of_sig {c k : Nat} {x : Str} (hx : x = S [k]) (e : decide (V.str ⟨#[c]⟩ = V.str x) = true) : c = k := by
  rw [dec_sig hx] at e
  exact of_decide_eq_true e
theorem not_sig {c k : Nat} {x : Str} (hx : x = S [k]) (e : ¬ decide (V.str ⟨#[c]⟩ = V.str x) = true) : c ≠ k := fun z => by
  rw [dec_sig hx, decide_eq_true z] at e
  exact e rfl
theorem noFree : ∀ y ∈ ([((".0" : Str), NameKind.local), ("sign", .local), ("DIGITS", .globalImplicit)] : List (Str × NameKind)), y.2 ≠ .free := by decide +kernel
section
variable {P : Program} {w : World} {K : PySem.W.Frag} {mg : Str → Option Value} {base : Heap} {T : Addr}
def spNum (T : Addr) : Sp := fun vs H Q _ => ∃ t : Cs, vs = [.str (S t)] ∧ t.length ≤ sizeLine ∧ TabG H T ∧ ∀ H', Gr T H H' → Q (.bl (isNum t)) H'
theorem ok_isnum {f cP : Addr} {fd : FuncData} {oc : Value} {od an : Option Addr} {osl : Array (Option Value)} {kV doc pm ct : Value} {tk : Tok}
    (lk : K.lookup f = some ⟨oc, od, .func (PySem.W.fnOf "is_number" "is_number" (defArgs sIsNum) (defBody sIsNum) (defScope sIsNum) .none kV doc pm an (.ref cP) ct), osl⟩) (hcd : PySem.W.codeIn K (.ref cP) "is_number" = true)
    (gD : mg "DIGITS" = some (.str (Str.ofString "0123456789") tk)) (ma : mg "all" = none) (TB : TabB base mg cP T) :
    FnOk P w K mg base CX0 1 f (PySem.W.fnOf "is_number" "is_number" (defArgs sIsNum) (defBody sIsNum) (defScope sIsNum) .none kV doc pm an (.ref cP) ct) ["text"] (spNum T) := by
  refine fn_of lk hcd scIsNum (fun vs H Q E h => ?_) fun A outer s H vs Q E hr h => ?_
  · obtain ⟨t, rfl, _⟩ := h
    rfl
  · obtain ⟨t, rfl, hl, tb, q⟩ := h
    refine ⟨_, pss_cons (ps_if (PW.pt (pw_or (pt_not (pt_truth (pv 0) (by intro _; rfl))) (pw_or1 (PW.pt (pw_and (pt_cmpR op_eq (pe_ix ix_str (pv 0) pe_int (fun _ _ => rfl)) pe_str (nomark _)) (pw_and1 (pt_cmpR op_ne (pv 0) pe_str (nomark _))))))))
        (pss_one (ps_ret pe_bl)) pss_nil)
      (pss_one (ps_ret (K0G.pe_allM (pb := fun c => decide (c ∈ digs)) hr (by rfl) ma (by decide +kernel) TB rfl ⟨rfl, rfl, by decide +kernel, rfl, rfl, fun y hy e => absurd e (noFree y hy)⟩ (pv 0) (K0G.elt_in rfl rfl rfl gD (by decide) (by decide)) (by intro v; rfl)))), ?_⟩
    refine ⟨_, rfl, _, ⟨len_S hl, rfl⟩, ?_⟩
    rw [S_len]
    cases t with
    | nil =>
      refine iteT ?_
      refine iteT ?_
      exact q H (Gr.refl tb)
    | cons c r =>
      have hk : (((c :: r).length : Int) != 0) = true := by
        rw [List.length_cons]
        simp
        omega
      rw [hk]
      refine iteF ?_
      have last : ¬ (c = 48 ∧ r ≠ []) → tRet (GxR.tAllS T (fun c => decide (c ∈ digs)) (tVar 0)) { nx := fun x H' => Q V.non H', rt := Q } (L2.start ["text"] [V.str (S (c :: r))]) H := fun n => by
        refine ⟨_, rfl, S (c :: r), rfl, tb, fun H2 t2 => ?_⟩
        have e := q H2 (Gr.of t2)
        have e2 : isNum (c :: r) = (S (c :: r)).cps.toList.all fun c => decide (c ∈ digs) := if_neg n
        rw [e2] at e
        exact e
      refine ⟨_, rfl, _, _, c, rfl, rfl, len_S hl, at_S (i := 0) rfl, rfl, _, rfl, ite2 (fun e => ?_) (fun e => ?_)⟩
      · have hc := of_sig (k := 48) rfl e
        refine ⟨_, rfl, rfl, _, rfl, ite2 (fun e2 => ?_) (fun e2 => ?_)⟩
        · have hr2 : r ≠ [] := fun z => by
            subst z
            subst hc
            exact absurd e2 (by decide)
          have e3 := q H (Gr.refl tb)
          have e4 : isNum (c :: r) = false := if_pos ⟨hc, hr2⟩
          rw [e4] at e3
          exact e3
        · refine last fun z => ?_
          rw [dec_S (b := [48]) (x := "0") rfl, decide_eq_false (fun y => z.2 (List.cons.inj y).2)] at e2
          exact e2 rfl
      · refine iteF (last fun z => not_sig (k := 48) rfl e z.1)
theorem isNum_all {t : Cs} (h : isNum t = true) : t ≠ [] ∧ t.all (fun c => decide (48 ≤ c) && decide (c ≤ 57)) = true := by
  cases t with
  | nil => cases h
  | cons c r =>
    refine ⟨List.cons_ne_nil _ _, ?_⟩
    unfold isNum at h
    simp only [] at h
    split at h
    · cases h
    · rw [List.all_eq_true] at h ⊢
      intro x hx
      have h1 : x ∈ digs := of_decide_eq_true (h x hx)
      have h2 : ∀ d ∈ digs, (decide (48 ≤ d) && decide (d ≤ 57)) = true := by decide +kernel
      exact h2 x h1
end
end C1

/-! Numbers of a line. -/
namespace C1
open PySem PySem.Spec PyProof.Rows L2 SX
open K0 (Cs digs isNum)
open GxR (TabG Tabbed TabB GenS)
abbrev rIntS : List V → Hp → VK → Prop := fun xs H Q => ∃ (a : Str) (n : Int), xs = [.str a] ∧ PySem.intText? a = some n ∧ a.length ≤ 640 ∧ Q (.int n) H
abbrev cs (x : Str) : Cs := x.cps.toList
structure BT (mg : Str → Option Value) : Prop where
  len : mg "len" = none
  all : mg "all" = none
  tuple : mg "tuple" = none
  int : mg "int" = none
theorem iteF' {b : Bool} {A B : Prop} (hb : b = false) (h : B) : if b = true then A else B := by
  rw [hb]
  exact iteF h
theorem iteT' {b : Bool} {A B : Prop} (hb : b = true) (h : A) : if b = true then A else B := by
  rw [hb]
  exact iteT h
theorem str_at {xs : List Str} {i : Nat} {v : V} (h : (xs.map V.str)[i]? = some v) : ∃ x, xs[i]? = some x ∧ v = .str x := by
  rw [List.getElem?_map] at h
  cases e : xs[i]? with
  | none =>
    rw [e] at h
    cases h
  | some x =>
    rw [e] at h
    cases h
    exact ⟨x, rfl, rfl⟩
def numB (x : Str) : Bool := isNum (cs x)
def numV (x : Str) : Nat := NumText.digitsVal (cs x)
theorem num_int {x : Str} (h : numB x = true) (hl : (cs x).length ≤ 600) : intText? x = some ((numV x : Nat) : Int) ∧ x.length ≤ 640 := by
  obtain ⟨hne, hall⟩ := isNum_all h
  have hi := int_S hall hne (by omega)
  rw [S_tl] at hi
  refine ⟨hi, ?_⟩
  show x.cps.size ≤ 640
  rw [Array.length_toList] at hl
  omega
end C1

/-! The error of a line; lines of a text. -/
namespace C1
open PySem PySem.Spec PyProof.Rows L2 SX
open K0 (Cs digs isNum)
open GxR (TabG Tabbed TabB GenS)
abbrev sInitB : Stmt := L2.inClass (topS 8) 0
abbrev sWhole : Stmt := topS 15
abbrev sTextOf : Stmt := topS 16
theorem scInitB : FnScope ["self", "line"] ["self", "line"] (defScope sInitB) := ⟨rfl, rfl, rfl, by decide +kernel, rfl, by decide +kernel, by decide +kernel⟩
theorem scWhole : FnScope ["text", "lines"] ["text"] (defScope sWhole) := ⟨rfl, rfl, rfl, by decide +kernel, rfl, by decide +kernel, by decide +kernel⟩
/-- an int that is a line's number -/
def Pl (i : Int) : Prop := 0 ≤ i ∧ i < 1000000000
theorem Pl.log {i : Int} (h : Pl i) : i.natAbs.log2 < 1920 := by
  obtain ⟨h1, h2⟩ := h
  by_cases h0 : i.natAbs = 0
  · rw [h0]
    decide
  · exact (Nat.log2_lt h0).mpr (Nat.lt_of_lt_of_le (show i.natAbs < 2 ^ 30 by omega) (Nat.pow_le_pow_right (by decide) (by decide)))
theorem Pl.len {i : Int} (h : Pl i) : (Str.ofString (toString i)).length ≤ 9 := PyProof.Rows.toString_length_le h.1 (by decide) (by have := h.2; omega)
theorem app_len (a b : Str) : (a ++ b).length = a.length + b.length := by
  show (a.cps ++ b.cps).size = _
  rw [Array.size_append]
  rfl
def fsL (n : Int) : List (Str × V) := [("line", .int n)]
section
variable {P : Program} {w : World} {K : PySem.W.Frag} {mg : Str → Option Value} {base : Heap} {T : Addr}
def spInitB (K : PySem.W.Frag) : Sp := fun vs H Q _ => ∃ (a C : Addr) (n : Int), vs = [.ref a, .int n] ∧ OexC K C ∧ PySem.W.findIn K (.ref C) "line" = some none ∧ Pl n ∧
  H a = some (exo a C none) ∧ ∀ dx H', H dx = none → dx ≠ a → H' a = some (exo a C (some dx)) → H' dx = some (exd dx (fsL n)) → (∀ b, b ≠ a → b ≠ dx → H' b = H b) → Q .non H'
theorem ok_initB {f C0 : Addr} {fd : FuncData} (F : Fun K "__init__" "BadLine.__init__" sInitB f fd) (g0 : mg "CutError" = some (.ref C0)) (h1 : PySem.W.specialIn K (.ref C0) "__getattribute__" = some (some (.builtin "type.__getattribute__")))
    (h2 : PySem.W.readsIn K C0 (.type "type") = true) (h3 : PySem.W.findCls K (.ref C0) (.type "type") "__init__" = some (.val (.builtin "ValueError.__init__"))) :
    FnOk P w K mg base CX0 1 f fd ["self", "line"] (spInitB K) := by
  refine F.ok scInitB (fun vs H Q E h => ?_) (fun cdv A outer s H vs Q E hr h => ?_)
  · obtain ⟨a, C, n, rfl, _⟩ := h
    rfl
  · obtain ⟨a, C, n, rfl, O, n1, p1, ea, q⟩ := h
    refine ⟨_, pss_cons (ps_expr (K0E.pe_baseinit (mc := .type "type") (by rfl) g0 (by decide) h1 h2 h3 (pa_cons (pv 0) (pa_cons (pe_joined (PJ.cons pe_str (PJ.cons (pe_fmt (pv 1)) PJ.nil))) pa_nil))))
      (pss_one (ps_ost (pv 0) (pv 1))), ?_⟩
    have l1 : (Str.empty ++ ("line " : Str)).length = 5 := by decide +kernel
    have e1 := p1.len
    have big : (100 : Nat) ≤ sizeLine := by
      rw [sizeLine_eq]
      decide
    refine ⟨_, rfl, _, rfl, Nat.le_trans (Nat.le_of_eq l1) (by omega), _, rfl, .inr ⟨_, rfl, p1.log, _, rfl, ?_, ?_⟩⟩
    · rw [app_len, l1]
      omega
    · refine ⟨a, C, _, rfl, (by show 1 ≤ 1000; decide), O, ea, ?_⟩
      refine ⟨_, rfl, _, rfl, a, C, rfl, O, n1, .inl ⟨ea, fun dx nd ne => ?_⟩⟩
      exact q dx _ nd ne upd_same (by rw [upd_ne ne]; exact upd_same) fun b na nb => by rw [upd_ne na, upd_ne nb]
/-- what the written part says of BadLine -/
structure ErrB (K : PySem.W.Frag) (mg : Str → Option Value) (C fI : Addr) : Prop where
  o : OexC K C
  iC : PySem.W.findIn K (.ref C) "__init__" = some (some (.ref fI))
  nL : PySem.W.findIn K (.ref C) "line" = some none
  g : mg "BadLine" = some (.ref C)
theorem raise_line {C fI : Addr} {n : Int} {H : Hp} {Qx : XK} (R : ErrB K mg C fI) (p1 : Pl n) (q : ∀ d H', Same H H' → H d = none → H' d = some (.xd (fsL n)) → Qx (.ref C) (some d) H') :
    ∀ a, H a = none → spInitB K (.ref a :: ([.int n] ++ [])) (upd H a (exo a C none))
      (fun v H2 => v = .non ∧ ∃ (d : Addr) (fs : List (Str × V)), H2 a = some (exo a C (some d)) ∧ H2 d = some (exd d fs) ∧ H d = none ∧ Qx (.ref C) (some d) (upd (del H2 a) d (.xd fs))) (fun _ _ _ => False) := by
  intro a na
  refine ⟨a, C, n, rfl, R.o, R.nL, p1, upd_same, fun dx H2 nd ne e1 e2 e3 => ?_⟩
  have nd' : H dx = none := by
    rw [upd_ne ne] at nd
    exact nd
  refine ⟨rfl, dx, _, e1, e2, nd', q dx _ (fun b o e => ?_) nd' upd_same⟩
  have n1 : b ≠ a := ne_of_none e na
  have n2 : b ≠ dx := ne_of_none e nd'
  rw [upd_ne n2, del_ne n1, e3 b n1 n2, upd_ne n1]
  exact e
/-! lines of a text -/
abbrev nlS : Str := Str.ofString "\n"
def splitL (x : Str) : List Str := Txt.split x nlS
def wholeB (x : Str) : Bool := decide ((splitL x).getLast? = some (Str.ofString "")) && !decide ((splitL x).length = 1)
def spWhole (K : PySem.W.Frag) (C : Addr) : Sp := fun vs H Q E => ∃ x : Str, vs = [.str x] ∧ x.cps.size ≤ 100000 ∧
  (wholeB x = true → ∀ H' p, Same H H' → H p = none → H' p = some (.lst ((splitL x).dropLast.map V.str)) → Q (.ref p) H') ∧
  (wholeB x = false → ∀ H' d, Same H H' → H' d = some (.xd (fsL (splitL x).length)) → E (.ref C) (some d) H')
theorem cnt_bd (c : Nat) : ∀ l : List Nat, 0 ≤ PyProof.Rows.cnt c l ∧ PyProof.Rows.cnt c l ≤ (l.length : Int)
  | [] => ⟨Int.le_refl 0, Int.le_refl 0⟩
  | n :: r => by
    have h := cnt_bd c r
    rw [PyProof.Rows.cnt_cons, List.length_cons]
    by_cases e : n = c
    · rw [if_pos e]
      omega
    · rw [if_neg e]
      omega
theorem split_cnt (x : Str) : ((splitL x).length : Int) = 1 + PyProof.Rows.cnt 10 x.cps.toList := PyProof.Rows.split_len x 10
theorem split_len (x : Str) : (splitL x).length ≤ x.cps.size + 1 := by
  have h1 := split_cnt x
  have h2 := (cnt_bd 10 x.cps.toList).2
  rw [Array.length_toList] at h2
  omega
theorem split_pos (x : Str) : 0 < (splitL x).length := by
  have h1 := split_cnt x
  have h2 := (cnt_bd 10 x.cps.toList).1
  omega
theorem ok_whole {f C fI : Addr} {fd fdI : FuncData} (F : Fun K "whole_lines" "whole_lines" sWhole f fd) (B : BT mg) (R : ErrB K mg C fI) (tI : PySem.W.typeIn K (.ref fI) = some (.type "function")) (GI : FnOk P w K mg base CX0 1 fI fdI ["self", "line"] (spInitB K)) (bI : Binds K fdI ["self", "line"] []) :
    FnOk P w K mg base (L2.CX P w) 3 f fd ["text"] (spWhole K C) := by
  refine F.okX scWhole (fun vs H Q E h => ?_) (fun cdv A outer s H vs Q E hr h => ?_)
  · obtain ⟨x, rfl, _⟩ := h
    rfl
  · obtain ⟨x, rfl, hx, q, qe⟩ := h
    have nd := scWhole.nd
    refine ⟨_, pss_cons (ps_set (i := 1) nd rfl (.inl rfl) (pe_split (pv 0) pe_str))
      (C8.pss_cut (ps_if (PW.pt (pw_or (pt_cmpR op_ne (pe_ix ix_list (pv 1) (pe_un un_neg pe_int) (fun _ _ => rfl)) pe_str (nomark _)) (pw_or1 (pt_cmpR op_eq (pe_callB call_len_seq (by rfl) B.len PySem.boot_len (pa_cons (pv 1) pa_nil)) pe_int (nomark _)))))
        (pss_one (ps_raise rfl (takes_of rfl rfl rfl rfl) (pmk_oex R.o R.iC tI GI hr bI .nil pass0 (by rfl) R.g (pa_cons (pe_callB call_len_seq (by rfl) B.len PySem.boot_len (pa_cons (pv 1) pa_nil)) pa_nil)))) pss_nil)
      (pss_one (ps_ret (pe_slice sl_list (pv 1) po_none (po_some (pe_un un_neg pe_int)))))), ?_⟩
    have hp := split_pos x
    have hl := split_len x
    refine ⟨_, rfl, ⟨x, rfl⟩, x, nlS, rfl, rfl, rfl, (by show x.cps.size + 2 ≤ sizeLine; rw [sizeLine_eq]; omega), fun p np => ?_⟩
    have s1 : Same H (upd H p (.lst ((splitL x).map V.str))) := Same.up np
    have e1 : (upd H p (.lst ((splitL x).map V.str))) p = some (.lst ((splitL x).map V.str)) := upd_same
    have hne : splitL x ≠ [] := fun z => by rw [z] at hp; cases hp
    have eL : (splitL x).getLast? = some ((splitL x).getLast hne) := List.getLast?_eq_some_getLast hne
    have hlast : atI ((splitL x).map V.str) (-1) = some (V.str ((splitL x).getLast hne)) := by
      unfold atI ixN
      rw [if_neg (by decide), List.length_map, if_pos (by omega)]
      show ((splitL x).map V.str)[((-1 : Int) + ((splitL x).length : Int)).toNat]? = _
      rw [show ((-1 : Int) + ((splitL x).length : Int)).toNat = (splitL x).length - 1 by omega, List.getElem?_map, ← List.getLast?_eq_getElem?, eL]
      rfl
    have lp : Pl ((splitL x).length : Int) := ⟨by omega, by omega⟩
    have bad : wholeB x = false → ∀ a, (upd H p (.lst ((splitL x).map V.str))) a = none → _ := fun e => raise_line (H := upd H p (.lst ((splitL x).map V.str))) (n := ((splitL x).length : Int)) (Qx := fun cls d H' => E cls d H') R lp fun d H' s2 _ e3 => qe e H' d (s1.trans s2) e3
    refine ⟨fun σ H' => σ = [some (.str x), some (.ref p)] ∧ H' = upd H p (.lst ((splitL x).map V.str)) ∧ wholeB x = true, ?_, ?_⟩
    · refine ⟨_, rfl, _, rfl, p, _, _, _, rfl, rfl, SqL.of e1, hlast, rfl, _, rfl, ?_⟩
      by_cases hL : (splitL x).getLast hne = Str.ofString ""
      · refine iteF' (by rw [decide_eq_true (by rw [hL])]; rfl) ?_
        refine ⟨_, rfl, p, _, rfl, .inl (SqL.of e1), rfl, _, rfl, ?_⟩
        rw [List.length_map]
        by_cases h1 : (splitL x).length = 1
        · refine iteT' (decide_eq_true (by rw [h1]; rfl)) ?_
          refine ⟨_, rfl, p, _, rfl, .inl (SqL.of e1), (by show 1 ≤ 1000; decide), ?_⟩
          rw [List.length_map]
          exact bad (by unfold wholeB; rw [decide_eq_true h1]; exact Bool.and_false _)
        · refine iteF' (decide_eq_false (fun z => h1 (by have := V.int.inj z; omega))) ⟨rfl, rfl, ?_⟩
          unfold wholeB
          rw [eL, hL, decide_eq_true rfl, decide_eq_false h1]
          rfl
      · refine iteT' (by rw [decide_eq_false (fun z => hL (V.str.inj z))]; rfl) ?_
        refine ⟨_, rfl, p, _, rfl, .inl (SqL.of e1), (by show 1 ≤ 1000; decide), ?_⟩
        rw [List.length_map]
        exact bad (by unfold wholeB; rw [eL, decide_eq_false (fun z => hL (Option.some.inj z))]; exact Bool.false_and _)
    rintro σ H' ⟨rfl, rfl, hw⟩
    refine ⟨_, rfl, _, rfl, _, rfl, p, _, rfl, SqL.of e1, fun r nr => ?_⟩
    refine q hw _ r (s1.trans (Same.up nr)) (s1.free nr) (upd_same.trans (congrArg (fun l => some (HO.lst l)) ?_))
    show ((splitL x).map V.str |>.drop (HT.sIx ((splitL x).map V.str).length 0 none)).take (HT.sIx ((splitL x).map V.str).length ((splitL x).map V.str).length (some (-1)) - HT.sIx ((splitL x).map V.str).length 0 none) = _
    rw [HT.sIx_none, List.drop_zero, List.length_map, Nat.sub_zero]
    rw [show HT.sIx (splitL x).length (splitL x).length (some (-1)) = (splitL x).length - 1 by
      show ((-1 : Int) + ((splitL x).length : Int)).toNat = _
      omega]
    rw [List.dropLast_eq_take, List.map_take]
end
end C1

/-! A text of lines. -/
namespace C1
open PySem PySem.Spec PyProof.Rows L2 SX
theorem scTextOf : FnScope ["lines", "line"] ["lines"] (defScope sTextOf) := ⟨rfl, rfl, rfl, by decide +kernel, rfl, by decide +kernel, by decide +kernel⟩
abbrev NTO : List Str := ["lines", "line"]
abbrev rAddStr : R2 := fun x y H Q => ∃ i j, x = V.str i ∧ y = V.str j ∧ i.length + j.length ≤ sizeLine ∧ Q (V.str (i ++ j)) H
def textL (xs : List Str) : Str := Txt.join (Str.ofString "") (xs.map fun x => x ++ nlS)
theorem len_sum {xs : List Str} {b : Nat} (h : ∀ x ∈ xs, x.length ≤ b) : (xs.map (·.length)).sum ≤ xs.length * b := by
  induction xs with
  | nil => exact Nat.zero_le _
  | cons x xs ih =>
    have h1 := h x (List.mem_cons_self ..)
    have h2 := ih fun y hy => h y (List.mem_cons_of_mem _ hy)
    rw [List.map_cons, List.sum_cons, List.length_cons, Nat.succ_mul]
    omega
section
variable {P : Program} {w : World} {K : PySem.W.Frag} {mg : Str → Option Value} {base : Heap} {T : Addr}
def spTextOf (K : PySem.W.Frag) : Sp := fun vs H Q _ => ∃ (p : Addr) (xs : List Str), vs = [.ref p] ∧ SqL K H p (xs.map V.str) ∧ xs.length ≤ 900 ∧ (∀ x ∈ xs, x.length ≤ 10000) ∧ ∀ H', Same H H' → Q (.str (textL xs)) H'
theorem ok_textOf {f : Addr} {fd : FuncData} (F : Fun K "text_of" "text_of" sTextOf f fd) : FnOk P w K mg base CX0 1 f fd ["lines"] (spTextOf K) := by
  refine F.ok scTextOf (fun vs H Q E h => ?_) (fun cdv A outer s H vs Q E hr h => ?_)
  · obtain ⟨p, xs, rfl, _⟩ := h
    rfl
  · obtain ⟨p, xs, rfl, hp, hl, hx, q⟩ := h
    have nd := scTextOf.nd
    refine ⟨_, (pss_one (ps_ret (pe_join (pe_str) (pe_lc (own := [("line", 1)]) (g := gName 1) (tt := tYes) (te := tOp rAddStr (tVar 1) (tC (.str "\n")))  rfl nd (pi_list (pv 0)) (blkOk_by (own := [("line", 1)]) (N := NTO) (sc := defScope sTextOf) (by decide +kernel)) (fun _ _ _ _ _ => pg_name (i := 1) nd rfl (.inl rfl)) (fun _ _ _ _ _ => pts_nil) (fun _ _ _ _ _ => by exact (pe_op op_add_str (pv 1) (pe_str))))))), ?_⟩
    refine ⟨⟨_, rfl⟩, ?_⟩
    refine ⟨_, rfl, p, rfl, ⟨_, hp⟩, fun D nD => ?_⟩
    refine lc_list (xs := xs.map V.str) (fun i H2 => H2 = upd H D (.lst ((xs.take i).map fun x => V.str (x ++ nlS)))) rfl (fun i H2 _ h => ?_) (fun i v H2 hv h => ?_) (fun H2 h => ?_)
    · subst h
      exact (Same.up nD).seq hp
    · subst h
      obtain ⟨x, ex, rfl⟩ := str_at hv
      have hil : i < xs.length := (List.getElem?_eq_some_iff.mp ex).1
      have h1 := hx x (List.mem_of_getElem? ex)
      refine ⟨rfl, _, rfl, x, nlS, rfl, rfl, ?_, _, upd_same, ?_, ?_⟩
      · have : nlS.length = 1 := by decide +kernel
        rw [this, sizeLine_eq]
        omega
      · rw [List.length_map, List.length_take]
        exact lineS200 (by omega)
      · rw [upd_upd, take_snoc ex, List.map_append]
        rfl
    · subst h
      rw [List.length_map, List.take_length]
      refine ⟨Str.ofString "", D, xs.map fun x => x ++ nlS, rfl, rfl, .inl (SqL.of (upd_same.trans (by rw [List.map_map]; rfl))), ?_, q _ (Same.up nD)⟩
      have h1 := len_sum (xs := xs.map fun x => x ++ nlS) (b := 10001) fun y hy => by
        obtain ⟨x, h, rfl⟩ := List.mem_map.mp hy
        rw [app_len]
        have : nlS.length = 1 := by decide +kernel
        have := hx x h
        omega
      rw [List.length_map] at h1 ⊢
      have h0 : (Str.ofString "").length = 0 := by decide +kernel
      rw [h0, Nat.mul_zero, Nat.add_zero]
      have h2 : xs.length * 10001 ≤ 900 * 10001 := Nat.mul_le_mul_right _ hl
      omega
end
end C1

/-! Texts. -/
namespace C1
open PySem PySem.Spec PyProof.Rows L2 SX
open K0 (Cs digs isNum)
open GxR (TabG Tabbed TabB GenS)
def spS (x : Str) : List Str := Txt.split x (Str.ofString " ")
end C1
/-! Texts: joined, split. -/
namespace C1
open PySem PySem.Spec PyProof.Rows L2 SX
abbrev spB : Str := Str.ofString " "
theorem joinL_mem {S : List Nat} {c : Nat} : ∀ {ps : List (List Nat)}, c ∈ TL.joinL S ps → c ∈ S ∨ ∃ p ∈ ps, c ∈ p
  | [], h => by cases h
  | [p], h => .inr ⟨p, List.mem_singleton.mpr rfl, h⟩
  | p :: q :: r, h => by
    rcases List.mem_append.mp (show c ∈ p ++ (S ++ TL.joinL S (q :: r)) from h) with z | z
    · exact .inr ⟨p, List.mem_cons_self .., z⟩
    · rcases List.mem_append.mp z with z | z
      · exact .inl z
      · rcases joinL_mem z with z | ⟨x, hx, z⟩
        · exact .inl z
        · exact .inr ⟨x, List.mem_cons_of_mem _ hx, z⟩
theorem mem_joinL {S : List Nat} {c : Nat} {p : List Nat} (hc : c ∈ p) : ∀ {ps : List (List Nat)}, p ∈ ps → c ∈ TL.joinL S ps
  | [], h => by cases h
  | [q], h => by
    rw [List.mem_singleton.mp h] at hc
    exact hc
  | q :: q2 :: r, h => by
    show c ∈ q ++ (S ++ TL.joinL S (q2 :: r))
    rcases List.mem_cons.mp h with z | z
    · rw [z] at hc
      exact List.mem_append_left _ hc
    · exact List.mem_append_right _ (List.mem_append_right _ (mem_joinL hc z))
theorem joinL_len {S : List Nat} {b : Nat} : ∀ {ps : List (List Nat)}, (∀ p ∈ ps, p.length ≤ b) → (TL.joinL S ps).length ≤ ps.length * (b + S.length)
  | [], _ => Nat.zero_le _
  | [p], h => by
    have := h p (List.mem_singleton.mpr rfl)
    show p.length ≤ 1 * (b + S.length)
    omega
  | p :: q :: r, h => by
    have h1 := h p (List.mem_cons_self ..)
    have h2 := joinL_len (S := S) (ps := q :: r) fun x hx => h x (List.mem_cons_of_mem _ hx)
    show (p ++ (S ++ TL.joinL S (q :: r))).length ≤ ((q :: r).length + 1) * (b + S.length)
    rw [List.length_append, List.length_append, Nat.succ_mul]
    omega
theorem cs_join (y : Str) (ps : List Str) : (Txt.join y ps).cps.toList = TL.joinL y.cps.toList (ps.map fun p => p.cps.toList) := by
  rw [TL.join_eq]
  exact TL.tl_join y ps
theorem join_mem {y : Str} {ps : List Str} {c : Nat} (h : c ∈ (Txt.join y ps).cps.toList) : c ∈ y.cps.toList ∨ ∃ p ∈ ps, c ∈ p.cps.toList := by
  rw [cs_join] at h
  rcases joinL_mem h with z | ⟨p, hp, z⟩
  · exact .inl z
  · obtain ⟨q, hq, rfl⟩ := List.mem_map.mp hp
    exact .inr ⟨q, hq, z⟩
theorem join_size {y : Str} {ps : List Str} {b : Nat} (h : ∀ p ∈ ps, p.cps.size ≤ b) : (Txt.join y ps).cps.size ≤ ps.length * (b + y.cps.size) := by
  rw [← Array.length_toList, cs_join]
  have := joinL_len (S := y.cps.toList) (b := b) (ps := ps.map fun p => p.cps.toList) fun p hp => by
    obtain ⟨q, hq, rfl⟩ := List.mem_map.mp hp
    rw [Array.length_toList]
    exact h q hq
  rw [List.length_map, Array.length_toList] at this
  exact this
theorem part_mem {x y p : Str} {c : Nat} (hp : p ∈ Txt.split x y) (hc : c ∈ p.cps.toList) : c ∈ x.cps.toList := by
  have e : Txt.join y (Txt.split x y) = x := by
    rw [TL.join_eq]
    exact PySem.StrLaws.join_split x y
  rw [← e, cs_join]
  exact mem_joinL hc (List.mem_map.mpr ⟨p, hp, rfl⟩)
theorem part_size {x y p : Str} (hp : p ∈ Txt.split x y) : p.cps.size ≤ x.cps.size := PyProof.Rows.part_short hp
theorem spS_join {ps : List Str} (hne : ps ≠ []) (h : ∀ p ∈ ps, 32 ∉ p.cps.toList) : spS (Txt.join spB ps) = ps := TL.split_join (s := 32) (S := []) rfl (by decide +kernel) hne h
theorem spS_len (x : Str) : (spS x).length ≤ x.cps.size + 1 := by
  have h1 : ((spS x).length : Int) = 1 + PyProof.Rows.cnt 32 x.cps.toList := PyProof.Rows.split_len x 32
  have h2 := (cnt_bd 32 x.cps.toList).2
  rw [Array.length_toList] at h2
  omega
theorem spS_free {x p : Str} (h : p ∈ spS x) : 32 ∉ p.cps.toList := PySem.StrLaws.split_free x 32 p h
theorem spS_ne (x : Str) : spS x ≠ [] := fun z => by
  have h1 : ((spS x).length : Int) = 1 + PyProof.Rows.cnt 32 x.cps.toList := PyProof.Rows.split_len x 32
  have h2 := (cnt_bd 32 x.cps.toList).1
  rw [z] at h1
  simp at h1
  omega
theorem nl_cs : nlS.cps.toList = [10] := rfl
theorem app_cs (a b : Str) : (a ++ b).cps.toList = a.cps.toList ++ b.cps.toList := TL.tl_append a b
theorem joinL_nil : ∀ ps : List (List Nat), TL.joinL [] ps = ps.flatten
  | [] => rfl
  | [p] => by
    show p = p ++ []
    rw [List.append_nil]
  | p :: q :: r => by
    show p ++ ([] ++ TL.joinL [] (q :: r)) = p ++ (q :: r).flatten
    rw [List.nil_append, joinL_nil (q :: r)]
theorem joinL_nl : ∀ ps : List (List Nat), TL.joinL [10] (ps ++ [[]]) = (ps.map fun p => p ++ [10]).flatten
  | [] => rfl
  | [p] => by
    show p ++ ([10] ++ []) = (p ++ [10]) ++ []
    rw [List.append_nil, List.append_nil]
  | p :: q :: r => by
    show p ++ ([10] ++ TL.joinL [10] ((q :: r) ++ [[]])) = (p ++ [10]) ++ ((q :: r).map fun p => p ++ [10]).flatten
    rw [joinL_nl (q :: r), List.append_assoc]
theorem text_eq (xs : List Str) : textL xs = Txt.join nlS (xs ++ [Str.ofString ""]) := by
  apply TL.ext_tl
  show (textL xs).cps.toList = _
  unfold textL
  rw [cs_join]
  show _ = (Txt.join nlS (xs ++ [Str.ofString ""])).cps.toList
  rw [cs_join, nl_cs, List.map_append]
  show TL.joinL [] ((xs.map fun x => x ++ nlS).map fun p => p.cps.toList) = TL.joinL [10] (xs.map (fun p => p.cps.toList) ++ [[]])
  rw [joinL_nil, joinL_nl, List.map_map, List.map_map]
  congr 1
  exact List.map_congr_left fun x _ => app_cs x nlS
theorem split_text {xs : List Str} (h : ∀ x ∈ xs, 10 ∉ x.cps.toList) : splitL (textL xs) = xs ++ [Str.ofString ""] := by
  rw [text_eq]
  refine TL.split_join (s := 10) (S := []) rfl (by decide +kernel) (by simp) fun p hp => ?_
  rcases List.mem_append.mp hp with z | z
  · exact h p z
  · rw [List.mem_singleton.mp z]
    decide
theorem split_lines {xs : List Str} (hne : xs ≠ []) (h : ∀ x ∈ xs, 10 ∉ x.cps.toList) : splitL (Txt.join nlS xs) = xs := TL.split_join (s := 10) (S := []) rfl (by decide +kernel) hne h
theorem nl_free {x y : Str} (h : y ∈ splitL x) : 10 ∉ y.cps.toList := PySem.StrLaws.split_free x 10 y h
/-- a line: short, below 128, no new line -/
structure LnB (b : Nat) (y : Str) : Prop where
  sz : y.cps.size ≤ b
  as : ∀ c ∈ y.cps.toList, c < 128
  nl : 10 ∉ y.cps.toList
/-- a text whose lines are such -/
structure TxB (x : Str) : Prop where
  sz : x.cps.size ≤ 100000
  ln : (splitL x).length ≤ 900
  ls : ∀ y ∈ splitL x, LnB 800 y
theorem LnB.parts {y : Str} (h : LnB 800 y) : (spS y).length ≤ 900 ∧ ∀ z ∈ spS y, LnB 800 z := by
  have := spS_len y
  have := h.sz
  refine ⟨by omega, fun z hz => ⟨Nat.le_trans (part_size hz) h.sz, fun c hc => h.as c (part_mem hz hc), fun hc => h.nl (part_mem hz hc)⟩⟩
theorem LnB.up {a b : Nat} {y : Str} (h : LnB a y) (l : a ≤ b) : LnB b y := ⟨Nat.le_trans h.sz l, h.as, h.nl⟩
theorem ln_nil : LnB 0 (Str.ofString "") := ⟨Nat.le_refl 0, fun c h => (by cases h), fun h => (by cases h)⟩
theorem txb_text {xs : List Str} {b : Nat} (h : ∀ x ∈ xs, LnB b x) (hb : b ≤ 200) (hl : xs.length ≤ 400) : TxB (textL xs) := by
  have e := split_text (xs := xs) fun x hx => (h x hx).nl
  refine ⟨?_, ?_, fun y hy => ?_⟩
  · rw [text_eq]
    have := join_size (y := nlS) (ps := xs ++ [Str.ofString ""]) (b := b) fun p hp => by
      rcases List.mem_append.mp hp with z | z
      · exact (h p z).sz
      · rw [List.mem_singleton.mp z]
        exact Nat.zero_le _
    have e1 : nlS.cps.size = 1 := rfl
    rw [List.length_append, e1] at this
    have h2 : (xs.length + [Str.ofString ""].length) * (b + 1) ≤ 401 * 201 := Nat.mul_le_mul (by show xs.length + 1 ≤ 401; omega) (by omega)
    omega
  · rw [e, List.length_append]
    show xs.length + 1 ≤ 900
    omega
  · rw [e] at hy
    rcases List.mem_append.mp hy with z | z
    · exact (h y z).up (by omega)
    · rw [List.mem_singleton.mp z]
      exact ln_nil.up (Nat.zero_le _)
theorem txb_join {xs : List Str} {b : Nat} (hne : xs ≠ []) (h : ∀ x ∈ xs, LnB b x) (hb : b ≤ 200) (hl : xs.length ≤ 400) : TxB (Txt.join nlS xs) := by
  have e := split_lines (xs := xs) hne fun x hx => (h x hx).nl
  refine ⟨?_, ?_, fun y hy => ?_⟩
  · have := join_size (y := nlS) (ps := xs) (b := b) fun p hp => (h p hp).sz
    have e1 : nlS.cps.size = 1 := rfl
    rw [e1] at this
    have h2 : xs.length * (b + 1) ≤ 400 * 201 := Nat.mul_le_mul hl (by omega)
    omega
  · rw [e]
    omega
  · rw [e] at hy
    exact (h y hy).up (by omega)
theorem ln_app {a b : Nat} {x y : Str} (h : LnB a x) (h' : LnB b y) : LnB (a + b) (x ++ y) := by
  refine ⟨?_, fun c hc => ?_, fun hc => ?_⟩
  · rw [← Array.length_toList, app_cs, List.length_append, Array.length_toList, Array.length_toList]
    exact Nat.add_le_add h.sz h'.sz
  · rw [app_cs] at hc
    exact (List.mem_append.mp hc).elim (h.as c) (h'.as c)
  · rw [app_cs] at hc
    exact (List.mem_append.mp hc).elim h.nl h'.nl
theorem ln_join {b : Nat} {ps : List Str} (h : ∀ p ∈ ps, LnB b p) : LnB (ps.length * (b + 1)) (Txt.join spB ps) := by
  refine ⟨join_size (y := spB) fun p hp => (h p hp).sz, fun c hc => ?_, fun hc => ?_⟩
  · rcases join_mem hc with z | ⟨p, hp, z⟩
    · rw [List.mem_singleton.mp (show c ∈ [32] from z)]
      decide
    · exact (h p hp).as c z
  · rcases join_mem hc with z | ⟨p, hp, z⟩
    · exact absurd z (by decide)
    · exact (h p hp).nl z
end C1

/-! Comprehensions whose items are data, made one by one. -/
namespace C1
open PySem PySem.Spec PyProof.Rows L2 SX
theorem dps_at {K : PySem.W.Frag} {H : Hp} {vs : List V} {ds : List PyData} {i : Nat} {x : V} {d : PyData} (h : DpAll K H vs ds) (hx : vs[i]? = some x) (hd : ds[i]? = some d) : Dp K H x d := by
  obtain ⟨d', e, h⟩ := dps_get h hx
  rw [hd] at e
  cases e
  exact h
theorem noLs_take : ∀ {F : List PyData} {i : Nat}, noLs F = true → noLs (F.take i) = true
  | [], i, h => by
    rw [List.take_nil]
    rfl
  | d :: F, 0, h => rfl
  | d :: F, i + 1, h => by
    have h' := Bool.and_eq_true_iff.mp (show (noL d && noLs F) = true from h)
    show (noL d && noLs (F.take i)) = true
    rw [h'.1, noLs_take h'.2]
    rfl
theorem noLs_at {F : List PyData} {i : Nat} {d : PyData} (h : noLs F = true) (e : F[i]? = some d) : noL d = true := noLs_mem h d (List.mem_of_getElem? e)
theorem at_len2 {α β : Type} {xs : List α} {F : List β} (hl : xs.length = F.length) {i : Nat} {x : α} (h : xs[i]? = some x) : ∃ d, F[i]? = some d := by
  have := (List.getElem?_eq_some_iff.mp h).1
  exact ⟨_, List.getElem?_eq_getElem (by omega)⟩
section
variable {K : PySem.W.Frag} {a : Addr} {xs : List V} {g : TG} {te : TE} {vs : List Nat} {σ : L2.St} {H0 : Hp} {D : Addr} {Qd : Hp → Prop}
theorem lc_tupD (F : List PyData) (hF : noLs F = true) (hlen : xs.length = F.length) (hn : xs.length ≤ 1000) (hl : SqT K H0 a xs) (hD : H0 D = none)
    (hs : ∀ (i : Nat) (x : V) (d : PyData) (H : Hp) (Q : VK), xs[i]? = some x → F[i]? = some d → Same H0 H → (∀ y H4, Same H H4 → Dp K H4 y d → Q y H4) → g x (wipe σ vs) H fun σ2 H2 => wipe σ2 vs = wipe σ vs ∧ te σ2 H2 Q)
    (hd : ∀ H acc, Same H0 H → H D = some (.lst acc) → DpAll K H acc F → Qd H) :
    ∃ W : Nat → Nat → Hp → Prop, (∃ m, W 0 m (upd H0 D (.lst []))) ∧ ∀ i m H, W i m H →
      ((Itt K a).stop i H ∧ Qd H) ∨ ((Itt K a).go i H ∧ ∃ Nx : Hp → Prop, (∀ H', Nx H' → ∃ m', m' < m ∧ W (i + 1) m' H') ∧ ∀ x H', (Itt K a).yld i H x H' → g x (wipe σ vs) H' fun σ2 H2 => wipe σ2 vs = wipe σ vs ∧ tYes σ2 H2 fun b H3 =>
        if b = true then te σ2 H3 fun y H4 => ∃ acc, H4 D = some (.lst acc) ∧ acc.length < sizeLine ∧ Nx (upd H4 D (.lst (acc ++ [y]))) else Nx H3) := by
  refine lc_tup (xs := xs) (fun i H => Same H0 H ∧ ∃ acc, H D = some (.lst acc) ∧ DpAll K H acc (F.take i)) ⟨same_new hD, [], upd_same, .nil⟩ (fun i H _ h => same_tup h.1 _ _ hl) (fun i x H hx h => ?_) (fun H h => ?_)
  · obtain ⟨sm, acc, e, dp⟩ := h
    obtain ⟨d, hd'⟩ := at_len2 hlen hx
    have lt := dps_len dp
    rw [List.length_take] at lt
    have hi := (List.getElem?_eq_some_iff.mp hx).1
    exact hs i x d H (fun y H4 => ∃ acc, H4 D = some (.lst acc) ∧ acc.length < sizeLine ∧ (Same H0 (upd H4 D (.lst (acc ++ [y]))) ∧ ∃ acc', (upd H4 D (.lst (acc ++ [y]))) D = some (.lst acc') ∧ DpAll K (upd H4 D (.lst (acc ++ [y]))) acc' (F.take (i + 1)))) hx hd' sm
      (fun y H4 s4 dy => ⟨acc, s4 _ _ e, lineS200 (by omega), same_put (sm.trans s4) hD, acc ++ [y], upd_same, by
        rw [take_snoc hd']
        exact push_dps (s4 _ _ e) (dps_stay (same_tup s4) _ _ dp (noLs_take hF)) (noLs_take hF) dy (noLs_at hF hd')⟩)
  · obtain ⟨sm, acc, e, dp⟩ := h
    rw [hlen, List.take_length] at dp
    exact hd H acc sm e dp
theorem lc_listD (F : List PyData) (hF : noLs F = true) (hlen : xs.length = F.length) (hn : xs.length ≤ 1000) (hl : SqL K H0 a xs) (hD : H0 D = none)
    (hs : ∀ (i : Nat) (x : V) (d : PyData) (H : Hp) (Q : VK), xs[i]? = some x → F[i]? = some d → Same H0 H → (∀ y H4, Same H H4 → Dp K H4 y d → Q y H4) → g x (wipe σ vs) H fun σ2 H2 => wipe σ2 vs = wipe σ vs ∧ te σ2 H2 Q)
    (hd : ∀ H acc, Same H0 H → H D = some (.lst acc) → DpAll K H acc F → Qd H) :
    ∃ W : Nat → Nat → Hp → Prop, (∃ m, W 0 m (upd H0 D (.lst []))) ∧ ∀ i m H, W i m H →
      ((Itl K a).stop i H ∧ Qd H) ∨ ((Itl K a).go i H ∧ ∃ Nx : Hp → Prop, (∀ H', Nx H' → ∃ m', m' < m ∧ W (i + 1) m' H') ∧ ∀ x H', (Itl K a).yld i H x H' → g x (wipe σ vs) H' fun σ2 H2 => wipe σ2 vs = wipe σ vs ∧ tYes σ2 H2 fun b H3 =>
        if b = true then te σ2 H3 fun y H4 => ∃ acc, H4 D = some (.lst acc) ∧ acc.length < sizeLine ∧ Nx (upd H4 D (.lst (acc ++ [y]))) else Nx H3) := by
  refine lc_list (xs := xs) (fun i H => Same H0 H ∧ ∃ acc, H D = some (.lst acc) ∧ DpAll K H acc (F.take i)) ⟨same_new hD, [], upd_same, .nil⟩ (fun i H _ h => h.1.seq hl) (fun i x H hx h => ?_) (fun H h => ?_)
  · obtain ⟨sm, acc, e, dp⟩ := h
    obtain ⟨d, hd'⟩ := at_len2 hlen hx
    have lt := dps_len dp
    rw [List.length_take] at lt
    have hi := (List.getElem?_eq_some_iff.mp hx).1
    exact hs i x d H (fun y H4 => ∃ acc, H4 D = some (.lst acc) ∧ acc.length < sizeLine ∧ (Same H0 (upd H4 D (.lst (acc ++ [y]))) ∧ ∃ acc', (upd H4 D (.lst (acc ++ [y]))) D = some (.lst acc') ∧ DpAll K (upd H4 D (.lst (acc ++ [y]))) acc' (F.take (i + 1)))) hx hd' sm
      (fun y H4 s4 dy => ⟨acc, s4 _ _ e, lineS200 (by omega), same_put (sm.trans s4) hD, acc ++ [y], upd_same, by
        rw [take_snoc hd']
        exact push_dps (s4 _ _ e) (dps_stay (same_tup s4) _ _ dp (noLs_take hF)) (noLs_take hF) dy (noLs_at hF hd')⟩)
  · obtain ⟨sm, acc, e, dp⟩ := h
    rw [hlen, List.take_length] at dp
    exact hd H acc sm e dp
theorem lc_rangeD {lo : Int} {n : Nat} (F : List PyData) (hF : noLs F = true) (hlen : n = F.length) (hn : n ≤ 1000) (hD : H0 D = none)
    (hs : ∀ (i : Nat) (d : PyData) (H : Hp) (Q : VK), i < n → F[i]? = some d → Same H0 H → (∀ y H4, Same H H4 → Dp K H4 y d → Q y H4) → g (.int (lo + i)) (wipe σ vs) H fun σ2 H2 => wipe σ2 vs = wipe σ vs ∧ te σ2 H2 Q)
    (hd : ∀ H acc, Same H0 H → H D = some (.lst acc) → DpAll K H acc F → Qd H) :
    ∃ W : Nat → Nat → Hp → Prop, (∃ m, W 0 m (upd H0 D (.lst []))) ∧ ∀ i m H, W i m H →
      ((Itr lo n).stop i H ∧ Qd H) ∨ ((Itr lo n).go i H ∧ ∃ Nx : Hp → Prop, (∀ H', Nx H' → ∃ m', m' < m ∧ W (i + 1) m' H') ∧ ∀ x H', (Itr lo n).yld i H x H' → g x (wipe σ vs) H' fun σ2 H2 => wipe σ2 vs = wipe σ vs ∧ tYes σ2 H2 fun b H3 =>
        if b = true then te σ2 H3 fun y H4 => ∃ acc, H4 D = some (.lst acc) ∧ acc.length < sizeLine ∧ Nx (upd H4 D (.lst (acc ++ [y]))) else Nx H3) := by
  refine lc_range (fun i H => Same H0 H ∧ ∃ acc, H D = some (.lst acc) ∧ DpAll K H acc (F.take i)) ⟨same_new hD, [], upd_same, .nil⟩ (fun i H hi h => ?_) (fun H h => ?_)
  · obtain ⟨sm, acc, e, dp⟩ := h
    obtain ⟨d, hd'⟩ : ∃ d, F[i]? = some d := ⟨_, List.getElem?_eq_getElem (by omega)⟩
    have lt := dps_len dp
    rw [List.length_take] at lt
    exact hs i d H (fun y H4 => ∃ acc, H4 D = some (.lst acc) ∧ acc.length < sizeLine ∧ (Same H0 (upd H4 D (.lst (acc ++ [y]))) ∧ ∃ acc', (upd H4 D (.lst (acc ++ [y]))) D = some (.lst acc') ∧ DpAll K (upd H4 D (.lst (acc ++ [y]))) acc' (F.take (i + 1)))) hi hd' sm
      (fun y H4 s4 dy => ⟨acc, s4 _ _ e, lineS200 (by omega), same_put (sm.trans s4) hD, acc ++ [y], upd_same, by
        rw [take_snoc hd']
        exact push_dps (s4 _ _ e) (dps_stay (same_tup s4) _ _ dp (noLs_take hF)) (noLs_take hF) dy (noLs_at hF hd')⟩)
  · obtain ⟨sm, acc, e, dp⟩ := h
    rw [hlen, List.take_length] at dp
    exact hd H acc sm e dp
/-- the items are kept or left out, each as it is -/
theorem lc_tupF {tt : TT} {j : Nat} (F : List PyData) (pb : PyData → Bool) (hF : noLs F = true) (hx : DpAll K H0 xs F) (hn : xs.length ≤ 1000) (hl : SqT K H0 a xs) (hD : H0 D = none)
    (hs : ∀ (i : Nat) (x : V) (d : PyData) (H : Hp) (Q : Bool → Hp → Prop), xs[i]? = some x → F[i]? = some d → Same H0 H → Dp K H x d → (∀ H4, Same H H4 → Q (pb d) H4) → tt ((wipe σ vs).set j (some x)) H Q)
    (hσ : ∀ v, ((wipe σ vs).set j (some v))[j]? = some (some v) ∧ wipe ((wipe σ vs).set j (some v)) vs = wipe σ vs)
    (hd : ∀ H acc, Same H0 H → H D = some (.lst acc) → DpAll K H acc (F.filter pb) → Qd H) :
    ∃ W : Nat → Nat → Hp → Prop, (∃ m, W 0 m (upd H0 D (.lst []))) ∧ ∀ i m H, W i m H →
      ((Itt K a).stop i H ∧ Qd H) ∨ ((Itt K a).go i H ∧ ∃ Nx : Hp → Prop, (∀ H', Nx H' → ∃ m', m' < m ∧ W (i + 1) m' H') ∧ ∀ x H', (Itt K a).yld i H x H' → gName j x (wipe σ vs) H' fun σ2 H2 => wipe σ2 vs = wipe σ vs ∧ tt σ2 H2 fun b H3 =>
        if b = true then tVar j σ2 H3 fun y H4 => ∃ acc, H4 D = some (.lst acc) ∧ acc.length < sizeLine ∧ Nx (upd H4 D (.lst (acc ++ [y]))) else Nx H3) := by
  have noF : ∀ G : List PyData, noLs G = true → noLs (G.filter pb) = true := fun G h => by
    induction G with
    | nil => rfl
    | cons d G ih =>
      have h' := Bool.and_eq_true_iff.mp (show (noL d && noLs G) = true from h)
      rw [List.filter_cons]
      split
      · show (noL d && noLs (G.filter pb)) = true
        rw [h'.1, ih h'.2]
        rfl
      · exact ih h'.2
  refine lc_tup (xs := xs) (fun i H => Same H0 H ∧ ∃ acc, H D = some (.lst acc) ∧ DpAll K H acc ((F.take i).filter pb)) ⟨same_new hD, [], upd_same, .nil⟩ (fun i H _ h => same_tup h.1 _ _ hl) (fun i x H hxi h => ?_) (fun H h => ?_)
  · obtain ⟨sm, acc, e, dp⟩ := h
    obtain ⟨d, hd', dx⟩ := dps_get hx hxi
    have dx2 : Dp K H x d := dp_stay (same_tup sm) _ _ dx (noLs_at hF hd')
    have lt := dps_len dp
    have lt2 := List.length_filter_le pb (F.take i)
    rw [List.length_take] at lt2
    have hi := (List.getElem?_eq_some_iff.mp hxi).1
    have nn := noF _ (noLs_take (i := i) hF)
    refine ⟨(hσ x).2, hs i x d H _ hxi hd' sm dx2 fun H4 s4 => ?_⟩
    cases hb : pb d with
    | true =>
      refine ⟨x, (hσ x).1, acc, s4 _ _ e, lineS200 (by omega), same_put (sm.trans s4) hD, acc ++ [x], upd_same, ?_⟩
      rw [take_snoc hd', List.filter_append, List.filter_cons_of_pos hb, List.filter_nil]
      exact push_dps (s4 _ _ e) (dps_stay (same_tup s4) _ _ dp nn) nn (dp_stay (same_tup s4) _ _ dx2 (noLs_at hF hd')) (noLs_at hF hd')
    | false =>
      refine ⟨sm.trans s4, acc, s4 _ _ e, ?_⟩
      rw [take_snoc hd', List.filter_append, List.filter_cons_of_neg (by rw [hb]; decide), List.filter_nil, List.append_nil]
      exact dps_stay (same_tup s4) _ _ dp nn
  · obtain ⟨sm, acc, e, dp⟩ := h
    rw [dps_len hx, List.take_length] at dp
    exact hd H acc sm e dp
end
theorem noLs_tups : ∀ xss : List (List PyData), (∀ xs ∈ xss, noLs xs = true) → noLs (xss.map .tuple) = true
  | [], _ => rfl
  | xs :: r, h => by
    show (noLs xs && noLs (r.map .tuple)) = true
    rw [h xs (List.mem_cons_self ..), noLs_tups r fun y hy => h y (List.mem_cons_of_mem _ hy)]
    rfl
theorem noLs_strs : ∀ xs : List Str, noLs (xs.map .str) = true
  | [] => rfl
  | _ :: r => noLs_strs r
theorem strs_dps {K : PySem.W.Frag} {H : Hp} : ∀ {vs : List V} {xs : List Str}, DpAll K H vs (xs.map .str) → vs = xs.map V.str
  | [], [], _ => rfl
  | _ :: _, _ :: _, .cons a b => by
    cases a
    rw [strs_dps b]
    rfl
theorem dps_ofs {K : PySem.W.Frag} {H : Hp} : ∀ xs : List Str, DpAll K H (xs.map V.str) (xs.map .str)
  | [] => .nil
  | x :: r => .cons (.str x) (dps_ofs r)
end C1

/-! Lines of parts. -/
namespace C1
open PySem PySem.Spec PyProof.Rows L2 SX
open K0 (Cs digs isNum)
open GxR (TabG Tabbed TabB GenS)
abbrev rJoin (K : PySem.W.Frag) : V → List V → Hp → VK → Prop := fun x xs H Q => ∃ a p, ∃ ys : List Str, x = .str a ∧ xs = [.ref p] ∧ (SqL K H p (ys.map V.str) ∨ SqT K H p (ys.map V.str)) ∧
      (ys.map (·.length)).sum + ys.length * a.length ≤ 16777216 ∧ Q (.str (Txt.join a ys)) H
abbrev rStrA : List V → Hp → VK → Prop := fun xs H Q => (∃ i, xs = [.int i] ∧ i.natAbs.log2 < 1920 ∧ Q (.str (toString i)) H) ∨ (∃ a, xs = [.str a] ∧ Q (.str a) H)
theorem call_str_any {X : Cx} : CallR X (.type "str") rStrA := CallR.or call_str_int SkE.call_str_str
def unT : PyData → List PyData
  | .tuple ds => ds
  | _ => []
def wordsP : List Str := ["net", "latch", "told", "and"]
def PartOk : PyData → Prop
  | .int i => 0 ≤ i ∧ i < 1000000000
  | .str s => s ∈ wordsP
  | _ => False
def pS : PyData → Str
  | .int i => Str.ofString (toString i)
  | .str s => s
  | _ => Str.ofString ""
def lineT (ds : List PyData) : Str := Txt.join spB (ds.map pS)
theorem words_ln : ∀ s ∈ wordsP, s.cps.size ≤ 9 ∧ (∀ c ∈ s.cps.toList, c < 128 ∧ c ≠ 10 ∧ c ≠ 32) := by decide +kernel
theorem num_cs {i : Int} (h : 0 ≤ i) : (Str.ofString (toString i)).cps.toList = TL.numL i.toNat := by
  have e : i = ((i.toNat : Nat) : Int) := (Int.toNat_of_nonneg h).symm
  have := TL.tl_num i.toNat
  rw [← e] at this
  exact this
theorem part_ln {d : PyData} (h : PartOk d) : LnB 9 (pS d) ∧ 32 ∉ (pS d).cps.toList := by
  cases d with
  | int i =>
    obtain ⟨h0, h1⟩ := h
    have e := num_cs h0
    have dg := TL.numL_digits i.toNat
    refine ⟨⟨?_, fun c hc => ?_, fun hc => ?_⟩, fun hc => ?_⟩
    · exact Pl.len (i := i) ⟨h0, h1⟩
    · rw [show (pS (.int i)).cps.toList = TL.numL i.toNat from e] at hc
      have := (dg c hc).2
      omega
    · rw [show (pS (.int i)).cps.toList = TL.numL i.toNat from e] at hc
      have := (dg 10 hc).1
      omega
    · rw [show (pS (.int i)).cps.toList = TL.numL i.toNat from e] at hc
      have := (dg 32 hc).1
      omega
  | str s =>
    obtain ⟨a, b⟩ := words_ln s h
    exact ⟨⟨a, fun c hc => (b c hc).1, fun hc => (b 10 hc).2.1 rfl⟩, fun hc => (b 32 hc).2.2 rfl⟩
  | none => exact h.elim
  | bool _ => exact h.elim
  | tuple _ => exact h.elim
  | list _ => exact h.elim
  | dict _ => exact h.elim
structure LpOk (ds : List PyData) : Prop where
  ne : ds ≠ []
  len : ds.length ≤ 6
  ok : ∀ d ∈ ds, PartOk d
theorem part_noL {d : PyData} (h : PartOk d) : noL d = true := by
  cases d <;> first | rfl | exact h.elim
theorem LpOk.noL {ds : List PyData} (h : LpOk ds) : noLs ds = true := by
  have key : ∀ l : List PyData, (∀ d ∈ l, PartOk d) → noLs l = true := fun l => by
    induction l with
    | nil => exact fun _ => rfl
    | cons d l ih =>
      intro h
      show (C1.noL d && noLs l) = true
      rw [part_noL (h d (List.mem_cons_self ..)), ih fun x hx => h x (List.mem_cons_of_mem _ hx)]
      rfl
  exact key _ h.ok
theorem LpOk.line {ds : List PyData} (h : LpOk ds) : LnB 60 (lineT ds) := by
  have := ln_join (b := 9) (ps := ds.map pS) fun p hp => by
    obtain ⟨d, hd, rfl⟩ := List.mem_map.mp hp
    exact (part_ln (h.ok d hd)).1
  refine this.up ?_
  rw [List.length_map]
  have := h.len
  omega
theorem LpOk.spl {ds : List PyData} (h : LpOk ds) : spS (lineT ds) = ds.map pS := spS_join (by simpa using h.ne) fun p hp => by
  obtain ⟨d, hd, rfl⟩ := List.mem_map.mp hp
  exact (part_ln (h.ok d hd)).2
theorem nat_part {n : Nat} (h : n < 1000000000) : PartOk (iD n) := ⟨by omega, by omega⟩
theorem word_part {s : Str} (h : s ∈ wordsP) : PartOk (.str s) := h
theorem all_part {ds : List PyData} (h : ∀ d ∈ ds, PartOk d) {w : Str} (hw : w ∈ wordsP) (hl : ds.length ≤ 5) : LpOk (.str w :: ds) :=
  ⟨by simp, by show ds.length + 1 ≤ 6; omega, fun d hd => by
    rcases List.mem_cons.mp hd with z | z
    · rw [z]
      exact hw
    · exact h d z⟩
section
variable {P : Program} {w : World} {K : PySem.W.Frag} {mg : Str → Option Value} {base : Heap} {T : Addr}
theorem star_lc {wd : Str} {a : Addr} {xs : List V} {H0 : Hp} {D : Addr} {σ : L2.St} {vs : List Nat} {j : Nat} {Qd : Hp → Prop} (dss : List (List PyData)) (hF : ∀ ds ∈ dss, noLs ds = true) (hx : DpAll K H0 xs (dss.map .tuple)) (hn : xs.length ≤ 1000)
    (hm : ∀ ds ∈ dss, ds.length ≤ 900) (hl : SqT K H0 a xs) (hD : H0 D = none) (hσ : ∀ v, ((wipe σ vs).set j (some v))[j]? = some (some v) ∧ wipe ((wipe σ vs).set j (some v)) vs = wipe σ vs)
    (hd : ∀ H acc, Same H0 H → H D = some (.lst acc) → DpAll K H acc (dss.map fun ds => .tuple (.str wd :: ds)) → Qd H) :
    ∃ W : Nat → Nat → Hp → Prop, (∃ m, W 0 m (upd H0 D (.lst []))) ∧ ∀ i m H, W i m H →
      ((Itt K a).stop i H ∧ Qd H) ∨ ((Itt K a).go i H ∧ ∃ Nx : Hp → Prop, (∀ H', Nx H' → ∃ m', m' < m ∧ W (i + 1) m' H') ∧ ∀ x H', (Itt K a).yld i H x H' → gName j x (wipe σ vs) H' fun σ2 H2 => wipe σ2 vs = wipe σ vs ∧ tYes σ2 H2 fun b H3 =>
        if b = true then (tTup (tCons (tC (.str wd)) (StX.tStar K (tVar j) tNil))) σ2 H3 fun y H4 => ∃ acc, H4 D = some (.lst acc) ∧ acc.length < sizeLine ∧ Nx (upd H4 D (.lst (acc ++ [y]))) else Nx H3) := by
  have eF : (dss.map fun ds => PyData.tuple (.str wd :: ds)) = (dss.map fun ds => .str wd :: ds).map .tuple := by
    rw [List.map_map]
    rfl
  have nF : noLs (dss.map fun ds => PyData.tuple (.str wd :: ds)) = true := by
    rw [eF]
    refine noLs_tups _ fun xs h => ?_
    obtain ⟨ds, h2, rfl⟩ := List.mem_map.mp h
    show (true && noLs ds) = true
    rw [hF ds h2]
    rfl
  refine lc_tupD (dss.map fun ds => .tuple (.str wd :: ds)) nF (by rw [List.length_map]; have := dps_len hx; rw [List.length_map] at this; exact this) hn hl hD (fun i x d H Q hxi hdi sm q => ?_) hd
  rw [List.getElem?_map] at hdi
  obtain ⟨ds, eds, rfl⟩ := Option.map_eq_some_iff.mp hdi
  have dx : Dp K H0 x (.tuple ds) := dps_at hx hxi (by rw [List.getElem?_map, eds]; rfl)
  have mem := List.mem_of_getElem? eds
  obtain ⟨b, ys, rfl, sq, dys⟩ := dp_tup dx
  have ly := dps_len dys
  have lm := hm ds mem
  have sq2 := same_tup sm _ _ sq
  refine ⟨(hσ _).2, _, (hσ _).1, b, ys, rfl, .inl sq2, ?_, fun p np => q _ _ (Same.up np) ?_⟩
  · exact line200 (show ((V.str wd) :: (ys ++ [])).length ≤ 1000 by rw [List.append_nil, List.length_cons]; omega)
  · rw [List.append_nil]
    exact .tup (SqT.of upd_same) (.cons (.str wd) (dps_stay (fun b xs h => same_tup (sm.trans (Same.up np)) _ _ h) _ _ dys (hF ds mem)))
theorem line_te {σ : L2.St} {H : Hp} {x : V} {ds : List PyData} {L j : Nat} {Q : VK} (hσ : σ[L]? = some (some x)) (hx : Dp K H x (.tuple ds)) (ok : LpOk ds) (hj : ∀ v, ((wipe σ [j]).set j (some v))[j]? = some (some v) ∧ wipe ((wipe σ [j]).set j (some v)) [j] = wipe σ [j])
    (q : ∀ H', Same H H' → Q (.str (lineT ds)) H') : (L2.tM1 (rJoin K) (tC (.str " ")) (tLc (iTup K (tVar L)) (gName j) tYes (tCB rStrA (tCons (tVar j) tNil)) [j])) σ H Q := by
  obtain ⟨b, ys, rfl, sq, dys⟩ := dp_tup hx
  have ly := dps_len dys
  have lm := ok.len
  refine ⟨⟨_, rfl⟩, _, hσ, b, rfl, ⟨_, sq⟩, fun D nD => ?_⟩
  refine lc_tupD ((ds.map pS).map .str) (noLs_strs _) (by rw [List.length_map, List.length_map]; exact ly) (by omega) sq nD (fun i x d H2 Q2 hxi hdi sm q2 => ?_) (fun H2 acc sm e dp => ?_)
  · rw [List.getElem?_map, List.getElem?_map] at hdi
    obtain ⟨s, es, rfl⟩ := Option.map_eq_some_iff.mp hdi
    obtain ⟨d, ed, rfl⟩ := Option.map_eq_some_iff.mp es
    have dx := dps_at dys hxi ed
    have pk := ok.ok d (List.mem_of_getElem? ed)
    refine ⟨(hj _).2, _, (hj _).1, ?_⟩
    cases dx with
    | int i => exact .inl ⟨i, rfl, Pl.log (i := i) pk, q2 _ _ (fun _ _ e => e) (.str _)⟩
    | str s => exact .inr ⟨s, rfl, q2 _ _ (fun _ _ e => e) (.str _)⟩
    | _ => exact pk.elim
  · have ea := strs_dps dp
    subst ea
    refine ⟨Str.ofString " ", D, ds.map pS, rfl, rfl, .inl (SqL.of e), ?_, q H2 sm⟩
    have h1 := len_sum (xs := ds.map pS) (b := 9) fun y hy => by
      obtain ⟨d, hd, rfl⟩ := List.mem_map.mp hy
      exact (part_ln (ok.ok d hd)).1.sz
    rw [List.length_map] at h1 ⊢
    have h0 : (Str.ofString " ").length = 1 := by decide +kernel
    rw [h0]
    omega
end
theorem line_cons (wd : Str) {ds : List PyData} (h : ds ≠ []) : lineT (.str wd :: ds) = wd ++ spB ++ lineT ds := by
  cases ds with
  | nil => exact absurd rfl h
  | cons d r =>
    apply TL.ext_tl
    show (Txt.join spB (pS (.str wd) :: pS d :: r.map pS)).cps.toList = (wd ++ spB ++ lineT (d :: r)).cps.toList
    rw [app_cs, app_cs]
    unfold lineT
    rw [cs_join, cs_join]
    show wd.cps.toList ++ (spB.cps.toList ++ TL.joinL spB.cps.toList _) = _
    rw [List.append_assoc]
    rfl
theorem line_one (d : PyData) : lineT [d] = pS d := by
  apply TL.ext_tl
  show (Txt.join spB [pS d]).cps.toList = _
  rw [cs_join]
  rfl
theorem str_app (a b c : Str) : a ++ b ++ c = a ++ (b ++ c) := by
  apply TL.ext_tl
  show (a ++ b ++ c).cps.toList = (a ++ (b ++ c)).cps.toList
  rw [app_cs, app_cs, app_cs, app_cs, List.append_assoc]
section
variable {K : PySem.W.Frag}
theorem str_te {σ : L2.St} {H : Hp} {x : V} {d : PyData} {j : Nat} {Q : VK} (hσ : σ[j]? = some (some x)) (hx : Dp K H x d) (ok : PartOk d) (q : Q (.str (pS d)) H) : (tCB rStrA (tCons (tVar j) tNil)) σ H Q := by
  refine ⟨_, hσ, ?_⟩
  cases hx with
  | int i => exact .inl ⟨i, rfl, Pl.log (i := i) ok, q⟩
  | str s => exact .inr ⟨s, rfl, q⟩
  | _ => exact ok.elim
theorem part_len {d : PyData} (h : PartOk d) : (pS d).length ≤ 9 := (part_ln h).1.sz
end
theorem cut_strs (xs : List Str) (lo hi : Option Int) : ∃ zs : List Str, cutV (xs.map V.str) lo hi = zs.map V.str ∧ (∀ z ∈ zs, z ∈ xs) ∧ zs.length ≤ xs.length := by
  refine ⟨(xs.drop (HT.sIx xs.length 0 lo)).take (HT.sIx xs.length xs.length hi - HT.sIx xs.length 0 lo), ?_, ?_, ?_⟩
  · unfold cutV
    rw [List.length_map, List.map_take, List.map_drop]
  · exact fun z hz => List.mem_of_mem_drop (List.mem_of_mem_take hz)
  · rw [List.length_take, List.length_drop]
    omega
theorem joinL_eq {S : List Nat} : ∀ {ps : List (List Nat)}, ps ≠ [] → (TL.joinL S ps).length + S.length = (ps.map (·.length)).sum + ps.length * S.length
  | [], h => absurd rfl h
  | [p], _ => by
    show p.length + S.length = (p.length + 0) + 1 * S.length
    omega
  | p :: q :: r, _ => by
    have ih := joinL_eq (S := S) (ps := q :: r) (by simp)
    show (p ++ (S ++ TL.joinL S (q :: r))).length + S.length = (p.length + ((q :: r).map (·.length)).sum) + ((q :: r).length + 1) * S.length
    rw [List.length_append, List.length_append, Nat.succ_mul]
    omega
theorem sum_set (v : Nat) : ∀ (l : List Nat) (i : Nat), (l.set i v).sum ≤ l.sum + v
  | [], _ => Nat.zero_le _
  | x :: l, 0 => by
    show v + l.sum ≤ (x + l.sum) + v
    omega
  | x :: l, i + 1 => by
    have := sum_set v l i
    show x + (l.set i v).sum ≤ (x + l.sum) + v
    omega
theorem join_set {y z : Str} {i b c : Nat} (hy : LnB b y) (hz : LnB c z) : LnB (b + c) (Txt.join spB ((spS y).set i z)) := by
  have e : Txt.join spB (spS y) = y := by
    rw [TL.join_eq]
    exact PySem.StrLaws.join_split y spB
  refine ⟨?_, fun k hk => ?_, fun hk => ?_⟩
  · have h1 := congrArg (fun s : Str => s.cps.toList.length) e
    simp only [cs_join, Array.length_toList] at h1
    have ne := spS_ne y
    have q1 := joinL_eq (S := spB.cps.toList) (ps := (spS y).map fun p => p.cps.toList) (by simpa using ne)
    have q2 := joinL_eq (S := spB.cps.toList) (ps := ((spS y).set i z).map fun p => p.cps.toList) (by simpa using ne)
    have q3 := sum_set z.cps.size (((spS y).map fun p => p.cps.toList).map (·.length)) i
    have e3 : (((spS y).set i z).map fun p => p.cps.toList).map (·.length) = (((spS y).map fun p => p.cps.toList).map (·.length)).set i z.cps.size := by
      rw [List.map_set, List.map_set, Array.length_toList]
    have a1 := hy.sz
    have a2 := hz.sz
    rw [← Array.length_toList, cs_join]
    rw [e3] at q2
    simp only [List.length_map, List.length_set] at q1 q2
    omega
  · rcases join_mem hk with w | ⟨p, hp, w⟩
    · rw [List.mem_singleton.mp (show k ∈ [32] from w)]
      decide
    · rcases List.mem_or_eq_of_mem_set hp with v | v
      · exact hy.as k (part_mem v w)
      · rw [v] at w
        exact hz.as k w
  · rcases join_mem hk with w | ⟨p, hp, w⟩
    · exact absurd w (by decide)
    · rcases List.mem_or_eq_of_mem_set hp with v | v
      · exact hy.nl (part_mem v w)
      · rw [v] at w
        exact hz.nl w
section
variable {P : Program} {w : World} {K : PySem.W.Frag} {mg : Str → Option Value} {base : Heap} {T : Addr} {a l : Addr} {ds : List Int}
theorem two_te {σ : L2.St} {H : Hp} {v i j b : Nat} {q : Addr} {xs : List Str} {tA tB : TE} {Q : VK} (hv : σ[v]? = some (some (.ref q))) (e : H q = some (.lst (xs.map V.str))) (W : Wd H a l ds) (qa : q ≠ a)
    (hA : ∀ H1 (R : VK), R (iV i) H1 → tA σ H1 R) (hB : ∀ H1 (R : VK), R (iV j) H1 → tB σ H1 R) (hx : ∀ x ∈ xs, LnB b x) (hl : xs.length ≤ 200)
    (hq : ∀ (H' : Hp) (p : Addr) (ys : List Str), Kp a H H' → Wd H' a l ds → H' p = some (.lst (ys.map V.str)) → p ≠ a → (∀ y ∈ ys, LnB b y) → ys.length ≤ 2 * xs.length → Q (.ref p) H') :
    (tOp rCat (tSl (rSlL K) (tVar v) tNoPart (tPart tA)) (tSl (rSlL K) (tVar v) (tPart tB) tNoPart)) σ H Q := by
  obtain ⟨z1, ez1, m1, l1⟩ := cut_strs xs none (some ((i : Nat) : Int))
  obtain ⟨z2, ez2, m2, l2⟩ := cut_strs xs (some ((j : Nat) : Int)) none
  refine ⟨_, hv, hA _ _ ⟨_, rfl, q, _, rfl, SqL.of e, fun s1 n1 => ?_⟩⟩
  have k1 := Kp.new (a := a) (o := .lst (cutV (xs.map V.str) none (some ((i : Nat) : Int)))) n1
  have W1 := W.new (o := .lst (cutV (xs.map V.str) none (some ((i : Nat) : Int)))) n1
  have e1 := k1 _ _ qa e
  have f1 : (upd H s1 (.lst (cutV (xs.map V.str) none (some ((i : Nat) : Int))))) s1 = some (.lst (z1.map V.str)) := by rw [upd_same, ez1]
  generalize upd H s1 (.lst (cutV (xs.map V.str) none (some ((i : Nat) : Int)))) = H1 at k1 W1 e1 f1
  refine ⟨_, hv, hB _ _ ⟨_, rfl, q, _, rfl, SqL.of e1, fun s2 n2 => ?_⟩⟩
  have k2 := Kp.new (a := a) (o := .lst (cutV (xs.map V.str) (some ((j : Nat) : Int)) none)) n2
  have W2 := W1.new (o := .lst (cutV (xs.map V.str) (some ((j : Nat) : Int)) none)) n2
  have f2 : (upd H1 s2 (.lst (cutV (xs.map V.str) (some ((j : Nat) : Int)) none))) s2 = some (.lst (z2.map V.str)) := by rw [upd_same, ez2]
  have f1' := k2 _ _ (W1.at'.elim fun n h => ne_of f1 h.2 (by intro z; cases z)) f1
  generalize upd H1 s2 (.lst (cutV (xs.map V.str) (some ((j : Nat) : Int)) none)) = H2 at k2 W2 f2 f1'
  refine ⟨s1, s2, _, _, rfl, rfl, f1', f2, line200 (by rw [List.length_map, List.length_map]; omega), fun p np => ?_⟩
  refine hq _ p (z1 ++ z2) ((k1.trans k2).trans (Kp.new np)) (W2.new np) (by rw [upd_same, List.map_append]) (W2.fresh np) (fun y hy => ?_) (by rw [List.length_append]; omega)
  rcases List.mem_append.mp hy with z | z
  · exact hx y (m1 y z)
  · exact hx y (m2 y z)
theorem ins_te {σ : L2.St} {H : Hp} {v i j b : Nat} {q : Addr} {xs : List Str} {tA tB te : TE} {Q : VK} (hv : σ[v]? = some (some (.ref q))) (e : H q = some (.lst (xs.map V.str))) (W : Wd H a l ds) (qa : q ≠ a)
    (hA : ∀ H1 (R : VK), R (iV i) H1 → tA σ H1 R) (hB : ∀ H1 (R : VK), R (iV j) H1 → tB σ H1 R) (hx : ∀ x ∈ xs, LnB b x) (hl : xs.length ≤ 200)
    (hte : ∀ H1 (R : VK), Kp a H H1 → Wd H1 a l ds → (∀ (y : Str) (H2 : Hp), Kp a H1 H2 → Wd H2 a l ds → LnB b y → R (.str y) H2) → te σ H1 R)
    (hq : ∀ (H' : Hp) (p : Addr) (ys : List Str), Kp a H H' → Wd H' a l ds → H' p = some (.lst (ys.map V.str)) → p ≠ a → (∀ y ∈ ys, LnB b y) → ys.length ≤ 2 * xs.length + 1 → Q (.ref p) H') :
    (tOp rCat (tOp rCat (tSl (rSlL K) (tVar v) tNoPart (tPart tA)) (tLst (tCons te tNil))) (tSl (rSlL K) (tVar v) (tPart tB) tNoPart)) σ H Q := by
  obtain ⟨z1, ez1, m1, l1⟩ := cut_strs xs none (some ((i : Nat) : Int))
  obtain ⟨z2, ez2, m2, l2⟩ := cut_strs xs (some ((j : Nat) : Int)) none
  refine ⟨_, hv, hA _ _ ⟨_, rfl, q, _, rfl, SqL.of e, fun s1 n1 => ?_⟩⟩
  have k1 := Kp.new (a := a) (o := .lst (cutV (xs.map V.str) none (some ((i : Nat) : Int)))) n1
  have W1 := W.new (o := .lst (cutV (xs.map V.str) none (some ((i : Nat) : Int)))) n1
  have e1 := k1 _ _ qa e
  have f1 : (upd H s1 (.lst (cutV (xs.map V.str) none (some ((i : Nat) : Int))))) s1 = some (.lst (z1.map V.str)) := by rw [upd_same, ez1]
  generalize upd H s1 (.lst (cutV (xs.map V.str) none (some ((i : Nat) : Int)))) = H1 at k1 W1 e1 f1
  have a1 : s1 ≠ a := W1.at'.elim fun n h => ne_of f1 h.2 (by intro z; cases z)
  refine hte _ _ k1 W1 fun y H2 k2 W2 hy => ?_
  replace e1 := k2 _ _ qa e1
  replace f1 := k2 _ _ a1 f1
  refine ⟨line200 (show 1 ≤ 1000 by decide), fun p3 n3 => ?_⟩
  have k3 := Kp.new (a := a) (o := .lst [V.str y]) n3
  have W3 := W2.new (o := .lst [V.str y]) n3
  have a3 := W2.fresh n3
  have f3 : (upd H2 p3 (.lst [V.str y])) p3 = some (.lst [V.str y]) := upd_same
  replace e1 := k3 _ _ qa e1
  replace f1 := k3 _ _ a1 f1
  generalize upd H2 p3 (.lst [V.str y]) = H3 at k3 W3 f3 e1 f1
  refine ⟨s1, p3, _, _, rfl, rfl, f1, f3, line200 (by rw [List.length_map]; show _ + 1 ≤ 1000; omega), fun p4 n4 => ?_⟩
  have k4 := Kp.new (a := a) (o := .lst (z1.map V.str ++ [V.str y])) n4
  have W4 := W3.new (o := .lst (z1.map V.str ++ [V.str y])) n4
  have a4 := W3.fresh n4
  have f4 : (upd H3 p4 (.lst (z1.map V.str ++ [V.str y]))) p4 = some (.lst ((z1 ++ [y]).map V.str)) := by rw [upd_same, List.map_append]; rfl
  replace e1 := k4 _ _ qa e1
  generalize upd H3 p4 (.lst (z1.map V.str ++ [V.str y])) = H4 at k4 W4 f4 e1
  refine ⟨_, hv, hB _ _ ⟨_, rfl, q, _, rfl, SqL.of e1, fun s2 n2 => ?_⟩⟩
  have k5 := Kp.new (a := a) (o := .lst (cutV (xs.map V.str) (some ((j : Nat) : Int)) none)) n2
  have W5 := W4.new (o := .lst (cutV (xs.map V.str) (some ((j : Nat) : Int)) none)) n2
  have f2 : (upd H4 s2 (.lst (cutV (xs.map V.str) (some ((j : Nat) : Int)) none))) s2 = some (.lst (z2.map V.str)) := by rw [upd_same, ez2]
  replace f4 := k5 _ _ a4 f4
  generalize upd H4 s2 (.lst (cutV (xs.map V.str) (some ((j : Nat) : Int)) none)) = H5 at k5 W5 f2 f4
  refine ⟨p4, s2, _, _, rfl, rfl, f4, f2, line200 (by rw [List.length_map, List.length_map, List.length_append]; show _ + 1 + _ ≤ 1000; omega), fun p np => ?_⟩
  refine hq _ p ((z1 ++ [y]) ++ z2) (((((k1.trans k2).trans k3).trans k4).trans k5).trans (Kp.new np)) (W5.new np) (by rw [upd_same]; simp only [List.map_append]) (W5.fresh np) (fun x hx2 => ?_) (by rw [List.length_append, List.length_append]; show _ + 1 + _ ≤ _; omega)
  rcases List.mem_append.mp hx2 with z | z
  · rcases List.mem_append.mp z with z | z
    · exact hx x (m1 x z)
    · rw [List.mem_singleton.mp z]
      exact hy
  · exact hx x (m2 x z)
theorem text_bound {xs : List Str} (hl : xs.length ≤ 900) (hx : ∀ x ∈ xs, x.length ≤ 10000) : ((xs.map fun x => x ++ nlS).map (·.length)).sum + (xs.map fun x => x ++ nlS).length * (Str.ofString "").length ≤ 16777216 := by
  have h1 := len_sum (xs := xs.map fun x => x ++ nlS) (b := 10001) fun y hy => by
    obtain ⟨x, h, rfl⟩ := List.mem_map.mp hy
    rw [app_len]
    have : nlS.length = 1 := by decide +kernel
    have := hx x h
    omega
  rw [List.length_map] at h1 ⊢
  have h0 : (Str.ofString "").length = 0 := by decide +kernel
  rw [h0, Nat.mul_zero, Nat.add_zero]
  have h2 : xs.length * 10001 ≤ 900 * 10001 := Nat.mul_le_mul_right _ hl
  omega
theorem text_lc {σ : L2.St} {H : Hp} {j : Nat} {q D : Addr} {xs : List Str} {vs : List Nat} {Qd : Hp → Prop} (e : H q = some (.lst (xs.map V.str))) (hl : xs.length ≤ 900) (hx : ∀ x ∈ xs, x.length ≤ 10000) (nD : H D = none)
    (hj : ∀ v, ((wipe σ vs).set j (some v))[j]? = some (some v) ∧ wipe ((wipe σ vs).set j (some v)) vs = wipe σ vs) (hd : ∀ H', Same H H' → H' D = some (.lst ((xs.map fun x => x ++ nlS).map V.str)) → Qd H') :
    ∃ W : Nat → Nat → Hp → Prop, (∃ m, W 0 m (upd H D (.lst []))) ∧ ∀ i m H, W i m H →
      ((Itl K q).stop i H ∧ Qd H) ∨ ((Itl K q).go i H ∧ ∃ Nx : Hp → Prop, (∀ H', Nx H' → ∃ m', m' < m ∧ W (i + 1) m' H') ∧ ∀ x H', (Itl K q).yld i H x H' → gName j x (wipe σ vs) H' fun σ2 H2 => wipe σ2 vs = wipe σ vs ∧ tYes σ2 H2 fun b H3 =>
        if b = true then (tOp rAddStr (tVar j) (tC (.str "\n"))) σ2 H3 fun y H4 => ∃ acc, H4 D = some (.lst acc) ∧ acc.length < sizeLine ∧ Nx (upd H4 D (.lst (acc ++ [y]))) else Nx H3) := by
  refine lc_listD ((xs.map fun x => x ++ nlS).map .str) (noLs_strs _) (by rw [List.length_map, List.length_map, List.length_map]) (by rw [List.length_map]; omega) (SqL.of e) nD (fun i x d H2 Q2 hxi hdi sm q2 => ?_) (fun H2 acc sm e2 dp => ?_)
  · rw [List.getElem?_map, List.getElem?_map] at hdi
    obtain ⟨s, es, rfl⟩ := Option.map_eq_some_iff.mp hdi
    obtain ⟨z, ez, rfl⟩ := Option.map_eq_some_iff.mp es
    rw [List.getElem?_map, ez] at hxi
    cases hxi
    refine ⟨(hj _).2, _, (hj _).1, z, nlS, rfl, rfl, ?_, q2 _ _ (fun _ _ e => e) (.str _)⟩
    have h1 := hx z (List.mem_of_getElem? ez)
    have : nlS.length = 1 := by decide +kernel
    rw [this, sizeLine_eq]
    omega
  · have ea := strs_dps dp
    subst ea
    exact hd _ sm e2
end
end C1

/-! Numbers of texts, by the program. -/
namespace C1
open PySem PySem.Spec PyProof.Rows L2 SX
open K0 (Cs digs isNum)
abbrev sPowerOfTen : Stmt := topS 5
abbrev sNumberOf : Stmt := topS 4
theorem scPowerOfTen : FnScope ["many"] ["many"] (defScope sPowerOfTen) := ⟨rfl, rfl, rfl, by decide +kernel, rfl, by decide +kernel, by decide +kernel⟩
theorem scNumberOf : FnScope ["text", "worth", "at", "part"] ["text"] (defScope sNumberOf) := ⟨rfl, rfl, rfl, by decide +kernel, rfl, by decide +kernel, by decide +kernel⟩
theorem rg_one {n : Nat} (h1 : 1 ≤ n) (h2 : n ≤ 600) : RgC 0 ((n : Nat) : Int) 1000 1 := by
  have e : Builtin.Range.rangeSize 0 ((n : Nat) : Int) 1000 = 1 := by
    unfold Builtin.Range.rangeSize
    rw [if_pos (by decide), if_pos (by omega)]
    omega
  refine ⟨by decide, by decide, ?_, e⟩
  unfold Builtin.Range.small
  rw [e]
  have fit : ∀ k : Nat, k ≤ 2000 → Builtin.Range.rangeFitsLong ((k : Nat) : Int) = true := fun k hk => by
    unfold Builtin.Range.rangeFitsLong
    rw [Bool.and_eq_true]
    exact ⟨decide_eq_true (by omega), decide_eq_true (by omega)⟩
  have f1 := fit n (by omega)
  have f2 : Builtin.Range.rangeFitsLong (((n : Nat) : Int) + (1000 - 1)) = true := by
    have := fit (n + 999) (by omega)
    rw [show (((n + 999 : Nat)) : Int) = ((n : Nat) : Int) + (1000 - 1) by omega] at this
    exact this
  rw [if_pos (by decide), f1, f2]
  rfl
theorem cut_whole {z : Str} (h : z.length ≤ 1000) : cutS z (some 0) (some 1000) = z := by
  apply TL.ext_tl
  show ((z.cps.toList.drop (HT.sIx z.length 0 (some 0))).take (HT.sIx z.length z.length (some 1000) - HT.sIx z.length 0 (some 0))) = z.cps.toList
  rw [show HT.sIx z.length 0 (some 0) = 0 from HT.sIx_nat z.length 0 0 ▸ (by omega), show HT.sIx z.length z.length (some 1000) = z.length from HT.sIx_nat z.length z.length 1000 ▸ (by omega), List.drop_zero, Nat.sub_zero]
  exact List.take_of_length_le (by rw [Array.length_toList]; exact Nat.le_refl _)
theorem ten_val (n : Nat) : NumText.digitsVal (49 :: List.replicate n 48) = 10 ^ n := by
  have key : ∀ (n a : Nat), (List.replicate n 48).foldl (fun acc c => acc * 10 + (c - 48)) a = a * 10 ^ n := fun n => by
    induction n with
    | zero =>
      intro a
      rw [Nat.pow_zero, Nat.mul_one]
      rfl
    | succ n ih =>
      intro a
      rw [List.replicate_succ, List.foldl_cons, ih, Nat.pow_succ, Nat.mul_comm (10 ^ n) 10, ← Nat.mul_assoc]
      rfl
  show (List.replicate n 48).foldl (fun acc c => acc * 10 + (c - 48)) 1 = _
  exact (key n 1).trans (Nat.one_mul _)
theorem ten_text {n : Nat} (h : n ≤ 600) : intText? (Str.ofString "1" ++ Txt.mul (Str.ofString "0") ((n : Nat) : Int)) = some (((10 ^ n : Nat)) : Int) ∧ (Str.ofString "1" ++ Txt.mul (Str.ofString "0") ((n : Nat) : Int)).length = n + 1 := by
  have e : (Str.ofString "1" ++ Txt.mul (Str.ofString "0") ((n : Nat) : Int)).cps.toList = 49 :: List.replicate n 48 := by
    rw [app_cs, show Str.ofString "0" = (⟨#[48]⟩ : Str) from rfl, RuS.mul_one]
    rfl
  have e2 : Str.ofString "1" ++ Txt.mul (Str.ofString "0") ((n : Nat) : Int) = S (49 :: List.replicate n 48) := TL.ext_tl (by
    show (Str.ofString "1" ++ Txt.mul (Str.ofString "0") ((n : Nat) : Int)).cps.toList = _
    rw [e])
  refine ⟨?_, ?_⟩
  · have hi := int_S (a := 49 :: List.replicate n 48) (List.all_eq_true.mpr fun c hc => by
      rcases List.mem_cons.mp hc with z | z
      · rw [z]
        rfl
      · rw [(List.mem_replicate.mp z).2]
        rfl) (by simp) (by rw [List.length_cons, List.length_replicate]; omega)
    rw [e2, hi, ten_val]
  · show (Str.ofString "1" ++ Txt.mul (Str.ofString "0") ((n : Nat) : Int)).cps.size = n + 1
    rw [← Array.length_toList, e, List.length_cons, List.length_replicate]
section
variable {P : Program} {w : World} {K : PySem.W.Frag} {mg : Str → Option Value} {base : Heap} {T : Addr}
structure BN (mg : Str → Option Value) : Prop where
  len : mg "len" = none
  int : mg "int" = none
  range : mg "range" = none
def spTen : Sp := fun vs H Q _ => ∃ n : Nat, vs = [iV n] ∧ n ≤ 600 ∧ Q (.int (((10 ^ n : Nat)) : Int)) H
theorem ok_ten {f : Addr} {fd : FuncData} (F : Fun K "power_of_ten" "power_of_ten" sPowerOfTen f fd) (B : BN mg) : FnOk P w K mg base CX0 1 f fd ["many"] spTen := by
  refine F.ok scPowerOfTen (fun vs H Q E h => ?_) (fun cdv A outer s H vs Q E hr h => ?_)
  · obtain ⟨n, rfl, _⟩ := h
    rfl
  · obtain ⟨n, rfl, hn, q⟩ := h
    have nd := scPowerOfTen.nd
    refine ⟨_, (pss_one (ps_ret (pe_callTy call_int_str (by rfl) B.int (by decide +kernel) (pa_cons (pe_op op_add_str (pe_str) (pe_op RuS.op_repS (pe_str) (pv 0))) pa_nil)))), ?_⟩
    obtain ⟨e1, e2⟩ := ten_text hn
    have e3 : (Str.ofString "1").length = 1 := rfl
    refine ⟨_, rfl, Str.ofString "0", _, rfl, rfl, RuS.mul_ok (by omega), _, _, rfl, rfl, ?_, _, _, rfl, e1, by omega, q⟩
    rw [app_len] at e2
    rw [e2, sizeLine_eq]
    omega
def spNof : Sp := fun vs H Q _ => ∃ x : Str, vs = [.str x] ∧ numB x = true ∧ x.cps.size ≤ 600 ∧ Q (iV (numV x)) H
theorem ok_nof {f fW : Addr} {fd fdW : FuncData} {tk : Tok} (F : Fun K "number_of" "number_of" sNumberOf f fd) (B : BN mg) (gA : mg "AT_ONCE" = some (.int 1000 tk))
    (GW : FnOk P w K mg base CX0 1 fW fdW ["many"] spTen) (kW : PySem.W.keepIn K (.ref fW) = true) (bW : Binds K fdW ["many"] []) (gW : mg "power_of_ten" = some (.ref fW)) : FnOk P w K mg base CX0 2 f fd ["text"] spNof := by
  refine F.ok scNumberOf (fun vs H Q E h => ?_) (fun cdv A outer s H vs Q E hr h => ?_)
  · obtain ⟨x, rfl, _⟩ := h
    rfl
  · obtain ⟨x, rfl, hx, hz, q⟩ := h
    have nd := scNumberOf.nd
    refine ⟨_, (pss_cons (ps_set (i := 1) nd rfl (.inl rfl) (pe_int))
      (C8.pss_cut (ps_for PassesOwn.never rfl (pi_range3 (by rfl) B.range (pa_cons (pe_int) (pa_cons (pe_callB call_len_str (by rfl) B.len PySem.boot_len (pa_cons (pv 0) pa_nil)) (pa_cons (pe_glob (v := .int 1000) (by rfl) gA ⟨_, rfl⟩) pa_nil)))) (pg_name (i := 2) nd rfl (.inl rfl)) (pss_cons (ps_set (i := 3) nd rfl (.inl rfl) (pe_slice sl_str (pv 0) (po_some (pv 2)) (po_some (pe_op op_add (pv 2) (pe_glob (v := .int 1000) (by rfl) gA ⟨_, rfl⟩)))))
      (pss_one (ps_set (i := 1) nd rfl (.inl rfl) (pe_op op_add (pe_op op_mul (pv 1) (pe_call GW hr (by rfl) gW kW bW .nil pass0 (pa_cons (pe_callB call_len_str (by rfl) B.len PySem.boot_len (pa_cons (pv 3) pa_nil)) pa_nil))) (pe_callTy call_int_str (by rfl) B.int (by decide +kernel) (pa_cons (pv 3) pa_nil)))))))
      (pss_one (ps_ret (pv 1))))), ?_⟩
    have h1 : 1 ≤ x.cps.size := by
      have := (isNum_all hx).1
      rw [← Array.length_toList]
      exact List.length_pos_iff.mpr this
    obtain ⟨e1, e2⟩ := num_int hx (by show x.cps.toList.length ≤ 600; rw [Array.length_toList]; exact hz)
    have ls : x.length ≤ sizeLine := by
      show x.cps.size ≤ _
      rw [sizeLine_eq]
      omega
    refine ⟨fun σ H' => H' = H ∧ ∃ y2 y3, σ = [some (.str x), some (iV (numV x)), y2, y3], ?_, ?_⟩
    · refine ⟨_, rfl, _, rfl, ls, 0, _, 1000, 1, rfl, rg_one (n := x.length) h1 hz, ?_⟩
      refine for_rangeC (lo := 0) (c := 1000) (n := 1) (fun i σ H' => H' = H ∧ ∃ y2 y3, σ = [some (.str x), some (if i = 0 then .int 0 else iV (numV x)), y2, y3]) ⟨rfl, none, none, rfl⟩ (fun i σ H' hi h => ?_) (fun σ H' h => ?_)
      · obtain ⟨rfl, y2, y3, rfl⟩ := h
        obtain rfl : i = 0 := by omega
        refine ⟨_, rfl, _, rfl, _, rfl, _, rfl, _, _, rfl, rfl, _, rfl, x, rfl, ls, ?_⟩
        rw [show ((0 : Int) + ((0 : Nat) : Int) * 1000) = 0 from rfl, show ((0 : Int) + 1000) = 1000 from rfl, cut_whole (z := x) (by show x.cps.size ≤ 1000; omega)]
        refine ⟨_, rfl, _, rfl, _, rfl, ls, x.length, rfl, hz, _, _, rfl, rfl, .inl ⟨by decide, by decide⟩, _, rfl, x, _, rfl, e1, e2, _, _, rfl, rfl, rfl, some (.int 0), some (.str x), ?_⟩
        show [some (V.str x), some (V.int (0 * ((10 ^ x.length : Nat) : Int) + ((numV x : Nat) : Int))), some (V.int 0), some (V.str x)] = _
        rw [Int.zero_mul, Int.zero_add]
        rfl
      · obtain ⟨rfl, y2, y3, rfl⟩ := h
        exact ⟨rfl, y2, y3, rfl⟩
    rintro σ H' ⟨rfl, y2, y3, rfl⟩
    exact ⟨_, rfl, q⟩
end
end C1

/-! Texts whose lines are short, also when signs are changed. -/
namespace C1
open PySem PySem.Spec PyProof.Rows L2 SX
open K0 (Cs digs isNum)
/-- the first line has at most k signs, the others at most b -/
def RL (b : Nat) : Nat → List Nat → Prop
  | _, [] => True
  | k, c :: r => if c = 10 then RL b b r else 1 ≤ k ∧ RL b (k - 1) r
theorem RL.mono {b b' : Nat} (hb : b ≤ b') : ∀ {l : List Nat} {k k' : Nat}, RL b k l → k ≤ k' → RL b' k' l
  | [], _, _, _, _ => trivial
  | c :: r, k, k', h, hk => by
    show if c = 10 then RL b' b' r else 1 ≤ k' ∧ RL b' (k' - 1) r
    have h' : if c = 10 then RL b b r else 1 ≤ k ∧ RL b (k - 1) r := h
    by_cases e : c = 10
    · rw [if_pos e] at h' ⊢
      exact RL.mono hb h' hb
    · rw [if_neg e] at h' ⊢
      exact ⟨by omega, RL.mono hb h'.2 (by omega)⟩
theorem RL.app {a b : Nat} : ∀ {u v : List Nat} {k : Nat}, RL a k u → RL b b v → RL (a + b) (k + b) (u ++ v)
  | [], v, k, _, h => RL.mono (by omega) h (by omega)
  | c :: r, v, k, hu, hv => by
    show if c = 10 then RL (a + b) (a + b) (r ++ v) else 1 ≤ k + b ∧ RL (a + b) (k + b - 1) (r ++ v)
    have h' : if c = 10 then RL a a r else 1 ≤ k ∧ RL a (k - 1) r := hu
    by_cases e : c = 10
    · rw [if_pos e] at h' ⊢
      exact RL.app h' hv
    · rw [if_neg e] at h' ⊢
      refine ⟨by omega, ?_⟩
      rw [show k + b - 1 = (k - 1) + b by omega]
      exact RL.app h'.2 hv
theorem RL.take {b : Nat} : ∀ {l : List Nat} {k n : Nat}, RL b k l → RL b k (l.take n)
  | [], _, _, _ => by
    rw [List.take_nil]
    trivial
  | c :: r, k, 0, _ => trivial
  | c :: r, k, n + 1, h => by
    show if c = 10 then RL b b (r.take n) else 1 ≤ k ∧ RL b (k - 1) (r.take n)
    have h' : if c = 10 then RL b b r else 1 ≤ k ∧ RL b (k - 1) r := h
    by_cases e : c = 10
    · rw [if_pos e] at h' ⊢
      exact RL.take h'
    · rw [if_neg e] at h' ⊢
      exact ⟨h'.1, RL.take h'.2⟩
theorem RL.drop {b : Nat} : ∀ {l : List Nat} {k n : Nat}, RL b k l → k ≤ b → RL b b (l.drop n)
  | [], _, _, _, _ => by
    rw [List.drop_nil]
    trivial
  | c :: r, k, 0, h, hk => RL.mono (Nat.le_refl b) h hk
  | c :: r, k, n + 1, h, hk => by
    show RL b b (r.drop n)
    have h' : if c = 10 then RL b b r else 1 ≤ k ∧ RL b (k - 1) r := h
    by_cases e : c = 10
    · rw [if_pos e] at h'
      exact RL.drop h' (Nat.le_refl b)
    · rw [if_neg e] at h'
      exact RL.drop h'.2 (by omega)
theorem RL.line {b : Nat} : ∀ {p rest : List Nat} {k : Nat}, p.length ≤ k → 10 ∉ p → RL b b rest → RL b k (p ++ 10 :: rest)
  | [], rest, k, _, _, h => by
    show if 10 = 10 then RL b b rest else _
    rw [if_pos rfl]
    exact h
  | c :: r, rest, k, hl, hn, h => by
    have hc : c ≠ 10 := fun e => hn (by rw [e]; exact List.mem_cons_self ..)
    rw [List.length_cons] at hl
    show if c = 10 then _ else 1 ≤ k ∧ RL b (k - 1) (r ++ 10 :: rest)
    rw [if_neg hc]
    exact ⟨by omega, RL.line (by omega) (fun z => hn (List.mem_cons_of_mem _ z)) h⟩
theorem RL.one {b : Nat} : ∀ {p : List Nat} {k : Nat}, p.length ≤ k → 10 ∉ p → RL b k p
  | [], _, _, _ => trivial
  | c :: r, k, hl, hn => by
    have hc : c ≠ 10 := fun e => hn (by rw [e]; exact List.mem_cons_self ..)
    rw [List.length_cons] at hl
    show if c = 10 then _ else 1 ≤ k ∧ RL b (k - 1) r
    rw [if_neg hc]
    exact ⟨by omega, RL.one (by omega) (fun z => hn (List.mem_cons_of_mem _ z))⟩
theorem RL.join {b : Nat} : ∀ {ps : List (List Nat)}, (∀ p ∈ ps, p.length ≤ b ∧ 10 ∉ p) → RL b b (TL.joinL [10] ps)
  | [], _ => trivial
  | [p], h => RL.one (h p (List.mem_singleton.mpr rfl)).1 (h p (List.mem_singleton.mpr rfl)).2
  | p :: q :: r, h => RL.line (h p (List.mem_cons_self ..)).1 (h p (List.mem_cons_self ..)).2 (RL.join fun x hx => h x (List.mem_cons_of_mem _ hx))
theorem RL.line_len {b : Nat} : ∀ {p rest : List Nat} {k : Nat}, RL b k (p ++ 10 :: rest) → 10 ∉ p → p.length ≤ k ∧ RL b b rest
  | [], rest, k, h, _ => by
    have h' : if 10 = 10 then RL b b rest else 1 ≤ k ∧ RL b (k - 1) rest := h
    rw [if_pos rfl] at h'
    exact ⟨Nat.zero_le _, h'⟩
  | c :: r, rest, k, h, hn => by
    have hc : c ≠ 10 := fun e => hn (by rw [e]; exact List.mem_cons_self ..)
    have h' : if c = 10 then RL b b (r ++ 10 :: rest) else 1 ≤ k ∧ RL b (k - 1) (r ++ 10 :: rest) := h
    rw [if_neg hc] at h'
    obtain ⟨a1, a2⟩ := RL.line_len h'.2 (fun z => hn (List.mem_cons_of_mem _ z))
    exact ⟨by rw [List.length_cons]; have := h'.1; omega, a2⟩
theorem RL.one_len {b : Nat} : ∀ {p : List Nat} {k : Nat}, RL b k p → 10 ∉ p → p.length ≤ k
  | [], _, _, _ => Nat.zero_le _
  | c :: r, k, h, hn => by
    have hc : c ≠ 10 := fun e => hn (by rw [e]; exact List.mem_cons_self ..)
    have h' : if c = 10 then RL b b r else 1 ≤ k ∧ RL b (k - 1) r := h
    rw [if_neg hc] at h'
    have := RL.one_len h'.2 (fun z => hn (List.mem_cons_of_mem _ z))
    rw [List.length_cons]
    have := h'.1
    omega
theorem RL.lines {b : Nat} : ∀ {ps : List (List Nat)}, RL b b (TL.joinL [10] ps) → (∀ p ∈ ps, 10 ∉ p) → ∀ p ∈ ps, p.length ≤ b
  | [], _, _, p, hp => by cases hp
  | [q], h, hn, p, hp => by
    rw [List.mem_singleton.mp hp]
    exact RL.one_len h (hn q (List.mem_singleton.mpr rfl))
  | q :: q2 :: r, h, hn, p, hp => by
    obtain ⟨a1, a2⟩ := RL.line_len (p := q) (rest := TL.joinL [10] (q2 :: r)) h (hn q (List.mem_cons_self ..))
    rcases List.mem_cons.mp hp with z | z
    · rw [z]
      exact a1
    · exact RL.lines a2 (fun x hx => hn x (List.mem_cons_of_mem _ hx)) p z
theorem count_join : ∀ {ps : List (List Nat)}, ps ≠ [] → (∀ p ∈ ps, 10 ∉ p) → (TL.joinL [10] ps).count 10 + 1 = ps.length
  | [], h, _ => absurd rfl h
  | [p], _, hn => by
    show p.count 10 + 1 = 1
    rw [List.count_eq_zero.mpr (hn p (List.mem_singleton.mpr rfl))]
  | p :: q :: r, _, hn => by
    have ih := count_join (ps := q :: r) (by simp) fun x hx => hn x (List.mem_cons_of_mem _ hx)
    show (p ++ (10 :: TL.joinL [10] (q :: r))).count 10 + 1 = (q :: r).length + 1
    rw [List.count_append, List.count_eq_zero.mpr (hn p (List.mem_cons_self ..)), List.count_cons_self]
    omega
/-- a text of at most n lines of at most b signs -/
structure TxL (b n : Nat) (x : Str) : Prop where
  run : RL b b (cs x)
  as : ∀ c ∈ cs x, c < 128
  nl : (cs x).count 10 + 1 ≤ n
theorem split_back (x : Str) : Txt.join nlS (splitL x) = x := by
  rw [TL.join_eq]
  exact PySem.StrLaws.join_split x nlS
theorem split_cs (x : Str) : cs x = TL.joinL [10] ((splitL x).map fun p => p.cps.toList) := by
  have := congrArg (fun s : Str => s.cps.toList) (split_back x)
  simp only [cs_join] at this
  exact this.symm
theorem TxL.lines {b n : Nat} {x : Str} (h : TxL b n x) : (splitL x).length ≤ n ∧ ∀ y ∈ splitL x, LnB b y := by
  have hn : ∀ p ∈ (splitL x).map fun p => p.cps.toList, 10 ∉ p := fun p hp => by
    obtain ⟨y, hy, rfl⟩ := List.mem_map.mp hp
    exact nl_free hy
  have hr := h.run
  have hc := h.nl
  rw [split_cs x] at hr hc
  have ne : (splitL x).map (fun p => p.cps.toList) ≠ [] := fun z => by
    have := split_pos x
    have z2 := List.map_eq_nil_iff.mp z
    rw [z2] at this
    cases this
  refine ⟨?_, fun y hy => ⟨?_, fun c hc => h.as c (part_mem hy hc), nl_free hy⟩⟩
  · have := count_join ne hn
    rw [List.length_map] at this
    omega
  · have := RL.lines hr hn y.cps.toList (List.mem_map.mpr ⟨y, hy, rfl⟩)
    rw [Array.length_toList] at this
    exact this
theorem TxL.size {b n : Nat} {x : Str} (h : TxL b n x) : x.cps.size ≤ n * (b + 1) := by
  obtain ⟨h1, h2⟩ := h.lines
  have := join_size (y := nlS) (ps := splitL x) (b := b) fun p hp => (h2 p hp).sz
  rw [split_back] at this
  have e : nlS.cps.size = 1 := rfl
  rw [e] at this
  exact Nat.le_trans this (Nat.mul_le_mul_right _ h1)
theorem txl_join {xs : List Str} {b n : Nat} (hne : xs ≠ []) (h : ∀ y ∈ xs, LnB b y) (hl : xs.length ≤ n) : TxL b n (Txt.join nlS xs) := by
  have hn : ∀ p ∈ xs.map fun p => p.cps.toList, p.length ≤ b ∧ 10 ∉ p := fun p hp => by
    obtain ⟨y, hy, rfl⟩ := List.mem_map.mp hp
    exact ⟨by rw [Array.length_toList]; exact (h y hy).sz, (h y hy).nl⟩
  have e : cs (Txt.join nlS xs) = TL.joinL [10] (xs.map fun p => p.cps.toList) := cs_join nlS xs
  refine ⟨?_, fun c hc => ?_, ?_⟩
  · rw [e]
    exact RL.join hn
  · rcases join_mem hc with z | ⟨p, hp, z⟩
    · rw [List.mem_singleton.mp (show c ∈ [10] from z)]
      decide
    · exact (h p hp).as c z
  · rw [e]
    have := count_join (ps := xs.map fun p => p.cps.toList) (fun z => hne (List.map_eq_nil_iff.mp z)) fun p hp => (hn p hp).2
    rw [List.length_map] at this
    omega
theorem txl_text {xs : List Str} {b n : Nat} (h : ∀ y ∈ xs, LnB b y) (hl : xs.length + 1 ≤ n) : TxL b n (textL xs) := by
  rw [text_eq]
  refine txl_join (by simp) (fun y hy => ?_) (by rw [List.length_append]; exact hl)
  rcases List.mem_append.mp hy with z | z
  · exact h y z
  · rw [List.mem_singleton.mp z]
    exact ln_nil.up (Nat.zero_le _)
theorem TxL.up {b n b' n' : Nat} {x : Str} (h : TxL b n x) (hb : b ≤ b') (hn : n ≤ n') : TxL b' n' x := ⟨RL.mono hb h.run hb, h.as, Nat.le_trans h.nl hn⟩
/-- signs left out, put in, or both -/
theorem TxL.edit {b n : Nat} {x y : Str} (h : TxL b n x) {i j : Nat} {m : List Nat} (hm : m.length ≤ 1) (ha : ∀ c ∈ m, c < 128) (e : cs y = (cs x).take i ++ (m ++ (cs x).drop j)) (hij : i ≤ j) : TxL (2 * b + 1) (n + 1) y := by
  have hr : RL 1 1 m := by
    match m, hm with
    | [], _ => trivial
    | [c], _ =>
      show if c = 10 then RL 1 1 [] else 1 ≤ 1 ∧ RL 1 0 []
      split
      · trivial
      · exact ⟨Nat.le_refl 1, trivial⟩
  refine ⟨?_, fun c hc => ?_, ?_⟩
  · rw [e]
    have := RL.app (RL.take (n := i) h.run) (RL.app hr (RL.drop (n := j) h.run (Nat.le_refl b)))
    exact RL.mono (by omega) this (by omega)
  · rw [e] at hc
    rcases List.mem_append.mp hc with z | z
    · exact h.as c (List.mem_of_mem_take z)
    · rcases List.mem_append.mp z with z | z
      · exact ha c z
      · exact h.as c (List.mem_of_mem_drop z)
  · rw [e, List.count_append, List.count_append]
    have h1 : m.count 10 ≤ 1 := Nat.le_trans List.count_le_length hm
    have h2 : ((cs x).take i).count 10 + ((cs x).drop j).count 10 ≤ (cs x).count 10 := by
      have h3 : ((cs x).drop j).count 10 ≤ ((cs x).drop i).count 10 := by
        rw [show j = i + (j - i) by omega, ← List.drop_drop]
        exact (List.drop_sublist _ _).count_le _
      have h4 : ((cs x).take i).count 10 + ((cs x).drop i).count 10 = (cs x).count 10 := by
        rw [← List.count_append, List.take_append_drop]
      omega
    have := h.nl
    omega
end C1

/-! The numbers of a line, by the program and by the law. -/
namespace C1
open PySem PySem.Spec PyProof.Rows L2 SX
open K0 (Cs digs isNum)
open GxR (TabG Tabbed TabB GenS)
abbrev sLineNumbers : Stmt := topS 20
abbrev sLawNumbers : Stmt := topS 29
theorem scLineNumbers : FnScope ["line", "word", "many", "first", "parts", "part"] ["line", "word", "many"] (defScope sLineNumbers) := ⟨rfl, rfl, rfl, by decide +kernel, rfl, by decide +kernel, by decide +kernel⟩
abbrev NLI : List Str := ["line", "word", "many", "first", "parts", "part"]
theorem scLawNumbers : FnScope ["line", "word", "many", "parts", "part", "sign"] ["line", "word", "many"] (defScope sLawNumbers) := ⟨rfl, rfl, rfl, by decide +kernel, rfl, by decide +kernel, by decide +kernel⟩
abbrev NLU : List Str := ["line", "word", "many", "parts", "part", "sign"]
abbrev rNotInSign : R2 := fun x y H Q => ∃ (c : Nat) (z : Str), x = .str ⟨#[c]⟩ ∧ y = .str z ∧ Q (.bl (!decide (c ∈ z.cps.toList))) H
abbrev sgn (c : Nat) : V := .str ⟨#[c]⟩
abbrev sgD (c : Nat) : PyData := .str ⟨#[c]⟩
def asc (x : Str) : Prop := ∀ c ∈ cs x, c < 128
section
variable {P : Program} {w : World} {K : PySem.W.Frag} {mg : Str → Option Value} {base : Heap} {T : Addr} {H : Hp}
theorem lc_strF {x : Str} {pb : Nat → Bool} {D : Addr} {σ : L2.St} {wv : List Nat} {j : Nat} {tt : TT} {Qd : Hp → Prop} (hz : x.cps.size ≤ 100000)
    (ht : ∀ c H1 (R : Bool → Hp → Prop), R (pb c) H1 → tt ((wipe σ wv).set j (some (sgn c))) H1 R)
    (hσ : ∀ v, ((wipe σ wv).set j (some v))[j]? = some (some v) ∧ wipe ((wipe σ wv).set j (some v)) wv = wipe σ wv) (q : Qd (upd H D (.lst (((cs x).filter pb).map sgn)))) :
    ∃ W : Nat → Nat → Hp → Prop, (∃ m, W 0 m (upd H D (.lst []))) ∧ ∀ i m H, W i m H →
      ((Its x).stop i H ∧ Qd H) ∨ ((Its x).go i H ∧ ∃ Nx : Hp → Prop, (∀ H', Nx H' → ∃ m', m' < m ∧ W (i + 1) m' H') ∧ ∀ v H', (Its x).yld i H v H' → gName j v (wipe σ wv) H' fun σ2 H2 => wipe σ2 wv = wipe σ wv ∧ tt σ2 H2 fun b H3 =>
        if b = true then tVar j σ2 H3 fun y H4 => ∃ acc, H4 D = some (.lst acc) ∧ acc.length < sizeLine ∧ Nx (upd H4 D (.lst (acc ++ [y]))) else Nx H3) := by
  refine ⟨fun i m H1 => m = x.cps.size - i ∧ i ≤ x.cps.size ∧ H1 = upd H D (.lst ((((cs x).take i).filter pb).map sgn)), ⟨_, rfl, Nat.zero_le _, rfl⟩, ?_⟩
  rintro i m H1 ⟨rfl, hi, rfl⟩
  by_cases hlt : i < x.cps.size
  · refine .inr ⟨hlt, fun H2 => H2 = upd H D (.lst ((((cs x).take (i + 1)).filter pb).map sgn)), fun H' h => ⟨x.cps.size - (i + 1), by omega, rfl, by omega, h⟩, fun v H' y => ?_⟩
    obtain ⟨rfl, c, hc, rfl⟩ := y
    have ec : (cs x)[i]? = some c := by
      show x.cps.toList[i]? = some c
      rw [Array.getElem?_toList]
      exact hc
    refine ⟨(hσ _).2, ht c _ _ ?_⟩
    cases hb : pb c with
    | false =>
      show _ = _
      rw [take_snoc ec, List.filter_append, List.filter_cons_of_neg (by rw [hb]; decide), List.filter_nil, List.append_nil]
    | true =>
      refine ⟨_, (hσ _).1, _, upd_same, ?_, ?_⟩
      · rw [List.length_map, sizeLine_eq]
        have h1 := List.length_filter_le pb ((cs x).take i)
        rw [List.length_take] at h1
        omega
      · rw [upd_upd, take_snoc ec, List.filter_append, List.filter_cons_of_pos hb, List.filter_nil, List.map_append]
        rfl
  · have e : i = x.cps.size := by omega
    subst e
    refine .inl ⟨Nat.le_refl _, ?_⟩
    have : (cs x).take x.cps.size = cs x := List.take_of_length_le (by rw [Array.length_toList]; exact Nat.le_refl _)
    rw [this]
    exact q
theorem dps_sgn : ∀ l : List Nat, DpAll K H (l.map sgn) (l.map sgD)
  | [] => .nil
  | c :: l => .cons (.str _) (dps_sgn l)
end
theorem asc_ok {x : Str} (h : asc x) : PyData.canLay0 (.str x) = true := by
  show (x.cps.all fun c => decide (c < 0x110000)) = true
  rw [← Array.all_toList]
  refine List.all_eq_true.mpr fun c hc => decide_eq_true ?_
  have := h c hc
  omega
theorem cut_one (v : V) (l : List V) : cutV (v :: l) (some 1) none = l := by
  unfold cutV
  rw [HT.sIx_none, show HT.sIx (v :: l).length 0 (some 1) = 1 by
    show HT.sIx (l.length + 1) 0 (some ((1 : Nat) : Int)) = 1
    rw [HT.sIx_nat]
    omega]
  exact List.take_of_length_le (Nat.le_refl _)

def lnN (word : Str) (many : Nat) (x : Str) : Option (List Nat) := match spS x with
  | [] => none
  | w :: rest => if w = word ∧ rest.length = many ∧ rest.all numB = true then some (rest.map numV) else none
theorem LnB.parts2 {b : Nat} {y : Str} (h : LnB b y) (hb : b ≤ 600) : (spS y).length ≤ 601 ∧ ∀ z ∈ spS y, LnB b z := by
  have := spS_len y
  have := h.sz
  refine ⟨by omega, fun z hz => ⟨Nat.le_trans (part_size hz) h.sz, fun c hc => h.as c (part_mem hz hc), fun hc => h.nl (part_mem hz hc)⟩⟩
theorem lnN_eq {x w : Str} {rest : List Str} (e : spS x = w :: rest) (word : Str) (many : Nat) : lnN word many x = if w = word ∧ rest.length = many ∧ rest.all numB = true then some (rest.map numV) else none := by
  unfold lnN
  rw [e]
section
variable {P : Program} {w : World} {K : PySem.W.Frag} {mg : Str → Option Value} {base : Heap} {T : Addr}
def spLine (K : PySem.W.Frag) (T : Addr) : Sp := fun vs H Q _ => ∃ (x word : Str) (many : Nat), vs = [.str x, .str word, iV many] ∧ LnB 600 x ∧ TabG H T ∧
  (∀ H', Gr T H H' → lnN word many x = none → Q .non H') ∧ ∀ H' t ns, Gr T H H' → lnN word many x = some ns → SqT K H' t (ns.map iV) → Q (.ref t) H'
theorem ok_line {f fS fF : Addr} {fd fdS fdF : FuncData} (F : Fun K "line_numbers" "line_numbers" sLineNumbers f fd) (B : BT mg)
    (GS : FnOk P w K mg base CX0 1 fS fdS ["text"] (spNum T)) (kS : PySem.W.keepIn K (.ref fS) = true) (bS : Binds K fdS ["text"] []) (gS : mg "is_number" = some (.ref fS))
    (GF : FnOk P w K mg base CX0 2 fF fdF ["text"] spNof) (kF : PySem.W.keepIn K (.ref fF) = true) (bF : Binds K fdF ["text"] []) (gF : mg "number_of" = some (.ref fF)) :
    FnOk P w K mg base CX0 3 f fd ["line", "word", "many"] (spLine K T) := by
  refine F.ok scLineNumbers (fun vs H Q E h => ?_) (fun cdv A outer s H vs Q E hr h => ?_)
  · obtain ⟨x, word, many, rfl, _⟩ := h
    rfl
  · obtain ⟨x, word, many, rfl, hx, tb, qn, qs⟩ := h
    have nd := scLineNumbers.nd
    have hr2 : Room 2 _ := hr
    have hr1 : Room 1 _ := hr.mono (by decide)
    refine ⟨_, (pss_cons (ps_asg (pe_split (pv 0) (pe_str)) (StR.pg_star (n := 1) rfl (pgs_cons (pg_name (i := 3) nd rfl (.inl rfl)) (StR.pgs_last (pg_name (i := 4) nd rfl (.inl rfl)) pgs_nil))))
      (C8.pss_cut (ps_if (PW.pt (pw_or (pt_cmpR op_ne (pv 3) (pv 1) (nomark _)) (pw_or (pt_cmpR op_ne (pe_callB call_len_seq (by rfl) B.len PySem.boot_len (pa_cons (pv 4) pa_nil)) (pv 2) (nomark _)) (pw_or1 (pt_not (pt_val (pe_callB (cr_all rfl) (by rfl) B.all (by decide +kernel) (pa_cons (pe_lc (own := [("part", 5)]) (g := gName 5) (tt := tYes) (te := tCall (spNum T) [] E0 (tCons (tVar 5) tNil))  rfl nd (pi_list (pv 4)) (blkOk_by (own := [("part", 5)]) (N := NLI) (sc := defScope sLineNumbers) (by decide +kernel)) (fun _ _ _ _ _ => pg_name (i := 5) nd rfl (.inl rfl)) (fun _ _ _ _ _ => pts_nil) (fun _ _ _ _ _ => by exact (pe_call GS hr1 (by rfl) gS kS bS .nil pass0 (pa_cons (pv 5) pa_nil)))) pa_nil)))))))) (pss_one (ps_ret (pe_non))) pss_nil)
      (pss_one (ps_ret (pe_callTy call_tuple_of (by rfl) B.tuple (by decide +kernel) (pa_cons (pe_lc (own := [("part", 5)]) (g := gName 5) (tt := tYes) (te := tCall spNof [] E0 (tCons (tVar 5) tNil))  rfl nd (pi_list (pv 4)) (blkOk_by (own := [("part", 5)]) (N := NLI) (sc := defScope sLineNumbers) (by decide +kernel)) (fun _ _ _ _ _ => pg_name (i := 5) nd rfl (.inl rfl)) (fun _ _ _ _ _ => pts_nil) (fun _ _ _ _ _ => by exact (pe_call GF hr2 (by rfl) gF kF bF .nil pass0 (pa_cons (pv 5) pa_nil)))) pa_nil)))))), ?_⟩
    obtain ⟨hl, hp⟩ := hx.parts2 (Nat.le_refl _)
    obtain ⟨wd, xs, esp⟩ : ∃ wd rest, spS x = wd :: rest := by
      cases e : spS x with
      | nil => exact absurd e (spS_ne x)
      | cons a b => exact ⟨a, b, rfl⟩
    rw [esp] at hl hp
    have hlx : xs.length ≤ 600 := by
      have : (wd :: xs).length = xs.length + 1 := rfl
      omega
    have hpx : ∀ z ∈ xs, LnB 600 z := fun z hz => hp z (List.mem_cons_of_mem _ hz)
    have eln := lnN_eq esp word many
    refine ⟨_, rfl, ⟨x, rfl⟩, x, Str.ofString " ", rfl, rfl, rfl, (by show x.cps.size + 2 ≤ sizeLine; have := hx.sz; rw [sizeLine_eq]; omega), fun pr npr => ?_⟩
    have gP : Gr T H (upd H pr (.lst ((Txt.split x (Str.ofString " ")).map V.str))) := Gr.laid tb npr
    have eP : (upd H pr (.lst ((Txt.split x (Str.ofString " ")).map V.str))) pr = some (.lst ((wd :: xs).map V.str)) := upd_same.trans (congrArg (fun l => some (HO.lst (List.map V.str l))) esp)
    generalize upd H pr (.lst ((Txt.split x (Str.ofString " ")).map V.str)) = H1 at gP eP
    refine ⟨pr, _, rfl, SqL.of eP, by rw [List.length_map]; exact Nat.succ_le_succ (Nat.zero_le _), fun p np => ?_⟩
    have g1 := gP.trans (Gr.laid gP.tab np (o := .lst (((wd :: xs).map V.str).drop 1)))
    have ep : (upd H1 p (.lst (((wd :: xs).map V.str).drop 1))) p = some (.lst (xs.map V.str)) := upd_same
    generalize upd H1 p (.lst (((wd :: xs).map V.str).drop 1)) = H2 at g1 ep
    refine ⟨_, _, rfl, _, _, rfl, rfl, ?_⟩
    have tb2 := g1.tab
    refine ⟨fun σ H' => σ = [some (.str x), some (.str word), some (iV many), some (.str wd), some (.ref p), none] ∧ Gr T H2 H' ∧ wd = word ∧ xs.length = many ∧ xs.all numB = true, ?_, ?_⟩
    · refine ⟨_, rfl, _, rfl, rfl, _, rfl, ?_⟩
      by_cases hw : wd = word
      · refine iteF' (by rw [decide_eq_true (by rw [hw])]; rfl) ?_
        refine ⟨_, rfl, p, _, rfl, .inl (SqL.of ep), _, rfl, rfl, _, rfl, ?_⟩
        rw [List.length_map]
        by_cases hm : xs.length = many
        · refine iteF' (by rw [decide_eq_true (by rw [hm])]; rfl) ?_
          refine ⟨_, rfl, p, rfl, ⟨_, SqL.of ep⟩, fun D nD => ?_⟩
          refine lc_list (xs := xs.map V.str) (fun i H3 => Gr T H2 H3 ∧ H3 D = some (.lst (((xs.take i).map numB).map V.bl))) ⟨Gr.laid tb2 nD, upd_same⟩ (fun i H3 _ h => h.1.seqL tb2 (SqL.of ep)) (fun i v H3 hv h => ?_) (fun H3 h => ?_)
          · obtain ⟨g, e⟩ := h
            obtain ⟨z, ez, rfl⟩ := str_at hv
            have hil : i < xs.length := (List.getElem?_eq_some_iff.mp ez).1
            refine ⟨rfl, _, rfl, cs z, by rw [S_tl]; rfl, ?_, g.tab, fun H4 g4 => ?_⟩
            · rw [Array.length_toList]
              have := (hpx z (List.mem_of_getElem? ez)).sz
              rw [sizeLine_eq]
              omega
            · have e4 := g4.at g.tab e (fun ps z => by cases z)
              refine ⟨_, e4, ?_, ?_, ?_⟩
              · rw [List.length_map, List.length_map, List.length_take]
                exact lineS200 (by omega)
              · have nDT := tab_ne tb2 nD
                refine ⟨?_, fun b o hb he => ?_⟩
                · obtain ⟨ps, ep, r⟩ := (g.trans g4).tab
                  exact ⟨ps, by rw [upd_ne nDT.symm]; exact ep, r⟩
                · rw [upd_ne (ne_of_none he nD)]
                  exact (g.trans g4).old b o hb he
              · rw [upd_same, take_snoc ez, List.map_append, List.map_append]
                rfl
          · obtain ⟨g, e⟩ := h
            rw [List.length_map, List.take_length] at e
            refine ⟨D, _, rfl, SqL.of e, _, rfl, ?_⟩
            have ea : (xs.map numB).all id = xs.all numB := by
              rw [List.all_map]
              rfl
            rw [ea]
            cases ha : xs.all numB with
            | false => exact iteT (qn H3 (g1.trans g) (by rw [eln, if_neg (fun z => by rw [ha] at z; cases z.2.2)]))
            | true => exact iteF ⟨rfl, g, hw, hm, rfl⟩
        · exact iteT' (by rw [decide_eq_false (fun z => hm (by have := V.int.inj z; omega))]; rfl) (qn H2 g1 (by rw [eln, if_neg (fun z => hm z.2.1)]))
      · exact iteT' (by rw [decide_eq_false (fun z => hw (V.str.inj z))]; rfl) (qn H2 g1 (by rw [eln, if_neg (fun z => hw z.1)]))
    rintro σ H3 ⟨rfl, g3, hw, hm, ha⟩
    have hall := List.all_eq_true.mp ha
    have g13 := g1.trans g3
    have ep3 := g3.at tb2 ep (fun ps z => by cases z)
    refine ⟨_, rfl, p, rfl, ⟨_, SqL.of ep3⟩, fun D2 nD2 => ?_⟩
    refine lc_list (xs := xs.map V.str) (fun i H4 => H4 = upd H3 D2 (.lst (((xs.take i).map numV).map iV))) rfl (fun i H4 _ h => ?_) (fun i v H4 hv h => ?_) (fun H4 h => ?_)
    · subst h
      exact (Gr.laid g3.tab nD2).seqL g3.tab (SqL.of ep3)
    · subst h
      obtain ⟨z, ez, rfl⟩ := str_at hv
      have hil : i < xs.length := (List.getElem?_eq_some_iff.mp ez).1
      have mz := List.mem_of_getElem? ez
      refine ⟨rfl, _, rfl, z, rfl, hall z mz, (hpx z mz).sz, _, upd_same, ?_, ?_⟩
      · rw [List.length_map, List.length_map, List.length_take]
        exact lineS200 (by omega)
      · rw [upd_upd, take_snoc ez, List.map_append, List.map_append]
        rfl
    · subst h
      rw [List.length_map, List.take_length]
      refine ⟨D2, _, rfl, .inl ⟨SqL.of upd_same, fun t nt => ?_⟩⟩
      have g4 := g13.trans ((Gr.laid g3.tab nD2).trans (Gr.laid (o := .tup ((xs.map numV).map iV)) (Gr.laid (o := .lst ((xs.map numV).map iV)) g3.tab nD2).tab nt))
      exact qs _ t (xs.map numV) g4 (by rw [eln, if_pos ⟨hw, hm, ha⟩]) (SqT.of upd_same)
def spLNums (K : PySem.W.Frag) : Sp := fun vs H Q _ => ∃ (x word : Str) (many : Nat), vs = [.str x, .str word, iV many] ∧ LnB 600 x ∧
  (∀ H', Same H H' → lnN word many x = none → Q .non H') ∧ ∀ H' t ns, Same H H' → H t = none → lnN word many x = some ns → H' t = some (.lst (ns.map iV)) → Q (.ref t) H'
theorem ok_lnumbers {f : Addr} {fd : FuncData} (F : Fun K "_law_numbers" "_law_numbers" sLawNumbers f fd) (B : BT mg) : FnOk P w K mg base CX0 1 f fd ["line", "word", "many"] (spLNums K) := by
  refine F.ok scLawNumbers (fun vs H Q E h => ?_) (fun cdv A outer s H vs Q E hr h => ?_)
  · obtain ⟨x, word, many, rfl, _⟩ := h
    rfl
  · obtain ⟨x, word, many, rfl, hx, qn, qs⟩ := h
    have nd := scLawNumbers.nd
    have hu := hr.units
    refine ⟨_, (pss_cons (ps_set (i := 3) nd rfl (.inl rfl) (pe_split (pv 0) (pe_str)))
      (C8.pss_cut (ps_if (PW.pt (pw_or (pt_cmpR op_ne (pe_ix ix_list (pv 3) (pe_int) (fun _ _ => rfl)) (pv 1) (nomark _)) (pw_or1 (pt_cmpR op_ne (pe_callB call_len_seq (by rfl) B.len PySem.boot_len (pa_cons (pv 3) pa_nil)) (pe_op op_add (pv 2) (pe_int)) (nomark _))))) (pss_one (ps_ret (pe_non))) pss_nil)
      (C8.pss_cut (ps_for PassesOwn.never rfl (pi_list (pe_slice sl_list (pv 3) (po_some (pe_int)) po_none)) (pg_name (i := 4) nd rfl (.inl rfl)) (pss_one (ps_if (PW.pt (pw_or (pt_cmpR op_eq (pv 4) (pe_str) (nomark _)) (pw_or (pt_cmpR (op_neD hu) (pe_lc (own := [("sign", 5)]) (g := gName 5) (tt := tTest (tOp rNotInSign (tVar 5) (tC (.str "0123456789")))) (te := tVar 5)  rfl nd (pi_str (pv 4)) (blkOk_by (own := [("sign", 5)]) (N := NLU) (sc := defScope sLawNumbers) (by decide +kernel)) (fun _ _ _ _ _ => pg_name (i := 5) nd rfl (.inl rfl)) (fun _ _ _ _ _ => pts_one (pt_cmpR op_notIn_sign (pv 5) (pe_str) rfl)) (fun _ _ _ _ _ => by exact (pv 5))) (pe_lst pa_nil) (nomark _)) (pw_or1 (PW.pt (pw_and (pt_cmpR op_eq (pe_ix ix_str (pv 4) (pe_int) (fun _ _ => rfl)) (pe_str) (nomark _)) (pw_and1 (pt_cmpR op_ne (pv 4) (pe_str) (nomark _))))))))) (pss_one (ps_ret (pe_non))) pss_nil)))
      (pss_one (ps_ret (pe_lc (own := [("part", 4)]) (g := gName 4) (tt := tYes) (te := tCB rIntS (tCons (tVar 4) tNil))  rfl nd (pi_list (pe_slice sl_list (pv 3) (po_some (pe_int)) po_none)) (blkOk_by (own := [("part", 4)]) (N := NLU) (sc := defScope sLawNumbers) (by decide +kernel)) (fun _ _ _ _ _ => pg_name (i := 4) nd rfl (.inl rfl)) (fun _ _ _ _ _ => pts_nil) (fun _ _ _ _ _ => by exact (pe_callTy call_int_str (by rfl) B.int (by decide +kernel) (pa_cons (pv 4) pa_nil))))))))), ?_⟩
    obtain ⟨hl, hp⟩ := hx.parts2 (Nat.le_refl _)
    obtain ⟨wd, xs, esp⟩ : ∃ wd rest, spS x = wd :: rest := by
      cases e : spS x with
      | nil => exact absurd e (spS_ne x)
      | cons a b => exact ⟨a, b, rfl⟩
    rw [esp] at hl hp
    have hlx : xs.length ≤ 600 := by
      have : (wd :: xs).length = xs.length + 1 := rfl
      omega
    have hpx : ∀ z ∈ xs, LnB 600 z := fun z hz => hp z (List.mem_cons_of_mem _ hz)
    have eln := lnN_eq esp word many
    refine ⟨_, rfl, ⟨x, rfl⟩, x, Str.ofString " ", rfl, rfl, rfl, (by show x.cps.size + 2 ≤ sizeLine; have := hx.sz; rw [sizeLine_eq]; omega), fun pr npr => ?_⟩
    have s1 : Same H (upd H pr (.lst ((Txt.split x (Str.ofString " ")).map V.str))) := Same.up npr
    have eP : (upd H pr (.lst ((Txt.split x (Str.ofString " ")).map V.str))) pr = some (.lst ((wd :: xs).map V.str)) := upd_same.trans (congrArg (fun l => some (HO.lst (List.map V.str l))) esp)
    generalize upd H pr (.lst ((Txt.split x (Str.ofString " ")).map V.str)) = H1 at s1 eP
    refine ⟨fun σ H' => σ = [some (.str x), some (.str word), some (iV many), some (.ref pr), none, none] ∧ H1 = H' ∧ wd = word ∧ xs.length = many, ?_, ?_⟩
    · refine ⟨_, rfl, pr, _, _, _, rfl, rfl, SqL.of eP, atI_nat (j := 0) rfl, _, rfl, rfl, _, rfl, ?_⟩
      by_cases hw : wd = word
      · refine iteF' (by rw [decide_eq_true (by rw [hw])]; rfl) ?_
        refine ⟨_, rfl, pr, _, rfl, .inl (SqL.of eP), _, rfl, _, _, rfl, rfl, rfl, _, rfl, ?_⟩
        rw [List.length_map]
        by_cases hm : xs.length = many
        · exact iteF' (by rw [decide_eq_true (congrArg V.int (by rw [List.length_cons, hm]; omega))]; rfl) ⟨rfl, rfl, hw, hm⟩
        · exact iteT' (by rw [decide_eq_false (fun z => hm (by have := V.int.inj z; rw [List.length_cons] at this; omega))]; rfl) (qn H1 s1 (by rw [eln, if_neg (fun z => hm z.2.1)]))
      · exact iteT' (by rw [decide_eq_false (fun z => hw (V.str.inj z))]; rfl) (qn H1 s1 (by rw [eln, if_neg (fun z => hw z.1)]))
    rintro σ H' ⟨rfl, rfl, hw, hm⟩
    have bad : ∀ z ∈ xs, numB z = false → ∀ H4, Same H1 H4 → Q .non H4 := fun z hz e H4 s4 => qn H4 (s1.trans s4) (by
      rw [eln, if_neg (fun y => by have := List.all_eq_true.mp y.2.2 z hz; rw [e] at this; cases this)])
    refine ⟨fun σ H' => ∃ y4 y5, σ = [some (.str x), some (.str word), some (iV many), some (.ref pr), y4, y5] ∧ Same H1 H' ∧ xs.all numB = true, ?_, ?_⟩
    · refine ⟨_, rfl, _, rfl, pr, _, rfl, SqL.of eP, fun p np => ?_⟩
      have sp : Same H1 (upd H1 p (.lst (cutV ((wd :: xs).map V.str) (some 1) none))) := Same.up np
      have ep : (upd H1 p (.lst (cutV ((wd :: xs).map V.str) (some 1) none))) p = some (.lst (xs.map V.str)) := upd_same.trans (congrArg (fun l => some (HO.lst l)) (cut_one (.str wd) (xs.map V.str)))
      generalize upd H1 p (.lst (cutV ((wd :: xs).map V.str) (some 1) none)) = H2 at sp ep
      refine ⟨p, rfl, ⟨_, SqL.of ep⟩, ?_⟩
      refine for_list (xs := xs.map V.str) (fun i σ H' => ∃ y4 y5, σ = [some (.str x), some (.str word), some (iV many), some (.ref pr), y4, y5] ∧ Same H2 H' ∧ (xs.take i).all numB = true) ⟨none, none, rfl, Same.refl _, rfl⟩ (fun i σ H' _ h => ?_) (fun i v σ H' hv h => ?_) (fun σ H' h => ?_)
      · obtain ⟨_, _, _, g, _⟩ := h
        exact SqL.of (g _ _ ep)
      · obtain ⟨y4, y5, rfl, g, ha⟩ := h
        obtain ⟨z, ez, rfl⟩ := str_at hv
        have mz := List.mem_of_getElem? ez
        have hz := hpx z mz
        obtain ⟨t, rfl⟩ : ∃ t : Cs, z = S t := ⟨cs z, (S_tl z).symm⟩
        have ht : t.length ≤ 600 := hz.sz
        have hlt : t.length ≤ sizeLine := by
          rw [sizeLine_eq]
          omega
        have eB : numB (S t) = isNum t := rfl
        have gd : ∀ {H4 : Hp} {y5' : Option V}, Same H2 H4 → isNum t = true → ∃ y4 y5, ([some (V.str x), some (.str word), some (iV many), some (.ref pr), some (.str (S t)), y5'] : L2.St) = [some (.str x), some (.str word), some (iV many), some (.ref pr), y4, y5] ∧ Same H2 H4 ∧ (xs.take (i + 1)).all numB = true := fun {H4 y5'} s4 hn => by
          refine ⟨_, _, rfl, s4, ?_⟩
          rw [take_snoc ez, List.all_append, ha]
          show (true && (numB (S t) && true)) = true
          rw [eB, hn]
          rfl
        refine ⟨_, rfl, rfl, _, rfl, ?_⟩
        rw [dec_S (b := []) (x := "") rfl]
        cases t with
        | nil => exact iteT (bad _ mz rfl _ (sp.trans g))
        | cons c r =>
          refine iteF ?_
          have isN : ∀ (n : ¬ (c = 48 ∧ r ≠ [])), isNum (c :: r) = (c :: r).all fun d => decide (d ∈ digs) := fun n => if_neg n
          refine ⟨_, rfl, _, rfl, fun D nD => ?_⟩
          refine lc_strF (x := S (c :: r)) (pb := fun c => !decide (c ∈ digs)) (Nat.le_trans hz.sz (by decide)) (fun c H1 R k => ⟨_, rfl, c, _, rfl, rfl, _, rfl, k⟩) (fun v => ⟨rfl, rfl⟩) ?_
          refine ⟨Nat.zero_le _, fun z nz => ?_⟩
          have sD : Same H' (upd (upd H' D (.lst ((((c :: r).filter fun c => !decide (c ∈ digs))).map sgn))) z (.lst [])) := (Same.up nD).trans (Same.up nz)
          have eD := (Same.up (o := .lst []) nz) D _ (upd_same (H := H') (a := D) (o := .lst ((((c :: r).filter fun c => !decide (c ∈ digs))).map sgn)))
          refine ⟨.list (((c :: r).filter fun c => !decide (c ∈ digs)).map sgD), .list [], .lst (SqL.of eD) (dps_sgn _), .lst (SqL.of upd_same) .nil, shaped_list _ (fun d hd => ?_), shaped_list [] (fun d hd => by cases hd), _, rfl, ?_⟩
          · obtain ⟨k, hk, rfl⟩ := List.mem_map.mp hd
            have h1 := hz.as k (List.mem_filter.mp hk).1
            refine ⟨?_, Nat.zero_le _⟩
            show (Array.all #[k] fun c => decide (c < 0x110000)) = true
            simp
            omega
          rw [eqv_nil]
          by_cases hall : ∀ k ∈ c :: r, k ∈ digs
          · have e0 : (c :: r).filter (fun c => !decide (c ∈ digs)) = [] := List.filter_eq_nil_iff.mpr fun k hk => by rw [decide_eq_true (hall k hk)]; decide
            have hA : (c :: r).all (fun d => decide (d ∈ digs)) = true := List.all_eq_true.mpr fun k hk => decide_eq_true (hall k hk)
            generalize hH : (upd (upd H' D (.lst ((((c :: r).filter fun c => !decide (c ∈ digs))).map sgn))) z (.lst [])) = H4 at sD
            rw [e0]
            refine iteF ?_
            refine ⟨_, rfl, _, _, c, rfl, rfl, len_S hlt, at_S (i := 0) rfl, rfl, _, rfl, ?_⟩
            rw [dec_sig (k := 48) (x := "0") rfl]
            by_cases hc : c = 48
            · rw [decide_eq_true hc]
              refine iteT ?_
              refine ⟨_, rfl, rfl, _, rfl, ?_⟩
              rw [dec_S (b := [48]) (x := "0") rfl]
              by_cases hr2 : r = []
              · refine iteF' (by rw [decide_eq_true (by rw [hc, hr2])]; rfl) ?_
                exact gd (g.trans sD) (by rw [isN (fun z => z.2 hr2), hA])
              · refine iteT' (by rw [decide_eq_false (fun z => hr2 (List.cons.inj z).2)]; rfl) (bad _ mz ?_ _ (sp.trans (g.trans sD)))
                rw [eB, show isNum (c :: r) = false from if_pos ⟨hc, hr2⟩]
            · rw [decide_eq_false hc]
              refine iteF ?_
              exact gd (g.trans sD) (by rw [isN (fun z => hc z.1), hA])
          · have e0 : ((List.filter (fun c => !decide (c ∈ digs)) (c :: r)).map sgD).isEmpty = false := by
              obtain ⟨k, hk⟩ := Classical.not_forall.mp hall
              obtain ⟨h1, h2⟩ := Classical.not_imp.mp hk
              have : k ∈ List.filter (fun c => !decide (c ∈ digs)) (c :: r) := List.mem_filter.mpr ⟨h1, by rw [decide_eq_false h2]; rfl⟩
              cases e : List.filter (fun c => !decide (c ∈ digs)) (c :: r) with
              | nil => rw [e] at this; cases this
              | cons _ _ => rfl
            rw [e0]
            refine iteT (bad _ mz ?_ _ (sp.trans (g.trans sD)))
            rw [eB]
            by_cases hn : c = 48 ∧ r ≠ []
            · exact if_pos hn
            · rw [isN hn]
              exact Bool.eq_false_iff.mpr fun z => hall fun k hk => of_decide_eq_true (List.all_eq_true.mp z k hk)
      · obtain ⟨y4, y5, rfl, g, ha⟩ := h
        rw [List.length_map, List.take_length] at ha
        exact ⟨y4, y5, rfl, sp.trans g, ha⟩
    rintro σ H' ⟨y4, y5, rfl, g, ha⟩
    have hall := List.all_eq_true.mp ha
    have eP' := g _ _ eP
    refine ⟨_, rfl, _, rfl, pr, _, rfl, SqL.of eP', fun p np => ?_⟩
    have sp : Same H' (upd H' p (.lst (cutV ((wd :: xs).map V.str) (some 1) none))) := Same.up np
    have ep : (upd H' p (.lst (cutV ((wd :: xs).map V.str) (some 1) none))) p = some (.lst (xs.map V.str)) := upd_same.trans (congrArg (fun l => some (HO.lst l)) (cut_one (.str wd) (xs.map V.str)))
    generalize upd H' p (.lst (cutV ((wd :: xs).map V.str) (some 1) none)) = H2 at sp ep
    refine ⟨p, rfl, ⟨_, SqL.of ep⟩, fun D nD => ?_⟩
    refine lc_list (xs := xs.map V.str) (fun i H3 => H3 = upd H2 D (.lst (((xs.take i).map numV).map iV))) rfl (fun i H3 _ h => ?_) (fun i v H3 hv h => ?_) (fun H3 h => ?_)
    · subst h
      exact SqL.of ((Same.up nD) _ _ ep)
    · subst h
      obtain ⟨z, ez, rfl⟩ := str_at hv
      have hil : i < xs.length := (List.getElem?_eq_some_iff.mp ez).1
      have mz := List.mem_of_getElem? ez
      obtain ⟨hi, h6⟩ := num_int (hall z mz) (by rw [Array.length_toList]; exact (hpx z mz).sz)
      refine ⟨rfl, _, rfl, z, _, rfl, hi, h6, _, upd_same, ?_, ?_⟩
      · rw [List.length_map, List.length_map, List.length_take]
        exact lineS200 (by omega)
      · rw [upd_upd, take_snoc ez, List.map_append, List.map_append]
        rfl
    · subst h
      rw [List.length_map, List.take_length]
      have s9 := s1.trans (g.trans sp)
      exact qs _ D (xs.map numV) (s9.trans (Same.up nD)) (s9.free nD) (by rw [eln, if_pos ⟨hw, hm, ha⟩]) upd_same
end
end C1

/-! A net's text, read by the program. -/
namespace C1
open PySem PySem.Spec PyProof.Rows L2 SX
open K0 (Cs digs isNum)
open GxR (TabG Tabbed TabB GenS)
abbrev sParseNet : Stmt := topS 19
theorem scParseNet : FnScope ["text", "lines", "head", "latches", "told", "ands", "forms", "found", "at", "word", "many", "numbers", "firsts", "nexts", "outs", "net", "first", "_", "literal"] ["text"] (defScope sParseNet) := ⟨rfl, rfl, rfl, by decide +kernel, rfl, by decide +kernel, by decide +kernel⟩
abbrev NPN : List Str := ["text", "lines", "head", "latches", "told", "ands", "forms", "found", "at", "word", "many", "numbers", "firsts", "nexts", "outs", "net", "first", "_", "literal"]
theorem for_enL {K : PySem.W.Frag} {a : Addr} {xs : List V} {g : TG} {tb : TS} {D : Ends} {σ : L2.St} {H : Hp} (Rv : Nat → L2.St → Hp → Prop) (h0 : Rv 0 σ H) (hl : ∀ i σ H, i ≤ xs.length → Rv i σ H → SqL K H a xs)
    (hs : ∀ i x T σ H, xs[i]? = some x → Rv i σ H → H T = none → g (.ref T) σ (upd H T (.tup [.int (i : Nat), x])) fun σ2 H2 => tb { D with nx := Rv (i + 1), ct := Rv (i + 1), bk := D.nx } σ2 H2) (hd : ∀ σ H, Rv xs.length σ H → D.nx σ H) :
    ∃ V : Nat → Nat → L2.St → Hp → Prop, (∃ m, V 0 m σ H) ∧ ∀ i m σ H, V i m σ H →
      ((Ite K a).stop i H ∧ D.nx σ H) ∨ ((Ite K a).go i H ∧ ∃ N : L2.St → Hp → Prop, (∀ σ' H', N σ' H' → ∃ m', m' < m ∧ V (i + 1) m' σ' H') ∧ ∀ x H', (Ite K a).yld i H x H' → g x σ H' fun σ2 H2 => tb { D with nx := N, ct := N, bk := D.nx } σ2 H2) := by
  refine ⟨fun i m σ H => m = xs.length - i ∧ i ≤ xs.length ∧ Rv i σ H, ?_, ?_⟩
  · exact ⟨xs.length, rfl, Nat.zero_le _, h0⟩
  rintro i m σ H ⟨rfl, hi, q⟩
  have sq := hl i σ H hi q
  by_cases lt : i < xs.length
  · refine .inr ⟨⟨xs, xs[i], sq, by simp [lt]⟩, Rv (i + 1), fun σ' H' q' => ⟨xs.length - (i + 1), by omega, rfl, lt, q'⟩, fun v H' y => ?_⟩
    obtain ⟨T, x, rfl, nT, rfl, hx⟩ := y
    exact hs i x T σ H (hx xs sq) q nT
  · obtain rfl : i = xs.length := by omega
    exact .inl ⟨⟨xs, sq, Nat.le_refl _⟩, hd σ H q⟩

def linesOf (x : Str) : List Str := (splitL x).dropLast
def formsN (a b c : Nat) : List (Str × Nat) := List.replicate a (("latch" : Str), 2) ++ List.replicate b (("told" : Str), 1) ++ List.replicate c (("and" : Str), 2)
def formD (f : Str × Nat) : PyData := .tuple [.str f.1, iD f.2]
def readN : Nat → List (List Nat) → List (Str × Nat) → List Str → Sum Nat (List (List Nat))
  | _, acc, [], _ => .inr acc
  | k, acc, f :: fs, x :: xs => match lnN f.1 f.2 x with
    | none => .inl (k + 2)
    | some ns => readN (k + 1) (acc ++ [ns]) fs xs
  | _, _, _ :: _, [] => .inl 0
def netD (a b : Nat) (rows : List (List Nat)) : PyData := .tuple [.tuple ((rows.take a).map fun r => iD (r.getD 0 0)), .tuple ((rows.drop (a + b)).map memD), .tuple ((rows.take a).map fun r => iD (r.getD 1 0)), .tuple (((rows.drop a).take b).map fun r => iD (r.getD 0 0))]
def afterN (x : Str) (a b c : Nat) (rest : List Str) : Sum Nat PyData := match readN 0 [] (formsN a b c) rest with
  | .inl n => .inl n
  | .inr rows => if netB (netD a b rows) = true then .inr (netD a b rows) else .inl (linesOf x).length
def bodyN (x : Str) (a b c : Nat) (rest : List Str) : Sum Nat PyData := if (linesOf x).length = 1 + (a + (b + c)) then afterN x a b c rest else .inl 1
def parseN (x : Str) : Sum Nat PyData := if wholeB x = true then (match linesOf x with
    | [] => .inl 1
    | h :: rest => match lnN "net" 3 h with
      | some [a, b, c] => bodyN x a b c rest
      | _ => .inl 1)
  else .inl (splitL x).length
theorem lnN_len {word : Str} {many : Nat} {x : Str} {ns : List Nat} (h : lnN word many x = some ns) : ns.length = many := by
  unfold lnN at h
  split at h
  · cases h
  · split at h
    · rename_i hc
      cases h
      rw [List.length_map]
      exact hc.2.1
    · cases h
theorem forms_len (a b c : Nat) : (formsN a b c).length = a + (b + c) := by
  unfold formsN
  rw [List.length_append, List.length_append, List.length_replicate, List.length_replicate, List.length_replicate]
  omega
theorem parse_none {x hd : Str} {rest : List Str} (hw : wholeB x = true) (el : linesOf x = hd :: rest) (en : lnN "net" 3 hd = none) : parseN x = .inl 1 := by
  unfold parseN
  rw [if_pos hw, el]
  simp only [en]
theorem parse_some {x hd : Str} {rest : List Str} {a b c : Nat} (hw : wholeB x = true) (el : linesOf x = hd :: rest) (en : lnN "net" 3 hd = some [a, b, c]) : parseN x = bodyN x a b c rest := by
  unfold parseN
  rw [if_pos hw, el]
  simp only [en]
/-- rows as the forms ask -/
def RowsAs (fs : List (Str × Nat)) (rows : List (List Nat)) : Prop := rows.length = fs.length ∧ ∀ (i : Nat) (r : List Nat) (f : Str × Nat), rows[i]? = some r → fs[i]? = some f → r.length = f.2
theorem readN_as : ∀ {fs : List (Str × Nat)} {xs : List Str} {k : Nat} {acc rows : List (List Nat)} {gs : List (Str × Nat)}, RowsAs gs acc → readN k acc fs xs = .inr rows → RowsAs (gs ++ fs) rows
  | [], xs, k, acc, rows, gs, h, e => by
    have e' : Sum.inr acc = (Sum.inr rows : Sum Nat (List (List Nat))) := by
      cases xs <;> exact e
    cases e'
    rw [List.append_nil]
    exact h
  | f :: fs, [], k, acc, rows, gs, h, e => by cases e
  | f :: fs, x :: xs, k, acc, rows, gs, h, e => by
    have e' : (match lnN f.1 f.2 x with
      | none => Sum.inl (k + 2)
      | some ns => readN (k + 1) (acc ++ [ns]) fs xs) = Sum.inr rows := e
    cases en : lnN f.1 f.2 x with
    | none =>
      rw [en] at e'
      cases e'
    | some ns =>
      rw [en] at e'
      have := readN_as (gs := gs ++ [f]) (acc := acc ++ [ns]) (fs := fs) ⟨by rw [List.length_append, List.length_append, h.1]; rfl, fun i r g hr hg => by
        by_cases hi : i < acc.length
        · rw [List.getElem?_append_left hi] at hr
          rw [List.getElem?_append_left (by rw [← h.1]; exact hi)] at hg
          exact h.2 i r g hr hg
        · rw [List.getElem?_append_right (by omega)] at hr
          rw [List.getElem?_append_right (by rw [← h.1]; omega), ← h.1] at hg
          have e0 : i - acc.length = 0 := by
            have := (List.getElem?_eq_some_iff.mp hr).1
            simp at this
            omega
          rw [e0] at hr hg
          cases hr
          cases hg
          exact lnN_len en⟩ e'
      rw [List.append_assoc] at this
      exact this
theorem form_two {a b c i : Nat} {f : Str × Nat} (h : (formsN a b c)[i]? = some f) (hi : i < a) : f.2 = 2 := by
  unfold formsN at h
  rw [List.getElem?_append_left (by rw [List.length_append, List.length_replicate]; omega), List.getElem?_append_left (by rw [List.length_replicate]; exact hi), List.getElem?_replicate, if_pos hi] at h
  cases h
  rfl
theorem form_one {a b c i : Nat} {f : Str × Nat} (h : (formsN a b c)[i]? = some f) (hi : a ≤ i) (hj : i < a + b) : f.2 = 1 := by
  unfold formsN at h
  rw [List.getElem?_append_left (by rw [List.length_append, List.length_replicate, List.length_replicate]; omega), List.getElem?_append_right (by rw [List.length_replicate]; exact hi), List.length_replicate, List.getElem?_replicate, if_pos (by omega)] at h
  cases h
  rfl
theorem form_and {a b c i : Nat} {f : Str × Nat} (h : (formsN a b c)[i]? = some f) (hi : a + b ≤ i) : f.2 = 2 := by
  unfold formsN at h
  rw [List.getElem?_append_right (by rw [List.length_append, List.length_replicate, List.length_replicate]; exact hi)] at h
  have hm := List.mem_of_getElem? h
  rw [(List.mem_replicate.mp hm).2]
theorem net_gd {a b : Nat} {rows : List (List Nat)} (h1 : rows.length ≤ 390) (h2 : ∀ r ∈ rows, r.length ≤ 10) : gd 3 (netD a b rows) = true ∧ ∀ ds, netD a b rows = .tuple ds → ∀ es, .tuple es ∈ ds → es.length ≤ 400 := by
  have mem : ∀ r ∈ rows, gd 1 (memD r) = true := fun r hr => gd_tup (by rw [List.length_map]; have := h2 r hr; omega) fun d hd => by
    obtain ⟨k, _, rfl⟩ := List.mem_map.mp hd
    exact gd_int _
  have rowG : ∀ (l : List (List Nat)) (f : List Nat → PyData), l.length ≤ 390 → (∀ r ∈ l, gd 1 (f r) = true) → gd 2 (.tuple (l.map f)) = true := fun l f hl hf => gd_tup (by rw [List.length_map]; omega) fun d hd => by
    obtain ⟨k, hk, rfl⟩ := List.mem_map.mp hd
    exact hf k hk
  have l1 : (rows.take a).length ≤ 390 := by rw [List.length_take]; omega
  have l2 : (rows.drop (a + b)).length ≤ 390 := by rw [List.length_drop]; omega
  have l3 : ((rows.drop a).take b).length ≤ 390 := by rw [List.length_take, List.length_drop]; omega
  refine ⟨gd_tup (by show 4 ≤ 1000; decide) fun d hd => ?_, fun ds e es hes => ?_⟩
  · simp only [List.mem_cons, List.mem_nil_iff, or_false] at hd
    rcases hd with rfl | rfl | rfl | rfl
    · exact rowG _ _ l1 fun r _ => gd_int _
    · exact rowG _ _ l2 fun r hr => mem r (List.mem_of_mem_drop hr)
    · exact rowG _ _ l1 fun r _ => gd_int _
    · exact rowG _ _ l3 fun r _ => gd_int _
  · unfold netD at e
    cases e
    simp only [List.mem_cons, List.mem_nil_iff, or_false, PyData.tuple.injEq] at hes
    rcases hes with rfl | rfl | rfl | rfl <;> rw [List.length_map] <;> omega
theorem cut_to (xs : List V) (k : Nat) : cutV xs none (some ((k : Nat) : Int)) = xs.take k := by
  unfold cutV
  rw [HT.sIx_none, HT.sIx_nat, Nat.sub_zero, List.drop_zero]
  by_cases h : k ≤ xs.length
  · rw [Nat.min_eq_left h]
  · rw [Nat.min_eq_right (by omega), List.take_length, List.take_of_length_le (by omega)]
theorem cut_from (xs : List V) (k : Nat) (h : k ≤ xs.length) : cutV xs (some ((k : Nat) : Int)) none = xs.drop k := by
  unfold cutV
  rw [HT.sIx_none, HT.sIx_nat, Nat.min_eq_left h]
  exact List.take_of_length_le (by rw [List.length_drop]; omega)
theorem cut_mid (xs : List V) (j k : Nat) (h : j + k ≤ xs.length) : cutV xs (some ((j : Nat) : Int)) (some (((j : Nat) : Int) + ((k : Nat) : Int))) = (xs.drop j).take k := by
  unfold cutV
  rw [show ((j : Nat) : Int) + ((k : Nat) : Int) = (((j + k : Nat)) : Int) by omega, HT.sIx_nat, HT.sIx_nat, Nat.min_eq_left h, Nat.min_eq_left (by omega), show j + k - j = k by omega]
section
variable {P : Program} {w : World} {K : PySem.W.Frag} {mg : Str → Option Value} {base : Heap} {T : Addr}
structure BD (mg : Str → Option Value) : Prop where
  sum : mg "sum" = none
  enumerate : mg "enumerate" = none
theorem noLs_mems : ∀ xs : List (List Nat), noLs (xs.map memD) = true
  | [] => rfl
  | x :: r => by
    show (noLs (x.map iD) && noLs (r.map memD)) = true
    rw [noLs_int, noLs_mems r]
    rfl
theorem noLs_iD (k : Nat) : ∀ xs : List (List Nat), noLs (xs.map fun r => iD (r.getD k 0)) = true
  | [] => rfl
  | x :: r => noLs_iD k r
theorem dps_takeD {K : PySem.W.Frag} {H : Hp} : ∀ {vs : List V} {ds : List PyData} (k : Nat), DpAll K H vs ds → DpAll K H (vs.take k) (ds.take k)
  | _, _, 0, _ => .nil
  | _, _, k + 1, .nil => .nil
  | _, _, k + 1, .cons a b => .cons a (dps_takeD k b)
theorem dps_dropD {K : PySem.W.Frag} {H : Hp} : ∀ {vs : List V} {ds : List PyData} (k : Nat), DpAll K H vs ds → DpAll K H (vs.drop k) (ds.drop k)
  | _, _, 0, h => h
  | _, _, k + 1, .nil => .nil
  | _, _, k + 1, .cons a b => dps_dropD k b
theorem rowAt {K : PySem.W.Frag} {H : Hp} {vs : List V} {acc : List (List Nat)} (dp : DpAll K H vs (acc.map memD)) {i : Nat} {v : V} (hv : vs[i]? = some v) : ∃ r, acc[i]? = some r ∧ Dp K H v (memD r) := by
  obtain ⟨d, e, h⟩ := dps_get dp hv
  rw [List.getElem?_map] at e
  cases e2 : acc[i]? with
  | none =>
    rw [e2] at e
    cases e
  | some r =>
    rw [e2] at e
    cases e
    exact ⟨r, rfl, h⟩
theorem row2 {K : PySem.W.Frag} {H : Hp} {v : V} {r : List Nat} (h : Dp K H v (memD r)) (hl : r.length = 2) : ∃ t, v = .ref t ∧ SqT K H t [iV (r.getD 0 0), iV (r.getD 1 0)] := by
  match r, hl with
  | [x, y], _ =>
    obtain ⟨t, xs, e, sq, dp⟩ := dp_tup h
    have := dps_ints_eq (ks := [x, y]) dp
    rw [this] at sq
    exact ⟨t, e, sq⟩
theorem row1 {K : PySem.W.Frag} {H : Hp} {v : V} {r : List Nat} (h : Dp K H v (memD r)) (hl : r.length = 1) : ∃ t, v = .ref t ∧ SqT K H t [iV (r.getD 0 0)] := by
  match r, hl with
  | [x], _ =>
    obtain ⟨t, xs, e, sq, dp⟩ := dp_tup h
    have := dps_ints_eq (ks := [x]) dp
    rw [this] at sq
    exact ⟨t, e, sq⟩
theorem grS {H1 H2 : Hp} (tb : TabG H1 T) (s : Same H1 H2) : Gr T H1 H2 := by
  obtain ⟨ps, e, r⟩ := tb
  exact ⟨⟨ps, s _ _ e, r⟩, fun b o _ e => s b o e⟩
theorem netD_noL (a b : Nat) (rows : List (List Nat)) : noL (netD a b rows) = true := by
  show (noLs _ && (noLs _ && (noLs _ && (noLs _ && true)))) = true
  rw [noLs_iD, noLs_mems, noLs_iD, noLs_iD]
  rfl
def spParse (K : PySem.W.Frag) (T C : Addr) : Sp := fun vs H Q E => ∃ x : Str, vs = [.str x] ∧ TxL 250 140 x ∧ TabG H T ∧
  (∀ d, parseN x = .inr d → ∀ H' v, Gr T H H' → Dp K H' v d → Q v H') ∧
  ∀ n, parseN x = .inl n → ∀ H' d, Gr T H H' → H' d = some (.xd (fsL (n : Nat))) → E (.ref C) (some d) H'
theorem ok_parse {f fW fN fK fI C : Addr} {fd fdW fdN fdK fdI : FuncData} (F : Fun K "parse_net" "parse_net" sParseNet f fd) (B : BT mg) (B2 : BD mg)
    (GW : FnOk P w K mg base (L2.CX P w) 3 fW fdW ["text"] (spWhole K C)) (kW : PySem.W.keepIn K (.ref fW) = true) (bW : Binds K fdW ["text"] []) (gW : mg "whole_lines" = some (.ref fW))
    (GN : FnOk P w K mg base CX0 3 fN fdN ["line", "word", "many"] (spLine K T)) (kN : PySem.W.keepIn K (.ref fN) = true) (bN : Binds K fdN ["line", "word", "many"] []) (gN : mg "line_numbers" = some (.ref fN))
    (GK : FnOk P w K mg base CX0 2 fK fdK ["thing"] (spIsNet K)) (kK : PySem.W.keepIn K (.ref fK) = true) (bK : Binds K fdK ["thing"] []) (gK : mg "is_net" = some (.ref fK))
    (R : ErrB K mg C fI) (tI : PySem.W.typeIn K (.ref fI) = some (.type "function")) (GI : FnOk P w K mg base CX0 1 fI fdI ["self", "line"] (spInitB K)) (bI : Binds K fdI ["self", "line"] []) :
    FnOk P w K mg base (L2.CX P w) 4 f fd ["text"] (spParse K T C) := by
  refine F.okX scParseNet (fun vs H Q E h => ?_) (fun cdv A outer s H vs Q E hr h => ?_)
  · obtain ⟨x, rfl, _⟩ := h
    rfl
  · obtain ⟨x, rfl, hx, tb, q, qe⟩ := h
    have nd := scParseNet.nd
    have hr3 : Room 3 _ := hr
    have hr2 : Room 2 _ := hr.mono (by decide)
    have hrI : Room 2 _ := hr2
    refine ⟨_, (pss_cons (ps_set (i := 1) nd rfl (.inl rfl) (pe_callS GW hr3 (by rfl) gW kW bW (fun σ => passAt (takes_of rfl rfl rfl rfl) σ) (pa_cons (pv 0) pa_nil)))
      (pss_cons (ps_set (i := 2) nd rfl (.inl rfl) (pe_call GN hr3 (by rfl) gN kN bN .nil pass0 (pa_cons (pe_ix ix_list (pv 1) (pe_int) (fun _ _ => rfl)) (pa_cons (pe_str) (pa_cons (pe_int) pa_nil)))))
      (C8.pss_cut (ps_if (PW.pt (pw_or (pt_cmpR op_isN (pv 2) (pe_non) (nomark _)) (pw_or1 (pt_cmpR op_ne (pe_callB call_len_seq (by rfl) B.len PySem.boot_len (pa_cons (pv 1) pa_nil)) (pe_op op_add (pe_int) (pe_callB (RuS.cr_sumT rfl) (by rfl) B2.sum (by decide +kernel) (pa_cons (pv 2) pa_nil))) (nomark _))))) (pss_one (ps_raise rfl (takes_of rfl rfl rfl rfl) (pmk_oex R.o R.iC tI GI hrI bI .nil pass0 (by rfl) R.g (pa_cons (pe_int) pa_nil)))) pss_nil)
      (pss_cons (ps_asg (pv 2) (pg_tup (by rfl) (pgs_cons (pg_name (i := 3) nd rfl (.inl rfl)) (pgs_cons (pg_name (i := 4) nd rfl (.inl rfl)) (pgs_cons (pg_name (i := 5) nd rfl (.inl rfl)) pgs_nil)))))
      (pss_cons (ps_set (i := 6) nd rfl (.inl rfl) (pe_op op_cat (pe_op op_cat (pe_op op_rep (pe_lst (pa_cons (pe_tup (pa_cons (pe_str) (pa_cons (pe_int) pa_nil))) pa_nil)) (pv 3)) (pe_op op_rep (pe_lst (pa_cons (pe_tup (pa_cons (pe_str) (pa_cons (pe_int) pa_nil))) pa_nil)) (pv 4))) (pe_op op_rep (pe_lst (pa_cons (pe_tup (pa_cons (pe_str) (pa_cons (pe_int) pa_nil))) pa_nil)) (pv 5))))
      (pss_cons (ps_set (i := 7) nd rfl (.inl rfl) (pe_lst pa_nil))
      (C8.pss_cut (ps_for (passes_of rfl) rfl (pi_enum (by rfl) B2.enumerate (pa_cons (pv 6) pa_nil)) (pg_tup (by rfl) (pgs_cons (pg_name (i := 8) nd rfl (.inl rfl)) (pgs_cons (pg_tup (by rfl) (pgs_cons (pg_name (i := 9) nd rfl (.inl rfl)) (pgs_cons (pg_name (i := 10) nd rfl (.inl rfl)) pgs_nil))) pgs_nil))) (pss_cons (ps_set (i := 11) nd rfl (.inl rfl) (pe_call GN hr3 (by rfl) gN kN bN .nil pass0 (pa_cons (pe_ix ix_list (pv 1) (pe_op op_add (pv 8) (pe_int)) (fun _ _ => rfl)) (pa_cons (pv 9) (pa_cons (pv 10) pa_nil)))))
      (pss_cons (ps_if (pt_cmpR op_isN (pv 11) (pe_non) (nomark _)) (pss_one (ps_raise rfl (takes_of rfl rfl rfl rfl) (pmk_oex R.o R.iC tI GI hrI bI .nil pass0 (by rfl) R.g (pa_cons (pe_op op_add (pv 8) (pe_int)) pa_nil)))) pss_nil)
      (pss_one (ps_expr (pe_bm PySem.F.plainAttrs_list PySem.F.slot_list_append PySem.F.type_list_append mt_append (pv 7) (pa_cons (pv 11) pa_nil)))))))
      (pss_cons (ps_set (i := 12) nd rfl (.inl rfl) (pe_callTy call_tuple_of (by rfl) B.tuple (by decide +kernel) (pa_cons (pe_lc (own := [("first", 16), ("_", 17)]) (g := gTup K 2 (gCons (gName 16) (gCons (gName 17) (gNil)))) (tt := tYes) (te := tVar 16)  rfl nd (pi_list (pe_slice sl_list (pv 7) po_none (po_some (pv 3)))) (blkOk_by (own := [("first", 16), ("_", 17)]) (N := NPN) (sc := defScope sParseNet) (by decide +kernel)) (fun _ _ _ _ _ => pg_tup (by rfl) (pgs_cons (pg_name (i := 16) nd rfl (.inl rfl)) (pgs_cons (pg_name (i := 17) nd rfl (.inl rfl)) pgs_nil))) (fun _ _ _ _ _ => pts_nil) (fun _ _ _ _ _ => by exact (pv 16))) pa_nil)))
      (pss_cons (ps_set (i := 13) nd rfl (.inl rfl) (pe_callTy call_tuple_of (by rfl) B.tuple (by decide +kernel) (pa_cons (pe_lc (own := [("_", 17), ("literal", 18)]) (g := gTup K 2 (gCons (gName 17) (gCons (gName 18) (gNil)))) (tt := tYes) (te := tVar 18)  rfl nd (pi_list (pe_slice sl_list (pv 7) po_none (po_some (pv 3)))) (blkOk_by (own := [("_", 17), ("literal", 18)]) (N := NPN) (sc := defScope sParseNet) (by decide +kernel)) (fun _ _ _ _ _ => pg_tup (by rfl) (pgs_cons (pg_name (i := 17) nd rfl (.inl rfl)) (pgs_cons (pg_name (i := 18) nd rfl (.inl rfl)) pgs_nil))) (fun _ _ _ _ _ => pts_nil) (fun _ _ _ _ _ => by exact (pv 18))) pa_nil)))
      (pss_cons (ps_set (i := 14) nd rfl (.inl rfl) (pe_callTy call_tuple_of (by rfl) B.tuple (by decide +kernel) (pa_cons (pe_lc (own := [("numbers", 11)]) (g := gName 11) (tt := tYes) (te := tOp (rIxT K) (tVar 11) (tC (.int 0)))  rfl nd (pi_list (pe_slice sl_list (pv 7) (po_some (pv 3)) (po_some (pe_op op_add (pv 3) (pv 4))))) (blkOk_by (own := [("numbers", 11)]) (N := NPN) (sc := defScope sParseNet) (by decide +kernel)) (fun _ _ _ _ _ => pg_name (i := 11) nd rfl (.inl rfl)) (fun _ _ _ _ _ => pts_nil) (fun _ _ _ _ _ => by exact (pe_ix ix_tup (pv 11) (pe_int) (fun _ _ => rfl)))) pa_nil)))
      (pss_cons (ps_set (i := 15) nd rfl (.inl rfl) (pe_tup (pa_cons (pv 12) (pa_cons (pe_callTy call_tuple_of (by rfl) B.tuple (by decide +kernel) (pa_cons (pe_slice sl_list (pv 7) (po_some (pe_op op_add (pv 3) (pv 4))) po_none) pa_nil)) (pa_cons (pv 13) (pa_cons (pv 14) pa_nil))))))
      (pss_cons (ps_if (pt_not (pt_val (pe_call GK hr2 (by rfl) gK kK bK .nil pass0 (pa_cons (pv 15) pa_nil)))) (pss_one (ps_raise rfl (takes_of rfl rfl rfl rfl) (pmk_oex R.o R.iC tI GI hrI bI .nil pass0 (by rfl) R.g (pa_cons (pe_callB call_len_seq (by rfl) B.len PySem.boot_len (pa_cons (pv 1) pa_nil)) pa_nil)))) pss_nil)
      (pss_one (ps_ret (pv 15))))))))))))))), ?_⟩
    obtain ⟨hn, hls⟩ := hx.lines
    have hsz := hx.size
    have hp := split_pos x
    have eP0 : wholeB x = false → parseN x = .inl (splitL x).length := fun e => by
      unfold parseN
      rw [e]
      rfl
    refine ⟨_, rfl, x, rfl, by omega, fun hw H1 p s1 np e1 => ?_, fun hw H1 d s1 e1 => qe _ (eP0 hw) H1 d (grS tb s1) e1⟩
    have g1 := grS tb s1
    have tb1 := g1.tab
    have hlen : (linesOf x).length ≤ 140 := by
      unfold linesOf
      rw [List.length_dropLast]
      omega
    have hyl : ∀ y ∈ linesOf x, LnB 600 y := fun y h => (hls y (List.dropLast_subset _ h)).up (by decide)
    have h2 : 2 ≤ (splitL x).length := by
      unfold wholeB at hw
      rw [Bool.and_eq_true] at hw
      have : (splitL x).length ≠ 1 := fun z => by
        rw [decide_eq_true z] at hw
        cases hw.2
      omega
    obtain ⟨hd, rest, el⟩ : ∃ h r, linesOf x = h :: r := by
      cases e : linesOf x with
      | nil =>
        have := congrArg List.length e
        unfold linesOf at this
        rw [List.length_dropLast] at this
        simp at this
        omega
      | cons a b => exact ⟨a, b, rfl⟩
    replace e1 : H1 p = some (.lst ((hd :: rest).map V.str)) := by
      rw [← el]
      exact e1
    have hyl2 : ∀ y ∈ hd :: rest, LnB 600 y := by
      rw [← el]
      exact hyl
    have lrest : rest.length + 1 = (linesOf x).length := by
      rw [el]
      rfl
    have raise : ∀ (n : Nat), n ≤ 1000 → parseN x = .inl n → ∀ (i : Int), i = ((n : Nat) : Int) → ∀ H4, Gr T H H4 → ∀ a, H4 a = none → _ := fun n hn e i ei H4 g4 => raise_line (H := H4) (n := i) (Qx := fun cls d H' => E cls d H') R (by rw [ei]; exact ⟨by omega, by omega⟩) fun d H5 s5 _ e5 => qe _ e H5 d (g4.trans (grS g4.tab s5)) (by rw [← ei]; exact e5)
    refine ⟨_, rfl, p, _, _, _, rfl, rfl, SqL.of e1, atI_nat (j := 0) rfl, hd, "net", 3, rfl, hyl2 hd (List.mem_cons_self ..), tb1, fun H2 g2 en => ?_, fun H2 t ns g2 en sq => ?_⟩
    · -- no head
      refine ⟨fun _ _ => False, ?_, fun _ _ z => z.elim⟩
      refine ⟨_, rfl, rfl, _, rfl, iteT ⟨(by show 1 ≤ 1000; decide), ?_⟩⟩
      exact raise 1 (by decide) (parse_none hw el en) 1 rfl H2 (g1.trans g2)
    obtain ⟨a, b, c, rfl⟩ : ∃ a b c, ns = [a, b, c] := by
      have := lnN_len en
      match ns, this with
      | [a, b, c], _ => exact ⟨a, b, c, rfl⟩
    have eP2 : parseN x = bodyN x a b c rest := parse_some hw el en
    have g12 := g1.trans g2
    have tb2 := g12.tab
    have ep2 := g2.at tb1 e1 (fun ps z => by cases z)
    refine ⟨fun σ H' => H2 = H' ∧ σ = [some (.str x), some (.ref p), some (.ref t), none, none, none, none, none, none, none, none, none, none, none, none, none, none, none, none] ∧ (linesOf x).length = 1 + (a + (b + c)), ?_, ?_⟩
    · refine ⟨_, rfl, rfl, _, rfl, iteF ?_⟩
      refine ⟨_, rfl, p, _, rfl, .inl (SqL.of ep2), _, rfl, t, [((a : Nat) : Int), ((b : Nat) : Int), ((c : Nat) : Int)], rfl, sq, _, _, rfl, rfl, rfl, _, rfl, ?_⟩
      have es : ([((a : Nat) : Int), ((b : Nat) : Int), ((c : Nat) : Int)] : List Int).sum = (((a + (b + c) : Nat)) : Int) := by
        simp only [List.sum_cons, List.sum_nil]
        omega
      rw [es, List.length_map]
      by_cases hl : (linesOf x).length = 1 + (a + (b + c))
      · refine iteF' (by rw [decide_eq_true (congrArg V.int (by rw [List.length_cons]; omega))]; rfl) ⟨rfl, rfl, hl⟩
      · refine iteT' (by rw [decide_eq_false (fun z => hl (by have := V.int.inj z; rw [List.length_cons] at this; omega))]; rfl) ⟨(by show 1 ≤ 1000; decide), ?_⟩
        exact raise 1 (by decide) (by rw [eP2]; exact if_neg hl) 1 rfl H2 g12
    rintro σ H' ⟨rfl, rfl, hl⟩
    have eP3 : parseN x = afterN x a b c rest := by
      rw [eP2]
      exact if_pos hl
    refine ⟨_, rfl, t, _, rfl, sq, rfl, _, _, rfl, _, _, rfl, _, _, rfl, rfl, ?_⟩
    -- the forms
    have mk : ∀ {Ha : Hp} {wd : Str} {m k : Nat} {t' l' p' : Addr}, True := fun {_ _ _ _ _ _ _} => trivial
    refine ⟨line200 (show 2 ≤ 1000 by decide), fun t1 nt1 => ?_⟩
    have s1a := Same.up nt1 (o := .tup [.str "latch", .int 2])
    have f1a : (upd H2 t1 (.tup [.str "latch", .int 2])) t1 = some (.tup [.str "latch", .int 2]) := upd_same
    generalize upd H2 t1 (.tup [.str "latch", .int 2]) = H3 at s1a f1a
    refine ⟨line200 (show 1 ≤ 1000 by decide), fun l1 nl1 => ?_⟩
    refine ⟨_, rfl, l1, _, _, rfl, rfl, upd_same, by omega, by omega, by show 1 * ((a : Nat) : Int).toNat ≤ sizeLine; rw [sizeLine_eq]; omega, fun p1 np1 => ?_⟩
    have s1b := s1a.trans ((Same.up nl1 (o := .lst [.ref t1])).trans (Same.up np1 (o := .lst (List.replicate ((a : Nat) : Int).toNat [V.ref t1]).flatten)))
    replace f1a := ((Same.up nl1 (o := .lst [.ref t1])).trans (Same.up np1 (o := .lst (List.replicate ((a : Nat) : Int).toNat [V.ref t1]).flatten))) _ _ f1a
    have f1b : (upd (upd H3 l1 (.lst [.ref t1])) p1 (.lst (List.replicate ((a : Nat) : Int).toNat [V.ref t1]).flatten)) p1 = some (.lst (List.replicate a (V.ref t1))) := by
      rw [upd_same, Int.toNat_natCast, List.flatten_replicate_singleton]
    generalize upd (upd H3 l1 (.lst [.ref t1])) p1 (.lst (List.replicate ((a : Nat) : Int).toNat [V.ref t1]).flatten) = H4 at s1b f1a f1b
    refine ⟨line200 (show 2 ≤ 1000 by decide), fun t2 nt2 => ?_⟩
    have s2a := Same.up nt2 (o := .tup [.str "told", .int 1])
    have f2a : (upd H4 t2 (.tup [.str "told", .int 1])) t2 = some (.tup [.str "told", .int 1]) := upd_same
    replace f1a := s2a _ _ f1a
    replace f1b := s2a _ _ f1b
    replace s2a := s1b.trans s2a
    generalize upd H4 t2 (.tup [.str "told", .int 1]) = H5 at s2a f2a f1a f1b
    refine ⟨line200 (show 1 ≤ 1000 by decide), fun l2 nl2 => ?_⟩
    refine ⟨_, rfl, l2, _, _, rfl, rfl, upd_same, by omega, by omega, by show 1 * ((b : Nat) : Int).toNat ≤ sizeLine; rw [sizeLine_eq]; omega, fun p2 np2 => ?_⟩
    have s2c := (Same.up nl2 (o := .lst [.ref t2])).trans (Same.up np2 (o := .lst (List.replicate ((b : Nat) : Int).toNat [V.ref t2]).flatten))
    replace f1a := s2c _ _ f1a
    replace f1b := s2c _ _ f1b
    replace f2a := s2c _ _ f2a
    have s2b := s2a.trans s2c
    clear s2c
    have f2b : (upd (upd H5 l2 (.lst [.ref t2])) p2 (.lst (List.replicate ((b : Nat) : Int).toNat [V.ref t2]).flatten)) p2 = some (.lst (List.replicate b (V.ref t2))) := by
      rw [upd_same, Int.toNat_natCast, List.flatten_replicate_singleton]
    generalize upd (upd H5 l2 (.lst [.ref t2])) p2 (.lst (List.replicate ((b : Nat) : Int).toNat [V.ref t2]).flatten) = H6 at s2b f1a f1b f2a f2b
    refine ⟨p1, p2, _, _, rfl, rfl, f1b, f2b, line200 (by rw [List.length_replicate, List.length_replicate]; omega), fun p3 np3 => ?_⟩
    have s3a := Same.up np3 (o := .lst (List.replicate a (V.ref t1) ++ List.replicate b (V.ref t2)))
    have f3a : (upd H6 p3 (.lst (List.replicate a (V.ref t1) ++ List.replicate b (V.ref t2)))) p3 = some (.lst (List.replicate a (V.ref t1) ++ List.replicate b (V.ref t2))) := upd_same
    replace f1a := s3a _ _ f1a
    replace f2a := s3a _ _ f2a
    replace s3a := s2b.trans s3a
    generalize upd H6 p3 (.lst (List.replicate a (V.ref t1) ++ List.replicate b (V.ref t2))) = H7 at s3a f3a f1a f2a
    refine ⟨line200 (show 2 ≤ 1000 by decide), fun t3 nt3 => ?_⟩
    have s4a := Same.up nt3 (o := .tup [.str "and", .int 2])
    have f4a : (upd H7 t3 (.tup [.str "and", .int 2])) t3 = some (.tup [.str "and", .int 2]) := upd_same
    replace f1a := s4a _ _ f1a
    replace f2a := s4a _ _ f2a
    replace f3a := s4a _ _ f3a
    replace s4a := s3a.trans s4a
    generalize upd H7 t3 (.tup [.str "and", .int 2]) = H8 at s4a f4a f1a f2a f3a
    refine ⟨line200 (show 1 ≤ 1000 by decide), fun l3 nl3 => ?_⟩
    refine ⟨_, rfl, l3, _, _, rfl, rfl, upd_same, by omega, by omega, by show 1 * ((c : Nat) : Int).toNat ≤ sizeLine; rw [sizeLine_eq]; omega, fun p4 np4 => ?_⟩
    have s5c := (Same.up nl3 (o := .lst [.ref t3])).trans (Same.up np4 (o := .lst (List.replicate ((c : Nat) : Int).toNat [V.ref t3]).flatten))
    replace f1a := s5c _ _ f1a
    replace f2a := s5c _ _ f2a
    replace f3a := s5c _ _ f3a
    replace f4a := s5c _ _ f4a
    have s5b := s4a.trans s5c
    clear s5c
    have f5b : (upd (upd H8 l3 (.lst [.ref t3])) p4 (.lst (List.replicate ((c : Nat) : Int).toNat [V.ref t3]).flatten)) p4 = some (.lst (List.replicate c (V.ref t3))) := by
      rw [upd_same, Int.toNat_natCast, List.flatten_replicate_singleton]
    generalize upd (upd H8 l3 (.lst [.ref t3])) p4 (.lst (List.replicate ((c : Nat) : Int).toNat [V.ref t3]).flatten) = H9 at s5b f1a f2a f3a f4a f5b
    refine ⟨p3, p4, _, _, rfl, rfl, f3a, f5b, line200 (by rw [List.length_append, List.length_replicate, List.length_replicate, List.length_replicate]; omega), fun fm nfm => ?_⟩
    have s6a := Same.up nfm (o := .lst ((List.replicate a (V.ref t1) ++ List.replicate b (V.ref t2)) ++ List.replicate c (V.ref t3)))
    have f6a : (upd H9 fm (.lst ((List.replicate a (V.ref t1) ++ List.replicate b (V.ref t2)) ++ List.replicate c (V.ref t3)))) fm = some (.lst ((List.replicate a (V.ref t1) ++ List.replicate b (V.ref t2)) ++ List.replicate c (V.ref t3))) := upd_same
    replace f1a := s6a _ _ f1a
    replace f2a := s6a _ _ f2a
    replace f4a := s6a _ _ f4a
    replace s6a := s5b.trans s6a
    generalize upd H9 fm (.lst ((List.replicate a (V.ref t1) ++ List.replicate b (V.ref t2)) ++ List.replicate c (V.ref t3))) = Ha at s6a f6a f1a f2a f4a
    have drep : ∀ (k : Nat) (v : V) (d : PyData), Dp K Ha v d → DpAll K Ha (List.replicate k v) (List.replicate k d) := fun k v d h => by
      induction k with
      | zero => exact .nil
      | succ k ih => exact .cons h ih
    have dforms : DpAll K Ha ((List.replicate a (V.ref t1) ++ List.replicate b (V.ref t2)) ++ List.replicate c (V.ref t3)) ((formsN a b c).map formD) := by
      unfold formsN
      rw [List.map_append, List.map_append, List.map_replicate, List.map_replicate, List.map_replicate]
      exact dps_app (dps_app (drep _ _ _ (.tup (SqT.of f1a) (.cons (.str _) (.cons (.int _) .nil)))) (drep _ _ _ (.tup (SqT.of f2a) (.cons (.str _) (.cons (.int _) .nil))))) (drep _ _ _ (.tup (SqT.of f4a) (.cons (.str _) (.cons (.int _) .nil))))
    generalize (List.replicate a (V.ref t1) ++ List.replicate b (V.ref t2)) ++ List.replicate c (V.ref t3) = fvs at f6a dforms
    clear f1a f2a f3a f4a f5b f1b f2b s1a s1b s2a s2b s3a s4a s5b
    -- found
    refine ⟨Nat.zero_le _, fun fl nfl => ?_⟩
    have ga : Gr T H Ha := g12.trans (grS tb2 s6a)
    have tba := ga.tab
    have gb : Gr T Ha (upd Ha fl (.lst [])) := Gr.laid tba nfl
    have fb : (upd Ha fl (.lst [])) fl = some (.lst []) := upd_same
    generalize upd Ha fl (.lst []) = Hb at gb fb
    have epa := s6a _ _ ep2
    have lfv : fvs.length = a + (b + c) := by
      have := dps_len dforms
      rw [List.length_map, forms_len] at this
      exact this
    have lrs : rest.length = a + (b + c) := by
      have : (linesOf x).length = rest.length + 1 := lrest.symm
      omega
    have hab : a + (b + c) ≤ 139 := by omega
    have nofm : noLs ((formsN a b c).map formD) = true := by
      have : ∀ l : List (Str × Nat), noLs (l.map formD) = true := fun l => by
        induction l with
        | nil => rfl
        | cons f l ih => exact ih
      exact this _
    let Iv : Nat → L2.St → Hp → Prop := fun i σ H' => ∃ (y8 y9 y10 y11 : Option V) (vs : List V) (acc : List (List Nat)), σ = [some (.str x), some (.ref p), some (.ref t), some (iV a), some (iV b), some (iV c), some (.ref fm), some (.ref fl), y8, y9, y10, y11, none, none, none, none, none, none, none] ∧ Gr T Ha H' ∧ H' fl = some (.lst vs) ∧ DpAll K H' vs (acc.map memD) ∧ acc.length = i ∧ readN 0 [] (formsN a b c) rest = readN i acc ((formsN a b c).drop i) (rest.drop i)
    refine ⟨fun σ H' => Iv fvs.length σ H', ?_, ?_⟩
    · refine ⟨_, rfl, fm, _, rfl, gb.seqL tba (SqL.of f6a), ?_⟩
      refine for_enL (xs := fvs) Iv ⟨none, none, none, none, [], [], rfl, gb, fb, .nil, rfl, rfl⟩ (fun i σ H' _ h => ?_) (fun i v U σ H' hv h nU => ?_) (fun σ H' h => h)
      · obtain ⟨_, _, _, _, _, _, _, g, _⟩ := h
        exact g.seqL tba (SqL.of f6a)
      · obtain ⟨y8, y9, y10, y11, vs, acc, rfl, g, efl, dacc, lacc, er⟩ := h
        have hil : i < fvs.length := (List.getElem?_eq_some_iff.mp hv).1
        obtain ⟨df, edf, dv⟩ := dps_get dforms hv
        rw [List.getElem?_map] at edf
        obtain ⟨⟨wd, mn⟩, ef, rfl⟩ : ∃ f, (formsN a b c)[i]? = some f ∧ formD f = df := by
          cases e : (formsN a b c)[i]? with
          | none => rw [e] at edf; cases edf
          | some f => rw [e] at edf; exact ⟨f, rfl, Option.some.inj edf⟩
        obtain ⟨tv, tvs, rfl, tsq, tdp⟩ := dp_tup dv
        cases tdp with
        | cons d1 r1 =>
        cases r1 with
        | cons d2 r2 =>
        cases r2
        cases d1
        cases d2
        have gU : Gr T Ha (upd H' U (.tup [.int ((i : Nat) : Int), .ref tv])) := g.trans (Gr.laid g.tab nU)
        have eflU := (Gr.laid (o := .tup [.int ((i : Nat) : Int), .ref tv]) g.tab nU).at g.tab efl (fun ps z => by cases z)
        have daccU := dps_stay (fun _ _ h => (Gr.laid (o := .tup [.int ((i : Nat) : Int), .ref tv]) g.tab nU).seqT g.tab h) _ _ dacc (noLs_mems acc)
        refine ⟨U, _, rfl, SqT.of upd_same, rfl, _, _, rfl, _, _, rfl, tv, _, rfl, gU.seqT tba tsq, rfl, _, _, rfl, _, _, rfl, rfl, rfl, ?_⟩
        generalize upd H' U (.tup [.int ((i : Nat) : Int), .ref tv]) = H2u at gU eflU daccU
        obtain ⟨y, ey⟩ : ∃ y, rest[i]? = some y := ⟨_, List.getElem?_eq_getElem (by omega)⟩
        have edr : rest.drop i = y :: rest.drop (i + 1) := by
          obtain ⟨h1, h2⟩ := List.getElem?_eq_some_iff.mp ey
          rw [List.drop_eq_getElem_cons h1, h2]
        have edf : (formsN a b c).drop i = (wd, mn) :: (formsN a b c).drop (i + 1) := by
          obtain ⟨h1, h2⟩ := List.getElem?_eq_some_iff.mp ef
          rw [List.drop_eq_getElem_cons h1, h2]
        have er2 : readN 0 [] (formsN a b c) rest = match lnN wd mn y with
          | none => .inl (i + 2)
          | some ns => readN (i + 1) (acc ++ [ns]) ((formsN a b c).drop (i + 1)) (rest.drop (i + 1)) := by
          rw [er, edr, edf]
          rfl
        have epU := gU.at tba epa (fun ps z => by cases z)
        refine ⟨_, rfl, _, rfl, _, _, rfl, rfl, p, _, _, _, rfl, rfl, SqL.of epU, atI_nat (j := i + 1) (by rw [List.getElem?_map, List.getElem?_cons_succ, ey]; rfl), _, rfl, _, rfl, y, wd, mn, rfl, hyl2 y (List.mem_cons_of_mem _ (List.mem_of_getElem? ey)), gU.tab, fun H4 g4 en => ?_, fun H4 t4 ns g4 en sq4 => ?_⟩
        · refine ⟨_, rfl, rfl, _, rfl, iteT ⟨_, rfl, _, _, rfl, rfl, (by show 1 ≤ 1000; decide), ?_⟩⟩
          exact raise (i + 2) (by omega) (by rw [eP3]; unfold afterN; rw [er2, en]) (((i : Nat) : Int) + 2) (by omega) H4 (ga.trans (gU.trans g4))
        · refine ⟨_, rfl, rfl, _, rfl, iteF ?_⟩
          have gV := gU.trans g4
          have efl4 := g4.at gU.tab eflU (fun ps z => by cases z)
          have dacc4 := dps_stay (fun _ _ h => g4.seqT gU.tab h) _ _ daccU (noLs_mems acc)
          have lvs : vs.length = acc.length := by
            have := dps_len dacc
            rw [List.length_map] at this
            exact this
          refine ⟨_, rfl, .inl ⟨rfl, _, SqL.of efl4⟩, _, rfl, fl, vs, .ref t4, rfl, rfl, efl4, lineS200 (by omega), ?_⟩
          have nflT := tab_ne tba nfl
          refine ⟨_, _, _, _, vs ++ [.ref t4], acc ++ [ns], rfl, ⟨?_, fun b o hb he => ?_⟩, upd_same, ?_, by rw [List.length_append, lacc]; rfl, by rw [er2, en]⟩
          · obtain ⟨ps, ep, r⟩ := gV.tab
            exact ⟨ps, by rw [upd_ne nflT.symm]; exact ep, r⟩
          · rw [upd_ne (ne_of_none he nfl)]
            exact gV.old b o hb he
          · rw [List.map_append]
            exact push_dps efl4 dacc4 (noLs_mems acc) (.tup sq4 (dps_ints ns)) (noLs_int ns)
    rintro σ H3 ⟨y8, y9, y10, y11, vs, acc, rfl, g3, efl, dacc, lacc, er⟩
    have erows : readN 0 [] (formsN a b c) rest = .inr acc := by
      rw [er, List.drop_eq_nil_of_le (as := formsN a b c) (by rw [forms_len]; omega)]
      cases rest.drop fvs.length <;> rfl
    have ras : RowsAs (formsN a b c) acc := by
      have := readN_as (gs := []) (acc := []) ⟨rfl, fun i r f h => by simp at h⟩ erows
      exact this
    have lvs : vs.length = acc.length := by
      have := dps_len dacc
      rw [List.length_map] at this
      exact this
    have la : acc.length = a + (b + c) := by omega
    have two : ∀ i r, i < a → acc[i]? = some r → r.length = 2 := fun i r hi e => by
      obtain ⟨f, ef⟩ : ∃ f, (formsN a b c)[i]? = some f := ⟨_, List.getElem?_eq_getElem (by rw [forms_len]; omega)⟩
      rw [ras.2 i r f e ef, form_two ef hi]
    have one : ∀ i r, a ≤ i → i < a + b → acc[i]? = some r → r.length = 1 := fun i r hi hj e => by
      obtain ⟨f, ef⟩ : ∃ f, (formsN a b c)[i]? = some f := ⟨_, List.getElem?_eq_getElem (by rw [forms_len]; omega)⟩
      rw [ras.2 i r f e ef, form_one ef hi hj]
    have g03 := ga.trans g3
    have epv3 := g3.at tba epa (fun ps z => by cases z)
    -- firsts
    refine ⟨_, rfl, _, rfl, _, rfl, fl, _, rfl, SqL.of efl, fun s1 n1 => ⟨s1, rfl, ⟨_, SqL.of upd_same⟩, fun D1 nD1 => ?_⟩⟩
    have k1 := Same.up n1 (o := .lst (cutV vs none (some ((a : Nat) : Int))))
    have f1 : (upd H3 s1 (.lst (cutV vs none (some ((a : Nat) : Int))))) s1 = some (.lst (vs.take a)) := by rw [upd_same, cut_to]
    generalize upd H3 s1 (.lst (cutV vs none (some ((a : Nat) : Int)))) = Hc at k1 f1 nD1
    refine lc_listD (xs := vs.take a) ((acc.take a).map fun r => iD (r.getD 0 0)) (noLs_iD 0 _) (by rw [List.length_map, List.length_take, List.length_take, lvs]) (by rw [List.length_take]; omega) (SqL.of f1) nD1 (fun i v d H4 Q4 hv hdi sm q4 => ?_) (fun H4 l1v sm e4 d4 => ?_)
    · have dt : DpAll K H4 (vs.take a) ((acc.take a).map memD) := by
        rw [List.map_take]
        exact dps_takeD a (dps_stay (same_tup (k1.trans sm)) _ _ dacc (noLs_mems acc))
      obtain ⟨r, er1, dr⟩ := rowAt dt hv
      have hia : i < a := by
        have := (List.getElem?_eq_some_iff.mp er1).1
        rw [List.length_take] at this
        omega
      rw [List.getElem?_map, er1] at hdi
      cases hdi
      obtain ⟨tr, rfl, sqr⟩ := row2 dr (two i r hia (by rw [List.getElem?_take, if_pos hia] at er1; exact er1))
      exact ⟨tr, _, rfl, sqr, rfl, _, _, rfl, _, _, rfl, rfl, rfl, _, rfl, q4 _ H4 (Same.refl _) (.int _)⟩
    refine ⟨D1, _, rfl, .inl ⟨SqL.of e4, fun ta nta => ?_⟩⟩
    have k2 := k1.trans (sm.trans (Same.up nta (o := .tup l1v)))
    have fta : (upd H4 ta (.tup l1v)) ta = some (.tup l1v) := upd_same
    have dta := dps_stay (same_tup (Same.up nta (o := .tup l1v))) _ _ d4 (noLs_iD 0 _)
    generalize upd H4 ta (.tup l1v) = Hd1 at k2 fta dta
    clear e4 d4 sm nta
    -- nexts
    have efl2 := k2 _ _ efl
    refine ⟨_, rfl, _, rfl, _, rfl, fl, _, rfl, SqL.of efl2, fun s2 n2 => ⟨s2, rfl, ⟨_, SqL.of upd_same⟩, fun D2 nD2 => ?_⟩⟩
    have k3 := k2.trans (Same.up n2 (o := .lst (cutV vs none (some ((a : Nat) : Int)))))
    have j3 := Same.up n2 (o := .lst (cutV vs none (some ((a : Nat) : Int))))
    have f2 : (upd Hd1 s2 (.lst (cutV vs none (some ((a : Nat) : Int))))) s2 = some (.lst (vs.take a)) := by rw [upd_same, cut_to]
    generalize upd Hd1 s2 (.lst (cutV vs none (some ((a : Nat) : Int)))) = He at k3 j3 f2 nD2
    refine lc_listD (xs := vs.take a) ((acc.take a).map fun r => iD (r.getD 1 0)) (noLs_iD 1 _) (by rw [List.length_map, List.length_take, List.length_take, lvs]) (by rw [List.length_take]; omega) (SqL.of f2) nD2 (fun i v d H5 Q4 hv hdi sm q4 => ?_) (fun H5 l2v sm e5 d5 => ?_)
    · have dt : DpAll K H5 (vs.take a) ((acc.take a).map memD) := by
        rw [List.map_take]
        exact dps_takeD a (dps_stay (same_tup (k3.trans sm)) _ _ dacc (noLs_mems acc))
      obtain ⟨r, er1, dr⟩ := rowAt dt hv
      have hia : i < a := by
        have := (List.getElem?_eq_some_iff.mp er1).1
        rw [List.length_take] at this
        omega
      rw [List.getElem?_map, er1] at hdi
      cases hdi
      obtain ⟨tr, rfl, sqr⟩ := row2 dr (two i r hia (by rw [List.getElem?_take, if_pos hia] at er1; exact er1))
      exact ⟨tr, _, rfl, sqr, rfl, _, _, rfl, _, _, rfl, rfl, rfl, _, rfl, q4 _ H5 (Same.refl _) (.int _)⟩
    refine ⟨D2, _, rfl, .inl ⟨SqL.of e5, fun tb' ntb => ?_⟩⟩
    have j4 := j3.trans (sm.trans (Same.up ntb (o := .tup l2v)))
    have k4 := k2.trans j4
    have fta4 := j4 _ _ fta
    have dta4 := dps_stay (same_tup j4) _ _ dta (noLs_iD 0 _)
    have ftb : (upd H5 tb' (.tup l2v)) tb' = some (.tup l2v) := upd_same
    have dtb := dps_stay (same_tup (Same.up ntb (o := .tup l2v))) _ _ d5 (noLs_iD 1 _)
    generalize upd H5 tb' (.tup l2v) = Hf at k4 fta4 dta4 ftb dtb j4
    clear e5 d5 sm ntb k3 j3 f2 nD2 dta fta j4
    -- outs
    have efl4 := k4 _ _ efl
    refine ⟨_, rfl, _, rfl, _, rfl, _, rfl, _, rfl, _, _, rfl, rfl, _, rfl, fl, _, rfl, SqL.of efl4, fun s3 n3 => ⟨s3, rfl, ⟨_, SqL.of upd_same⟩, fun D3 nD3 => ?_⟩⟩
    have j5 := Same.up n3 (o := .lst (cutV vs (some ((a : Nat) : Int)) (some (((a : Nat) : Int) + ((b : Nat) : Int)))))
    have f3 : (upd Hf s3 (.lst (cutV vs (some ((a : Nat) : Int)) (some (((a : Nat) : Int) + ((b : Nat) : Int)))))) s3 = some (.lst ((vs.drop a).take b)) := by rw [upd_same, cut_mid _ _ _ (by omega)]
    generalize upd Hf s3 (.lst (cutV vs (some ((a : Nat) : Int)) (some (((a : Nat) : Int) + ((b : Nat) : Int))))) = Hg at j5 f3 nD3
    refine lc_listD (xs := (vs.drop a).take b) (((acc.drop a).take b).map fun r => iD (r.getD 0 0)) (noLs_iD 0 _) (by rw [List.length_map, List.length_take, List.length_take, List.length_drop, List.length_drop, lvs]) (by rw [List.length_take]; omega) (SqL.of f3) nD3 (fun i v d H5 Q4 hv hdi sm q4 => ?_) (fun H5 l3v sm e5 d5 => ?_)
    · have dt : DpAll K H5 ((vs.drop a).take b) (((acc.drop a).take b).map memD) := by
        rw [List.map_take, List.map_drop]
        exact dps_takeD b (dps_dropD a (dps_stay (same_tup (k4.trans (j5.trans sm))) _ _ dacc (noLs_mems acc)))
      obtain ⟨r, er1, dr⟩ := rowAt dt hv
      have hia : i < b := by
        have := (List.getElem?_eq_some_iff.mp er1).1
        rw [List.length_take] at this
        omega
      rw [List.getElem?_map, er1] at hdi
      cases hdi
      obtain ⟨tr, rfl, sqr⟩ := row1 dr (one (a + i) r (by omega) (by omega) (by rw [List.getElem?_take, if_pos hia, List.getElem?_drop] at er1; exact er1))
      exact ⟨rfl, _, rfl, tr, _, _, _, rfl, rfl, sqr, atI_nat (j := 0) rfl, q4 _ H5 (Same.refl _) (.int _)⟩
    refine ⟨D3, _, rfl, .inl ⟨SqL.of e5, fun tc ntc => ?_⟩⟩
    have j6 := j5.trans (sm.trans (Same.up ntc (o := .tup l3v)))
    have k6 := k4.trans j6
    have fta6 := j6 _ _ fta4
    have dta6 := dps_stay (same_tup j6) _ _ dta4 (noLs_iD 0 _)
    have ftb6 := j6 _ _ ftb
    have dtb6 := dps_stay (same_tup j6) _ _ dtb (noLs_iD 1 _)
    have ftc : (upd H5 tc (.tup l3v)) tc = some (.tup l3v) := upd_same
    have dtc := dps_stay (same_tup (Same.up ntc (o := .tup l3v))) _ _ d5 (noLs_iD 0 _)
    generalize upd H5 tc (.tup l3v) = Hh at k6 fta6 dta6 ftb6 dtb6 ftc dtc
    clear e5 d5 sm ntc j5 f3 nD3 j6 fta4 dta4 ftb dtb
    -- net
    have efl6 := k6 _ _ efl
    refine ⟨_, rfl, _, rfl, _, rfl, _, rfl, _, _, rfl, rfl, _, rfl, fl, _, rfl, SqL.of efl6, fun s4 n4 => ⟨s4, _, rfl, .inl ⟨SqL.of upd_same, fun td ntd => ?_⟩⟩⟩
    have f4 : (upd Hh s4 (.lst (cutV vs (some (((a : Nat) : Int) + ((b : Nat) : Int))) none))) s4 = some (.lst (vs.drop (a + b))) := by rw [upd_same, show ((a : Nat) : Int) + ((b : Nat) : Int) = (((a + b : Nat)) : Int) by omega, cut_from _ _ (by omega)]
    have j7 := (Same.up n4 (o := .lst (cutV vs (some (((a : Nat) : Int) + ((b : Nat) : Int))) none))).trans (Same.up ntd (o := .tup (cutV vs (some (((a : Nat) : Int) + ((b : Nat) : Int))) none)))
    have ftd : (upd (upd Hh s4 (.lst (cutV vs (some (((a : Nat) : Int) + ((b : Nat) : Int))) none))) td (.tup (cutV vs (some (((a : Nat) : Int) + ((b : Nat) : Int))) none))) td = some (.tup (vs.drop (a + b))) := by rw [upd_same, show ((a : Nat) : Int) + ((b : Nat) : Int) = (((a + b : Nat)) : Int) by omega, cut_from _ _ (by omega)]
    generalize upd (upd Hh s4 (.lst (cutV vs (some (((a : Nat) : Int) + ((b : Nat) : Int))) none))) td (.tup (cutV vs (some (((a : Nat) : Int) + ((b : Nat) : Int))) none)) = Hk at j7 ftd
    refine ⟨_, rfl, _, rfl, line200 (show 4 ≤ 1000 by decide), fun nt nnt => ?_⟩
    have j8 := j7.trans (Same.up nnt (o := .tup [.ref ta, .ref td, .ref tb', .ref tc]))
    have fnt : (upd Hk nt (.tup [.ref ta, .ref td, .ref tb', .ref tc])) nt = some (.tup [.ref ta, .ref td, .ref tb', .ref tc]) := upd_same
    have k8 := k6.trans j8
    have dnet : Dp K (upd Hk nt (.tup [.ref ta, .ref td, .ref tb', .ref tc])) (.ref nt) (netD a b acc) := by
      refine .tup (SqT.of fnt) (.cons (.tup (SqT.of (j8 _ _ fta6)) (dps_stay (same_tup j8) _ _ dta6 (noLs_iD 0 _))) (.cons (.tup (SqT.of (Same.up nnt _ _ ftd)) ?_) (.cons (.tup (SqT.of (j8 _ _ ftb6)) (dps_stay (same_tup j8) _ _ dtb6 (noLs_iD 1 _))) (.cons (.tup (SqT.of (j8 _ _ ftc)) (dps_stay (same_tup j8) _ _ dtc (noLs_iD 0 _))) .nil))))
      rw [List.map_drop]
      exact dps_dropD (a + b) (dps_stay (same_tup k8) _ _ dacc (noLs_mems acc))
    have epv8 := k8 _ _ epv3
    generalize upd Hk nt (.tup [.ref ta, .ref td, .ref tb', .ref tc]) = Hl at k8 dnet epv8
    have rlen : ∀ r ∈ acc, r.length ≤ 10 := fun r hr => by
      obtain ⟨i, hi, e⟩ := List.mem_iff_getElem.mp hr
      obtain ⟨f, ef⟩ : ∃ f, (formsN a b c)[i]? = some f := ⟨_, List.getElem?_eq_getElem (by rw [forms_len]; omega)⟩
      have h1 := ras.2 i r f (by rw [← e]; exact List.getElem?_eq_getElem hi) ef
      have : f.2 ≤ 2 := by
        have hm := List.mem_of_getElem? ef
        unfold formsN at hm
        simp only [List.mem_append, List.mem_replicate] at hm
        rcases hm with (⟨_, rfl⟩ | ⟨_, rfl⟩) | ⟨_, rfl⟩ <;> decide
      omega
    obtain ⟨gd3, lens⟩ := net_gd (a := a) (b := b) (rows := acc) (by omega) rlen
    have ga8 := g03.trans (grS g03.tab k8)
    have eP4 : parseN x = if netB (netD a b acc) = true then .inr (netD a b acc) else .inl (linesOf x).length := by
      rw [eP3]
      unfold afterN
      rw [erows]
    refine ⟨_, rfl, _, netD a b acc, 3, rfl, dnet, gd3, by decide, lens, fun Hm sm => ?_⟩
    have ga9 := ga8.trans (grS ga8.tab sm)
    cases hb : netB (netD a b acc) with
    | false =>
      refine ⟨_, rfl, iteT ⟨_, rfl, p, _, rfl, .inl (SqL.of (sm _ _ epv8)), (by show 1 ≤ 1000; decide), ?_⟩⟩
      exact raise (linesOf x).length (by omega) (by rw [eP4, hb]; rfl) _ (by rw [List.length_map, ← el]) Hm ga9
    | true =>
      refine ⟨_, rfl, iteF ⟨_, rfl, ?_⟩⟩
      exact q _ (by rw [eP4, hb]; rfl) Hm _ ga9 (dp_stay (same_tup sm) _ _ dnet (netD_noL a b acc))
end
end C1

/-! A net's text, printed by the program and laid by the law. -/
namespace C1
open PySem PySem.Spec PyProof.Rows L2 SX
abbrev sPrintNet : Stmt := topS 18
theorem scPrintNet : FnScope ["net", "firsts", "ands", "nexts", "outs", "lines", "first", "literal", "one", "other", "line", "part"] ["net"] (defScope sPrintNet) := ⟨rfl, rfl, rfl, by decide +kernel, rfl, by decide +kernel, by decide +kernel⟩
abbrev NPR : List Str := ["net", "firsts", "ands", "nexts", "outs", "lines", "first", "literal", "one", "other", "line", "part"]
def scPl : Scope := { kind := .function, names := [(".0", .local), ("line", .local)], isGenerator := false, isCoroutine := false }
def nParts (n : Net) : List (List PyData) := [.str "net", iD n.firsts.length, iD n.outs.length, iD n.ands.length] :: ((n.firsts.zip n.nexts).map (fun p => [.str "latch", iD p.1, iD p.2]) ++ (n.outs.map (fun o => [.str "told", iD o]) ++ n.ands.map (fun p => [.str "and", iD p.1, iD p.2])))
def nLines (n : Net) : List Str := (nParts n).map lineT
def ntext (n : Net) : Str := textL (nLines n)
structure NetSm (n : Net) : Prop where
  ok : NetOk n
  l : n.firsts.length ≤ 90
  a : n.ands.length ≤ 20
  o : n.outs.length ≤ 20
theorem NetSm.fst {n : Net} (h : NetSm n) : ∀ x ∈ n.firsts, x < 1000000000 := fun x hx => by
  have := h.ok.fb x hx
  omega
theorem NetSm.nx {n : Net} (h : NetSm n) : ∀ x ∈ n.nexts, x < 1000000000 := fun x hx => by
  have := h.ok.no x hx
  have := h.l
  have := h.a
  omega
theorem NetSm.ou {n : Net} (h : NetSm n) : ∀ x ∈ n.outs, x < 1000000000 := fun x hx => by
  have := h.ok.oo x hx
  have := h.l
  have := h.a
  omega
theorem NetSm.an {n : Net} (h : NetSm n) : ∀ p ∈ n.ands, p.1 < 1000000000 ∧ p.2 < 1000000000 := fun p hp => by
  obtain ⟨i, hi⟩ := List.getElem?_of_mem hp
  have h1 := (List.getElem?_eq_some_iff.mp hi).1
  have := h.ok.ao i p hi
  have := h.l
  have := h.a
  omega
theorem nParts_ok {n : Net} (h : NetSm n) : ∀ ds ∈ nParts n, LpOk ds := by
  have mk : ∀ {wd : Str} {ds : List PyData}, wd ∈ wordsP → (∀ d ∈ ds, PartOk d) → ds.length ≤ 5 → LpOk (.str wd :: ds) := fun {wd ds} h1 h2 h3 => all_part h2 h1 h3
  have hl := h.l
  have ha := h.a
  have ho := h.o
  intro ds hd
  unfold nParts at hd
  rcases List.mem_cons.mp hd with rfl | hd
  · refine mk (by decide +kernel) (fun d hd => ?_) (by show 3 ≤ 5; decide)
    simp only [List.mem_cons, List.mem_nil_iff, or_false] at hd
    rcases hd with rfl | rfl | rfl <;> exact nat_part (by omega)
  rcases List.mem_append.mp hd with z | hd
  · obtain ⟨p, hp, rfl⟩ := List.mem_map.mp z
    refine mk (by decide +kernel) (fun d hd => ?_) (by show 2 ≤ 5; decide)
    simp only [List.mem_cons, List.mem_nil_iff, or_false] at hd
    rcases hd with rfl | rfl
    · exact nat_part (h.fst _ (List.of_mem_zip hp).1)
    · exact nat_part (h.nx _ (List.of_mem_zip hp).2)
  rcases List.mem_append.mp hd with z | z
  · obtain ⟨o, hp, rfl⟩ := List.mem_map.mp z
    refine mk (by decide +kernel) (fun d hd => ?_) (by show 1 ≤ 5; decide)
    rw [List.mem_singleton.mp hd]
    exact nat_part (h.ou _ hp)
  · obtain ⟨p, hp, rfl⟩ := List.mem_map.mp z
    refine mk (by decide +kernel) (fun d hd => ?_) (by show 2 ≤ 5; decide)
    simp only [List.mem_cons, List.mem_nil_iff, or_false] at hd
    rcases hd with rfl | rfl
    · exact nat_part (h.an _ hp).1
    · exact nat_part (h.an _ hp).2
theorem nLines_len {n : Net} (h : NetSm n) : (nLines n).length = 1 + (n.firsts.length + (n.outs.length + n.ands.length)) := by
  unfold nLines nParts
  simp only [List.length_map, List.length_cons, List.length_append, List.length_zip, h.ok.nl, Nat.min_self]
  omega
section
variable {K : PySem.W.Frag}
theorem lc_zipD {a b : Addr} {xs ys : List V} {g : TG} {te : TE} {vs : List Nat} {σ : L2.St} {H0 : Hp} {D : Addr} {Qd : Hp → Prop} (F : List PyData) (hF : noLs F = true) (hlen : xs.length = F.length) (hl2 : xs.length = ys.length) (hn : xs.length ≤ 1000) (ha : SqT K H0 a xs) (hb : SqT K H0 b ys) (hD : H0 D = none)
    (hs : ∀ (i : Nat) (x y : V) (d : PyData) (U : Addr) (H : Hp) (Q : VK), xs[i]? = some x → ys[i]? = some y → F[i]? = some d → Same H0 H → H U = none → (∀ z H4, Same (upd H U (.tup [x, y])) H4 → Dp K H4 z d → Q z H4) → g (.ref U) (wipe σ vs) (upd H U (.tup [x, y])) fun σ2 H2 => wipe σ2 vs = wipe σ vs ∧ te σ2 H2 Q)
    (hd : ∀ H acc, Same H0 H → H D = some (.lst acc) → DpAll K H acc F → Qd H) :
    ∃ W : Nat → Nat → Hp → Prop, (∃ m, W 0 m (upd H0 D (.lst []))) ∧ ∀ i m H, W i m H →
      ((RZ.ItzT K a b).stop i H ∧ Qd H) ∨ ((RZ.ItzT K a b).go i H ∧ ∃ Nx : Hp → Prop, (∀ H', Nx H' → ∃ m', m' < m ∧ W (i + 1) m' H') ∧ ∀ x H', (RZ.ItzT K a b).yld i H x H' → g x (wipe σ vs) H' fun σ2 H2 => wipe σ2 vs = wipe σ vs ∧ tYes σ2 H2 fun b H3 =>
        if b = true then te σ2 H3 fun y H4 => ∃ acc, H4 D = some (.lst acc) ∧ acc.length < sizeLine ∧ Nx (upd H4 D (.lst (acc ++ [y]))) else Nx H3) := by
  refine ⟨fun i m H => m = xs.length - i ∧ i ≤ xs.length ∧ Same H0 H ∧ ∃ acc, H D = some (.lst acc) ∧ DpAll K H acc (F.take i), ⟨xs.length, rfl, Nat.zero_le _, same_new hD, [], upd_same, .nil⟩, ?_⟩
  rintro i m H ⟨rfl, hi, sm, acc, e, dp⟩
  have qx := same_tup sm _ _ ha
  have qy := same_tup sm _ _ hb
  by_cases hlt : i < xs.length
  · have hlt2 : i < ys.length := by omega
    refine .inr ⟨⟨xs, ys, _, _, qx, qy, List.getElem?_eq_getElem hlt, List.getElem?_eq_getElem hlt2⟩, fun H' => i + 1 ≤ xs.length ∧ Same H0 H' ∧ ∃ acc, H' D = some (.lst acc) ∧ DpAll K H' acc (F.take (i + 1)), fun H' p' => ⟨xs.length - (i + 1), by omega, rfl, p'⟩, fun v H' y => ?_⟩
    obtain ⟨U, x', y', rfl, hU, rfl, f1, f2⟩ := y
    have hx := f1 xs qx
    obtain ⟨d, hd'⟩ := at_len2 hlen hx
    have lt := dps_len dp
    rw [List.length_take] at lt
    refine hs i x' y' d U H _ hx (f2 ys qy) hd' sm hU fun z H4 s4 dz => ?_
    have s5 := (Same.up hU).trans s4
    refine ⟨acc, s5 _ _ e, lineS200 (by omega), hlt, same_put (sm.trans s5) hD, acc ++ [z], upd_same, ?_⟩
    rw [take_snoc hd']
    exact push_dps (s5 _ _ e) (dps_stay (same_tup s5) _ _ dp (noLs_take hF)) (noLs_take hF) dz (noLs_at hF hd')
  · obtain rfl : i = xs.length := by omega
    rw [hlen, List.take_length] at dp
    exact .inl ⟨⟨xs, ys, qx, qy, .inl (Nat.le_refl _)⟩, hd H acc sm e dp⟩
end
theorem noLs_parts {dss : List (List PyData)} (h : ∀ ds ∈ dss, LpOk ds) : noLs (dss.map .tuple) = true := noLs_tups _ fun ds hd => (h ds hd).noL
section
variable {P : Program} {w : World} {K : PySem.W.Frag} {mg : Str → Option Value} {base : Heap} {T : Addr}
structure BE (mg : Str → Option Value) : Prop where
  zip : mg "zip" = none
def spPrint (K : PySem.W.Frag) : Sp := fun vs H Q _ => ∃ (v : Addr) (n : Net), vs = [.ref v] ∧ Dp K H (.ref v) n.d ∧ NetSm n ∧ ∀ H', Same H H' → Q (.str (ntext n)) H'
theorem ok_print {f fT : Addr} {fd fdT : FuncData} (F : Fun K "print_net" "print_net" sPrintNet f fd) (B : BT mg) (B2 : BE mg) (ms : mg "str" = none)
    (GT : FnOk P w K mg base CX0 1 fT fdT ["lines"] (spTextOf K)) (kT : PySem.W.keepIn K (.ref fT) = true) (bT : Binds K fdT ["lines"] []) (gT : mg "text_of" = some (.ref fT)) :
    FnOk P w K mg base CX0 2 f fd ["net"] (spPrint K) := by
  refine F.ok scPrintNet (fun vs H Q E h => ?_) (fun cdv A outer s H vs Q E hr h => ?_)
  · obtain ⟨v, n, rfl, _⟩ := h
    rfl
  · obtain ⟨v, n, rfl, hd, sm0, q⟩ := h
    have nd := scPrintNet.nd
    refine ⟨_, (pss_cons (ps_asg (pv 0) (pg_tup (by rfl) (pgs_cons (pg_name (i := 1) nd rfl (.inl rfl)) (pgs_cons (pg_name (i := 2) nd rfl (.inl rfl)) (pgs_cons (pg_name (i := 3) nd rfl (.inl rfl)) (pgs_cons (pg_name (i := 4) nd rfl (.inl rfl)) pgs_nil))))))
      (pss_cons (ps_set (i := 5) nd rfl (.inl rfl) (pe_lst (pa_cons (pe_tup (pa_cons (pe_str) (pa_cons (pe_callB call_len_seq (by rfl) B.len PySem.boot_len (pa_cons (pv 1) pa_nil)) (pa_cons (pe_callB call_len_seq (by rfl) B.len PySem.boot_len (pa_cons (pv 4) pa_nil)) (pa_cons (pe_callB call_len_seq (by rfl) B.len PySem.boot_len (pa_cons (pv 2) pa_nil)) pa_nil))))) pa_nil)))
      (pss_cons (ps_expr (pe_bm PySem.F.plainAttrs_list PySem.F.slot_list_extend PySem.F.type_list_extend mt_extend (pv 5) (pa_cons (pe_lc (own := [("first", 6), ("literal", 7)]) (g := gTup K 2 (gCons (gName 6) (gCons (gName 7) (gNil)))) (tt := tYes) (te := tTup (tCons (tC (.str "latch")) (tCons (tVar 6) (tCons (tVar 7) tNil))))  rfl nd (RZ.pi_zipA (by rfl) B2.zip (pa_cons (pv 1) (pa_cons (pv 3) pa_nil))) (blkOk_by (own := [("first", 6), ("literal", 7)]) (N := NPR) (sc := defScope sPrintNet) (by decide +kernel)) (fun _ _ _ _ _ => pg_tup (by rfl) (pgs_cons (pg_name (i := 6) nd rfl (.inl rfl)) (pgs_cons (pg_name (i := 7) nd rfl (.inl rfl)) pgs_nil))) (fun _ _ _ _ _ => pts_nil) (fun _ _ _ _ _ => by exact (pe_tup (pa_cons (pe_str) (pa_cons (pv 6) (pa_cons (pv 7) pa_nil)))))) pa_nil)))
      (pss_cons (ps_expr (pe_bm PySem.F.plainAttrs_list PySem.F.slot_list_extend PySem.F.type_list_extend mt_extend (pv 5) (pa_cons (pe_lc (own := [("literal", 7)]) (g := gName 7) (tt := tYes) (te := tTup (tCons (tC (.str "told")) (tCons (tVar 7) tNil)))  rfl nd (pi_tup (pv 4)) (blkOk_by (own := [("literal", 7)]) (N := NPR) (sc := defScope sPrintNet) (by decide +kernel)) (fun _ _ _ _ _ => pg_name (i := 7) nd rfl (.inl rfl)) (fun _ _ _ _ _ => pts_nil) (fun _ _ _ _ _ => by exact (pe_tup (pa_cons (pe_str) (pa_cons (pv 7) pa_nil))))) pa_nil)))
      (pss_cons (ps_expr (pe_bm PySem.F.plainAttrs_list PySem.F.slot_list_extend PySem.F.type_list_extend mt_extend (pv 5) (pa_cons (pe_lc (own := [("one", 8), ("other", 9)]) (g := gTup K 2 (gCons (gName 8) (gCons (gName 9) (gNil)))) (tt := tYes) (te := tTup (tCons (tC (.str "and")) (tCons (tVar 8) (tCons (tVar 9) tNil))))  rfl nd (pi_tup (pv 2)) (blkOk_by (own := [("one", 8), ("other", 9)]) (N := NPR) (sc := defScope sPrintNet) (by decide +kernel)) (fun _ _ _ _ _ => pg_tup (by rfl) (pgs_cons (pg_name (i := 8) nd rfl (.inl rfl)) (pgs_cons (pg_name (i := 9) nd rfl (.inl rfl)) pgs_nil))) (fun _ _ _ _ _ => pts_nil) (fun _ _ _ _ _ => by exact (pe_tup (pa_cons (pe_str) (pa_cons (pv 8) (pa_cons (pv 9) pa_nil)))))) pa_nil)))
      (pss_one (ps_ret (pe_call GT hr (by rfl) gT kT bT .nil pass0 (pa_cons (pe_lc (own := [("line", 10)]) (g := gName 10) (tt := tYes) (te := L2.tM1 (rJoin K) (tC (.str " ")) (tLc (iTup K (tVar 10)) (gName 11) tYes (tCB rStrA (tCons (tVar 11) tNil)) [11]))  rfl nd (pi_list (pv 5)) (blkOk_by (own := [("line", 10)]) (N := NPR) (sc := defScope sPrintNet) (by decide +kernel)) (fun _ _ _ _ _ => pg_name (i := 10) nd rfl (.inl rfl)) (fun _ _ _ _ _ => pts_nil) (fun _ _ _ _ _ => by exact (pe_join (pe_str) (pe_lc (own := [("part", 11)]) (g := gName 11) (tt := tYes) (te := tCB rStrA (tCons (tVar 11) tNil)) rfl nd (pi_tup (pv 10)) (blkOk_by (own := [("part", 11)]) (N := NPR) (sc := scPl) (by decide +kernel)) (fun _ _ _ _ _ => pg_name (i := 11) nd rfl (.inl rfl)) (fun _ _ _ _ _ => pts_nil) (fun _ _ _ _ _ => by exact (pe_callTy call_str_any (by rfl) ms (by decide +kernel) (pa_cons (pv 11) pa_nil))))))) pa_nil))))))))), ?_⟩
    obtain ⟨fA, aA, xA, oA, avs, h0, h1, ⟨h2, d2⟩, h3, h4⟩ := (NP.of hd).ex
    have PK := nParts_ok sm0
    have hl := sm0.l
    have ha := sm0.a
    have ho := sm0.o
    have hnl := sm0.ok.nl
    refine ⟨_, rfl, v, _, rfl, h0, rfl, _, _, rfl, _, _, rfl, _, _, rfl, _, _, rfl, rfl, ?_⟩
    refine ⟨_, rfl, fA, _, rfl, .inr h1, _, rfl, oA, _, rfl, .inr h4, _, rfl, aA, _, rfl, .inr h2, line200 (show 4 ≤ 1000 by decide), fun p0 np0 => ?_⟩
    refine ⟨line200 (show 1 ≤ 1000 by decide), fun l nl => ?_⟩
    have lav := dps_len d2
    rw [List.length_map] at lav
    have el1 : (n.firsts.map iV).length = n.firsts.length := List.length_map _
    have el2 : (n.outs.map iV).length = n.outs.length := List.length_map _
    rw [el1, el2, lav] at nl ⊢
    have s0 : Same H (upd (upd H p0 (.tup [.str "net", iV n.firsts.length, iV n.outs.length, iV n.ands.length])) l (.lst [.ref p0])) := (Same.up np0).trans (Same.up nl)
    have e0 : (upd (upd H p0 (.tup [.str "net", iV n.firsts.length, iV n.outs.length, iV n.ands.length])) l (.lst [.ref p0])) l = some (.lst [.ref p0]) := upd_same
    have dp0 : DpAll K (upd (upd H p0 (.tup [.str "net", iV n.firsts.length, iV n.outs.length, iV n.ands.length])) l (.lst [.ref p0])) [.ref p0] ([[.str "net", iD n.firsts.length, iD n.outs.length, iD n.ands.length]].map PyData.tuple) :=
      .cons (.tup (SqT.of (Same.up nl _ _ upd_same)) (.cons (.str _) (.cons (.int _) (.cons (.int _) (.cons (.int _) .nil))))) .nil
    have np : H l = none := by
      cases e : H l with
      | none => rfl
      | some o =>
        rw [Same.up np0 _ _ e] at nl
        cases nl
    generalize upd (upd H p0 (.tup [.str "net", iV n.firsts.length, iV n.outs.length, iV n.ands.length])) l (.lst [.ref p0]) = H1 at s0 e0 dp0
    have tupNo : ∀ {dss : List (List PyData)}, (∀ ds ∈ dss, noLs ds = true) → noLs (dss.map PyData.tuple) = true := fun {dss} h => noLs_tups dss h
    have ext : ∀ {H1 H2 : Hp} {vs us : List V} {dss ess : List (List PyData)}, Same H H1 → Same H1 H2 → H1 l = some (.lst vs) → DpAll K H1 vs (dss.map PyData.tuple) → (∀ ds ∈ dss, noLs ds = true) → DpAll K H2 us (ess.map PyData.tuple) → (∀ ds ∈ ess, noLs ds = true) →
        Same H (upd H2 l (.lst (vs ++ us))) ∧ DpAll K (upd H2 l (.lst (vs ++ us))) (vs ++ us) ((dss ++ ess).map PyData.tuple) ∧ (∀ ds ∈ dss ++ ess, noLs ds = true) ∧ (upd H2 l (.lst (vs ++ us))) l = some (.lst (vs ++ us)) := fun {H1 H2 vs us dss ess} g1 g2 e1 d1 n1 d2 n2 => by
      refine ⟨same_put (g1.trans g2) np, ?_, fun ds hd => (List.mem_append.mp hd).elim (n1 ds) (n2 ds), upd_same⟩
      rw [List.map_append]
      exact dps_app (dps_stay (tups_upd (g2 _ _ e1)) _ _ (dps_stay (same_tup g2) _ _ d1 (tupNo n1)) (tupNo n1)) (dps_stay (tups_upd (g2 _ _ e1)) _ _ d2 (tupNo n2))
    have nHead : ∀ ds ∈ [[PyData.str "net", iD n.firsts.length, iD n.outs.length, iD n.ands.length]], noLs ds = true := fun ds hd => by
      rw [List.mem_singleton.mp hd]
      rfl
    -- the latches
    let F1 : List (List PyData) := (n.firsts.zip n.nexts).map (fun p => [.str "latch", iD p.1, iD p.2])
    have nF1 : ∀ ds ∈ F1, noLs ds = true := fun ds hd => by
      obtain ⟨p, _, rfl⟩ := List.mem_map.mp hd
      rfl
    have lF1 : F1.length = n.firsts.length := by
      show ((n.firsts.zip n.nexts).map _).length = _
      rw [List.length_map, List.length_zip, hnl, Nat.min_self]
    refine ⟨_, rfl, .inl ⟨rfl, _, SqL.of e0⟩, _, rfl, _, rfl, fA, xA, _, _, rfl, .inr ⟨same_tup s0 _ _ h1, same_tup s0 _ _ h3, fun D1 nD1 => ?_⟩⟩
    refine lc_zipD (xs := n.firsts.map iV) (ys := n.nexts.map iV) (F1.map PyData.tuple) (tupNo nF1) (by rw [List.length_map, List.length_map, lF1]) (by rw [List.length_map, List.length_map, hnl]) (by rw [List.length_map]; omega) (same_tup s0 _ _ h1) (same_tup s0 _ _ h3) nD1 (fun i x y d U H4 Q4 hx hy hdi sm nU q4 => ?_) (fun H4 acc1 g1 e1 dp1 => ?_)
    · rw [List.getElem?_map] at hdi hx hy
      obtain ⟨f0, ef, rfl⟩ := Option.map_eq_some_iff.mp hx
      obtain ⟨x0, ex, rfl⟩ := Option.map_eq_some_iff.mp hy
      obtain ⟨ds, eds, rfl⟩ := Option.map_eq_some_iff.mp hdi
      have eds2 : ((n.firsts.zip n.nexts).map (fun p => [PyData.str "latch", iD p.1, iD p.2]))[i]? = some ds := eds
      rw [List.getElem?_map, show (n.firsts.zip n.nexts)[i]? = some (f0, x0) from List.getElem?_zip_eq_some.mpr ⟨ef, ex⟩] at eds2
      cases eds2
      exact ⟨U, _, rfl, SqT.of upd_same, rfl, _, _, rfl, _, _, rfl, rfl, rfl, _, rfl, _, rfl, line200 (show 3 ≤ 1000 by decide), fun p np => q4 _ _ (Same.up np) (.tup (SqT.of upd_same) (.cons (.str _) (.cons (.int _) (.cons (.int _) .nil))))⟩
    refine ⟨l, D1, [.ref p0], acc1, rfl, rfl, g1 _ _ e0, e1, line200 (by have := dps_len dp1; rw [List.length_map, lF1] at this; show 1 + acc1.length ≤ 1000; omega), ?_⟩
    obtain ⟨g3, dp3, n3, e3⟩ := ext s0 g1 e0 dp0 nHead dp1 nF1
    have l3 : ([V.ref p0] ++ acc1).length ≤ 91 := by
      have := dps_len dp1
      rw [List.length_map, lF1] at this
      rw [List.length_append, List.length_singleton]
      omega
    generalize [V.ref p0] ++ acc1 = acc3 at g3 dp3 e3 l3
    generalize upd H4 l (.lst acc3) = H3 at g3 dp3 e3
    -- what is told
    let F2 : List (List PyData) := n.outs.map (fun o => [.str "told", iD o])
    have nF2 : ∀ ds ∈ F2, noLs ds = true := fun ds hd => by
      obtain ⟨p, _, rfl⟩ := List.mem_map.mp hd
      rfl
    have lF2 : F2.length = n.outs.length := List.length_map _
    refine ⟨_, rfl, .inl ⟨rfl, _, SqL.of e3⟩, _, rfl, oA, rfl, ⟨_, same_tup g3 _ _ h4⟩, fun D4 nD4 => ?_⟩
    refine lc_tupD (xs := n.outs.map iV) (F2.map PyData.tuple) (tupNo nF2) (by rw [List.length_map, List.length_map, lF2]) (by rw [List.length_map]; omega) (same_tup g3 _ _ h4) nD4 (fun i x d H5 Q4 hx hdi sm q4 => ?_) (fun H5 acc4 g4 e4 dp4 => ?_)
    · rw [List.getElem?_map] at hdi hx
      obtain ⟨f0, ef, rfl⟩ := Option.map_eq_some_iff.mp hx
      obtain ⟨ds, eds, rfl⟩ := Option.map_eq_some_iff.mp hdi
      have eds2 : (n.outs.map (fun o => [PyData.str "told", iD o]))[i]? = some ds := eds
      rw [List.getElem?_map, ef] at eds2
      cases eds2
      exact ⟨rfl, _, rfl, line200 (show 2 ≤ 1000 by decide), fun p np => q4 _ _ (Same.up np) (.tup (SqT.of upd_same) (.cons (.str _) (.cons (.int _) .nil)))⟩
    have l4 := dps_len dp4
    rw [List.length_map, lF2] at l4
    refine ⟨l, D4, acc3, acc4, rfl, rfl, g4 _ _ e3, e4, line200 (by omega), ?_⟩
    obtain ⟨g5, dp5, n5, e5⟩ := ext g3 g4 e3 dp3 n3 dp4 nF2
    have l5 : (acc3 ++ acc4).length ≤ 111 := by
      rw [List.length_append]
      omega
    generalize acc3 ++ acc4 = acc5 at g5 dp5 e5 l5
    generalize upd H5 l (.lst acc5) = H6 at g5 dp5 e5
    -- the ands
    let F3 : List (List PyData) := n.ands.map (fun p => [.str "and", iD p.1, iD p.2])
    have nF3 : ∀ ds ∈ F3, noLs ds = true := fun ds hd => by
      obtain ⟨p, _, rfl⟩ := List.mem_map.mp hd
      rfl
    have lF3 : F3.length = n.ands.length := List.length_map _
    have d5 := dps_stay (same_tup g5) _ _ d2 (noLs_pr _)
    refine ⟨_, rfl, .inl ⟨rfl, _, SqL.of e5⟩, _, rfl, aA, rfl, ⟨_, same_tup g5 _ _ h2⟩, fun D6 nD6 => ?_⟩
    refine lc_tupD (xs := avs) (F3.map PyData.tuple) (tupNo nF3) (by rw [List.length_map, lF3, lav]) (by omega) (same_tup g5 _ _ h2) nD6 (fun i x d H7 Q4 hx hdi sm q4 => ?_) (fun H7 acc6 g6 e6 dp6 => ?_)
    · rw [List.getElem?_map] at hdi
      obtain ⟨ds, eds, rfl⟩ := Option.map_eq_some_iff.mp hdi
      have eds2 : (n.ands.map (fun p => [PyData.str "and", iD p.1, iD p.2]))[i]? = some ds := eds
      rw [List.getElem?_map] at eds2
      obtain ⟨p, ep, rfl⟩ := Option.map_eq_some_iff.mp eds2
      obtain ⟨b, eb, sqb⟩ := pr_at d5 ep
      rw [hx] at eb
      cases eb
      exact ⟨b, _, rfl, same_tup sm _ _ sqb, rfl, _, _, rfl, _, _, rfl, rfl, rfl, _, rfl, _, rfl, line200 (show 3 ≤ 1000 by decide), fun p np => q4 _ _ (Same.up np) (.tup (SqT.of upd_same) (.cons (.str _) (.cons (.int _) (.cons (.int _) .nil))))⟩
    have l6 := dps_len dp6
    rw [List.length_map, lF3] at l6
    refine ⟨l, D6, acc5, acc6, rfl, rfl, g6 _ _ e5, e6, line200 (by omega), ?_⟩
    obtain ⟨g7, dp7, n7, e7⟩ := ext g5 g6 e5 dp5 n5 dp6 nF3
    have eP : (([[PyData.str "net", iD n.firsts.length, iD n.outs.length, iD n.ands.length]] ++ F1) ++ F2) ++ F3 = nParts n := by
      unfold nParts
      show ((_ :: F1) ++ F2) ++ F3 = _
      simp only [List.cons_append, List.append_assoc]
      rfl
    rw [eP] at dp7
    have l7 := dps_len dp7
    rw [List.length_map] at l7
    generalize acc5 ++ acc6 = acc7 at g7 dp7 e7 l7
    generalize upd H7 l (.lst acc7) = H8 at g7 dp7 e7
    have lnl := nLines_len sm0
    have lnp : (nParts n).length = (nLines n).length := (List.length_map _).symm
    -- the text
    refine ⟨_, rfl, l, rfl, ⟨_, SqL.of e7⟩, fun De nDe => ?_⟩
    refine lc_listD ((nLines n).map .str) (noLs_strs _) (by rw [List.length_map, ← lnp]; exact l7) (by omega) (SqL.of e7) nDe (fun i x d H2 Q2 hxi hdi sm q2 => ?_) (fun He acce ge ee dpe => ?_)
    · unfold nLines at hdi
      rw [List.getElem?_map, List.getElem?_map] at hdi
      obtain ⟨sx, es, rfl⟩ := Option.map_eq_some_iff.mp hdi
      obtain ⟨ds, ed, rfl⟩ := Option.map_eq_some_iff.mp es
      have mem := PK ds (List.mem_of_getElem? ed)
      have dx : Dp K H8 x (.tuple ds) := dps_at dp7 hxi (by rw [List.getElem?_map, ed]; rfl)
      exact ⟨rfl, line_te (L := 10) (j := 11) rfl (dp_stay (same_tup sm) _ _ dx (mem.noL)) mem (fun v => ⟨rfl, rfl⟩) fun H3 s3 => q2 _ _ s3 (.str _)⟩
    · have ea := strs_dps dpe
      subst ea
      refine ⟨De, nLines n, rfl, SqL.of ee, by omega, fun x hx => ?_, fun H' sm => q H' (g7.trans (ge.trans sm))⟩
      obtain ⟨ds, hds, rfl⟩ := List.mem_map.mp hx
      have := ((PK ds hds).line).sz
      show (lineT ds).cps.size ≤ 10000
      omega
end
end C1

/-! A net's text, as the law lays it. -/
namespace C1
open PySem PySem.Spec PyProof.Rows L2 SX
abbrev rStrInt : List V → Hp → VK → Prop := fun xs H Q => ∃ i, xs = [.int i] ∧ i.natAbs.log2 < 1920 ∧ Q (.str (toString i)) H
abbrev sLawText : Stmt := topS 30
theorem scLawText : FnScope ["net", "firsts", "ands", "nexts", "outs", "lines", "k", "part", "one", "other"] ["net"] (defScope sLawText) := ⟨rfl, rfl, rfl, by decide +kernel, rfl, by decide +kernel, by decide +kernel⟩
abbrev NLT : List Str := ["net", "firsts", "ands", "nexts", "outs", "lines", "k", "part", "one", "other"]
theorem line_two {w' wd : Str} (hw : w' = wd ++ spB) (a b : PyData) (ha : ∃ i, a = .int i) : w' ++ pS a ++ spB ++ pS b = lineT [.str wd, a, b] := by
  obtain ⟨i, rfl⟩ := ha
  rw [line_cons wd (by simp), hw]
  have e : lineT [PyData.int i, b] = pS (.int i) ++ spB ++ pS b := by
    apply TL.ext_tl
    show (Txt.join spB [pS (.int i), pS b]).cps.toList = (pS (.int i) ++ spB ++ pS b).cps.toList
    rw [app_cs, app_cs, cs_join, List.append_assoc]
    rfl
  rw [e]
  simp only [str_app]
theorem line_three {w' wd : Str} (hw : w' = wd ++ spB) (a b c : PyData) (ha : ∃ i, a = .int i) (hb : ∃ i, b = .int i) : w' ++ pS a ++ spB ++ pS b ++ spB ++ pS c = lineT [.str wd, a, b, c] := by
  obtain ⟨i, rfl⟩ := ha
  obtain ⟨j, rfl⟩ := hb
  rw [line_cons wd (by simp), hw]
  have e : lineT [PyData.int i, .int j, c] = pS (.int i) ++ spB ++ pS (.int j) ++ spB ++ pS c := by
    apply TL.ext_tl
    show (Txt.join spB [pS (.int i), pS (.int j), pS c]).cps.toList = (pS (.int i) ++ spB ++ pS (.int j) ++ spB ++ pS c).cps.toList
    rw [app_cs, app_cs, app_cs, app_cs, cs_join]
    simp only [List.append_assoc]
    rfl
  rw [e]
  simp only [str_app]
theorem joinL_end (S : List Nat) : ∀ ps : List (List Nat), ps ≠ [] → TL.joinL S (ps ++ [[]]) = TL.joinL S ps ++ S
  | [], h => absurd rfl h
  | [p], _ => by
    show p ++ (S ++ []) = p ++ S
    rw [List.append_nil]
  | p :: q :: r, _ => by
    show p ++ (S ++ TL.joinL S ((q :: r) ++ [[]])) = (p ++ (S ++ TL.joinL S (q :: r))) ++ S
    rw [joinL_end S (q :: r) (by simp), List.append_assoc, List.append_assoc]
theorem text_join {xs : List Str} (h : xs ≠ []) : Txt.join nlS xs ++ nlS = textL xs := by
  rw [text_eq]
  apply TL.ext_tl
  show (Txt.join nlS xs ++ nlS).cps.toList = (Txt.join nlS (xs ++ [Str.ofString ""])).cps.toList
  rw [app_cs, cs_join, cs_join, List.map_append]
  exact (joinL_end _ _ (by simpa using h)).symm
abbrev pN (k : Nat) : Str := pS (iD k)
theorem pN_len {k : Nat} (h : k < 1000000000) : (pN k).length ≤ 9 := part_len (nat_part h)
theorem pN_log {k : Nat} (h : k < 1000000000) : ((k : Nat) : Int).natAbs.log2 < 1920 := Pl.log (i := ((k : Nat) : Int)) (nat_part h)
section
variable {P : Program} {w : World} {K : PySem.W.Frag} {mg : Str → Option Value} {base : Heap} {T : Addr}
theorem ok_lText {f : Addr} {fd : FuncData} (F : Fun K "_law_text" "_law_text" sLawText f fd) (B : Bl mg) : FnOk P w K mg base CX0 1 f fd ["net"] (spPrint K) := by
  refine F.ok scLawText (fun vs H Q E h => ?_) (fun cdv A outer s H vs Q E hr h => ?_)
  · obtain ⟨v, n, rfl, _⟩ := h
    rfl
  · obtain ⟨v, n, rfl, hd, sm0, q⟩ := h
    have nd := scLawText.nd
    refine ⟨_, (pss_cons (ps_asg (pv 0) (pg_tup (by rfl) (pgs_cons (pg_name (i := 1) nd rfl (.inr rfl)) (pgs_cons (pg_name (i := 2) nd rfl (.inl rfl)) (pgs_cons (pg_name (i := 3) nd rfl (.inr rfl)) (pgs_cons (pg_name (i := 4) nd rfl (.inl rfl)) pgs_nil))))))
      (pss_cons (ps_set (i := 5) nd rfl (.inl rfl) (pe_lst (pa_cons (pe_op op_add_str (pe_op op_add_str (pe_op op_add_str (pe_op op_add_str (pe_op op_add_str (pe_str) (pe_callTy call_str_int (by rfl) B.str (by decide +kernel) (pa_cons (pe_callB call_len_seq (by rfl) B.len PySem.boot_len (pa_cons (pv 1) pa_nil)) pa_nil))) (pe_str)) (pe_callTy call_str_int (by rfl) B.str (by decide +kernel) (pa_cons (pe_callB call_len_seq (by rfl) B.len PySem.boot_len (pa_cons (pv 4) pa_nil)) pa_nil))) (pe_str)) (pe_callTy call_str_int (by rfl) B.str (by decide +kernel) (pa_cons (pe_callB call_len_seq (by rfl) B.len PySem.boot_len (pa_cons (pv 2) pa_nil)) pa_nil))) pa_nil)))
      (pss_cons (ps_set (i := 5) nd rfl (.inl rfl) (pe_op op_cat (pv 5) (pe_lc (own := [("k", 6)]) (g := gName 6) (tt := tYes) (te := tOp rAddStr (tOp rAddStr (tOp rAddStr (tC (.str "latch ")) (tCB rStrInt (tCons (tOp (rIxT K) (tVar 1) (tVar 6)) tNil))) (tC (.str " "))) (tCB rStrInt (tCons (tOp (rIxT K) (tVar 3) (tVar 6)) tNil)))  rfl nd (pi_range1 (by rfl) B.range (pa_cons (pe_callB call_len_seq (by rfl) B.len PySem.boot_len (pa_cons (pv 1) pa_nil)) pa_nil)) (blkOk_by (own := [("k", 6)]) (N := NLT) (sc := defScope sLawText) (by decide +kernel)) (fun _ _ _ _ _ => pg_name (i := 6) nd rfl (.inl rfl)) (fun _ _ _ _ _ => pts_nil) (fun _ _ _ _ _ => by exact (pe_op op_add_str (pe_op op_add_str (pe_op op_add_str (pe_str) (pe_callTy call_str_int (by rfl) B.str (by decide +kernel) (pa_cons (pe_ix ix_tup (pv 1) (pv 6) (fun _ _ => rfl)) pa_nil))) (pe_str)) (pe_callTy call_str_int (by rfl) B.str (by decide +kernel) (pa_cons (pe_ix ix_tup (pv 3) (pv 6) (fun _ _ => rfl)) pa_nil)))))))
      (pss_cons (ps_set (i := 5) nd rfl (.inl rfl) (pe_op op_cat (pv 5) (pe_lc (own := [("part", 7)]) (g := gName 7) (tt := tYes) (te := tOp rAddStr (tC (.str "told ")) (tCB rStrInt (tCons (tVar 7) tNil)))  rfl nd (pi_tup (pv 4)) (blkOk_by (own := [("part", 7)]) (N := NLT) (sc := defScope sLawText) (by decide +kernel)) (fun _ _ _ _ _ => pg_name (i := 7) nd rfl (.inl rfl)) (fun _ _ _ _ _ => pts_nil) (fun _ _ _ _ _ => by exact (pe_op op_add_str (pe_str) (pe_callTy call_str_int (by rfl) B.str (by decide +kernel) (pa_cons (pv 7) pa_nil)))))))
      (pss_cons (ps_set (i := 5) nd rfl (.inl rfl) (pe_op op_cat (pv 5) (pe_lc (own := [("one", 8), ("other", 9)]) (g := gTup K 2 (gCons (gName 8) (gCons (gName 9) (gNil)))) (tt := tYes) (te := tOp rAddStr (tOp rAddStr (tOp rAddStr (tC (.str "and ")) (tCB rStrInt (tCons (tVar 8) tNil))) (tC (.str " "))) (tCB rStrInt (tCons (tVar 9) tNil)))  rfl nd (pi_tup (pv 2)) (blkOk_by (own := [("one", 8), ("other", 9)]) (N := NLT) (sc := defScope sLawText) (by decide +kernel)) (fun _ _ _ _ _ => pg_tup (by rfl) (pgs_cons (pg_name (i := 8) nd rfl (.inl rfl)) (pgs_cons (pg_name (i := 9) nd rfl (.inl rfl)) pgs_nil))) (fun _ _ _ _ _ => pts_nil) (fun _ _ _ _ _ => by exact (pe_op op_add_str (pe_op op_add_str (pe_op op_add_str (pe_str) (pe_callTy call_str_int (by rfl) B.str (by decide +kernel) (pa_cons (pv 8) pa_nil))) (pe_str)) (pe_callTy call_str_int (by rfl) B.str (by decide +kernel) (pa_cons (pv 9) pa_nil)))))))
      (pss_one (ps_ret (pe_op op_add_str (pe_join (pe_str) (pv 5)) (pe_str))))))))), ?_⟩
    obtain ⟨fA, aA, xA, oA, avs, h0, h1, ⟨h2, d2⟩, h3, h4⟩ := (NP.of hd).ex
    have hl := sm0.l
    have ha := sm0.a
    have ho := sm0.o
    have hnl := sm0.ok.nl
    have e1 : spB.length = 1 := rfl
    have lav := dps_len d2
    rw [List.length_map] at lav
    have el1 : (n.firsts.map iV).length = n.firsts.length := List.length_map _
    have el2 : (n.outs.map iV).length = n.outs.length := List.length_map _
    refine ⟨_, rfl, v, _, rfl, h0, rfl, _, _, rfl, _, _, rfl, _, _, rfl, _, _, rfl, rfl, ?_⟩
    have j1 := pN_len (k := n.firsts.length) (by omega)
    have j2 := pN_len (k := n.outs.length) (by omega)
    have j3 := pN_len (k := n.ands.length) (by omega)
    have lw : (Str.ofString "net ").length = 4 := by decide +kernel
    refine ⟨_, rfl, fA, _, rfl, .inr h1, _, rfl, by rw [el1]; exact pN_log (by omega), ?_⟩
    rw [el1]
    refine ⟨"net ", pN n.firsts.length, rfl, rfl, by rw [sizeLine_eq]; show (Str.ofString "net ").length + _ ≤ _; omega, _, spB, rfl, rfl, ?_, ?_⟩
    · rw [sizeLine_eq, app_len, e1]
      show (Str.ofString "net ").length + _ + 1 ≤ _
      omega
    refine ⟨_, rfl, oA, _, rfl, .inr h4, _, rfl, by rw [el2]; exact pN_log (by omega), ?_⟩
    rw [el2]
    refine ⟨_, pN n.outs.length, rfl, rfl, ?_, _, spB, rfl, rfl, ?_, ?_⟩
    · rw [sizeLine_eq, app_len, app_len, e1]
      show (Str.ofString "net ").length + _ + 1 + _ ≤ _
      omega
    · rw [sizeLine_eq, app_len, app_len, app_len, e1]
      show (Str.ofString "net ").length + _ + 1 + _ + _ ≤ _
      omega
    refine ⟨_, rfl, aA, _, rfl, .inr h2, _, rfl, by rw [lav]; exact pN_log (by omega), ?_⟩
    rw [lav]
    refine ⟨_, pN n.ands.length, rfl, rfl, ?_, ?_⟩
    · rw [sizeLine_eq, app_len, app_len, app_len, app_len, e1]
      show (Str.ofString "net ").length + _ + 1 + _ + _ + _ ≤ _
      omega
    have eh : Str.ofString "net " ++ pN n.firsts.length ++ spB ++ pN n.outs.length ++ spB ++ pN n.ands.length = lineT [.str "net", iD n.firsts.length, iD n.outs.length, iD n.ands.length] := line_three (wd := "net") (by decide +kernel) _ _ _ ⟨_, rfl⟩ ⟨_, rfl⟩
    rw [eh]
    refine ⟨line200 (show 1 ≤ 1000 by decide), fun l nl => ?_⟩
    have g0 : Same H (upd H l (.lst [.str (lineT [.str "net", iD n.firsts.length, iD n.outs.length, iD n.ands.length])])) := Same.up nl
    have f0 : (upd H l (.lst [.str (lineT [.str "net", iD n.firsts.length, iD n.outs.length, iD n.ands.length])])) l = some (.lst ([lineT [.str "net", iD n.firsts.length, iD n.outs.length, iD n.ands.length]].map V.str)) := upd_same
    generalize upd H l (.lst [.str (lineT [.str "net", iD n.firsts.length, iD n.outs.length, iD n.ands.length])]) = H1 at g0 f0
    have b2 : ∀ {w' wd : Str} {a b : Nat}, w' = wd ++ spB → w'.length ≤ 20 → a < 1000000000 → b < 1000000000 → w'.length + (pN a).length ≤ sizeLine ∧ (w' ++ pN a).length + spB.length ≤ sizeLine ∧ (w' ++ pN a ++ spB).length + (pN b).length ≤ sizeLine ∧ w' ++ pN a ++ spB ++ pN b = lineT [.str wd, iD a, iD b] := fun {w' wd a b} hw hl ha hb => by
      have := pN_len ha
      have := pN_len hb
      refine ⟨?_, ?_, ?_, line_two hw _ _ ⟨_, rfl⟩⟩
      · rw [sizeLine_eq]
        omega
      · rw [sizeLine_eq, app_len, e1]
        omega
      · rw [sizeLine_eq, app_len, app_len, e1]
        omega
    -- the latches
    let F1 : List Str := (n.firsts.zip n.nexts).map (fun p => lineT [.str "latch", iD p.1, iD p.2])
    have lF1 : F1.length = n.firsts.length := by
      show ((n.firsts.zip n.nexts).map _).length = _
      rw [List.length_map, List.length_zip, hnl, Nat.min_self]
    refine ⟨_, rfl, _, rfl, fA, _, rfl, .inr (same_tup g0 _ _ h1), _, rfl, by omega, by rw [el1]; omega, fun D1 nD1 => ?_⟩
    rw [el1]
    refine lc_rangeD (K := K) (n := n.firsts.length) (F1.map .str) (noLs_strs _) (by rw [List.length_map, lF1]) (by omega) nD1 (fun i d H4 Q4 hi hdi sm q4 => ?_) (fun H4 acc1 g1 f1 dp1 => ?_)
    · rw [List.getElem?_map] at hdi
      obtain ⟨ds, eds, rfl⟩ := Option.map_eq_some_iff.mp hdi
      obtain ⟨f0, ef⟩ : ∃ f0, n.firsts[i]? = some f0 := ⟨_, List.getElem?_eq_getElem hi⟩
      obtain ⟨x0, ex⟩ : ∃ x0, n.nexts[i]? = some x0 := ⟨_, List.getElem?_eq_getElem (by omega)⟩
      have eds2 : ((n.firsts.zip n.nexts).map (fun p => lineT [PyData.str "latch", iD p.1, iD p.2]))[i]? = some ds := eds
      rw [List.getElem?_map, show (n.firsts.zip n.nexts)[i]? = some (f0, x0) from List.getElem?_zip_eq_some.mpr ⟨ef, ex⟩] at eds2
      cases eds2
      have bf := sm0.fst _ (List.mem_of_getElem? ef)
      have bx := sm0.nx _ (List.mem_of_getElem? ex)
      obtain ⟨b1, b3, b4, b5⟩ := b2 (w' := "latch ") (wd := "latch") (by decide +kernel) (by decide +kernel) bf bx
      rw [Int.zero_add]
      exact ⟨rfl, _, rfl, _, rfl, fA, _, _, _, rfl, rfl, same_tup (g0.trans sm) _ _ h1, atI_nat (by rw [List.getElem?_map, ef]; rfl), _, rfl, pN_log bf, _, pN f0, rfl, rfl, b1, _, spB, rfl, rfl, b3, _, rfl, _, rfl, xA, _, _, _, rfl, rfl, same_tup (g0.trans sm) _ _ h3, atI_nat (by rw [List.getElem?_map, ex]; rfl), _, rfl, pN_log bx, _, pN x0, rfl, rfl, b4, q4 _ _ (Same.refl _) (by rw [b5]; exact .str _)⟩
    have ea := strs_dps dp1
    subst ea
    have cat : ∀ {Ha Hb : Hp} {la lb : Addr} {xs ys : List Str}, Ha la = some (.lst (xs.map V.str)) → Same Ha Hb → Hb lb = some (.lst (ys.map V.str)) → xs.length + ys.length ≤ 500 → ∀ p, Hb p = none → Same Ha (upd Hb p (.lst (xs.map V.str ++ ys.map V.str))) ∧ (upd Hb p (.lst (xs.map V.str ++ ys.map V.str))) p = some (.lst ((xs ++ ys).map V.str)) := fun {Ha Hb la lb xs ys} ea sm eb hl p np => ⟨sm.trans (Same.up np), by rw [upd_same, List.map_append]⟩
    refine ⟨l, D1, _, _, rfl, rfl, g1 _ _ f0, f1, line200 (by rw [List.length_map, List.length_map, lF1]; show 1 + _ ≤ 1000; omega), fun p2 np2 => ?_⟩
    obtain ⟨g2, f2⟩ := cat f0 g1 f1 (by rw [lF1]; show 1 + _ ≤ 500; omega) p2 np2
    replace g2 := g0.trans g2
    have l2 : ([lineT [PyData.str "net", iD n.firsts.length, iD n.outs.length, iD n.ands.length]] ++ F1).length ≤ 91 := by
      rw [List.length_append, lF1]
      show 1 + _ ≤ 91
      omega
    generalize upd H4 p2 _ = H2 at g2 f2
    -- what is told
    let F2 : List Str := n.outs.map (fun o => lineT [.str "told", iD o])
    have lF2 : F2.length = n.outs.length := List.length_map _
    refine ⟨_, rfl, _, rfl, oA, rfl, ⟨_, same_tup g2 _ _ h4⟩, fun D4 nD4 => ?_⟩
    refine lc_tupD (xs := n.outs.map iV) (F2.map .str) (noLs_strs _) (by rw [List.length_map, List.length_map, lF2]) (by rw [List.length_map]; omega) (same_tup g2 _ _ h4) nD4 (fun i x d H5 Q4 hx hdi sm q4 => ?_) (fun H5 acc4 g4 f4 dp4 => ?_)
    · rw [List.getElem?_map] at hdi hx
      obtain ⟨o0, ef, rfl⟩ := Option.map_eq_some_iff.mp hx
      obtain ⟨ds, eds, rfl⟩ := Option.map_eq_some_iff.mp hdi
      have eds2 : (n.outs.map (fun o => lineT [PyData.str "told", iD o]))[i]? = some ds := eds
      rw [List.getElem?_map, ef] at eds2
      cases eds2
      have bo := sm0.ou _ (List.mem_of_getElem? ef)
      have lo := pN_len bo
      have et : Str.ofString "told " ++ pN o0 = lineT [.str "told", iD o0] := by
        rw [line_cons "told" (by simp), line_one]
        rfl
      exact ⟨rfl, _, rfl, _, rfl, pN_log bo, _, pN o0, rfl, rfl, by rw [sizeLine_eq]; show (Str.ofString "told ").length + _ ≤ _; have : (Str.ofString "told ").length = 5 := (by decide +kernel); omega, q4 _ _ (Same.refl _) (by rw [et]; exact .str _)⟩
    have ea := strs_dps dp4
    subst ea
    refine ⟨p2, D4, _, _, rfl, rfl, g4 _ _ f2, f4, line200 (by rw [List.length_map, List.length_map, lF2]; omega), fun p5 np5 => ?_⟩
    obtain ⟨g5, f5⟩ := cat f2 g4 f4 (by rw [lF2]; omega) p5 np5
    replace g5 := g2.trans g5
    have l5 : (([lineT [PyData.str "net", iD n.firsts.length, iD n.outs.length, iD n.ands.length]] ++ F1) ++ F2).length ≤ 111 := by
      rw [List.length_append, lF2]
      omega
    generalize upd H5 p5 _ = H6 at g5 f5
    -- the ands
    let F3 : List Str := n.ands.map (fun p => lineT [.str "and", iD p.1, iD p.2])
    have lF3 : F3.length = n.ands.length := List.length_map _
    have d5 := dps_stay (same_tup g5) _ _ d2 (noLs_pr _)
    refine ⟨_, rfl, _, rfl, aA, rfl, ⟨_, same_tup g5 _ _ h2⟩, fun D6 nD6 => ?_⟩
    refine lc_tupD (xs := avs) (F3.map .str) (noLs_strs _) (by rw [List.length_map, lF3, lav]) (by omega) (same_tup g5 _ _ h2) nD6 (fun i x d H7 Q4 hx hdi sm q4 => ?_) (fun H7 acc6 g6 f6 dp6 => ?_)
    · rw [List.getElem?_map] at hdi
      obtain ⟨ds, eds, rfl⟩ := Option.map_eq_some_iff.mp hdi
      have eds2 : (n.ands.map (fun p => lineT [PyData.str "and", iD p.1, iD p.2]))[i]? = some ds := eds
      rw [List.getElem?_map] at eds2
      obtain ⟨p, ep, rfl⟩ := Option.map_eq_some_iff.mp eds2
      obtain ⟨b, eb, sqb⟩ := pr_at d5 ep
      rw [hx] at eb
      cases eb
      obtain ⟨bf, bx⟩ := sm0.an _ (List.mem_of_getElem? ep)
      obtain ⟨b1, b3, b4, b5⟩ := b2 (w' := "and ") (wd := "and") (by decide +kernel) (by decide +kernel) bf bx
      exact ⟨b, _, rfl, same_tup sm _ _ sqb, rfl, _, _, rfl, _, _, rfl, rfl, rfl, _, rfl, _, rfl, pN_log bf, _, pN p.1, rfl, rfl, b1, _, spB, rfl, rfl, b3, _, rfl, _, rfl, pN_log bx, _, pN p.2, rfl, rfl, b4, q4 _ _ (Same.refl _) (by rw [b5]; exact .str _)⟩
    have ea := strs_dps dp6
    subst ea
    refine ⟨p5, D6, _, _, rfl, rfl, g6 _ _ f5, f6, line200 (by rw [List.length_map, List.length_map, lF3]; omega), fun p7 np7 => ?_⟩
    obtain ⟨g7, f7⟩ := cat f5 g6 f6 (by rw [lF3]; omega) p7 np7
    replace g7 := g5.trans g7
    have eP : (([lineT [PyData.str "net", iD n.firsts.length, iD n.outs.length, iD n.ands.length]] ++ F1) ++ F2) ++ F3 = nLines n := by
      unfold nLines nParts
      show ((_ ++ (n.firsts.zip n.nexts).map _) ++ n.outs.map _) ++ n.ands.map _ = _
      simp only [List.map_cons, List.map_append, List.map_map, List.append_assoc, List.singleton_append]
      rfl
    rw [eP] at f7
    generalize upd H7 p7 _ = H8 at g7 f7
    have lnl := nLines_len sm0
    have PK := nParts_ok sm0
    have lns : ∀ x ∈ nLines n, x.length ≤ 60 := fun x hx => by
      obtain ⟨ds, hds, rfl⟩ := List.mem_map.mp hx
      exact ((PK ds hds).line).sz
    have lsum := len_sum lns
    have lnlS : nlS.length = 1 := by decide +kernel
    have hm : (nLines n).length * 60 ≤ 131 * 60 := Nat.mul_le_mul_right _ (by omega)
    refine ⟨⟨_, rfl⟩, _, rfl, nlS, p7, nLines n, rfl, rfl, .inl (SqL.of f7), by rw [lnlS]; omega, _, nlS, rfl, rfl, ?_, ?_⟩
    · rw [sizeLine_eq]
      have h1 := join_size (y := nlS) (ps := nLines n) (b := 60) lns
      have h2 : (nLines n).length * (60 + nlS.cps.size) ≤ 131 * (60 + 1) := Nat.mul_le_mul (by omega) (by show 60 + nlS.length ≤ _; omega)
      show (Txt.join nlS (nLines n)).cps.size + nlS.length ≤ _
      omega
    rw [text_join (by intro z; rw [z] at lnl; simp at lnl; omega)]
    exact q H8 g7
end
end C1

/-! What a text is due, by the law. -/
namespace C1
open PySem PySem.Spec PyProof.Rows L2 SX
abbrev sLawWords : Stmt := topS 31
abbrev sLawDue : Stmt := topS 32
theorem scLawWords : FnScope ["heads"] ["heads"] (defScope sLawWords) := ⟨rfl, rfl, rfl, by decide +kernel, rfl, by decide +kernel, by decide +kernel⟩
abbrev NLWd : List Str := ["heads"]
theorem scLawDue : FnScope ["text", "lines", "heads", "words", "rows", "k", "row", "latches", "told", "ands", "net"] ["text"] (defScope sLawDue) := ⟨rfl, rfl, rfl, by decide +kernel, rfl, by decide +kernel, by decide +kernel⟩
abbrev NLDu : List Str := ["text", "lines", "heads", "words", "rows", "k", "row", "latches", "told", "ands", "net"]
def wordsN (a b c : Nat) : List Str := (formsN a b c).map (·.1)
section
variable {P : Program} {w : World} {K : PySem.W.Frag} {mg : Str → Option Value} {base : Heap} {T : Addr}
def spWords (K : PySem.W.Frag) : Sp := fun vs H Q _ => ∃ (t : Addr) (a b c : Nat), vs = [.ref t] ∧ H t = some (.lst [iV a, iV b, iV c]) ∧ a + (b + c) ≤ 400 ∧ ∀ H' p, Same H H' → H p = none → H' p = some (.lst ((wordsN a b c).map V.str)) → Q (.ref p) H'
theorem ok_words {f : Addr} {fd : FuncData} (F : Fun K "_law_words" "_law_words" sLawWords f fd) : FnOk P w K mg base CX0 1 f fd ["heads"] (spWords K) := by
  refine F.ok scLawWords (fun vs H Q E h => ?_) (fun cdv A outer s H vs Q E hr h => ?_)
  · obtain ⟨t, a, b, c, rfl, _⟩ := h
    rfl
  · obtain ⟨t, a, b, c, rfl, ht, hs, q⟩ := h
    have nd := scLawWords.nd
    refine ⟨_, (pss_one (ps_ret (pe_op op_cat (pe_op op_cat (pe_op op_rep (pe_lst (pa_cons (pe_str) pa_nil)) (pe_ix ix_list (pv 0) (pe_int) (fun _ _ => rfl))) (pe_op op_rep (pe_lst (pa_cons (pe_str) pa_nil)) (pe_ix ix_list (pv 0) (pe_int) (fun _ _ => rfl)))) (pe_op op_rep (pe_lst (pa_cons (pe_str) pa_nil)) (pe_ix ix_list (pv 0) (pe_int) (fun _ _ => rfl)))))), ?_⟩
    have ew : wordsN a b c = (List.replicate a ("latch" : Str) ++ List.replicate b ("told" : Str)) ++ List.replicate c ("and" : Str) := by
      unfold wordsN formsN
      rw [List.map_append, List.map_append, List.map_replicate, List.map_replicate, List.map_replicate]
    refine ⟨line200 (show 1 ≤ 1000 by decide), fun l1 nl1 => ?_⟩
    have s1 : Same H (upd H l1 (.lst [.str "latch"])) := Same.up nl1
    have f1 : (upd H l1 (.lst [.str "latch"])) l1 = some (.lst [.str "latch"]) := upd_same
    generalize upd H l1 (.lst [.str "latch"]) = H1 at s1 f1
    refine ⟨_, rfl, t, _, _, _, rfl, rfl, SqL.of (s1 _ _ ht), atI_nat (j := 0) rfl, ?_⟩
    refine ⟨l1, _, _, rfl, rfl, f1, by omega, by omega, by show 1 * ((a : Nat) : Int).toNat ≤ sizeLine; rw [sizeLine_eq]; omega, fun p1 np1 => ?_⟩
    have s2 := s1.trans (Same.up np1 (o := .lst (List.replicate ((a : Nat) : Int).toNat [V.str "latch"]).flatten))
    have f2 : (upd H1 p1 (.lst (List.replicate ((a : Nat) : Int).toNat [V.str "latch"]).flatten)) p1 = some (.lst (List.replicate a (V.str "latch"))) := by
      rw [upd_same, Int.toNat_natCast, List.flatten_replicate_singleton]
    generalize upd H1 p1 (.lst (List.replicate ((a : Nat) : Int).toNat [V.str "latch"]).flatten) = H2 at s2 f2
    refine ⟨line200 (show 1 ≤ 1000 by decide), fun l3 nl3 => ?_⟩
    have s3 := s2.trans (Same.up nl3 (o := .lst [.str "told"]))
    have f3 : (upd H2 l3 (.lst [.str "told"])) l3 = some (.lst [.str "told"]) := upd_same
    replace f2 := Same.up nl3 (o := .lst [.str "told"]) _ _ f2
    generalize upd H2 l3 (.lst [.str "told"]) = H3 at s3 f3 f2
    refine ⟨_, rfl, t, _, _, _, rfl, rfl, SqL.of (s3 _ _ ht), atI_nat (j := 1) rfl, ?_⟩
    refine ⟨l3, _, _, rfl, rfl, f3, by omega, by omega, by show 1 * ((b : Nat) : Int).toNat ≤ sizeLine; rw [sizeLine_eq]; omega, fun p4 np4 => ?_⟩
    have s4 := s3.trans (Same.up np4 (o := .lst (List.replicate ((b : Nat) : Int).toNat [V.str "told"]).flatten))
    replace f2 := Same.up np4 (o := .lst (List.replicate ((b : Nat) : Int).toNat [V.str "told"]).flatten) _ _ f2
    have f4 : (upd H3 p4 (.lst (List.replicate ((b : Nat) : Int).toNat [V.str "told"]).flatten)) p4 = some (.lst (List.replicate b (V.str "told"))) := by
      rw [upd_same, Int.toNat_natCast, List.flatten_replicate_singleton]
    generalize upd H3 p4 (.lst (List.replicate ((b : Nat) : Int).toNat [V.str "told"]).flatten) = H4 at s4 f4 f2
    refine ⟨p1, p4, _, _, rfl, rfl, f2, f4, line200 (by rw [List.length_replicate, List.length_replicate]; omega), fun p5 np5 => ?_⟩
    have s5 := s4.trans (Same.up np5 (o := .lst (List.replicate a (V.str "latch") ++ List.replicate b (V.str "told"))))
    have f5 : (upd H4 p5 (.lst (List.replicate a (V.str "latch") ++ List.replicate b (V.str "told")))) p5 = some (.lst (List.replicate a (V.str "latch") ++ List.replicate b (V.str "told"))) := upd_same
    generalize upd H4 p5 (.lst (List.replicate a (V.str "latch") ++ List.replicate b (V.str "told"))) = H5 at s5 f5
    refine ⟨line200 (show 1 ≤ 1000 by decide), fun l6 nl6 => ?_⟩
    have s6 := s5.trans (Same.up nl6 (o := .lst [.str "and"]))
    have f6 : (upd H5 l6 (.lst [.str "and"])) l6 = some (.lst [.str "and"]) := upd_same
    replace f5 := Same.up nl6 (o := .lst [.str "and"]) _ _ f5
    generalize upd H5 l6 (.lst [.str "and"]) = H6 at s6 f6 f5
    refine ⟨_, rfl, t, _, _, _, rfl, rfl, SqL.of (s6 _ _ ht), atI_nat (j := 2) rfl, ?_⟩
    refine ⟨l6, _, _, rfl, rfl, f6, by omega, by omega, by show 1 * ((c : Nat) : Int).toNat ≤ sizeLine; rw [sizeLine_eq]; omega, fun p7 np7 => ?_⟩
    have s7 := s6.trans (Same.up np7 (o := .lst (List.replicate ((c : Nat) : Int).toNat [V.str "and"]).flatten))
    replace f5 := Same.up np7 (o := .lst (List.replicate ((c : Nat) : Int).toNat [V.str "and"]).flatten) _ _ f5
    have f7 : (upd H6 p7 (.lst (List.replicate ((c : Nat) : Int).toNat [V.str "and"]).flatten)) p7 = some (.lst (List.replicate c (V.str "and"))) := by
      rw [upd_same, Int.toNat_natCast, List.flatten_replicate_singleton]
    generalize upd H6 p7 (.lst (List.replicate ((c : Nat) : Int).toNat [V.str "and"]).flatten) = H7 at s7 f7 f5
    refine ⟨p5, p7, _, _, rfl, rfl, f5, f7, line200 (by rw [List.length_append, List.length_replicate, List.length_replicate, List.length_replicate]; omega), fun p8 np8 => ?_⟩
    have nH : H p8 = none := by
      cases e : H p8 with
      | none => rfl
      | some o =>
        rw [s7 _ _ e] at np8
        cases np8
    refine q _ p8 (s7.trans (Same.up np8)) nH ?_
    rw [upd_same, ew]
    simp only [List.map_append, List.map_replicate]
end
structure RowsH (H : Hp) (vs : List Addr) (acc : List (List Nat)) : Prop where
  len : vs.length = acc.length
  at' : ∀ (j : Nat) (t : Addr) (ns : List Nat), vs[j]? = some t → acc[j]? = some ns → H t = some (.lst (ns.map iV))
theorem form_many {a b c : Nat} {f : Str × Nat} (h : f ∈ formsN a b c) : f.2 = if f.1 = "told" then 1 else 2 := by
  unfold formsN at h
  simp only [List.mem_append, List.mem_replicate] at h
  rcases h with (⟨_, rfl⟩ | ⟨_, rfl⟩) | ⟨_, rfl⟩ <;> decide +kernel
theorem many_if {wd : Str} {mn : Nat} {σ : L2.St} {H : Hp} {R : VK} (emn : mn = if wd = "told" then 1 else 2) (q : R (iV mn) H) : if decide (V.str wd = V.str "told") = true then tC (.int 1) σ H R else tC (.int 2) σ H R := by
  by_cases ht : wd = "told"
  · rw [if_pos ht] at emn
    subst emn
    rw [if_pos (decide_eq_true (by rw [ht]))]
    exact q
  · rw [if_neg ht] at emn
    subst emn
    rw [decide_eq_false (fun z => ht (V.str.inj z))]
    exact q
theorem split_nil : splitL (Str.ofString "") = [Str.ofString ""] := by decide +kernel
theorem text_nil {x : Str} (h : splitL x = [Str.ofString ""]) : x = Str.ofString "" := by
  have e : Txt.join nlS (splitL x) = x := by
    rw [TL.join_eq]
    exact PySem.StrLaws.join_split x nlS
  rw [h] at e
  rw [← e]
  decide +kernel
def spDue (K : PySem.W.Frag) : Sp := fun vs H Q _ => ∃ x : Str, vs = [.str x] ∧ TxL 250 140 x ∧ (∀ d, parseN x = .inr d → ∀ H' v, Same H H' → Dp K H' v d → Q v H') ∧ ∀ n : Nat, parseN x = .inl n → ∀ H', Same H H' → Q (iV n) H'
section
variable {P : Program} {w : World} {K : PySem.W.Frag} {mg : Str → Option Value} {base : Heap} {T : Addr}
theorem col_lc {a D : Addr} {xs : List V} {vs : List Nat} {σ : L2.St} {H0 : Hp} {Qd : Hp → Prop} {j : Nat} (k : Nat) (acc : List (List Nat)) (hr : ∀ (H' : Hp) (i : Nat) (v : V), Same H0 H' → xs[i]? = some v → ∃ u r, v = .ref u ∧ acc[i]? = some r ∧ H' u = some (.lst (r.map iV)))
    (hk : ∀ (i : Nat) (r : List Nat), acc[i]? = some r → k < r.length) (hlen : xs.length = acc.length) (hn : xs.length ≤ 1000) (hl : SqL K H0 a xs) (hD : H0 D = none)
    (hσ : ∀ v, ((wipe σ vs).set j (some v))[j]? = some (some v) ∧ wipe ((wipe σ vs).set j (some v)) vs = wipe σ vs)
    (hd : ∀ H out, Same H0 H → H D = some (.lst out) → DpAll K H out (acc.map fun r => iD (r.getD k 0)) → Qd H) :
    ∃ W : Nat → Nat → Hp → Prop, (∃ m, W 0 m (upd H0 D (.lst []))) ∧ ∀ i m H, W i m H →
      ((Itl K a).stop i H ∧ Qd H) ∨ ((Itl K a).go i H ∧ ∃ Nx : Hp → Prop, (∀ H', Nx H' → ∃ m', m' < m ∧ W (i + 1) m' H') ∧ ∀ x H', (Itl K a).yld i H x H' → gName j x (wipe σ vs) H' fun σ2 H2 => wipe σ2 vs = wipe σ vs ∧ tYes σ2 H2 fun b H3 =>
        if b = true then (tOp (rIxL K) (tVar j) (tC (iV k))) σ2 H3 fun y H4 => ∃ acc, H4 D = some (.lst acc) ∧ acc.length < sizeLine ∧ Nx (upd H4 D (.lst (acc ++ [y]))) else Nx H3) := by
  refine lc_listD (xs := xs) (acc.map fun r => iD (r.getD k 0)) (noLs_iD k _) (by rw [List.length_map]; exact hlen) hn hl hD (fun i v d H4 Q4 hv hdi sm q4 => ?_) hd
  obtain ⟨u, r, rfl, er, eu⟩ := hr H4 i v sm hv
  rw [List.getElem?_map, er] at hdi
  cases hdi
  have hkr := hk i r er
  exact ⟨(hσ _).2, _, (hσ _).1, u, _, _, _, rfl, rfl, SqL.of eu, atI_nat (j := k) (by rw [List.getElem?_map, List.getElem?_eq_getElem hkr]; rfl), q4 _ H4 (Same.refl _) (by show Dp K H4 (iV r[k]) (iD (r.getD k 0)); rw [List.getD_eq_getElem?_getD, List.getElem?_eq_getElem hkr]; exact .int _)⟩
theorem ok_due {f fU fO fK : Addr} {fd fdU fdO fdK : FuncData} (F : Fun K "_law_due" "_law_due" sLawDue f fd) (B : BT mg) (BL : Bl mg) (B2 : BD mg)
    (GU : FnOk P w K mg base CX0 1 fU fdU ["line", "word", "many"] (spLNums K)) (kU : PySem.W.keepIn K (.ref fU) = true) (bU : Binds K fdU ["line", "word", "many"] []) (gU : mg "_law_numbers" = some (.ref fU))
    (GO : FnOk P w K mg base CX0 1 fO fdO ["heads"] (spWords K)) (kO : PySem.W.keepIn K (.ref fO) = true) (bO : Binds K fdO ["heads"] []) (gO : mg "_law_words" = some (.ref fO))
    (GK : FnOk P w K mg base CX0 2 fK fdK ["thing"] (spIsNet K)) (kK : PySem.W.keepIn K (.ref fK) = true) (bK : Binds K fdK ["thing"] []) (gK : mg "_law_is_net" = some (.ref fK)) :
    FnOk P w K mg base CX0 3 f fd ["text"] (spDue K) := by
  refine F.ok scLawDue (fun vs H Q E h => ?_) (fun cdv A outer s H vs Q E hr h => ?_)
  · obtain ⟨x, rfl, _⟩ := h
    rfl
  · obtain ⟨x, rfl, hx, q, qe⟩ := h
    have nd := scLawDue.nd
    have hr2 : Room 2 _ := hr
    have hr1 : Room 1 _ := hr.mono (by decide)
    have hu := hr.units
    refine ⟨_, (pss_cons (ps_set (i := 1) nd rfl (.inl rfl) (pe_split (pv 0) (pe_str)))
      (C8.pss_cut (ps_if (PW.pt (pw_or (pt_cmpR op_ne (pe_ix ix_list (pv 1) (pe_op op_sub (pe_callB call_len_seq (by rfl) B.len PySem.boot_len (pa_cons (pv 1) pa_nil)) (pe_int)) (fun _ _ => rfl)) (pe_str) (nomark _)) (pw_or1 (pt_cmpR op_eq (pv 0) (pe_str) (nomark _))))) (pss_one (ps_ret (pe_callB call_len_seq (by rfl) B.len PySem.boot_len (pa_cons (pv 1) pa_nil)))) pss_nil)
      (pss_cons (ps_set (i := 1) nd rfl (.inl rfl) (pe_slice sl_list (pv 1) po_none (po_some (pe_un un_neg pe_int))))
      (pss_cons (ps_set (i := 2) nd rfl (.inl rfl) (pe_call GU hr1 (by rfl) gU kU bU .nil pass0 (pa_cons (pe_ix ix_list (pv 1) (pe_int) (fun _ _ => rfl)) (pa_cons (pe_str) (pa_cons (pe_int) pa_nil)))))
      (C8.pss_cut (ps_if (PW.pt (pw_or (pt_cmpR op_isN (pv 2) (pe_non) (nomark _)) (pw_or1 (pt_cmpR op_ne (pe_op op_add (pe_callB (cr_sum rfl) (by rfl) B2.sum (by decide +kernel) (pa_cons (pv 2) pa_nil)) (pe_int)) (pe_callB call_len_seq (by rfl) B.len PySem.boot_len (pa_cons (pv 1) pa_nil)) (nomark _))))) (pss_one (ps_ret (pe_int))) pss_nil)
      (pss_cons (ps_set (i := 3) nd rfl (.inl rfl) (pe_call GO hr1 (by rfl) gO kO bO .nil pass0 (pa_cons (pv 2) pa_nil)))
      (pss_cons (ps_set (i := 4) nd rfl (.inl rfl) (pe_lst pa_nil))
      (C8.pss_cut (ps_for PassesOwn.never rfl (pi_range1 (by rfl) BL.range (pa_cons (pe_callB call_len_seq (by rfl) B.len PySem.boot_len (pa_cons (pv 3) pa_nil)) pa_nil)) (pg_name (i := 5) nd rfl (.inl rfl)) (pss_cons (ps_set (i := 6) nd rfl (.inl rfl) (pe_call GU hr1 (by rfl) gU kU bU .nil pass0 (pa_cons (pe_ix ix_list (pv 1) (pe_op op_add (pv 5) (pe_int)) (fun _ _ => rfl)) (pa_cons (pe_ix ix_list (pv 3) (pv 5) (fun _ _ => rfl)) (pa_cons (pe_ifExp (pt_cmpR op_eq (pe_ix ix_list (pv 3) (pv 5) (fun _ _ => rfl)) (pe_str) (nomark _)) (pe_int) (pe_int)) pa_nil)))))
      (pss_cons (ps_if (pt_cmpR op_isN (pv 6) (pe_non) (nomark _)) (pss_one (ps_ret (pe_op op_add (pv 5) (pe_int)))) pss_nil)
      (pss_one (ps_expr (pe_bm PySem.F.plainAttrs_list PySem.F.slot_list_append PySem.F.type_list_append mt_append (pv 4) (pa_cons (pv 6) pa_nil)))))))
      (pss_cons (ps_par (i := 7) (j := 8) (by rfl) nd rfl rfl (by decide) rfl rfl (pa_cons (pe_slice sl_list (pv 4) po_none (po_some (pe_ix ix_list (pv 2) (pe_int) (fun _ _ => rfl)))) (pa_cons (pe_slice sl_list (pv 4) (po_some (pe_ix ix_list (pv 2) (pe_int) (fun _ _ => rfl))) (po_some (pe_op op_add (pe_ix ix_list (pv 2) (pe_int) (fun _ _ => rfl)) (pe_ix ix_list (pv 2) (pe_int) (fun _ _ => rfl))))) pa_nil)) (by rfl))
      (pss_cons (ps_set (i := 9) nd rfl (.inl rfl) (pe_callTy call_tuple_of (by rfl) B.tuple (by decide +kernel) (pa_cons (pe_lc (own := [("row", 6)]) (g := gName 6) (tt := tYes) (te := tTup (tCons (tOp (rIxL K) (tVar 6) (tC (.int 0))) (tCons (tOp (rIxL K) (tVar 6) (tC (.int 1))) tNil)))  rfl nd (pi_list (pe_slice sl_list (pv 4) (po_some (pe_op op_add (pe_ix ix_list (pv 2) (pe_int) (fun _ _ => rfl)) (pe_ix ix_list (pv 2) (pe_int) (fun _ _ => rfl)))) po_none)) (blkOk_by (own := [("row", 6)]) (N := NLDu) (sc := defScope sLawDue) (by decide +kernel)) (fun _ _ _ _ _ => pg_name (i := 6) nd rfl (.inl rfl)) (fun _ _ _ _ _ => pts_nil) (fun _ _ _ _ _ => by exact (pe_tup (pa_cons (pe_ix ix_list (pv 6) (pe_int) (fun _ _ => rfl)) (pa_cons (pe_ix ix_list (pv 6) (pe_int) (fun _ _ => rfl)) pa_nil))))) pa_nil)))
      (pss_cons (ps_set (i := 10) nd rfl (.inl rfl) (pe_tup (pa_cons (pe_callTy call_tuple_of (by rfl) B.tuple (by decide +kernel) (pa_cons (pe_lc (own := [("row", 6)]) (g := gName 6) (tt := tYes) (te := tOp (rIxL K) (tVar 6) (tC (.int 0)))  rfl nd (pi_list (pv 7)) (blkOk_by (own := [("row", 6)]) (N := NLDu) (sc := defScope sLawDue) (by decide +kernel)) (fun _ _ _ _ _ => pg_name (i := 6) nd rfl (.inl rfl)) (fun _ _ _ _ _ => pts_nil) (fun _ _ _ _ _ => by exact (pe_ix ix_list (pv 6) (pe_int) (fun _ _ => rfl)))) pa_nil)) (pa_cons (pv 9) (pa_cons (pe_callTy call_tuple_of (by rfl) B.tuple (by decide +kernel) (pa_cons (pe_lc (own := [("row", 6)]) (g := gName 6) (tt := tYes) (te := tOp (rIxL K) (tVar 6) (tC (.int 1)))  rfl nd (pi_list (pv 7)) (blkOk_by (own := [("row", 6)]) (N := NLDu) (sc := defScope sLawDue) (by decide +kernel)) (fun _ _ _ _ _ => pg_name (i := 6) nd rfl (.inl rfl)) (fun _ _ _ _ _ => pts_nil) (fun _ _ _ _ _ => by exact (pe_ix ix_list (pv 6) (pe_int) (fun _ _ => rfl)))) pa_nil)) (pa_cons (pe_callTy call_tuple_of (by rfl) B.tuple (by decide +kernel) (pa_cons (pe_lc (own := [("row", 6)]) (g := gName 6) (tt := tYes) (te := tOp (rIxL K) (tVar 6) (tC (.int 0)))  rfl nd (pi_list (pv 8)) (blkOk_by (own := [("row", 6)]) (N := NLDu) (sc := defScope sLawDue) (by decide +kernel)) (fun _ _ _ _ _ => pg_name (i := 6) nd rfl (.inl rfl)) (fun _ _ _ _ _ => pts_nil) (fun _ _ _ _ _ => by exact (pe_ix ix_list (pv 6) (pe_int) (fun _ _ => rfl)))) pa_nil)) pa_nil))))))
      (pss_one (ps_ret (pe_ifExp (pt_val (pe_call GK hr2 (by rfl) gK kK bK .nil pass0 (pa_cons (pv 10) pa_nil))) (pv 10) (pe_callB call_len_seq (by rfl) B.len PySem.boot_len (pa_cons (pv 1) pa_nil)))))))))))))))), ?_⟩
    obtain ⟨hn, hls⟩ := hx.lines
    have hsz := hx.size
    have hp := split_pos x
    refine ⟨_, rfl, ⟨x, rfl⟩, x, nlS, rfl, rfl, rfl, (by show x.cps.size + 2 ≤ sizeLine; rw [sizeLine_eq]; omega), fun p np => ?_⟩
    have s1 : Same H (upd H p (.lst ((Txt.split x nlS).map V.str))) := Same.up np
    have eP : (upd H p (.lst ((Txt.split x nlS).map V.str))) p = some (.lst ((splitL x).map V.str)) := upd_same
    generalize upd H p (.lst ((Txt.split x nlS).map V.str)) = H1 at s1 eP
    have hne : splitL x ≠ [] := fun z => by rw [z] at hp; cases hp
    have eL : (splitL x).getLast? = some ((splitL x).getLast hne) := List.getLast?_eq_some_getLast hne
    have hlast : atI ((splitL x).map V.str) (((splitL x).length : Int) - 1) = some (.str ((splitL x).getLast hne)) := by
      rw [show ((splitL x).length : Int) - 1 = (((splitL x).length - 1 : Nat) : Int) by omega]
      exact atI_nat (by rw [List.getElem?_map, ← List.getLast?_eq_getElem?, eL]; rfl)
    have eP0 : wholeB x = false → parseN x = .inl (splitL x).length := fun e => by
      unfold parseN
      rw [e]
      rfl
    refine ⟨fun σ H' => H1 = H' ∧ σ = [some (.str x), some (.ref p), none, none, none, none, none, none, none, none, none] ∧ wholeB x = true, ?_, ?_⟩
    · refine ⟨_, rfl, _, rfl, p, _, rfl, .inl (SqL.of eP), _, _, rfl, rfl, ?_⟩
      rw [List.length_map]
      refine ⟨p, _, _, _, rfl, rfl, SqL.of eP, hlast, rfl, _, rfl, ?_⟩
      by_cases hL : (splitL x).getLast hne = Str.ofString ""
      · refine iteF' (by rw [decide_eq_true (by rw [hL])]; rfl) ?_
        refine ⟨_, rfl, rfl, _, rfl, ?_⟩
        by_cases h1 : x = Str.ofString ""
        · refine iteT' (decide_eq_true (by rw [h1])) ⟨_, rfl, p, _, rfl, .inl (SqL.of eP), ?_⟩
          rw [List.length_map]
          exact qe _ (eP0 (by rw [h1]; unfold wholeB; rw [split_nil]; rfl)) H1 s1
        · refine iteF' (decide_eq_false (fun z => h1 (V.str.inj z))) ⟨rfl, rfl, ?_⟩
          unfold wholeB
          rw [eL, hL, decide_eq_true rfl, decide_eq_false (fun z => h1 (text_nil (by
            cases es : splitL x with
            | nil => exact absurd es hne
            | cons a r =>
              rw [es] at z
              cases r with
              | nil =>
                simp only [es] at hL
                rw [← hL]
                rfl
              | cons _ _ => cases z)))]
          rfl
      · refine iteT' (by rw [decide_eq_false (fun z => hL (V.str.inj z))]; rfl) ⟨_, rfl, p, _, rfl, .inl (SqL.of eP), ?_⟩
        rw [List.length_map]
        exact qe _ (eP0 (by unfold wholeB; rw [eL, decide_eq_false (fun z => hL (Option.some.inj z))]; exact Bool.false_and _)) H1 s1
    rintro σ H' ⟨rfl, rfl, hw⟩
    have hlen : (linesOf x).length ≤ 140 := by
      unfold linesOf
      rw [List.length_dropLast]
      omega
    have hyl : ∀ y ∈ linesOf x, LnB 600 y := fun y h => (hls y (List.dropLast_subset _ h)).up (by decide)
    have h2 : 2 ≤ (splitL x).length := by
      unfold wholeB at hw
      rw [Bool.and_eq_true] at hw
      have : (splitL x).length ≠ 1 := fun z => by
        rw [decide_eq_true z] at hw
        cases hw.2
      omega
    obtain ⟨hd, rest, el⟩ : ∃ h r, linesOf x = h :: r := by
      cases e : linesOf x with
      | nil =>
        have := congrArg List.length e
        unfold linesOf at this
        rw [List.length_dropLast] at this
        simp at this
        omega
      | cons a b => exact ⟨a, b, rfl⟩
    have hyl2 : ∀ y ∈ hd :: rest, LnB 600 y := by
      rw [← el]
      exact hyl
    have lrest : rest.length + 1 = (linesOf x).length := by
      rw [el]
      rfl
    refine ⟨_, rfl, _, rfl, _, rfl, p, _, rfl, SqL.of eP, fun r nr => ?_⟩
    have g2 := s1.trans (Same.up nr (o := .lst (cutV ((splitL x).map V.str) none (some (-1)))))
    have er : (upd H1 r (.lst (cutV ((splitL x).map V.str) none (some (-1))))) r = some (.lst ((hd :: rest).map V.str)) := by
      refine upd_same.trans (congrArg (fun l => some (HO.lst l)) ?_)
      show ((splitL x).map V.str |>.drop (HT.sIx ((splitL x).map V.str).length 0 none)).take (HT.sIx ((splitL x).map V.str).length ((splitL x).map V.str).length (some (-1)) - HT.sIx ((splitL x).map V.str).length 0 none) = _
      rw [HT.sIx_none, List.drop_zero, List.length_map, Nat.sub_zero]
      rw [show HT.sIx (splitL x).length (splitL x).length (some (-1)) = (splitL x).length - 1 by
        show ((-1 : Int) + ((splitL x).length : Int)).toNat = _
        omega]
      rw [← el]
      unfold linesOf
      rw [List.dropLast_eq_take, List.map_take]
    generalize upd H1 r (.lst (cutV ((splitL x).map V.str) none (some (-1)))) = H2 at g2 er
    refine ⟨_, rfl, r, _, _, _, rfl, rfl, SqL.of er, atI_nat (j := 0) rfl, hd, "net", 3, rfl, hyl2 hd (List.mem_cons_self ..), fun H3 g3 en => ?_, fun H3 t ns g3 nt en et => ?_⟩
    · refine ⟨fun _ _ => False, ?_, fun _ _ z => z.elim⟩
      refine ⟨_, rfl, rfl, _, rfl, iteT ?_⟩
      exact qe 1 (parse_none hw el en) H3 (g2.trans g3)
    obtain ⟨a, b, c, rfl⟩ : ∃ a b c, ns = [a, b, c] := by
      have := lnN_len en
      match ns, this with
      | [a, b, c], _ => exact ⟨a, b, c, rfl⟩
    have eP2 : parseN x = bodyN x a b c rest := parse_some hw el en
    have g23 := g2.trans g3
    have er3 := g3 _ _ er
    refine ⟨fun σ H' => H3 = H' ∧ σ = [some (.str x), some (.ref r), some (.ref t), none, none, none, none, none, none, none, none] ∧ (linesOf x).length = 1 + (a + (b + c)), ?_, ?_⟩
    · refine ⟨_, rfl, rfl, _, rfl, iteF ?_⟩
      refine ⟨_, rfl, t, [((a : Nat) : Int), ((b : Nat) : Int), ((c : Nat) : Int)], rfl, SqL.of et, _, _, rfl, rfl, _, rfl, r, _, rfl, .inl (SqL.of er3), rfl, _, rfl, ?_⟩
      have es : ([((a : Nat) : Int), ((b : Nat) : Int), ((c : Nat) : Int)] : List Int).sum = (((a + (b + c) : Nat)) : Int) := by
        simp only [List.sum_cons, List.sum_nil]
        omega
      rw [es, List.length_map]
      by_cases hl : (linesOf x).length = 1 + (a + (b + c))
      · refine iteF' (by rw [decide_eq_true (congrArg V.int (by rw [List.length_cons]; omega))]; rfl) ⟨rfl, rfl, hl⟩
      · refine iteT' (by rw [decide_eq_false (fun z => hl (by have := V.int.inj z; rw [List.length_cons] at this; omega))]; rfl) ?_
        exact qe 1 (by rw [eP2]; exact if_neg hl) H3 g23
    rintro σ H' ⟨rfl, rfl, hl⟩
    have eP3 : parseN x = afterN x a b c rest := by
      rw [eP2]
      exact if_pos hl
    refine ⟨_, rfl, t, a, b, c, rfl, et, by omega, fun H4 wd g4 nwd ewd => ?_⟩
    -- rows
    refine ⟨Nat.zero_le _, fun fl nfl => ?_⟩
    have s5 : Same H4 (upd H4 fl (.lst [])) := Same.up nfl
    have efl5 : (upd H4 fl (.lst [])) fl = some (.lst []) := upd_same
    generalize upd H4 fl (.lst []) = Hb at s5 efl5
    have er4 := g4 _ _ er3
    have et4 := g4 _ _ et
    have g24 := g23.trans g4
    have lrs : rest.length = a + (b + c) := by
      have : (linesOf x).length = rest.length + 1 := lrest.symm
      omega
    have hab : a + (b + c) ≤ 139 := by omega
    have lfo := forms_len a b c
    have lwd : (wordsN a b c).length = a + (b + c) := by
      unfold wordsN
      rw [List.length_map, lfo]
    let Iv : Nat → L2.St → Hp → Prop := fun i σ H' => ∃ (y5 y6 : Option V) (vs : List Addr) (acc : List (List Nat)), σ = [some (.str x), some (.ref r), some (.ref t), some (.ref wd), some (.ref fl), y5, y6, none, none, none, none] ∧ Same H4 H' ∧ H' fl = some (.lst (vs.map V.ref)) ∧ RowsH H' vs acc ∧ fl ∉ vs ∧ acc.length = i ∧ readN 0 [] (formsN a b c) rest = readN i acc ((formsN a b c).drop i) (rest.drop i)
    refine ⟨fun σ H' => Iv (a + (b + c)) σ H', ?_, ?_⟩
    · refine ⟨_, rfl, wd, _, rfl, .inl (SqL.of (s5 _ _ ewd)), _, rfl, by omega, by rw [List.length_map, lwd]; omega, ?_⟩
      rw [List.length_map, lwd]
      refine for_range (lo := 0) (n := a + (b + c)) Iv ⟨none, none, [], [], rfl, s5, efl5, ⟨rfl, fun j t ns h => by simp at h⟩, (fun z => by cases z), rfl, rfl⟩ (fun i σ H' hi h => ?_) (fun σ H' h => h)
      obtain ⟨y5, y6, vs, acc, rfl, g, efl, ra, nfv, lacc, er⟩ := h
      obtain ⟨⟨wd', mn⟩, ef⟩ : ∃ f, (formsN a b c)[i]? = some f := ⟨_, List.getElem?_eq_getElem (by omega)⟩
      obtain ⟨y, ey⟩ : ∃ y, rest[i]? = some y := ⟨_, List.getElem?_eq_getElem (by omega)⟩
      have edr : rest.drop i = y :: rest.drop (i + 1) := by
        obtain ⟨h1, h2⟩ := List.getElem?_eq_some_iff.mp ey
        rw [List.drop_eq_getElem_cons h1, h2]
      have edf : (formsN a b c).drop i = (wd', mn) :: (formsN a b c).drop (i + 1) := by
        obtain ⟨h1, h2⟩ := List.getElem?_eq_some_iff.mp ef
        rw [List.drop_eq_getElem_cons h1, h2]
      have er2 : readN 0 [] (formsN a b c) rest = match lnN wd' mn y with
        | none => .inl (i + 2)
        | some ns => readN (i + 1) (acc ++ [ns]) ((formsN a b c).drop (i + 1)) (rest.drop (i + 1)) := by
        rw [er, edr, edf]
        rfl
      have ew : (wordsN a b c)[i]? = some wd' := by
        unfold wordsN
        rw [List.getElem?_map, ef]
        rfl
      have emn : mn = if wd' = "told" then 1 else 2 := form_many (List.mem_of_getElem? ef)
      rw [Int.zero_add]
      have erH := g _ _ er4
      have ewH := g _ _ ewd
      refine ⟨_, rfl, _, rfl, _, _, rfl, rfl, r, _, _, _, rfl, rfl, SqL.of erH, atI_nat (j := i + 1) (by rw [List.getElem?_map, List.getElem?_cons_succ, ey]; rfl), ?_⟩
      have aw : atI ((wordsN a b c).map V.str) ((i : Nat) : Int) = some (.str wd') := atI_nat (by rw [List.getElem?_map, ew]; rfl)
      refine ⟨_, rfl, _, rfl, wd, _, _, _, rfl, rfl, SqL.of ewH, aw, _, rfl, _, rfl, wd, _, _, _, rfl, rfl, SqL.of ewH, aw, rfl, _, rfl, ?_⟩
      refine many_if emn ⟨y, wd', mn, rfl, hyl2 y (List.mem_cons_of_mem _ (List.mem_of_getElem? ey)), fun H5 s5 en => ?_, fun H5 t5 ns s5 n5 en e5 => ?_⟩
      · refine ⟨_, rfl, rfl, _, rfl, iteT ⟨_, rfl, _, _, rfl, rfl, ?_⟩⟩
        exact qe (i + 2) (by rw [eP3]; unfold afterN; rw [er2, en]) H5 (g24.trans (g.trans s5))
      · refine ⟨_, rfl, rfl, _, rfl, iteF ?_⟩
        have efl' := s5 _ _ efl
        have lvs : vs.length ≤ 139 := by
          have := ra.len
          omega
        refine ⟨_, rfl, .inl ⟨rfl, _, SqL.of efl'⟩, _, rfl, fl, vs.map V.ref, .ref t5, rfl, rfl, efl', lineS200 (by rw [List.length_map]; omega), ?_⟩
        have t5fl : t5 ≠ fl := fun z => by
          rw [z, efl] at n5
          cases n5
        refine ⟨_, _, vs ++ [t5], acc ++ [ns], rfl, fun b o he => ?_, by rw [upd_same, List.map_append]; rfl, ⟨by rw [List.length_append, List.length_append, ra.len]; rfl, fun j u ms hj hm => ?_⟩, (fun z => (List.mem_append.mp z).elim nfv (fun z => t5fl (List.mem_singleton.mp z).symm)), by rw [List.length_append, lacc]; rfl, by rw [er2, en]⟩
        · rw [upd_ne (ne_of_none he nfl)]
          exact s5 _ _ (g b o he)
        · by_cases hlt : j < vs.length
          · rw [List.getElem?_append_left hlt] at hj
            rw [List.getElem?_append_left (by rw [← ra.len]; exact hlt)] at hm
            have e6 := ra.at' j u ms hj hm
            have : u ≠ fl := fun z => nfv (by rw [← z]; exact List.mem_of_getElem? hj)
            rw [upd_ne this]
            exact s5 _ _ e6
          · rw [List.getElem?_append_right (by omega)] at hj
            rw [List.getElem?_append_right (by rw [← ra.len]; omega), ← ra.len] at hm
            have e0 : j - vs.length = 0 := by
              have := (List.getElem?_eq_some_iff.mp hj).1
              simp at this
              omega
            rw [e0] at hj hm
            cases hj
            cases hm
            rw [upd_ne t5fl]
            exact e5
    rintro σ H5 ⟨y5, y6, vs, acc, rfl, g, efl, ra, nfv, lacc, er⟩
    have erows : readN 0 [] (formsN a b c) rest = .inr acc := by
      rw [er, List.drop_eq_nil_of_le (as := formsN a b c) (by rw [forms_len]; omega)]
      cases rest.drop (a + (b + c)) <;> rfl
    have ras : RowsAs (formsN a b c) acc := readN_as (gs := []) (acc := []) ⟨rfl, fun i r f h => by simp at h⟩ erows
    have lvs : vs.length = acc.length := ra.len
    have two : ∀ i r, i < a → acc[i]? = some r → r.length = 2 := fun i r hi e => by
      obtain ⟨f, ef⟩ : ∃ f, (formsN a b c)[i]? = some f := ⟨_, List.getElem?_eq_getElem (by rw [forms_len]; omega)⟩
      rw [ras.2 i r f e ef, form_two ef hi]
    have one : ∀ i r, a ≤ i → i < a + b → acc[i]? = some r → r.length = 1 := fun i r hi hj e => by
      obtain ⟨f, ef⟩ : ∃ f, (formsN a b c)[i]? = some f := ⟨_, List.getElem?_eq_getElem (by rw [forms_len]; omega)⟩
      rw [ras.2 i r f e ef, form_one ef hi hj]
    have thr : ∀ i r, a + b ≤ i → acc[i]? = some r → r.length = 2 := fun i r hi e => by
      have hlt := (List.getElem?_eq_some_iff.mp e).1
      obtain ⟨f, ef⟩ : ∃ f, (formsN a b c)[i]? = some f := ⟨_, List.getElem?_eq_getElem (by rw [forms_len]; omega)⟩
      rw [ras.2 i r f e ef, form_and ef hi]
    have rowE : ∀ (H' : Hp) (i : Nat) (v : V), Same H5 H' → (vs.map V.ref)[i]? = some v → ∃ u r, v = .ref u ∧ acc[i]? = some r ∧ H' u = some (.lst (r.map iV)) := fun H' i v sm e => by
      rw [List.getElem?_map] at e
      obtain ⟨u, eu, rfl⟩ := Option.map_eq_some_iff.mp e
      have hlt := (List.getElem?_eq_some_iff.mp eu).1
      have er : acc[i]? = some acc[i] := List.getElem?_eq_getElem (by omega)
      exact ⟨u, _, rfl, er, sm _ _ (ra.at' i u _ eu er)⟩
    have et5 := g _ _ et4
    have i0 : atI [iV a, iV b, iV c] (0 : Int) = some (iV a) := atI_nat (j := 0) rfl
    have i1 : atI [iV a, iV b, iV c] (1 : Int) = some (iV b) := atI_nat (j := 1) rfl
    -- latches, told
    refine ⟨_, rfl, _, rfl, t, _, _, _, rfl, rfl, SqL.of et5, i0, _, rfl, fl, _, rfl, SqL.of efl, fun s1 n1 => ?_⟩
    have j1 := Same.up n1 (o := .lst (cutV (vs.map V.ref) none (some ((a : Nat) : Int))))
    have f1 : (upd H5 s1 (.lst (cutV (vs.map V.ref) none (some ((a : Nat) : Int))))) s1 = some (.lst ((vs.map V.ref).take a)) := by rw [upd_same, cut_to]
    generalize upd H5 s1 (.lst (cutV (vs.map V.ref) none (some ((a : Nat) : Int)))) = H6 at j1 f1
    refine ⟨_, rfl, _, rfl, t, _, _, _, rfl, rfl, SqL.of (j1 _ _ et5), i0, _, rfl, _, rfl, t, _, _, _, rfl, rfl, SqL.of (j1 _ _ et5), i0, _, rfl, t, _, _, _, rfl, rfl, SqL.of (j1 _ _ et5), i1, _, _, rfl, rfl, _, rfl, fl, _, rfl, SqL.of (j1 _ _ efl), fun s2 n2 => ?_⟩
    have j2 := j1.trans (Same.up n2 (o := .lst (cutV (vs.map V.ref) (some ((a : Nat) : Int)) (some (((a : Nat) : Int) + ((b : Nat) : Int))))))
    have f1' := Same.up n2 (o := .lst (cutV (vs.map V.ref) (some ((a : Nat) : Int)) (some (((a : Nat) : Int) + ((b : Nat) : Int))))) _ _ f1
    have f2 : (upd H6 s2 (.lst (cutV (vs.map V.ref) (some ((a : Nat) : Int)) (some (((a : Nat) : Int) + ((b : Nat) : Int)))))) s2 = some (.lst (((vs.map V.ref).drop a).take b)) := by rw [upd_same, cut_mid _ _ _ (by rw [List.length_map]; omega)]
    generalize upd H6 s2 (.lst (cutV (vs.map V.ref) (some ((a : Nat) : Int)) (some (((a : Nat) : Int) + ((b : Nat) : Int))))) = H7 at j2 f1' f2
    refine ⟨_, _, rfl, ?_⟩
    -- ands
    refine ⟨_, rfl, _, rfl, t, _, _, _, rfl, rfl, SqL.of (j2 _ _ et5), i0, _, rfl, t, _, _, _, rfl, rfl, SqL.of (j2 _ _ et5), i1, _, _, rfl, rfl, _, rfl, fl, _, rfl, SqL.of (j2 _ _ efl), fun s3 n3 => ⟨s3, rfl, ⟨_, SqL.of upd_same⟩, fun D3 nD3 => ?_⟩⟩
    have ab : ((a : Nat) : Int) + ((b : Nat) : Int) = (((a + b : Nat)) : Int) := by omega
    have j3 := j2.trans (Same.up n3 (o := .lst (cutV (vs.map V.ref) (some (((a : Nat) : Int) + ((b : Nat) : Int))) none)))
    have k3 := Same.up n3 (o := .lst (cutV (vs.map V.ref) (some (((a : Nat) : Int) + ((b : Nat) : Int))) none))
    have f3 : (upd H7 s3 (.lst (cutV (vs.map V.ref) (some (((a : Nat) : Int) + ((b : Nat) : Int))) none))) s3 = some (.lst ((vs.map V.ref).drop (a + b))) := by rw [upd_same, ab, cut_from _ _ (by rw [List.length_map]; omega)]
    replace f1' := k3 _ _ f1'
    replace f2 := k3 _ _ f2
    generalize upd H7 s3 (.lst (cutV (vs.map V.ref) (some (((a : Nat) : Int) + ((b : Nat) : Int))) none)) = H8 at j3 f3 f1' f2 nD3
    refine lc_listD (xs := (vs.map V.ref).drop (a + b)) ((acc.drop (a + b)).map memD) (noLs_mems _) (by rw [List.length_map, List.length_drop, List.length_drop, List.length_map, lvs]) (by rw [List.length_drop, List.length_map]; omega) (SqL.of f3) nD3 (fun i v d H4' Q4 hv hdi sm q4 => ?_) (fun H9 out sm e9 d9 => ?_)
    · rw [List.getElem?_drop] at hv
      obtain ⟨u, r', rfl, er', eu⟩ := rowE H4' _ v (j3.trans sm) hv
      rw [List.getElem?_map, List.getElem?_drop, er'] at hdi
      cases hdi
      have h2 := thr _ r' (by omega) er'
      match r', h2, eu, q4 with
      | [m0, m1], _, eu, q4 =>
      exact ⟨rfl, _, rfl, u, _, _, _, rfl, rfl, SqL.of eu, atI_nat (j := 0) rfl, _, rfl, u, _, _, _, rfl, rfl, SqL.of eu, atI_nat (j := 1) rfl, line200 (show 2 ≤ 1000 by decide), fun p2 np2 => q4 _ _ (Same.up np2) (.tup (SqT.of upd_same) (.cons (.int _) (.cons (.int _) .nil)))⟩
    refine ⟨D3, _, rfl, .inl ⟨SqL.of e9, fun ta nta => ?_⟩⟩
    have k9 := sm.trans (Same.up nta (o := .tup out))
    have j9 := j3.trans k9
    replace f1' := k9 _ _ f1'
    replace f2 := k9 _ _ f2
    have fta : (upd H9 ta (.tup out)) ta = some (.tup out) := upd_same
    have dta := dps_stay (same_tup (Same.up nta (o := .tup out))) _ _ d9 (noLs_mems _)
    generalize upd H9 ta (.tup out) = Hc at j9 f1' f2 fta dta
    clear k9 e9 d9 sm nta k3 f3 nD3 j3
    -- net: firsts
    refine ⟨_, rfl, s1, rfl, ⟨_, SqL.of f1'⟩, fun D4 nD4 => ?_⟩
    refine col_lc 0 (acc.take a) (fun H' i v sm hv => ?_) (fun i r' e => ?_) (by rw [List.length_take, List.length_take, List.length_map, lvs]) (by rw [List.length_take, List.length_map]; omega) (SqL.of f1') nD4 (fun v => ⟨rfl, rfl⟩) (fun Hd out1 sm e1 d1 => ?_)
    · have hia : i < a := by
        have := (List.getElem?_eq_some_iff.mp hv).1
        rw [List.length_take] at this
        omega
      rw [List.getElem?_take, if_pos hia] at hv ⊢
      exact rowE H' i v (j9.trans sm) hv
    · have hia : i < a := by
        have := (List.getElem?_eq_some_iff.mp e).1
        rw [List.length_take] at this
        omega
      rw [List.getElem?_take, if_pos hia] at e
      rw [two i r' hia e]
      decide
    refine ⟨D4, _, rfl, .inl ⟨SqL.of e1, fun tb ntb => ?_⟩⟩
    have k1 := sm.trans (Same.up ntb (o := .tup out1))
    have ja := j9.trans k1
    replace f1' := k1 _ _ f1'
    replace f2 := k1 _ _ f2
    replace fta := k1 _ _ fta
    replace dta := dps_stay (same_tup k1) _ _ dta (noLs_mems _)
    have ftb : (upd Hd tb (.tup out1)) tb = some (.tup out1) := upd_same
    have dtb := dps_stay (same_tup (Same.up ntb (o := .tup out1))) _ _ d1 (noLs_iD 0 _)
    generalize upd Hd tb (.tup out1) = He at ja f1' f2 fta dta ftb dtb
    clear k1 e1 d1 sm ntb nD4 j9
    -- nexts
    refine ⟨_, rfl, _, rfl, s1, rfl, ⟨_, SqL.of f1'⟩, fun D5 nD5 => ?_⟩
    refine col_lc 1 (acc.take a) (fun H' i v sm hv => ?_) (fun i r' e => ?_) (by rw [List.length_take, List.length_take, List.length_map, lvs]) (by rw [List.length_take, List.length_map]; omega) (SqL.of f1') nD5 (fun v => ⟨rfl, rfl⟩) (fun Hf out2 sm e2 d2 => ?_)
    · have hia : i < a := by
        have := (List.getElem?_eq_some_iff.mp hv).1
        rw [List.length_take] at this
        omega
      rw [List.getElem?_take, if_pos hia] at hv ⊢
      exact rowE H' i v (ja.trans sm) hv
    · have hia : i < a := by
        have := (List.getElem?_eq_some_iff.mp e).1
        rw [List.length_take] at this
        omega
      rw [List.getElem?_take, if_pos hia] at e
      rw [two i r' hia e]
      decide
    refine ⟨D5, _, rfl, .inl ⟨SqL.of e2, fun tc ntc => ?_⟩⟩
    have k1 := sm.trans (Same.up ntc (o := .tup out2))
    have jb := ja.trans k1
    replace f2 := k1 _ _ f2
    replace fta := k1 _ _ fta
    replace dta := dps_stay (same_tup k1) _ _ dta (noLs_mems _)
    replace ftb := k1 _ _ ftb
    replace dtb := dps_stay (same_tup k1) _ _ dtb (noLs_iD 0 _)
    have ftc : (upd Hf tc (.tup out2)) tc = some (.tup out2) := upd_same
    have dtc := dps_stay (same_tup (Same.up ntc (o := .tup out2))) _ _ d2 (noLs_iD 1 _)
    generalize upd Hf tc (.tup out2) = Hg at jb f2 fta dta ftb dtb ftc dtc
    clear k1 e2 d2 sm ntc nD5 ja
    -- outs
    refine ⟨_, rfl, s2, rfl, ⟨_, SqL.of f2⟩, fun D6 nD6 => ?_⟩
    refine col_lc 0 ((acc.drop a).take b) (fun H' i v sm hv => ?_) (fun i r' e => ?_) (by rw [List.length_take, List.length_take, List.length_drop, List.length_drop, List.length_map, lvs]) (by rw [List.length_take, List.length_drop, List.length_map]; omega) (SqL.of f2) nD6 (fun v => ⟨rfl, rfl⟩) (fun Hi out3 sm e3 d3 => ?_)
    · have hia : i < b := by
        have := (List.getElem?_eq_some_iff.mp hv).1
        rw [List.length_take] at this
        omega
      rw [List.getElem?_take, if_pos hia, List.getElem?_drop] at hv ⊢
      exact rowE H' _ v (jb.trans sm) hv
    · have hia : i < b := by
        have := (List.getElem?_eq_some_iff.mp e).1
        rw [List.length_take] at this
        omega
      rw [List.getElem?_take, if_pos hia, List.getElem?_drop] at e
      rw [one _ r' (by omega) (by omega) e]
      decide
    refine ⟨D6, _, rfl, .inl ⟨SqL.of e3, fun td ntd => ⟨line200 (show 4 ≤ 1000 by decide), fun nt nnt => ?_⟩⟩⟩
    have k1 := (sm.trans (Same.up ntd (o := .tup out3))).trans (Same.up nnt (o := .tup [.ref tb, .ref ta, .ref tc, .ref td]))
    have jc := jb.trans k1
    have ftd : (upd Hi td (.tup out3)) td = some (.tup out3) := upd_same
    have fnt : (upd (upd Hi td (.tup out3)) nt (.tup [.ref tb, .ref ta, .ref tc, .ref td])) nt = some (.tup [.ref tb, .ref ta, .ref tc, .ref td]) := upd_same
    have dnet : Dp K (upd (upd Hi td (.tup out3)) nt (.tup [.ref tb, .ref ta, .ref tc, .ref td])) (.ref nt) (netD a b acc) := by
      refine .tup (SqT.of fnt) (.cons (.tup (SqT.of (k1 _ _ ftb)) (dps_stay (same_tup k1) _ _ dtb (noLs_iD 0 _))) (.cons (.tup (SqT.of (k1 _ _ fta)) (dps_stay (same_tup k1) _ _ dta (noLs_mems _))) (.cons (.tup (SqT.of (k1 _ _ ftc)) (dps_stay (same_tup k1) _ _ dtc (noLs_iD 1 _))) (.cons (.tup (SqT.of (Same.up nnt _ _ ftd)) (dps_stay (same_tup ((Same.up ntd).trans (Same.up nnt))) _ _ d3 (noLs_iD 0 _))) .nil))))
    have erz := jc _ _ (g _ _ er4)
    generalize upd (upd Hi td (.tup out3)) nt (.tup [.ref tb, .ref ta, .ref tc, .ref td]) = Hl at jc dnet erz
    have rlen : ∀ r ∈ acc, r.length ≤ 10 := fun r hr => by
      obtain ⟨i, hi, e⟩ := List.mem_iff_getElem.mp hr
      obtain ⟨f, ef⟩ : ∃ f, (formsN a b c)[i]? = some f := ⟨_, List.getElem?_eq_getElem (by rw [forms_len]; omega)⟩
      have h1 := ras.2 i r f (by rw [← e]; exact List.getElem?_eq_getElem hi) ef
      have h3 := form_many (List.mem_of_getElem? ef)
      split at h3 <;> omega
    obtain ⟨gd3, lens⟩ := net_gd (a := a) (b := b) (rows := acc) (by omega) rlen
    have eP4 : parseN x = if netB (netD a b acc) = true then .inr (netD a b acc) else .inl (linesOf x).length := by
      rw [eP3]
      unfold afterN
      rw [erows]
    have gz := (g24.trans g).trans jc
    refine ⟨_, rfl, _, netD a b acc, 3, rfl, dnet, gd3, by decide, lens, fun Hm sm => ?_⟩
    cases hb : netB (netD a b acc) with
    | false =>
      refine ⟨_, rfl, iteF ⟨_, rfl, r, _, rfl, .inl (SqL.of (sm _ _ erz)), ?_⟩⟩
      rw [List.length_map, ← el]
      exact qe _ (by rw [eP4, hb]; rfl) Hm (gz.trans sm)
    | true =>
      refine ⟨_, rfl, iteT ⟨_, rfl, ?_⟩⟩
      exact q _ (by rw [eP4, hb]; rfl) Hm _ (gz.trans sm) (dp_stay (same_tup sm) _ _ dnet (netD_noL a b acc))
end
end C1

/-! A text turned, by the law. -/
namespace C1
open PySem PySem.Spec PyProof.Rows L2 SX
open K0 (Cs digs isNum)
abbrev sLawLineTurned : Stmt := topS 33
theorem scLawLineTurned : FnScope ["w", "lines", "at", "other", "way", "rest", "parts", "k", "part"] ["w", "lines"] (defScope sLawLineTurned) := ⟨rfl, rfl, rfl, by decide +kernel, rfl, by decide +kernel, by decide +kernel⟩
abbrev NLTu : List Str := ["w", "lines", "at", "other", "way", "rest", "parts", "k", "part"]
theorem cut_hi (xs : List V) (k : Nat) : cutV xs (some ((k : Nat) : Int)) none = xs.drop k := by
  by_cases h : k ≤ xs.length
  · exact cut_from xs k h
  · unfold cutV
    rw [HT.sIx_none, HT.sIx_nat, Nat.min_eq_right (by omega), List.drop_length, List.take_nil, List.drop_of_length_le (by omega)]
section
variable {P : Program} {w : World} {K : PySem.W.Frag} {mg : Str → Option Value} {base : Heap} {T : Addr} {a l : Addr} {ds : List Int}
theorem two_te2 {σ : L2.St} {H : Hp} {v i j : Nat} {q : Addr} {xs : List Str} {tA tB : TE} {Q : VK} (hv : σ[v]? = some (some (.ref q))) (e : H q = some (.lst (xs.map V.str))) (W : Wd H a l ds) (qa : q ≠ a)
    (hA : ∀ H1 (R : VK), R (iV i) H1 → tA σ H1 R) (hB : ∀ H1 (R : VK), R (iV j) H1 → tB σ H1 R) (hl : xs.length ≤ 200)
    (hq : ∀ (H' : Hp) (p : Addr), Kp a H H' → Wd H' a l ds → H' p = some (.lst ((xs.take i ++ xs.drop j).map V.str)) → p ≠ a → Q (.ref p) H') :
    (tOp rCat (tSl (rSlL K) (tVar v) tNoPart (tPart tA)) (tSl (rSlL K) (tVar v) (tPart tB) tNoPart)) σ H Q := by
  have ez1 : cutV (xs.map V.str) none (some ((i : Nat) : Int)) = (xs.take i).map V.str := by rw [cut_to, List.map_take]
  have l1 : (xs.take i).length ≤ xs.length := by rw [List.length_take]; omega
  have ez2 : cutV (xs.map V.str) (some ((j : Nat) : Int)) none = (xs.drop j).map V.str := by rw [cut_hi, List.map_drop]
  have l2 : (xs.drop j).length ≤ xs.length := by rw [List.length_drop]; omega
  refine ⟨_, hv, hA _ _ ⟨_, rfl, q, _, rfl, SqL.of e, fun s1 n1 => ?_⟩⟩
  have k1 := Kp.new (a := a) (o := .lst (cutV (xs.map V.str) none (some ((i : Nat) : Int)))) n1
  have W1 := W.new (o := .lst (cutV (xs.map V.str) none (some ((i : Nat) : Int)))) n1
  have e1 := k1 _ _ qa e
  have f1 : (upd H s1 (.lst (cutV (xs.map V.str) none (some ((i : Nat) : Int))))) s1 = some (.lst ((xs.take i).map V.str)) := by rw [upd_same, ez1]
  generalize upd H s1 (.lst (cutV (xs.map V.str) none (some ((i : Nat) : Int)))) = H1 at k1 W1 e1 f1
  refine ⟨_, hv, hB _ _ ⟨_, rfl, q, _, rfl, SqL.of e1, fun s2 n2 => ?_⟩⟩
  have k2 := Kp.new (a := a) (o := .lst (cutV (xs.map V.str) (some ((j : Nat) : Int)) none)) n2
  have W2 := W1.new (o := .lst (cutV (xs.map V.str) (some ((j : Nat) : Int)) none)) n2
  have f2 : (upd H1 s2 (.lst (cutV (xs.map V.str) (some ((j : Nat) : Int)) none))) s2 = some (.lst ((xs.drop j).map V.str)) := by rw [upd_same, ez2]
  have f1' := k2 _ _ (W1.at'.elim fun n h => ne_of f1 h.2 (by intro z; cases z)) f1
  generalize upd H1 s2 (.lst (cutV (xs.map V.str) (some ((j : Nat) : Int)) none)) = H2 at k2 W2 f2 f1'
  refine ⟨s1, s2, _, _, rfl, rfl, f1', f2, line200 (by rw [List.length_map, List.length_map]; omega), fun p np => ?_⟩
  exact hq _ p ((k1.trans k2).trans (Kp.new np)) (W2.new np) (by rw [upd_same, List.map_append]) (W2.fresh np)
theorem ins_te2 {σ : L2.St} {H : Hp} {v i j : Nat} {q : Addr} {xs : List Str} {Py : Str → Prop} {tA tB te : TE} {Q : VK} (hv : σ[v]? = some (some (.ref q))) (e : H q = some (.lst (xs.map V.str))) (W : Wd H a l ds) (qa : q ≠ a)
    (hA : ∀ H1 (R : VK), R (iV i) H1 → tA σ H1 R) (hB : ∀ H1 (R : VK), R (iV j) H1 → tB σ H1 R) (hl : xs.length ≤ 200)
    (hte : ∀ H1 (R : VK), Kp a H H1 → Wd H1 a l ds → (∀ (y : Str) (H2 : Hp), Kp a H1 H2 → Wd H2 a l ds → Py y → R (.str y) H2) → te σ H1 R)
    (hq : ∀ (H' : Hp) (p : Addr) (y : Str), Py y → Kp a H H' → Wd H' a l ds → H' p = some (.lst (((xs.take i ++ [y]) ++ xs.drop j).map V.str)) → p ≠ a → Q (.ref p) H') :
    (tOp rCat (tOp rCat (tSl (rSlL K) (tVar v) tNoPart (tPart tA)) (tLst (tCons te tNil))) (tSl (rSlL K) (tVar v) (tPart tB) tNoPart)) σ H Q := by
  have ez1 : cutV (xs.map V.str) none (some ((i : Nat) : Int)) = (xs.take i).map V.str := by rw [cut_to, List.map_take]
  have l1 : (xs.take i).length ≤ xs.length := by rw [List.length_take]; omega
  have ez2 : cutV (xs.map V.str) (some ((j : Nat) : Int)) none = (xs.drop j).map V.str := by rw [cut_hi, List.map_drop]
  have l2 : (xs.drop j).length ≤ xs.length := by rw [List.length_drop]; omega
  refine ⟨_, hv, hA _ _ ⟨_, rfl, q, _, rfl, SqL.of e, fun s1 n1 => ?_⟩⟩
  have k1 := Kp.new (a := a) (o := .lst (cutV (xs.map V.str) none (some ((i : Nat) : Int)))) n1
  have W1 := W.new (o := .lst (cutV (xs.map V.str) none (some ((i : Nat) : Int)))) n1
  have e1 := k1 _ _ qa e
  have f1 : (upd H s1 (.lst (cutV (xs.map V.str) none (some ((i : Nat) : Int))))) s1 = some (.lst ((xs.take i).map V.str)) := by rw [upd_same, ez1]
  generalize upd H s1 (.lst (cutV (xs.map V.str) none (some ((i : Nat) : Int)))) = H1 at k1 W1 e1 f1
  have a1 : s1 ≠ a := W1.at'.elim fun n h => ne_of f1 h.2 (by intro z; cases z)
  refine hte _ _ k1 W1 fun y H2 k2 W2 hy => ?_
  replace e1 := k2 _ _ qa e1
  replace f1 := k2 _ _ a1 f1
  refine ⟨line200 (show 1 ≤ 1000 by decide), fun p3 n3 => ?_⟩
  have k3 := Kp.new (a := a) (o := .lst [V.str y]) n3
  have W3 := W2.new (o := .lst [V.str y]) n3
  have a3 := W2.fresh n3
  have f3 : (upd H2 p3 (.lst [V.str y])) p3 = some (.lst [V.str y]) := upd_same
  replace e1 := k3 _ _ qa e1
  replace f1 := k3 _ _ a1 f1
  generalize upd H2 p3 (.lst [V.str y]) = H3 at k3 W3 f3 e1 f1
  refine ⟨s1, p3, _, _, rfl, rfl, f1, f3, line200 (by rw [List.length_map]; show _ + 1 ≤ 1000; omega), fun p4 n4 => ?_⟩
  have k4 := Kp.new (a := a) (o := .lst ((xs.take i).map V.str ++ [V.str y])) n4
  have W4 := W3.new (o := .lst ((xs.take i).map V.str ++ [V.str y])) n4
  have a4 := W3.fresh n4
  have f4 : (upd H3 p4 (.lst ((xs.take i).map V.str ++ [V.str y]))) p4 = some (.lst (((xs.take i) ++ [y]).map V.str)) := by rw [upd_same, List.map_append]; rfl
  replace e1 := k4 _ _ qa e1
  generalize upd H3 p4 (.lst ((xs.take i).map V.str ++ [V.str y])) = H4 at k4 W4 f4 e1
  refine ⟨_, hv, hB _ _ ⟨_, rfl, q, _, rfl, SqL.of e1, fun s2 n2 => ?_⟩⟩
  have k5 := Kp.new (a := a) (o := .lst (cutV (xs.map V.str) (some ((j : Nat) : Int)) none)) n2
  have W5 := W4.new (o := .lst (cutV (xs.map V.str) (some ((j : Nat) : Int)) none)) n2
  have f2 : (upd H4 s2 (.lst (cutV (xs.map V.str) (some ((j : Nat) : Int)) none))) s2 = some (.lst ((xs.drop j).map V.str)) := by rw [upd_same, ez2]
  replace f4 := k5 _ _ a4 f4
  generalize upd H4 s2 (.lst (cutV (xs.map V.str) (some ((j : Nat) : Int)) none)) = H5 at k5 W5 f2 f4
  refine ⟨p4, s2, _, _, rfl, rfl, f4, f2, line200 (by rw [List.length_map, List.length_map, List.length_append]; show _ + 1 + _ ≤ 1000; omega), fun p np => ?_⟩
  exact hq _ p y hy (((((k1.trans k2).trans k3).trans k4).trans k5).trans (Kp.new np)) (W5.new np) (by rw [upd_same]; simp only [List.map_append]) (W5.fresh np)
end
def wordsT : List Str := ["", "and", "told", "latch", "-1", "2", "0", "1", "60"]
theorem wordsT_ln : ∀ s ∈ wordsT, s.cps.size ≤ 5 ∧ (∀ c ∈ s.cps.toList, c < 128 ∧ c ≠ 10) := by decide +kernel
theorem LnB.app {b c : Nat} {x y : Str} (h : LnB b x) (k : LnB c y) : LnB (b + c) (x ++ y) := by
  have e : (x ++ y).cps.toList = x.cps.toList ++ y.cps.toList := app_cs x y
  refine ⟨?_, fun z hz => ?_, fun hz => ?_⟩
  · have := app_len x y
    have h1 : (x ++ y).cps.size = x.cps.size + y.cps.size := this
    have := h.sz
    have := k.sz
    omega
  · rw [e] at hz
    exact (List.mem_append.mp hz).elim (h.as z) (k.as z)
  · rw [e] at hz
    exact (List.mem_append.mp hz).elim h.nl k.nl
section
variable {P : Program} {w : World} {K : PySem.W.Frag} {mg : Str → Option Value} {base : Heap} {T : Addr}
def spTurn (K : PySem.W.Frag) : Sp := fun vs H Q _ => ∃ (a l p : Addr) (ds : List Int) (xs : List Str) (b : Nat), vs = [.ref a, .ref p] ∧ Wd H a l ds ∧ H p = some (.lst (xs.map V.str)) ∧ xs ≠ [] ∧ xs.length ≤ 138 ∧ b ≤ 190 ∧ (∀ x ∈ xs, LnB b x) ∧
  ∀ (H' : Hp) (q : Addr) (ys : List Str), Kp a H H' → Wd H' a l ds → H' q = some (.lst (ys.map V.str)) → ys.length ≤ xs.length + 1 → (∀ y ∈ ys, LnB (2 * b + 5) y) → Q (.ref q) H'
theorem ok_turn {f fN fY : Addr} {fd fdN fdY : FuncData} (F : Fun K "_law_line_turned" "_law_line_turned" sLawLineTurned f fd) (B : BT mg)
    (GN : FnOk P w K mg base CX0 1 fN fdN ["w", "many"] spNext) (kN : PySem.W.keepIn K (.ref fN) = true) (bN : Binds K fdN ["w", "many"] []) (gN : mg "_law_next" = some (.ref fN))
    (GY : FnOk P w K mg base CX0 2 fY fdY ["w", "rows"] (spPick K)) (kY : PySem.W.keepIn K (.ref fY) = true) (bY : Binds K fdY ["w", "rows"] []) (gY : mg "_law_pick" = some (.ref fY)) :
    FnOk P w K mg base CX0 3 f fd ["w", "lines"] (spTurn K) := by
  refine F.ok scLawLineTurned (fun vs H Q E h => ?_) (fun cdv A outer s H vs Q E hr h => ?_)
  · obtain ⟨a, l, p, ds, xs, b, rfl, _⟩ := h
    rfl
  · obtain ⟨a, l, p, ds, xs, b, rfl, W, ep, hne, hlen, hb, hx, q⟩ := h
    have nd := scLawLineTurned.nd
    have pa : p ≠ a := W.at'.elim fun n h => ne_of ep h.2 (by intro z; cases z)
    have hpos : 0 < xs.length := List.length_pos_iff.mpr hne
    have hr2 : Room 2 _ := hr
    have hr1 : Room 1 _ := hr.mono (by decide)
    refine ⟨_, (pss_cons (ps_set (i := 2) nd rfl (.inl rfl) (pe_call GN hr1 (by rfl) gN kN bN .nil pass0 (pa_cons (pv 0) (pa_cons (pe_callB call_len_seq (by rfl) B.len PySem.boot_len (pa_cons (pv 1) pa_nil)) pa_nil))))
      (pss_cons (ps_set (i := 3) nd rfl (.inl rfl) (pe_call GN hr1 (by rfl) gN kN bN .nil pass0 (pa_cons (pv 0) (pa_cons (pe_callB call_len_seq (by rfl) B.len PySem.boot_len (pa_cons (pv 1) pa_nil)) pa_nil))))
      (pss_cons (ps_set (i := 4) nd rfl (.inl rfl) (pe_call GN hr1 (by rfl) gN kN bN .nil pass0 (pa_cons (pv 0) (pa_cons (pe_int) pa_nil))))
      (pss_cons (ps_if (pt_cmpR op_eq (pv 4) (pe_int) (nomark _)) (pss_one (ps_ret (pe_op op_cat (pe_slice sl_list (pv 1) po_none (po_some (pv 2))) (pe_slice sl_list (pv 1) (po_some (pe_op op_add (pv 2) (pe_int))) po_none)))) pss_nil)
      (pss_cons (ps_if (pt_cmpR op_eq (pv 4) (pe_int) (nomark _)) (pss_one (ps_ret (pe_op op_cat (pe_op op_cat (pe_slice sl_list (pv 1) po_none (po_some (pv 2))) (pe_lst (pa_cons (pe_ix ix_list (pv 1) (pv 2) (fun _ _ => rfl)) pa_nil))) (pe_slice sl_list (pv 1) (po_some (pv 2)) po_none)))) pss_nil)
      (pss_cons (ps_if (pt_cmpR op_eq (pv 4) (pe_int) (nomark _)) (pss_cons (ps_set (i := 5) nd rfl (.inl rfl) (pe_op op_cat (pe_slice sl_list (pv 1) po_none (po_some (pv 2))) (pe_slice sl_list (pv 1) (po_some (pe_op op_add (pv 2) (pe_int))) po_none)))
      (pss_one (ps_ret (pe_op op_cat (pe_op op_cat (pe_slice sl_list (pv 5) po_none (po_some (pv 3))) (pe_lst (pa_cons (pe_ix ix_list (pv 1) (pv 2) (fun _ _ => rfl)) pa_nil))) (pe_slice sl_list (pv 5) (po_some (pv 3)) po_none))))) pss_nil)
      (pss_cons (ps_set (i := 6) nd rfl (.inl rfl) (pe_split (pe_ix ix_list (pv 1) (pv 2) (fun _ _ => rfl)) (pe_str)))
      (pss_cons (ps_set (i := 7) nd rfl (.inl rfl) (pe_call GN hr1 (by rfl) gN kN bN .nil pass0 (pa_cons (pv 0) (pa_cons (pe_callB call_len_seq (by rfl) B.len PySem.boot_len (pa_cons (pv 6) pa_nil)) pa_nil))))
      (pss_cons (ps_set (i := 8) nd rfl (.inl rfl) (pe_call GY hr2 (by rfl) gY kY bY .nil pass0 (pa_cons (pv 0) (pa_cons (pe_lst (pa_cons (pe_op op_add_str (pe_str) (pe_ix ix_list (pv 6) (pv 7) (fun _ _ => rfl))) (pa_cons (pe_op op_add_str (pe_ix ix_list (pv 6) (pv 7) (fun _ _ => rfl)) (pe_str)) (pa_cons (pe_str) (pa_cons (pe_str) (pa_cons (pe_str) (pa_cons (pe_str) (pa_cons (pe_str) (pa_cons (pe_str) (pa_cons (pe_str) (pa_cons (pe_str) (pa_cons (pe_str) pa_nil)))))))))))) pa_nil))))
      (pss_one (ps_ret (pe_op op_cat (pe_op op_cat (pe_slice sl_list (pv 1) po_none (po_some (pv 2))) (pe_lst (pa_cons (pe_join (pe_str) (pe_op op_cat (pe_op op_cat (pe_slice sl_list (pv 6) po_none (po_some (pv 7))) (pe_lst (pa_cons (pv 8) pa_nil))) (pe_slice sl_list (pv 6) (po_some (pe_op op_add (pv 7) (pe_int))) po_none))) pa_nil))) (pe_slice sl_list (pv 1) (po_some (pe_op op_add (pv 2) (pe_int))) po_none))))))))))))), ?_⟩
    -- at, other, way
    refine ⟨_, rfl, _, rfl, p, _, rfl, .inl (SqL.of ep), a, l, ds, _, rfl, by rw [List.length_map]; omega, W, fun at0 H1 hat k1 _ W1 => ?_⟩
    rw [List.length_map] at hat
    replace hat : at0 < xs.length := by omega
    have e1 := k1 _ _ pa ep
    obtain ⟨y, ey⟩ : ∃ y, xs[at0]? = some y := ⟨_, List.getElem?_eq_getElem hat⟩
    have hyb := hx y (List.mem_of_getElem? ey)
    have eyV : (xs.map V.str)[at0]? = some (.str y) := by rw [List.getElem?_map, ey]; rfl
    refine ⟨_, rfl, _, rfl, p, _, rfl, .inl (SqL.of e1), a, l, ds, _, rfl, by rw [List.length_map]; omega, W1, fun ot H2 hot k2 _ W2 => ?_⟩
    rw [List.length_map] at hot
    replace hot : ot < xs.length := by omega
    have e2 := k2 _ _ pa e1
    refine ⟨_, rfl, a, l, ds, _, rfl, by decide, W2, fun wy H3 hwy k3 _ W3 => ?_⟩
    have e3 := k3 _ _ pa e2
    have k13 := k1.trans (k2.trans k3)
    have hx2 : ∀ z ∈ xs, LnB (2 * b + 5) z := fun z hz => (hx z hz).up (by omega)
    refine ⟨_, rfl, rfl, _, rfl, ?_⟩
    by_cases t0 : wy = 0
    · refine iteT' (decide_eq_true (congrArg V.int (by omega))) ?_
      refine two_te2 (i := at0) (j := at0 + 1) rfl e3 W3 pa (fun H1 R h => ⟨_, rfl, h⟩) (fun H1 R h => ⟨_, rfl, _, _, rfl, rfl, h⟩) (by omega) fun H' p' k' W' e' _ => ?_
      exact q H' p' _ (k13.trans k') W' e' (by rw [List.length_append, List.length_take, List.length_drop]; omega) (fun z hz => (List.mem_append.mp hz).elim (fun h => hx2 z (List.mem_of_mem_take h)) (fun h => hx2 z (List.mem_of_mem_drop h)))
    refine iteF' (decide_eq_false (fun z => t0 (by have := V.int.inj z; omega))) ?_
    refine ⟨_, rfl, rfl, _, rfl, ?_⟩
    by_cases t1 : wy = 1
    · refine iteT' (decide_eq_true (congrArg V.int (by omega))) ?_
      refine ins_te2 (Py := fun z => z = y) (i := at0) (j := at0) rfl e3 W3 pa (fun H1 R h => ⟨_, rfl, h⟩) (fun H1 R h => ⟨_, rfl, h⟩) (by omega) (fun H5 R k5 W5 c => ?_) fun H' p' z hz k' W' e' _ => ?_
      · exact ⟨_, rfl, _, rfl, p, _, _, _, rfl, rfl, SqL.of (k5 _ _ pa e3), atI_nat (j := at0) eyV, c y _ (Kp.refl _) W5 rfl⟩
      · subst hz
        refine q H' p' _ (k13.trans k') W' e' (by rw [List.length_append, List.length_append, List.length_take, List.length_drop]; show _ + 1 + _ ≤ _; omega) (fun u hu => ?_)
        rcases List.mem_append.mp hu with h | h
        · rcases List.mem_append.mp h with h | h
          · exact hx2 u (List.mem_of_mem_take h)
          · rw [List.mem_singleton.mp h]
            exact hyb.up (by omega)
        · exact hx2 u (List.mem_of_mem_drop h)
    refine iteF' (decide_eq_false (fun z => t1 (by have := V.int.inj z; omega))) ?_
    refine ⟨_, rfl, rfl, _, rfl, ?_⟩
    by_cases t2 : wy = 2
    · refine iteT' (decide_eq_true (congrArg V.int (by omega))) ?_
      refine two_te2 (i := at0) (j := at0 + 1) rfl e3 W3 pa (fun H1 R h => ⟨_, rfl, h⟩) (fun H1 R h => ⟨_, rfl, _, _, rfl, rfl, h⟩) (by omega) fun H6 p6 k6 W6 e6 a6 => ?_
      have lr : (xs.take at0 ++ xs.drop (at0 + 1)).length ≤ xs.length := by rw [List.length_append, List.length_take, List.length_drop]; omega
      have mr : ∀ z ∈ xs.take at0 ++ xs.drop (at0 + 1), LnB (2 * b + 5) z := fun z hz => (List.mem_append.mp hz).elim (fun h => hx2 z (List.mem_of_mem_take h)) (fun h => hx2 z (List.mem_of_mem_drop h))
      have ep6 := k6 _ _ pa e3
      refine ins_te2 (Py := fun z => z = y) (i := ot) (j := ot) rfl e6 W6 a6 (fun H1 R h => ⟨_, rfl, h⟩) (fun H1 R h => ⟨_, rfl, h⟩) (by omega) (fun H7 R k7 W7 c => ?_) fun H' p' z hz k' W' e' _ => ?_
      · exact ⟨_, rfl, _, rfl, p, _, _, _, rfl, rfl, SqL.of (k7 _ _ pa ep6), atI_nat (j := at0) eyV, c y _ (Kp.refl _) W7 rfl⟩
      · subst hz
        refine q H' p' _ (k13.trans (k6.trans k')) W' e' (by rw [List.length_append, List.length_append, List.length_take, List.length_drop]; show _ + 1 + _ ≤ _; omega) (fun u hu => ?_)
        rcases List.mem_append.mp hu with h | h
        · rcases List.mem_append.mp h with h | h
          · exact mr u (List.mem_of_mem_take h)
          · rw [List.mem_singleton.mp h]
            exact hyb.up (by omega)
        · exact mr u (List.mem_of_mem_drop h)
    refine iteF' (decide_eq_false (fun z => t2 (by have := V.int.inj z; omega))) ?_
    -- a part
    refine ⟨_, rfl, _, rfl, p, _, _, _, rfl, rfl, SqL.of e3, atI_nat (j := at0) eyV, ⟨y, rfl⟩, y, Str.ofString " ", rfl, rfl, rfl, (by show y.cps.size + 2 ≤ sizeLine; have := hyb.sz; rw [sizeLine_eq]; omega), fun pr npr => ?_⟩
    have k4 := k13.trans (Kp.new npr (o := .lst ((Txt.split y (Str.ofString " ")).map V.str)))
    have W4 := W3.new npr (o := .lst ((Txt.split y (Str.ofString " ")).map V.str))
    have e4 := (Kp.new npr (o := .lst ((Txt.split y (Str.ofString " ")).map V.str)) (a := a)) _ _ pa e3
    have er : (upd H3 pr (.lst ((Txt.split y (Str.ofString " ")).map V.str))) pr = some (.lst ((spS y).map V.str)) := upd_same
    have pra := W3.fresh npr
    generalize upd H3 pr (.lst ((Txt.split y (Str.ofString " ")).map V.str)) = H4 at k4 W4 e4 er
    have hsp : 0 < (spS y).length := List.length_pos_iff.mpr (spS_ne y)
    refine ⟨_, rfl, _, rfl, pr, _, rfl, .inl (SqL.of er), a, l, ds, _, rfl, by rw [List.length_map]; omega, W4, fun k0 H5 hk k5 _ W5 => ?_⟩
    rw [List.length_map] at hk
    replace hk : k0 < (spS y).length := by omega
    have e5 := k5 _ _ pa e4
    replace er := k5 _ _ pra er
    replace k5 := k4.trans k5
    obtain ⟨z, ez⟩ : ∃ z, (spS y)[k0]? = some z := ⟨_, List.getElem?_eq_getElem hk⟩
    have ezV : ((spS y).map V.str)[k0]? = some (.str z) := by rw [List.getElem?_map, ez]; rfl
    obtain ⟨lsp, psp⟩ := hyb.parts2 (by omega)
    have hz := psp z (List.mem_of_getElem? ez)
    have lz : z.length ≤ 190 := Nat.le_trans hz.sz hb
    have lsp2 : (spS y).length ≤ 191 := by
      have := spS_len y
      have := hyb.sz
      omega
    have l0 : (Str.ofString "0").length = 1 := by decide +kernel
    have l9 : (Str.ofString "9").length = 1 := by decide +kernel
    refine ⟨_, rfl, _, rfl, _, rfl, pr, _, _, _, rfl, rfl, SqL.of er, atI_nat (j := k0) ezV, "0", z, rfl, rfl, by rw [sizeLine_eq]; show (Str.ofString "0").length + _ ≤ _; omega, _, rfl, _, rfl, pr, _, _, _, rfl, rfl, SqL.of er, atI_nat (j := k0) ezV, z, "9", rfl, rfl, by rw [sizeLine_eq]; show _ + (Str.ofString "9").length ≤ _; omega, line200 (show 11 ≤ 1000 by decide), fun pk npk => ?_⟩
    refine ⟨a, l, pk, ds, _, .str (Str.ofString "0" ++ z) :: .str (z ++ Str.ofString "9") :: wordsT.map .str, rfl, W5.new npk, upd_same, .cons (.str _) (.cons (.str _) (dps_ofs wordsT)), rfl, Nat.succ_pos _, fun H6 v d k6 W6 dv hm => ?_⟩
    obtain ⟨s0, rfl, hs0⟩ : ∃ s0, d = .str s0 ∧ LnB (b + 5) s0 := by
      rcases List.mem_cons.mp hm with rfl | hm
      · exact ⟨_, rfl, (LnB.app (b := 1) (c := b) ⟨by decide +kernel, by decide +kernel, by decide +kernel⟩ hz).up (by omega)⟩
      rcases List.mem_cons.mp hm with rfl | hm
      · exact ⟨_, rfl, (LnB.app (b := b) (c := 1) hz ⟨by decide +kernel, by decide +kernel, by decide +kernel⟩).up (by omega)⟩
      obtain ⟨s0, h0, rfl⟩ := List.mem_map.mp hm
      obtain ⟨q1, q2⟩ := wordsT_ln s0 h0
      exact ⟨s0, rfl, by omega, fun c hc => (q2 c hc).1, fun hc => (q2 10 hc).2 rfl⟩
    cases dv
    have kk := k5.trans ((Kp.new npk).trans k6)
    have e6 := k6 _ _ pa ((Kp.new npk (a := a)) _ _ pa e5)
    have er6 := k6 _ _ pra ((Kp.new npk (a := a)) _ _ pra er)
    refine ins_te2 (Py := fun u => LnB (b + (b + 5)) u) (i := at0) (j := at0 + 1) rfl e6 W6 pa (fun H1 R h => ⟨_, rfl, h⟩) (fun H1 R h => ⟨_, rfl, _, _, rfl, rfl, h⟩) (by omega) (fun H7 R k7 W7 c => ?_) fun H' p' u hu k' W' e' _ => ?_
    · refine ⟨⟨_, rfl⟩, ?_⟩
      refine ins_te2 (Py := fun u => u = s0) (i := k0) (j := k0 + 1) rfl (k7 _ _ pra er6) W7 pra (fun H1 R h => ⟨_, rfl, h⟩) (fun H1 R h => ⟨_, rfl, _, _, rfl, rfl, h⟩) (by omega) (fun H8 R8 k8 W8 c8 => ⟨_, rfl, c8 s0 _ (Kp.refl _) W8 rfl⟩) fun H8 p8 u hu k8 W8 e8 _ => ?_
      subst hu
      have eS : (spS y).take k0 ++ [u] ++ (spS y).drop (k0 + 1) = (spS y).set k0 u := by
        rw [List.set_eq_take_append_cons_drop, if_pos hk, List.append_assoc]
        rfl
      rw [eS] at e8
      refine ⟨Str.ofString " ", p8, _, rfl, rfl, .inl (SqL.of e8), ?_, c _ _ k8 W8 (join_set hyb hs0)⟩
      have h1 := len_sum (xs := (spS y).set k0 u) (b := 200) fun v hv => by
        rcases List.mem_or_eq_of_mem_set hv with h | h
        · exact Nat.le_trans (psp v h).sz (by omega)
        · rw [h]
          exact Nat.le_trans hs0.sz (by omega)
      have h0 : (Str.ofString " ").length = 1 := by decide +kernel
      rw [List.length_set] at h1 ⊢
      rw [h0]
      omega
    · refine q H' p' _ (kk.trans k') W' e' (by rw [List.length_append, List.length_append, List.length_take, List.length_drop]; show _ + 1 + _ ≤ _; omega) (fun v hv => ?_)
      rcases List.mem_append.mp hv with h | h
      · rcases List.mem_append.mp h with h | h
        · exact hx2 v (List.mem_of_mem_take h)
        · rw [List.mem_singleton.mp h]
          exact hu.up (by omega)
      · exact hx2 v (List.mem_of_mem_drop h)
end
end C1

/-! A text bent, by the law. -/
namespace C1
open PySem PySem.Spec PyProof.Rows L2 SX
open K0 (Cs digs isNum)
abbrev sLawBent : Stmt := topS 34
theorem scLawBent : FnScope ["w", "text", "way", "at", "lines"] ["w", "text"] (defScope sLawBent) := ⟨rfl, rfl, rfl, by decide +kernel, rfl, by decide +kernel, by decide +kernel⟩
abbrev NLB : List Str := ["w", "text", "way", "at", "lines"]
theorem cs_to (z : Str) (k : Nat) : cs (cutS z none (some ((k : Nat) : Int))) = (cs z).take k := by
  show ((((z.cps.toList.drop (HT.sIx z.length 0 none)).take (HT.sIx z.length z.length (some ((k : Nat) : Int)) - HT.sIx z.length 0 none)).toArray).toList) = z.cps.toList.take k
  rw [HT.sIx_none, HT.sIx_nat, List.drop_zero, Nat.sub_zero, List.toList_toArray]
  have : z.cps.toList.length = z.length := Array.length_toList
  by_cases h : k ≤ z.length
  · rw [Nat.min_eq_left h]
  · rw [Nat.min_eq_right (by omega), List.take_of_length_le (by omega), List.take_of_length_le (by omega)]
theorem cs_from (z : Str) (k : Nat) : cs (cutS z (some ((k : Nat) : Int)) none) = (cs z).drop k := by
  show ((((z.cps.toList.drop (HT.sIx z.length 0 (some ((k : Nat) : Int)))).take (HT.sIx z.length z.length none - HT.sIx z.length 0 (some ((k : Nat) : Int)))).toArray).toList) = z.cps.toList.drop k
  rw [HT.sIx_none, HT.sIx_nat, List.toList_toArray]
  have : z.cps.toList.length = z.length := Array.length_toList
  rw [List.take_of_length_le (by rw [List.length_drop]; omega)]
  by_cases h : k ≤ z.length
  · rw [Nat.min_eq_left h]
  · rw [Nat.min_eq_right (by omega), List.drop_of_length_le (by omega), List.drop_of_length_le (by omega)]
theorem cs_app (x y : Str) : cs (x ++ y) = cs x ++ cs y := app_cs x y
theorem cutS_len (z : Str) (lo hi : Option Int) : (cutS z lo hi).length ≤ z.length := cutS_length z lo hi
theorem txl_end {ys : List Str} {b n : Nat} (h : ∀ y ∈ ys, LnB b y) (hl : ys.length + 1 ≤ n) (hn : 2 ≤ n) : TxL b n (Txt.join nlS ys ++ nlS) := by
  cases ys with
  | nil =>
    have e : Txt.join nlS [] ++ nlS = Txt.join nlS [Str.ofString "", Str.ofString ""] := by decide +kernel
    rw [e]
    refine txl_join (by simp) (fun y hy => ?_) hn
    simp only [List.mem_cons, List.mem_nil_iff, or_false, or_self] at hy
    rw [hy]
    exact ln_nil.up (Nat.zero_le _)
  | cons y r =>
    rw [text_join (by simp)]
    exact txl_text h hl
def signT : List Str := ["0", "1", " ", "\n", "x", "7", "a", "3"]
theorem signT_ok : ∀ s ∈ signT, (cs s).length = 1 ∧ ∀ c ∈ cs s, c < 128 := by decide +kernel
theorem str_pos {x : Str} (h : x ≠ Str.ofString "") : 0 < x.length := by
  cases e : x.length with
  | zero =>
    refine absurd (TL.ext_tl ?_) h
    have : x.cps.toList = [] := List.eq_nil_of_length_eq_zero (by rw [Array.length_toList]; exact e)
    show x.cps.toList = (Str.ofString "").cps.toList
    rw [this]
    rfl
  | succ n => omega
section
variable {P : Program} {w : World} {K : PySem.W.Frag} {mg : Str → Option Value} {base : Heap} {T : Addr}
def spBent (K : PySem.W.Frag) : Sp := fun vs H Q _ => ∃ (a l : Addr) (ds : List Int) (x : Str) (b n : Nat), vs = [.ref a, .str x] ∧ Wd H a l ds ∧ x ≠ Str.ofString "" ∧ TxL b n x ∧ b ≤ 190 ∧ n ≤ 138 ∧
  ∀ (H' : Hp) (y : Str), Kp a H H' → Wd H' a l ds → TxL (2 * b + 5) (n + 2) y → Q (.str y) H'
theorem ok_bent {f fN fY fL : Addr} {fd fdN fdY fdL : FuncData} (F : Fun K "_law_bent" "_law_bent" sLawBent f fd) (B : BT mg)
    (GN : FnOk P w K mg base CX0 1 fN fdN ["w", "many"] spNext) (kN : PySem.W.keepIn K (.ref fN) = true) (bN : Binds K fdN ["w", "many"] []) (gN : mg "_law_next" = some (.ref fN))
    (GY : FnOk P w K mg base CX0 2 fY fdY ["w", "rows"] (spPick K)) (kY : PySem.W.keepIn K (.ref fY) = true) (bY : Binds K fdY ["w", "rows"] []) (gY : mg "_law_pick" = some (.ref fY))
    (GL : FnOk P w K mg base CX0 3 fL fdL ["w", "lines"] (spTurn K)) (kL : PySem.W.keepIn K (.ref fL) = true) (bL : Binds K fdL ["w", "lines"] []) (gL : mg "_law_line_turned" = some (.ref fL)) :
    FnOk P w K mg base CX0 4 f fd ["w", "text"] (spBent K) := by
  refine F.ok scLawBent (fun vs H Q E h => ?_) (fun cdv A outer s H vs Q E hr h => ?_)
  · obtain ⟨a, l, ds, x, b, n, rfl, _⟩ := h
    rfl
  · obtain ⟨a, l, ds, x, b, n, rfl, W, hne, hx, hb, hn, q⟩ := h
    have nd := scLawBent.nd
    have hr3 : Room 3 _ := hr
    have hr2 : Room 2 _ := hr.mono (by decide)
    have hr1 : Room 1 _ := hr.mono (by decide)
    refine ⟨_, (pss_cons (ps_set (i := 2) nd rfl (.inl rfl) (pe_call GN hr1 (by rfl) gN kN bN .nil pass0 (pa_cons (pv 0) (pa_cons (pe_int) pa_nil))))
      (pss_cons (ps_set (i := 3) nd rfl (.inl rfl) (pe_call GN hr1 (by rfl) gN kN bN .nil pass0 (pa_cons (pv 0) (pa_cons (pe_callB call_len_str (by rfl) B.len PySem.boot_len (pa_cons (pv 1) pa_nil)) pa_nil))))
      (pss_cons (ps_set (i := 4) nd rfl (.inl rfl) (pe_split (pv 1) (pe_str)))
      (C8.pss_cut (ps_if (PW.pt (pw_and (pt_cmpR op_eq (pe_ix ix_list (pv 4) (pe_op op_sub (pe_callB call_len_seq (by rfl) B.len PySem.boot_len (pa_cons (pv 4) pa_nil)) (pe_int)) (fun _ _ => rfl)) (pe_str) (nomark _)) (pw_and1 (pt_cmpR op_gt (pe_callB call_len_seq (by rfl) B.len PySem.boot_len (pa_cons (pv 4) pa_nil)) (pe_int) (nomark _))))) (pss_one (ps_set (i := 4) nd rfl (.inl rfl) (pe_slice sl_list (pv 4) po_none (po_some (pe_un un_neg pe_int))))) pss_nil)
      (pss_cons (ps_if (pt_cmpR op_lt (pv 2) (pe_int) (nomark _)) (pss_one (ps_ret (pe_op op_add_str (pe_join (pe_str) (pe_call GL hr3 (by rfl) gL kL bL .nil pass0 (pa_cons (pv 0) (pa_cons (pv 4) pa_nil)))) (pe_str)))) pss_nil)
      (pss_cons (ps_if (pt_cmpR op_eq (pv 2) (pe_int) (nomark _)) (pss_one (ps_ret (pe_op op_add_str (pe_slice sl_str (pv 1) po_none (po_some (pv 3))) (pe_slice sl_str (pv 1) (po_some (pe_op op_add (pv 3) (pe_int))) po_none)))) pss_nil)
      (pss_cons (ps_if (pt_cmpR op_eq (pv 2) (pe_int) (nomark _)) (pss_one (ps_ret (pe_op op_add_str (pe_op op_add_str (pe_slice sl_str (pv 1) po_none (po_some (pv 3))) (pe_call GY hr2 (by rfl) gY kY bY .nil pass0 (pa_cons (pv 0) (pa_cons (pe_lst (pa_cons (pe_str) (pa_cons (pe_str) (pa_cons (pe_str) (pa_cons (pe_str) (pa_cons (pe_str) (pa_cons (pe_str) pa_nil))))))) pa_nil)))) (pe_slice sl_str (pv 1) (po_some (pv 3)) po_none)))) pss_nil)
      (pss_cons (ps_if (pt_cmpR op_eq (pv 2) (pe_int) (nomark _)) (pss_one (ps_ret (pe_op op_add_str (pe_op op_add_str (pe_slice sl_str (pv 1) po_none (po_some (pv 3))) (pe_call GY hr2 (by rfl) gY kY bY .nil pass0 (pa_cons (pv 0) (pa_cons (pe_lst (pa_cons (pe_str) (pa_cons (pe_str) (pa_cons (pe_str) (pa_cons (pe_str) (pa_cons (pe_str) (pa_cons (pe_str) pa_nil))))))) pa_nil)))) (pe_slice sl_str (pv 1) (po_some (pe_op op_add (pv 3) (pe_int))) po_none)))) pss_nil)
      (pss_one (ps_ret (pe_slice sl_str (pv 1) po_none (po_some (pv 3))))))))))))), ?_⟩
    have hpos := str_pos hne
    have hsz := hx.size
    have hsz2 : x.length ≤ 138 * (190 + 1) := Nat.le_trans hsz (Nat.mul_le_mul hn (by omega))
    obtain ⟨hln, hls⟩ := hx.lines
    have hp := split_pos x
    refine ⟨_, rfl, a, l, ds, _, rfl, by decide, W, fun wy H1 hwy k1 _ W1 => ?_⟩
    refine ⟨_, rfl, _, rfl, x, rfl, by rw [sizeLine_eq]; omega, a, l, ds, _, rfl, by omega, W1, fun at0 H2 hat k2 _ W2 => ?_⟩
    replace hat : at0 < x.length := by omega
    refine ⟨_, rfl, ⟨x, rfl⟩, x, nlS, rfl, rfl, rfl, (by show x.length + 2 ≤ sizeLine; rw [sizeLine_eq]; omega), fun p np => ?_⟩
    have k3 := (k1.trans k2).trans (Kp.new np (o := .lst ((Txt.split x nlS).map V.str)))
    have W3 := W2.new np (o := .lst ((Txt.split x nlS).map V.str))
    have eP : (upd H2 p (.lst ((Txt.split x nlS).map V.str))) p = some (.lst ((splitL x).map V.str)) := upd_same
    have pa := W2.fresh np
    generalize upd H2 p (.lst ((Txt.split x nlS).map V.str)) = H3 at k3 W3 eP
    have hne2 : splitL x ≠ [] := fun z => by rw [z] at hp; cases hp
    have eL : (splitL x).getLast? = some ((splitL x).getLast hne2) := List.getLast?_eq_some_getLast hne2
    have hlast : atI ((splitL x).map V.str) (((splitL x).length : Int) - 1) = some (.str ((splitL x).getLast hne2)) := by
      rw [show ((splitL x).length : Int) - 1 = (((splitL x).length - 1 : Nat) : Int) by omega]
      exact atI_nat (by rw [List.getElem?_map, ← List.getLast?_eq_getElem?, eL]; rfl)
    refine ⟨fun σ H' => ∃ (p' : Addr) (ys : List Str), σ = [some (.ref a), some (.str x), some (iV wy), some (iV at0), some (.ref p')] ∧ Kp a H H' ∧ Wd H' a l ds ∧ H' p' = some (.lst (ys.map V.str)) ∧ ys ≠ [] ∧ ys.length ≤ n ∧ ∀ y ∈ ys, LnB b y, ?_, ?_⟩
    · refine ⟨_, rfl, _, rfl, p, _, rfl, .inl (SqL.of eP), _, _, rfl, rfl, ?_⟩
      rw [List.length_map]
      refine ⟨p, _, _, _, rfl, rfl, SqL.of eP, hlast, rfl, _, rfl, ?_⟩
      by_cases hL : (splitL x).getLast hne2 = Str.ofString ""
      · refine iteT' (decide_eq_true (by rw [hL])) ?_
        refine ⟨_, rfl, p, _, rfl, .inl (SqL.of eP), _, _, rfl, rfl, _, rfl, ?_⟩
        rw [List.length_map]
        by_cases h1 : 1 < (splitL x).length
        · refine iteT' (decide_eq_true (by omega)) ?_
          refine ⟨_, rfl, _, rfl, _, rfl, p, _, rfl, SqL.of eP, fun r nr => ?_⟩
          have k4 := k3.trans (Kp.new nr (o := .lst (cutV ((splitL x).map V.str) none (some (-1)))))
          have W4 := W3.new nr (o := .lst (cutV ((splitL x).map V.str) none (some (-1))))
          have er : (upd H3 r (.lst (cutV ((splitL x).map V.str) none (some (-1))))) r = some (.lst ((splitL x).dropLast.map V.str)) := by
            refine upd_same.trans (congrArg (fun l => some (HO.lst l)) ?_)
            show ((splitL x).map V.str |>.drop (HT.sIx ((splitL x).map V.str).length 0 none)).take (HT.sIx ((splitL x).map V.str).length ((splitL x).map V.str).length (some (-1)) - HT.sIx ((splitL x).map V.str).length 0 none) = _
            rw [HT.sIx_none, List.drop_zero, List.length_map, Nat.sub_zero]
            rw [show HT.sIx (splitL x).length (splitL x).length (some (-1)) = (splitL x).length - 1 by
              show ((-1 : Int) + ((splitL x).length : Int)).toNat = _
              omega]
            rw [List.dropLast_eq_take, List.map_take]
          exact ⟨r, (splitL x).dropLast, rfl, k4, W4, er, (fun z => by have := congrArg List.length z; rw [List.length_dropLast] at this; simp at this; omega), by rw [List.length_dropLast]; omega, fun y hy => hls y (List.dropLast_subset _ hy)⟩
        · refine iteF' (decide_eq_false (by omega)) ?_
          exact ⟨p, splitL x, rfl, k3, W3, eP, hne2, hln, hls⟩
      · refine iteF' (decide_eq_false (fun z => hL (V.str.inj z))) ?_
        exact ⟨p, splitL x, rfl, k3, W3, eP, hne2, hln, hls⟩
    rintro σ H' ⟨p', ys, rfl, k4, W4, ep', hys, lys, hy⟩
    have lcs : (cs x).length = x.length := Array.length_toList
    have edit : ∀ {y : Str} {m : List Nat} {j : Nat}, m.length ≤ 1 → (∀ c ∈ m, c < 128) → cs y = (cs x).take at0 ++ (m ++ (cs x).drop j) → at0 ≤ j → TxL (2 * b + 5) (n + 2) y := fun hm ha e hj => (hx.edit hm ha e hj).up (by omega) (by omega)
    have sl := cutS_len x
    refine ⟨_, rfl, _, _, rfl, rfl, _, rfl, ?_⟩
    by_cases c4 : wy < 4
    · refine iteT' (decide_eq_true (by omega)) ?_
      refine ⟨⟨_, rfl⟩, _, rfl, _, rfl, a, l, p', ds, ys, b, rfl, W4, ep', hys, by omega, hb, hy, fun H5 q5 zs k5 W5 e5 lz hz => ?_⟩
      refine ⟨nlS, q5, zs, rfl, rfl, .inl (SqL.of e5), ?_, _, nlS, rfl, rfl, ?_, q H5 _ (k4.trans k5) W5 (txl_end hz (by omega) (by omega))⟩
      · have h1 := len_sum (xs := zs) (b := 385) fun z h => Nat.le_trans (hz z h).sz (by omega)
        have h0 : nlS.length = 1 := by decide +kernel
        rw [h0]
        omega
      · have h1 := join_size (y := nlS) (ps := zs) (b := 385) fun z h => Nat.le_trans (hz z h).sz (by omega)
        have h0 : nlS.length = 1 := by decide +kernel
        have h2 : zs.length * (385 + nlS.cps.size) ≤ 139 * (385 + 1) := Nat.mul_le_mul (by omega) (by show 385 + nlS.length ≤ _; omega)
        rw [sizeLine_eq]
        show (Txt.join nlS zs).cps.size + nlS.length ≤ _
        omega
    refine iteF' (decide_eq_false (by omega)) ?_
    refine ⟨_, rfl, rfl, _, rfl, ?_⟩
    by_cases c5 : wy = 4
    · refine iteT' (decide_eq_true (congrArg V.int (by omega))) ?_
      refine ⟨_, rfl, _, rfl, _, rfl, x, rfl, by rw [sizeLine_eq]; omega, _, rfl, _, rfl, _, _, rfl, rfl, _, rfl, x, rfl, by rw [sizeLine_eq]; omega, _, _, rfl, rfl, ?_, q H' _ k4 W4 (edit (m := []) (j := at0 + 1) (by decide) (fun c h => by cases h) ?_ (by omega))⟩
      · have h1 := sl none (some ((at0 : Nat) : Int))
        have h2 := sl (some (((at0 : Nat) : Int) + 1)) none
        rw [sizeLine_eq]
        omega
      · rw [cs_app, cs_to, show ((at0 : Nat) : Int) + 1 = ((at0 + 1 : Nat) : Int) by omega, cs_from]
        rfl
    refine iteF' (decide_eq_false (fun z => c5 (by have := V.int.inj z; omega))) ?_
    have pickT : ∀ {d : PyData} {v : V} {H5 : Hp}, d ∈ signT.map PyData.str → Dp K H5 v d → ∃ s0, v = .str s0 ∧ (cs s0).length = 1 ∧ ∀ c ∈ cs s0, c < 128 := fun {d v H5} hm dv => by
      obtain ⟨s0, h0, rfl⟩ := List.mem_map.mp hm
      cases dv
      exact ⟨s0, rfl, signT_ok s0 h0⟩
    have subs : ∀ {ws : List Str}, (∀ u ∈ ws, u ∈ signT) → ∀ {d : PyData}, d ∈ ws.map PyData.str → d ∈ signT.map PyData.str := fun {ws} h {d} hd => by
      obtain ⟨u, hu, rfl⟩ := List.mem_map.mp hd
      exact List.mem_map.mpr ⟨u, h u hu, rfl⟩
    have h1 := sl none (some ((at0 : Nat) : Int))
    refine ⟨_, rfl, rfl, _, rfl, ?_⟩
    by_cases c6 : wy = 5
    · refine iteT' (decide_eq_true (congrArg V.int (by omega))) ?_
      refine ⟨_, rfl, _, rfl, _, rfl, x, rfl, by rw [sizeLine_eq]; omega, _, rfl, line200 (show 6 ≤ 1000 by decide), fun pk npk => ?_⟩
      refine ⟨a, l, pk, ds, _, (["0", "1", " ", "\n", "x", "7"] : List Str).map .str, rfl, W4.new npk, upd_same, dps_ofs (["0", "1", " ", "\n", "x", "7"] : List Str), rfl, Nat.succ_pos _, fun H5 v d k5 W5 dv hm => ?_⟩
      obtain ⟨s0, rfl, ls, hs⟩ := pickT (subs (by decide +kernel) hm) dv
      have ls2 : s0.length = 1 := by rw [← ls]; exact Array.length_toList.symm
      have h2 := sl (some ((at0 : Nat) : Int)) none
      refine ⟨_, s0, rfl, rfl, by rw [sizeLine_eq]; omega, _, rfl, _, rfl, _, rfl, x, rfl, by rw [sizeLine_eq]; omega, _, _, rfl, rfl, ?_, q H5 _ (k4.trans ((Kp.new npk).trans k5)) W5 (edit (m := cs s0) (j := at0) (by omega) hs ?_ (Nat.le_refl _))⟩
      · rw [sizeLine_eq, app_len]
        omega
      · rw [cs_app, cs_app, cs_to, cs_from, List.append_assoc]
    refine iteF' (decide_eq_false (fun z => c6 (by have := V.int.inj z; omega))) ?_
    refine ⟨_, rfl, rfl, _, rfl, ?_⟩
    by_cases c7 : wy = 6
    · refine iteT' (decide_eq_true (congrArg V.int (by omega))) ?_
      refine ⟨_, rfl, _, rfl, _, rfl, x, rfl, by rw [sizeLine_eq]; omega, _, rfl, line200 (show 6 ≤ 1000 by decide), fun pk npk => ?_⟩
      refine ⟨a, l, pk, ds, _, (["0", "1", " ", "\n", "a", "3"] : List Str).map .str, rfl, W4.new npk, upd_same, dps_ofs (["0", "1", " ", "\n", "a", "3"] : List Str), rfl, Nat.succ_pos _, fun H5 v d k5 W5 dv hm => ?_⟩
      obtain ⟨s0, rfl, ls, hs⟩ := pickT (subs (by decide +kernel) hm) dv
      have ls2 : s0.length = 1 := by rw [← ls]; exact Array.length_toList.symm
      have h2 := sl (some (((at0 : Nat) : Int) + 1)) none
      refine ⟨_, s0, rfl, rfl, by rw [sizeLine_eq]; omega, _, rfl, _, rfl, _, _, rfl, rfl, _, rfl, x, rfl, by rw [sizeLine_eq]; omega, _, _, rfl, rfl, ?_, q H5 _ (k4.trans ((Kp.new npk).trans k5)) W5 (edit (m := cs s0) (j := at0 + 1) (by omega) hs ?_ (by omega))⟩
      · rw [sizeLine_eq, app_len]
        omega
      · rw [cs_app, cs_app, cs_to, show ((at0 : Nat) : Int) + 1 = ((at0 + 1 : Nat) : Int) by omega, cs_from, List.append_assoc]
    refine iteF' (decide_eq_false (fun z => c7 (by have := V.int.inj z; omega))) ?_
    refine ⟨_, rfl, _, rfl, _, rfl, x, rfl, by rw [sizeLine_eq]; omega, q H' _ k4 W4 (edit (m := []) (j := (cs x).length + at0) (by decide) (fun c h => by cases h) ?_ (by omega))⟩
    rw [cs_to, List.drop_of_length_le (by omega)]
    simp
end
end C1

/-! A net's text, read back. -/
namespace C1
open PySem PySem.Spec PyProof.Rows L2 SX
open K0 (Cs digs isNum)
theorem num_back {n : Nat} (h : n < 1000000000) : numB (pS (iD n)) = true ∧ numV (pS (iD n)) = n := by
  have e : cs (pS (iD n)) = TL.numL n := TL.tl_num n
  unfold numB numV
  rw [e]
  refine ⟨?_, TL.numL_val n⟩
  rw [K0.num_isNum]
theorem nums_back2 : ∀ ns : List Nat, (∀ n ∈ ns, n < 1000000000) → ((ns.map iD).map pS).all numB = true ∧ ((ns.map iD).map pS).map numV = ns
  | [], _ => ⟨rfl, rfl⟩
  | n :: ns, h => by
    obtain ⟨a, b⟩ := nums_back2 ns fun x hx => h x (List.mem_cons_of_mem _ hx)
    obtain ⟨c, d⟩ := num_back (h n (List.mem_cons_self ..))
    refine ⟨?_, ?_⟩
    · show (numB (pS (iD n)) && _) = true
      rw [c, a]
      rfl
    · show numV (pS (iD n)) :: _ = _
      rw [d, b]
theorem ln_back {wd : Str} {ns : List Nat} (ok : LpOk (.str wd :: ns.map iD)) (h : ∀ n ∈ ns, n < 1000000000) : lnN wd ns.length (lineT (.str wd :: ns.map iD)) = some ns := by
  obtain ⟨a, b⟩ := nums_back2 ns h
  rw [lnN_eq (w := wd) (rest := (ns.map iD).map pS) (by rw [ok.spl]; rfl), if_pos ⟨rfl, by rw [List.length_map, List.length_map], a⟩, b]
abbrev Tr : Type := (Str × Nat) × List Nat
def lineOf (t : Tr) : Str := lineT (.str t.1.1 :: t.2.map iD)
theorem read_back : ∀ (ts : List Tr) (k : Nat) (acc : List (List Nat)), (∀ t ∈ ts, lnN t.1.1 t.1.2 (lineOf t) = some t.2) → readN k acc (ts.map (fun t : Tr => t.1)) (ts.map lineOf) = .inr (acc ++ ts.map (fun t : Tr => t.2))
  | [], k, acc, _ => by
    rw [List.map_nil, List.map_nil, List.map_nil, List.append_nil]
    rfl
  | t :: ts, k, acc, h => by
    have e := h t (List.mem_cons_self ..)
    have ih := read_back ts (k + 1) (acc ++ [t.2]) fun x hx => h x (List.mem_cons_of_mem _ hx)
    show (match lnN t.1.1 t.1.2 (lineOf t) with
      | none => Sum.inl (k + 2)
      | some ns => readN (k + 1) (acc ++ [ns]) (ts.map (fun t : Tr => t.1)) (ts.map lineOf)) = _
    rw [e]
    refine Eq.trans ih ?_
    rw [List.append_assoc]
    rfl
def trN (n : Net) : List Tr := (n.firsts.zip n.nexts).map (fun p => ((("latch" : Str), 2), [p.1, p.2])) ++ (n.outs.map (fun o => ((("told" : Str), 1), [o])) ++ n.ands.map (fun p => ((("and" : Str), 2), [p.1, p.2])))
theorem nLines_tr (n : Net) : nLines n = lineT [.str "net", iD n.firsts.length, iD n.outs.length, iD n.ands.length] :: (trN n).map lineOf := by
  unfold nLines nParts trN
  simp only [List.map_cons, List.map_append, List.map_map]
  rfl
theorem tr_forms {n : Net} (h : n.nexts.length = n.firsts.length) : (trN n).map (fun t : Tr => t.1) = formsN n.firsts.length n.outs.length n.ands.length := by
  unfold trN formsN
  rw [List.map_append, List.map_append, List.map_map, List.map_map, List.map_map, List.append_assoc]
  have e1 : (n.firsts.zip n.nexts).length = n.firsts.length := by rw [List.length_zip, h, Nat.min_self]
  have key : ∀ {α : Type} (l : List α) (c : Str × Nat) (f : α → Str × Nat), (∀ x, f x = c) → l.map f = List.replicate l.length c := fun l c f hf => by
    rw [← List.map_const']
    exact List.map_congr_left fun x _ => hf x
  have k1 : (n.firsts.zip n.nexts).map ((fun t : Tr => t.1) ∘ fun p => ((("latch" : Str), 2), [p.1, p.2])) = List.replicate (n.firsts.zip n.nexts).length (("latch" : Str), 2) := key _ _ _ (fun _ => rfl)
  have k2 : n.outs.map ((fun t : Tr => t.1) ∘ fun o => ((("told" : Str), 1), [o])) = List.replicate n.outs.length (("told" : Str), 1) := key _ _ _ (fun _ => rfl)
  have k3 : n.ands.map ((fun t : Tr => t.1) ∘ fun p => ((("and" : Str), 2), [p.1, p.2])) = List.replicate n.ands.length (("and" : Str), 2) := key _ _ _ (fun _ => rfl)
  rw [k1, k2, k3, e1]
theorem tr_net {n : Net} (h : n.nexts.length = n.firsts.length) : netD n.firsts.length n.outs.length ((trN n).map (fun t : Tr => t.2)) = n.d := by
  have e1 : ((n.firsts.zip n.nexts).map fun p => [p.1, p.2]).length = n.firsts.length := by rw [List.length_map, List.length_zip, h, Nat.min_self]
  have er : (trN n).map (fun t : Tr => t.2) = ((n.firsts.zip n.nexts).map fun p => [p.1, p.2]) ++ ((n.outs.map fun o => [o]) ++ n.ands.map fun p => [p.1, p.2]) := by
    unfold trN
    simp only [List.map_append, List.map_map]
    rfl
  have e2 : (n.outs.map fun o => [o]).length = n.outs.length := List.length_map _
  rw [er]
  generalize hR1 : ((n.firsts.zip n.nexts).map fun p => [p.1, p.2]) = R1 at e1
  generalize hR2 : (n.outs.map fun o => [o]) = R2 at e2
  generalize hR3 : (n.ands.map fun p => [p.1, p.2]) = R3
  have t1 : (R1 ++ (R2 ++ R3)).take n.firsts.length = R1 := by rw [← e1, List.take_left]
  have t2 : (R1 ++ (R2 ++ R3)).drop n.firsts.length = R2 ++ R3 := by rw [← e1, List.drop_left]
  have t3 : (R1 ++ (R2 ++ R3)).drop (n.firsts.length + n.outs.length) = R3 := by rw [← List.drop_drop, t2, ← e2, List.drop_left]
  have t4 : (R2 ++ R3).take n.outs.length = R2 := by rw [← e2, List.take_left]
  unfold netD Net.d
  rw [t1, t2, t3, t4, ← hR1, ← hR2, ← hR3]
  simp only [List.map_map]
  have a1 : (n.firsts.zip n.nexts).map (fun p => iD p.1) = n.firsts.map iD := by
    have : (n.firsts.zip n.nexts).map Prod.fst = n.firsts := List.map_fst_zip (by omega)
    rw [← this, List.map_map, this]
    rfl
  have a2 : (n.firsts.zip n.nexts).map (fun p => iD p.2) = n.nexts.map iD := by
    have : (n.firsts.zip n.nexts).map Prod.snd = n.nexts := List.map_snd_zip (by omega)
    rw [← this, List.map_map, this]
    rfl
  rw [← a1, ← a2]
  rfl
theorem andsB_ok (L : Nat) : ∀ (ps : List (Nat × Nat)) (k : Nat), (∀ (j : Nat) (p : Nat × Nat), ps[j]? = some p → p.1 < 2 * (1 + L + (k + j)) ∧ p.2 < 2 * (1 + L + (k + j))) → andsB L k (ps.map pr) = true
  | [], _, _ => rfl
  | p :: ps, k, h => by
    have h0 := h 0 p rfl
    have hr := andsB_ok L ps (k + 1) fun j q hq => by
      have := h (j + 1) q hq
      omega
    have e : andB ((2 * (1 + L + k) : Nat) : Int) (pr p) = true := by
      show (decide (2 = 2) && ([iD p.1, iD p.2].all fun x => isI x 0 ((2 * (1 + L + k) : Nat) : Int))) = true
      show (true && ((decide ((0 : Int) ≤ ((p.1 : Nat) : Int)) && decide (((p.1 : Nat) : Int) < ((2 * (1 + L + k) : Nat) : Int))) && ((decide ((0 : Int) ≤ ((p.2 : Nat) : Int)) && decide (((p.2 : Nat) : Int) < ((2 * (1 + L + k) : Nat) : Int))) && true))) = true
      rw [decide_eq_true (by omega), decide_eq_true (by omega), decide_eq_true (by omega), decide_eq_true (by omega)]
      rfl
    show (andB _ (pr p) && andsB L (k + 1) (ps.map pr)) = true
    rw [e, hr]
    rfl
theorem ints_below {m : List Nat} {b : Nat} (h : ∀ x ∈ m, x < b) : ∀ d ∈ m.map iD, isI d 0 ((b : Nat) : Int) = true := fun d hd => by
  obtain ⟨k, hk, rfl⟩ := List.mem_map.mp hd
  have := h k hk
  show (decide ((0 : Int) ≤ ((k : Nat) : Int)) && decide (((k : Nat) : Int) < ((b : Nat) : Int))) = true
  rw [decide_eq_true (by omega), decide_eq_true (by omega)]
  rfl
theorem net_true {n : Net} (h : NetOk n) : netB n.d = true := by
  show (decide ((n.nexts.map iD).length = (n.firsts.map iD).length) && ((n.firsts.map iD).all fun x => isI x 0 2) && andsB (n.firsts.map iD).length 0 (n.ands.map pr) && ((n.nexts.map iD ++ n.outs.map iD).all fun x => isI x 0 ((2 * (1 + (n.firsts.map iD).length + (n.ands.map pr).length) : Nat) : Int))) = true
  rw [List.length_map, List.length_map, List.length_map]
  have e1 : ((n.firsts.map iD).all fun x => isI x 0 2) = true := List.all_eq_true.mpr (ints_below h.fb)
  rw [decide_eq_true h.nl, e1, andsB_ok _ _ 0 (fun j p hp => by rw [Nat.zero_add]; exact h.ao j p hp)]
  rw [List.all_eq_true.mpr fun d hd => (List.mem_append.mp hd).elim (ints_below h.no d) (ints_below h.oo d)]
  rfl
theorem text_back {n : Net} (h : NetSm n) : parseN (ntext n) = .inr n.d ∧ TxL 40 132 (ntext n) := by
  have PK := nParts_ok h
  have h4 : ∀ ds ∈ nParts n, ds.length ≤ 4 := fun ds hd => by
    unfold nParts at hd
    simp only [List.mem_cons, List.mem_append, List.mem_map] at hd
    rcases hd with rfl | ⟨p, _, rfl⟩ | ⟨p, _, rfl⟩ | ⟨p, _, rfl⟩ <;> (simp only [List.length_cons, List.length_nil]; omega)
  have hl : ∀ y ∈ nLines n, LnB 40 y := fun y hy => by
    obtain ⟨ds, hd, rfl⟩ := List.mem_map.mp hy
    have := ln_join (b := 9) (ps := ds.map pS) fun p hp => by
      obtain ⟨d, hd2, rfl⟩ := List.mem_map.mp hp
      exact (part_ln ((PK ds hd).ok d hd2)).1
    refine this.up ?_
    rw [List.length_map]
    have := h4 ds hd
    omega
  have hlen := nLines_len h
  have b1 := h.l
  have b2 := h.a
  have b3 := h.o
  refine ⟨?_, txl_text hl (by omega)⟩
  have es : splitL (ntext n) = nLines n ++ [Str.ofString ""] := split_text fun x hx => (hl x hx).nl
  have eW : wholeB (ntext n) = true := by
    unfold wholeB
    rw [es, List.getLast?_concat, List.length_append, decide_eq_true rfl, decide_eq_false (by show ¬ (_ + 1 = 1); omega)]
    rfl
  have eL : linesOf (ntext n) = lineT [.str "net", iD n.firsts.length, iD n.outs.length, iD n.ands.length] :: (trN n).map lineOf := by
    unfold linesOf
    rw [es, List.dropLast_concat, nLines_tr]
  have hd := ln_back (wd := "net") (ns := [n.firsts.length, n.outs.length, n.ands.length]) (PK _ (by unfold nParts; exact List.mem_cons_self ..)) (fun k hk => by
    simp only [List.mem_cons, List.mem_nil_iff, or_false] at hk
    rcases hk with rfl | rfl | rfl <;> omega)
  rw [parse_some (a := n.firsts.length) (b := n.outs.length) (c := n.ands.length) eW eL hd]
  unfold bodyN
  have lt : ((trN n).map lineOf).length + 1 = (nLines n).length := by
    rw [nLines_tr]
    rfl
  have el2 : (linesOf (ntext n)).length = 1 + (n.firsts.length + (n.outs.length + n.ands.length)) := by
    rw [eL]
    show ((trN n).map lineOf).length + 1 = _
    omega
  rw [if_pos el2]
  have rb : readN 0 [] (formsN n.firsts.length n.outs.length n.ands.length) ((trN n).map lineOf) = .inr ((trN n).map (fun t : Tr => t.2)) := by
    rw [← tr_forms h.ok.nl]
    refine read_back (trN n) 0 [] fun t ht => ?_
    have mk : ∀ {wd : Str} {ns : List Nat} {m : Nat}, (PyData.str wd :: ns.map iD) ∈ nParts n → (∀ k ∈ ns, k < 1000000000) → ns.length = m → lnN wd m (lineOf ((wd, m), ns)) = some ns := fun {wd ns m} hm hb e => by
      subst e
      exact ln_back (PK _ hm) hb
    unfold trN at ht
    rcases List.mem_append.mp ht with ht | ht
    · obtain ⟨p, hp, rfl⟩ := List.mem_map.mp ht
      refine mk (List.mem_cons_of_mem _ (List.mem_append_left _ (List.mem_map.mpr ⟨p, hp, rfl⟩))) (fun k hk => ?_) rfl
      simp only [List.mem_cons, List.mem_nil_iff, or_false] at hk
      rcases hk with rfl | rfl
      · exact h.fst _ (List.of_mem_zip hp).1
      · exact h.nx _ (List.of_mem_zip hp).2
    rcases List.mem_append.mp ht with ht | ht
    · obtain ⟨o, hp, rfl⟩ := List.mem_map.mp ht
      refine mk (List.mem_cons_of_mem _ (List.mem_append_right _ (List.mem_append_left _ (List.mem_map.mpr ⟨o, hp, rfl⟩)))) (fun k hk => ?_) rfl
      rw [List.mem_singleton.mp hk]
      exact h.ou _ hp
    · obtain ⟨p, hp, rfl⟩ := List.mem_map.mp ht
      refine mk (List.mem_cons_of_mem _ (List.mem_append_right _ (List.mem_append_right _ (List.mem_map.mpr ⟨p, hp, rfl⟩)))) (fun k hk => ?_) rfl
      simp only [List.mem_cons, List.mem_nil_iff, or_false] at hk
      rcases hk with rfl | rfl
      · exact (h.an _ hp).1
      · exact (h.an _ hp).2
  unfold afterN
  rw [rb]
  show (if netB (netD _ _ ((trN n).map (fun t : Tr => t.2))) = true then Sum.inr (netD _ _ ((trN n).map (fun t : Tr => t.2))) else _) = _
  rw [tr_net h.ok.nl, if_pos (net_true h.ok)]
end C1

/-! What the law is told of a text. -/
namespace K0
open PySem PySem.Spec PyProof.Rows L2
theorem pss_cls {X : Cx} {sts : List Stmt} {t : TS} {cls : Value} {C : Addr} (h : cls = .ref C → PSs X sts t) : PSs X sts (fun D σ H => cls = .ref C ∧ t D σ H) :=
  ⟨fun pins s σ H D I q => (h q.1).run pins s σ H D I q.2⟩
end K0
namespace C1
open PySem PySem.Spec PyProof.Rows L2 SX
open K0 (Cs digs isNum)
open GxR (TabG Tabbed TabB GenS)
abbrev sLawTold : Stmt := topS 35
theorem scLawTold : FnScope ["text", "e"] ["text"] (defScope sLawTold) := ⟨rfl, rfl, rfl, by decide +kernel, rfl, by decide +kernel, by decide +kernel⟩
structure ErrT (K : PySem.W.Frag) (mg : Str → Option Value) (C : Addr) : Prop where
  g : mg "BadLine" = some (.ref C)
  x : XfC K C
  c : ExcC K C
  nL : PySem.W.findIn K (.ref C) "line" = some none
abbrev sufL (K : PySem.W.Frag) (C : Addr) : K0T.Suite := fun a cls d => fun D σ H => cls = .ref C ∧ tSeq (tIfS (tOr (tNot (tB (tCB (K0E.rIsF K C a d) (tCons (tVar 1) (tCons (tC (.ref C)) tNil))))) (tOr (tNot (tB (tCB (rIsi K) (tCons (tXf a cls d C "line" (tVar 1)) (tCons (tC (.ty "int")) tNil))))) (tB (tCB (rIsi K) (tCons (tXf a cls d C "line" (tVar 1)) (tCons (tC (.ty "bool")) tNil)))))) (tRet (tC (.str "else"))) tNext) (tRet (tXf a cls d C "line" (tVar 1))) D σ H
def resD (x : Str) : PyData := match parseN x with
  | .inr d => d
  | .inl n => iD n
theorem parse_gd {x : Str} (h : TxL 250 140 x) {d : PyData} (e : parseN x = .inr d) : gd 3 d = true ∧ noL d = true ∧ (∃ ds, d = .tuple ds) ∧ netB d = true ∧ ∀ ds, d = .tuple ds → ∀ es, .tuple es ∈ ds → es.length ≤ 400 := by
  obtain ⟨hn, hls⟩ := h.lines
  unfold parseN at e
  split at e
  · split at e
    · cases e
    · rename_i hd rest el
      split at e
      · rename_i a b c en
        unfold bodyN at e
        split at e
        · rename_i hl
          unfold afterN at e
          split at e
          · cases e
          · rename_i rows er
            split at e
            · rename_i hb
              cases e
              have ras : RowsAs (formsN a b c) rows := readN_as (gs := []) (acc := []) ⟨rfl, fun i r f h => by simp at h⟩ er
              have hlen : (linesOf x).length ≤ 140 := by
                unfold linesOf
                rw [List.length_dropLast]
                omega
              have lr : rows.length ≤ 139 := by
                rw [ras.1, forms_len]
                omega
              have rlen : ∀ r ∈ rows, r.length ≤ 10 := fun r hr => by
                obtain ⟨i, hi, e⟩ := List.mem_iff_getElem.mp hr
                obtain ⟨f, ef⟩ : ∃ f, (formsN a b c)[i]? = some f := ⟨_, List.getElem?_eq_getElem (by rw [← ras.1]; exact hi)⟩
                have h1 := ras.2 i r f (by rw [← e]; exact List.getElem?_eq_getElem hi) ef
                have h3 := form_many (List.mem_of_getElem? ef)
                split at h3 <;> omega
              obtain ⟨g, l⟩ := net_gd (a := a) (b := b) (rows := rows) (by omega) rlen
              exact ⟨g, netD_noL a b rows, ⟨_, rfl⟩, hb, l⟩
            · cases e
        · cases e
      · cases e
  · cases e
section
variable {P : Program} {w : World} {K : PySem.W.Frag} {mg : Str → Option Value} {base : Heap} {T : Addr}
def spTold (K : PySem.W.Frag) (T : Addr) : Sp := fun vs H Q _ => ∃ x : Str, vs = [.str x] ∧ TxL 250 140 x ∧ TabG H T ∧ ∀ H' v, Gr T H H' → Dp K H' v (resD x) → Q v H'
theorem ok_told {f fP C CC : Addr} {fd fdP : FuncData} (F : Fun K "_law_told" "_law_told" sLawTold f fd) (X : ErrT K mg C) (gC : mg "CutError" = some (.ref CC)) (B : Gp mg)
    (GP : FnOk P w K mg base (L2.CX P w) 4 fP fdP ["text"] (spParse K T C)) (kP : PySem.W.keepIn K (.ref fP) = true) (bP : Binds K fdP ["text"] []) (gP : mg "parse_net" = some (.ref fP))
    (e1 : PySem.W.exmOne K (.ref C) (.ref CC) = some true) (i1 : PySem.W.kitOne K (.ref C) (.ref C) = some true) :
    FnOk P w K mg base CX0 5 f fd ["text"] (spTold K T) := by
  refine F.ok scLawTold (fun vs H Q E h => ?_) (fun cdv A outer s H vs Q E hr h => ?_)
  · obtain ⟨x, rfl, _⟩ := h
    rfl
  · obtain ⟨x, rfl, hx, tb, q⟩ := h
    have nd := scLawTold.nd
    have hr4 : Room 4 _ := hr
    have hu := hr.units
    refine ⟨_, (pss_one (K0T.ps_try_ases (i := 1) (tb := fun W => tRet (tCallS (spParse K T C) (WE W) (tCons (tVar 0) tNil))) (Wo := fun _ _ _ _ => False) rfl rfl nd rfl rfl takes0 (fun W pn xe tk _ => pss_one (ps_ret (by exact (pe_callS GP hr4 (by rfl) gP kP bP (fun σ => passAt tk σ) (by exact (pa_cons (pv 0) pa_nil)))))) (.cons (ts := sufL K C) ⟨rfl, by decide, .inl gC⟩ (fun a oe cls d pn hz hf => by exact (K0.pss_cls (C := C) fun hcls => (pss_cons (ps_if (PW.pt (pw_or (pt_not (pt_val (pe_callB (K0E.call_isF X.c (hcls ▸ hz) hf) (by rfl) B.isi (by decide +kernel) (pa_cons (pv 1) (pa_cons (pe_glob (v := .ref C) (by rfl) X.g rfl) pa_nil))))) (pw_or (pt_not (pt_val (pe_callB call_isi (by rfl) B.isi (by decide +kernel) (pa_cons (pe_xf X.x X.nL hz hf (pv 1)) (pa_cons (pe_bltn (v := .ty "int") (by rfl) B.it (by decide +kernel) rfl) pa_nil))))) (pw_or1 (pt_val (pe_callB call_isi (by rfl) B.isi (by decide +kernel) (pa_cons (pe_xf X.x X.nL hz hf (pv 1)) (pa_cons (pe_bltn (v := .ty "bool") (by rfl) B.bo (by decide +kernel) rfl) pa_nil)))))))) (pss_one (ps_ret pe_str)) pss_nil) (pss_one (ps_ret (pe_xf X.x X.nL hz hf (pv 1))))))) .nil))), ?_⟩
    refine ⟨_, rfl, x, rfl, hx, tb, fun d ed H1 v g1 dv => ?_, fun n en H1 d g1 e3 => ?_⟩
    · refine q _ _ g1 ?_
      unfold resD
      rw [ed]
      exact dv
    · refine ⟨true, e1, fun _ ax nax => ⟨rfl, ?_⟩, fun z => nomatch z⟩
      refine ⟨_, rfl, .ref C, .ref C, true, d, fsL (n : Nat), rfl, (fun u h => h), i1, rfl, e3, _, rfl, iteF ?_⟩
      refine ⟨_, rfl, rfl, rfl, d, fsL (n : Nat), .int (n : Nat), rfl, e3, rfl, _, _, _, _, _, rfl, .ty "int", tyx_of (K := K) (H := H1) (.int (n : Nat)) rfl, kit_ty (kit_int (.int (n : Nat)) rfl), ?_⟩
      refine ⟨_, rfl, iteF ?_⟩
      refine ⟨_, rfl, rfl, rfl, d, fsL (n : Nat), .int (n : Nat), rfl, e3, rfl, _, _, _, _, _, rfl, .ty "bool", tyx_of (K := K) (H := H1) (.int (n : Nat)) rfl, kit_ty (kit_one "bool" (.inl rfl) (.int (n : Nat)) rfl), ?_⟩
      refine ⟨_, rfl, iteF ?_⟩
      refine ⟨_, rfl, rfl, rfl, d, fsL (n : Nat), .int (n : Nat), rfl, e3, rfl, q _ _ g1 ?_⟩
      unfold resD
      rw [en]
      exact .int _
end
end C1

/-! The law. -/
namespace C1
open PySem PySem.Spec PyProof.Rows L2 SX
open K0 (Cs digs isNum)
open GxR (TabG Tabbed TabB GenS)
abbrev sLaw : Stmt := topS 36
theorem scLaw : FnScope ["script", "w", "latches", "ands", "net", "text", "turn", "bent", "due", "told"] ["script"] (defScope sLaw) := ⟨rfl, rfl, rfl, by decide +kernel, rfl, by decide +kernel, by decide +kernel⟩
abbrev NLW : List Str := ["script", "w", "latches", "ands", "net", "text", "turn", "bent", "due", "told"]
theorem wd_merge2 (l : Addr) : mergeK [] [(Sum.inr ("draws" : Str), V.ref l), (Sum.inr ("at" : Str), V.int 0)] = wdL l 0 := by
  have h1 : ¬ (Sum.inr ("draws" : Str) : Key) = Sum.inr ("at" : Str) := by decide
  unfold mergeK wdL
  simp [putK, h1]
section
variable {K : PySem.W.Frag} {a l T : Addr} {ds : List Int} {H H' : Hp}
theorem Wd.sm (W : Wd H a l ds) (s : Same H H') : Wd H' a l ds := by
  obtain ⟨n, n0, e⟩ := W.at'
  exact ⟨⟨n, n0, s _ _ e⟩, s _ _ W.dr, W.len⟩
theorem Wd.gr (W : Wd H a l ds) (tb : TabG H T) (g : Gr T H H') : Wd H' a l ds := by
  obtain ⟨n, n0, e⟩ := W.at'
  exact ⟨⟨n, n0, g.at tb e (fun ps z => by cases z)⟩, g.at tb W.dr (fun ps z => by cases z), W.len⟩
theorem tab_kp (W : Wd H a l ds) (tb : TabG H T) (k : Kp a H H') : TabG H' T := by
  obtain ⟨n, n0, e⟩ := W.at'
  have nT : a ≠ T := tab_is tb e (fun ps z => by cases z)
  obtain ⟨ps, e2, r⟩ := tb
  exact ⟨ps, k _ _ nT.symm e2, r⟩
theorem tab_sm (tb : TabG H T) (s : Same H H') : TabG H' T := by
  obtain ⟨ps, e2, r⟩ := tb
  exact ⟨ps, s _ _ e2, r⟩
end
theorem res_gd {x : Str} (h : TxL 250 140 x) : noL (resD x) = true ∧ SeqAt.shaped (resD x) = true := by
  unfold resD
  cases e : parseN x with
  | inl n =>
    refine ⟨rfl, ?_⟩
    unfold SeqAt.shaped
    simp [PyData.canLay0, PyData.depth]
  | inr d =>
    obtain ⟨a, b, c⟩ := gd_ok 3 d (parse_gd h e).1
    refine ⟨a, ?_⟩
    unfold SeqAt.shaped
    rw [Bool.and_eq_true]
    exact ⟨b, decide_eq_true (show d.depth ≤ 64 by omega)⟩
theorem nil_txl : TxL 250 140 (Str.ofString "") := ⟨trivial, fun c h => (by cases h), by decide⟩
theorem nil_res : resD (Str.ofString "") = iD 1 := by
  have e : parseN (Str.ofString "") = .inl 1 := by
    unfold parseN
    rw [if_neg (by unfold wholeB; rw [split_nil]; decide), split_nil]
    rfl
  unfold resD
  rw [e]
def lsN : List Nat := [0, 1, 2, 3, 4, 5, 5, 70]
theorem ntext_ne {n : Net} (h : NetSm n) : ntext n ≠ Str.ofString "" := fun z => by
  have hb := (text_back h).1
  rw [z] at hb
  have e := nil_res
  unfold resD at e
  rw [hb] at e
  cases e
section
variable {P : Program} {w : World} {K : PySem.W.Frag} {mg : Str → Option Value} {base : Heap} {T : Addr}
def spLaw (K : PySem.W.Frag) (T : Addr) : Sp := fun vs H Q _ => ∃ (a : Addr) (ns : List Int), vs = [.ref a] ∧ SqL K H a (ns.map V.int) ∧ ns.length ≤ 63 ∧ TabG H T ∧ ∀ H', Q (.bl true) H'
theorem ok_law {f fD fN fC fL fP fT fB fR fK : Addr} {fd fdD fdN fdC fdL fdP fdT fdB fdR fdK : FuncData} (F : Fun K "law" "law" sLaw f fd) (B : BT mg) (BL : Bl mg) (mi : mg "isinstance" = none)
    (GD : FnOk P w K mg base CX0 1 fD fdD ["script", "many"] (spDraws K)) (kD : PySem.W.keepIn K (.ref fD) = true) (bD : Binds K fdD ["script", "many"] []) (gD : mg "_law_draws" = some (.ref fD))
    (GN : FnOk P w K mg base CX0 1 fN fdN ["w", "many"] spNext) (kN : PySem.W.keepIn K (.ref fN) = true) (bN : Binds K fdN ["w", "many"] []) (gN : mg "_law_next" = some (.ref fN))
    (GC : FnOk P w K mg base CX0 3 fC fdC ["w", "latches", "ands", "outs"] (spDrawn K)) (kC : PySem.W.keepIn K (.ref fC) = true) (bC : Binds K fdC ["w", "latches", "ands", "outs"] []) (gC : mg "_law_net" = some (.ref fC))
    (GL : FnOk P w K mg base CX0 1 fL fdL ["net"] (spPrint K)) (kL : PySem.W.keepIn K (.ref fL) = true) (bL : Binds K fdL ["net"] []) (gL : mg "_law_text" = some (.ref fL))
    (GP : FnOk P w K mg base CX0 2 fP fdP ["net"] (spPrint K)) (kP : PySem.W.keepIn K (.ref fP) = true) (bP : Binds K fdP ["net"] []) (gP : mg "print_net" = some (.ref fP))
    (GT : FnOk P w K mg base CX0 5 fT fdT ["text"] (spTold K T)) (kT : PySem.W.keepIn K (.ref fT) = true) (bT : Binds K fdT ["text"] []) (gT : mg "_law_told" = some (.ref fT))
    (GB : FnOk P w K mg base CX0 4 fB fdB ["w", "text"] (spBent K)) (kB : PySem.W.keepIn K (.ref fB) = true) (bB : Binds K fdB ["w", "text"] []) (gB : mg "_law_bent" = some (.ref fB))
    (GR : FnOk P w K mg base CX0 3 fR fdR ["text"] (spDue K)) (kR : PySem.W.keepIn K (.ref fR) = true) (bR : Binds K fdR ["text"] []) (gR : mg "_law_due" = some (.ref fR))
    (GK : FnOk P w K mg base CX0 2 fK fdK ["thing"] (spIsNet K)) (kK : PySem.W.keepIn K (.ref fK) = true) (bK : Binds K fdK ["thing"] []) (gK : mg "_law_is_net" = some (.ref fK)) :
    FnOk P w K mg base CX0 6 f fd ["script"] (spLaw K T) := by
  refine F.ok scLaw (fun vs H Q E h => ?_) (fun cdv A outer s H vs Q E hr h => ?_)
  · obtain ⟨a, ns, rfl, _⟩ := h
    rfl
  · obtain ⟨a, ns, rfl, hS, hlen, tb, q⟩ := h
    have nd := scLaw.nd
    have hr5 : Room 5 _ := hr
    have hr4 : Room 4 _ := hr.mono (by decide)
    have hr3 : Room 3 _ := hr.mono (by decide)
    have hr2 : Room 2 _ := hr.mono (by decide)
    have hr1 : Room 1 _ := hr.mono (by decide)
    have hu := hr.units
    refine ⟨_, (pss_cons (ps_set (i := 1) nd rfl (.inl rfl) (pe_disp (pps_cons (pe_str) (pe_call GD hr1 (by rfl) gD kD bD .nil pass0 (pa_cons (pv 0) (pa_cons (pe_int) pa_nil))) (pps_cons (pe_str) (pe_int) pps_nil)) rfl rfl (by intro z; cases z) (by decide)))
      (pss_cons (ps_set (i := 2) nd rfl (.inl rfl) (pe_ix ix_list (pe_lst (pa_cons (pe_int) (pa_cons (pe_int) (pa_cons (pe_int) (pa_cons (pe_int) (pa_cons (pe_int) (pa_cons (pe_int) (pa_cons (pe_int) (pa_cons (pe_int) pa_nil))))))))) (pe_call GN hr1 (by rfl) gN kN bN .nil pass0 (pa_cons (pv 1) (pa_cons (pe_int) pa_nil))) (fun _ _ => rfl)))
      (pss_cons (ps_set (i := 3) nd rfl (.inl rfl) (pe_call GN hr1 (by rfl) gN kN bN .nil pass0 (pa_cons (pv 1) (pa_cons (pe_int) pa_nil))))
      (pss_cons (ps_set (i := 4) nd rfl (.inl rfl) (pe_call GC hr3 (by rfl) gC kC bC .nil pass0 (pa_cons (pv 1) (pa_cons (pv 2) (pa_cons (pv 3) (pa_cons (pe_call GN hr1 (by rfl) gN kN bN .nil pass0 (pa_cons (pv 1) (pa_cons (pe_int) pa_nil))) pa_nil))))))
      (pss_cons (ps_set (i := 5) nd rfl (.inl rfl) (pe_call GP hr2 (by rfl) gP kP bP .nil pass0 (pa_cons (pv 4) pa_nil)))
      (C8.pss_cut (ps_if (PW.pt (pw_or (pt_not (pt_val (pe_callB call_isi (by rfl) mi (by decide +kernel) (pa_cons (pv 5) (pa_cons (pe_bltn (v := .ty "str") (by rfl) BL.str (by decide +kernel) rfl) pa_nil))))) (pw_or1 (pt_cmpR op_ne (pv 5) (pe_call GL hr1 (by rfl) gL kL bL .nil pass0 (pa_cons (pv 4) pa_nil)) (nomark _))))) (pss_one (ps_ret (pe_bl))) pss_nil)
      (C8.pss_cut (ps_if (PW.pt (pw_or (pt_cmpR (op_neD hu) (pe_call GT hr5 (by rfl) gT kT bT .nil pass0 (pa_cons (pv 5) pa_nil)) (pv 4) (nomark _)) (pw_or (pt_not (pt_val (pe_call GK hr2 (by rfl) gK kK bK .nil pass0 (pa_cons (pe_call GT hr5 (by rfl) gT kT bT .nil pass0 (pa_cons (pv 5) pa_nil)) pa_nil)))) (pw_or1 (pt_cmpR op_ne (pe_call GT hr5 (by rfl) gT kT bT .nil pass0 (pa_cons (pe_str) pa_nil)) (pe_int) (nomark _)))))) (pss_one (ps_ret (pe_bl))) pss_nil)
      (C8.pss_cut (ps_for PassesOwn.never rfl (pi_range1 (by rfl) BL.range (pa_cons (pe_int) pa_nil)) (pg_name (i := 6) nd rfl (.inl rfl)) (pss_cons (ps_set (i := 7) nd rfl (.inl rfl) (pe_call GB hr4 (by rfl) gB kB bB .nil pass0 (pa_cons (pv 1) (pa_cons (pv 5) pa_nil))))
      (C8.pss_cut (ps_if (PW.pt (pw_and (pt_cmpR op_ne (pv 7) (pe_str) (nomark _)) (pw_and1 (pt_cmpR op_eq (pe_call GN hr1 (by rfl) gN kN bN .nil pass0 (pa_cons (pv 1) (pa_cons (pe_int) pa_nil))) (pe_int) (nomark _))))) (pss_one (ps_set (i := 7) nd rfl (.inl rfl) (pe_call GB hr4 (by rfl) gB kB bB .nil pass0 (pa_cons (pv 1) (pa_cons (pv 7) pa_nil))))) pss_nil)
      (pss_cons (ps_set (i := 8) nd rfl (.inl rfl) (pe_call GR hr3 (by rfl) gR kR bR .nil pass0 (pa_cons (pv 7) pa_nil)))
      (pss_cons (ps_set (i := 9) nd rfl (.inl rfl) (pe_call GT hr5 (by rfl) gT kT bT .nil pass0 (pa_cons (pv 7) pa_nil)))
      (pss_one (ps_if (PW.pt (pw_or (pt_cmpR (op_neD hu) (pv 9) (pv 8) (nomark _)) (pw_or1 (PW.pt (pw_and (pt_val (pe_callB call_isi (by rfl) mi (by decide +kernel) (pa_cons (pv 8) (pa_cons (pe_bltn (v := .ty "tuple") (by rfl) B.tuple (by decide +kernel) rfl) pa_nil)))) (pw_and1 (pt_not (pt_val (pe_call GK hr2 (by rfl) gK kK bK .nil pass0 (pa_cons (pv 9) pa_nil)))))))))) (pss_one (ps_ret (pe_bl))) pss_nil)))))))
      (pss_one (ps_ret (pe_bl))))))))))), ?_⟩
    refine fun wa nwa => ?_
    have tb0 := tab_sm tb (Same.up nwa (o := .dK []))
    refine ⟨_, rfl, a, ns, 360, rfl, (same_new nwa).seq hS, hlen, by decide, fun H1 l ds s1 nl el lds => ?_⟩
    have hwa1 : H1 wa = some (.dK []) := s1 _ _ upd_same
    have tb1 := tab_sm tb0 s1
    refine ⟨hwa1, [(.inr ("draws" : Str), .ref l), (.inr ("at" : Str), .int 0)], rfl, (by show 2 ≤ 15; decide), ?_⟩
    rw [wd_merge2]
    have nlw : l ≠ wa := fun z => by
      rw [z, upd_same] at nl
      cases nl
    have W : Wd (upd H1 wa (.dK (wdL l 0))) wa l ds := ⟨⟨0, Int.le_refl 0, upd_same⟩, by rw [upd_ne nlw]; exact el, lds⟩
    have nwT : T ≠ wa := (tab_is tb1 hwa1 (fun ps z => by cases z)).symm
    have tb2 : TabG (upd H1 wa (.dK (wdL l 0))) T := by
      obtain ⟨ps, e, r⟩ := tb1
      exact ⟨ps, by rw [upd_ne nwT]; exact e, r⟩
    generalize upd H1 wa (.dK (wdL l 0)) = H2 at W tb2
    -- latches, ands, net
    refine ⟨line200 (show 8 ≤ 1000 by decide), fun lp nlp => ?_⟩
    have Wb := W.new nlp (o := .lst (lsN.map iV))
    have tbb := tab_sm tb2 (Same.up nlp (o := .lst (lsN.map iV)))
    have lpa := W.fresh nlp
    have elp : (upd H2 lp (.lst (lsN.map iV))) lp = some (.lst (lsN.map iV)) := upd_same
    refine ⟨_, rfl, wa, l, ds, _, rfl, by decide, Wb, fun r0 H3 hr0 k3 _ W3 => ?_⟩
    have tb3 := tab_kp Wb tbb k3
    have elp3 := k3 _ _ lpa elp
    obtain ⟨L, eL⟩ : ∃ L, lsN[r0]? = some L := ⟨_, List.getElem?_eq_getElem (by show r0 < 8; omega)⟩
    have hL : L ≤ 70 := (by decide : ∀ x ∈ lsN, x ≤ 70) L (List.mem_of_getElem? eL)
    refine ⟨lp, _, _, _, rfl, rfl, SqL.of elp3, atI_nat (j := r0) (by rw [List.getElem?_map, eL]; rfl), ?_⟩
    refine ⟨_, rfl, wa, l, ds, _, rfl, by decide, W3, fun A0 H4 hA k4 _ W4 => ?_⟩
    have tb4 := tab_kp W3 tb3 k4
    refine ⟨_, rfl, _, rfl, _, rfl, _, rfl, wa, l, ds, _, rfl, by decide, W4, fun O H5 hO k5 _ W5 => ?_⟩
    have tb5 := tab_kp W4 tb4 k5
    refine ⟨wa, l, ds, L, A0, O, rfl, by omega, by omega, by omega, W5, fun H6 p n k6 W6 ok l1 l2 l3 hp => ?_⟩
    have tb6 := tab_kp W5 tb5 k6
    have sm0 : NetSm n := ⟨ok, l1, l2, l3⟩
    obtain ⟨hback, htx⟩ := text_back sm0
    have htx2 : TxL 250 140 (ntext n) := htx.up (by decide) (by decide)
    obtain ⟨gdn, nln, _, hbn, lens⟩ := parse_gd htx2 hback
    have eR : resD (ntext n) = n.d := by
      unfold resD
      rw [hback]
    have rgn := res_gd htx2
    rw [eR] at rgn
    -- text
    refine ⟨_, rfl, p, n, rfl, hp, sm0, fun H7 s7 => ?_⟩
    have W7 := W6.sm s7
    have tb7 := tab_sm tb6 s7
    have hp7 := dp_stay (same_tup s7) _ _ hp nln
    refine ⟨fun σ H' => σ = [some (.ref a), some (.ref wa), some (iV L), some (iV A0), some (.ref p), some (.str (ntext n)), none, none, none, none] ∧ Wd H' wa l ds ∧ TabG H' T ∧ Dp K H' (.ref p) n.d, ?_, ?_⟩
    · refine ⟨_, rfl, .str (ntext n), .ty "str", .type "str", .type "str", true, rfl, .ty _, .base (.str _), kit_ty (by decide +kernel), _, rfl, iteF ?_⟩
      refine ⟨_, rfl, _, rfl, p, n, rfl, hp7, sm0, fun H8 s8 => ⟨rfl, _, rfl, ?_⟩⟩
      exact iteF' (by show (!decide (V.str (ntext n) = V.str (ntext n))) = false; rw [decide_eq_true rfl]; rfl) ⟨rfl, W7.sm s8, tab_sm tb7 s8, dp_stay (same_tup s8) _ _ hp7 nln⟩
    rintro σ H8 ⟨rfl, W8, tb8, hp8⟩
    refine ⟨fun σ H' => σ = [some (.ref a), some (.ref wa), some (iV L), some (iV A0), some (.ref p), some (.str (ntext n)), none, none, none, none] ∧ Wd H' wa l ds ∧ TabG H' T, ?_, ?_⟩
    · refine ⟨_, rfl, ntext n, rfl, htx2, tb8, fun H9 v g9 dv => ?_⟩
      rw [eR] at dv
      have W9 := W8.gr tb8 g9
      have hp9 : Dp K H9 (.ref p) n.d := dp_stay (fun b xs h => g9.seqT tb8 h) _ _ hp8 nln
      refine ⟨_, rfl, n.d, n.d, dv, hp9, rgn.2, rgn.2, _, rfl, ?_⟩
      rw [SeqAt.eqv_refl _ (SeqAt.canLay_of_shaped rgn.2)]
      refine iteF ⟨_, rfl, ntext n, rfl, htx2, g9.tab, fun Ha va ga dva => ?_⟩
      rw [eR] at dva
      have Wa := W9.gr g9.tab ga
      refine ⟨_, n.d, 3, rfl, dva, gdn, by decide, lens, fun Hb sb => ⟨_, rfl, ?_⟩⟩
      have Wc := Wa.sm sb
      have tbc := tab_sm ga.tab sb
      refine iteF' (by rw [hbn]; rfl) ?_
      refine ⟨Str.ofString "", rfl, nil_txl, tbc, fun Hc vc gc dvc => ?_⟩
      rw [nil_res] at dvc
      cases dvc
      exact ⟨rfl, _, rfl, iteF' (by show (!decide (V.int ((1 : Nat) : Int) = V.int 1)) = false; rfl) ⟨rfl, Wc.gr tbc gc, gc.tab⟩⟩
    rintro σ H9 ⟨rfl, W9, tb9⟩
    refine ⟨fun _ _ => True, ?_, fun σ' H' _ => q H'⟩
    refine ⟨_, rfl, by decide, by decide, for_range (n := 5) (fun i σ H' => ∃ y6 y7 y8 y9 : Option V, σ = [some (.ref a), some (.ref wa), some (iV L), some (iV A0), some (.ref p), some (.str (ntext n)), y6, y7, y8, y9] ∧ Wd H' wa l ds ∧ TabG H' T) ⟨none, none, none, none, rfl, W9, tb9⟩ (fun i σ H' hi h => ?_) (fun _ _ _ => trivial)⟩
    obtain ⟨y6, y7, y8, y9, rfl, W', tb'⟩ := h
    refine ⟨_, rfl, _, rfl, wa, l, ds, ntext n, 40, 132, rfl, W', ntext_ne sm0, htx, by decide, by decide, fun Ha y ka Wa ty => ?_⟩
    have tba := tab_kp W' tb' ka
    refine ⟨fun σ H' => ∃ z : Str, σ = [some (.ref a), some (.ref wa), some (iV L), some (iV A0), some (.ref p), some (.str (ntext n)), some (.int (0 + (i : Nat))), some (.str z), y8, y9] ∧ Wd H' wa l ds ∧ TabG H' T ∧ TxL 250 140 z, ?_, ?_⟩
    · refine ⟨_, rfl, rfl, _, rfl, ?_⟩
      by_cases hy : y = Str.ofString ""
      · exact iteF' (by rw [decide_eq_true (by rw [hy])]; rfl) ⟨y, rfl, Wa, tba, ty.up (by decide) (by decide)⟩
      · refine iteT' (by rw [decide_eq_false (fun z => hy (V.str.inj z))]; rfl) ?_
        refine ⟨_, rfl, wa, l, ds, _, rfl, by decide, Wa, fun r1 Hb hr1' kb _ Wb => ⟨rfl, _, rfl, ?_⟩⟩
        have tbb := tab_kp Wa tba kb
        by_cases h0 : r1 = 0
        · refine iteT' (decide_eq_true (congrArg V.int (by omega))) ?_
          exact ⟨_, rfl, _, rfl, wa, l, ds, y, 85, 134, rfl, Wb, hy, ty, by decide, by decide, fun Hc z kc Wc tz => ⟨z, rfl, Wc, tab_kp Wb tbb kc, tz.up (by decide) (by decide)⟩⟩
        · exact iteF' (decide_eq_false (fun z => h0 (by have := V.int.inj z; omega))) ⟨y, rfl, Wb, tbb, ty.up (by decide) (by decide)⟩
    rintro σ Hb ⟨z, rfl, Wb, tbb, tz⟩
    have rg := res_gd tz
    refine ⟨_, rfl, z, rfl, tz, fun d ed Hc v sc dv => ?_, fun m em Hc sc => ?_⟩
    · have Wc := Wb.sm sc
      have tbc := tab_sm tbb sc
      have eD : resD z = d := by
        unfold resD
        rw [ed]
      refine ⟨_, rfl, z, rfl, tz, tbc, fun Hd v9 g9 dv9 => ?_⟩
      obtain ⟨gd3, dnl, ⟨es, rfl⟩, hb, lens2⟩ := parse_gd tz ed
      have Wd' := Wc.gr tbc g9
      have dv' : Dp K Hd v (.tuple es) := dp_stay (fun b xs h => g9.seqT tbc h) _ _ dv dnl
      rw [eD] at dv9 rg
      refine ⟨_, rfl, _, rfl, .tuple es, .tuple es, dv9, dv', rg.2, rg.2, _, rfl, ?_⟩
      rw [SeqAt.eqv_refl _ (SeqAt.canLay_of_shaped rg.2)]
      refine iteF ?_
      obtain ⟨b, ys, rfl, sq, _⟩ := dp_tup dv'
      refine ⟨_, rfl, .ref b, .ty "tuple", .type "tuple", .type "tuple", true, rfl, .ty _, tyx_tup sq, kit_ty (by decide +kernel), _, rfl, iteT ?_⟩
      refine ⟨_, rfl, _, .tuple es, 3, rfl, dv9, gd3, by decide, lens2, fun Hz sz => ⟨_, rfl, ?_⟩⟩
      exact iteF' (by rw [hb]; rfl) ⟨_, _, _, _, rfl, Wd'.sm sz, tab_sm g9.tab sz⟩
    · have Wc := Wb.sm sc
      have tbc := tab_sm tbb sc
      have eD : resD z = iD m := by
        unfold resD
        rw [em]
      refine ⟨_, rfl, z, rfl, tz, tbc, fun Hd v9 g9 dv9 => ?_⟩
      rw [eD] at dv9 rg
      refine ⟨_, rfl, _, rfl, iD m, iD m, dv9, .int _, rg.2, rg.2, _, rfl, ?_⟩
      rw [SeqAt.eqv_refl _ (SeqAt.canLay_of_shaped rg.2)]
      refine iteF ?_
      refine ⟨_, rfl, .int (m : Nat), .ty "tuple", .type "int", .type "tuple", false, rfl, .ty _, .base (.int _), kit_ty (by decide +kernel), _, rfl, iteF ?_⟩
      exact ⟨_, _, _, _, rfl, Wc.gr tbc g9, g9.tab⟩
end
end C1

/-! What the top leaves, and the end. -/
namespace C1
open PySem PySem.Spec PyProof.Rows L2 SX
open GxR (TabG Tabbed TabB GenS)
theorem kit_ref {K : PySem.W.Frag} {t : Value} {C : Addr} (hd : PySem.W.hasDictIn K C = true) (ty : PySem.W.typeIn K (.ref C) = some (.type "type")) (s : PySem.W.subIn K t (.ref C) = some true) : PySem.W.kitOne K t (.ref C) = some true := by
  obtain ⟨cd, hc, _⟩ := PySem.W.any_some hd
  have e : ((PySem.W.clsIn K C).isSome && PySem.W.typeIn K (.ref C) == some (.type "type")) = true := by
    rw [hc, ty]
    rfl
  unfold PySem.W.kitOne
  by_cases q : (t == Value.ref C) = true
  · rw [if_pos q]
  · rw [if_neg q]
    show (if ((PySem.W.clsIn K C).isSome && PySem.W.typeIn K (.ref C) == some (.type "type")) = true then PySem.W.subIn K t (.ref C) else none) = some true
    rw [if_pos e]
    exact s
/-- the table of is_number's code is empty at the law's call -/
def OwnT (K : PySem.W.Frag) (mg : Str → Option Value) (h : Heap) : Prop := ∀ (f c P : Addr) (o : Obj) (fd : FuncData) (e : Value) (dd : Option Addr) (vs : Array Value) (sl : Array (Option Value)),
  mg "is_number" = some (.ref f) → K.lookup f = some o → o.data = .func fd → fd.code = .ref c → K.lookup c = some ⟨e, dd, .fields vs, sl⟩ → vs[11]? = some (.ref P) → h.get? P = some { cls := .none, data := .fields #[] } ∧ PySem.W.CodeHd h c P
theorem walk_ofDef {l : PySem.W.OpenLaw} {n k : Nat} {q : Program} {loose : List Str} {XP : (Str → Option Value) → Heap → Prop} {YP : World → Heap → Prop} {d : DefRec} {K : Params → PySem.W.Frag} {CX : World → CXT} {x nm : Str}
    (hn : l.most = some n) (hn2 : n ≤ sizeLine) (hdf : d.params.defaults = []) (hr : Room k callerA) (hrec : ((recsOf q).any fun e => e.name == "is_number") = true) (hY : ∀ (w : World) (h : Heap), YP w h → (K w.params).In h)
    (F : ∀ (w : World) (mg : Str → Option Value) (fa : Addr) (h : Heap), YP w h → (K w.params).In h → h.Ns mainGlobals mg → mg d.name = some (.ref fa) → OwnT (K w.params) mg h → LamX.LawAtS l w (K w.params) (CX w) k n x mg fa h)
    (hCX : ∀ (w : World) (H : Hp) (s : Shared) (e : Value) (s' : Shared), CX w [] H s (fun _ _ _ => False) e s' → False) :
    PySem.W.WalkO q loose XP YP l.row.toRowW d [] (fun f vs => PySem.call f vs) := by
  refine Att.attach_callB hn hdf fun w s0 s1 mg mb fa o pm cd doc a vs ns G Y ho hd hcd hmg hobj hints hlen hbits hg => ?_
  have KX := hY w _ Y
  have own : OwnT (K w.params) mg s1.heap := fun f c P o1 fd1 e dd vs1 sl k0 k1 k2 k3 k4 k5 => by
    obtain ⟨r, hm, hnm⟩ := List.any_eq_true.mp hrec
    have hnm2 : r.name = "is_number" := beq_iff_eq.mp hnm
    obtain ⟨a2, o2, fd2, c2, P2, h1, h2, h3, h4, h5, h6⟩ := G.T.tab r hm
    rw [hnm2, k0] at h1
    cases h1
    have g1 := KX _ _ k1
    rw [g1] at h2
    cases h2
    rw [k2] at h3
    cases h3
    rw [k3] at h4
    cases h4
    have hc := PySem.W.CodeHd.of h5 h6
    obtain ⟨⟨oc, vc, b1, _, b3, b4⟩, hP⟩ := h6
    have g2 := KX _ _ k4
    rw [g2] at b1
    cases b1
    cases b3
    rw [k5] at b4
    cases b4
    exact ⟨hP, hc⟩
  obtain ⟨fd, cs, sp, hT, nT, C, hb, hsp, hF⟩ := F w mg fa _ Y KX G.T.g hmg own
  exact LamX.law_callTs KX G.T.g G.T.b G.T.builtins G.T.nolimit hg hT nT C G.T.bmain hobj hints (Nat.le_trans hlen hn2) hr hF hb (fun H hH hS => hsp H a ns hlen hbits hH hS) fun H e s' => hCX w H s1 e s'
theorem all_mk {l : PySem.W.OpenLaw} {w : World} {K : PySem.W.Frag} {h : Heap} {mg : Str → Option Value} {fa : Addr} (X : K.In h) (G : h.Ns mainGlobals mg) (hfa : mg "law" = some (.ref fa)) (own : OwnT K mg h)
    {f0 : Addr} {od0 an0 : Option Addr} {sl0 : Array (Option Value)} {oc0 kV0 dc0 pm0  ct0 : Value}
    {f1 : Addr} {od1 an1 : Option Addr} {sl1 : Array (Option Value)} {oc1 kV1 dc1 pm1 cd1 ct1 : Value}
    {f2 : Addr} {od2 an2 : Option Addr} {sl2 : Array (Option Value)} {oc2 kV2 dc2 pm2 cd2 ct2 : Value}
    {f3 : Addr} {od3 an3 : Option Addr} {sl3 : Array (Option Value)} {oc3 kV3 dc3 pm3 cd3 ct3 : Value}
    {f4 : Addr} {od4 an4 : Option Addr} {sl4 : Array (Option Value)} {oc4 kV4 dc4 pm4 cd4 ct4 : Value}
    {f5 : Addr} {od5 an5 : Option Addr} {sl5 : Array (Option Value)} {oc5 kV5 dc5 pm5 cd5 ct5 : Value}
    {f6 : Addr} {od6 an6 : Option Addr} {sl6 : Array (Option Value)} {oc6 kV6 dc6 pm6 cd6 ct6 : Value}
    {f7 : Addr} {od7 an7 : Option Addr} {sl7 : Array (Option Value)} {oc7 kV7 dc7 pm7 cd7 ct7 : Value}
    {f8 : Addr} {od8 an8 : Option Addr} {sl8 : Array (Option Value)} {oc8 kV8 dc8 pm8 cd8 ct8 : Value}
    {f9 : Addr} {od9 an9 : Option Addr} {sl9 : Array (Option Value)} {oc9 kV9 dc9 pm9 cd9 ct9 : Value}
    {f10 : Addr} {od10 an10 : Option Addr} {sl10 : Array (Option Value)} {oc10 kV10 dc10 pm10 cd10 ct10 : Value}
    {f11 : Addr} {od11 an11 : Option Addr} {sl11 : Array (Option Value)} {oc11 kV11 dc11 pm11 cd11 ct11 : Value}
    {f12 : Addr} {od12 an12 : Option Addr} {sl12 : Array (Option Value)} {oc12 kV12 dc12 pm12 cd12 ct12 : Value}
    {f13 : Addr} {od13 an13 : Option Addr} {sl13 : Array (Option Value)} {oc13 kV13 dc13 pm13 cd13 ct13 : Value}
    {f14 : Addr} {od14 an14 : Option Addr} {sl14 : Array (Option Value)} {oc14 kV14 dc14 pm14 cd14 ct14 : Value}
    {f15 : Addr} {od15 an15 : Option Addr} {sl15 : Array (Option Value)} {oc15 kV15 dc15 pm15 cd15 ct15 : Value}
    {f16 : Addr} {od16 an16 : Option Addr} {sl16 : Array (Option Value)} {oc16 kV16 dc16 pm16 cd16 ct16 : Value}
    {f17 : Addr} {od17 an17 : Option Addr} {sl17 : Array (Option Value)} {oc17 kV17 dc17 pm17 cd17 ct17 : Value}
    {f18 : Addr} {od18 an18 : Option Addr} {sl18 : Array (Option Value)} {oc18 kV18 dc18 pm18 cd18 ct18 : Value}
    {f19 : Addr} {od19 an19 : Option Addr} {sl19 : Array (Option Value)} {oc19 kV19 dc19 pm19 cd19 ct19 : Value}
    {f20 : Addr} {od20 an20 : Option Addr} {sl20 : Array (Option Value)} {oc20 kV20 dc20 pm20 cd20 ct20 : Value}
    {f21 : Addr} {od21 an21 : Option Addr} {sl21 : Array (Option Value)} {oc21 kV21 dc21 pm21 cd21 ct21 : Value}
    {f22 : Addr} {od22 an22 : Option Addr} {sl22 : Array (Option Value)} {oc22 kV22 dc22 pm22 cd22 ct22 : Value}
    {f23 : Addr} {od23 an23 : Option Addr} {sl23 : Array (Option Value)} {oc23 kV23 dc23 pm23 cd23 ct23 : Value}
    {f24 : Addr} {od24 an24 : Option Addr} {sl24 : Array (Option Value)} {oc24 kV24 dc24 pm24 cd24 ct24 : Value}
    {f25 : Addr} {od25 an25 : Option Addr} {sl25 : Array (Option Value)} {oc25 kV25 dc25 pm25 cd25 ct25 : Value}
    {cP Tb : Addr} {pe : Value} {pd : Option Addr} {pvs : Array Value} {psl : Array (Option Value)}
    {fI : Addr} {odI anI : Option Addr} {slI : Array (Option Value)} {ocI kVI dcI pmI cdI ctI : Value} {CB CC NCB : Addr} {nmCB qCB : Str} {bsCB : List Value} {snCB : List Str} {subCB : List Value} {abCB : Bool} {colCB : Option Bool} {ddCB : Option Addr} {m0CB m1CB m2CB m3CB m5CB : Option Value}
    {tkD : Tok}
    {tkA : Tok}
    (a0 : PySem.W.nsIn K mainGlobals "is_number" = some (some (.ref f0)))
    (l0 : K.lookup f0 = some ⟨oc0, od0, .func (PySem.W.fnOf "is_number" "is_number" (defArgs sIsNum) (defBody sIsNum) (defScope sIsNum) .none kV0 dc0 pm0 an0 (.ref cP) ct0), sl0⟩)
    (c0 : PySem.W.codeIn K (.ref cP) "is_number" = true)
    (k0 : PySem.W.keepIn K (.ref f0) = true)
    (a1 : PySem.W.nsIn K mainGlobals "number_of" = some (some (.ref f1)))
    (l1 : K.lookup f1 = some ⟨oc1, od1, .func (PySem.W.fnOf "number_of" "number_of" (defArgs sNumberOf) (defBody sNumberOf) (defScope sNumberOf) .none kV1 dc1 pm1 an1 cd1 ct1), sl1⟩)
    (c1 : PySem.W.codeIn K cd1 "number_of" = true)
    (k1 : PySem.W.keepIn K (.ref f1) = true)
    (a2 : PySem.W.nsIn K mainGlobals "power_of_ten" = some (some (.ref f2)))
    (l2 : K.lookup f2 = some ⟨oc2, od2, .func (PySem.W.fnOf "power_of_ten" "power_of_ten" (defArgs sPowerOfTen) (defBody sPowerOfTen) (defScope sPowerOfTen) .none kV2 dc2 pm2 an2 cd2 ct2), sl2⟩)
    (c2 : PySem.W.codeIn K cd2 "power_of_ten" = true)
    (k2 : PySem.W.keepIn K (.ref f2) = true)
    (a3 : PySem.W.nsIn K mainGlobals "is_tuple" = some (some (.ref f3)))
    (l3 : K.lookup f3 = some ⟨oc3, od3, .func (PySem.W.fnOf "is_tuple" "is_tuple" (defArgs sIsTuple) (defBody sIsTuple) (defScope sIsTuple) .none kV3 dc3 pm3 an3 cd3 ct3), sl3⟩)
    (c3 : PySem.W.codeIn K cd3 "is_tuple" = true)
    (k3 : PySem.W.keepIn K (.ref f3) = true)
    (a4 : PySem.W.nsIn K mainGlobals "is_below" = some (some (.ref f4)))
    (l4 : K.lookup f4 = some ⟨oc4, od4, .func (PySem.W.fnOf "is_below" "is_below" (defArgs sIsBelow) (defBody sIsBelow) (defScope sIsBelow) .none kV4 dc4 pm4 an4 cd4 ct4), sl4⟩)
    (c4 : PySem.W.codeIn K cd4 "is_below" = true)
    (k4 : PySem.W.keepIn K (.ref f4) = true)
    (a5 : PySem.W.nsIn K mainGlobals "is_net" = some (some (.ref f5)))
    (l5 : K.lookup f5 = some ⟨oc5, od5, .func (PySem.W.fnOf "is_net" "is_net" (defArgs sIsNet) (defBody sIsNet) (defScope sIsNet) .none kV5 dc5 pm5 an5 cd5 ct5), sl5⟩)
    (c5 : PySem.W.codeIn K cd5 "is_net" = true)
    (k5 : PySem.W.keepIn K (.ref f5) = true)
    (a6 : PySem.W.nsIn K mainGlobals "whole_lines" = some (some (.ref f6)))
    (l6 : K.lookup f6 = some ⟨oc6, od6, .func (PySem.W.fnOf "whole_lines" "whole_lines" (defArgs sWhole) (defBody sWhole) (defScope sWhole) .none kV6 dc6 pm6 an6 cd6 ct6), sl6⟩)
    (c6 : PySem.W.codeIn K cd6 "whole_lines" = true)
    (k6 : PySem.W.keepIn K (.ref f6) = true)
    (a7 : PySem.W.nsIn K mainGlobals "text_of" = some (some (.ref f7)))
    (l7 : K.lookup f7 = some ⟨oc7, od7, .func (PySem.W.fnOf "text_of" "text_of" (defArgs sTextOf) (defBody sTextOf) (defScope sTextOf) .none kV7 dc7 pm7 an7 cd7 ct7), sl7⟩)
    (c7 : PySem.W.codeIn K cd7 "text_of" = true)
    (k7 : PySem.W.keepIn K (.ref f7) = true)
    (a8 : PySem.W.nsIn K mainGlobals "print_net" = some (some (.ref f8)))
    (l8 : K.lookup f8 = some ⟨oc8, od8, .func (PySem.W.fnOf "print_net" "print_net" (defArgs sPrintNet) (defBody sPrintNet) (defScope sPrintNet) .none kV8 dc8 pm8 an8 cd8 ct8), sl8⟩)
    (c8 : PySem.W.codeIn K cd8 "print_net" = true)
    (k8 : PySem.W.keepIn K (.ref f8) = true)
    (a9 : PySem.W.nsIn K mainGlobals "parse_net" = some (some (.ref f9)))
    (l9 : K.lookup f9 = some ⟨oc9, od9, .func (PySem.W.fnOf "parse_net" "parse_net" (defArgs sParseNet) (defBody sParseNet) (defScope sParseNet) .none kV9 dc9 pm9 an9 cd9 ct9), sl9⟩)
    (c9 : PySem.W.codeIn K cd9 "parse_net" = true)
    (k9 : PySem.W.keepIn K (.ref f9) = true)
    (a10 : PySem.W.nsIn K mainGlobals "line_numbers" = some (some (.ref f10)))
    (l10 : K.lookup f10 = some ⟨oc10, od10, .func (PySem.W.fnOf "line_numbers" "line_numbers" (defArgs sLineNumbers) (defBody sLineNumbers) (defScope sLineNumbers) .none kV10 dc10 pm10 an10 cd10 ct10), sl10⟩)
    (c10 : PySem.W.codeIn K cd10 "line_numbers" = true)
    (k10 : PySem.W.keepIn K (.ref f10) = true)
    (a11 : PySem.W.nsIn K mainGlobals "_law_draws" = some (some (.ref f11)))
    (l11 : K.lookup f11 = some ⟨oc11, od11, .func (PySem.W.fnOf "_law_draws" "_law_draws" (defArgs sDraws) (defBody sDraws) (defScope sDraws) .none kV11 dc11 pm11 an11 cd11 ct11), sl11⟩)
    (c11 : PySem.W.codeIn K cd11 "_law_draws" = true)
    (k11 : PySem.W.keepIn K (.ref f11) = true)
    (a12 : PySem.W.nsIn K mainGlobals "_law_next" = some (some (.ref f12)))
    (l12 : K.lookup f12 = some ⟨oc12, od12, .func (PySem.W.fnOf "_law_next" "_law_next" (defArgs sNext) (defBody sNext) (defScope sNext) .none kV12 dc12 pm12 an12 cd12 ct12), sl12⟩)
    (c12 : PySem.W.codeIn K cd12 "_law_next" = true)
    (k12 : PySem.W.keepIn K (.ref f12) = true)
    (a13 : PySem.W.nsIn K mainGlobals "_law_pick" = some (some (.ref f13)))
    (l13 : K.lookup f13 = some ⟨oc13, od13, .func (PySem.W.fnOf "_law_pick" "_law_pick" (defArgs sLawPick) (defBody sLawPick) (defScope sLawPick) .none kV13 dc13 pm13 an13 cd13 ct13), sl13⟩)
    (c13 : PySem.W.codeIn K cd13 "_law_pick" = true)
    (k13 : PySem.W.keepIn K (.ref f13) = true)
    (a14 : PySem.W.nsIn K mainGlobals "_law_literal" = some (some (.ref f14)))
    (l14 : K.lookup f14 = some ⟨oc14, od14, .func (PySem.W.fnOf "_law_literal" "_law_literal" (defArgs sLawLiteral) (defBody sLawLiteral) (defScope sLawLiteral) .none kV14 dc14 pm14 an14 cd14 ct14), sl14⟩)
    (c14 : PySem.W.codeIn K cd14 "_law_literal" = true)
    (k14 : PySem.W.keepIn K (.ref f14) = true)
    (a15 : PySem.W.nsIn K mainGlobals "_law_net" = some (some (.ref f15)))
    (l15 : K.lookup f15 = some ⟨oc15, od15, .func (PySem.W.fnOf "_law_net" "_law_net" (defArgs sLawNet) (defBody sLawNet) (defScope sLawNet) .none kV15 dc15 pm15 an15 cd15 ct15), sl15⟩)
    (c15 : PySem.W.codeIn K cd15 "_law_net" = true)
    (k15 : PySem.W.keepIn K (.ref f15) = true)
    (a16 : PySem.W.nsIn K mainGlobals "_law_is_number" = some (some (.ref f16)))
    (l16 : K.lookup f16 = some ⟨oc16, od16, .func (PySem.W.fnOf "_law_is_number" "_law_is_number" (defArgs sLawIsNumber) (defBody sLawIsNumber) (defScope sLawIsNumber) .none kV16 dc16 pm16 an16 cd16 ct16), sl16⟩)
    (c16 : PySem.W.codeIn K cd16 "_law_is_number" = true)
    (k16 : PySem.W.keepIn K (.ref f16) = true)
    (a17 : PySem.W.nsIn K mainGlobals "_law_is_net" = some (some (.ref f17)))
    (l17 : K.lookup f17 = some ⟨oc17, od17, .func (PySem.W.fnOf "_law_is_net" "_law_is_net" (defArgs sLawIsNet) (defBody sLawIsNet) (defScope sLawIsNet) .none kV17 dc17 pm17 an17 cd17 ct17), sl17⟩)
    (c17 : PySem.W.codeIn K cd17 "_law_is_net" = true)
    (k17 : PySem.W.keepIn K (.ref f17) = true)
    (a18 : PySem.W.nsIn K mainGlobals "_law_numbers" = some (some (.ref f18)))
    (l18 : K.lookup f18 = some ⟨oc18, od18, .func (PySem.W.fnOf "_law_numbers" "_law_numbers" (defArgs sLawNumbers) (defBody sLawNumbers) (defScope sLawNumbers) .none kV18 dc18 pm18 an18 cd18 ct18), sl18⟩)
    (c18 : PySem.W.codeIn K cd18 "_law_numbers" = true)
    (k18 : PySem.W.keepIn K (.ref f18) = true)
    (a19 : PySem.W.nsIn K mainGlobals "_law_text" = some (some (.ref f19)))
    (l19 : K.lookup f19 = some ⟨oc19, od19, .func (PySem.W.fnOf "_law_text" "_law_text" (defArgs sLawText) (defBody sLawText) (defScope sLawText) .none kV19 dc19 pm19 an19 cd19 ct19), sl19⟩)
    (c19 : PySem.W.codeIn K cd19 "_law_text" = true)
    (k19 : PySem.W.keepIn K (.ref f19) = true)
    (a20 : PySem.W.nsIn K mainGlobals "_law_words" = some (some (.ref f20)))
    (l20 : K.lookup f20 = some ⟨oc20, od20, .func (PySem.W.fnOf "_law_words" "_law_words" (defArgs sLawWords) (defBody sLawWords) (defScope sLawWords) .none kV20 dc20 pm20 an20 cd20 ct20), sl20⟩)
    (c20 : PySem.W.codeIn K cd20 "_law_words" = true)
    (k20 : PySem.W.keepIn K (.ref f20) = true)
    (a21 : PySem.W.nsIn K mainGlobals "_law_due" = some (some (.ref f21)))
    (l21 : K.lookup f21 = some ⟨oc21, od21, .func (PySem.W.fnOf "_law_due" "_law_due" (defArgs sLawDue) (defBody sLawDue) (defScope sLawDue) .none kV21 dc21 pm21 an21 cd21 ct21), sl21⟩)
    (c21 : PySem.W.codeIn K cd21 "_law_due" = true)
    (k21 : PySem.W.keepIn K (.ref f21) = true)
    (a22 : PySem.W.nsIn K mainGlobals "_law_line_turned" = some (some (.ref f22)))
    (l22 : K.lookup f22 = some ⟨oc22, od22, .func (PySem.W.fnOf "_law_line_turned" "_law_line_turned" (defArgs sLawLineTurned) (defBody sLawLineTurned) (defScope sLawLineTurned) .none kV22 dc22 pm22 an22 cd22 ct22), sl22⟩)
    (c22 : PySem.W.codeIn K cd22 "_law_line_turned" = true)
    (k22 : PySem.W.keepIn K (.ref f22) = true)
    (a23 : PySem.W.nsIn K mainGlobals "_law_bent" = some (some (.ref f23)))
    (l23 : K.lookup f23 = some ⟨oc23, od23, .func (PySem.W.fnOf "_law_bent" "_law_bent" (defArgs sLawBent) (defBody sLawBent) (defScope sLawBent) .none kV23 dc23 pm23 an23 cd23 ct23), sl23⟩)
    (c23 : PySem.W.codeIn K cd23 "_law_bent" = true)
    (k23 : PySem.W.keepIn K (.ref f23) = true)
    (a24 : PySem.W.nsIn K mainGlobals "_law_told" = some (some (.ref f24)))
    (l24 : K.lookup f24 = some ⟨oc24, od24, .func (PySem.W.fnOf "_law_told" "_law_told" (defArgs sLawTold) (defBody sLawTold) (defScope sLawTold) .none kV24 dc24 pm24 an24 cd24 ct24), sl24⟩)
    (c24 : PySem.W.codeIn K cd24 "_law_told" = true)
    (k24 : PySem.W.keepIn K (.ref f24) = true)
    (a25 : PySem.W.nsIn K mainGlobals "law" = some (some (.ref f25)))
    (l25 : K.lookup f25 = some ⟨oc25, od25, .func (PySem.W.fnOf "law" "law" (defArgs sLaw) (defBody sLaw) (defScope sLaw) .none kV25 dc25 pm25 an25 cd25 ct25), sl25⟩)
    (c25 : PySem.W.codeIn K cd25 "law" = true)
    (k25 : PySem.W.keepIn K (.ref f25) = true)
    (lc : K.lookup cP = some ⟨pe, pd, .fields pvs, psl⟩)
    (lp : pvs[11]? = some (.ref Tb))
    (ln : K.lookup Tb = none)
    (gCC : PySem.W.nsIn K mainGlobals "CutError" = some (some (.ref CC)))
    (gCB : PySem.W.nsIn K mainGlobals "BadLine" = some (some (.ref CB)))
    (iCB : PySem.W.findIn K (.ref CB) "__init__" = some (some (.ref fI)))
    (tI : PySem.W.typeIn K (.ref fI) = some (.type "function"))
    (lI : K.lookup fI = some ⟨ocI, odI, .func (PySem.W.fnOf "__init__" "BadLine.__init__" (defArgs sInitB) (defBody sInitB) (defScope sInitB) .none kVI dcI pmI anI cdI ctI), slI⟩)
    (cI : PySem.W.codeIn K cdI "BadLine.__init__" = true)
    (kI : PySem.W.keepIn K (.ref fI) = true)
    (xCB : K.lookup CB = some (excClassObj nmCB qCB CB NCB bsCB [.ref CC, .type "ValueError", .type "Exception", .type "BaseException", .type "object"] true snCB subCB abCB colCB ddCB m0CB m1CB m2CB m3CB m5CB "ValueError.__new__"))
    (saCB : PySem.W.findIn K (.ref CB) "__setattr__" = some (some (.builtin "object.__setattr__")))
    (gaCB : PySem.W.findIn K (.ref CB) "__getattribute__" = some (some (.builtin "BaseException.__getattribute__")))
    (ggCB : PySem.W.findIn K (.ref CB) "__getattr__" = some none)
    (exCB : PySem.W.subIn K (.ref CB) (.type "BaseException") = some true)
    (tyCB : PySem.W.typeIn K (.ref CB) = some (.type "type"))
    (kpCB : PySem.W.keepIn K (.ref CB) = true)
    (hdCB : PySem.W.hasDictIn K CB = true)
    (clCB : PySem.W.findIn K (.ref CB) "__class__" = some (some (.builtin "object.__class__")))
    (moCB : PySem.W.mroIn K CB (.type "object") = some true)
    (nRCB : PySem.W.findIn K (.ref CB) "line" = some none)
    (sg : PySem.W.specialIn K (.builtin "object.__class__") "__get__" = some (some (.builtin "getset_descriptor.__get__")))
    (tk : PySem.W.takesIn K (.builtin "object.__class__") = some true)
    (sp : PySem.W.specialIn K (.ref CC) "__getattribute__" = some (some (.builtin "type.__getattribute__")))
    (rd : PySem.W.readsIn K CC (.type "type") = true)
    (fc : PySem.W.findCls K (.ref CC) (.type "type") "__init__" = some (.val (.builtin "ValueError.__init__")))
    (sCBCB : PySem.W.subIn K (.ref CB) (.ref CB) = some true)
    (qCBCC : PySem.W.subIn K (.ref CB) (.ref CC) = some true)
    (hdCC : PySem.W.hasDictIn K CC = true)
    (tyCC : PySem.W.typeIn K (.ref CC) = some (.type "type"))
    (tDi : PySem.W.nsIn K mainGlobals "DIGITS" = some (some (.str (Str.ofString "0123456789") tkD)))
    (tAo : PySem.W.nsIn K mainGlobals "AT_ONCE" = some (some (.int 1000 tkA)))
    (exCC : PySem.W.subIn K (.ref CC) (.type "BaseException") = some true)
    (z_type : PySem.W.nsIn K mainGlobals "type" = some none)
    (z_int : PySem.W.nsIn K mainGlobals "int" = some none)
    (z_tuple : PySem.W.nsIn K mainGlobals "tuple" = some none)
    (z_bool : PySem.W.nsIn K mainGlobals "bool" = some none)
    (z_str : PySem.W.nsIn K mainGlobals "str" = some none)
    (z_len : PySem.W.nsIn K mainGlobals "len" = some none)
    (z_all : PySem.W.nsIn K mainGlobals "all" = some none)
    (z_zip : PySem.W.nsIn K mainGlobals "zip" = some none)
    (z_range : PySem.W.nsIn K mainGlobals "range" = some none)
    (z_abs : PySem.W.nsIn K mainGlobals "abs" = some none)
    (z_isinstance : PySem.W.nsIn K mainGlobals "isinstance" = some none)
    (z_enumerate : PySem.W.nsIn K mainGlobals "enumerate" = some none)
    (z_min : PySem.W.nsIn K mainGlobals "min" = some none)
    (z_list : PySem.W.nsIn K mainGlobals "list" = some none)
    (z_sum : PySem.W.nsIn K mainGlobals "sum" = some none) :
    LamX.LawAtS l w K CX0 6 63 "script" mg fa h := by
  have M := fun {x : Str} {v : Value} (e : PySem.W.nsIn K mainGlobals x = some (some v)) => PySem.W.mg_of X G e
  have Z := fun {x : Str} (e : PySem.W.nsIn K mainGlobals x = some none) => PySem.W.mg_none_of X G e
  have e := hfa.symm.trans (M a25)
  cases e
  have line : ∀ n : Nat, n ≤ 100 → n ≤ sizeLine := fun n h => by
    rw [sizeLine_eq]
    omega
  have F0 := fun_mk (st := sIsNum) l0 c0 k0
  have B0 := F0.binds (ps := ["text"]) fun _ _ _ _ _ _ us hl => match us, hl with | [_], _ => rfl
  have F1 := fun_mk (st := sNumberOf) l1 c1 k1
  have B1 := F1.binds (ps := ["text"]) fun _ _ _ _ _ _ us hl => match us, hl with | [_], _ => rfl
  have F2 := fun_mk (st := sPowerOfTen) l2 c2 k2
  have B2 := F2.binds (ps := ["many"]) fun _ _ _ _ _ _ us hl => match us, hl with | [_], _ => rfl
  have F3 := fun_mk (st := sIsTuple) l3 c3 k3
  have B3 := F3.binds (ps := ["thing", "many"]) fun _ _ _ _ _ _ us hl => match us, hl with | [_, _], _ => rfl
  have F4 := fun_mk (st := sIsBelow) l4 c4 k4
  have B4 := F4.binds (ps := ["thing", "limit"]) fun _ _ _ _ _ _ us hl => match us, hl with | [_, _], _ => rfl
  have F5 := fun_mk (st := sIsNet) l5 c5 k5
  have B5 := F5.binds (ps := ["thing"]) fun _ _ _ _ _ _ us hl => match us, hl with | [_], _ => rfl
  have F6 := fun_mk (st := sWhole) l6 c6 k6
  have B6 := F6.binds (ps := ["text"]) fun _ _ _ _ _ _ us hl => match us, hl with | [_], _ => rfl
  have F7 := fun_mk (st := sTextOf) l7 c7 k7
  have B7 := F7.binds (ps := ["lines"]) fun _ _ _ _ _ _ us hl => match us, hl with | [_], _ => rfl
  have F8 := fun_mk (st := sPrintNet) l8 c8 k8
  have B8 := F8.binds (ps := ["net"]) fun _ _ _ _ _ _ us hl => match us, hl with | [_], _ => rfl
  have F9 := fun_mk (st := sParseNet) l9 c9 k9
  have B9 := F9.binds (ps := ["text"]) fun _ _ _ _ _ _ us hl => match us, hl with | [_], _ => rfl
  have F10 := fun_mk (st := sLineNumbers) l10 c10 k10
  have B10 := F10.binds (ps := ["line", "word", "many"]) fun _ _ _ _ _ _ us hl => match us, hl with | [_, _, _], _ => rfl
  have F11 := fun_mk (st := sDraws) l11 c11 k11
  have B11 := F11.binds (ps := ["script", "many"]) fun _ _ _ _ _ _ us hl => match us, hl with | [_, _], _ => rfl
  have F12 := fun_mk (st := sNext) l12 c12 k12
  have B12 := F12.binds (ps := ["w", "many"]) fun _ _ _ _ _ _ us hl => match us, hl with | [_, _], _ => rfl
  have F13 := fun_mk (st := sLawPick) l13 c13 k13
  have B13 := F13.binds (ps := ["w", "rows"]) fun _ _ _ _ _ _ us hl => match us, hl with | [_, _], _ => rfl
  have F14 := fun_mk (st := sLawLiteral) l14 c14 k14
  have B14 := F14.binds (ps := ["w", "many"]) fun _ _ _ _ _ _ us hl => match us, hl with | [_, _], _ => rfl
  have F15 := fun_mk (st := sLawNet) l15 c15 k15
  have B15 := F15.binds (ps := ["w", "latches", "ands", "outs"]) fun _ _ _ _ _ _ us hl => match us, hl with | [_, _, _, _], _ => rfl
  have F16 := fun_mk (st := sLawIsNumber) l16 c16 k16
  have B16 := F16.binds (ps := ["thing", "most"]) fun _ _ _ _ _ _ us hl => match us, hl with | [_, _], _ => rfl
  have F17 := fun_mk (st := sLawIsNet) l17 c17 k17
  have B17 := F17.binds (ps := ["thing"]) fun _ _ _ _ _ _ us hl => match us, hl with | [_], _ => rfl
  have F18 := fun_mk (st := sLawNumbers) l18 c18 k18
  have B18 := F18.binds (ps := ["line", "word", "many"]) fun _ _ _ _ _ _ us hl => match us, hl with | [_, _, _], _ => rfl
  have F19 := fun_mk (st := sLawText) l19 c19 k19
  have B19 := F19.binds (ps := ["net"]) fun _ _ _ _ _ _ us hl => match us, hl with | [_], _ => rfl
  have F20 := fun_mk (st := sLawWords) l20 c20 k20
  have B20 := F20.binds (ps := ["heads"]) fun _ _ _ _ _ _ us hl => match us, hl with | [_], _ => rfl
  have F21 := fun_mk (st := sLawDue) l21 c21 k21
  have B21 := F21.binds (ps := ["text"]) fun _ _ _ _ _ _ us hl => match us, hl with | [_], _ => rfl
  have F22 := fun_mk (st := sLawLineTurned) l22 c22 k22
  have B22 := F22.binds (ps := ["w", "lines"]) fun _ _ _ _ _ _ us hl => match us, hl with | [_, _], _ => rfl
  have F23 := fun_mk (st := sLawBent) l23 c23 k23
  have B23 := F23.binds (ps := ["w", "text"]) fun _ _ _ _ _ _ us hl => match us, hl with | [_, _], _ => rfl
  have F24 := fun_mk (st := sLawTold) l24 c24 k24
  have B24 := F24.binds (ps := ["text"]) fun _ _ _ _ _ _ us hl => match us, hl with | [_], _ => rfl
  have F25 := fun_mk (st := sLaw) l25 c25 k25
  have B25 := F25.binds (ps := ["script"]) fun _ _ _ _ _ _ us hl => match us, hl with | [_], _ => rfl
  have FI := fun_mk (st := sInitB) lI cI kI
  have BI := FI.binds (ps := ["self", "line"]) fun _ _ _ _ _ _ us hl => match us, hl with | [_, _], _ => rfl
  have OB : OexC K CB := ⟨⟨_, _, _, _, _, _, _, _, _, _, _, _, _, _, _, xCB, by show PySem.HandSPX.refsVE [.type "ValueError", .type "Exception", .type "BaseException", .type "object"] = true; decide +kernel⟩, saCB, exCB, tyCB, kpCB⟩
  have RB : ErrB K mg CB fI := ⟨OB, iCB, nRCB, M gCB⟩
  have XB : ErrT K mg CB := ⟨M gCB, ⟨gaCB, ggCB, exCB, hdCB⟩, ⟨gaCB, ggCB, exCB, hdCB, clCB, sg, tk, moCB⟩, nRCB⟩
  have GP : Gp mg := ⟨Z z_type, Z z_int, Z z_tuple, Z z_bool, Z z_len, Z z_all, Z z_enumerate, Z z_isinstance, Z z_min, Z z_range, Z z_list⟩
  have BL : Bl mg := ⟨Z z_len, Z z_range, Z z_abs, Z z_int, Z z_str⟩
  have BB : BT mg := ⟨Z z_len, Z z_all, Z z_tuple, Z z_int⟩
  have BN1 : BN mg := ⟨Z z_len, Z z_int, Z z_range⟩
  have BD1 : BD mg := ⟨Z z_sum, Z z_enumerate⟩
  have BE1 : BE mg := ⟨Z z_zip⟩
  obtain ⟨hP, hC⟩ := own _ _ _ _ _ _ _ _ _ (M a0) l0 rfl rfl lc lp
  refine ⟨PySem.W.fnOf "law" "law" (defArgs sLaw) (defBody sLaw) (defScope sLaw) .none kV25 dc25 pm25 an25 cd25 ct25, [(cP, Tb)], spLaw K Tb, fun p hp => ?_, fun p hp => ?_, fun p hp => ?_, fun s u => .of_eq rfl, fun H a ns hl _ hH hS => ⟨a, ns, rfl, hS, hl, ⟨#[], hH _ (List.mem_singleton.mpr rfl), trivial⟩, fun _ => rfl⟩, fun base _ _ TB => ?_⟩
  · rw [List.mem_singleton.mp hp]
    exact hP
  · rw [List.mem_singleton.mp hp]
    exact ln
  · rw [List.mem_singleton.mp hp]
    exact hC
  · have tb0 := TB _ (List.mem_singleton.mpr rfl)
    have tb : TabB base mg cP Tb := ⟨tb0.code, tb0.bm, tb0.gP⟩
    have G0 := ok_isnum (P := l.prog) (w := w) (fd := PySem.W.fnOf "is_number" "is_number" (defArgs sIsNum) (defBody sIsNum) (defScope sIsNum) .none kV0 dc0 pm0 an0 (.ref cP) ct0) l0 c0 (M tDi) (Z z_all) tb
    have GI : FnOk l.prog w K mg base CX0 1 fI _ ["self", "line"] (spInitB K) := ok_initB FI (M gCC) sp rd fc
    have G2 : FnOk l.prog w K mg base CX0 1 f2 _ ["many"] spTen := ok_ten F2 BN1
    have G1 : FnOk l.prog w K mg base CX0 2 f1 _ ["text"] spNof := ok_nof F1 BN1 (M tAo) G2 k2 B2 (M a2)
    have G3 : FnOk l.prog w K mg base CX0 1 f3 _ ["thing", "many"] (spIsTuple K) := ok_isTuple F3 GP
    have G4 : FnOk l.prog w K mg base CX0 1 f4 _ ["thing", "limit"] (spIsBelow K) := ok_isBelow F4 GP
    have G5 : FnOk l.prog w K mg base CX0 2 f5 _ ["thing"] (spIsNet K) := ok_isNet F5 GP G3 k3 B3 (M a3) G4 k4 B4 (M a4)
    have G6 : FnOk l.prog w K mg base (L2.CX l.prog w) 3 f6 _ ["text"] (spWhole K CB) := ok_whole F6 BB RB tI GI BI
    have G7 : FnOk l.prog w K mg base CX0 1 f7 _ ["lines"] (spTextOf K) := ok_textOf F7
    have G8 : FnOk l.prog w K mg base CX0 2 f8 _ ["net"] (spPrint K) := ok_print F8 BB BE1 (Z z_str) G7 k7 B7 (M a7)
    have G10 : FnOk l.prog w K mg base CX0 3 f10 _ ["line", "word", "many"] (spLine K Tb) := ok_line F10 BB G0 k0 B0 (M a0) G1 k1 B1 (M a1)
    have G9 : FnOk l.prog w K mg base (L2.CX l.prog w) 4 f9 _ ["text"] (spParse K Tb CB) := ok_parse F9 BB BD1 G6 k6 B6 (M a6) G10 k10 B10 (M a10) G5 k5 B5 (M a5) RB tI GI BI
    have G11 : FnOk l.prog w K mg base CX0 1 f11 _ ["script", "many"] (spDraws K) := ok_draws F11 BL
    have G12 : FnOk l.prog w K mg base CX0 1 f12 _ ["w", "many"] spNext := ok_next F12 BL
    have G13 : FnOk l.prog w K mg base CX0 2 f13 _ ["w", "rows"] (spPick K) := ok_pick F13 GP G12 k12 B12 (M a12)
    have G14 : FnOk l.prog w K mg base CX0 2 f14 _ ["w", "many"] spLiteral := ok_lliteral F14 GP G12 k12 B12 (M a12)
    have G15 : FnOk l.prog w K mg base CX0 3 f15 _ ["w", "latches", "ands", "outs"] (spDrawn K) := ok_drawn F15 GP G12 k12 B12 (M a12) G14 k14 B14 (M a14)
    have G16 : FnOk l.prog w K mg base CX0 1 f16 _ ["thing", "most"] (spIsN K) := ok_isN F16 GP
    have G17 : FnOk l.prog w K mg base CX0 2 f17 _ ["thing"] (spIsNet K) := ok_lNet F17 GP G16 k16 B16 (M a16)
    have G18 : FnOk l.prog w K mg base CX0 1 f18 _ ["line", "word", "many"] (spLNums K) := ok_lnumbers F18 BB
    have G19 : FnOk l.prog w K mg base CX0 1 f19 _ ["net"] (spPrint K) := ok_lText F19 BL
    have G20 : FnOk l.prog w K mg base CX0 1 f20 _ ["heads"] (spWords K) := ok_words F20
    have G21 : FnOk l.prog w K mg base CX0 3 f21 _ ["text"] (spDue K) := ok_due F21 BB BL BD1 G18 k18 B18 (M a18) G20 k20 B20 (M a20) G17 k17 B17 (M a17)
    have G22 : FnOk l.prog w K mg base CX0 3 f22 _ ["w", "lines"] (spTurn K) := ok_turn F22 BB G12 k12 B12 (M a12) G13 k13 B13 (M a13)
    have G23 : FnOk l.prog w K mg base CX0 4 f23 _ ["w", "text"] (spBent K) := ok_bent F23 BB G12 k12 B12 (M a12) G13 k13 B13 (M a13) G22 k22 B22 (M a22)
    have G24 : FnOk l.prog w K mg base CX0 5 f24 _ ["text"] (spTold K Tb) := ok_told F24 XB (M gCC) GP G9 k9 B9 (M a9) (PySem.W.exm_ref exCC hdCC tyCC qCBCC) (kit_ref hdCB tyCB sCBCB)
    exact ok_law F25 BB BL (Z z_isinstance) G11 k11 B11 (M a11) G12 k12 B12 (M a12) G15 k15 B15 (M a15) G19 k19 B19 (M a19) G8 k8 B8 (M a8) G24 k24 B24 (M a24) G23 k23 B23 (M a23) G21 k21 B21 (M a21) G17 k17 B17 (M a17)
end C1

open PySem PySem.W PyProof.Rows
set_option maxRecDepth 100000 in
set_option maxHeartbeats 0 in
theorem PySem.Challenge.cw_stagecut_k34_texts_of_nets_holds : PySem.Challenge.rw_stagecut_k34_texts_of_nets.Holds := by
  w_on; o_law; k_head; (case hw => w_witness2)
  k_fill
  refine C1.walk_ofDef (l := PySem.Challenge.rw_stagecut_k34_texts_of_nets) (n := 63) (k := 6) (x := "script") (nm := "is_number") (CX := fun _ => L2.CX0) rfl (by decide) rfl ⟨rfl, by decide, by decide⟩ (by decide +kernel) (fun w h Y => PySem.W.kIn_of Y) ?F (fun _ _ _ _ _ h => h)
  case F =>
    intro w mg fa h Y KX G hmg own
    refine' C1.all_mk KX G hmg own ?a0 ?l0 ?c0 ?k0 ?a1 ?l1 ?c1 ?k1 ?a2 ?l2 ?c2 ?k2 ?a3 ?l3 ?c3 ?k3 ?a4 ?l4 ?c4 ?k4 ?a5 ?l5 ?c5 ?k5 ?a6 ?l6 ?c6 ?k6 ?a7 ?l7 ?c7 ?k7 ?a8 ?l8 ?c8 ?k8 ?a9 ?l9 ?c9 ?k9 ?a10 ?l10 ?c10 ?k10 ?a11 ?l11 ?c11 ?k11 ?a12 ?l12 ?c12 ?k12 ?a13 ?l13 ?c13 ?k13 ?a14 ?l14 ?c14 ?k14 ?a15 ?l15 ?c15 ?k15 ?a16 ?l16 ?c16 ?k16 ?a17 ?l17 ?c17 ?k17 ?a18 ?l18 ?c18 ?k18 ?a19 ?l19 ?c19 ?k19 ?a20 ?l20 ?c20 ?k20 ?a21 ?l21 ?c21 ?k21 ?a22 ?l22 ?c22 ?k22 ?a23 ?l23 ?c23 ?k23 ?a24 ?l24 ?c24 ?k24 ?a25 ?l25 ?c25 ?k25 ?lc ?lp ?ln ?gCC ?gCB ?iCB ?tI ?lI ?cI ?kI ?xCB ?saCB ?gaCB ?ggCB ?exCB ?tyCB ?kpCB ?hdCB ?clCB ?moCB ?nRCB ?sg ?tk ?sp ?rd ?fc ?sCBCB ?qCBCC ?hdCC ?tyCC ?tDi ?tAo ?exCC ?z_type ?z_int ?z_tuple ?z_bool ?z_str ?z_len ?z_all ?z_zip ?z_range ?z_abs ?z_isinstance ?z_enumerate ?z_min ?z_list ?z_sum
    (case a0 => k_is)
    (case l0 => k_is)
    (case c0 => k_is)
    (case k0 => k_is)
    (case a1 => k_is)
    (case l1 => k_is)
    (case c1 => k_is)
    (case k1 => k_is)
    (case a2 => k_is)
    (case l2 => k_is)
    (case c2 => k_is)
    (case k2 => k_is)
    (case a3 => k_is)
    (case l3 => k_is)
    (case c3 => k_is)
    (case k3 => k_is)
    (case a4 => k_is)
    (case l4 => k_is)
    (case c4 => k_is)
    (case k4 => k_is)
    (case a5 => k_is)
    (case l5 => k_is)
    (case c5 => k_is)
    (case k5 => k_is)
    (case a6 => k_is)
    (case l6 => k_is)
    (case c6 => k_is)
    (case k6 => k_is)
    (case a7 => k_is)
    (case l7 => k_is)
    (case c7 => k_is)
    (case k7 => k_is)
    (case a8 => k_is)
    (case l8 => k_is)
    (case c8 => k_is)
    (case k8 => k_is)
    (case a9 => k_is)
    (case l9 => k_is)
    (case c9 => k_is)
    (case k9 => k_is)
    (case a10 => k_is)
    (case l10 => k_is)
    (case c10 => k_is)
    (case k10 => k_is)
    (case a11 => k_is)
    (case l11 => k_is)
    (case c11 => k_is)
    (case k11 => k_is)
    (case a12 => k_is)
    (case l12 => k_is)
    (case c12 => k_is)
    (case k12 => k_is)
    (case a13 => k_is)
    (case l13 => k_is)
    (case c13 => k_is)
    (case k13 => k_is)
    (case a14 => k_is)
    (case l14 => k_is)
    (case c14 => k_is)
    (case k14 => k_is)
    (case a15 => k_is)
    (case l15 => k_is)
    (case c15 => k_is)
    (case k15 => k_is)
    (case a16 => k_is)
    (case l16 => k_is)
    (case c16 => k_is)
    (case k16 => k_is)
    (case a17 => k_is)
    (case l17 => k_is)
    (case c17 => k_is)
    (case k17 => k_is)
    (case a18 => k_is)
    (case l18 => k_is)
    (case c18 => k_is)
    (case k18 => k_is)
    (case a19 => k_is)
    (case l19 => k_is)
    (case c19 => k_is)
    (case k19 => k_is)
    (case a20 => k_is)
    (case l20 => k_is)
    (case c20 => k_is)
    (case k20 => k_is)
    (case a21 => k_is)
    (case l21 => k_is)
    (case c21 => k_is)
    (case k21 => k_is)
    (case a22 => k_is)
    (case l22 => k_is)
    (case c22 => k_is)
    (case k22 => k_is)
    (case a23 => k_is)
    (case l23 => k_is)
    (case c23 => k_is)
    (case k23 => k_is)
    (case a24 => k_is)
    (case l24 => k_is)
    (case c24 => k_is)
    (case k24 => k_is)
    (case a25 => k_is)
    (case l25 => k_is)
    (case c25 => k_is)
    (case k25 => k_is)
    (case lc => k_is)
    (case lp => rfl)
    (case ln => first | kernel_rfl | with_unfolding_all rfl | rfl)
    (case gCC => k_is)
    (case gCB => k_is)
    (case iCB => k_is)
    (case tI => k_is)
    (case lI => k_is)
    (case cI => k_is)
    (case kI => k_is)
    (case xCB => k_is)
    (case saCB => k_is)
    (case gaCB => k_is)
    (case ggCB => k_is)
    (case exCB => k_is)
    (case tyCB => k_is)
    (case kpCB => k_is)
    (case hdCB => k_is)
    (case clCB => k_is)
    (case moCB => k_is)
    (case nRCB => k_is)
    (case sg => k_is)
    (case tk => k_is)
    (case sp => k_is)
    (case rd => k_is)
    (case fc => k_is)
    (case sCBCB => k_is)
    (case qCBCC => k_is)
    (case hdCC => k_is)
    (case tyCC => k_is)
    (case tDi => k_is)
    (case tAo => k_is)
    (case exCC => k_is)
    (case z_type => k_is)
    (case z_int => k_is)
    (case z_tuple => k_is)
    (case z_bool => k_is)
    (case z_str => k_is)
    (case z_len => k_is)
    (case z_all => k_is)
    (case z_zip => k_is)
    (case z_range => k_is)
    (case z_abs => k_is)
    (case z_isinstance => k_is)
    (case z_enumerate => k_is)
    (case z_min => k_is)
    (case z_list => k_is)
    (case z_sum => k_is)

