import PyProof.Rows.All
import Wide.All
import OpenK.AllK
import Wide.FinOn
import PySem.Challenge.RW_stagecut_k14_waves_of_what_is_told
import HandS.ForMost
import HandS.ForExc
import HandS.Codes
import HandS.StrMore
import HandS.IsInst
import HandS.More
import HandS.Zip
import HandS.WideBits
import HandS.CallLocal
import HandS.DictComp
import HandS.TupLe
import HandS.Conv
import HandS.Zip0
import HandS.TupAny
import HandS.Star
import HandS.AnyAll
import HandS.ExcInit
import HandS.ExcField
import HandS.ExcIs
import KE.KExcIs
import HandS.TryOnly
import KE.KTupSum
import PyProof.StrBlock2
import HandS.NoneIn
import HandS.FStr
import HandS.RaiseMore
import PyProof.SeqIndex
import PyProof.Rows.StrSplitCount
import PyProof.Rows.StrSplitAre
import PyProof.StrLawsTight
import PyProof.StrLawsChain
import HandS.EndTab
set_option Elab.async false
set_option linter.all false
set_option maxRecDepth 100000
set_option maxHeartbeats 8000000
set_option pp.maxSteps 500
/-! enumerate of a tuple. -/
namespace EnT
open PySem PySem.Spec PyProof.Rows L2
open PySem.Sem (wp)
open PySem.AutoSeq1 (wpAny_loadPart')
theorem draws_tup {prog : Program} {w : World} {A : Around} (hh : A.handled = none) (it tp : Addr) (hne : tp ≠ it) (vals : Array Value) :
    Draws prog w A it [it, tp] vals.size (fun i v => vals[i]? = some v) (fun i h => h.IsTupleIter it tp i ∧ h.IsTuple tp vals) where
  live := fun _ _ q => by
    obtain ⟨⟨ob, e, _⟩, _⟩ := q
    exact ⟨ob, e⟩
  frame := fun _ _ _ q k => ⟨q.1.at fun ob e => k it (by simp) ob e, q.2.at fun ob e => k tp (by simp) ob e⟩
  item := fun i s Q E hi q k => by
    refine RZ.nextOf_tuple_item q.1 q.2 (x := vals[i]) (by simp [hi]) fun hp q1 q2 => ?_
    exact k _ hp s.toks (by simp [hi]) ⟨q1, q.2.extBut q2.extBut hne⟩ q2
  done := fun s Q E q k => RZ.nextOf_tuple_end hh q.1 q.2 (by simp) k
abbrev itO (tp : Addr) : Obj := { cls := .type "tuple_iterator", data := .fields #[.ref tp, .int 0 0] }
abbrev enO (it : Addr) : Obj := { cls := .type "enumerate", data := .fields #[.none, .bool false, .ref it, rawInt 0, .none, .none] }
theorem new_enumT (tp : Addr) (vals : Array Value) (n : Nat) (dct : Option Addr) (sl : Array (Option Value)) :
    Meets (Builtin.«enumerate.__new__» ⟨[.type "enumerate", .ref tp], []⟩) (fun _ R s => s.heap.get? tp = some { cls := .type "tuple", dict := dct, data := .seq vals n, slots := sl } ∧
      R (.ok (.ret (.ref (s.heap.push (itO tp)).objs.size))) { s with heap := (s.heap.push (itO tp)).push (enO s.heap.objs.size) }) := by
  refine .of_wp fun prog w A R s hq => ?_
  obtain ⟨hp, gs, dd, tk, rest⟩ := s
  obtain ⟨ht, q⟩ := hq
  have sub := sub_enumerate
  have isT : Heap.IsTuple (Shared.heap ⟨hp, gs, dd, tk, rest⟩) tp vals := ⟨_, ht, rfl, n, rfl⟩
  wp_walk using wpAny_loadPart' ht
  refine wpAny_stack_any fun _ => wpAny_pure ?_
  split
  · rename_i c _ _ _ _ _
    cases (c == Value.type "enumerate")
    · wp_walk using wpAny_loadPart' ht, wpAny_pyIter_tuple isT
      exact ⟨_, rfl, q⟩
    · wp_walk using wpAny_loadPart' ht, wpAny_pyIter_tuple isT
      exact ⟨_, rfl, q⟩
  · wp_walk using wpAny_loadPart' ht, wpAny_pyIter_tuple isT
    exact ⟨_, rfl, q⟩
section
variable {prog : Program} {w : World} {A : Around} {E : Value → Shared → Prop} {s : Shared}
theorem call_enumT {tp : Addr} {vals : Array Value} {Q : Value → Shared → Prop} (hT : s.heap.IsTuple tp vals)
    (k : ∀ hp, IsEnum hp (s.heap.objs.size + 1) s.heap.objs.size 0 .none → hp.IsTupleIter s.heap.objs.size tp 0 → (∀ b o, s.heap.get? b = some o → hp.get? b = some o) → Q (.ref (s.heap.objs.size + 1)) { s with heap := hp }) :
    wpAny (model prog w) A (call (.type "enumerate") [.ref tp]) Q E s := by
  obtain ⟨⟨cl, dct, dt, sl⟩, ht, e1, n, e2⟩ := hT
  obtain rfl : cl = .type "tuple" := e1
  obtain rfl : dt = .seq vals n := e2
  refine callType_new F.called_enumerate (by decide) (F.typeCall_enumerate_1 _) (F.newCall_enumerate_1 _) (fun ob => F.args_object_init_2 ob _) F.entry_enumerate_new (new_enumT tp vals n dct sl) ⟨ht, ?_⟩
  have sz : (s.heap.push (itO tp)).objs.size = s.heap.objs.size + 1 := Heap.size_push ..
  show _ ∧ _
  rw [sz]
  have en : IsEnum ((s.heap.push (itO tp)).push (enO s.heap.objs.size)) (s.heap.objs.size + 1) s.heap.objs.size 0 .none := by
    have g := Heap.get?_push_size (s.heap.push (itO tp)) (o := enO s.heap.objs.size) rfl
    rw [sz] at g
    exact g
  exact ⟨⟨_, en, rfl⟩, k _ en ⟨_, Heap.get?_push_of_some _ (Heap.get?_push_size _ rfl), rfl, rfl⟩ fun b o y => Heap.get?_push_of_some _ (Heap.get?_push_of_some _ y)⟩
end
/-- the tuple at a at each turn, its items in new pairs -/
def ItT (K : PySem.W.Frag) (a : Addr) : It :=
  ⟨fun i H => ∃ (xs : List V) (x : V), SqT K H a xs ∧ xs[i]? = some x, fun i H v H' => ∃ T x, v = .ref T ∧ H T = none ∧ H' = upd H T (.tup [.int (i : Nat), x]) ∧ ∀ xs, SqT K H a xs → xs[i]? = some x, fun i H => ∃ xs : List V, SqT K H a xs ∧ xs.length ≤ i⟩
theorem turn {P : Program} {w : World} {K : PySem.W.Frag} {elts : List Expr} {kk : Nat} {tpos : Pos} (a e it : Addr) :
    Turn P w K (.Tuple elts kk tpos) (ItT K a) [e, it] e (fun i h => (∃ old, IsEnum h e it ((i : Nat) : Int) old) ∧ h.IsTupleIter it a i ∧ e ≠ it) where
  mem := by simp
  obj := fun i h q b hb => by
    obtain ⟨⟨old, en⟩, ⟨o, ho, hc, hd⟩, _⟩ := q
    rcases (show b = e ∨ b = it by simpa using hb) with rfl | rfl
    · exact ⟨_, en, fun v z => nomatch z⟩
    · exact ⟨o, ho, fun v z => by rw [hd] at z; cases z⟩
  keep := fun i h h' q k => by
    obtain ⟨⟨old, en⟩, ti, ne⟩ := q
    exact ⟨⟨old, k e (by simp) _ en⟩, ti.at fun o z => k it (by simp) o z, ne⟩
  item := by
    intro X hP hw hK hc i pins s σ H E I hf q hg
    subst hP hw hK
    obtain ⟨⟨old, en⟩, ti, ne⟩ := q
    obtain ⟨xs, x, hq, hx⟩ := hg
    obtain ⟨its, rv, p, hz⟩ := I.tuple hq
    have p : s.heap.IsTuple a its.toArray := p
    obtain ⟨u, hu, ru⟩ := rv.get hx
    have an : a ≠ it := fun z => by
      obtain ⟨o1, g1, c1, _⟩ := p
      obtain ⟨o2, g2, c2, _⟩ := ti
      rw [z, g2] at g1
      cases g1
      rw [c2] at c1
      exact absurd c1 (by decide)
    have ea : e ≠ a := fun z => by
      obtain ⟨o1, g1, c1, _⟩ := p
      have en2 : s.heap.get? e = some _ := en
      rw [z, g1] at en2
      cases en2
      exact absurd (show Value.type "enumerate" = Value.type "tuple" from c1) (by decide)
    have el : e < s.heap.objs.size := Heap.lt_size en
    have il : it < s.heap.objs.size := by
      obtain ⟨_, z, _⟩ := ti
      exact Heap.lt_size z
    have hl := (List.getElem?_eq_some_iff.mp hu).1
    refine wpAny_pyNext_enum_itemD (draws_tup (show X.A.in1.handled = none from I.ok.hd hc) it a an its.toArray) en ⟨ti, p⟩ (by simpa using hl) ne (by simp [ne, ea]) fun y h' tk hy ho hs hT hsz hk => ?_
    obtain rfl : u = y := by
      have z : its.toArray[i]? = some y := hy
      have z2 : its.toArray[i]? = some u := by simpa using hu
      rw [z] at z2
      exact (Option.some.inj z2).symm
    refine ⟨_, rfl, wpAny_letOwnedTupleGo_enum (s := { s with heap := h', toks := tk + 1 }) ho fun h2 en2 sb => ?_⟩
    have hT2 : h2.get? s.heap.objs.size = some { cls := .type "tuple", data := .seq #[.int i tk, u] } := (sb.2 _ (Nat.ne_of_gt el)).trans hT
    have old2 : ∀ b o, b ≠ e → b ≠ it → s.heap.get? b = some o → h2.get? b = some o := fun b o n1 n2 z => (sb.2 b n1).trans (hk b o n1 n2 z)
    have fresh : ObjOk X.prog X.w (upd H s.heap.objs.size (.tup [.int (i : Nat), x])) h2 s.heap.objs.size (.tup [.int (i : Nat), x]) := ⟨by show 2 ≤ sizeLine; decide, [.int i tk, u], .cons ⟨_, rfl⟩ (.cons ru .nil), ⟨_, hT2, rfl, _, rfl⟩⟩
    have I1 : Inv X pins σ (upd H s.heap.objs.size (.tup [.int (i : Nat), x])) { s with heap := h2, toks := tk + 1 } :=
      I.turnedNew (ch := [e, it]) (fun b ob hb z => old2 b ob (fun y => hb (by simp [y])) (fun y => hb (by simp [y])) z) hf (Nat.le_refl _) fresh
    refine ⟨.ref s.heap.objs.size, _, I1, rfl, ⟨_, x, rfl, I.hok.fresh (Nat.le_refl _), rfl, fun ys hy => by rw [I.tuple_inj hy hq]; exact hx⟩, ⟨⟨u, ?_⟩, hs.1.at fun o z => (sb.2 it ne.symm).trans z, ne⟩, fun b hb => ?_⟩
    · rw [show ((i + 1 : Nat) : Int) = (i : Int) + 1 by omega]
      exact en2
    · have lt : b < s.heap.objs.size := by
        rcases (show b = e ∨ b = it by simpa using hb) with rfl | rfl
        · exact el
        · exact il
      rw [upd_ne (Nat.ne_of_lt lt)]
      exact (hf b hb).1
  done := by
    intro X hP hw hK hc i pins s σ H E I hf q hg
    subst hP hw hK
    obtain ⟨⟨old, en⟩, ti, ne⟩ := q
    obtain ⟨xs, hq, hx⟩ := hg
    obtain ⟨its, rv, p, hz⟩ := I.tuple hq
    have p : s.heap.IsTuple a its.toArray := p
    obtain ⟨f0, f1, f2, f3, f4, f5⟩ := hf it (by simp)
    have hl := rv.length
    have hend : its.toArray[i]? = none := by simp; omega
    have hT : s.TypeIs (.ref e) "enumerate" := ⟨_, en, rfl⟩
    unfold pyNext
    refine wpAny_bind (wpAny_attempt (wpAny_callSpecial?_slot (name := Str.ofString "__next__") hT F.slot_enumerate_next (wpAny_call_entry F.slot_enumerate_next hT F.entry_enumerate_next ?_ (F.args_enumerate_next_1 _))))
    show wpAny _ _ (field (.ref e) 2 >>= _) _ _ _
    refine wpAny_bind (wpAny_field en rfl (x := .ref it) rfl ?_)
    refine wpAny_bind (RZ.nextOf_tuple_end (show X.A.in1.handled = none from I.ok.hd hc) ti p hend fun h' x eb hx' => ?_)
    obtain ⟨o, ho, hcl⟩ := hx'
    refine wpAny_bind (wpAny_isInstance (T := "StopIteration") (b := true) ⟨o, ho, hcl⟩ isSubtype_stop ?_)
    exact wpAny_pure ⟨rfl, I.turned (t' := s.toks) (fun b o hb z => eb b o hb z) f0 f1 f3 f4 f5⟩
  self := fun A i s Q E q h => by
    obtain ⟨⟨_, en⟩, _⟩ := q
    exact wpAny_pyIter_enum en h
def iEnT (K : PySem.W.Frag) (ta : TA) : TI := fun σ H R => ta σ H fun vs H1 => ∃ a xs, vs = [.ref a] ∧ SqT K H1 a xs ∧ R (ItT K a) H1
theorem pi_enT {X : Cx} {e : Expr} {ta : TA} {p pos tpos : Pos} {elts : List Expr} {kk : Nat} (hg : Gl X "enumerate") (hm : X.mg "enumerate" = none) (ha : PA X [e] ta) (hs : starEach [e] X.env = [(false, eval e X.env)] := by rfl) :
    PI X (.Tuple elts kk tpos) (.Call (.Name "enumerate" p) [e] [] pos) (iEnT X.K ta) := by
  refine ⟨fun pins s σ H R I h => ?_⟩
  refine Call_ (ld_blt I hg hm boot_enumerate (PyProof.Rows.callWith_type1 (thn (ha.run pos pins s σ H _ I h) fun us s1 ⟨vs, H1, I1, r1, q1⟩ => ?_) hs rfl))
  obtain ⟨a, xs, rfl, hq, q⟩ := q1
  cases r1 with
  | cons r rr =>
    cases rr
    cases r
    obtain ⟨its, rv, pt, hz⟩ := I1.tuple hq
    refine call_enumT (show s1.heap.IsTuple a its.toArray from pt) fun hp en ti hk => wpAny_pyIter_enum en ?_
    have I2 : Inv X pins σ H1 { s1 with heap := hp } := I1.kept (t' := s1.toks) hk
    refine ⟨s1.heap.objs.size + 1, [s1.heap.objs.size + 1, s1.heap.objs.size], _, _, H1, rfl, I2, turn a (s1.heap.objs.size + 1) s1.heap.objs.size, ⟨⟨.none, en⟩, ti, Nat.succ_ne_self _⟩, fun b hb => ?_, q⟩
    have le : s1.heap.objs.size ≤ b := by
      rcases (show b = s1.heap.objs.size + 1 ∨ b = s1.heap.objs.size by simpa using hb) with z | z <;> rw [z]
      · exact Nat.le_add_right _ _
      · exact Nat.le_refl _
    exact I1.fpOk le (I1.hok.fresh le)
/-- the loop over it -/
theorem for_enT {K : PySem.W.Frag} {a : Addr} {xs : List V} {g : TG} {tb : TS} {D : Ends} {σ : L2.St} {H : Hp} (Pv : Nat → L2.St → Hp → Prop) (h0 : Pv 0 σ H) (hl : ∀ i σ H, i ≤ xs.length → Pv i σ H → SqT K H a xs)
    (hs : ∀ i x T σ H, xs[i]? = some x → Pv i σ H → H T = none → g (.ref T) σ (upd H T (.tup [.int (i : Nat), x])) fun σ2 H2 => tb { D with nx := Pv (i + 1), ct := Pv (i + 1), bk := D.nx } σ2 H2) (hd : ∀ σ H, Pv xs.length σ H → D.nx σ H) :
    ∃ W : Nat → Nat → L2.St → Hp → Prop, (∃ m, W 0 m σ H) ∧ ∀ i m σ H, W i m σ H →
      ((ItT K a).stop i H ∧ D.nx σ H) ∨ ((ItT K a).go i H ∧ ∃ N : L2.St → Hp → Prop, (∀ σ' H', N σ' H' → ∃ m', m' < m ∧ W (i + 1) m' σ' H') ∧ ∀ x H', (ItT K a).yld i H x H' → g x σ H' fun σ2 H2 => tb { D with nx := N, ct := N, bk := D.nx } σ2 H2) := by
  refine ⟨fun i m σ H => m = xs.length - i ∧ i ≤ xs.length ∧ Pv i σ H, ⟨xs.length, by simp, Nat.zero_le _, h0⟩, ?_⟩
  rintro i m σ H ⟨rfl, hi, q⟩
  have sq := hl i σ H hi q
  by_cases lt : i < xs.length
  · refine .inr ⟨⟨xs, xs[i], sq, by simp [lt]⟩, Pv (i + 1), fun σ' H' q' => ⟨xs.length - (i + 1), by omega, rfl, lt, q'⟩, fun v H' y => ?_⟩
    obtain ⟨T, x, rfl, nT, rfl, hx⟩ := y
    exact hs i x T σ H (hx xs sq) q nT
  · obtain rfl : i = xs.length := by omega
    exact .inl ⟨⟨xs, sq, Nat.le_refl _⟩, hd σ H q⟩
end EnT

/-! The law's draws; data. -/
namespace C1
open PySem PySem.Spec PyProof.Rows L2 SX
def topS (i : Nat) : Stmt := PySem.Challenge.pw_stagecut_k14_waves_of_what_is_told.main.body.getD i (.Pass ⟨0, 0, 0, 0⟩)
abbrev sDraws : Stmt := topS 23
abbrev sNext : Stmt := topS 24
theorem scDraws : FnScope ["script", "many", "draws", "mixed", "k", "cell", "rest", "turn"] ["script", "many"] (defScope sDraws) := ⟨rfl, rfl, rfl, by decide +kernel, rfl, by decide +kernel, by decide +kernel⟩
theorem scNext : FnScope ["w", "many"] ["w", "many"] (defScope sNext) := ⟨rfl, rfl, rfl, by decide +kernel, rfl, by decide +kernel, by decide +kernel⟩
theorem cut_ints (ds : List Int) (lo hi : Option Int) : ∃ es : List Int, cutV (ds.map V.int) lo hi = es.map V.int ∧ es.length ≤ ds.length := by
  refine ⟨(ds.drop (HT.sIx ds.length 0 lo)).take (HT.sIx ds.length ds.length hi - HT.sIx ds.length 0 lo), ?_, ?_⟩
  · unfold cutV
    rw [List.length_map, List.map_take, List.map_drop]
  · rw [List.length_take, List.length_drop]
    omega
theorem ap_int (ds : List Int) (z : Int) : ds.map V.int ++ [V.int z] = (ds ++ [z]).map V.int := by
  rw [List.map_append]
  rfl
theorem same_new {H : Hp} {p : Addr} {o : HO} (n : H p = none) : Same H (upd H p o) := fun b x e => by
  rw [upd_ne (ne_of_none e n)]
  exact e
theorem same_put {H H1 : Hp} {l : Addr} {o : HO} (g : Same H H1) (n : H l = none) : Same H (upd H1 l o) := fun b x e => by
  rw [upd_ne (ne_of_none e n)]
  exact g b x e
section
variable {P : Program} {w : World} {K : PySem.W.Frag} {mg : Str → Option Value} {base : Heap}
/-- the built-ins that the law calls -/
structure Bl (mg : Str → Option Value) : Prop where
  len : mg "len" = none
  range : mg "range" = none
  abs : mg "abs" = none
  int : mg "int" = none
  str : mg "str" = none
def spDraws (K : PySem.W.Frag) : Sp := fun vs H Q _ => ∃ (a : Addr) (ns : List Int) (m : Nat), vs = [.ref a, .int ((m : Nat) : Int)] ∧ SqL K H a (ns.map V.int) ∧ ns.length ≤ 63 ∧ m ≤ 1000 ∧
  ∀ (H' : Hp) (p : Addr) (ds : List Int), Same H H' → H p = none → H' p = some (.lst (ds.map V.int)) → ds.length ≤ 10000 → Q (.ref p) H'
theorem ok_draws {f : Addr} {fd : FuncData} (F : Fun K "_law_draws" "_law_draws" sDraws f fd) (B : Bl mg) : FnOk P w K mg base CX0 1 f fd ["script", "many"] (spDraws K) := by
  refine F.ok scDraws (fun vs H Q E h => ?_) (fun cdv A outer s H vs Q E hr h => ?_)
  · obtain ⟨a, ns, m, rfl, _⟩ := h
    rfl
  · obtain ⟨a, ns, m, rfl, hS, hlen, hm, q⟩ := h
    have nd := scDraws.nd
    refine ⟨_, (pss_cons (ps_set (i := 2) nd rfl (.inl rfl) (pe_lst pa_nil))
      (pss_cons (ps_set (i := 3) nd rfl (.inl rfl) (pe_int))
      (pss_cons (ps_for PassesOwn.never rfl (pi_range1 (by rfl) B.range (pa_cons (pe_callB call_len_seq (by rfl) B.len PySem.boot_len (pa_cons (pv 0) pa_nil)) pa_nil)) (pg_name (i := 4) nd rfl (.inl rfl)) (pss_cons (ps_set (i := 5) nd rfl (.inl rfl) (pe_callB call_abs (by rfl) B.abs (by decide +kernel) (pa_cons (pe_callTy call_int1 (by rfl) B.int (by decide +kernel) (pa_cons (pe_ix ix_list (pv 0) (pv 4) (fun _ _ => rfl)) pa_nil)) pa_nil)))
      (pss_cons (ps_set (i := 3) nd rfl (.inl rfl) (pe_op op_mod (pe_callTy call_int1 (by rfl) B.int (by decide +kernel) (pa_cons (pe_op op_add (pe_op op_add (pe_op op_mul (pv 3) (pe_int)) (pe_op op_mod (pv 5) (pe_int))) (pv 4)) pa_nil)) (pe_int)))
      (pss_cons (ps_set (i := 6) nd rfl (.inl rfl) (pe_int))
      (C8.pss_cut (ps_if (pt_cmpR op_ge (pv 5) (pe_op op_pow pe_int pe_int) (nomark _)) (pss_one (ps_set (i := 6) nd rfl (.inl rfl) (pv 5)))
      (pss_cons (ps_expr (pe_bm PySem.F.plainAttrs_list PySem.F.slot_list_append PySem.F.type_list_append mt_append (pv 2) (pa_cons (pe_op op_mod (pe_callTy call_int1 (by rfl) B.int (by decide +kernel) (pa_cons (pv 5) pa_nil)) (pe_int)) pa_nil)))
      (pss_one (ps_expr (pe_bm PySem.F.plainAttrs_list PySem.F.slot_list_append PySem.F.type_list_append mt_append (pv 2) (pa_cons (pe_op op_mod (pe_op op_mod (pe_callTy call_int1 (by rfl) B.int (by decide +kernel) (pa_cons (pe_op op_add (pe_op op_mul (pv 3) (pe_int)) (pe_int)) pa_nil)) (pe_int)) (pe_int)) pa_nil))))))
      (pss_one (ps_for PassesOwn.never rfl (pi_range1 (by rfl) B.range (pa_cons (pe_int) pa_nil)) (pg_name (i := 7) nd rfl (.inl rfl)) (pss_one (ps_if (pt_cmpR op_gt (pv 6) pe_int (nomark _)) (pss_cons (ps_expr (pe_bm PySem.F.plainAttrs_list PySem.F.slot_list_append PySem.F.type_list_append mt_append (pv 2) (pa_cons (pe_op op_mod (pe_callTy call_int1 (by rfl) B.int (by decide +kernel) (pa_cons (pv 6) pa_nil)) (pe_int)) pa_nil)))
      (pss_one (ps_set (i := 6) nd rfl (.inl rfl) (pe_op op_fdiv (pv 6) (pe_int))))) pss_nil)))))))))
      (pss_cons (ps_for PassesOwn.never rfl (pi_range1 (by rfl) B.range (pa_cons (pv 1) pa_nil)) (pg_name (i := 4) nd rfl (.inl rfl)) (pss_cons (ps_set (i := 3) nd rfl (.inl rfl) (pe_op op_mod (pe_callTy call_int1 (by rfl) B.int (by decide +kernel) (pa_cons (pe_op op_add (pe_op op_add (pe_op op_mul (pv 3) (pe_int)) (pv 4)) (pe_int)) pa_nil)) (pe_int)))
      (pss_one (ps_expr (pe_bm PySem.F.plainAttrs_list PySem.F.slot_list_append PySem.F.type_list_append mt_append (pv 2) (pa_cons (pe_op op_mod (pe_callTy call_int1 (by rfl) B.int (by decide +kernel) (pa_cons (pv 3) pa_nil)) (pe_int)) pa_nil))))))
      (pss_one (ps_ret (pe_slice sl_list (pv 2) po_none (po_some (pv 1))))))))), ?_⟩
    refine ⟨Nat.zero_le _, fun l nl => ?_⟩
    have big : 100000 ≤ sizeLine := by
      rw [sizeLine_eq]
      decide
    let Iv : Nat → L2.St → Hp → Prop := fun n σ H' => ∃ (mixed : Int) (ds : List Int) (y4 y5 y6 y7 : Option V), σ = [some (.ref a), some (.int ((m : Nat) : Int)), some (.ref l), some (.int mixed), y4, y5, y6, y7] ∧ Same H H' ∧ H' l = some (.lst (ds.map V.int)) ∧ ds.length ≤ n ∧ 0 ≤ mixed ∧ mixed < 65537
    have h65 : ∀ x : Int, 0 ≤ x % 65537 ∧ x % 65537 < 65537 := fun x => ⟨Int.emod_nonneg x (by decide), Int.emod_lt_of_pos x (by decide)⟩
    refine ⟨_, rfl, a, ns.map V.int, rfl, .inl ((same_new nl).seq hS), ?_⟩
    rw [List.length_map]
    refine ⟨_, rfl, by omega, by omega, for_range (fun i σ H' => Iv (62 * i) σ H') ⟨7, [], none, none, none, none, rfl, same_new nl, upd_same, Nat.le_refl 0, by decide, by decide⟩ (fun i σ H1 hi h1 => ?_) (fun σ H1 h1 => ?_)⟩
    · obtain ⟨mixed, ds, y4, y5, y6, y7, rfl, g, el, dl, m0, m1⟩ := h1
      have hi2 : i < ns.length := by omega
      have hg : (ns.map V.int)[i]? = some (.int ns[i]) := by
        rw [List.getElem?_map, List.getElem?_eq_getElem hi2]
        rfl
      rw [Int.zero_add]
      refine ⟨_, rfl, _, rfl, a, _, _, _, rfl, rfl, g.seq hS, atI_nat (j := i) hg, .inl ⟨_, rfl, _, rfl, ?_⟩⟩
      generalize (if ns[i] < 0 then -ns[i] else ns[i]) = c
      refine ⟨_, rfl, _, _, rfl, rfl, .inl ⟨by omega, by omega⟩, _, rfl, _, _, rfl, rfl, (show (0 : Int) < 1000003 by decide), _, _, rfl, rfl, _, rfl, _, _, rfl, rfl, .inl ⟨_, rfl, _, _, rfl, rfl, (show (0 : Int) < 65537 by decide), ?_⟩⟩
      have mx := h65 (mixed * 48271 + c % 1000003 + ((i : Nat) : Int))
      -- behind the if: what the loop over 60 turns asks
      refine ⟨fun σ H2 => ∃ (ds : List Int) (rest : Int) (y7 : Option V), σ = [some (.ref a), some (.int ((m : Nat) : Int)), some (.ref l), some (.int ((mixed * 48271 + c % 1000003 + ((i : Nat) : Int)) % 65537)), some (.int ((i : Nat) : Int)), some (.int c), some (.int rest), y7] ∧ Same H H2 ∧ H2 l = some (.lst (ds.map V.int)) ∧ ds.length ≤ 62 * i + 2, ?_, ?_⟩
      · refine ⟨_, rfl, _, _, rfl, rfl, ⟨by decide, by decide, by decide⟩, _, _, rfl, rfl, _, rfl, ite2 (fun a1 => ?_) (fun a1 => ?_)⟩
        · exact ⟨_, rfl, ds, c, _, rfl, g, el, by omega⟩
        · refine ⟨_, rfl, .inl ⟨rfl, _, SqL.of el⟩, _, rfl, .inl ⟨_, rfl, _, _, rfl, rfl, (show (0 : Int) < 997 by decide), l, _, _, rfl, rfl, el, ?_, ?_⟩⟩
          · rw [List.length_map]
            omega
          · rw [ap_int]
            refine ⟨_, rfl, .inl ⟨rfl, _, SqL.of upd_same⟩, _, rfl, _, _, rfl, rfl, .inl ⟨by omega, by omega⟩, _, _, rfl, rfl, .inl ⟨_, rfl, _, _, rfl, rfl, (show (0 : Int) < 65521 by decide), _, _, rfl, rfl, (show (0 : Int) < 997 by decide), l, _, _, rfl, rfl, upd_same, ?_, ?_⟩⟩
            · rw [List.length_map, List.length_append]
              show ds.length + 1 < sizeLine
              omega
            · rw [ap_int]
              refine ⟨_, 0, _, rfl, same_put (same_put g nl) nl, upd_same, ?_⟩
              rw [List.length_append, List.length_append]
              show ds.length + 1 + 1 ≤ _
              omega
      · rintro σ H2 ⟨ds, rest, y7, rfl, g, el, dl⟩
        refine ⟨_, rfl, by decide, by decide, for_range (fun j σ H3 => ∃ (ds : List Int) (rest : Int) (y7 : Option V), σ = [some (.ref a), some (.int ((m : Nat) : Int)), some (.ref l), some (.int ((mixed * 48271 + c % 1000003 + ((i : Nat) : Int)) % 65537)), some (.int ((i : Nat) : Int)), some (.int c), some (.int rest), y7] ∧ Same H H3 ∧ H3 l = some (.lst (ds.map V.int)) ∧ ds.length ≤ 62 * i + 2 + j)
          ⟨ds, rest, y7, rfl, g, el, dl⟩ (fun j σ H3 hj h3 => ?_) (fun σ H3 h3 => ?_)⟩
        · obtain ⟨ds, rest, y7, rfl, g, el, dl⟩ := h3
          have hj2 : j < 60 := hj
          refine ⟨_, rfl, _, _, rfl, rfl, _, rfl, ite2 (fun a1 => ?_) (fun a1 => ?_)⟩
          · refine ⟨_, rfl, .inl ⟨rfl, _, SqL.of el⟩, _, rfl, .inl ⟨_, rfl, _, _, rfl, rfl, (show (0 : Int) < 997 by decide), l, _, _, rfl, rfl, el, ?_, ?_⟩⟩
            · rw [List.length_map]
              omega
            · rw [ap_int]
              refine ⟨_, rfl, _, _, rfl, rfl, ⟨by decide, by decide⟩, _, _, _, rfl, same_put g nl, upd_same, ?_⟩
              rw [List.length_append]
              show ds.length + 1 ≤ _
              omega
          · exact ⟨ds, rest, _, rfl, g, el, by omega⟩
        · obtain ⟨ds, rest, y7, rfl, g, el, dl⟩ := h3
          have dl2 : ds.length ≤ 62 * i + 2 + 60 := dl
          exact ⟨_, ds, _, _, _, _, rfl, g, el, by omega, mx.1, mx.2⟩
    · obtain ⟨mixed, ds, y4, y5, y6, y7, rfl, g, el, dl, m0, m1⟩ := h1
      have dl2 : ds.length ≤ 4000 := by omega
      refine ⟨_, rfl, _, rfl, by omega, by omega, for_range (fun j σ H2 => Iv (4000 + j) σ H2) ⟨mixed, ds, y4, y5, y6, y7, rfl, g, el, by omega, m0, m1⟩ (fun j σ H2 hj h2 => ?_) (fun σ H2 h2 => ?_)⟩
      · obtain ⟨mixed, ds, y4, y5, y6, y7, rfl, g, el, dl, m0, m1⟩ := h2
        have hj2 : j < m := by omega
        refine ⟨_, rfl, _, _, rfl, rfl, .inl ⟨by omega, by omega⟩, _, rfl, _, _, rfl, rfl, _, _, rfl, rfl, .inl ⟨_, rfl, _, _, rfl, rfl, (show (0 : Int) < 65537 by decide), ?_⟩⟩
        have mx := h65 (mixed * 16807 + (0 + ((j : Nat) : Int)) + 1)
        refine ⟨_, rfl, .inl ⟨rfl, _, SqL.of el⟩, _, rfl, .inl ⟨_, rfl, _, _, rfl, rfl, (show (0 : Int) < 997 by decide), l, _, _, rfl, rfl, el, ?_, ?_⟩⟩
        · rw [List.length_map]
          omega
        · rw [ap_int]
          refine ⟨_, _, _, _, _, _, rfl, same_put g nl, upd_same, ?_, mx.1, mx.2⟩
          rw [List.length_append]
          show ds.length + 1 ≤ _
          omega
      · obtain ⟨mixed, ds, y4, y5, y6, y7, rfl, g, el, dl, m0, m1⟩ := h2
        have dl3 : ds.length ≤ 5000 := by omega
        refine ⟨_, rfl, _, rfl, _, rfl, l, _, rfl, SqL.of el, fun p np => ?_⟩
        obtain ⟨es, e1, e2⟩ := cut_ints ds none (some ((m : Nat) : Int))
        rw [e1]
        exact q _ p es (fun b o e => same_new np b o (g b o e)) (g.free np) upd_same (by omega)
end
/-- the law's world: its draws and how many are taken -/
def wdL (l : Addr) (n : Int) : List (Key × V) := [(.inr ("draws" : Str), .ref l), (.inr ("at" : Str), .int n)]
theorem wd_draws (l : Addr) (n : Int) : valV (wdL l n) (.inr "draws") = some (.ref l) := valV_pos rfl
theorem wd_at (l : Addr) (n : Int) : valV (wdL l n) (.inr "at") = some (.int n) := (valV_neg (show ¬ (Sum.inr ("draws" : Str) : Key) = Sum.inr ("at" : Str) by decide)).trans (valV_pos rfl)
theorem wd_put (l : Addr) (n k : Int) : putK (wdL l n) (.inr ("at" : Str)) (.int k) = wdL l k := by
  have h1 : ¬ (Sum.inr ("draws" : Str) : Key) = Sum.inr ("at" : Str) := by decide
  unfold putK wdL
  simp [h1]
theorem get_draws {H : Hp} {a l : Addr} {n : Int} (h : H a = some (.dK (wdL l n))) : DGet H a (.str "draws") (some (.ref l)) := by
  have g := DGet.k (k := .inr "draws") h
  rw [wd_draws] at g
  exact g
theorem get_at {H : Hp} {a l : Addr} {n : Int} (h : H a = some (.dK (wdL l n))) : DGet H a (.str "at") (some (.int n)) := by
  have g := DGet.k (k := .inr "at") h
  rw [wd_at] at g
  exact g
theorem put_at {H : Hp} {a l : Addr} {n k : Int} (h : H a = some (.dK (wdL l n))) : DPut H a (.str "at") (.int k) (upd H a (.dK (wdL l k))) := by
  have g := DPut.k (k := .inr "at") (v := .int k) h (by rw [sizeLine_eq]; exact (by decide : 2 < 16777216))
  rw [wd_put] at g
  exact g
structure Wd (H : Hp) (a l : Addr) (ds : List Int) : Prop where
  at' : ∃ n : Int, 0 ≤ n ∧ H a = some (.dK (wdL l n))
  dr : H l = some (.lst (ds.map V.int))
  len : ds.length ≤ 10000
/-- all but the world at a is as it was -/
def Kp (a : Addr) (H H' : Hp) : Prop := ∀ b o, b ≠ a → H b = some o → H' b = some o
section
variable {a l : Addr} {ds : List Int} {H H1 H2 : Hp}
theorem Kp.refl (H : Hp) : Kp a H H := fun _ _ _ e => e
theorem Kp.trans (x : Kp a H H1) (y : Kp a H1 H2) : Kp a H H2 := fun b o n e => y b o n (x b o n e)
theorem Wd.ne (W : Wd H a l ds) : l ≠ a := by
  obtain ⟨n, _, e⟩ := W.at'
  exact ne_of W.dr e (by intro z; cases z)
theorem Kp.new {p : Addr} {o : HO} (n : H p = none) : Kp a H (upd H p o) := fun b u _ e => by
  rw [upd_ne (ne_of_none e n)]
  exact e
theorem Wd.new (W : Wd H a l ds) {p : Addr} {o : HO} (n : H p = none) : Wd (upd H p o) a l ds := by
  obtain ⟨k, k0, e⟩ := W.at'
  refine ⟨⟨k, k0, ?_⟩, ?_, W.len⟩
  · rw [upd_ne (ne_of_none e n)]
    exact e
  · rw [upd_ne (ne_of_none W.dr n)]
    exact W.dr
theorem Kp.step {o : HO} : Kp a H (upd H a o) := fun b u n e => by
  rw [upd_ne n]
  exact e
theorem Wd.step (W : Wd H a l ds) {n : Int} (h : 0 ≤ n) : Wd (upd H a (.dK (wdL l n))) a l ds := by
  refine ⟨⟨n, h, upd_same⟩, ?_, W.len⟩
  rw [upd_ne W.ne]
  exact W.dr
theorem Wd.fresh (W : Wd H a l ds) {p : Addr} (n : H p = none) : p ≠ a := fun z => by
  obtain ⟨k, _, e⟩ := W.at'
  rw [z, e] at n
  cases n
end
section
variable {P : Program} {w : World} {K : PySem.W.Frag} {mg : Str → Option Value} {base : Heap}
def spNext : Sp := fun vs H Q _ => ∃ (a l : Addr) (ds : List Int) (m : Int), vs = [.ref a, .int m] ∧ 0 < m ∧ Wd H a l ds ∧ ∀ (r : Nat) H', ((r : Nat) : Int) < m → Kp a H H' → (∀ b, b ≠ a → H' b = H b) → Wd H' a l ds → Q (.int ((r : Nat) : Int)) H'
theorem ok_next {f : Addr} {fd : FuncData} (F : Fun K "_law_next" "_law_next" sNext f fd) (B : Bl mg) : FnOk P w K mg base CX0 1 f fd ["w", "many"] spNext := by
  refine F.ok scNext (fun vs H Q E h => ?_) (fun cdv A outer s H vs Q E hr h => ?_)
  · obtain ⟨a, l, ds, m, rfl, _⟩ := h
    rfl
  · obtain ⟨a, l, ds, m, rfl, hm, W, q⟩ := h
    have hu := hu_of hr
    refine ⟨_, pss_cons (ps_daug hu (pv 0) pe_str pe_int in_add (fun _ _ _ => rfl))
      (pss_cons (ps_if (pt_cmpR op_gt (pe_dget hu (pv 0) pe_str (fun _ _ => rfl)) (pe_callB call_len_seq (by rfl) B.len PySem.boot_len (pa_cons (pe_dget hu (pv 0) pe_str (fun _ _ => rfl)) pa_nil)) (nomark _)) (pss_one (ps_ret pe_int)) pss_nil)
      (pss_one (ps_ret (pe_op op_mod (pe_callTy call_int1 (by rfl) B.int (by decide +kernel) (pa_cons (pe_ix ix_list (pe_dget hu (pv 0) pe_str (fun _ _ => rfl)) (pe_op op_sub (pe_dget hu (pv 0) pe_str (fun _ _ => rfl)) pe_int) (fun _ _ => rfl)) pa_nil)) (pv 1))))), ?_⟩
    obtain ⟨n, n0, e⟩ := W.at'
    refine ⟨_, rfl, a, _, rfl, get_at e, _, _, rfl, rfl, _, put_at e, ?_⟩
    have W1 : Wd (upd H a (.dK (wdL l (n + 1)))) a l ds := W.step (by omega)
    have e1 : (upd H a (.dK (wdL l (n + 1)))) a = some (.dK (wdL l (n + 1))) := upd_same
    refine ⟨_, rfl, a, _, rfl, get_at e1, _, rfl, a, _, rfl, get_draws e1, l, _, rfl, .inl (SqL.of W1.dr), _, _, rfl, rfl, _, rfl, ite2 (fun a1 => ?_) (fun a1 => ?_)⟩
    · exact q 0 _ hm Kp.step (fun b hb => upd_ne hb) W1
    · have b1 : ¬ ((ds.map V.int).length : Int) < n + 1 := fun z => a1 (decide_eq_true z)
      rw [List.length_map] at b1
      obtain ⟨j, ej⟩ : ∃ j : Nat, n + 1 - 1 = ((j : Nat) : Int) := ⟨n.toNat, by omega⟩
      have hj : j < ds.length := by omega
      have hg : (ds.map V.int)[j]? = some (.int ds[j]) := by
        rw [List.getElem?_map, List.getElem?_eq_getElem hj]
        rfl
      refine ⟨_, rfl, a, _, rfl, get_draws e1, _, rfl, a, _, rfl, get_at e1, _, _, rfl, rfl, l, _, _, .int ds[j], rfl, rfl, SqL.of W1.dr, ?_, .inl ⟨_, rfl, _, rfl, _, _, rfl, rfl, hm, ?_⟩⟩
      · rw [ej]
        exact atI_nat (j := j) hg
      · have z0 := Int.emod_nonneg ds[j] (show m ≠ 0 by omega)
        have z1 := Int.emod_lt_of_pos ds[j] hm
        obtain ⟨r, er⟩ : ∃ r : Nat, ds[j] % m = ((r : Nat) : Int) := ⟨(ds[j] % m).toNat, by omega⟩
        show Q (.int (ds[j] % m)) _
        rw [er]
        exact q r _ (by omega) Kp.step (fun b hb => upd_ne hb) W1
end
/-! data without lists: it stays where tuples stay -/
mutual
def noL : PyData → Bool
  | .list _ => false
  | .dict _ => false
  | .tuple ds => noLs ds
  | _ => true
def noLs : List PyData → Bool
  | [] => true
  | d :: ds => noL d && noLs ds
end
mutual
theorem dp_stay {K : PySem.W.Frag} {H H' : Hp} (st : ∀ a xs, SqT K H a xs → SqT K H' a xs) : ∀ (d : PyData) (v : V), Dp K H v d → noL d = true → Dp K H' v d
  | .none, _, h, _ => by cases h; exact .non
  | .bool _, _, h, _ => by cases h; exact .bl _
  | .int _, _, h, _ => by cases h; exact .int _
  | .str _, _, h, _ => by cases h; exact .str _
  | .list _, _, _, n => by cases n
  | .dict _, _, _, n => by cases n
  | .tuple ds, _, h, n => by
    cases h with
    | tup s a => exact .tup (st _ _ s) (dps_stay st ds _ a n)
theorem dps_stay {K : PySem.W.Frag} {H H' : Hp} (st : ∀ a xs, SqT K H a xs → SqT K H' a xs) : ∀ (ds : List PyData) (vs : List V), DpAll K H vs ds → noLs ds = true → DpAll K H' vs ds
  | [], _, h, _ => by cases h; exact .nil
  | d :: ds, _, h, n => by
    cases h with
    | cons a b =>
      have n2 : (noL d && noLs ds) = true := n
      rw [Bool.and_eq_true] at n2
      exact .cons (dp_stay st d _ a n2.1) (dps_stay st ds _ b n2.2)
end
theorem noLs_app : ∀ (a b : List PyData), noLs (a ++ b) = (noLs a && noLs b)
  | [], b => rfl
  | d :: a, b => by
    show (noL d && noLs (a ++ b)) = ((noL d && noLs a) && noLs b)
    rw [noLs_app a b, Bool.and_assoc]
theorem dps_app {K : PySem.W.Frag} {H : Hp} : ∀ {vs : List V} {ds : List PyData} {us : List V} {es : List PyData}, DpAll K H vs ds → DpAll K H us es → DpAll K H (vs ++ us) (ds ++ es)
  | _, _, _, _, .nil, h => h
  | _, _, _, _, .cons a b, h => .cons a (dps_app b h)
theorem dps_len {K : PySem.W.Frag} {H : Hp} : ∀ {vs : List V} {ds : List PyData}, DpAll K H vs ds → vs.length = ds.length
  | _, _, .nil => rfl
  | _, _, .cons _ b => by rw [List.length_cons, List.length_cons, dps_len b]
/-- a new object at p, the list at l grown: tuples stay -/
theorem tups_upd {K : PySem.W.Frag} {H : Hp} {l : Addr} {xs : List V} {o : HO} (e : H l = some (.lst xs)) : ∀ a ys, SqT K H a ys → SqT K (upd H l o) a ys := fun a ys h => by
  rcases h with (h | ⟨u, h⟩) | h
  · refine .inl (.inl ?_)
    rw [upd_ne (ne_of h e (by intro z; cases z))]
    exact h
  · refine .inl (.inr ⟨u, ?_⟩)
    rw [upd_ne (ne_of h e (by intro z; cases z))]
    exact h
  · exact .inr h
theorem dps_get {K : PySem.W.Frag} {H : Hp} : ∀ {vs : List V} {ds : List PyData} {i : Nat} {x : V}, DpAll K H vs ds → vs[i]? = some x → ∃ d, ds[i]? = some d ∧ Dp K H x d
  | _, _, _, _, .nil, h => by simp at h
  | _, _, 0, _, .cons a _, h => by
    have e := Option.some.inj h
    subst e
    exact ⟨_, rfl, a⟩
  | _, _, i + 1, _, .cons _ b, h => dps_get (i := i) b h
def LayAll (F : List PyData) : Prop := ∀ d ∈ F, PyData.canLay0 d = true ∧ PyData.depth d ≤ 5
theorem shaped_list : ∀ (F : List PyData), LayAll F → SeqAt.shaped (.list F) = true := by
  have h1 : ∀ F : List PyData, LayAll F → PyData.canLayAll0 F = true ∧ PyData.depthAll F ≤ 5 := by
    intro F
    induction F with
    | nil => exact fun _ => ⟨rfl, Nat.zero_le _⟩
    | cons d F ih =>
      intro h
      obtain ⟨a, b⟩ := ih fun x hx => h x (List.mem_cons_of_mem _ hx)
      obtain ⟨c, e⟩ := h d (List.mem_cons_self ..)
      refine ⟨?_, ?_⟩
      · show (PyData.canLay0 d && PyData.canLayAll0 F) = true
        rw [c, a]
        rfl
      · show max (PyData.depth d) (PyData.depthAll F) ≤ 5
        exact Nat.max_le.mpr ⟨e, b⟩
  intro F h
  obtain ⟨a, b⟩ := h1 F h
  unfold SeqAt.shaped
  rw [Bool.and_eq_true]
  refine ⟨a, decide_eq_true ?_⟩
  show PyData.depthAll F + 1 ≤ 64
  omega
abbrev iV (k : Nat) : V := .int ((k : Nat) : Int)
abbrev iD (k : Nat) : PyData := .int ((k : Nat) : Int)
theorem cL_int : ∀ ks : List Nat, LayAll (ks.map iD) := fun ks d h => by
  obtain ⟨k, _, e⟩ := List.mem_map.mp h
  subst e
  exact ⟨rfl, Nat.zero_le _⟩
theorem eqv_nil (xs : List PyData) : PyData.eqv (.list xs) (.list []) = xs.isEmpty := by
  cases xs with
  | nil => rfl
  | cons x r => rfl
theorem dps_ints {K : PySem.W.Frag} {H : Hp} : ∀ ks : List Nat, DpAll K H (ks.map iV) (ks.map iD)
  | [] => .nil
  | k :: ks => .cons (.int _) (dps_ints ks)
theorem dps_put {K : PySem.W.Frag} {H : Hp} : ∀ {vs : List V} {ds : List PyData} {i : Nat} {d : PyData}, DpAll K H vs ds → ds[i]? = some d → ∃ x, vs[i]? = some x ∧ Dp K H x d
  | _, _, _, _, .nil, h => by simp at h
  | _, _, 0, _, .cons a _, h => by
    have e := Option.some.inj h
    subst e
    exact ⟨_, rfl, a⟩
  | _, _, i + 1, _, .cons _ b, h => dps_put (i := i) b h
theorem int_at {ks : List Nat} {i k : Nat} (h : ks[i]? = some k) : (ks.map iV)[i]? = some (iV k) := by
  rw [List.getElem?_map, h]
  rfl
theorem kp_tup {K : PySem.W.Frag} {a : Addr} {H H' : Hp} {kvs : List (Key × V)} (e : H a = some (.dK kvs)) (k : Kp a H H') : ∀ b xs, SqT K H b xs → SqT K H' b xs := fun b xs h => by
  have ne : ∀ {o : HO}, H b = some o → (∀ k2, o ≠ .dK k2) → b ≠ a := fun h1 h2 z => by
    subst z
    rw [e] at h1
    cases h1
    exact h2 _ rfl
  rcases h with (h | ⟨u, h⟩) | h
  · exact .inl (.inl (k b _ (ne h (by intro _ z; cases z)) h))
  · exact .inl (.inr ⟨u, k b _ (ne h (by intro _ z; cases z)) h⟩)
  · exact .inr h
theorem wd_lne {H : Hp} {a l b : Addr} {ds : List Int} {xs : List V} (W : Wd H a l ds) (h : H b = some (.lst xs)) : b ≠ a := fun z => by
  obtain ⟨n, _, e⟩ := W.at'
  subst z
  rw [e] at h
  cases h
abbrev rLen (K : PySem.W.Frag) : List V → Hp → VK → Prop := fun xs H Q => ∃ p ys, xs = [V.ref p] ∧ (SqL K H p ys ∨ SqT K H p ys) ∧ Q (V.int ys.length) H
section
variable {a l r : Addr} {ds : List Int} {H H1 H2 : Hp}
theorem Kp.put {o : HO} (k : Kp a H H1) (n : H r = none) : Kp a H (upd H1 r o) := fun b u nb e => by
  rw [upd_ne (ne_of_none e n)]
  exact k b u nb e
theorem Wd.put {o : HO} (W : Wd H a l ds) (h1 : r ≠ a) (h2 : r ≠ l) : Wd (upd H r o) a l ds := by
  obtain ⟨k, k0, e⟩ := W.at'
  exact ⟨⟨k, k0, by rw [upd_ne h1.symm]; exact e⟩, by rw [upd_ne h2.symm]; exact W.dr, W.len⟩
theorem kp_none (k : Kp a H H1) (h : r ≠ a) (n : H1 r = none) : H r = none := by
  cases e : H r with
  | none => rfl
  | some o =>
    rw [k r o h e] at n
    cases n
theorem Wd.ne2 (W : Wd H a l ds) (n : H r = none) : r ≠ a ∧ r ≠ l := ⟨W.fresh n, fun z => by
  have := W.dr
  rw [← z, n] at this
  cases this⟩
variable {K : PySem.W.Frag}
theorem stay_dps {vs : List V} {es : List PyData} (W : Wd H a l ds) (k : Kp a H H1) (n : noLs es = true) (h : DpAll K H vs es) : DpAll K H1 vs es := by
  obtain ⟨_, _, e⟩ := W.at'
  exact dps_stay (kp_tup e k) _ _ h n
theorem push_dps {vs : List V} {es : List PyData} {v : V} {d : PyData} {o : HO} (e : H r = some (.lst vs)) (h : DpAll K H vs es) (n : noLs es = true) (hd : Dp K H v d) (nd : noL d = true) : DpAll K (upd H r o) (vs ++ [v]) (es ++ [d]) :=
  dps_app (dps_stay (tups_upd e) _ _ h n) (.cons (dp_stay (tups_upd e) _ _ hd nd) .nil)
end
def tyD : PyData → String
  | .none => "NoneType"
  | .bool _ => "bool"
  | .int _ => "int"
  | .str _ => "str"
  | .list _ => "list"
  | .tuple _ => "tuple"
  | .dict _ => "dict"
theorem ty_of {K : PySem.W.Frag} {H : Hp} {v : V} {d : PyData} (h : Dp K H v d) : TyB K H v (tyD d) := by
  cases h with
  | non => exact .non
  | bl b => exact .bl b
  | int i => exact .int i
  | str x => exact .str x
  | lst s _ => exact .lst s
  | tup s _ => exact .tup s
theorem ty_int {d : PyData} (h : tyD d = "int") : ∃ i, d = .int i := by
  cases d <;> simp [tyD] at h
  exact ⟨_, rfl⟩
theorem ty_tup {d : PyData} (h : tyD d = "tuple") : ∃ i, d = .tuple i := by
  cases d <;> simp [tyD] at h
  exact ⟨_, rfl⟩
theorem ty_str {d : PyData} (h : tyD d = "str") : ∃ i, d = .str i := by
  cases d <;> simp [tyD] at h
  exact ⟨_, rfl⟩
def isI (d : PyData) (lo hi : Int) : Bool := match d with
  | .int i => decide (lo ≤ i) && decide (i < hi)
  | _ => false
def isT (d : PyData) (n : Nat) : Bool := match d with
  | .tuple xs => decide (xs.length = n)
  | _ => false
theorem isI_iff {d : PyData} {lo hi : Int} : isI d lo hi = true ↔ ∃ i, d = .int i ∧ lo ≤ i ∧ i < hi := by
  cases d <;> simp [isI]
theorem isT_iff {d : PyData} {n : Nat} : isT d n = true ↔ ∃ xs, d = .tuple xs ∧ xs.length = n := by
  cases d <;> simp [isT]
theorem same_tup {K : PySem.W.Frag} {H H' : Hp} (s : Same H H') : ∀ b xs, SqT K H b xs → SqT K H' b xs := fun b xs h => by
  rcases h with (h | ⟨u, h⟩) | h
  · exact .inl (.inl (s _ _ h))
  · exact .inl (.inr ⟨u, s _ _ h⟩)
  · exact .inr h
theorem Same.up {H : Hp} {p : Addr} {o : HO} (n : H p = none) : Same H (upd H p o) := same_new n
section
variable {K : PySem.W.Frag} {H : Hp}
theorem dp_tup {H : Hp} {v : V} {ds : List PyData} (h : Dp K H v (.tuple ds)) : ∃ b xs, v = .ref b ∧ SqT K H b xs ∧ DpAll K H xs ds := by
  cases h with
  | tup s a => exact ⟨_, _, rfl, s, a⟩
end
theorem cst (n : Nat) : (2 : Int) ^ n = ((2 ^ n : Nat) : Int) := by
  rw [Int.natCast_pow]
  rfl
theorem vI {x y : Int} (h : x = y) : V.int x = V.int y := by rw [h]
def flD : PyData → Option V
  | .int i => some (.int i)
  | .str s => some (.str s)
  | _ => none
theorem sN {a b : Str} (h : a ≠ b) : V.str a ≠ V.str b := fun z => h (V.str.inj z)
theorem kT {A B : Prop} {x y : V} {i : Decidable (x = y)} (h : x = y) (a : A) : if @decide (x = y) i = true then A else B := by
  rw [if_pos (decide_eq_true h)]
  exact a
theorem kF {A B : Prop} {x y : V} {i : Decidable (x = y)} (h : x ≠ y) (b : B) : if @decide (x = y) i = true then A else B := by
  rw [if_neg (fun z => h (of_decide_eq_true z))]
  exact b
section
variable {K : PySem.W.Frag} {H : Hp}
theorem dps_flat {H : Hp} : ∀ {vs : List V} {ds : List PyData} {us : List V}, DpAll K H vs ds → ds.map flD = us.map some → vs = us
  | _, _, us, .nil, h => by
    cases us with
    | nil => rfl
    | cons _ _ => cases h
  | _, _, us, .cons (d := d) a b, h => by
    cases us with
    | nil => cases h
    | cons u us =>
      rw [List.map_cons, List.map_cons] at h
      injection h with h1 h2
      rw [dps_flat b h2]
      cases d with
      | int i => cases a; cases h1; rfl
      | str i => cases a; cases h1; rfl
      | _ => cases h1
end
theorem line200 {n : Nat} (h : n ≤ 1000) : n ≤ sizeLine := by
  rw [sizeLine_eq]
  omega
theorem lineS200 {n : Nat} (h : n ≤ 1000) : n < sizeLine := by
  rw [sizeLine_eq]
  omega
abbrev rTupleOf (K : PySem.W.Frag) : List V → Hp → VK → Prop := fun xs H Q => ∃ p ys, xs = [V.ref p] ∧ ((SqL K H p ys ∧ ∀ l, H l = none → Q (.ref l) (upd H l (.tup ys))) ∨ (SqT K H p ys ∧ Q (.ref p) H))
abbrev rOneShlN : R2 := fun x y H Q => ∃ k : Nat, x = .int 1 ∧ y = iV k ∧ k ≤ 1000 ∧ Q (iV (2 ^ k)) H
abbrev rModNN : R2 := fun x y H Q => ∃ n m : Nat, x = iV n ∧ y = iV m ∧ 0 < m ∧ Q (iV (n % m)) H
abbrev rAddN : R2 := fun x y H Q => ∃ n m : Nat, x = .int (n : Int) ∧ y = .int (m : Int) ∧ Q (.int ((n + m : Nat) : Int)) H
abbrev rMulN : R2 := fun x y H Q => ∃ n m : Nat, x = .int (n : Int) ∧ y = .int (m : Int) ∧ n ≤ 4294967296 ∧ Q (.int ((n * m : Nat) : Int)) H
abbrev rFdivN : R2 := fun x y H Q => ∃ n m : Nat, x = .int (n : Int) ∧ y = .int (m : Int) ∧ (1 ≤ m ∧ m < 1073741824) ∧ Q (.int ((n / m : Nat) : Int)) H
section
variable {X : Cx}
theorem op_oneShlN : OpR X (binaryOp .LShift) rOneShlN := by
  intro pins s σ H x y v u Q I rx ry h
  obtain ⟨k, rfl, rfl, hk, q⟩ := h
  exact op_oneShl pins s σ H _ _ v u Q I rx ry ⟨k, rfl, rfl, by omega, by rw [cst]; exact q⟩
theorem op_modNN : OpR X (binaryOp .Mod) rModNN := by
  intro pins s σ H x y v u Q I rx ry h
  obtain ⟨n, m, rfl, rfl, hm, q⟩ := h
  refine op_mod pins s σ H _ _ v u Q I rx ry ⟨_, _, rfl, rfl, show (0 : Int) < ((m : Nat) : Int) by omega, ?_⟩
  show Q (.int (((n : Nat) : Int) % ((m : Nat) : Int))) H
  rw [← Int.natCast_emod]
  exact q
end
theorem Wd.tup {K : PySem.W.Frag} {H H' : Hp} {a l : Addr} {ds : List Int} (W : Wd H a l ds) (k : Kp a H H') : ∀ b xs, SqT K H b xs → SqT K H' b xs := by
  obtain ⟨n, _, e⟩ := W.at'
  exact kp_tup e k
theorem getD_some {l : List Nat} {i x : Nat} (h : l[i]? = some x) : l.getD i 0 = x := by
  rw [List.getD_eq_getElem?_getD, h]
  rfl
theorem at_len {α β : Type} {xs : List α} {ys : List β} (hl : xs.length = ys.length) {i : Nat} {y : β} (h : ys[i]? = some y) : ∃ x, xs[i]? = some x :=
  ⟨_, List.getElem?_eq_getElem (by rw [hl]; exact (List.getElem?_eq_some_iff.mp h).1)⟩
theorem take_at {α : Type} {l : List α} {i j : Nat} {x : α} (h : (l.take i)[j]? = some x) : l[j]? = some x := by
  rw [List.getElem?_take] at h
  split at h
  · exact h
  · cases h
theorem take_snoc {α : Type} {l : List α} {i : Nat} {x : α} (h : l[i]? = some x) : l.take (i + 1) = l.take i ++ [x] := by
  rw [List.take_add_one, h]
  rfl
section
variable {K : PySem.W.Frag} {H H' : Hp}
theorem snoc_cases {α : Type} {l : List α} {x y : α} {j : Nat} (h : (l ++ [x])[j]? = some y) : (j < l.length ∧ l[j]? = some y) ∨ (j = l.length ∧ x = y) := by
  by_cases hj : j < l.length
  · rw [List.getElem?_append_left hj] at h
    exact .inl ⟨hj, h⟩
  · rw [List.getElem?_append_right (by omega)] at h
    have e0 : j - l.length = 0 := by
      have := (List.getElem?_eq_some_iff.mp h).1
      simp at this
      omega
    rw [e0] at h
    cases h
    exact .inr ⟨by omega, rfl⟩
end
section
variable {K : PySem.W.Frag} {H : Hp}
theorem tyx_tup {a : Addr} {xs : List V} (s : SqT K H a xs) : TyX K H (.ref a) (.type "tuple") := by
  rcases s with (s | ⟨u, s⟩) | ⟨o, its, k, s, c, _⟩
  · exact .base (.tup s)
  · exact .fTuple s
  · exact .kTuple s c
theorem tyx_lst {a : Addr} {xs : List V} (s : SqL K H a xs) : TyX K H (.ref a) (.type "list") := by
  rcases s with (s | ⟨u, s⟩) | ⟨o, its, k, s, c, _⟩
  · exact .base (.lst s)
  · exact .base (.frz s)
  · exact .kList s c
end
theorem tyx_of {K : PySem.W.Frag} {H : Hp} {v : V} {d : PyData} (h : Dp K H v d) (n : noL d = true) : TyX K H v (.type (tyD d)) := by
  cases h with
  | non => exact .base .non
  | bl b => exact .base (.bl b)
  | int i => exact .base (.int i)
  | str x => exact .base (.str x)
  | lst s _ => cases n
  | tup s _ =>
    rcases s with (s | ⟨u, s⟩) | ⟨o, its, k, s, c, _⟩
    · exact .base (.tup s)
    · exact .fTuple s
    · exact .kTuple s c
theorem kit_int (d : PyData) (n : noL d = true) : kitB (tyD d) "int" = some (decide (tyD d = "int") || decide (tyD d = "bool")) := by
  cases d with
  | list _ => cases n
  | dict _ => cases n
  | none => show kitB "NoneType" "int" = some (decide ("NoneType" = "int") || decide ("NoneType" = "bool")); decide +kernel
  | bool _ => show kitB "bool" "int" = some (decide ("bool" = "int") || decide ("bool" = "bool")); decide +kernel
  | int _ => show kitB "int" "int" = some (decide ("int" = "int") || decide ("int" = "bool")); decide +kernel
  | str _ => show kitB "str" "int" = some (decide ("str" = "int") || decide ("str" = "bool")); decide +kernel
  | tuple _ => show kitB "tuple" "int" = some (decide ("tuple" = "int") || decide ("tuple" = "bool")); decide +kernel
theorem kit_one (T : String) (hT : T = "bool" ∨ T = "tuple" ∨ T = "str") (d : PyData) (n : noL d = true) : kitB (tyD d) T = some (decide (tyD d = T)) := by
  rcases hT with rfl | rfl | rfl
  · cases d with
    | list _ => cases n
    | dict _ => cases n
    | none => show kitB "NoneType" "bool" = some (decide ("NoneType" = "bool")); decide +kernel
    | bool _ => show kitB "bool" "bool" = some (decide ("bool" = "bool")); decide +kernel
    | int _ => show kitB "int" "bool" = some (decide ("int" = "bool")); decide +kernel
    | str _ => show kitB "str" "bool" = some (decide ("str" = "bool")); decide +kernel
    | tuple _ => show kitB "tuple" "bool" = some (decide ("tuple" = "bool")); decide +kernel
  · cases d with
    | list _ => cases n
    | dict _ => cases n
    | none => show kitB "NoneType" "tuple" = some (decide ("NoneType" = "tuple")); decide +kernel
    | bool _ => show kitB "bool" "tuple" = some (decide ("bool" = "tuple")); decide +kernel
    | int _ => show kitB "int" "tuple" = some (decide ("int" = "tuple")); decide +kernel
    | str _ => show kitB "str" "tuple" = some (decide ("str" = "tuple")); decide +kernel
    | tuple _ => show kitB "tuple" "tuple" = some (decide ("tuple" = "tuple")); decide +kernel
  · cases d with
    | list _ => cases n
    | dict _ => cases n
    | none => show kitB "NoneType" "str" = some (decide ("NoneType" = "str")); decide +kernel
    | bool _ => show kitB "bool" "str" = some (decide ("bool" = "str")); decide +kernel
    | int _ => show kitB "int" "str" = some (decide ("int" = "str")); decide +kernel
    | str _ => show kitB "str" "str" = some (decide ("str" = "str")); decide +kernel
    | tuple _ => show kitB "tuple" "str" = some (decide ("tuple" = "str")); decide +kernel
theorem wd_merge (l : Addr) (n : Int) : mergeK [] [(.inr ("draws" : Str), .ref l), (.inr ("at" : Str), .int n)] = wdL l n := by
  have h1 : ¬ (Sum.inr ("draws" : Str) : Key) = Sum.inr ("at" : Str) := by decide
  unfold mergeK wdL
  simp [putK, h1]
theorem Wd.same {H H' : Hp} {a l : Addr} {ds : List Int} (W : Wd H a l ds) (s : Same H H') : Wd H' a l ds := by
  obtain ⟨n, n0, e⟩ := W.at'
  exact ⟨⟨n, n0, s _ _ e⟩, s _ _ W.dr, W.len⟩
theorem cut_take (xs : List V) (k : Nat) (h : k < xs.length) : cutV xs none (some ((k : Nat) : Int)) = xs.take k := by
  unfold cutV
  rw [HT.sIx_none, HT.sIx_nat, Nat.sub_zero, List.drop_zero, Nat.min_eq_left (by omega)]
theorem cut_drop (xs : List V) (k : Nat) (h : k < xs.length) : cutV xs (some (((k : Nat) : Int) + 1)) none = xs.drop (k + 1) := by
  unfold cutV
  rw [show ((k : Nat) : Int) + 1 = ((k + 1 : Nat) : Int) by omega, HT.sIx_none, HT.sIx_nat, Nat.min_eq_left (by omega)]
  exact List.take_of_length_le (by rw [List.length_drop]; omega)
theorem dps_take {K : PySem.W.Frag} {H : Hp} : ∀ {xs : List V} {ds : List PyData} (_ : DpAll K H xs ds) (k : Nat), DpAll K H (xs.take k) (ds.take k)
  | _, _, .nil, k => by simp; exact .nil
  | _, _, .cons _ _, 0 => .nil
  | _, _, .cons a b, k + 1 => .cons a (dps_take b k)
theorem dps_drop {K : PySem.W.Frag} {H : Hp} : ∀ {xs : List V} {ds : List PyData} (_ : DpAll K H xs ds) (k : Nat), DpAll K H (xs.drop k) (ds.drop k)
  | _, _, .nil, k => by simp; exact .nil
  | _, _, .cons a b, 0 => .cons a b
  | _, _, .cons _ b, k + 1 => dps_drop b k
theorem catA_read {K : PySem.W.Frag} {H : Hp} {a0 b0 : Addr} {xs ys : List V} {Q : VK} (hx : SqT K H a0 xs) (hy : SqT K H b0 ys) (hl : xs.length + ys.length ≤ sizeLine)
    (q : ∀ p H', Same H H' → (∀ a l ds, Wd H a l ds → Wd H' a l ds) → SqT K H' p (xs ++ ys) → Q (.ref p) H') : rCatA K (.ref a0) (.ref b0) H Q := by
  refine ⟨a0, b0, xs, ys, rfl, rfl, hx, hy, hl, fun e => ?_, fun e1 e2 => ?_, fun e1 e2 p np => ?_⟩
  · refine q b0 H (Same.refl H) (fun _ _ _ W => W) ?_
    rw [e]
    exact hy
  · refine q a0 H (Same.refl H) (fun _ _ _ W => W) ?_
    rw [e2, List.append_nil]
    exact hx
  · exact q p _ (Same.up np) (fun _ _ _ W => W.new np) (SqT.of upd_same)
theorem Same.kp {H H' : Hp} {a : Addr} (s : Same H H') : Kp a H H' := fun b o _ e => s b o e
theorem noLs_mem : ∀ {L : List PyData}, noLs L = true → ∀ d ∈ L, noL d = true
  | [], _, d, hd => by cases hd
  | a :: L, h, d, hd => by
    have h' := Bool.and_eq_true_iff.mp (show (noL a && noLs L) = true from h)
    rcases List.mem_cons.mp hd with rfl | hd
    · exact h'.1
    · exact noLs_mem h'.2 d hd
abbrev rListOf (K : PySem.W.Frag) : List V → Hp → VK → Prop := fun xs H Q => ∃ p ys, xs = [V.ref p] ∧ (SqL K H p ys ∨ SqT K H p ys) ∧ ∀ l, H l = none → Q (.ref l) (upd H l (.lst ys))
structure Gp (mg : Str → Option Value) : Prop where
  ty : mg "type" = none
  it : mg "int" = none
  tu : mg "tuple" = none
  bo : mg "bool" = none
  len : mg "len" = none
  all : mg "all" = none
  enumerate : mg "enumerate" = none
  isi : mg "isinstance" = none
  min : mg "min" = none
  range : mg "range" = none
  list : mg "list" = none
section
variable {P : Program} {w : World} {K : PySem.W.Frag} {mg : Str → Option Value} {base : Heap}
def spIsTuple (K : PySem.W.Frag) : Sp := fun vs H Q _ => ∃ (v : V) (d : PyData) (n : Nat), vs = [v, iV n] ∧ Dp K H v d ∧ Q (.bl (isT d n)) H
def spIsBelow (K : PySem.W.Frag) : Sp := fun vs H Q _ => ∃ (v : V) (d : PyData) (n : Int), vs = [v, .int n] ∧ Dp K H v d ∧ Q (.bl (isI d 0 n)) H
end
end C1

/-! Nets as data. -/
namespace C1
open PySem PySem.Spec PyProof.Rows L2 SX
def strsL : List Str := ["else", "0"]
def gd : Nat → PyData → Bool
  | _, .none => true
  | _, .bool _ => true
  | _, .int _ => true
  | _, .str s => decide (s ∈ strsL)
  | n + 1, .tuple ds => decide (ds.length ≤ 1000) && ds.all (gd n)
  | _, _ => false
theorem gd_ok : ∀ (n : Nat) (d : PyData), gd n d = true → noL d = true ∧ PyData.canLay0 d = true ∧ PyData.depth d ≤ n
  | _, .none, _ => ⟨rfl, rfl, Nat.zero_le _⟩
  | _, .bool _, _ => ⟨rfl, rfl, Nat.zero_le _⟩
  | _, .int _, _ => ⟨rfl, rfl, Nat.zero_le _⟩
  | n, .str s, h => by
    have h1 : s ∈ strsL := by
      cases n <;> exact of_decide_eq_true h
    have h2 : ∀ s ∈ strsL, PyData.canLay0 (.str s) = true := by decide +kernel
    exact ⟨rfl, h2 s h1, Nat.zero_le _⟩
  | 0, .tuple _, h => by cases h
  | n + 1, .tuple ds, h => by
    have h2 := (Bool.and_eq_true_iff.mp h).2
    have h3 : ∀ ds : List PyData, ds.all (gd n) = true → noLs ds = true ∧ PyData.canLayAll0 ds = true ∧ PyData.depthAll ds ≤ n := by
      intro ds
      induction ds with
      | nil => exact fun _ => ⟨rfl, rfl, Nat.zero_le _⟩
      | cons d ds ih =>
        intro h
        rw [List.all_cons, Bool.and_eq_true] at h
        obtain ⟨a1, a2, a3⟩ := gd_ok n d h.1
        obtain ⟨b1, b2, b3⟩ := ih h.2
        refine ⟨?_, ?_, ?_⟩
        · show (noL d && noLs ds) = true
          rw [a1, b1]
          rfl
        · show (PyData.canLay0 d && PyData.canLayAll0 ds) = true
          rw [a2, b2]
          rfl
        · show max (PyData.depth d) (PyData.depthAll ds) ≤ n
          exact Nat.max_le.mpr ⟨a3, b3⟩
    obtain ⟨a, b, c⟩ := h3 ds h2
    exact ⟨a, b, Nat.succ_le_succ c⟩
  | 0, .list _, h => by cases h
  | 0, .dict _, h => by cases h
  | _ + 1, .list _, h => by cases h
  | _ + 1, .dict _, h => by cases h
theorem gd_shaped {n : Nat} {d : PyData} (h : gd n d = true) (hn : n ≤ 60) : SeqAt.shaped d = true := by
  obtain ⟨_, b, c⟩ := gd_ok n d h
  unfold SeqAt.shaped
  rw [Bool.and_eq_true]
  exact ⟨b, decide_eq_true (by omega)⟩
theorem gd_mem {n : Nat} {ds : List PyData} (h : gd (n + 1) (.tuple ds) = true) {d : PyData} (hd : d ∈ ds) : gd n d = true := List.all_eq_true.mp (Bool.and_eq_true_iff.mp h).2 d hd
theorem gd_len {n : Nat} {ds : List PyData} (h : gd (n + 1) (.tuple ds) = true) : ds.length ≤ 1000 := of_decide_eq_true (Bool.and_eq_true_iff.mp h).1
theorem gd_tup {n : Nat} {ds : List PyData} (hl : ds.length ≤ 1000) (h : ∀ d ∈ ds, gd n d = true) : gd (n + 1) (.tuple ds) = true := Bool.and_eq_true_iff.mpr ⟨decide_eq_true hl, List.all_eq_true.mpr h⟩
theorem gd_int {n : Nat} (k : Int) : gd n (.int k) = true := by cases n <;> rfl
def pr (p : Nat × Nat) : PyData := .tuple [iD p.1, iD p.2]
structure Net where
  firsts : List Nat
  ands : List (Nat × Nat)
  nexts : List Nat
  outs : List Nat
def Net.d (n : Net) : PyData := .tuple [.tuple (n.firsts.map iD), .tuple (n.ands.map pr), .tuple (n.nexts.map iD), .tuple (n.outs.map iD)]
def Bits (l : List Nat) : Prop := ∀ x ∈ l, x < 2
structure NetOk (n : Net) : Prop where
  fb : Bits n.firsts
  fl : n.firsts.length ≤ 100
  al : n.ands.length ≤ 200
  nl : n.nexts.length = n.firsts.length
  ol : n.outs.length ≤ 100
  ao : ∀ (k : Nat) (p : Nat × Nat), n.ands[k]? = some p → p.1 < 2 * (1 + n.firsts.length + k) ∧ p.2 < 2 * (1 + n.firsts.length + k)
  no : ∀ x ∈ n.nexts, x < 2 * (1 + n.firsts.length + n.ands.length)
  oo : ∀ x ∈ n.outs, x < 2 * (1 + n.firsts.length + n.ands.length)
def memD (m : List Nat) : PyData := .tuple (m.map iD)
theorem noLs_int : ∀ m : List Nat, noLs (m.map iD) = true
  | [] => rfl
  | _ :: r => noLs_int r
theorem noLs_pr : ∀ ps : List (Nat × Nat), noLs (ps.map pr) = true
  | [] => rfl
  | p :: ps => noLs_pr ps
section
variable {P : Program} {w : World} {K : PySem.W.Frag} {mg : Str → Option Value} {base : Heap} {H H' : Hp}
structure NP (K : PySem.W.Frag) (H : Hp) (nA : Addr) (n : Net) : Prop where
  ex : ∃ (f a x o : Addr) (avs : List V), SqT K H nA [.ref f, .ref a, .ref x, .ref o] ∧ SqT K H f (n.firsts.map iV) ∧ (SqT K H a avs ∧ DpAll K H avs (n.ands.map pr)) ∧ SqT K H x (n.nexts.map iV) ∧ SqT K H o (n.outs.map iV)
theorem NP.stay {nA : Addr} {n : Net} (N : NP K H nA n) (st : ∀ a xs, SqT K H a xs → SqT K H' a xs) : NP K H' nA n := by
  obtain ⟨f, a, x, o, avs, h0, h1, h2, h3, h4⟩ := N.ex
  exact ⟨f, a, x, o, avs, st _ _ h0, st _ _ h1, ⟨st _ _ h2.1, dps_stay st _ _ h2.2 (noLs_pr _)⟩, st _ _ h3, st _ _ h4⟩
theorem NP.same {nA : Addr} {n : Net} (N : NP K H nA n) (s : Same H H') : NP K H' nA n := N.stay (same_tup s)
theorem dps_ints_eq {vs : List V} {ks : List Nat} (h : DpAll K H vs (ks.map iD)) : vs = ks.map iV := dps_flat h (by rw [List.map_map, List.map_map]; rfl)
theorem NP.of {nA : Addr} {n : Net} (h : Dp K H (.ref nA) n.d) : NP K H nA n := by
  obtain ⟨b, xs, e, s, q⟩ := dp_tup h
  cases e
  cases q with
  | cons a1 q => cases q with
  | cons a2 q => cases q with
  | cons a3 q => cases q with
  | cons a4 q =>
  cases q
  obtain ⟨b1, x1, rfl, s1, d1⟩ := dp_tup a1
  obtain ⟨b2, x2, rfl, s2, d2⟩ := dp_tup a2
  obtain ⟨b3, x3, rfl, s3, d3⟩ := dp_tup a3
  obtain ⟨b4, x4, rfl, s4, d4⟩ := dp_tup a4
  rw [dps_ints_eq d1] at s1
  rw [dps_ints_eq d3] at s3
  rw [dps_ints_eq d4] at s4
  exact ⟨b1, b2, b3, b4, x2, s, s1, ⟨s2, d2⟩, s3, s4⟩
theorem NP.dp {nA : Addr} {n : Net} (N : NP K H nA n) : Dp K H (.ref nA) n.d := by
  obtain ⟨f, a, x, o, avs, h0, h1, h2, h3, h4⟩ := N.ex
  exact .tup h0 (.cons (.tup h1 (dps_ints _)) (.cons (.tup h2.1 h2.2) (.cons (.tup h3 (dps_ints _)) (.cons (.tup h4 (dps_ints _)) .nil))))
theorem pr_at {vs : List V} {ps : List (Nat × Nat)} {i : Nat} {p : Nat × Nat} (h : DpAll K H vs (ps.map pr)) (e : ps[i]? = some p) : ∃ b, vs[i]? = some (.ref b) ∧ SqT K H b [iV p.1, iV p.2] := by
  obtain ⟨x, hx, hd⟩ := dps_put h (show (ps.map pr)[i]? = some (pr p) by rw [List.getElem?_map, e]; rfl)
  obtain ⟨b, xs, rfl, s, q⟩ := dp_tup hd
  rw [dps_flat q (us := [iV p.1, iV p.2]) rfl] at s
  exact ⟨b, hx, s⟩
end
end C1

/-! What is a net. -/
namespace C1
open PySem PySem.Spec PyProof.Rows L2 SX
abbrev NIN : List Str := ["thing", "firsts", "ands", "nexts", "outs", "latches", "at", "part", "first", "side", "literal"]
def andB (n : Int) (d : PyData) : Bool := match d with
  | .tuple ds => decide (ds.length = 2) && ds.all fun x => isI x 0 n
  | _ => false
def andsB (L : Nat) : Nat → List PyData → Bool
  | _, [] => true
  | k, d :: ds => andB ((2 * (1 + L + k) : Nat) : Int) d && andsB L (k + 1) ds
def netB (d : PyData) : Bool := match d with
  | .tuple [.tuple fs, .tuple as, .tuple ns, .tuple os] => decide (ns.length = fs.length) && (fs.all fun x => isI x 0 2) && andsB fs.length 0 as && ((ns ++ os).all fun x => isI x 0 ((2 * (1 + fs.length + as.length) : Nat) : Int))
  | _ => false
theorem andsB_drop {L : Nat} : ∀ {ds : List PyData} {i k : Nat} {d : PyData}, ds[i]? = some d → andsB L k (ds.drop i) = (andB ((2 * (1 + L + k) : Nat) : Int) d && andsB L (k + 1) (ds.drop (i + 1)))
  | [], i, _, _, h => by simp at h
  | d0 :: ds, 0, k, d, h => by
    cases h
    rfl
  | d0 :: ds, i + 1, k, d, h => andsB_drop (ds := ds) (i := i) (k := k) h
theorem netB_four {ds : List PyData} (hl : ds.length = 4) (h : (ds.all fun d => decide (tyD d = "tuple")) = false) : netB (.tuple ds) = false := by
  match ds, hl with
  | [a, b, c, d], _ =>
    cases a <;> cases b <;> cases c <;> cases d <;> first | rfl | (exact absurd h (by decide)) | (simp [tyD] at h)
theorem filt_empty (b : PyData → Bool) : ∀ ds : List PyData, (ds.filter fun d => !(b d)).isEmpty = ds.all b
  | [] => rfl
  | d :: ds => by
    rw [List.filter_cons, List.all_cons]
    cases h : b d with
    | true =>
      rw [if_neg (by decide), Bool.true_and]
      exact filt_empty b ds
    | false => rfl
section
variable {P : Program} {w : World} {K : PySem.W.Frag} {mg : Str → Option Value} {base : Heap} {H H' : Hp}
/-- all([b of x for x in a tuple]) -/
theorem lc_all {a D : Addr} {xs : List V} {ds : List PyData} {b : PyData → Bool} {σ : L2.St} {Qd : Hp → Prop} {j : Nat} {wv : List Nat} {te : TE} (nD : H D = none) (sa : SqT K H a xs) (da : DpAll K H xs ds) (hn : noLs ds = true) (hl : ds.length ≤ 900)
    (ht : ∀ x d H1 (R : VK), Same H H1 → Dp K H1 x d → d ∈ ds → R (.bl (b d)) H1 → te ((wipe σ wv).set j (some x)) H1 R) (hσ : ∀ x, wipe ((wipe σ wv).set j (some x)) wv = wipe σ wv) (q : Qd (upd H D (.lst ((ds.map b).map V.bl)))) :
    ∃ W : Nat → Nat → Hp → Prop, (∃ m, W 0 m (upd H D (.lst []))) ∧ ∀ i m H, W i m H →
      ((Itt K a).stop i H ∧ Qd H) ∨ ((Itt K a).go i H ∧ ∃ Nx : Hp → Prop, (∀ H', Nx H' → ∃ m', m' < m ∧ W (i + 1) m' H') ∧ ∀ x H', (Itt K a).yld i H x H' → gName j x (wipe σ wv) H' fun σ2 H2 => wipe σ2 wv = wipe σ wv ∧ tYes σ2 H2 fun b H3 =>
        if b = true then te σ2 H3 fun y H4 => ∃ acc, H4 D = some (.lst acc) ∧ acc.length < sizeLine ∧ Nx (upd H4 D (.lst (acc ++ [y]))) else Nx H3) := by
  have lda := dps_len da
  have s6 : ∀ {o : HO}, Same H (upd H D o) := fun {o} => Same.up nD
  refine lc_tup (xs := xs) (fun i H1 => H1 = upd H D (.lst (((ds.take i).map b).map V.bl))) rfl (fun i H1 _ h => ?_) (fun i x H1 hx h => ?_) (fun H1 h => ?_)
  · subst h
    exact same_tup s6 _ _ sa
  · subst h
    obtain ⟨di, hdi, dx⟩ := dps_get (dps_stay (same_tup s6) _ _ da hn) hx
    refine ⟨hσ x, ?_⟩
    refine ht x di _ (fun y H4 => ∃ acc, H4 D = some (.lst acc) ∧ acc.length < sizeLine ∧ upd H4 D (.lst (acc ++ [y])) = upd H D (.lst (((ds.take (i + 1)).map b).map V.bl))) s6 dx (List.mem_of_getElem? hdi) ⟨_, upd_same, ?_, ?_⟩
    · rw [List.length_map, List.length_map]
      exact lineS200 (by rw [List.length_take]; omega)
    · rw [upd_upd, take_snoc hdi, List.map_append, List.map_append]
      rfl
  · subst h
    rw [lda, List.take_length]
    exact q
theorem all_id (b : PyData → Bool) (ds : List PyData) : (ds.map b).all id = ds.all b := by
  rw [List.all_map]
  rfl
/-- [x for x in a tuple if not b of x] -/
theorem lc_flt {a D : Addr} {xs : List V} {ds : List PyData} {b : PyData → Bool} {σ : L2.St} {Qd : Hp → Prop} {j : Nat} {wv : List Nat} {tt : TT} (nD : H D = none) (sa : SqT K H a xs) (da : DpAll K H xs ds) (hn : noLs ds = true) (hl : ds.length ≤ 900)
    (ht : ∀ x d H1 (R : Bool → Hp → Prop), Same H H1 → Dp K H1 x d → d ∈ ds → (∀ H2, Same H1 H2 → R (!(b d)) H2) → tt ((wipe σ wv).set j (some x)) H1 R)
    (hσ : ∀ x, ((wipe σ wv).set j (some x))[j]? = some (some x) ∧ wipe ((wipe σ wv).set j (some x)) wv = wipe σ wv) (q : ∀ H' zs, Same H H' → H' D = some (.lst zs) → DpAll K H' zs (ds.filter fun d => !(b d)) → Qd H') :
    ∃ W : Nat → Nat → Hp → Prop, (∃ m, W 0 m (upd H D (.lst []))) ∧ ∀ i m H, W i m H →
      ((Itt K a).stop i H ∧ Qd H) ∨ ((Itt K a).go i H ∧ ∃ Nx : Hp → Prop, (∀ H', Nx H' → ∃ m', m' < m ∧ W (i + 1) m' H') ∧ ∀ x H', (Itt K a).yld i H x H' → gName j x (wipe σ wv) H' fun σ2 H2 => wipe σ2 wv = wipe σ wv ∧ tt σ2 H2 fun b H3 =>
        if b = true then tVar j σ2 H3 fun y H4 => ∃ acc, H4 D = some (.lst acc) ∧ acc.length < sizeLine ∧ Nx (upd H4 D (.lst (acc ++ [y]))) else Nx H3) := by
  have lda := dps_len da
  refine lc_tup (xs := xs) (fun i H1 => Same H H1 ∧ ∃ zs, H1 D = some (.lst zs) ∧ zs.length ≤ i ∧ DpAll K H1 zs ((ds.take i).filter fun d => !(b d))) ⟨same_new nD, [], upd_same, Nat.zero_le _, .nil⟩ (fun i H1 _ h => same_tup h.1 _ _ sa) (fun i x H1 hx h => ?_) (fun H1 h => ?_)
  · obtain ⟨s1, zs, e, lz, dz⟩ := h
    obtain ⟨di, hdi, dx⟩ := dps_get (dps_stay (same_tup s1) _ _ da hn) hx
    have hil : i < ds.length := (List.getElem?_eq_some_iff.mp hdi).1
    have hnf : ∀ n, noLs ((ds.take n).filter fun d => !(b d)) = true := fun n => by
      have : ∀ l : List PyData, (∀ d ∈ l, noL d = true) → noLs l = true := fun l => by
        induction l with
        | nil => exact fun _ => rfl
        | cons d l ih =>
          intro h
          show (noL d && noLs l) = true
          rw [h d (List.mem_cons_self ..), ih fun x hx => h x (List.mem_cons_of_mem _ hx)]
          rfl
      exact this _ fun d hd => noLs_mem hn d (List.mem_of_mem_take (List.mem_filter.mp hd).1)
    refine ⟨(hσ x).2, ht x di H1 _ s1 dx (List.mem_of_getElem? hdi) fun H2 s2 => ?_⟩
    cases hb : b di with
    | true =>
      show _ ∧ _
      refine ⟨s1.trans s2, zs, s2 _ _ e, by omega, ?_⟩
      rw [take_snoc hdi, List.filter_append, List.filter_cons_of_neg (by rw [hb]; decide), List.filter_nil, List.append_nil]
      exact dps_stay (same_tup s2) _ _ dz (hnf i)
    | false =>
      refine ⟨x, (hσ x).1, zs, s2 _ _ e, lineS200 (by omega), same_put (s1.trans s2) nD, zs ++ [x], upd_same, by rw [List.length_append]; show zs.length + 1 ≤ i + 1; omega, ?_⟩
      rw [take_snoc hdi, List.filter_append, List.filter_cons_of_pos (by rw [hb]; rfl), List.filter_nil]
      exact push_dps (s2 _ _ e) (dps_stay (same_tup s2) _ _ dz (hnf i)) (hnf i) (dp_stay (same_tup s2) _ _ dx (noLs_mem hn _ (List.mem_of_getElem? hdi))) (noLs_mem hn _ (List.mem_of_getElem? hdi))
  · obtain ⟨s1, zs, e, lz, dz⟩ := h
    rw [lda, List.take_length] at dz
    exact q H1 zs s1 e dz
/-- a list of good things beside the empty one -/
theorem eq_nil {D : Addr} {zs : List V} {F : List PyData} {R : VK} {eq : Bool} (e : H D = some (.lst zs)) (dz : DpAll K H zs F) (hn : noLs F = true) (hF : LayAll F) (q : ∀ z, H z = none → R (.bl (if eq then F.isEmpty else !F.isEmpty)) (upd H z (.lst []))) :
    (0 ≤ sizeLine) ∧ ∀ z, H z = none → (if eq = true then rEqD K (.ref D) (.ref z) (upd H z (.lst [])) R else rNeD K (.ref D) (.ref z) (upd H z (.lst [])) R) := by
  refine ⟨Nat.zero_le _, fun z nz => ?_⟩
  have dz2 := dps_stay (same_tup (same_new (o := .lst []) nz)) _ _ dz hn
  have e2 := (same_new (o := .lst []) nz) _ _ e
  have q2 := q z nz
  cases eq with
  | true =>
    refine ⟨.list F, .list [], .lst (SqL.of e2) dz2, .lst (SqL.of upd_same) .nil, shaped_list F hF, shaped_list [] (fun d hd => by cases hd), ?_⟩
    rw [eqv_nil]
    exact q2
  | false =>
    refine ⟨.list F, .list [], .lst (SqL.of e2) dz2, .lst (SqL.of upd_same) .nil, shaped_list F hF, shaped_list [] (fun d hd => by cases hd), ?_⟩
    rw [eqv_nil]
    exact q2
theorem gd_lay {n : Nat} {ds : List PyData} (hg : ∀ d ∈ ds, gd n d = true) (hn : n ≤ 5) {p : PyData → Bool} : LayAll (ds.filter p) := fun d hd => by
  obtain ⟨_, b, c⟩ := gd_ok n d (hg d (List.mem_filter.mp hd).1)
  exact ⟨b, by omega⟩
theorem filt_noL {ds : List PyData} (hn : noLs ds = true) (p : PyData → Bool) : noLs (ds.filter p) = true := by
  have : ∀ l : List PyData, (∀ d ∈ l, noL d = true) → noLs l = true := fun l => by
    induction l with
    | nil => exact fun _ => rfl
    | cons d l ih =>
      intro h
      show (noL d && noLs l) = true
      rw [h d (List.mem_cons_self ..), ih fun x hx => h x (List.mem_cons_of_mem _ hx)]
      rfl
  exact this _ fun d hd => noLs_mem hn d (List.mem_filter.mp hd).1
def spIsNet (K : PySem.W.Frag) : Sp := fun vs H Q _ => ∃ (v : V) (d : PyData) (n : Nat), vs = [v] ∧ Dp K H v d ∧ gd n d = true ∧ n ≤ 4 ∧ (∀ ds, d = .tuple ds → ∀ es, .tuple es ∈ ds → es.length ≤ 400) ∧ ∀ H', Same H H' → Q (.bl (netB d)) H'
end
end C1

/-! The law's tests. -/
namespace C1
open PySem PySem.Spec PyProof.Rows L2 SX
abbrev NLN : List Str := ["thing", "firsts", "ands", "nexts", "outs", "at", "many", "part", "bit"]
theorem iteN {c A B : Prop} [Decidable c] (hc : ¬ c) (h : A) : if (!decide c) = true then A else B := by
  rw [decide_eq_false hc]
  exact iteT h
section
variable {P : Program} {w : World} {K : PySem.W.Frag} {mg : Str → Option Value} {base : Heap} {H H' : Hp}
theorem ne_nilR {D : Addr} {zs : List V} {F : List PyData} {R : VK} (e : H D = some (.lst zs)) (dz : DpAll K H zs F) (hn : noLs F = true) (hF : LayAll F) (q : ∀ z, H z = none → R (.bl (!F.isEmpty)) (upd H z (.lst []))) :
    (0 ≤ sizeLine) ∧ ∀ z, H z = none → rNeD K (.ref D) (.ref z) (upd H z (.lst [])) R := eq_nil (eq := false) e dz hn hF q
def spIsN (K : PySem.W.Frag) : Sp := fun vs H Q _ => ∃ (v : V) (d : PyData) (n : Int), vs = [v, .int n] ∧ Dp K H v d ∧ noL d = true ∧ Q (.bl (isI d 0 n)) H
end
end C1

/-! The law's draws of nets. -/
namespace C1
open PySem PySem.Spec PyProof.Rows L2 SX
abbrev NLD : List Str := ["w", "latches", "ands", "outs", "firsts", "pairs", "k", "one", "many", "nexts", "told"]
section
variable {P : Program} {w : World} {K : PySem.W.Frag} {mg : Str → Option Value} {base : Heap} {H H' : Hp}
theorem lc_draw {a l D : Addr} {ds : List Int} {lo : Int} {n : Nat} {te : TE} {σ : L2.St} {wv : List Nat} {j : Nat} {Pk : Nat → Prop} {Qd : Hp → Prop} (nD : H D = none) (W : Wd H a l ds) (hn : n ≤ 500)
    (ht : ∀ i H1 (R : VK), i < n → Kp a H H1 → Wd H1 a l ds → (∀ x H2, Pk x → Kp a H1 H2 → Wd H2 a l ds → R (iV x) H2) → te ((wipe σ wv).set j (some (.int (lo + ((i : Nat) : Int))))) H1 R)
    (hσ : ∀ x, wipe ((wipe σ wv).set j (some x)) wv = wipe σ wv)
    (q : ∀ H' (xs : List Nat), Kp a H H' → Wd H' a l ds → xs.length = n → (∀ x ∈ xs, Pk x) → H' D = some (.lst (xs.map iV)) → Qd H') :
    ∃ W : Nat → Nat → Hp → Prop, (∃ m, W 0 m (upd H D (.lst []))) ∧ ∀ i m H, W i m H →
      ((Itr lo n).stop i H ∧ Qd H) ∨ ((Itr lo n).go i H ∧ ∃ Nx : Hp → Prop, (∀ H', Nx H' → ∃ m', m' < m ∧ W (i + 1) m' H') ∧ ∀ x H', (Itr lo n).yld i H x H' → gName j x (wipe σ wv) H' fun σ2 H2 => wipe σ2 wv = wipe σ wv ∧ tYes σ2 H2 fun b H3 =>
        if b = true then te σ2 H3 fun y H4 => ∃ acc, H4 D = some (.lst acc) ∧ acc.length < sizeLine ∧ Nx (upd H4 D (.lst (acc ++ [y]))) else Nx H3) := by
  obtain ⟨neD, neL⟩ := W.ne2 nD
  refine lc_range (n := n) (fun i H1 => Kp a H H1 ∧ Wd H1 a l ds ∧ ∃ xs : List Nat, xs.length = i ∧ (∀ x ∈ xs, Pk x) ∧ H1 D = some (.lst (xs.map iV))) ⟨Kp.new nD, W.new nD, [], rfl, (fun x h => by cases h), upd_same⟩ (fun i H1 hi h => ?_) (fun H1 h => ?_)
  · obtain ⟨k1, W1, xs, lx, px, e⟩ := h
    refine ⟨hσ _, ?_⟩
    refine ht i H1 (fun y H4 => ∃ acc, H4 D = some (.lst acc) ∧ acc.length < sizeLine ∧ (Kp a H (upd H4 D (.lst (acc ++ [y]))) ∧ Wd (upd H4 D (.lst (acc ++ [y]))) a l ds ∧ ∃ xs : List Nat, xs.length = i + 1 ∧ (∀ x ∈ xs, Pk x) ∧ (upd H4 D (.lst (acc ++ [y]))) D = some (.lst (xs.map iV)))) hi k1 W1 fun x H2 hx k2 W2 => ?_
    refine ⟨_, k2 D _ neD e, by rw [List.length_map]; exact lineS200 (by omega), (k1.trans k2).put nD, W2.put neD neL, xs ++ [x], by rw [List.length_append, lx]; rfl, fun y hy => ?_, ?_⟩
    · rcases List.mem_append.mp hy with h | h
      · exact px y h
      · rw [List.mem_singleton.mp h]
        exact hx
    · rw [upd_same, List.map_append]
      rfl
  · obtain ⟨k1, W1, xs, lx, px, e⟩ := h
    exact q H1 xs k1 W1 lx px e
end
end C1

set_option maxHeartbeats 4000000
/-! The mathematics of the tokens: the relation Lx (what a text from a place on gives), words that are read whole, texts put together of gaps and words. -/
namespace K0
open PySem SX
abbrev Cs := List Nat
def lets : Cs := (Str.ofString "abcdefghijklmnopqrstuvwxyzABCDEFGHIJKLMNOPQRSTUVWXYZ").cps.toList
def digs : Cs := (Str.ofString "0123456789").cps.toList
def shorts : Cs := (Str.ofString ":;,()[]=+-*&|^~<?").cps.toList
def kwV : List L2.V := [.str "machine", .str "reg", .str "file", .str "rom", .str "at", .str "let", .str "guess", .str "when", .str "wide", .str "part", .str "join"]
def longV : List L2.V := [.str ":=", .str "<<", .str ">>", .str "=="]
def isKw (t : Cs) : Bool := L2.inV (.str (S t)) kwV
def isLong (t : Cs) : Bool := L2.inV (.str (S t)) longV
def goesOn (c : Nat) : Bool := decide (c ∈ lets) || (decide (c ∈ digs) || decide (c = 95))
def isNum (t : Cs) : Bool := match t with
  | [] => false
  | c :: r => if c = 48 ∧ r ≠ [] then false else (c :: r).all fun d => decide (d ∈ digs)
def small (t : Cs) : Option Nat := if t.length ≤ 10 ∧ isNum t = true then (if NumText.digitsVal t < 4294967296 then some (NumText.digitsVal t) else none) else none
def litOk (v wd : Nat) : Bool := decide (1 ≤ wd) && (decide (wd ≤ 32) && decide (v < 2 ^ wd))
abbrev KP := Str × PyData
def numTok (t : Cs) : Option KP :=
  let p := Txt.partition (S t) (S [119])
  if p.2.1 = S [] then (small p.1.cps.toList).map fun v => ("number", .int (v : Nat))
  else match small p.1.cps.toList, small p.2.2.cps.toList with
    | some v, some wd => if litOk v wd = true then some ("literal", .tuple [.int (v : Nat), .int (wd : Nat)]) else none
    | _, _ => none
def tokOf (t : Cs) : Option KP := match t with
  | [] => none
  | c :: _ => if c ∈ digs then numTok t else if c ∈ lets then (if isKw t = true then some ("keyword", .str (S t)) else some ("name", .str (S t))) else some ("sign", .str (S t))
def tokLen (s : Cs) : Option Nat := match s with
  | [] => none
  | h :: t => if h ∈ lets ∨ h ∈ digs then some (1 + (t.takeWhile goesOn).length)
    else if isLong ((h :: t).take 2) = true then some 2 else if h ∈ shorts then some 1 else none
def mk (kp : KP) (r c : Int) : PyData := .tuple [.str kp.1, kp.2, .int r, .int c]
inductive Out | ok (ts : List PyData) | bad (isChar : Bool) (r c : Int)
inductive Lx : Cs → Int → Int → List PyData → Out → Prop
  | nil {r c acc} : Lx [] r c acc (.ok (acc ++ [mk ("end", .str (S [])) r c]))
  | nl {s r c acc o} : Lx s (r + 1) 1 acc o → Lx (10 :: s) r c acc o
  | sp {s r c acc o} : Lx s r (c + 1) acc o → Lx (32 :: s) r c acc o
  | rem {s r c acc o} : Lx (s.dropWhile fun x => decide (x ≠ 10)) r (c + 1 + ((s.takeWhile fun x => decide (x ≠ 10)).length : Int)) acc o → Lx (35 :: s) r c acc o
  | tok {h t r c acc o n kp} : h ≠ 10 → h ≠ 32 → h ≠ 35 → tokLen (h :: t) = some n → tokOf ((h :: t).take n) = some kp → Lx ((h :: t).drop n) r (c + (n : Int)) (acc ++ [mk kp r c]) o → Lx (h :: t) r c acc o
  | badnum {h t r c acc n} : h ≠ 10 → h ≠ 32 → h ≠ 35 → tokLen (h :: t) = some n → tokOf ((h :: t).take n) = none → Lx (h :: t) r c acc (.bad false r c)
  | badch {h t r c acc} : h ≠ 10 → h ≠ 32 → h ≠ 35 → tokLen (h :: t) = none → Lx (h :: t) r c acc (.bad true r c)
/-- what may stand behind a word -/
inductive Stop : Cs → Prop
  | nil : Stop []
  | sp {s} : Stop (32 :: s)
  | nl {s} : Stop (10 :: s)
  | rem {s} : Stop (35 :: s)
def Good (t : Cs) (kp : KP) : Prop := t.length ≤ 40 ∧ ∀ rest r c acc o, Stop rest → Lx rest r (c + (t.length : Int)) (acc ++ [mk kp r c]) o → Lx (t ++ rest) r c acc o
def Bad (t : Cs) (b : Bool) : Prop := t.length ≤ 40 ∧ ∀ rest r c acc, Stop rest → Lx (t ++ rest) r c acc (.bad b r c)
inductive WordOk (t : Cs) (kp : KP) : Prop
  | good : kp.1 ≠ "bad" → Good t kp → WordOk t kp
  | bad (b : Bool) : kp = ((("bad" : Str), PyData.bool b) : KP) → Bad t b → WordOk t kp

theorem stop_take {rest : Cs} (h : Stop rest) : rest.takeWhile goesOn = [] := by
  cases h with
  | nil => rfl
  | sp => exact List.takeWhile_cons_of_neg (by decide +kernel)
  | nl => exact List.takeWhile_cons_of_neg (by decide +kernel)
  | rem => exact List.takeWhile_cons_of_neg (by decide +kernel)
theorem run_take {t rest : Cs} (h : ∀ c ∈ t, goesOn c = true) (hs : Stop rest) : (t ++ rest).takeWhile goesOn = t := by
  rw [List.takeWhile_append_of_pos h, stop_take hs, List.append_nil]
theorem start_ne {h : Nat} (e : h ∈ lets ∨ h ∈ digs) : h ≠ 10 ∧ h ≠ 32 ∧ h ≠ 35 := by
  refine ⟨?_, ?_, ?_⟩ <;> (rintro rfl; revert e; decide +kernel)
/-- a word that begins with a letter or a digit -/
theorem run_len {h : Nat} {t rest : Cs} (e : h ∈ lets ∨ h ∈ digs) (hg : ∀ c ∈ t, goesOn c = true) (hs : Stop rest) : tokLen (h :: (t ++ rest)) = some (1 + t.length) := by
  unfold tokLen
  simp only []
  rw [if_pos e, run_take hg hs]
theorem good_run {h : Nat} {t : Cs} {kp : KP} (e : h ∈ lets ∨ h ∈ digs) (hg : ∀ c ∈ t, goesOn c = true) (hl : t.length ≤ 39) (hk : tokOf (h :: t) = some kp) : Good (h :: t) kp := by
  refine ⟨by rw [List.length_cons]; omega, fun rest r c acc o hs hL => ?_⟩
  show Lx (h :: (t ++ rest)) _ _ _ _
  obtain ⟨n1, n2, n3⟩ := start_ne e
  have ht : (h :: (t ++ rest)).take (1 + t.length) = h :: t := by
    rw [Nat.add_comm 1 t.length, List.take_succ_cons, List.take_left]
  have hd : (h :: (t ++ rest)).drop (1 + t.length) = rest := by
    rw [Nat.add_comm 1 t.length, List.drop_succ_cons, List.drop_left]
  refine Lx.tok n1 n2 n3 (run_len e hg hs) (by rw [ht]; exact hk) ?_
  rw [hd]
  have el : ((h :: t).length : Int) = ((1 + t.length : Nat) : Int) := by rw [List.length_cons, Nat.add_comm 1 t.length]
  rw [el] at hL
  exact hL
theorem bad_run {h : Nat} {t : Cs} (e : h ∈ lets ∨ h ∈ digs) (hg : ∀ c ∈ t, goesOn c = true) (hl : t.length ≤ 39) (hk : tokOf (h :: t) = none) : Bad (h :: t) false := by
  refine ⟨by rw [List.length_cons]; omega, fun rest r c acc hs => ?_⟩
  show Lx (h :: (t ++ rest)) _ _ _ _
  obtain ⟨n1, n2, n3⟩ := start_ne e
  have ht : (h :: (t ++ rest)).take (1 + t.length) = h :: t := by
    rw [Nat.add_comm 1 t.length, List.take_succ_cons, List.take_left]
  exact Lx.badnum n1 n2 n3 (run_len e hg hs) (by rw [ht]; exact hk)
/-- the same by computation, for a word that is written out -/
def runChk (t : Cs) (kp : Option KP) : Bool := match t with
  | [] => false
  | h :: r => (decide (h ∈ lets) || decide (h ∈ digs)) && (r.all goesOn && (decide (r.length ≤ 39)))
theorem chk_parts {t : Cs} (h : runChk t none = true) : ∃ c r, t = c :: r ∧ (c ∈ lets ∨ c ∈ digs) ∧ (∀ x ∈ r, goesOn x = true) ∧ r.length ≤ 39 := by
  cases t with
  | nil => cases h
  | cons c r =>
    have h' : ((decide (c ∈ lets) || decide (c ∈ digs)) && (r.all goesOn && (decide (r.length ≤ 39)))) = true := h
    rw [Bool.and_eq_true, Bool.and_eq_true, Bool.or_eq_true, decide_eq_true_eq, decide_eq_true_eq, decide_eq_true_eq, List.all_eq_true] at h'
    exact ⟨c, r, rfl, h'.1, h'.2.1, h'.2.2⟩
theorem word_run {t : Cs} {kp : KP} (h : runChk t none = true) (hk : tokOf t = some kp) (hb : kp.1 ≠ "bad") : WordOk t kp := by
  obtain ⟨c, r, rfl, e, hg, hl⟩ := chk_parts h
  exact .good hb (good_run e hg hl hk)
theorem word_badrun {t : Cs} (h : runChk t none = true) (hk : tokOf t = none) : WordOk t (("bad", .bool false) : KP) := by
  obtain ⟨c, r, rfl, e, hg, hl⟩ := chk_parts h
  exact .bad false rfl (bad_run e hg hl hk)
/-- a sign: not a letter, not a digit; what stands behind makes no longer one of it -/
def signChk (h : Nat) : Bool := !decide (h ∈ lets) && (!decide (h ∈ digs) && (!isLong [h] && (!isLong [h, 32] && (!isLong [h, 10] && (!isLong [h, 35] && (!decide (h = 10) && (!decide (h = 32) && !decide (h = 35))))))))
theorem sign_len {h : Nat} {rest : Cs} (hc : signChk h = true) (hs : Stop rest) : tokLen (h :: rest) = if h ∈ shorts then some 1 else none := by
  unfold signChk at hc
  simp only [Bool.and_eq_true, Bool.not_eq_true', decide_eq_false_iff_not] at hc
  obtain ⟨h1, h2, h3, h4, h5, h6, _⟩ := hc
  have hl : isLong ((h :: rest).take 2) = false := by
    cases hs with
    | nil => exact h3
    | sp => exact h4
    | nl => exact h5
    | rem => exact h6
  unfold tokLen
  simp only []
  rw [if_neg (fun z => z.elim h1 h2), hl]
  rfl
theorem sign_ne {h : Nat} (hc : signChk h = true) : h ≠ 10 ∧ h ≠ 32 ∧ h ≠ 35 := by
  unfold signChk at hc
  simp only [Bool.and_eq_true, Bool.not_eq_true', decide_eq_false_iff_not] at hc
  exact ⟨hc.2.2.2.2.2.2.1, hc.2.2.2.2.2.2.2.1, hc.2.2.2.2.2.2.2.2⟩
theorem sign_tok {h : Nat} {t : Cs} (h1 : h ∉ lets) (h2 : h ∉ digs) : tokOf (h :: t) = some (("sign", .str (S (h :: t))) : KP) := by
  unfold tokOf
  simp only []
  rw [if_neg h2, if_neg h1]
theorem word_short {h : Nat} (hc : signChk h = true) (hm : h ∈ shorts) : WordOk [h] (("sign", .str (S [h])) : KP) := by
  obtain ⟨n1, n2, n3⟩ := sign_ne hc
  have hc' := hc
  unfold signChk at hc'
  simp only [Bool.and_eq_true, Bool.not_eq_true', decide_eq_false_iff_not] at hc'
  refine .good (show ("sign" : Str) ≠ "bad" by decide) ⟨(by decide : 1 ≤ 40), fun rest r c acc o hs hL => ?_⟩
  refine Lx.tok (n := 1) n1 n2 n3 ((sign_len hc hs).trans (if_pos hm)) (sign_tok hc'.1 hc'.2.1) ?_
  exact hL
theorem word_badch {h : Nat} (hc : signChk h = true) (hm : h ∉ shorts) : WordOk [h] (("bad", .bool true) : KP) := by
  obtain ⟨n1, n2, n3⟩ := sign_ne hc
  exact .bad true rfl ⟨(by decide : 1 ≤ 40), fun rest r c acc hs => Lx.badch n1 n2 n3 ((sign_len hc hs).trans (if_neg hm))⟩
theorem word_long {a b : Nat} (h1 : a ∉ lets) (h2 : a ∉ digs) (h3 : isLong [a, b] = true) (hn : a ≠ 10 ∧ a ≠ 32 ∧ a ≠ 35) : WordOk [a, b] (("sign", .str (S [a, b])) : KP) := by
  refine .good (show ("sign" : Str) ≠ "bad" by decide) ⟨(by decide : 2 ≤ 40), fun rest r c acc o hs hL => ?_⟩
  refine Lx.tok (n := 2) hn.1 hn.2.1 hn.2.2 ?_ (sign_tok (t := [b]) h1 h2) ?_
  · show tokLen (a :: b :: rest) = some 2
    unfold tokLen
    simp only []
    rw [if_neg (fun z => z.elim h1 h2)]
    show (if isLong [a, b] = true then some 2 else _) = _
    rw [if_pos h3]
  · exact hL
/-! numbers -/
theorem dig_iff {c : Nat} : (48 ≤ c ∧ c ≤ 57) → c ∈ digs := by
  rintro ⟨h1, h2⟩
  have : ∀ d : Nat, d < 58 → 48 ≤ d → d ∈ digs := by decide +kernel
  exact this c (by omega) h1
theorem num_head {n : Nat} (h : 0 < n) : ∃ c r, TL.numL n = c :: r ∧ c ≠ 48 := by
  induction n using Nat.strongRecOn with
  | _ n ih =>
    by_cases h10 : n < 10
    · exact ⟨48 + n, [], TL.numL_lt h10, by omega⟩
    · obtain ⟨c, r, e, hc⟩ := ih (n / 10) (by omega) (by omega)
      refine ⟨c, r ++ [48 + n % 10], ?_, hc⟩
      rw [TL.numL_step (by omega), e]
      rfl
theorem num_isNum (n : Nat) : isNum (TL.numL n) = true := by
  have hd := TL.numL_digits n
  have key : ∀ t : Cs, (∃ c r, t = c :: r ∧ ¬(c = 48 ∧ r ≠ [])) → (∀ x ∈ t, x ∈ digs) → isNum t = true := by
    rintro t ⟨c, r, rfl, hc⟩ hx
    unfold isNum
    simp only []
    rw [if_neg hc, List.all_eq_true]
    intro x hx'
    exact decide_eq_true (hx x hx')
  refine key _ ?_ fun x hx => dig_iff (hd x hx)
  by_cases h0 : n = 0
  · subst h0
    exact ⟨48, [], TL.numL_lt (by decide), fun z => z.2 rfl⟩
  · obtain ⟨c, r, e, hc⟩ := num_head (n := n) (by omega)
    exact ⟨c, r, e, fun z => hc z.1⟩
theorem small_num {n : Nat} (h : n < 4294967296) : small (TL.numL n) = some n := by
  unfold small
  rw [if_pos ⟨TL.numL_len (by decide) (by omega), num_isNum n⟩, TL.numL_val, if_pos h]
theorem num_noW (n : Nat) : (119 : Nat) ∉ TL.numL n := TL.numL_free (by omega)
theorem num_tok {n : Nat} (h : n < 4294967296) : numTok (TL.numL n) = some (("number", .int (n : Nat)) : KP) := by
  have e : Txt.partition (S (TL.numL n)) (S [119]) = (S (TL.numL n), Str.empty, Str.empty) := TL.partition_none (y := S [119]) (s := 119) (S := []) rfl (num_noW n)
  unfold numTok
  simp only [e]
  rw [if_pos (by rfl)]
  show (small (TL.numL n)).map _ = _
  rw [small_num h]
  rfl
theorem lit_tok {v wd : Nat} (h1 : 1 ≤ wd) (h2 : wd ≤ 32) (h3 : v < 2 ^ wd) : numTok (TL.numL v ++ 119 :: TL.numL wd) = some (("literal", .tuple [.int (v : Nat), .int (wd : Nat)]) : KP) := by
  have e : Txt.partition (S (TL.numL v ++ 119 :: TL.numL wd)) (S [119]) = (S (TL.numL v), S [119], S (TL.numL wd)) := by
    have e1 : S (TL.numL v ++ 119 :: TL.numL wd) = S (TL.numL v) ++ S [119] ++ S (TL.numL wd) := by
      rw [S_cat, S_cat, List.append_assoc]
      rfl
    rw [e1]
    exact TL.partition_app (y := S [119]) (s := 119) (S := []) rfl (num_noW v)
  have hv : v < 4294967296 := Nat.lt_of_lt_of_le h3 (Nat.pow_le_pow_right (by decide) h2)
  unfold numTok
  simp only [e]
  rw [if_neg (by decide)]
  show (match small (TL.numL v), small (TL.numL wd) with
    | some v, some wd => if litOk v wd = true then some ((("literal" : Str), PyData.tuple [.int (v : Nat), .int (wd : Nat)]) : KP) else none
    | _, _ => none) = _
  rw [small_num hv, small_num (by omega : wd < 4294967296)]
  have hk : litOk v wd = true := by
    unfold litOk
    rw [decide_eq_true h1, decide_eq_true h2, decide_eq_true h3]
    rfl
  simp only []
  rw [if_pos hk]
theorem dig_goes {c : Nat} (h : c ∈ digs) : goesOn c = true := by
  unfold goesOn
  rw [decide_eq_true h]
  simp
theorem num_cons (n : Nat) : ∃ c r, TL.numL n = c :: r ∧ c ∈ digs ∧ ∀ x ∈ r, x ∈ digs := by
  have hd := TL.numL_digits n
  have hn := TL.numL_ne n
  cases e : TL.numL n with
  | nil => exact absurd e hn
  | cons c r =>
    rw [e] at hd
    exact ⟨c, r, rfl, dig_iff hd.head, fun x hx => dig_iff (hd.tail x hx)⟩
theorem word_num {n : Nat} (h : n < 4294967296) : WordOk (TL.numL n) (("number", .int (n : Nat)) : KP) := by
  obtain ⟨c, r, e, hc, hr⟩ := num_cons n
  have hk := num_tok h
  have hl : (TL.numL n).length ≤ 10 := TL.numL_len (by decide) (by omega)
  rw [e] at hk hl ⊢
  rw [List.length_cons] at hl
  refine .good (show ("number" : Str) ≠ "bad" by decide) (good_run (.inr hc) (fun x hx => dig_goes (hr x hx)) (by omega) ?_)
  unfold tokOf
  simp only []
  rw [if_pos hc]
  exact hk
theorem word_lit {v wd : Nat} (h1 : 1 ≤ wd) (h2 : wd ≤ 32) (h3 : v < 2 ^ wd) : WordOk (TL.numL v ++ 119 :: TL.numL wd) (("literal", .tuple [.int (v : Nat), .int (wd : Nat)]) : KP) := by
  obtain ⟨c, r, e, hc, hr⟩ := num_cons v
  obtain ⟨c2, r2, e2, hc2, hr2⟩ := num_cons wd
  have hv : v < 4294967296 := Nat.lt_of_lt_of_le h3 (Nat.pow_le_pow_right (by decide) h2)
  have hk := lit_tok h1 h2 h3
  have hl : (TL.numL v).length ≤ 10 := TL.numL_len (by decide) (by omega)
  have hl2 : (TL.numL wd).length ≤ 10 := TL.numL_len (by decide) (by omega)
  rw [e] at hk hl ⊢
  rw [e2] at hk hl2 ⊢
  rw [List.length_cons] at hl hl2
  have hw : goesOn 119 = true := by decide +kernel
  refine .good (show ("literal" : Str) ≠ "bad" by decide) (good_run (t := r ++ 119 :: c2 :: r2) (.inr hc) (fun x hx => ?_) (by rw [List.length_append, List.length_cons, List.length_cons]; omega) ?_)
  · rcases List.mem_append.mp hx with h | h
    · exact dig_goes (hr x h)
    · rcases List.mem_cons.mp h with h | h
      · rw [h]; exact hw
      · rcases List.mem_cons.mp h with h | h
        · rw [h]; exact dig_goes hc2
        · exact dig_goes (hr2 x h)
  · show tokOf (c :: (r ++ 119 :: c2 :: r2)) = _
    unfold tokOf
    simp only []
    rw [if_pos hc]
    exact hk
end K0

set_option maxHeartbeats 4000000
/-! all(..) of a generator expression over a text whose element reads a global. -/
namespace K0G
open PySem PySem.Spec PyProof.Rows L2 GxR
/-- the element is a test of one sign; it may read the module's names -/
def EltM (X : Cx) (sc : Scope) (x : Str) (elt : Expr) (pb : Nat → Bool) : Prop :=
  ∀ (ce : Env) (B : Around) (Z : Value → Shared → Prop) (c : Nat) (t : Tok) (s2 : Shared) (m2 : Str → Option Value),
    ce.scope = sc → ce.globals = mainGlobals → s2.heap.Ns mainGlobals X.mg → s2.heap.Ns ce.locals m2 → m2 x = some (.str ⟨#[c]⟩ t) →
      wpAny (model X.prog X.w) B (eval elt ce) (fun y s3 => y = .bool (pb c) ∧ Keeps s2 s3) Z s2
/-- x in NAME, NAME a text of the module -/
theorem elt_in {X : Cx} {sc : Scope} {x y : Str} {z : Str} {u : Tok} {p1 p2 p3 : Pos} (hk : sc.kind = .function) (hx : sc.names.lookup x = some .local) (hy : sc.names.lookup y = some .globalImplicit)
    (hg : X.mg y = some (.str z u)) (dx : (x == ("__debug__" : Str)) = false) (dy : (y == ("__debug__" : Str)) = false) :
    EltM X sc x (.Compare (.Name x p1) [.In] [.Name y p2] p3) (fun c => decide (c ∈ z.cps.toList)) := by
  intro ce B Z c t s2 m2 hsc hgl hG hL hm
  have kx : ce.kindOf x = some .local := by
    show ce.scope.names.lookup x = _
    rw [hsc]
    exact hx
  have ky : ce.kindOf y = some .globalImplicit := by
    show ce.scope.names.lookup y = _
    rw [hsc]
    exact hy
  have kf : ce.scope.kind = .function := by
    rw [hsc]
    exact hk
  refine wpAny_Compare1 (wpAny_Name (wpAny_loadName_local kf kx hL hm ?_) dx)
  refine Calls.Name_function_global kf ky (Calls.loadGlobal_global (mg := X.mg) (by rw [hgl]; exact hG) hg ?_) dy
  exact in_str ⟨congrArg Value.bool (PySem.StrLaws.found_one z c), keeps_refl _⟩
theorem pe_allM {X : Cx} {c P : Addr} {elt iter : Expr} {x : Str} {px p pos gpos : Pos} {sc : Scope} {pb : Nat → Bool} {te : TE} {k : Nat}
    (hr : Room k X.A) (hg : Gl X "all") (hm : X.mg "all" = none) (hb : bootBuiltins "all" = some (.builtin "all"))
    (TB : TabB X.base X.mg c P) (hc : X.env.code = .ref c) (S : GenS X.env sc x) (hi : PE X iter te) (hel : EltM X sc x elt pb)
    (hs : ∀ v, genFold iter X.env v = pure v)
    (he : starEach [.GeneratorExp elt [⟨.Name x px, iter, [], 0⟩] sc gpos] X.env = (false, eval (.GeneratorExp elt [⟨.Name x px, iter, [], 0⟩] sc gpos) X.env) :: starEach [] X.env := by rfl) :
    PE X (.Call (.Name "all" p) [.GeneratorExp elt [⟨.Name x px, iter, [], 0⟩] sc gpos] [] pos) (tAllS P pb te) := by
  refine ⟨fun pins s σ H Q I h => ?_⟩
  refine wpAny_Call_Name_kw (ld_blt I hg hm hb (callWith_builtin1 ?_ he (by rfl)))
  rw [he]
  refine Calls.spliced_cons ?_
  refine wpAny_GeneratorExp_walksQ hr.hd S.co (closure_ok S.free) S.cell S.dot S.loc S.kind (by have := hr.dp; omega) ?_ hs
  refine thn (hi.run pins s σ H _ I h) fun xv s1 w1 => ?_
  obtain ⟨v, H1, I1, r1, a, ev, ⟨ps, hP, ht⟩, hQ⟩ := w1
  subst ev
  obtain ⟨t, rfl⟩ := r1
  refine wpAny_pyIter_str fun ob Sg Wk hSg => ?_
  -- the table's object, the walked text's iterator
  have tab1 : s1.heap.get? P = some { cls := .none, data := .fields ps } := I1.hok P _ hP
  have below : ∀ {b : Addr} {u : Obj}, s1.heap.get? b = some u → b < s1.heap.objs.size := fun e => Heap.lt_size e
  have tab2 : (s1.heap.push ob).get? P = some { cls := .none, data := .fields ps } := Heap.get?_push_of_some _ tab1
  have hd := TB.code.keeps (h' := s1.heap.push ob) fun b u e => Heap.get?_push_of_some _ (I1.bk b u e)
  have glob2 : (s1.heap.push ob).Ns mainGlobals X.mg := (I1.mod.glob.keeps I1.bk).push ob
  have lim2 : (s1.heap.push ob).NoLimit := I1.nolimit.push ob
  have stat : cStatics < s1.heap.objs.size ∧ cStatics ≠ P := by
    obtain ⟨m, hn, _⟩ := I1.nolimit
    refine ⟨hn.lt, fun z => ?_⟩
    obtain ⟨o, es, ep, e, d, _⟩ := hn
    rw [z, tab1] at e
    cases e
    cases d
  have size2 : (s1.heap.push ob).objs.size = s1.heap.objs.size + 1 := Heap.size_push ..
  refine ⟨lim2, ?_⟩
  -- both ways: the expression's code is made now, or was made before
  have both : ∀ (R : Value → Shared → Prop), (∀ (cv : Value) (h3 : Heap) (tk : Nat) (more : Array Value), Heap.ExtBut P (s1.heap.push ob) h3 → s1.heap.objs.size < h3.objs.size →
      h3.get? P = some { cls := .none, data := .fields (ps ++ more) } → TriplesOk (ps ++ more).toList → R cv { s1 with heap := h3, toks := tk }) →
      wpAny (model X.prog X.w) X.A (genexprCode X.env gpos (X.env.qual ++ "<genexpr>") sc) R X.xe { s1 with heap := s1.heap.push ob } := by
    intro R hR
    cases q : codeAmong gpos ps.toList with
    | none =>
      refine wpAny_genexprCodeX hc (hd.code tab2 ht) (hd.tab tab2) q fun c2 h2 tk ext ge lt isC _ isT _ => ?_
      obtain ⟨_, _, _, _, _, _, _, _, _, _, _, _, _, _, _, _, _, _, _, trip, _⟩ := isC
      refine hR _ h2 tk _ ext ?_ isT.2 trip
      have ge' : s1.heap.objs.size + 1 ≤ c2 := by
        rw [← size2]
        exact ge
      exact Nat.lt_of_lt_of_le (Nat.lt_of_succ_le ge') (Nat.le_of_lt lt)
    | some cv =>
      refine wpAny_genexprCode_hit hc (hd.code tab2 ht) q (hR cv (s1.heap.push ob) s1.toks #[] (Heap.ExtBut.refl _ _) (by rw [size2]; exact Nat.lt_succ_self _) ?_ ?_)
      · rw [Array.append_empty]
        exact tab2
      · rw [Array.append_empty]
        exact ht
  refine both _ fun cv h3 tk more ext grow tab3 trip => ?_
  obtain ⟨bm, bo, b1, b2, b3, b4, b5, b6, b7, b8⟩ := TB.bm
  have old3 : ∀ b u, b ≠ P → s1.heap.get? b = some u → h3.get? b = some u := fun b u n e => ext b u n (Heap.get?_push_of_some _ e)
  have glob3 : h3.Ns mainGlobals X.mg := glob2.extBut ext TB.gP
  refine wpAny_builtinsFor (m := X.mg) (by rw [I1.ok.glob]; exact glob3) b1 b2 (old3 bm bo b4 (I1.bk _ _ b5)) b6 b7 b8 ?_
  have notIt : ∀ b u, s1.heap.get? b = some u → b ∉ [s1.heap.objs.size] := fun b u e m => by
    have e1 := List.mem_singleton.mp m
    rw [e1] at e
    exact Nat.lt_irrefl _ (below e)
  refine ⟨s1.heap.objs.size, [s1.heap.objs.size], [s1.heap.objs.size], a.cps.size, SignAt a, Sg, (fun _ => true),
    (fun i y => ∃ cc, a.cps[i]? = some cc ∧ y = .bool (pb cc)), rfl, Wk, ?_, ?_, lim2.extBut ext stat.2, ?_, ?_, ?_⟩
  · exact (Wk X.A hr.hd).frame _ _ _ hSg fun b m u e => ext b u (fun z => notIt P _ tab1 (z ▸ m)) e
  · intro b m
    rw [List.mem_singleton.mp m]
    exact grow
  · exact fun m => Nat.ne_of_lt stat.1 (List.mem_singleton.mp m)
  · intro href hh
    refine ⟨fun B Z i v s2 m2 _ _ _ _ _ => ?_, fun B Z i v s2 m2 _ hv _ hn hmx hk => ?_⟩
    · simp only [List.forIn_nil]
      exact wpAny_pure ⟨rfl, keeps_refl _⟩
    · obtain ⟨cc, u, hcc, rfl⟩ := hv
      have gobj : ∀ o, h3.get? mainGlobals = some o → s2.heap.get? mainGlobals = some o := fun o e =>
        hk mainGlobals (List.mem_range.mpr (Heap.lt_size e)) (by
          have g1 := I1.mod.glob.keeps I1.bk
          obtain ⟨o1, _, _, e1, _⟩ := g1
          exact notIt _ _ e1) o (hh _ _ e)
      refine wpAny_mono (hel _ B Z cc u s2 m2 rfl I1.ok.glob (glob3.at gobj) hn hmx) (fun y s3 r => ⟨⟨cc, hcc, r.1⟩, r.2⟩) fun _ _ e => e
  · intro g h5 tk5 gs bare above size5 keep5 W5 at5
    simp only [GxR.passing_true, List.length_range] at W5
    refine Calls.spliced_nil (call_all_walkS (W5.in4_1.self 0 _ _ _ at5 ⟨g, _, _, _, _, _, _, trF pb a.cps.toList, rfl, W5.in4_1, at5, ?_, fun s' mv => ?_⟩))
    · intro j y sj Qj Ej hy hq
      obtain ⟨i, hij, cc, hcc, rfl⟩ := hy
      obtain ⟨hj, ej⟩ := List.getElem?_eq_some_iff.mp hij
      rw [List.getElem_range] at ej
      subst ej
      have e9 : a.cps.toList[j]? = some cc := by
        rw [Array.getElem?_toList]
        exact hcc
      have hq2 : Qj (trF pb a.cps.toList j) sj := hq
      rw [trF_some e9] at hq2
      exact wpAny_truthy_bool hq2
    · have free : ∀ b u, s1.heap.get? b = some u → b ∉ h3.objs.size :: [s1.heap.objs.size] := fun b u e m => by
        rcases List.mem_cons.mp m with z | z
        · have l := below e
          rw [z] at l
          exact Nat.lt_irrefl _ (Nat.lt_trans l grow)
        · exact notIt b u e z
      have J := inv_tab (more := more) (h' := s'.heap) (g' := s'.gens) (d' := s'.drawn) (t' := s'.toks) I1 hP
        (fun b u n e => mv.heap b u (free b u e) (keep5 b u (old3 b u n e))) (mv.heap P _ (free P _ tab1) (keep5 P _ tab3)) (AllBare.movedS (I1.bare.push bare) mv)
      rw [sh_eta s1 s' mv.os] at J
      refine ⟨.bl _, _, J, rfl, ?_⟩
      rw [all_signs a pb]
      exact hQ _ ⟨⟨ps ++ more, upd_same, trip⟩, fun b n => upd_ne n⟩
end K0G

set_option maxHeartbeats 4000000
/-! try with several clauses «except C as n», one name for all. -/
namespace K0T
open PySem PySem.Spec PyProof.Rows L2
abbrev Suite := Addr → Value → Option Addr → TS
/-- the ends of a suite: behind it the slot of the clause's name is empty -/
abbrev gone (i : Nat) (D : Ends) : Ends := { nx := fun σ H => D.nx (σ.set i none) H, rt := D.rt, bk := fun σ H => D.bk (σ.set i none) H, ct := fun σ H => D.ct (σ.set i none) H }
def wAll (K : PySem.W.Frag) (i : Nat) (Wo : WX) (D : Ends) : List (Value × Suite) → WX
  | [] => Wo
  | (c, ts) :: r => fun cls d σ H => ∃ b, PySem.W.exmOne K cls c = some b ∧ (b = true → ∀ a, H a = none → ts a cls d (gone i D) (σ.set i (some (.ref a))) H) ∧ (b = false → wAll K i Wo D r cls d σ H)
/-- the clauses, each by its class and its suite's reading -/
inductive Cl (X : Cx) (n : Str) : List ExceptHandler → List (Value × Suite) → Prop
  | nil : Cl X n [] []
  | cons {x : Str} {c : Value} {ts : Suite} {st : Stmt} {sts : List Stmt} {np cp : Pos} {r : List ExceptHandler} {l : List (Value × Suite)} : Names X x c →
      (∀ (a : Addr) (oe : Obj) (cls : Value) (d : Option Addr) (pn : List (Addr × Obj)), Zc cls d oe → (∃ vs, oe.data = .fields vs) → PSs (X.suite a ((a, oe) :: pn)) (st :: sts) (ts a cls d)) →
      Cl X n r l → Cl X n (.ExceptHandler (some (.Name x np)) (some n) (st :: sts) cp :: r) ((c, ts) :: l)
theorem no_frame {B h : Heap} {L : List Env} {a : Addr} {o : Obj} {vs : Array Value} (ff : h.FunFrames B L) (e : h.get? a = some o) (d : o.data = .fields vs) : a ∉ frs L := fun hm => by
  obtain ⟨_, o2, e2, hn⟩ := ff.mem hm
  rw [e] at e2
  cases e2
  exact hn _ d
section
variable {X : Cx} {n : Str} {i : Nat} {body : List Stmt} {h₀ : ExceptHandler} {hds : List ExceptHandler} {l : List (Value × Suite)} {pos : Pos} {tb : WX → TS} {Wo : WX}
theorem ps_try_ases (hs : X.stack = X.env :: X.outer) (hf : X.env.frame = some X.env.locals) (hN : X.N.Nodup) (hi : X.N[i]? = some n) (hln : X.env.kindOf n = some .local) (tk : Takes X Wo)
    (hb : ∀ (W : WX) (pn : List (Addr × Obj)) (xe : Value → Shared → Prop), Takes (X.tr pn xe) W → PassesOwn (model X.prog X.w) X.A X.env xe → PSs (X.tr pn xe) body (tb W))
    (hh : Cl X n (h₀ :: hds) l) : PS X (.Try body (h₀ :: hds) [] [] pos) (fun D σ H => tb (wAll X.K i Wo D l) D σ H) := by
  refine ⟨fun pins s σ H D I h => ?_⟩
  have ok := I.ok
  have frm : X.A.frames = some (X.env :: X.outer) := by
    rw [ok.frames, hs]
  refine wpAny_Try_except (wpAny_mono ((hb _ (X.pn ++ pins) _ (fun u s1 caught => ?_) PassesOwn.looking).run [] s σ H D (I.toTry _) h) (fun f s1 q => ?_) fun _ _ z => z)
  · obtain ⟨a, B, sI, p2, σ2, H2, cls, d, rfl, J0, nb, up, sky, na, os, ag, w⟩ := caught
    have J := J0.ofTry ok
    show wpAny (model X.prog X.w) X.A (noteFrame (.ref a) X.env) _ _ _
    refine Sky.land Zc.steady frm hf (by rw [← hs]; exact sky) fun h3 fl up3 => ?_
    have J3 : Inv X pins σ2 H2 { s1 with heap := h3 } := J.landed nb fl.1 (up.trans up3) os ag
    obtain ⟨oe, vs, he, hz, hd⟩ := fl.there
    have nfr := no_frame fl.2.2.1 he hd
    have nL : a ≠ X.env.locals := fun z => nfr (List.mem_filterMap.mpr ⟨X.env, List.mem_cons_self, by rw [hf, z]⟩)
    have nF : a ∉ X.fs := fun hm => by
      obtain ⟨e, h1, h2⟩ := List.mem_filterMap.mp hm
      exact nfr (List.mem_filterMap.mpr ⟨e, List.mem_cons_of_mem _ h1, h2⟩)
    have S3 := J3.suite he hd na nL nF
    have go : ∀ (hs2 : List ExceptHandler) (l2 : List (Value × Suite)), Cl X n hs2 l2 → wAll X.K i Wo D l2 cls d σ2 H2 →
        wpAny (model X.prog X.w) X.A (handleBy (.ref a) X.env hs2) (SP X pins D) X.xe { s1 with heap := h3 } := by
      intro hs2 l2 hc
      induction hc with
      | nil =>
        intro w2
        refine wpAny_handleBy_nil ?_
        obtain ⟨_, _, _, o5, v5, T, _, _, e5, _, d5, t5, _⟩ := id fl
        unfold PySem.passOn
        refine wpAny_bind (wpAny_field e5 d5 t5 ?_)
        rw [if_neg (show ¬ ((Value.ref T == Value.none) = true) from by simp)]
        have out : wpAny (model X.prog X.w) X.A (setFlight (.ref a) X.env.frame) (fun _ s4 => wpAny (model X.prog X.w) X.A (throw (.ref a) : Sem Flow) (SP X pins D) X.xe s4) X.xe { s1 with heap := h3 } := by
          rw [hf]
          exact HandSPX.setFlight_upZ fl fun h4 g4 up4 => wpAny_throw (tk _ _ ⟨a, B, sI, pins, σ2, H2, cls, d, rfl, J, nb, (up.trans up3).trans up4, .inr (.inr (by rw [hs]; exact g4)), na, os, ag, w2⟩)
        first
          | exact wpAny_bind (wpAny_pure (wpAny_bind out))
          | exact wpAny_bind out
      | @cons x c ts st sts np cp r2 l3 hnm hsu _ ih =>
        intro w2
        obtain ⟨b, hb1, yes, no⟩ := w2
        refine wpAny_handleBy_cons (codeAny_handlers_test ?_) (fun q => nomatch q)
        have look := PySem.W.exm_one (M := model X.prog X.w) J3.kIn (fun A Q E s k q => wpAny_typeOf_ref (k _ _ he) (by rw [hz.1]; exact q)) hb1
        have cname : ∀ {Q E : Value → Shared → Prop}, Q c { s1 with heap := h3 } → wpAny (model X.prog X.w) (X.A.mark (some (.ref a))) (eval (.Name x np) X.env) Q E { s1 with heap := h3 } := fun {Q E} q => by
          obtain ⟨hg, dbg, hm | ⟨hm, hv, hnn⟩⟩ := hnm
          · exact ld_glob (X := X.suite a ((a, oe) :: (X.pn ++ pins))) S3 hg hm q dbg
          · exact ld_blt (X := X.suite a ((a, oe) :: (X.pn ++ pins))) S3 hg hm hv q hnn dbg
        refine cname (look.here ?_)
        cases b with
        | false => exact ih (no rfl)
        | true =>
          refine codeAny_handlers_suite_as (HandSPX.lands_againZ fl fun h4 fl4 up4 => ?_)
          have J4 : Inv X pins σ2 H2 { s1 with heap := h4 } := J.landed nb fl4.1 ((up.trans up3).trans up4) os ag
          obtain ⟨o4, v4, e4, z4, d4⟩ := fl4.there
          refine store_ok (X := X.suite a ((a, o4) :: (X.pn ++ pins))) (v := .ref a) (J4.suite e4 d4 na nL nF) hN hi (.inl hln) rfl (fun s5 S5 => ?_) (.inr hln)
          refine wpAny_mono ((hsu a o4 cls d (X.pn ++ pins) z4 ⟨_, d4⟩).run [] s5 _ H2 _ S5 (yes rfl a na)) (fun f s6 q6 => ?_) fun _ _ z => False.elim z
          have leave : ∀ {σ6 : L2.St} {H6 : Hp} {Q : Shared → Prop}, Inv (X.suite a ((a, o4) :: (X.pn ++ pins))) [] σ6 H6 s6 → (∀ s7, Inv X pins (σ6.set i none) H6 s7 → Q s7) →
              wpAny (model X.prog X.w) X.A (do bindName X.env n .none; unbindBehindTheSuite X.env n cp) (fun _ s7 => Q s7) X.xe s6 := fun {σ6 H6 Q} S6 hq => gone_ok (S6.unsuite ok) hN hi hln hq
          cases f with
          | next => exact let ⟨σ6, H6, S6, q⟩ := q6; leave S6 fun s7 J7 => ⟨_, _, J7, q⟩
          | brk => exact let ⟨σ6, H6, S6, q⟩ := q6; leave S6 fun s7 J7 => ⟨_, _, J7, q⟩
          | cont => exact let ⟨σ6, H6, S6, q⟩ := q6; leave S6 fun s7 J7 => ⟨_, _, J7, q⟩
          | ret u => exact let ⟨v6, σ6, H6, S6, r6, q⟩ := q6; leave S6 fun s7 J7 => ⟨_, _, _, J7, r6, q⟩
    exact go _ _ hh w
  · cases f with
    | next => exact let ⟨σ2, H2, J, q2⟩ := q; wpAny_execs_nil ⟨σ2, H2, J.ofTry ok, q2⟩
    | brk => exact let ⟨σ2, H2, J, q2⟩ := q; ⟨σ2, H2, J.ofTry ok, q2⟩
    | cont => exact let ⟨σ2, H2, J, q2⟩ := q; ⟨σ2, H2, J.ofTry ok, q2⟩
    | ret u => exact let ⟨v, σ2, H2, J, r, q2⟩ := q; ⟨v, σ2, H2, J.ofTry ok, r, q2⟩
end
end K0T

set_option maxHeartbeats 4000000
/-! B.__init__(self, ..), B an own error class without an __init__ of its own; isinstance of a caught error that has fields. -/
namespace K0E
open PySem PySem.Spec PyProof.Rows L2
theorem pe_baseinit {X : Cx} {e : Expr} {es : List Expr} {ta : TA} {x : Str} {C : Addr} {mc : Value} {p1 p2 pos : Pos} {pl : Sem Bool} (hg : Gl X x) (hm : X.mg x = some (.ref C)) (dx : (x == ("__debug__" : Str)) = false)
    (h1 : PySem.W.specialIn X.K (.ref C) "__getattribute__" = some (some (.builtin "type.__getattribute__"))) (h2 : PySem.W.readsIn X.K C mc = true)
    (h3 : PySem.W.findCls X.K (.ref C) mc "__init__" = some (.val (.builtin "ValueError.__init__"))) (ha : PA X (e :: es) ta)
    (hc : eval (.Call (.Attribute (.Name x p1) "__init__" p2) (e :: es) [] pos) X.env = (do
      let ov ← eval (.Name x p1) X.env
      standAt p2.atName
      let (f, first) ← holding [ov] (getMethod ov "__init__" pl)
      callWith pos f first (backTo pos (starEach (e :: es) X.env)) (backToKw pos (keywordEach [] X.env))) := by rfl)
    (he : starEach (e :: es) X.env = (false, eval e X.env) :: starEach es X.env := by rfl) (hpl : (backTo pos (starEach es X.env)).any (·.1) = false := by rfl) :
    PE X (.Call (.Attribute (.Name x p1) "__init__" p2) (e :: es) [] pos) (tVeI X.K ta) := by
  refine ⟨fun pins s σ H Q I h => ?_⟩
  refine PySem.W.methodCall_KW (ld_glob I hg hm (PySem.W.method_cls I.kIn h1 (PySem.W.cls_value I.kIn h2 h3 (by decide +kernel) ?_)) dx) hc
  show wpAny _ _ (callWith pos (Value.builtin "ValueError.__init__") [] (backTo pos (starEach (e :: es) X.env)) []) _ _ _
  refine callWith_method1 (thn (ha.run pos pins _ σ H _ (I.tok _) h) fun us s1 w => ?_) he hpl
  obtain ⟨vs, H1, I1, r1, a, D, ws, ev, hl, T, ea, q⟩ := w
  subst ev
  cases r1 with
  | @cons _ u0 _ ur ra rw' =>
    obtain rfl : u0 = Value.ref a := ra
    refine oinit_ok T I1 ea ?_ fun s2 J => ⟨.non, H1, J, rfl, q⟩
    rw [← Paired.length rw', sizeLine_eq]
    exact Nat.le_trans hl (by decide)
/-- isinstance(e, c), e the error that the suite holds (its class D, its dict d) -/
def rIsF (K : PySem.W.Frag) (D a : Addr) (d : Option Addr) : List V → Hp → VK → Prop := fun xs H Q =>
  ∃ (c : V) (cv : Value) (b : Bool) (dd : Addr) (fs : List (Str × V)), xs = [.ref a, c] ∧ (∀ u, RelV c u → u = cv) ∧ PySem.W.kitOne K (.ref D) cv = some b ∧ d = some dd ∧ H dd = some (.xd fs) ∧ Q (.bl b) H
theorem call_isF {X : Cx} {a D : Addr} {oe : Obj} {d : Option Addr} {pn : List (Addr × Obj)} (C : ExcC X.K D) (hz : Zc (.ref D) d oe) (hf : ∃ vs, oe.data = .fields vs) : CallR (X.suite a ((a, oe) :: pn)) (.builtin "isinstance") (rIsF X.K D a d) := by
  intro pins s σ H xs us Q I r h
  obtain ⟨c, cv, b, dd, fs, rfl, hcv, e, ed, ex, q⟩ := h
  obtain ⟨vs, hv⟩ := hf
  obtain ⟨hget, _⟩ := I.pin (a, oe) (List.mem_append.mpr (.inl List.mem_cons_self))
  have hx : ObjOk X.prog X.w H s.heap dd (.xd fs) := I.hok dd _ ex
  obtain ⟨mA, hns, _⟩ := hx
  obtain ⟨od, ho, _⟩ := lookIn_ns hns
  subst ed
  have J : PySem.W.InstAt s.heap a oe D (some od) := ⟨hget, hz.1, by unfold PySem.W.notCls; rw [hv] <;> rfl, by rw [hz.2]; exact ho⟩
  cases r with
  | cons rx rr =>
    cases rr with
    | cons rt rr =>
      cases rr
      cases rx
      have ec := hcv _ rt
      subst ec
      exact PySem.W.kia_one (PySem.W.kitx_exc (by obtain ⟨cd, hc, _⟩ := PySem.W.any_some C.hd; rw [hc]; rfl) C.hg C.hk C.hs C.ha C.hn C.ht C.hm) I.kIn J e (fun z => nomatch z) fun tk => ⟨.bl b, H, I.kept (t' := tk) fun _ _ z => z, rfl, q⟩
end K0E

/-! a, *b = a list. -/
namespace StR
open PySem PySem.Spec PyProof.Rows L2
section
variable {prog : Program} {w : World} {A : Around}
variable {E : Value → Shared → Prop} {s : Shared}
theorem walks_from (hh : A.handled = none) (it la : Addr) (hne : la ≠ it) (vals : Array Value) (k : Nat) (hk : k ≤ vals.size) :
    Walks prog w A it [it, la] [it] (vals.size - k) (fun i v => vals[k + i]? = some v) (fun i h => h.IsListIter it la (k + i) ∧ h.IsList la vals) :=
  let W := Walks.list (prog := prog) (w := w) hh it la hne vals
  { sub := W.sub
    frame := fun i h h' q f => W.frame (k + i) h h' q f
    item := fun i s Q E hi q hQ => W.item (k + i) s Q E (by omega) q hQ
    done := fun s Q E q hQ => W.done s Q E (by
      have h := q
      rw [Nat.add_sub_cancel' hk] at h
      exact h) hQ
    self := fun i s Q E q hQ => W.self (k + i) s Q E q hQ }
theorem items_drop {vals acc : Array Value} {k : Nat} (hk : k ≤ vals.size) (h : ItemsOf (fun i v => vals[k + i]? = some v) acc (vals.size - k)) : acc.toList = vals.toList.drop k := by
  obtain ⟨h1, h2⟩ := h
  refine List.ext_getElem? fun i => ?_
  rw [List.getElem?_drop]
  rw [Array.getElem?_toList, Array.getElem?_toList]
  by_cases hi : i < acc.size
  · have e : acc[i]? = some acc[i] := Array.getElem?_eq_getElem hi
    rw [e]
    exact (h2 i _ e).symm
  · rw [Array.getElem?_eq_none (by omega), Array.getElem?_eq_none (by omega)]
theorem unpack_star {la : Addr} {vals : Array Value} {k : Nat} {Q : List Value → Shared → Prop} (hh : A.handled = none) (isl : s.heap.IsList la vals) (hk : k ≤ vals.size) (hz : vals.size ≤ sizeLine)
    (hQ : ∀ (hp : Heap) (tk : Nat), (∀ b o, s.heap.get? b = some o → hp.get? b = some o) → s.toks ≤ tk →
      Q (vals.toList.take k ++ [.ref hp.objs.size]) { s with heap := hp.push { cls := .type "list", data := .seq (vals.toList.drop k).toArray }, toks := tk }) :
    wpAny (model prog w) A (unpackItems (.ref la) (k + 1) (some k)) Q E s := by
  have hlt : la ≠ s.heap.objs.size := by
    obtain ⟨o, there, _⟩ := isl
    exact Nat.ne_of_lt (Heap.lt_size there)
  unfold unpackItems
  refine wpAny_bind ?_
  unfold notIterableAtAll
  refine wpAny_bind (wpAny_specialOf isl.typeIs slot_list_iter.lookup ?_)
  refine wpAny_pure ?_
  simp only [if_false, Bool.false_eq_true]
  refine wpAny_bind (wpAny_holding (wpAny_pyIter_list isl ?_))
  refine wpAny_bind (wpAny_holding (PySem.W.kun_draw hlt k 0 _ _ ⟨_, Heap.get?_push_size _ rfl, rfl, rfl⟩ (isl.push _) (by omega) fun h1 it1 sb1 => ?_))
  have l1 : h1.IsList la vals := (isl.push _).extBut sb1.extBut hlt
  have up1 : ∀ b o, s.heap.get? b = some o → h1.get? b = some o := fun b o e => sb1.extBut b o (Nat.ne_of_lt (Heap.lt_size e)) (Heap.get?_push_of_some _ e)
  have lt1 : (vals.toList.take k).length = k := by
    rw [List.length_take, Array.length_toList]
    omega
  rw [List.drop_zero, lt1, if_neg (Nat.lt_irrefl k)]
  have it1' : h1.IsListIter s.heap.objs.size la k := by
    have h := it1
    rw [Nat.zero_add] at h
    exact h
  refine wpAny_bind (wpAny_holding (wpAny_collect_iter (.inr (.inr (.inl rfl))) (walks_from (A := A.in1) hh s.heap.objs.size la hlt vals k hk).toS (fun i s2 q => ?_) ⟨it1', l1⟩ (fun b mb => ?_) (List.mem_cons_self ..) (fun s2 acc mv ac => ?_) (by omega)))
  · obtain ⟨⟨o, e, c, _⟩, _⟩ := q
    exact ⟨o, e, c⟩
  · rcases List.mem_cons.mp mb with rfl | mb
    · obtain ⟨o, e, _⟩ := it1'
      exact Heap.lt_size e
    · rw [List.mem_singleton.mp mb]
      obtain ⟨o, e, _⟩ := l1
      exact Heap.lt_size e
  · have ea := items_drop hk ac
    rw [ea]
    obtain ⟨hp2, gs2, dd2, tk2, os2⟩ := s2
    obtain ⟨m1, m2, m3, m4, m5⟩ := mv
    dsimp only at m1 m2 m3 m4 m5
    subst m2 m3 m4
    rw [if_neg (by omega)]
    refine wpAny_bind (wpAny_newList (wpAny_pure ?_) ?_)
    · have e0 : k + 1 - 1 - k = 0 := by omega
      rw [e0, Nat.sub_zero, List.take_length, List.drop_length, List.append_nil]
      exact hQ hp2 tk2 (fun b o e => m1 b o (by rw [List.mem_singleton]; exact Nat.ne_of_lt (Heap.lt_size e)) (up1 b o e)) m5
    · rw [List.length_take, List.length_drop, Array.length_toList]
      omega
end
/-- n names, then a starred one, = a list -/
def gStar (K : PySem.W.Frag) (n : Nat) (t : TGs) : TG := fun v σ H Q => ∃ a xs, v = .ref a ∧ SqL K H a xs ∧ n ≤ xs.length ∧ ∀ p, H p = none → t (xs.take n ++ [.ref p]) σ (upd H p (.lst (xs.drop n))) Q
section
variable {X : Cx} {pos : Pos}
theorem pgs_last {e : Expr} {np : Pos} {t : TG} {u : TGs} (h1 : PG X e t) (h2 : PGs X [] u) : PGs X [.Starred e np] (gCons t u) := by
  refine ⟨fun pins t0 σ H vs us Q I rel q => ?_⟩
  obtain ⟨v, vr, e1, q⟩ := q
  subst e1
  cases rel with
  | cons r0 rr =>
    show wpAny _ _ (assignInOrder (assign e X.env :: (assignEach [] X.env).map (·.2)) _) _ _ _
    refine assignInOrder_cons (thn (h1.run pins t0 σ H _ _ _ I r0 q) fun _ t1 ⟨σ1, H1, I1, q1⟩ => ?_)
    exact h2.run pins t1 σ1 H1 _ _ Q I1 rr q1
theorem pg_star {es : List Expr} {k : Nat} {t : TGs} {n : Nat} (hc : X.calm = true) (h : PGs X es t)
    (hn : (assignEach es X.env).length = n + 1 := by rfl) (hst : (assignEach es X.env).findIdx? (·.1) = some n := by rfl) : PG X (.Tuple es k pos) (gStar X.K n t) := by
  refine ⟨fun pins s σ H v u Q I rel q => ?_⟩
  obtain ⟨a, xs, e1, sq, isl, q⟩ := q
  subst e1
  cases rel
  obtain ⟨its, rv, pl, hz⟩ := I.list sq
  have hlen : its.length = xs.length := rv.length.symm
  rw [PyProof.Rows.assign_Tuple]
  refine wpAny_bind (wpAny_standAt ?_)
  unfold unpack
  rw [hn, hst]
  refine wpAny_bind (wpAny_holding (unpack_star (I.ok.hd hc) pl.isList (by rw [List.size_toArray, hlen]; exact isl) (by rw [List.size_toArray, hlen]; exact hz) fun hp tk up ht => ?_))
  have I1 : Inv X pins σ H { s with heap := hp, toks := tk } := I.kept fun b o e => up b o e
  have hf : H hp.objs.size = none := I1.hok.fresh (Nat.le_refl _)
  have I2 : Inv X pins σ (upd H hp.objs.size (.lst (xs.drop n))) { s with heap := hp.push { cls := .type "list", data := .seq (its.toArray.toList.drop n).toArray }, toks := tk } := by
    refine I1.laid (t' := tk) (fun b u e => Heap.get?_push_of_some _ e) (Nat.le_refl _) ?_
    exact ⟨by rw [List.length_drop]; omega, its.drop n, 0, Vals.drop n rv, Heap.get?_push_size _ rfl⟩
  refine h.run pins _ σ _ (xs.take n ++ [.ref hp.objs.size]) _ Q I2 ?_ (q _ hf)
  exact (Vals.take n rv).append (.cons rfl .nil)
end
end StR

/-! s * n, sum of a tuple. -/
namespace RuS
open PySem PySem.Spec PyProof.Rows L2
section
variable {X : Cx}
abbrev rRepS : R2 := fun x y H Q => ∃ (a : Str) (k : Int), x = .str a ∧ y = .int k ∧ MulOk a k ∧ Q (.str (Txt.mul a k)) H
theorem op_repS : OpR X (binaryOp .Mult) rRepS := by
  intro pins s σ H x y v u Q I rx ry h
  obtain ⟨a, k, rfl, rfl, ok, q⟩ := h
  obtain ⟨t, rfl⟩ := rx
  obtain ⟨t2, rfl⟩ := ry
  exact SB.mul ok fun t' tk => ⟨.str _, H, I.tok _, ⟨_, rfl⟩, q⟩
abbrev rSumT (K : PySem.W.Frag) : List V → Hp → VK → Prop := fun vs H Q => ∃ (a : Addr) (ns : List Int), vs = [V.ref a] ∧ SqT K H a (ns.map V.int) ∧ Q (.int ns.sum) H
theorem cr_sumT (hc : X.calm = true) : CallR X (.builtin "sum") (rSumT X.K) := by
  intro pins s σ H vs us Q I r h
  obtain ⟨a, ns, rfl, hs, q⟩ := h
  obtain ⟨its, rv, hl, _⟩ := I.tuple hs
  rw [Vals.ref1 r]
  have hi := rv.ints
  obtain ⟨xs, hx⟩ := hi.allInts.items
  have hn : numsOf its.toArray.toList = ns := by rw [show its.toArray.toList = its from rfl, hi.numsOf]
  rw [hx] at hl hn
  rw [nums_intItems] at hn
  refine PySem.W.ktm_sumG (I.ok.hd hc) hl fun h' tk t' hk => ?_
  rw [preSum_eq, List.take_of_length_le (by simp), hn]
  exact ⟨.int _, H, I.kept hk, ⟨_, rfl⟩, q⟩
theorem mul_one (n : Nat) : (Txt.mul ⟨#[48]⟩ ((n : Nat) : Int)).cps.toList = List.replicate n 48 := by
  have fold : ∀ (m : Nat) (acc : Array Nat), ((List.replicate m (#[48] : Array Nat)).foldl (· ++ ·) acc).toList = acc.toList ++ List.replicate m 48 := fun m => by
    induction m with
    | zero =>
      intro acc
      show acc.toList = acc.toList ++ []
      rw [List.append_nil]
    | succ m ih =>
      intro acc
      rw [List.replicate_succ, List.foldl_cons, ih, Array.toList_append, List.append_assoc]
      rfl
  unfold Txt.mul
  by_cases h1 : ((n : Nat) : Int) < 1
  · rw [if_pos h1]
    obtain rfl : n = 0 := by omega
    rfl
  · rw [if_neg h1]
    by_cases h2 : n = 1
    · subst h2
      rfl
    · rw [if_neg]
      · show ((List.replicate ((n : Nat) : Int).toNat (#[48] : Array Nat)).foldl (· ++ ·) #[]).toList = _
        rw [fold, Int.toNat_natCast]
        rfl
      · rw [Bool.or_eq_true, not_or]
        refine ⟨fun z => h2 (by have := beq_iff_eq.mp z; omega), fun z => ?_⟩
        have : ((⟨#[48]⟩ : Str).length == 0) = false := rfl
        rw [this] at z
        cases z
theorem mul_ok {n : Nat} (h : n ≤ 1000) : MulOk ⟨#[48]⟩ ((n : Nat) : Int) := by
  refine ⟨?_, fun h1 _ => ?_, fun h1 _ => ?_⟩
  · rw [Bool.or_eq_false_iff]
    exact ⟨decide_eq_false (by omega), decide_eq_false (by omega)⟩
  · have e : (((⟨#[48]⟩ : Str).length : Nat) : Int) = 1 := rfl
    rw [e]
    have : (2 ^ 63 - 1 : Int) / ((n : Nat) : Int) ≥ 9223372036854775807 / 1000 := by
      have hn : (0 : Int) < n := by omega
      rw [ge_iff_le, Int.le_ediv_iff_mul_le hn]
      have h3 : (9223372036854775807 / 1000 : Int) * n ≤ (9223372036854775807 / 1000) * 1000 := Int.mul_le_mul_of_nonneg_left (by omega) (by decide)
      omega
    omega
  · have e : (⟨#[48]⟩ : Str).length = 1 := rfl
    rw [e, Nat.one_mul, Int.toNat_natCast]
    exact decide_eq_false (by rw [sizeLine_eq]; omega)
end
end RuS

/-! Numbers in texts; heaps with a table. -/
namespace C1
open PySem PySem.Spec PyProof.Rows L2 SX
open K0 (Cs digs isNum)
open GxR (TabG Tabbed TabB GenS)
abbrev sIsNum : Stmt := topS 3
theorem scIsNum : FnScope ["text"] ["text"] (defScope sIsNum) := ⟨rfl, rfl, rfl, by decide +kernel, rfl, by decide +kernel, by decide +kernel⟩
structure Gr (P : Addr) (H H' : Hp) : Prop where
  tab : TabG H' P
  old : ∀ b o, b ≠ P → H b = some o → H' b = some o
section
variable {P : Addr} {H H1 H2 : Hp}
theorem Gr.refl (t : TabG H P) : Gr P H H := ⟨t, fun _ _ _ e => e⟩
theorem Gr.trans (a : Gr P H H1) (b : Gr P H1 H2) : Gr P H H2 := ⟨b.tab, fun c o n e => b.old c o n (a.old c o n e)⟩
theorem Gr.of (t : Tabbed P H H1) : Gr P H H1 := ⟨t.1, fun b o n e => by rw [t.2 b n]; exact e⟩
theorem tab_ne (t : TabG H P) {p : Addr} (n : H p = none) : p ≠ P := fun z => by
  obtain ⟨ps, e, _⟩ := t
  rw [z, e] at n
  cases n
theorem tab_is (t : TabG H P) {p : Addr} {o : HO} (e : H p = some o) (d : ∀ ps, o ≠ .tbl ps) : p ≠ P := fun z => by
  obtain ⟨ps, e2, _⟩ := t
  rw [z, e2] at e
  exact d ps (Option.some.inj e).symm
theorem Gr.laid (t : TabG H P) {p : Addr} {o : HO} (n : H p = none) : Gr P H (upd H p o) := by
  have np := tab_ne t n
  obtain ⟨ps, e, r⟩ := t
  exact ⟨⟨ps, by rw [upd_ne np.symm]; exact e, r⟩, fun b u _ hb => by rw [upd_ne (ne_of_none hb n)]; exact hb⟩
theorem Gr.at (g : Gr P H H1) (t : TabG H P) {p : Addr} {o : HO} (e : H p = some o) (d : ∀ ps, o ≠ .tbl ps) : H1 p = some o := g.old p o (tab_is t e d) e
theorem Gr.none (g : Gr P H H1) (t : TabG H P) {p : Addr} (n : H1 p = none) : H p = none := by
  have np := tab_ne g.tab n
  cases e : H p with
  | none => rfl
  | some o =>
    rw [g.old p o np e] at n
    cases n
theorem Gr.seqT (g : Gr P H H1) (t : TabG H P) {K : PySem.W.Frag} {a : Addr} {xs : List V} (h : SqT K H a xs) : SqT K H1 a xs := by
  rcases h with (h | ⟨o, h⟩) | h
  · exact .inl (.inl (g.at t h (fun ps z => by cases z)))
  · exact .inl (.inr ⟨o, g.at t h (fun ps z => by cases z)⟩)
  · exact .inr h
theorem Gr.seqL (g : Gr P H H1) (t : TabG H P) {K : PySem.W.Frag} {a : Addr} {xs : List V} (h : SqL K H a xs) : SqL K H1 a xs := by
  rcases h with (h | ⟨o, h⟩) | h
  · exact .inl (.inl (g.at t h (fun ps z => by cases z)))
  · exact .inl (.inr ⟨o, g.at t h (fun ps z => by cases z)⟩)
  · exact .inr h
end
theorem beq_S (a b : Cs) : (V.str (S a) = V.str (S b)) ↔ a = b := ⟨fun e => S_inj (V.str.inj e), fun e => by rw [e]⟩
theorem at_S {t : Cs} {i : Nat} {c : Nat} (h : t[i]? = some c) : atI (S t).cps.toList ((i : Nat) : Int) = some c := atI_nat (j := i) h
theorem len_S {t : Cs} (h : t.length ≤ sizeLine) : (S t).length ≤ sizeLine := by
  rw [S_len]
  exact h
theorem dec_sig {c k : Nat} {x : Str} (hx : x = S [k]) : decide (V.str ⟨#[c]⟩ = V.str x) = decide (c = k) := by
  subst hx
  by_cases h : c = k
  · subst h
    rw [decide_eq_true rfl, decide_eq_true rfl]
  · rw [decide_eq_false h, decide_eq_false (fun z => h (by
      have z2 := S_inj (a := [c]) (b := [k]) (V.str.inj z)
      exact (List.cons.inj z2).1))]
theorem dec_S {a b : Cs} {x : Str} (hx : x = S b) : decide (V.str (S a) = V.str x) = decide (a = b) := by
  subst hx
  by_cases h : a = b
  · subst h
    rw [decide_eq_true rfl, decide_eq_true rfl]
  · rw [decide_eq_false h, decide_eq_false (fun z => h (S_inj (V.str.inj z)))]
theorem of_sig {c k : Nat} {x : Str} (hx : x = S [k]) (e : decide (V.str ⟨#[c]⟩ = V.str x) = true) : c = k := by
  rw [dec_sig hx] at e
  exact of_decide_eq_true e
theorem not_sig {c k : Nat} {x : Str} (hx : x = S [k]) (e : ¬ decide (V.str ⟨#[c]⟩ = V.str x) = true) : c ≠ k := fun z => by
  rw [dec_sig hx, decide_eq_true z] at e
  exact e rfl
theorem noFree : ∀ y ∈ ([((".0" : Str), NameKind.local), ("sign", .local), ("DIGITS", .globalImplicit)] : List (Str × NameKind)), y.2 ≠ .free := by decide +kernel
section
variable {P : Program} {w : World} {K : PySem.W.Frag} {mg : Str → Option Value} {base : Heap} {T : Addr}
def spNum (T : Addr) : Sp := fun vs H Q _ => ∃ t : Cs, vs = [.str (S t)] ∧ t.length ≤ sizeLine ∧ TabG H T ∧ ∀ H', Gr T H H' → Q (.bl (isNum t)) H'
theorem ok_isnum {f cP : Addr} {fd : FuncData} {oc : Value} {od an : Option Addr} {osl : Array (Option Value)} {kV doc pm ct : Value} {tk : Tok}
    (lk : K.lookup f = some ⟨oc, od, .func (PySem.W.fnOf "is_number" "is_number" (defArgs sIsNum) (defBody sIsNum) (defScope sIsNum) .none kV doc pm an (.ref cP) ct), osl⟩) (hcd : PySem.W.codeIn K (.ref cP) "is_number" = true)
    (gD : mg "DIGITS" = some (.str (Str.ofString "0123456789") tk)) (ma : mg "all" = none) (TB : TabB base mg cP T) :
    FnOk P w K mg base CX0 1 f (PySem.W.fnOf "is_number" "is_number" (defArgs sIsNum) (defBody sIsNum) (defScope sIsNum) .none kV doc pm an (.ref cP) ct) ["text"] (spNum T) := by
  refine fn_of lk hcd scIsNum (fun vs H Q E h => ?_) fun A outer s H vs Q E hr h => ?_
  · obtain ⟨t, rfl, _⟩ := h
    rfl
  · obtain ⟨t, rfl, hl, tb, q⟩ := h
    refine ⟨_, pss_cons (ps_if (PW.pt (pw_or (pt_not (pt_truth (pv 0) (by intro _; rfl))) (pw_or1 (PW.pt (pw_and (pt_cmpR op_eq (pe_ix ix_str (pv 0) pe_int (fun _ _ => rfl)) pe_str (nomark _)) (pw_and1 (pt_cmpR op_ne (pv 0) pe_str (nomark _))))))))
        (pss_one (ps_ret pe_bl)) pss_nil)
      (pss_one (ps_ret (K0G.pe_allM (pb := fun c => decide (c ∈ digs)) hr (by rfl) ma (by decide +kernel) TB rfl ⟨rfl, rfl, by decide +kernel, rfl, rfl, fun y hy e => absurd e (noFree y hy)⟩ (pv 0) (K0G.elt_in rfl rfl rfl gD (by decide) (by decide)) (by intro v; rfl)))), ?_⟩
    refine ⟨_, rfl, _, ⟨len_S hl, rfl⟩, ?_⟩
    rw [S_len]
    cases t with
    | nil =>
      refine iteT ?_
      refine iteT ?_
      exact q H (Gr.refl tb)
    | cons c r =>
      have hk : (((c :: r).length : Int) != 0) = true := by
        rw [List.length_cons]
        simp
        omega
      rw [hk]
      refine iteF ?_
      have last : ¬ (c = 48 ∧ r ≠ []) → tRet (GxR.tAllS T (fun c => decide (c ∈ digs)) (tVar 0)) { nx := fun x H' => Q V.non H', rt := Q } (L2.start ["text"] [V.str (S (c :: r))]) H := fun n => by
        refine ⟨_, rfl, S (c :: r), rfl, tb, fun H2 t2 => ?_⟩
        have e := q H2 (Gr.of t2)
        have e2 : isNum (c :: r) = (S (c :: r)).cps.toList.all fun c => decide (c ∈ digs) := if_neg n
        rw [e2] at e
        exact e
      refine ⟨_, rfl, _, _, c, rfl, rfl, len_S hl, at_S (i := 0) rfl, rfl, _, rfl, ite2 (fun e => ?_) (fun e => ?_)⟩
      · have hc := of_sig (k := 48) rfl e
        refine ⟨_, rfl, rfl, _, rfl, ite2 (fun e2 => ?_) (fun e2 => ?_)⟩
        · have hr2 : r ≠ [] := fun z => by
            subst z
            subst hc
            exact absurd e2 (by decide)
          have e3 := q H (Gr.refl tb)
          have e4 : isNum (c :: r) = false := if_pos ⟨hc, hr2⟩
          rw [e4] at e3
          exact e3
        · refine last fun z => ?_
          rw [dec_S (b := [48]) (x := "0") rfl, decide_eq_false (fun y => z.2 (List.cons.inj y).2)] at e2
          exact e2 rfl
      · refine iteF (last fun z => not_sig (k := 48) rfl e z.1)
theorem isNum_all {t : Cs} (h : isNum t = true) : t ≠ [] ∧ t.all (fun c => decide (48 ≤ c) && decide (c ≤ 57)) = true := by
  cases t with
  | nil => cases h
  | cons c r =>
    refine ⟨List.cons_ne_nil _ _, ?_⟩
    unfold isNum at h
    simp only [] at h
    split at h
    · cases h
    · rw [List.all_eq_true] at h ⊢
      intro x hx
      have h1 : x ∈ digs := of_decide_eq_true (h x hx)
      have h2 : ∀ d ∈ digs, (decide (48 ≤ d) && decide (d ≤ 57)) = true := by decide +kernel
      exact h2 x h1
end
end C1

/-! Numbers of a line. -/
namespace C1
open PySem PySem.Spec PyProof.Rows L2 SX
open K0 (Cs digs isNum)
open GxR (TabG Tabbed TabB GenS)
abbrev rIntS : List V → Hp → VK → Prop := fun xs H Q => ∃ (a : Str) (n : Int), xs = [.str a] ∧ PySem.intText? a = some n ∧ a.length ≤ 640 ∧ Q (.int n) H
abbrev cs (x : Str) : Cs := x.cps.toList
structure BT (mg : Str → Option Value) : Prop where
  len : mg "len" = none
  all : mg "all" = none
  tuple : mg "tuple" = none
  int : mg "int" = none
theorem iteF' {b : Bool} {A B : Prop} (hb : b = false) (h : B) : if b = true then A else B := by
  rw [hb]
  exact iteF h
theorem iteT' {b : Bool} {A B : Prop} (hb : b = true) (h : A) : if b = true then A else B := by
  rw [hb]
  exact iteT h
theorem str_at {xs : List Str} {i : Nat} {v : V} (h : (xs.map V.str)[i]? = some v) : ∃ x, xs[i]? = some x ∧ v = .str x := by
  rw [List.getElem?_map] at h
  cases e : xs[i]? with
  | none =>
    rw [e] at h
    cases h
  | some x =>
    rw [e] at h
    cases h
    exact ⟨x, rfl, rfl⟩
def numB (x : Str) : Bool := isNum (cs x)
def numV (x : Str) : Nat := NumText.digitsVal (cs x)
theorem num_int {x : Str} (h : numB x = true) (hl : (cs x).length ≤ 600) : intText? x = some ((numV x : Nat) : Int) ∧ x.length ≤ 640 := by
  obtain ⟨hne, hall⟩ := isNum_all h
  have hi := int_S hall hne (by omega)
  rw [S_tl] at hi
  refine ⟨hi, ?_⟩
  show x.cps.size ≤ 640
  rw [Array.length_toList] at hl
  omega
end C1

/-! The error of a line; lines of a text. -/
namespace C1
open PySem PySem.Spec PyProof.Rows L2 SX
open K0 (Cs digs isNum)
open GxR (TabG Tabbed TabB GenS)
abbrev sInitB : Stmt := L2.inClass (topS 9) 0
abbrev sWhole : Stmt := topS 11
abbrev sTextOf : Stmt := topS 12
theorem scInitB : FnScope ["self", "line"] ["self", "line"] (defScope sInitB) := ⟨rfl, rfl, rfl, by decide +kernel, rfl, by decide +kernel, by decide +kernel⟩
theorem scWhole : FnScope ["text", "lines"] ["text"] (defScope sWhole) := ⟨rfl, rfl, rfl, by decide +kernel, rfl, by decide +kernel, by decide +kernel⟩
/-- an int that is a line's number -/
def Pl (i : Int) : Prop := 0 ≤ i ∧ i < 1000000000
theorem Pl.log {i : Int} (h : Pl i) : i.natAbs.log2 < 1920 := by
  obtain ⟨h1, h2⟩ := h
  by_cases h0 : i.natAbs = 0
  · rw [h0]
    decide
  · exact (Nat.log2_lt h0).mpr (Nat.lt_of_lt_of_le (show i.natAbs < 2 ^ 30 by omega) (Nat.pow_le_pow_right (by decide) (by decide)))
theorem Pl.len {i : Int} (h : Pl i) : (Str.ofString (toString i)).length ≤ 9 := PyProof.Rows.toString_length_le h.1 (by decide) (by have := h.2; omega)
theorem app_len (a b : Str) : (a ++ b).length = a.length + b.length := by
  show (a.cps ++ b.cps).size = _
  rw [Array.size_append]
  rfl
def fsL (n : Int) : List (Str × V) := [("line", .int n)]
section
variable {P : Program} {w : World} {K : PySem.W.Frag} {mg : Str → Option Value} {base : Heap} {T : Addr}
def spInitB (K : PySem.W.Frag) : Sp := fun vs H Q _ => ∃ (a C : Addr) (n : Int), vs = [.ref a, .int n] ∧ OexC K C ∧ PySem.W.findIn K (.ref C) "line" = some none ∧ Pl n ∧
  H a = some (exo a C none) ∧ ∀ dx H', H dx = none → dx ≠ a → H' a = some (exo a C (some dx)) → H' dx = some (exd dx (fsL n)) → (∀ b, b ≠ a → b ≠ dx → H' b = H b) → Q .non H'
theorem ok_initB {f C0 : Addr} {fd : FuncData} (F : Fun K "__init__" "BadLine.__init__" sInitB f fd) (g0 : mg "CutError" = some (.ref C0)) (h1 : PySem.W.specialIn K (.ref C0) "__getattribute__" = some (some (.builtin "type.__getattribute__")))
    (h2 : PySem.W.readsIn K C0 (.type "type") = true) (h3 : PySem.W.findCls K (.ref C0) (.type "type") "__init__" = some (.val (.builtin "ValueError.__init__"))) :
    FnOk P w K mg base CX0 1 f fd ["self", "line"] (spInitB K) := by
  refine F.ok scInitB (fun vs H Q E h => ?_) (fun cdv A outer s H vs Q E hr h => ?_)
  · obtain ⟨a, C, n, rfl, _⟩ := h
    rfl
  · obtain ⟨a, C, n, rfl, O, n1, p1, ea, q⟩ := h
    refine ⟨_, pss_cons (ps_expr (K0E.pe_baseinit (mc := .type "type") (by rfl) g0 (by decide) h1 h2 h3 (pa_cons (pv 0) (pa_cons (pe_joined (PJ.cons pe_str (PJ.cons (pe_fmt (pv 1)) PJ.nil))) pa_nil))))
      (pss_one (ps_ost (pv 0) (pv 1))), ?_⟩
    have l1 : (Str.empty ++ ("line " : Str)).length = 5 := by decide +kernel
    have e1 := p1.len
    have big : (100 : Nat) ≤ sizeLine := by
      rw [sizeLine_eq]
      decide
    refine ⟨_, rfl, _, rfl, Nat.le_trans (Nat.le_of_eq l1) (by omega), _, rfl, .inr ⟨_, rfl, p1.log, _, rfl, ?_, ?_⟩⟩
    · rw [app_len, l1]
      omega
    · refine ⟨a, C, _, rfl, (by show 1 ≤ 1000; decide), O, ea, ?_⟩
      refine ⟨_, rfl, _, rfl, a, C, rfl, O, n1, .inl ⟨ea, fun dx nd ne => ?_⟩⟩
      exact q dx _ nd ne upd_same (by rw [upd_ne ne]; exact upd_same) fun b na nb => by rw [upd_ne na, upd_ne nb]
/-- what the written part says of BadLine -/
structure ErrB (K : PySem.W.Frag) (mg : Str → Option Value) (C fI : Addr) : Prop where
  o : OexC K C
  iC : PySem.W.findIn K (.ref C) "__init__" = some (some (.ref fI))
  nL : PySem.W.findIn K (.ref C) "line" = some none
  g : mg "BadLine" = some (.ref C)
theorem raise_line {C fI : Addr} {n : Int} {H : Hp} {Qx : XK} (R : ErrB K mg C fI) (p1 : Pl n) (q : ∀ d H', Same H H' → H d = none → H' d = some (.xd (fsL n)) → Qx (.ref C) (some d) H') :
    ∀ a, H a = none → spInitB K (.ref a :: ([.int n] ++ [])) (upd H a (exo a C none))
      (fun v H2 => v = .non ∧ ∃ (d : Addr) (fs : List (Str × V)), H2 a = some (exo a C (some d)) ∧ H2 d = some (exd d fs) ∧ H d = none ∧ Qx (.ref C) (some d) (upd (del H2 a) d (.xd fs))) (fun _ _ _ => False) := by
  intro a na
  refine ⟨a, C, n, rfl, R.o, R.nL, p1, upd_same, fun dx H2 nd ne e1 e2 e3 => ?_⟩
  have nd' : H dx = none := by
    rw [upd_ne ne] at nd
    exact nd
  refine ⟨rfl, dx, _, e1, e2, nd', q dx _ (fun b o e => ?_) nd' upd_same⟩
  have n1 : b ≠ a := ne_of_none e na
  have n2 : b ≠ dx := ne_of_none e nd'
  rw [upd_ne n2, del_ne n1, e3 b n1 n2, upd_ne n1]
  exact e
/-! lines of a text -/
abbrev nlS : Str := Str.ofString "\n"
def splitL (x : Str) : List Str := Txt.split x nlS
def wholeB (x : Str) : Bool := decide ((splitL x).getLast? = some (Str.ofString "")) && !decide ((splitL x).length = 1)
def spWhole (K : PySem.W.Frag) (C : Addr) : Sp := fun vs H Q E => ∃ x : Str, vs = [.str x] ∧ x.cps.size ≤ 100000 ∧
  (wholeB x = true → ∀ H' p, Same H H' → H p = none → H' p = some (.lst ((splitL x).dropLast.map V.str)) → Q (.ref p) H') ∧
  (wholeB x = false → ∀ H' d, Same H H' → H' d = some (.xd (fsL (splitL x).length)) → E (.ref C) (some d) H')
theorem cnt_bd (c : Nat) : ∀ l : List Nat, 0 ≤ PyProof.Rows.cnt c l ∧ PyProof.Rows.cnt c l ≤ (l.length : Int)
  | [] => ⟨Int.le_refl 0, Int.le_refl 0⟩
  | n :: r => by
    have h := cnt_bd c r
    rw [PyProof.Rows.cnt_cons, List.length_cons]
    by_cases e : n = c
    · rw [if_pos e]
      omega
    · rw [if_neg e]
      omega
theorem split_cnt (x : Str) : ((splitL x).length : Int) = 1 + PyProof.Rows.cnt 10 x.cps.toList := PyProof.Rows.split_len x 10
theorem split_len (x : Str) : (splitL x).length ≤ x.cps.size + 1 := by
  have h1 := split_cnt x
  have h2 := (cnt_bd 10 x.cps.toList).2
  rw [Array.length_toList] at h2
  omega
theorem split_pos (x : Str) : 0 < (splitL x).length := by
  have h1 := split_cnt x
  have h2 := (cnt_bd 10 x.cps.toList).1
  omega
theorem ok_whole {f C fI : Addr} {fd fdI : FuncData} (F : Fun K "whole_lines" "whole_lines" sWhole f fd) (B : BT mg) (R : ErrB K mg C fI) (tI : PySem.W.typeIn K (.ref fI) = some (.type "function")) (GI : FnOk P w K mg base CX0 1 fI fdI ["self", "line"] (spInitB K)) (bI : Binds K fdI ["self", "line"] []) :
    FnOk P w K mg base (L2.CX P w) 3 f fd ["text"] (spWhole K C) := by
  refine F.okX scWhole (fun vs H Q E h => ?_) (fun cdv A outer s H vs Q E hr h => ?_)
  · obtain ⟨x, rfl, _⟩ := h
    rfl
  · obtain ⟨x, rfl, hx, q, qe⟩ := h
    have nd := scWhole.nd
    refine ⟨_, pss_cons (ps_set (i := 1) nd rfl (.inl rfl) (pe_split (pv 0) pe_str))
      (C8.pss_cut (ps_if (PW.pt (pw_or (pt_cmpR op_ne (pe_ix ix_list (pv 1) (pe_un un_neg pe_int) (fun _ _ => rfl)) pe_str (nomark _)) (pw_or1 (pt_cmpR op_eq (pe_callB call_len_seq (by rfl) B.len PySem.boot_len (pa_cons (pv 1) pa_nil)) pe_int (nomark _)))))
        (pss_one (ps_raise rfl (takes_of rfl rfl rfl rfl) (pmk_oex R.o R.iC tI GI hr bI .nil pass0 (by rfl) R.g (pa_cons (pe_callB call_len_seq (by rfl) B.len PySem.boot_len (pa_cons (pv 1) pa_nil)) pa_nil)))) pss_nil)
      (pss_one (ps_ret (pe_slice sl_list (pv 1) po_none (po_some (pe_un un_neg pe_int)))))), ?_⟩
    have hp := split_pos x
    have hl := split_len x
    refine ⟨_, rfl, ⟨x, rfl⟩, x, nlS, rfl, rfl, rfl, (by show x.cps.size + 2 ≤ sizeLine; rw [sizeLine_eq]; omega), fun p np => ?_⟩
    have s1 : Same H (upd H p (.lst ((splitL x).map V.str))) := Same.up np
    have e1 : (upd H p (.lst ((splitL x).map V.str))) p = some (.lst ((splitL x).map V.str)) := upd_same
    have hne : splitL x ≠ [] := fun z => by rw [z] at hp; cases hp
    have eL : (splitL x).getLast? = some ((splitL x).getLast hne) := List.getLast?_eq_some_getLast hne
    have hlast : atI ((splitL x).map V.str) (-1) = some (V.str ((splitL x).getLast hne)) := by
      unfold atI ixN
      rw [if_neg (by decide), List.length_map, if_pos (by omega)]
      show ((splitL x).map V.str)[((-1 : Int) + ((splitL x).length : Int)).toNat]? = _
      rw [show ((-1 : Int) + ((splitL x).length : Int)).toNat = (splitL x).length - 1 by omega, List.getElem?_map, ← List.getLast?_eq_getElem?, eL]
      rfl
    have lp : Pl ((splitL x).length : Int) := ⟨by omega, by omega⟩
    have bad : wholeB x = false → ∀ a, (upd H p (.lst ((splitL x).map V.str))) a = none → _ := fun e => raise_line (H := upd H p (.lst ((splitL x).map V.str))) (n := ((splitL x).length : Int)) (Qx := fun cls d H' => E cls d H') R lp fun d H' s2 _ e3 => qe e H' d (s1.trans s2) e3
    refine ⟨fun σ H' => σ = [some (.str x), some (.ref p)] ∧ H' = upd H p (.lst ((splitL x).map V.str)) ∧ wholeB x = true, ?_, ?_⟩
    · refine ⟨_, rfl, _, rfl, p, _, _, _, rfl, rfl, SqL.of e1, hlast, rfl, _, rfl, ?_⟩
      by_cases hL : (splitL x).getLast hne = Str.ofString ""
      · refine iteF' (by rw [decide_eq_true (by rw [hL])]; rfl) ?_
        refine ⟨_, rfl, p, _, rfl, .inl (SqL.of e1), rfl, _, rfl, ?_⟩
        rw [List.length_map]
        by_cases h1 : (splitL x).length = 1
        · refine iteT' (decide_eq_true (by rw [h1]; rfl)) ?_
          refine ⟨_, rfl, p, _, rfl, .inl (SqL.of e1), (by show 1 ≤ 1000; decide), ?_⟩
          rw [List.length_map]
          exact bad (by unfold wholeB; rw [decide_eq_true h1]; exact Bool.and_false _)
        · refine iteF' (decide_eq_false (fun z => h1 (by have := V.int.inj z; omega))) ⟨rfl, rfl, ?_⟩
          unfold wholeB
          rw [eL, hL, decide_eq_true rfl, decide_eq_false h1]
          rfl
      · refine iteT' (by rw [decide_eq_false (fun z => hL (V.str.inj z))]; rfl) ?_
        refine ⟨_, rfl, p, _, rfl, .inl (SqL.of e1), (by show 1 ≤ 1000; decide), ?_⟩
        rw [List.length_map]
        exact bad (by unfold wholeB; rw [eL, decide_eq_false (fun z => hL (Option.some.inj z))]; exact Bool.false_and _)
    rintro σ H' ⟨rfl, rfl, hw⟩
    refine ⟨_, rfl, _, rfl, _, rfl, p, _, rfl, SqL.of e1, fun r nr => ?_⟩
    refine q hw _ r (s1.trans (Same.up nr)) (s1.free nr) (upd_same.trans (congrArg (fun l => some (HO.lst l)) ?_))
    show ((splitL x).map V.str |>.drop (HT.sIx ((splitL x).map V.str).length 0 none)).take (HT.sIx ((splitL x).map V.str).length ((splitL x).map V.str).length (some (-1)) - HT.sIx ((splitL x).map V.str).length 0 none) = _
    rw [HT.sIx_none, List.drop_zero, List.length_map, Nat.sub_zero]
    rw [show HT.sIx (splitL x).length (splitL x).length (some (-1)) = (splitL x).length - 1 by
      show ((-1 : Int) + ((splitL x).length : Int)).toNat = _
      omega]
    rw [List.dropLast_eq_take, List.map_take]
end
end C1

/-! A text of lines. -/
namespace C1
open PySem PySem.Spec PyProof.Rows L2 SX
theorem scTextOf : FnScope ["lines", "line"] ["lines"] (defScope sTextOf) := ⟨rfl, rfl, rfl, by decide +kernel, rfl, by decide +kernel, by decide +kernel⟩
abbrev NTO : List Str := ["lines", "line"]
abbrev rAddStr : R2 := fun x y H Q => ∃ i j, x = V.str i ∧ y = V.str j ∧ i.length + j.length ≤ sizeLine ∧ Q (V.str (i ++ j)) H
def textL (xs : List Str) : Str := Txt.join (Str.ofString "") (xs.map fun x => x ++ nlS)
theorem len_sum {xs : List Str} {b : Nat} (h : ∀ x ∈ xs, x.length ≤ b) : (xs.map (·.length)).sum ≤ xs.length * b := by
  induction xs with
  | nil => exact Nat.zero_le _
  | cons x xs ih =>
    have h1 := h x (List.mem_cons_self ..)
    have h2 := ih fun y hy => h y (List.mem_cons_of_mem _ hy)
    rw [List.map_cons, List.sum_cons, List.length_cons, Nat.succ_mul]
    omega
section
variable {P : Program} {w : World} {K : PySem.W.Frag} {mg : Str → Option Value} {base : Heap} {T : Addr}
def spTextOf (K : PySem.W.Frag) : Sp := fun vs H Q _ => ∃ (p : Addr) (xs : List Str), vs = [.ref p] ∧ SqL K H p (xs.map V.str) ∧ xs.length ≤ 900 ∧ (∀ x ∈ xs, x.length ≤ 10000) ∧ ∀ H', Same H H' → Q (.str (textL xs)) H'
theorem ok_textOf {f : Addr} {fd : FuncData} (F : Fun K "text_of" "text_of" sTextOf f fd) : FnOk P w K mg base CX0 1 f fd ["lines"] (spTextOf K) := by
  refine F.ok scTextOf (fun vs H Q E h => ?_) (fun cdv A outer s H vs Q E hr h => ?_)
  · obtain ⟨p, xs, rfl, _⟩ := h
    rfl
  · obtain ⟨p, xs, rfl, hp, hl, hx, q⟩ := h
    have nd := scTextOf.nd
    refine ⟨_, (pss_one (ps_ret (pe_join (pe_str) (pe_lc (own := [("line", 1)]) (g := gName 1) (tt := tYes) (te := tOp rAddStr (tVar 1) (tC (.str "\n")))  rfl nd (pi_list (pv 0)) (blkOk_by (own := [("line", 1)]) (N := NTO) (sc := defScope sTextOf) (by decide +kernel)) (fun _ _ _ _ _ => pg_name (i := 1) nd rfl (.inl rfl)) (fun _ _ _ _ _ => pts_nil) (fun _ _ _ _ _ => by exact (pe_op op_add_str (pv 1) (pe_str))))))), ?_⟩
    refine ⟨⟨_, rfl⟩, ?_⟩
    refine ⟨_, rfl, p, rfl, ⟨_, hp⟩, fun D nD => ?_⟩
    refine lc_list (xs := xs.map V.str) (fun i H2 => H2 = upd H D (.lst ((xs.take i).map fun x => V.str (x ++ nlS)))) rfl (fun i H2 _ h => ?_) (fun i v H2 hv h => ?_) (fun H2 h => ?_)
    · subst h
      exact (Same.up nD).seq hp
    · subst h
      obtain ⟨x, ex, rfl⟩ := str_at hv
      have hil : i < xs.length := (List.getElem?_eq_some_iff.mp ex).1
      have h1 := hx x (List.mem_of_getElem? ex)
      refine ⟨rfl, _, rfl, x, nlS, rfl, rfl, ?_, _, upd_same, ?_, ?_⟩
      · have : nlS.length = 1 := by decide +kernel
        rw [this, sizeLine_eq]
        omega
      · rw [List.length_map, List.length_take]
        exact lineS200 (by omega)
      · rw [upd_upd, take_snoc ex, List.map_append]
        rfl
    · subst h
      rw [List.length_map, List.take_length]
      refine ⟨Str.ofString "", D, xs.map fun x => x ++ nlS, rfl, rfl, .inl (SqL.of (upd_same.trans (by rw [List.map_map]; rfl))), ?_, q _ (Same.up nD)⟩
      have h1 := len_sum (xs := xs.map fun x => x ++ nlS) (b := 10001) fun y hy => by
        obtain ⟨x, h, rfl⟩ := List.mem_map.mp hy
        rw [app_len]
        have : nlS.length = 1 := by decide +kernel
        have := hx x h
        omega
      rw [List.length_map] at h1 ⊢
      have h0 : (Str.ofString "").length = 0 := by decide +kernel
      rw [h0, Nat.mul_zero, Nat.add_zero]
      have h2 : xs.length * 10001 ≤ 900 * 10001 := Nat.mul_le_mul_right _ hl
      omega
end
end C1

/-! Texts. -/
namespace C1
open PySem PySem.Spec PyProof.Rows L2 SX
open K0 (Cs digs isNum)
open GxR (TabG Tabbed TabB GenS)
def spS (x : Str) : List Str := Txt.split x (Str.ofString " ")
end C1
/-! Texts: joined, split. -/
namespace C1
open PySem PySem.Spec PyProof.Rows L2 SX
abbrev spB : Str := Str.ofString " "
theorem joinL_mem {S : List Nat} {c : Nat} : ∀ {ps : List (List Nat)}, c ∈ TL.joinL S ps → c ∈ S ∨ ∃ p ∈ ps, c ∈ p
  | [], h => by cases h
  | [p], h => .inr ⟨p, List.mem_singleton.mpr rfl, h⟩
  | p :: q :: r, h => by
    rcases List.mem_append.mp (show c ∈ p ++ (S ++ TL.joinL S (q :: r)) from h) with z | z
    · exact .inr ⟨p, List.mem_cons_self .., z⟩
    · rcases List.mem_append.mp z with z | z
      · exact .inl z
      · rcases joinL_mem z with z | ⟨x, hx, z⟩
        · exact .inl z
        · exact .inr ⟨x, List.mem_cons_of_mem _ hx, z⟩
theorem mem_joinL {S : List Nat} {c : Nat} {p : List Nat} (hc : c ∈ p) : ∀ {ps : List (List Nat)}, p ∈ ps → c ∈ TL.joinL S ps
  | [], h => by cases h
  | [q], h => by
    rw [List.mem_singleton.mp h] at hc
    exact hc
  | q :: q2 :: r, h => by
    show c ∈ q ++ (S ++ TL.joinL S (q2 :: r))
    rcases List.mem_cons.mp h with z | z
    · rw [z] at hc
      exact List.mem_append_left _ hc
    · exact List.mem_append_right _ (List.mem_append_right _ (mem_joinL hc z))
theorem joinL_len {S : List Nat} {b : Nat} : ∀ {ps : List (List Nat)}, (∀ p ∈ ps, p.length ≤ b) → (TL.joinL S ps).length ≤ ps.length * (b + S.length)
  | [], _ => Nat.zero_le _
  | [p], h => by
    have := h p (List.mem_singleton.mpr rfl)
    show p.length ≤ 1 * (b + S.length)
    omega
  | p :: q :: r, h => by
    have h1 := h p (List.mem_cons_self ..)
    have h2 := joinL_len (S := S) (ps := q :: r) fun x hx => h x (List.mem_cons_of_mem _ hx)
    show (p ++ (S ++ TL.joinL S (q :: r))).length ≤ ((q :: r).length + 1) * (b + S.length)
    rw [List.length_append, List.length_append, Nat.succ_mul]
    omega
theorem cs_join (y : Str) (ps : List Str) : (Txt.join y ps).cps.toList = TL.joinL y.cps.toList (ps.map fun p => p.cps.toList) := by
  rw [TL.join_eq]
  exact TL.tl_join y ps
theorem join_mem {y : Str} {ps : List Str} {c : Nat} (h : c ∈ (Txt.join y ps).cps.toList) : c ∈ y.cps.toList ∨ ∃ p ∈ ps, c ∈ p.cps.toList := by
  rw [cs_join] at h
  rcases joinL_mem h with z | ⟨p, hp, z⟩
  · exact .inl z
  · obtain ⟨q, hq, rfl⟩ := List.mem_map.mp hp
    exact .inr ⟨q, hq, z⟩
theorem join_size {y : Str} {ps : List Str} {b : Nat} (h : ∀ p ∈ ps, p.cps.size ≤ b) : (Txt.join y ps).cps.size ≤ ps.length * (b + y.cps.size) := by
  rw [← Array.length_toList, cs_join]
  have := joinL_len (S := y.cps.toList) (b := b) (ps := ps.map fun p => p.cps.toList) fun p hp => by
    obtain ⟨q, hq, rfl⟩ := List.mem_map.mp hp
    rw [Array.length_toList]
    exact h q hq
  rw [List.length_map, Array.length_toList] at this
  exact this
theorem part_mem {x y p : Str} {c : Nat} (hp : p ∈ Txt.split x y) (hc : c ∈ p.cps.toList) : c ∈ x.cps.toList := by
  have e : Txt.join y (Txt.split x y) = x := by
    rw [TL.join_eq]
    exact PySem.StrLaws.join_split x y
  rw [← e, cs_join]
  exact mem_joinL hc (List.mem_map.mpr ⟨p, hp, rfl⟩)
theorem part_size {x y p : Str} (hp : p ∈ Txt.split x y) : p.cps.size ≤ x.cps.size := PyProof.Rows.part_short hp
theorem spS_join {ps : List Str} (hne : ps ≠ []) (h : ∀ p ∈ ps, 32 ∉ p.cps.toList) : spS (Txt.join spB ps) = ps := TL.split_join (s := 32) (S := []) rfl (by decide +kernel) hne h
theorem spS_len (x : Str) : (spS x).length ≤ x.cps.size + 1 := by
  have h1 : ((spS x).length : Int) = 1 + PyProof.Rows.cnt 32 x.cps.toList := PyProof.Rows.split_len x 32
  have h2 := (cnt_bd 32 x.cps.toList).2
  rw [Array.length_toList] at h2
  omega
theorem spS_free {x p : Str} (h : p ∈ spS x) : 32 ∉ p.cps.toList := PySem.StrLaws.split_free x 32 p h
theorem spS_ne (x : Str) : spS x ≠ [] := fun z => by
  have h1 : ((spS x).length : Int) = 1 + PyProof.Rows.cnt 32 x.cps.toList := PyProof.Rows.split_len x 32
  have h2 := (cnt_bd 32 x.cps.toList).1
  rw [z] at h1
  simp at h1
  omega
theorem nl_cs : nlS.cps.toList = [10] := rfl
theorem app_cs (a b : Str) : (a ++ b).cps.toList = a.cps.toList ++ b.cps.toList := TL.tl_append a b
theorem joinL_nil : ∀ ps : List (List Nat), TL.joinL [] ps = ps.flatten
  | [] => rfl
  | [p] => by
    show p = p ++ []
    rw [List.append_nil]
  | p :: q :: r => by
    show p ++ ([] ++ TL.joinL [] (q :: r)) = p ++ (q :: r).flatten
    rw [List.nil_append, joinL_nil (q :: r)]
theorem joinL_nl : ∀ ps : List (List Nat), TL.joinL [10] (ps ++ [[]]) = (ps.map fun p => p ++ [10]).flatten
  | [] => rfl
  | [p] => by
    show p ++ ([10] ++ []) = (p ++ [10]) ++ []
    rw [List.append_nil, List.append_nil]
  | p :: q :: r => by
    show p ++ ([10] ++ TL.joinL [10] ((q :: r) ++ [[]])) = (p ++ [10]) ++ ((q :: r).map fun p => p ++ [10]).flatten
    rw [joinL_nl (q :: r), List.append_assoc]
theorem text_eq (xs : List Str) : textL xs = Txt.join nlS (xs ++ [Str.ofString ""]) := by
  apply TL.ext_tl
  show (textL xs).cps.toList = _
  unfold textL
  rw [cs_join]
  show _ = (Txt.join nlS (xs ++ [Str.ofString ""])).cps.toList
  rw [cs_join, nl_cs, List.map_append]
  show TL.joinL [] ((xs.map fun x => x ++ nlS).map fun p => p.cps.toList) = TL.joinL [10] (xs.map (fun p => p.cps.toList) ++ [[]])
  rw [joinL_nil, joinL_nl, List.map_map, List.map_map]
  congr 1
  exact List.map_congr_left fun x _ => app_cs x nlS
theorem split_text {xs : List Str} (h : ∀ x ∈ xs, 10 ∉ x.cps.toList) : splitL (textL xs) = xs ++ [Str.ofString ""] := by
  rw [text_eq]
  refine TL.split_join (s := 10) (S := []) rfl (by decide +kernel) (by simp) fun p hp => ?_
  rcases List.mem_append.mp hp with z | z
  · exact h p z
  · rw [List.mem_singleton.mp z]
    decide
theorem split_lines {xs : List Str} (hne : xs ≠ []) (h : ∀ x ∈ xs, 10 ∉ x.cps.toList) : splitL (Txt.join nlS xs) = xs := TL.split_join (s := 10) (S := []) rfl (by decide +kernel) hne h
theorem nl_free {x y : Str} (h : y ∈ splitL x) : 10 ∉ y.cps.toList := PySem.StrLaws.split_free x 10 y h
/-- a line: short, below 128, no new line -/
structure LnB (b : Nat) (y : Str) : Prop where
  sz : y.cps.size ≤ b
  as : ∀ c ∈ y.cps.toList, c < 128
  nl : 10 ∉ y.cps.toList
/-- a text whose lines are such -/
structure TxB (x : Str) : Prop where
  sz : x.cps.size ≤ 100000
  ln : (splitL x).length ≤ 900
  ls : ∀ y ∈ splitL x, LnB 800 y
theorem LnB.parts {y : Str} (h : LnB 800 y) : (spS y).length ≤ 900 ∧ ∀ z ∈ spS y, LnB 800 z := by
  have := spS_len y
  have := h.sz
  refine ⟨by omega, fun z hz => ⟨Nat.le_trans (part_size hz) h.sz, fun c hc => h.as c (part_mem hz hc), fun hc => h.nl (part_mem hz hc)⟩⟩
theorem LnB.up {a b : Nat} {y : Str} (h : LnB a y) (l : a ≤ b) : LnB b y := ⟨Nat.le_trans h.sz l, h.as, h.nl⟩
theorem ln_nil : LnB 0 (Str.ofString "") := ⟨Nat.le_refl 0, fun c h => (by cases h), fun h => (by cases h)⟩
theorem txb_text {xs : List Str} {b : Nat} (h : ∀ x ∈ xs, LnB b x) (hb : b ≤ 200) (hl : xs.length ≤ 400) : TxB (textL xs) := by
  have e := split_text (xs := xs) fun x hx => (h x hx).nl
  refine ⟨?_, ?_, fun y hy => ?_⟩
  · rw [text_eq]
    have := join_size (y := nlS) (ps := xs ++ [Str.ofString ""]) (b := b) fun p hp => by
      rcases List.mem_append.mp hp with z | z
      · exact (h p z).sz
      · rw [List.mem_singleton.mp z]
        exact Nat.zero_le _
    have e1 : nlS.cps.size = 1 := rfl
    rw [List.length_append, e1] at this
    have h2 : (xs.length + [Str.ofString ""].length) * (b + 1) ≤ 401 * 201 := Nat.mul_le_mul (by show xs.length + 1 ≤ 401; omega) (by omega)
    omega
  · rw [e, List.length_append]
    show xs.length + 1 ≤ 900
    omega
  · rw [e] at hy
    rcases List.mem_append.mp hy with z | z
    · exact (h y z).up (by omega)
    · rw [List.mem_singleton.mp z]
      exact ln_nil.up (Nat.zero_le _)
theorem txb_join {xs : List Str} {b : Nat} (hne : xs ≠ []) (h : ∀ x ∈ xs, LnB b x) (hb : b ≤ 200) (hl : xs.length ≤ 400) : TxB (Txt.join nlS xs) := by
  have e := split_lines (xs := xs) hne fun x hx => (h x hx).nl
  refine ⟨?_, ?_, fun y hy => ?_⟩
  · have := join_size (y := nlS) (ps := xs) (b := b) fun p hp => (h p hp).sz
    have e1 : nlS.cps.size = 1 := rfl
    rw [e1] at this
    have h2 : xs.length * (b + 1) ≤ 400 * 201 := Nat.mul_le_mul hl (by omega)
    omega
  · rw [e]
    omega
  · rw [e] at hy
    exact (h y hy).up (by omega)
theorem ln_app {a b : Nat} {x y : Str} (h : LnB a x) (h' : LnB b y) : LnB (a + b) (x ++ y) := by
  refine ⟨?_, fun c hc => ?_, fun hc => ?_⟩
  · rw [← Array.length_toList, app_cs, List.length_append, Array.length_toList, Array.length_toList]
    exact Nat.add_le_add h.sz h'.sz
  · rw [app_cs] at hc
    exact (List.mem_append.mp hc).elim (h.as c) (h'.as c)
  · rw [app_cs] at hc
    exact (List.mem_append.mp hc).elim h.nl h'.nl
theorem ln_join {b : Nat} {ps : List Str} (h : ∀ p ∈ ps, LnB b p) : LnB (ps.length * (b + 1)) (Txt.join spB ps) := by
  refine ⟨join_size (y := spB) fun p hp => (h p hp).sz, fun c hc => ?_, fun hc => ?_⟩
  · rcases join_mem hc with z | ⟨p, hp, z⟩
    · rw [List.mem_singleton.mp (show c ∈ [32] from z)]
      decide
    · exact (h p hp).as c z
  · rcases join_mem hc with z | ⟨p, hp, z⟩
    · exact absurd z (by decide)
    · exact (h p hp).nl z
end C1

/-! Comprehensions whose items are data, made one by one. -/
namespace C1
open PySem PySem.Spec PyProof.Rows L2 SX
theorem dps_at {K : PySem.W.Frag} {H : Hp} {vs : List V} {ds : List PyData} {i : Nat} {x : V} {d : PyData} (h : DpAll K H vs ds) (hx : vs[i]? = some x) (hd : ds[i]? = some d) : Dp K H x d := by
  obtain ⟨d', e, h⟩ := dps_get h hx
  rw [hd] at e
  cases e
  exact h
theorem noLs_take : ∀ {F : List PyData} {i : Nat}, noLs F = true → noLs (F.take i) = true
  | [], i, h => by
    rw [List.take_nil]
    rfl
  | d :: F, 0, h => rfl
  | d :: F, i + 1, h => by
    have h' := Bool.and_eq_true_iff.mp (show (noL d && noLs F) = true from h)
    show (noL d && noLs (F.take i)) = true
    rw [h'.1, noLs_take h'.2]
    rfl
theorem noLs_at {F : List PyData} {i : Nat} {d : PyData} (h : noLs F = true) (e : F[i]? = some d) : noL d = true := noLs_mem h d (List.mem_of_getElem? e)
theorem at_len2 {α β : Type} {xs : List α} {F : List β} (hl : xs.length = F.length) {i : Nat} {x : α} (h : xs[i]? = some x) : ∃ d, F[i]? = some d := by
  have := (List.getElem?_eq_some_iff.mp h).1
  exact ⟨_, List.getElem?_eq_getElem (by omega)⟩
section
variable {K : PySem.W.Frag} {a : Addr} {xs : List V} {g : TG} {te : TE} {vs : List Nat} {σ : L2.St} {H0 : Hp} {D : Addr} {Qd : Hp → Prop}
theorem lc_tupD (F : List PyData) (hF : noLs F = true) (hlen : xs.length = F.length) (hn : xs.length ≤ 1000) (hl : SqT K H0 a xs) (hD : H0 D = none)
    (hs : ∀ (i : Nat) (x : V) (d : PyData) (H : Hp) (Q : VK), xs[i]? = some x → F[i]? = some d → Same H0 H → (∀ y H4, Same H H4 → Dp K H4 y d → Q y H4) → g x (wipe σ vs) H fun σ2 H2 => wipe σ2 vs = wipe σ vs ∧ te σ2 H2 Q)
    (hd : ∀ H acc, Same H0 H → H D = some (.lst acc) → DpAll K H acc F → Qd H) :
    ∃ W : Nat → Nat → Hp → Prop, (∃ m, W 0 m (upd H0 D (.lst []))) ∧ ∀ i m H, W i m H →
      ((Itt K a).stop i H ∧ Qd H) ∨ ((Itt K a).go i H ∧ ∃ Nx : Hp → Prop, (∀ H', Nx H' → ∃ m', m' < m ∧ W (i + 1) m' H') ∧ ∀ x H', (Itt K a).yld i H x H' → g x (wipe σ vs) H' fun σ2 H2 => wipe σ2 vs = wipe σ vs ∧ tYes σ2 H2 fun b H3 =>
        if b = true then te σ2 H3 fun y H4 => ∃ acc, H4 D = some (.lst acc) ∧ acc.length < sizeLine ∧ Nx (upd H4 D (.lst (acc ++ [y]))) else Nx H3) := by
  refine lc_tup (xs := xs) (fun i H => Same H0 H ∧ ∃ acc, H D = some (.lst acc) ∧ DpAll K H acc (F.take i)) ⟨same_new hD, [], upd_same, .nil⟩ (fun i H _ h => same_tup h.1 _ _ hl) (fun i x H hx h => ?_) (fun H h => ?_)
  · obtain ⟨sm, acc, e, dp⟩ := h
    obtain ⟨d, hd'⟩ := at_len2 hlen hx
    have lt := dps_len dp
    rw [List.length_take] at lt
    have hi := (List.getElem?_eq_some_iff.mp hx).1
    exact hs i x d H (fun y H4 => ∃ acc, H4 D = some (.lst acc) ∧ acc.length < sizeLine ∧ (Same H0 (upd H4 D (.lst (acc ++ [y]))) ∧ ∃ acc', (upd H4 D (.lst (acc ++ [y]))) D = some (.lst acc') ∧ DpAll K (upd H4 D (.lst (acc ++ [y]))) acc' (F.take (i + 1)))) hx hd' sm
      (fun y H4 s4 dy => ⟨acc, s4 _ _ e, lineS200 (by omega), same_put (sm.trans s4) hD, acc ++ [y], upd_same, by
        rw [take_snoc hd']
        exact push_dps (s4 _ _ e) (dps_stay (same_tup s4) _ _ dp (noLs_take hF)) (noLs_take hF) dy (noLs_at hF hd')⟩)
  · obtain ⟨sm, acc, e, dp⟩ := h
    rw [hlen, List.take_length] at dp
    exact hd H acc sm e dp
theorem lc_listD (F : List PyData) (hF : noLs F = true) (hlen : xs.length = F.length) (hn : xs.length ≤ 1000) (hl : SqL K H0 a xs) (hD : H0 D = none)
    (hs : ∀ (i : Nat) (x : V) (d : PyData) (H : Hp) (Q : VK), xs[i]? = some x → F[i]? = some d → Same H0 H → (∀ y H4, Same H H4 → Dp K H4 y d → Q y H4) → g x (wipe σ vs) H fun σ2 H2 => wipe σ2 vs = wipe σ vs ∧ te σ2 H2 Q)
    (hd : ∀ H acc, Same H0 H → H D = some (.lst acc) → DpAll K H acc F → Qd H) :
    ∃ W : Nat → Nat → Hp → Prop, (∃ m, W 0 m (upd H0 D (.lst []))) ∧ ∀ i m H, W i m H →
      ((Itl K a).stop i H ∧ Qd H) ∨ ((Itl K a).go i H ∧ ∃ Nx : Hp → Prop, (∀ H', Nx H' → ∃ m', m' < m ∧ W (i + 1) m' H') ∧ ∀ x H', (Itl K a).yld i H x H' → g x (wipe σ vs) H' fun σ2 H2 => wipe σ2 vs = wipe σ vs ∧ tYes σ2 H2 fun b H3 =>
        if b = true then te σ2 H3 fun y H4 => ∃ acc, H4 D = some (.lst acc) ∧ acc.length < sizeLine ∧ Nx (upd H4 D (.lst (acc ++ [y]))) else Nx H3) := by
  refine lc_list (xs := xs) (fun i H => Same H0 H ∧ ∃ acc, H D = some (.lst acc) ∧ DpAll K H acc (F.take i)) ⟨same_new hD, [], upd_same, .nil⟩ (fun i H _ h => h.1.seq hl) (fun i x H hx h => ?_) (fun H h => ?_)
  · obtain ⟨sm, acc, e, dp⟩ := h
    obtain ⟨d, hd'⟩ := at_len2 hlen hx
    have lt := dps_len dp
    rw [List.length_take] at lt
    have hi := (List.getElem?_eq_some_iff.mp hx).1
    exact hs i x d H (fun y H4 => ∃ acc, H4 D = some (.lst acc) ∧ acc.length < sizeLine ∧ (Same H0 (upd H4 D (.lst (acc ++ [y]))) ∧ ∃ acc', (upd H4 D (.lst (acc ++ [y]))) D = some (.lst acc') ∧ DpAll K (upd H4 D (.lst (acc ++ [y]))) acc' (F.take (i + 1)))) hx hd' sm
      (fun y H4 s4 dy => ⟨acc, s4 _ _ e, lineS200 (by omega), same_put (sm.trans s4) hD, acc ++ [y], upd_same, by
        rw [take_snoc hd']
        exact push_dps (s4 _ _ e) (dps_stay (same_tup s4) _ _ dp (noLs_take hF)) (noLs_take hF) dy (noLs_at hF hd')⟩)
  · obtain ⟨sm, acc, e, dp⟩ := h
    rw [hlen, List.take_length] at dp
    exact hd H acc sm e dp
theorem lc_rangeD {lo : Int} {n : Nat} (F : List PyData) (hF : noLs F = true) (hlen : n = F.length) (hn : n ≤ 1000) (hD : H0 D = none)
    (hs : ∀ (i : Nat) (d : PyData) (H : Hp) (Q : VK), i < n → F[i]? = some d → Same H0 H → (∀ y H4, Same H H4 → Dp K H4 y d → Q y H4) → g (.int (lo + i)) (wipe σ vs) H fun σ2 H2 => wipe σ2 vs = wipe σ vs ∧ te σ2 H2 Q)
    (hd : ∀ H acc, Same H0 H → H D = some (.lst acc) → DpAll K H acc F → Qd H) :
    ∃ W : Nat → Nat → Hp → Prop, (∃ m, W 0 m (upd H0 D (.lst []))) ∧ ∀ i m H, W i m H →
      ((Itr lo n).stop i H ∧ Qd H) ∨ ((Itr lo n).go i H ∧ ∃ Nx : Hp → Prop, (∀ H', Nx H' → ∃ m', m' < m ∧ W (i + 1) m' H') ∧ ∀ x H', (Itr lo n).yld i H x H' → g x (wipe σ vs) H' fun σ2 H2 => wipe σ2 vs = wipe σ vs ∧ tYes σ2 H2 fun b H3 =>
        if b = true then te σ2 H3 fun y H4 => ∃ acc, H4 D = some (.lst acc) ∧ acc.length < sizeLine ∧ Nx (upd H4 D (.lst (acc ++ [y]))) else Nx H3) := by
  refine lc_range (fun i H => Same H0 H ∧ ∃ acc, H D = some (.lst acc) ∧ DpAll K H acc (F.take i)) ⟨same_new hD, [], upd_same, .nil⟩ (fun i H hi h => ?_) (fun H h => ?_)
  · obtain ⟨sm, acc, e, dp⟩ := h
    obtain ⟨d, hd'⟩ : ∃ d, F[i]? = some d := ⟨_, List.getElem?_eq_getElem (by omega)⟩
    have lt := dps_len dp
    rw [List.length_take] at lt
    exact hs i d H (fun y H4 => ∃ acc, H4 D = some (.lst acc) ∧ acc.length < sizeLine ∧ (Same H0 (upd H4 D (.lst (acc ++ [y]))) ∧ ∃ acc', (upd H4 D (.lst (acc ++ [y]))) D = some (.lst acc') ∧ DpAll K (upd H4 D (.lst (acc ++ [y]))) acc' (F.take (i + 1)))) hi hd' sm
      (fun y H4 s4 dy => ⟨acc, s4 _ _ e, lineS200 (by omega), same_put (sm.trans s4) hD, acc ++ [y], upd_same, by
        rw [take_snoc hd']
        exact push_dps (s4 _ _ e) (dps_stay (same_tup s4) _ _ dp (noLs_take hF)) (noLs_take hF) dy (noLs_at hF hd')⟩)
  · obtain ⟨sm, acc, e, dp⟩ := h
    rw [hlen, List.take_length] at dp
    exact hd H acc sm e dp
/-- the items are kept or left out, each as it is -/
theorem lc_tupF {tt : TT} {j : Nat} (F : List PyData) (pb : PyData → Bool) (hF : noLs F = true) (hx : DpAll K H0 xs F) (hn : xs.length ≤ 1000) (hl : SqT K H0 a xs) (hD : H0 D = none)
    (hs : ∀ (i : Nat) (x : V) (d : PyData) (H : Hp) (Q : Bool → Hp → Prop), xs[i]? = some x → F[i]? = some d → Same H0 H → Dp K H x d → (∀ H4, Same H H4 → Q (pb d) H4) → tt ((wipe σ vs).set j (some x)) H Q)
    (hσ : ∀ v, ((wipe σ vs).set j (some v))[j]? = some (some v) ∧ wipe ((wipe σ vs).set j (some v)) vs = wipe σ vs)
    (hd : ∀ H acc, Same H0 H → H D = some (.lst acc) → DpAll K H acc (F.filter pb) → Qd H) :
    ∃ W : Nat → Nat → Hp → Prop, (∃ m, W 0 m (upd H0 D (.lst []))) ∧ ∀ i m H, W i m H →
      ((Itt K a).stop i H ∧ Qd H) ∨ ((Itt K a).go i H ∧ ∃ Nx : Hp → Prop, (∀ H', Nx H' → ∃ m', m' < m ∧ W (i + 1) m' H') ∧ ∀ x H', (Itt K a).yld i H x H' → gName j x (wipe σ vs) H' fun σ2 H2 => wipe σ2 vs = wipe σ vs ∧ tt σ2 H2 fun b H3 =>
        if b = true then tVar j σ2 H3 fun y H4 => ∃ acc, H4 D = some (.lst acc) ∧ acc.length < sizeLine ∧ Nx (upd H4 D (.lst (acc ++ [y]))) else Nx H3) := by
  have noF : ∀ G : List PyData, noLs G = true → noLs (G.filter pb) = true := fun G h => by
    induction G with
    | nil => rfl
    | cons d G ih =>
      have h' := Bool.and_eq_true_iff.mp (show (noL d && noLs G) = true from h)
      rw [List.filter_cons]
      split
      · show (noL d && noLs (G.filter pb)) = true
        rw [h'.1, ih h'.2]
        rfl
      · exact ih h'.2
  refine lc_tup (xs := xs) (fun i H => Same H0 H ∧ ∃ acc, H D = some (.lst acc) ∧ DpAll K H acc ((F.take i).filter pb)) ⟨same_new hD, [], upd_same, .nil⟩ (fun i H _ h => same_tup h.1 _ _ hl) (fun i x H hxi h => ?_) (fun H h => ?_)
  · obtain ⟨sm, acc, e, dp⟩ := h
    obtain ⟨d, hd', dx⟩ := dps_get hx hxi
    have dx2 : Dp K H x d := dp_stay (same_tup sm) _ _ dx (noLs_at hF hd')
    have lt := dps_len dp
    have lt2 := List.length_filter_le pb (F.take i)
    rw [List.length_take] at lt2
    have hi := (List.getElem?_eq_some_iff.mp hxi).1
    have nn := noF _ (noLs_take (i := i) hF)
    refine ⟨(hσ x).2, hs i x d H _ hxi hd' sm dx2 fun H4 s4 => ?_⟩
    cases hb : pb d with
    | true =>
      refine ⟨x, (hσ x).1, acc, s4 _ _ e, lineS200 (by omega), same_put (sm.trans s4) hD, acc ++ [x], upd_same, ?_⟩
      rw [take_snoc hd', List.filter_append, List.filter_cons_of_pos hb, List.filter_nil]
      exact push_dps (s4 _ _ e) (dps_stay (same_tup s4) _ _ dp nn) nn (dp_stay (same_tup s4) _ _ dx2 (noLs_at hF hd')) (noLs_at hF hd')
    | false =>
      refine ⟨sm.trans s4, acc, s4 _ _ e, ?_⟩
      rw [take_snoc hd', List.filter_append, List.filter_cons_of_neg (by rw [hb]; decide), List.filter_nil, List.append_nil]
      exact dps_stay (same_tup s4) _ _ dp nn
  · obtain ⟨sm, acc, e, dp⟩ := h
    rw [dps_len hx, List.take_length] at dp
    exact hd H acc sm e dp
end
theorem noLs_tups : ∀ xss : List (List PyData), (∀ xs ∈ xss, noLs xs = true) → noLs (xss.map .tuple) = true
  | [], _ => rfl
  | xs :: r, h => by
    show (noLs xs && noLs (r.map .tuple)) = true
    rw [h xs (List.mem_cons_self ..), noLs_tups r fun y hy => h y (List.mem_cons_of_mem _ hy)]
    rfl
theorem noLs_strs : ∀ xs : List Str, noLs (xs.map .str) = true
  | [] => rfl
  | _ :: r => noLs_strs r
theorem strs_dps {K : PySem.W.Frag} {H : Hp} : ∀ {vs : List V} {xs : List Str}, DpAll K H vs (xs.map .str) → vs = xs.map V.str
  | [], [], _ => rfl
  | _ :: _, _ :: _, .cons a b => by
    cases a
    rw [strs_dps b]
    rfl
theorem dps_ofs {K : PySem.W.Frag} {H : Hp} : ∀ xs : List Str, DpAll K H (xs.map V.str) (xs.map .str)
  | [] => .nil
  | x :: r => .cons (.str x) (dps_ofs r)
end C1

/-! Lines of parts. -/
namespace C1
open PySem PySem.Spec PyProof.Rows L2 SX
open K0 (Cs digs isNum)
open GxR (TabG Tabbed TabB GenS)
abbrev rJoin (K : PySem.W.Frag) : V → List V → Hp → VK → Prop := fun x xs H Q => ∃ a p, ∃ ys : List Str, x = .str a ∧ xs = [.ref p] ∧ (SqL K H p (ys.map V.str) ∨ SqT K H p (ys.map V.str)) ∧
      (ys.map (·.length)).sum + ys.length * a.length ≤ 16777216 ∧ Q (.str (Txt.join a ys)) H
abbrev rStrA : List V → Hp → VK → Prop := fun xs H Q => (∃ i, xs = [.int i] ∧ i.natAbs.log2 < 1920 ∧ Q (.str (toString i)) H) ∨ (∃ a, xs = [.str a] ∧ Q (.str a) H)
theorem call_str_any {X : Cx} : CallR X (.type "str") rStrA := CallR.or call_str_int SkE.call_str_str
def unT : PyData → List PyData
  | .tuple ds => ds
  | _ => []
def wordsP : List Str := ["net", "latch", "told", "and"]
def PartOk : PyData → Prop
  | .int i => 0 ≤ i ∧ i < 1000000000
  | .str s => s ∈ wordsP
  | _ => False
def pS : PyData → Str
  | .int i => Str.ofString (toString i)
  | .str s => s
  | _ => Str.ofString ""
def lineT (ds : List PyData) : Str := Txt.join spB (ds.map pS)
theorem words_ln : ∀ s ∈ wordsP, s.cps.size ≤ 9 ∧ (∀ c ∈ s.cps.toList, c < 128 ∧ c ≠ 10 ∧ c ≠ 32) := by decide +kernel
theorem num_cs {i : Int} (h : 0 ≤ i) : (Str.ofString (toString i)).cps.toList = TL.numL i.toNat := by
  have e : i = ((i.toNat : Nat) : Int) := (Int.toNat_of_nonneg h).symm
  have := TL.tl_num i.toNat
  rw [← e] at this
  exact this
theorem part_ln {d : PyData} (h : PartOk d) : LnB 9 (pS d) ∧ 32 ∉ (pS d).cps.toList := by
  cases d with
  | int i =>
    obtain ⟨h0, h1⟩ := h
    have e := num_cs h0
    have dg := TL.numL_digits i.toNat
    refine ⟨⟨?_, fun c hc => ?_, fun hc => ?_⟩, fun hc => ?_⟩
    · exact Pl.len (i := i) ⟨h0, h1⟩
    · rw [show (pS (.int i)).cps.toList = TL.numL i.toNat from e] at hc
      have := (dg c hc).2
      omega
    · rw [show (pS (.int i)).cps.toList = TL.numL i.toNat from e] at hc
      have := (dg 10 hc).1
      omega
    · rw [show (pS (.int i)).cps.toList = TL.numL i.toNat from e] at hc
      have := (dg 32 hc).1
      omega
  | str s =>
    obtain ⟨a, b⟩ := words_ln s h
    exact ⟨⟨a, fun c hc => (b c hc).1, fun hc => (b 10 hc).2.1 rfl⟩, fun hc => (b 32 hc).2.2 rfl⟩
  | none => exact h.elim
  | bool _ => exact h.elim
  | tuple _ => exact h.elim
  | list _ => exact h.elim
  | dict _ => exact h.elim
structure LpOk (ds : List PyData) : Prop where
  ne : ds ≠ []
  len : ds.length ≤ 6
  ok : ∀ d ∈ ds, PartOk d
theorem part_noL {d : PyData} (h : PartOk d) : noL d = true := by
  cases d <;> first | rfl | exact h.elim
theorem LpOk.noL {ds : List PyData} (h : LpOk ds) : noLs ds = true := by
  have key : ∀ l : List PyData, (∀ d ∈ l, PartOk d) → noLs l = true := fun l => by
    induction l with
    | nil => exact fun _ => rfl
    | cons d l ih =>
      intro h
      show (C1.noL d && noLs l) = true
      rw [part_noL (h d (List.mem_cons_self ..)), ih fun x hx => h x (List.mem_cons_of_mem _ hx)]
      rfl
  exact key _ h.ok
theorem LpOk.line {ds : List PyData} (h : LpOk ds) : LnB 60 (lineT ds) := by
  have := ln_join (b := 9) (ps := ds.map pS) fun p hp => by
    obtain ⟨d, hd, rfl⟩ := List.mem_map.mp hp
    exact (part_ln (h.ok d hd)).1
  refine this.up ?_
  rw [List.length_map]
  have := h.len
  omega
theorem LpOk.spl {ds : List PyData} (h : LpOk ds) : spS (lineT ds) = ds.map pS := spS_join (by simpa using h.ne) fun p hp => by
  obtain ⟨d, hd, rfl⟩ := List.mem_map.mp hp
  exact (part_ln (h.ok d hd)).2
theorem nat_part {n : Nat} (h : n < 1000000000) : PartOk (iD n) := ⟨by omega, by omega⟩
theorem word_part {s : Str} (h : s ∈ wordsP) : PartOk (.str s) := h
theorem all_part {ds : List PyData} (h : ∀ d ∈ ds, PartOk d) {w : Str} (hw : w ∈ wordsP) (hl : ds.length ≤ 5) : LpOk (.str w :: ds) :=
  ⟨by simp, by show ds.length + 1 ≤ 6; omega, fun d hd => by
    rcases List.mem_cons.mp hd with z | z
    · rw [z]
      exact hw
    · exact h d z⟩
section
variable {P : Program} {w : World} {K : PySem.W.Frag} {mg : Str → Option Value} {base : Heap} {T : Addr}
theorem star_lc {wd : Str} {a : Addr} {xs : List V} {H0 : Hp} {D : Addr} {σ : L2.St} {vs : List Nat} {j : Nat} {Qd : Hp → Prop} (dss : List (List PyData)) (hF : ∀ ds ∈ dss, noLs ds = true) (hx : DpAll K H0 xs (dss.map .tuple)) (hn : xs.length ≤ 1000)
    (hm : ∀ ds ∈ dss, ds.length ≤ 900) (hl : SqT K H0 a xs) (hD : H0 D = none) (hσ : ∀ v, ((wipe σ vs).set j (some v))[j]? = some (some v) ∧ wipe ((wipe σ vs).set j (some v)) vs = wipe σ vs)
    (hd : ∀ H acc, Same H0 H → H D = some (.lst acc) → DpAll K H acc (dss.map fun ds => .tuple (.str wd :: ds)) → Qd H) :
    ∃ W : Nat → Nat → Hp → Prop, (∃ m, W 0 m (upd H0 D (.lst []))) ∧ ∀ i m H, W i m H →
      ((Itt K a).stop i H ∧ Qd H) ∨ ((Itt K a).go i H ∧ ∃ Nx : Hp → Prop, (∀ H', Nx H' → ∃ m', m' < m ∧ W (i + 1) m' H') ∧ ∀ x H', (Itt K a).yld i H x H' → gName j x (wipe σ vs) H' fun σ2 H2 => wipe σ2 vs = wipe σ vs ∧ tYes σ2 H2 fun b H3 =>
        if b = true then (tTup (tCons (tC (.str wd)) (StX.tStar K (tVar j) tNil))) σ2 H3 fun y H4 => ∃ acc, H4 D = some (.lst acc) ∧ acc.length < sizeLine ∧ Nx (upd H4 D (.lst (acc ++ [y]))) else Nx H3) := by
  have eF : (dss.map fun ds => PyData.tuple (.str wd :: ds)) = (dss.map fun ds => .str wd :: ds).map .tuple := by
    rw [List.map_map]
    rfl
  have nF : noLs (dss.map fun ds => PyData.tuple (.str wd :: ds)) = true := by
    rw [eF]
    refine noLs_tups _ fun xs h => ?_
    obtain ⟨ds, h2, rfl⟩ := List.mem_map.mp h
    show (true && noLs ds) = true
    rw [hF ds h2]
    rfl
  refine lc_tupD (dss.map fun ds => .tuple (.str wd :: ds)) nF (by rw [List.length_map]; have := dps_len hx; rw [List.length_map] at this; exact this) hn hl hD (fun i x d H Q hxi hdi sm q => ?_) hd
  rw [List.getElem?_map] at hdi
  obtain ⟨ds, eds, rfl⟩ := Option.map_eq_some_iff.mp hdi
  have dx : Dp K H0 x (.tuple ds) := dps_at hx hxi (by rw [List.getElem?_map, eds]; rfl)
  have mem := List.mem_of_getElem? eds
  obtain ⟨b, ys, rfl, sq, dys⟩ := dp_tup dx
  have ly := dps_len dys
  have lm := hm ds mem
  have sq2 := same_tup sm _ _ sq
  refine ⟨(hσ _).2, _, (hσ _).1, b, ys, rfl, .inl sq2, ?_, fun p np => q _ _ (Same.up np) ?_⟩
  · exact line200 (show ((V.str wd) :: (ys ++ [])).length ≤ 1000 by rw [List.append_nil, List.length_cons]; omega)
  · rw [List.append_nil]
    exact .tup (SqT.of upd_same) (.cons (.str wd) (dps_stay (fun b xs h => same_tup (sm.trans (Same.up np)) _ _ h) _ _ dys (hF ds mem)))
theorem line_te {σ : L2.St} {H : Hp} {x : V} {ds : List PyData} {L j : Nat} {Q : VK} (hσ : σ[L]? = some (some x)) (hx : Dp K H x (.tuple ds)) (ok : LpOk ds) (hj : ∀ v, ((wipe σ [j]).set j (some v))[j]? = some (some v) ∧ wipe ((wipe σ [j]).set j (some v)) [j] = wipe σ [j])
    (q : ∀ H', Same H H' → Q (.str (lineT ds)) H') : (L2.tM1 (rJoin K) (tC (.str " ")) (tLc (iTup K (tVar L)) (gName j) tYes (tCB rStrA (tCons (tVar j) tNil)) [j])) σ H Q := by
  obtain ⟨b, ys, rfl, sq, dys⟩ := dp_tup hx
  have ly := dps_len dys
  have lm := ok.len
  refine ⟨⟨_, rfl⟩, _, hσ, b, rfl, ⟨_, sq⟩, fun D nD => ?_⟩
  refine lc_tupD ((ds.map pS).map .str) (noLs_strs _) (by rw [List.length_map, List.length_map]; exact ly) (by omega) sq nD (fun i x d H2 Q2 hxi hdi sm q2 => ?_) (fun H2 acc sm e dp => ?_)
  · rw [List.getElem?_map, List.getElem?_map] at hdi
    obtain ⟨s, es, rfl⟩ := Option.map_eq_some_iff.mp hdi
    obtain ⟨d, ed, rfl⟩ := Option.map_eq_some_iff.mp es
    have dx := dps_at dys hxi ed
    have pk := ok.ok d (List.mem_of_getElem? ed)
    refine ⟨(hj _).2, _, (hj _).1, ?_⟩
    cases dx with
    | int i => exact .inl ⟨i, rfl, Pl.log (i := i) pk, q2 _ _ (fun _ _ e => e) (.str _)⟩
    | str s => exact .inr ⟨s, rfl, q2 _ _ (fun _ _ e => e) (.str _)⟩
    | _ => exact pk.elim
  · have ea := strs_dps dp
    subst ea
    refine ⟨Str.ofString " ", D, ds.map pS, rfl, rfl, .inl (SqL.of e), ?_, q H2 sm⟩
    have h1 := len_sum (xs := ds.map pS) (b := 9) fun y hy => by
      obtain ⟨d, hd, rfl⟩ := List.mem_map.mp hy
      exact (part_ln (ok.ok d hd)).1.sz
    rw [List.length_map] at h1 ⊢
    have h0 : (Str.ofString " ").length = 1 := by decide +kernel
    rw [h0]
    omega
end
theorem line_cons (wd : Str) {ds : List PyData} (h : ds ≠ []) : lineT (.str wd :: ds) = wd ++ spB ++ lineT ds := by
  cases ds with
  | nil => exact absurd rfl h
  | cons d r =>
    apply TL.ext_tl
    show (Txt.join spB (pS (.str wd) :: pS d :: r.map pS)).cps.toList = (wd ++ spB ++ lineT (d :: r)).cps.toList
    rw [app_cs, app_cs]
    unfold lineT
    rw [cs_join, cs_join]
    show wd.cps.toList ++ (spB.cps.toList ++ TL.joinL spB.cps.toList _) = _
    rw [List.append_assoc]
    rfl
theorem line_one (d : PyData) : lineT [d] = pS d := by
  apply TL.ext_tl
  show (Txt.join spB [pS d]).cps.toList = _
  rw [cs_join]
  rfl
theorem str_app (a b c : Str) : a ++ b ++ c = a ++ (b ++ c) := by
  apply TL.ext_tl
  show (a ++ b ++ c).cps.toList = (a ++ (b ++ c)).cps.toList
  rw [app_cs, app_cs, app_cs, app_cs, List.append_assoc]
section
variable {K : PySem.W.Frag}
theorem str_te {σ : L2.St} {H : Hp} {x : V} {d : PyData} {j : Nat} {Q : VK} (hσ : σ[j]? = some (some x)) (hx : Dp K H x d) (ok : PartOk d) (q : Q (.str (pS d)) H) : (tCB rStrA (tCons (tVar j) tNil)) σ H Q := by
  refine ⟨_, hσ, ?_⟩
  cases hx with
  | int i => exact .inl ⟨i, rfl, Pl.log (i := i) ok, q⟩
  | str s => exact .inr ⟨s, rfl, q⟩
  | _ => exact ok.elim
theorem part_len {d : PyData} (h : PartOk d) : (pS d).length ≤ 9 := (part_ln h).1.sz
end
theorem cut_strs (xs : List Str) (lo hi : Option Int) : ∃ zs : List Str, cutV (xs.map V.str) lo hi = zs.map V.str ∧ (∀ z ∈ zs, z ∈ xs) ∧ zs.length ≤ xs.length := by
  refine ⟨(xs.drop (HT.sIx xs.length 0 lo)).take (HT.sIx xs.length xs.length hi - HT.sIx xs.length 0 lo), ?_, ?_, ?_⟩
  · unfold cutV
    rw [List.length_map, List.map_take, List.map_drop]
  · exact fun z hz => List.mem_of_mem_drop (List.mem_of_mem_take hz)
  · rw [List.length_take, List.length_drop]
    omega
theorem joinL_eq {S : List Nat} : ∀ {ps : List (List Nat)}, ps ≠ [] → (TL.joinL S ps).length + S.length = (ps.map (·.length)).sum + ps.length * S.length
  | [], h => absurd rfl h
  | [p], _ => by
    show p.length + S.length = (p.length + 0) + 1 * S.length
    omega
  | p :: q :: r, _ => by
    have ih := joinL_eq (S := S) (ps := q :: r) (by simp)
    show (p ++ (S ++ TL.joinL S (q :: r))).length + S.length = (p.length + ((q :: r).map (·.length)).sum) + ((q :: r).length + 1) * S.length
    rw [List.length_append, List.length_append, Nat.succ_mul]
    omega
theorem sum_set (v : Nat) : ∀ (l : List Nat) (i : Nat), (l.set i v).sum ≤ l.sum + v
  | [], _ => Nat.zero_le _
  | x :: l, 0 => by
    show v + l.sum ≤ (x + l.sum) + v
    omega
  | x :: l, i + 1 => by
    have := sum_set v l i
    show x + (l.set i v).sum ≤ (x + l.sum) + v
    omega
theorem join_set {y z : Str} {i b c : Nat} (hy : LnB b y) (hz : LnB c z) : LnB (b + c) (Txt.join spB ((spS y).set i z)) := by
  have e : Txt.join spB (spS y) = y := by
    rw [TL.join_eq]
    exact PySem.StrLaws.join_split y spB
  refine ⟨?_, fun k hk => ?_, fun hk => ?_⟩
  · have h1 := congrArg (fun s : Str => s.cps.toList.length) e
    simp only [cs_join, Array.length_toList] at h1
    have ne := spS_ne y
    have q1 := joinL_eq (S := spB.cps.toList) (ps := (spS y).map fun p => p.cps.toList) (by simpa using ne)
    have q2 := joinL_eq (S := spB.cps.toList) (ps := ((spS y).set i z).map fun p => p.cps.toList) (by simpa using ne)
    have q3 := sum_set z.cps.size (((spS y).map fun p => p.cps.toList).map (·.length)) i
    have e3 : (((spS y).set i z).map fun p => p.cps.toList).map (·.length) = (((spS y).map fun p => p.cps.toList).map (·.length)).set i z.cps.size := by
      rw [List.map_set, List.map_set, Array.length_toList]
    have a1 := hy.sz
    have a2 := hz.sz
    rw [← Array.length_toList, cs_join]
    rw [e3] at q2
    simp only [List.length_map, List.length_set] at q1 q2
    omega
  · rcases join_mem hk with w | ⟨p, hp, w⟩
    · rw [List.mem_singleton.mp (show k ∈ [32] from w)]
      decide
    · rcases List.mem_or_eq_of_mem_set hp with v | v
      · exact hy.as k (part_mem v w)
      · rw [v] at w
        exact hz.as k w
  · rcases join_mem hk with w | ⟨p, hp, w⟩
    · exact absurd w (by decide)
    · rcases List.mem_or_eq_of_mem_set hp with v | v
      · exact hy.nl (part_mem v w)
      · rw [v] at w
        exact hz.nl w
section
variable {P : Program} {w : World} {K : PySem.W.Frag} {mg : Str → Option Value} {base : Heap} {T : Addr} {a l : Addr} {ds : List Int}
theorem two_te {σ : L2.St} {H : Hp} {v i j b : Nat} {q : Addr} {xs : List Str} {tA tB : TE} {Q : VK} (hv : σ[v]? = some (some (.ref q))) (e : H q = some (.lst (xs.map V.str))) (W : Wd H a l ds) (qa : q ≠ a)
    (hA : ∀ H1 (R : VK), R (iV i) H1 → tA σ H1 R) (hB : ∀ H1 (R : VK), R (iV j) H1 → tB σ H1 R) (hx : ∀ x ∈ xs, LnB b x) (hl : xs.length ≤ 200)
    (hq : ∀ (H' : Hp) (p : Addr) (ys : List Str), Kp a H H' → Wd H' a l ds → H' p = some (.lst (ys.map V.str)) → p ≠ a → (∀ y ∈ ys, LnB b y) → ys.length ≤ 2 * xs.length → Q (.ref p) H') :
    (tOp rCat (tSl (rSlL K) (tVar v) tNoPart (tPart tA)) (tSl (rSlL K) (tVar v) (tPart tB) tNoPart)) σ H Q := by
  obtain ⟨z1, ez1, m1, l1⟩ := cut_strs xs none (some ((i : Nat) : Int))
  obtain ⟨z2, ez2, m2, l2⟩ := cut_strs xs (some ((j : Nat) : Int)) none
  refine ⟨_, hv, hA _ _ ⟨_, rfl, q, _, rfl, SqL.of e, fun s1 n1 => ?_⟩⟩
  have k1 := Kp.new (a := a) (o := .lst (cutV (xs.map V.str) none (some ((i : Nat) : Int)))) n1
  have W1 := W.new (o := .lst (cutV (xs.map V.str) none (some ((i : Nat) : Int)))) n1
  have e1 := k1 _ _ qa e
  have f1 : (upd H s1 (.lst (cutV (xs.map V.str) none (some ((i : Nat) : Int))))) s1 = some (.lst (z1.map V.str)) := by rw [upd_same, ez1]
  generalize upd H s1 (.lst (cutV (xs.map V.str) none (some ((i : Nat) : Int)))) = H1 at k1 W1 e1 f1
  refine ⟨_, hv, hB _ _ ⟨_, rfl, q, _, rfl, SqL.of e1, fun s2 n2 => ?_⟩⟩
  have k2 := Kp.new (a := a) (o := .lst (cutV (xs.map V.str) (some ((j : Nat) : Int)) none)) n2
  have W2 := W1.new (o := .lst (cutV (xs.map V.str) (some ((j : Nat) : Int)) none)) n2
  have f2 : (upd H1 s2 (.lst (cutV (xs.map V.str) (some ((j : Nat) : Int)) none))) s2 = some (.lst (z2.map V.str)) := by rw [upd_same, ez2]
  have f1' := k2 _ _ (W1.at'.elim fun n h => ne_of f1 h.2 (by intro z; cases z)) f1
  generalize upd H1 s2 (.lst (cutV (xs.map V.str) (some ((j : Nat) : Int)) none)) = H2 at k2 W2 f2 f1'
  refine ⟨s1, s2, _, _, rfl, rfl, f1', f2, line200 (by rw [List.length_map, List.length_map]; omega), fun p np => ?_⟩
  refine hq _ p (z1 ++ z2) ((k1.trans k2).trans (Kp.new np)) (W2.new np) (by rw [upd_same, List.map_append]) (W2.fresh np) (fun y hy => ?_) (by rw [List.length_append]; omega)
  rcases List.mem_append.mp hy with z | z
  · exact hx y (m1 y z)
  · exact hx y (m2 y z)
theorem ins_te {σ : L2.St} {H : Hp} {v i j b : Nat} {q : Addr} {xs : List Str} {tA tB te : TE} {Q : VK} (hv : σ[v]? = some (some (.ref q))) (e : H q = some (.lst (xs.map V.str))) (W : Wd H a l ds) (qa : q ≠ a)
    (hA : ∀ H1 (R : VK), R (iV i) H1 → tA σ H1 R) (hB : ∀ H1 (R : VK), R (iV j) H1 → tB σ H1 R) (hx : ∀ x ∈ xs, LnB b x) (hl : xs.length ≤ 200)
    (hte : ∀ H1 (R : VK), Kp a H H1 → Wd H1 a l ds → (∀ (y : Str) (H2 : Hp), Kp a H1 H2 → Wd H2 a l ds → LnB b y → R (.str y) H2) → te σ H1 R)
    (hq : ∀ (H' : Hp) (p : Addr) (ys : List Str), Kp a H H' → Wd H' a l ds → H' p = some (.lst (ys.map V.str)) → p ≠ a → (∀ y ∈ ys, LnB b y) → ys.length ≤ 2 * xs.length + 1 → Q (.ref p) H') :
    (tOp rCat (tOp rCat (tSl (rSlL K) (tVar v) tNoPart (tPart tA)) (tLst (tCons te tNil))) (tSl (rSlL K) (tVar v) (tPart tB) tNoPart)) σ H Q := by
  obtain ⟨z1, ez1, m1, l1⟩ := cut_strs xs none (some ((i : Nat) : Int))
  obtain ⟨z2, ez2, m2, l2⟩ := cut_strs xs (some ((j : Nat) : Int)) none
  refine ⟨_, hv, hA _ _ ⟨_, rfl, q, _, rfl, SqL.of e, fun s1 n1 => ?_⟩⟩
  have k1 := Kp.new (a := a) (o := .lst (cutV (xs.map V.str) none (some ((i : Nat) : Int)))) n1
  have W1 := W.new (o := .lst (cutV (xs.map V.str) none (some ((i : Nat) : Int)))) n1
  have e1 := k1 _ _ qa e
  have f1 : (upd H s1 (.lst (cutV (xs.map V.str) none (some ((i : Nat) : Int))))) s1 = some (.lst (z1.map V.str)) := by rw [upd_same, ez1]
  generalize upd H s1 (.lst (cutV (xs.map V.str) none (some ((i : Nat) : Int)))) = H1 at k1 W1 e1 f1
  have a1 : s1 ≠ a := W1.at'.elim fun n h => ne_of f1 h.2 (by intro z; cases z)
  refine hte _ _ k1 W1 fun y H2 k2 W2 hy => ?_
  replace e1 := k2 _ _ qa e1
  replace f1 := k2 _ _ a1 f1
  refine ⟨line200 (show 1 ≤ 1000 by decide), fun p3 n3 => ?_⟩
  have k3 := Kp.new (a := a) (o := .lst [V.str y]) n3
  have W3 := W2.new (o := .lst [V.str y]) n3
  have a3 := W2.fresh n3
  have f3 : (upd H2 p3 (.lst [V.str y])) p3 = some (.lst [V.str y]) := upd_same
  replace e1 := k3 _ _ qa e1
  replace f1 := k3 _ _ a1 f1
  generalize upd H2 p3 (.lst [V.str y]) = H3 at k3 W3 f3 e1 f1
  refine ⟨s1, p3, _, _, rfl, rfl, f1, f3, line200 (by rw [List.length_map]; show _ + 1 ≤ 1000; omega), fun p4 n4 => ?_⟩
  have k4 := Kp.new (a := a) (o := .lst (z1.map V.str ++ [V.str y])) n4
  have W4 := W3.new (o := .lst (z1.map V.str ++ [V.str y])) n4
  have a4 := W3.fresh n4
  have f4 : (upd H3 p4 (.lst (z1.map V.str ++ [V.str y]))) p4 = some (.lst ((z1 ++ [y]).map V.str)) := by rw [upd_same, List.map_append]; rfl
  replace e1 := k4 _ _ qa e1
  generalize upd H3 p4 (.lst (z1.map V.str ++ [V.str y])) = H4 at k4 W4 f4 e1
  refine ⟨_, hv, hB _ _ ⟨_, rfl, q, _, rfl, SqL.of e1, fun s2 n2 => ?_⟩⟩
  have k5 := Kp.new (a := a) (o := .lst (cutV (xs.map V.str) (some ((j : Nat) : Int)) none)) n2
  have W5 := W4.new (o := .lst (cutV (xs.map V.str) (some ((j : Nat) : Int)) none)) n2
  have f2 : (upd H4 s2 (.lst (cutV (xs.map V.str) (some ((j : Nat) : Int)) none))) s2 = some (.lst (z2.map V.str)) := by rw [upd_same, ez2]
  replace f4 := k5 _ _ a4 f4
  generalize upd H4 s2 (.lst (cutV (xs.map V.str) (some ((j : Nat) : Int)) none)) = H5 at k5 W5 f2 f4
  refine ⟨p4, s2, _, _, rfl, rfl, f4, f2, line200 (by rw [List.length_map, List.length_map, List.length_append]; show _ + 1 + _ ≤ 1000; omega), fun p np => ?_⟩
  refine hq _ p ((z1 ++ [y]) ++ z2) (((((k1.trans k2).trans k3).trans k4).trans k5).trans (Kp.new np)) (W5.new np) (by rw [upd_same]; simp only [List.map_append]) (W5.fresh np) (fun x hx2 => ?_) (by rw [List.length_append, List.length_append]; show _ + 1 + _ ≤ _; omega)
  rcases List.mem_append.mp hx2 with z | z
  · rcases List.mem_append.mp z with z | z
    · exact hx x (m1 x z)
    · rw [List.mem_singleton.mp z]
      exact hy
  · exact hx x (m2 x z)
theorem text_bound {xs : List Str} (hl : xs.length ≤ 900) (hx : ∀ x ∈ xs, x.length ≤ 10000) : ((xs.map fun x => x ++ nlS).map (·.length)).sum + (xs.map fun x => x ++ nlS).length * (Str.ofString "").length ≤ 16777216 := by
  have h1 := len_sum (xs := xs.map fun x => x ++ nlS) (b := 10001) fun y hy => by
    obtain ⟨x, h, rfl⟩ := List.mem_map.mp hy
    rw [app_len]
    have : nlS.length = 1 := by decide +kernel
    have := hx x h
    omega
  rw [List.length_map] at h1 ⊢
  have h0 : (Str.ofString "").length = 0 := by decide +kernel
  rw [h0, Nat.mul_zero, Nat.add_zero]
  have h2 : xs.length * 10001 ≤ 900 * 10001 := Nat.mul_le_mul_right _ hl
  omega
theorem text_lc {σ : L2.St} {H : Hp} {j : Nat} {q D : Addr} {xs : List Str} {vs : List Nat} {Qd : Hp → Prop} (e : H q = some (.lst (xs.map V.str))) (hl : xs.length ≤ 900) (hx : ∀ x ∈ xs, x.length ≤ 10000) (nD : H D = none)
    (hj : ∀ v, ((wipe σ vs).set j (some v))[j]? = some (some v) ∧ wipe ((wipe σ vs).set j (some v)) vs = wipe σ vs) (hd : ∀ H', Same H H' → H' D = some (.lst ((xs.map fun x => x ++ nlS).map V.str)) → Qd H') :
    ∃ W : Nat → Nat → Hp → Prop, (∃ m, W 0 m (upd H D (.lst []))) ∧ ∀ i m H, W i m H →
      ((Itl K q).stop i H ∧ Qd H) ∨ ((Itl K q).go i H ∧ ∃ Nx : Hp → Prop, (∀ H', Nx H' → ∃ m', m' < m ∧ W (i + 1) m' H') ∧ ∀ x H', (Itl K q).yld i H x H' → gName j x (wipe σ vs) H' fun σ2 H2 => wipe σ2 vs = wipe σ vs ∧ tYes σ2 H2 fun b H3 =>
        if b = true then (tOp rAddStr (tVar j) (tC (.str "\n"))) σ2 H3 fun y H4 => ∃ acc, H4 D = some (.lst acc) ∧ acc.length < sizeLine ∧ Nx (upd H4 D (.lst (acc ++ [y]))) else Nx H3) := by
  refine lc_listD ((xs.map fun x => x ++ nlS).map .str) (noLs_strs _) (by rw [List.length_map, List.length_map, List.length_map]) (by rw [List.length_map]; omega) (SqL.of e) nD (fun i x d H2 Q2 hxi hdi sm q2 => ?_) (fun H2 acc sm e2 dp => ?_)
  · rw [List.getElem?_map, List.getElem?_map] at hdi
    obtain ⟨s, es, rfl⟩ := Option.map_eq_some_iff.mp hdi
    obtain ⟨z, ez, rfl⟩ := Option.map_eq_some_iff.mp es
    rw [List.getElem?_map, ez] at hxi
    cases hxi
    refine ⟨(hj _).2, _, (hj _).1, z, nlS, rfl, rfl, ?_, q2 _ _ (fun _ _ e => e) (.str _)⟩
    have h1 := hx z (List.mem_of_getElem? ez)
    have : nlS.length = 1 := by decide +kernel
    rw [this, sizeLine_eq]
    omega
  · have ea := strs_dps dp
    subst ea
    exact hd _ sm e2
end
end C1

/-! Numbers of texts, by the program. -/
namespace C1
open PySem PySem.Spec PyProof.Rows L2 SX
open K0 (Cs digs isNum)
abbrev sPowerOfTen : Stmt := topS 6
abbrev sNumberOf : Stmt := topS 4
theorem scPowerOfTen : FnScope ["many"] ["many"] (defScope sPowerOfTen) := ⟨rfl, rfl, rfl, by decide +kernel, rfl, by decide +kernel, by decide +kernel⟩
theorem scNumberOf : FnScope ["text", "worth", "at", "part"] ["text"] (defScope sNumberOf) := ⟨rfl, rfl, rfl, by decide +kernel, rfl, by decide +kernel, by decide +kernel⟩
theorem rg_one {n : Nat} (h1 : 1 ≤ n) (h2 : n ≤ 600) : RgC 0 ((n : Nat) : Int) 1000 1 := by
  have e : Builtin.Range.rangeSize 0 ((n : Nat) : Int) 1000 = 1 := by
    unfold Builtin.Range.rangeSize
    rw [if_pos (by decide), if_pos (by omega)]
    omega
  refine ⟨by decide, by decide, ?_, e⟩
  unfold Builtin.Range.small
  rw [e]
  have fit : ∀ k : Nat, k ≤ 2000 → Builtin.Range.rangeFitsLong ((k : Nat) : Int) = true := fun k hk => by
    unfold Builtin.Range.rangeFitsLong
    rw [Bool.and_eq_true]
    exact ⟨decide_eq_true (by omega), decide_eq_true (by omega)⟩
  have f1 := fit n (by omega)
  have f2 : Builtin.Range.rangeFitsLong (((n : Nat) : Int) + (1000 - 1)) = true := by
    have := fit (n + 999) (by omega)
    rw [show (((n + 999 : Nat)) : Int) = ((n : Nat) : Int) + (1000 - 1) by omega] at this
    exact this
  rw [if_pos (by decide), f1, f2]
  rfl
theorem cut_whole {z : Str} (h : z.length ≤ 1000) : cutS z (some 0) (some 1000) = z := by
  apply TL.ext_tl
  show ((z.cps.toList.drop (HT.sIx z.length 0 (some 0))).take (HT.sIx z.length z.length (some 1000) - HT.sIx z.length 0 (some 0))) = z.cps.toList
  rw [show HT.sIx z.length 0 (some 0) = 0 from HT.sIx_nat z.length 0 0 ▸ (by omega), show HT.sIx z.length z.length (some 1000) = z.length from HT.sIx_nat z.length z.length 1000 ▸ (by omega), List.drop_zero, Nat.sub_zero]
  exact List.take_of_length_le (by rw [Array.length_toList]; exact Nat.le_refl _)
theorem ten_val (n : Nat) : NumText.digitsVal (49 :: List.replicate n 48) = 10 ^ n := by
  have key : ∀ (n a : Nat), (List.replicate n 48).foldl (fun acc c => acc * 10 + (c - 48)) a = a * 10 ^ n := fun n => by
    induction n with
    | zero =>
      intro a
      rw [Nat.pow_zero, Nat.mul_one]
      rfl
    | succ n ih =>
      intro a
      rw [List.replicate_succ, List.foldl_cons, ih, Nat.pow_succ, Nat.mul_comm (10 ^ n) 10, ← Nat.mul_assoc]
      rfl
  show (List.replicate n 48).foldl (fun acc c => acc * 10 + (c - 48)) 1 = _
  exact (key n 1).trans (Nat.one_mul _)
theorem ten_text {n : Nat} (h : n ≤ 600) : intText? (Str.ofString "1" ++ Txt.mul (Str.ofString "0") ((n : Nat) : Int)) = some (((10 ^ n : Nat)) : Int) ∧ (Str.ofString "1" ++ Txt.mul (Str.ofString "0") ((n : Nat) : Int)).length = n + 1 := by
  have e : (Str.ofString "1" ++ Txt.mul (Str.ofString "0") ((n : Nat) : Int)).cps.toList = 49 :: List.replicate n 48 := by
    rw [app_cs, show Str.ofString "0" = (⟨#[48]⟩ : Str) from rfl, RuS.mul_one]
    rfl
  have e2 : Str.ofString "1" ++ Txt.mul (Str.ofString "0") ((n : Nat) : Int) = S (49 :: List.replicate n 48) := TL.ext_tl (by
    show (Str.ofString "1" ++ Txt.mul (Str.ofString "0") ((n : Nat) : Int)).cps.toList = _
    rw [e])
  refine ⟨?_, ?_⟩
  · have hi := int_S (a := 49 :: List.replicate n 48) (List.all_eq_true.mpr fun c hc => by
      rcases List.mem_cons.mp hc with z | z
      · rw [z]
        rfl
      · rw [(List.mem_replicate.mp z).2]
        rfl) (by simp) (by rw [List.length_cons, List.length_replicate]; omega)
    rw [e2, hi, ten_val]
  · show (Str.ofString "1" ++ Txt.mul (Str.ofString "0") ((n : Nat) : Int)).cps.size = n + 1
    rw [← Array.length_toList, e, List.length_cons, List.length_replicate]
section
variable {P : Program} {w : World} {K : PySem.W.Frag} {mg : Str → Option Value} {base : Heap} {T : Addr}
structure BN (mg : Str → Option Value) : Prop where
  len : mg "len" = none
  int : mg "int" = none
  range : mg "range" = none
def spTen : Sp := fun vs H Q _ => ∃ n : Nat, vs = [iV n] ∧ n ≤ 600 ∧ Q (.int (((10 ^ n : Nat)) : Int)) H
theorem ok_ten {f : Addr} {fd : FuncData} (F : Fun K "power_of_ten" "power_of_ten" sPowerOfTen f fd) (B : BN mg) : FnOk P w K mg base CX0 1 f fd ["many"] spTen := by
  refine F.ok scPowerOfTen (fun vs H Q E h => ?_) (fun cdv A outer s H vs Q E hr h => ?_)
  · obtain ⟨n, rfl, _⟩ := h
    rfl
  · obtain ⟨n, rfl, hn, q⟩ := h
    have nd := scPowerOfTen.nd
    refine ⟨_, (pss_one (ps_ret (pe_callTy call_int_str (by rfl) B.int (by decide +kernel) (pa_cons (pe_op op_add_str (pe_str) (pe_op RuS.op_repS (pe_str) (pv 0))) pa_nil)))), ?_⟩
    obtain ⟨e1, e2⟩ := ten_text hn
    have e3 : (Str.ofString "1").length = 1 := rfl
    refine ⟨_, rfl, Str.ofString "0", _, rfl, rfl, RuS.mul_ok (by omega), _, _, rfl, rfl, ?_, _, _, rfl, e1, by omega, q⟩
    rw [app_len] at e2
    rw [e2, sizeLine_eq]
    omega
def spNof : Sp := fun vs H Q _ => ∃ x : Str, vs = [.str x] ∧ numB x = true ∧ x.cps.size ≤ 600 ∧ Q (iV (numV x)) H
theorem ok_nof {f fW : Addr} {fd fdW : FuncData} {tk : Tok} (F : Fun K "number_of" "number_of" sNumberOf f fd) (B : BN mg) (gA : mg "AT_ONCE" = some (.int 1000 tk))
    (GW : FnOk P w K mg base CX0 1 fW fdW ["many"] spTen) (kW : PySem.W.keepIn K (.ref fW) = true) (bW : Binds K fdW ["many"] []) (gW : mg "power_of_ten" = some (.ref fW)) : FnOk P w K mg base CX0 2 f fd ["text"] spNof := by
  refine F.ok scNumberOf (fun vs H Q E h => ?_) (fun cdv A outer s H vs Q E hr h => ?_)
  · obtain ⟨x, rfl, _⟩ := h
    rfl
  · obtain ⟨x, rfl, hx, hz, q⟩ := h
    have nd := scNumberOf.nd
    refine ⟨_, (pss_cons (ps_set (i := 1) nd rfl (.inl rfl) (pe_int))
      (C8.pss_cut (ps_for PassesOwn.never rfl (pi_range3 (by rfl) B.range (pa_cons (pe_int) (pa_cons (pe_callB call_len_str (by rfl) B.len PySem.boot_len (pa_cons (pv 0) pa_nil)) (pa_cons (pe_glob (v := .int 1000) (by rfl) gA ⟨_, rfl⟩) pa_nil)))) (pg_name (i := 2) nd rfl (.inl rfl)) (pss_cons (ps_set (i := 3) nd rfl (.inl rfl) (pe_slice sl_str (pv 0) (po_some (pv 2)) (po_some (pe_op op_add (pv 2) (pe_glob (v := .int 1000) (by rfl) gA ⟨_, rfl⟩)))))
      (pss_one (ps_set (i := 1) nd rfl (.inl rfl) (pe_op op_add (pe_op op_mul (pv 1) (pe_call GW hr (by rfl) gW kW bW .nil pass0 (pa_cons (pe_callB call_len_str (by rfl) B.len PySem.boot_len (pa_cons (pv 3) pa_nil)) pa_nil))) (pe_callTy call_int_str (by rfl) B.int (by decide +kernel) (pa_cons (pv 3) pa_nil)))))))
      (pss_one (ps_ret (pv 1))))), ?_⟩
    have h1 : 1 ≤ x.cps.size := by
      have := (isNum_all hx).1
      rw [← Array.length_toList]
      exact List.length_pos_iff.mpr this
    obtain ⟨e1, e2⟩ := num_int hx (by show x.cps.toList.length ≤ 600; rw [Array.length_toList]; exact hz)
    have ls : x.length ≤ sizeLine := by
      show x.cps.size ≤ _
      rw [sizeLine_eq]
      omega
    refine ⟨fun σ H' => H' = H ∧ ∃ y2 y3, σ = [some (.str x), some (iV (numV x)), y2, y3], ?_, ?_⟩
    · refine ⟨_, rfl, _, rfl, ls, 0, _, 1000, 1, rfl, rg_one (n := x.length) h1 hz, ?_⟩
      refine for_rangeC (lo := 0) (c := 1000) (n := 1) (fun i σ H' => H' = H ∧ ∃ y2 y3, σ = [some (.str x), some (if i = 0 then .int 0 else iV (numV x)), y2, y3]) ⟨rfl, none, none, rfl⟩ (fun i σ H' hi h => ?_) (fun σ H' h => ?_)
      · obtain ⟨rfl, y2, y3, rfl⟩ := h
        obtain rfl : i = 0 := by omega
        refine ⟨_, rfl, _, rfl, _, rfl, _, rfl, _, _, rfl, rfl, _, rfl, x, rfl, ls, ?_⟩
        rw [show ((0 : Int) + ((0 : Nat) : Int) * 1000) = 0 from rfl, show ((0 : Int) + 1000) = 1000 from rfl, cut_whole (z := x) (by show x.cps.size ≤ 1000; omega)]
        refine ⟨_, rfl, _, rfl, _, rfl, ls, x.length, rfl, hz, _, _, rfl, rfl, .inl ⟨by decide, by decide⟩, _, rfl, x, _, rfl, e1, e2, _, _, rfl, rfl, rfl, some (.int 0), some (.str x), ?_⟩
        show [some (V.str x), some (V.int (0 * ((10 ^ x.length : Nat) : Int) + ((numV x : Nat) : Int))), some (V.int 0), some (V.str x)] = _
        rw [Int.zero_mul, Int.zero_add]
        rfl
      · obtain ⟨rfl, y2, y3, rfl⟩ := h
        exact ⟨rfl, y2, y3, rfl⟩
    rintro σ H' ⟨rfl, y2, y3, rfl⟩
    exact ⟨_, rfl, q⟩
end
end C1

/-! Texts whose lines are short, also when signs are changed. -/
namespace C1
open PySem PySem.Spec PyProof.Rows L2 SX
open K0 (Cs digs isNum)
/-- the first line has at most k signs, the others at most b -/
def RL (b : Nat) : Nat → List Nat → Prop
  | _, [] => True
  | k, c :: r => if c = 10 then RL b b r else 1 ≤ k ∧ RL b (k - 1) r
theorem RL.mono {b b' : Nat} (hb : b ≤ b') : ∀ {l : List Nat} {k k' : Nat}, RL b k l → k ≤ k' → RL b' k' l
  | [], _, _, _, _ => trivial
  | c :: r, k, k', h, hk => by
    show if c = 10 then RL b' b' r else 1 ≤ k' ∧ RL b' (k' - 1) r
    have h' : if c = 10 then RL b b r else 1 ≤ k ∧ RL b (k - 1) r := h
    by_cases e : c = 10
    · rw [if_pos e] at h' ⊢
      exact RL.mono hb h' hb
    · rw [if_neg e] at h' ⊢
      exact ⟨by omega, RL.mono hb h'.2 (by omega)⟩
theorem RL.app {a b : Nat} : ∀ {u v : List Nat} {k : Nat}, RL a k u → RL b b v → RL (a + b) (k + b) (u ++ v)
  | [], v, k, _, h => RL.mono (by omega) h (by omega)
  | c :: r, v, k, hu, hv => by
    show if c = 10 then RL (a + b) (a + b) (r ++ v) else 1 ≤ k + b ∧ RL (a + b) (k + b - 1) (r ++ v)
    have h' : if c = 10 then RL a a r else 1 ≤ k ∧ RL a (k - 1) r := hu
    by_cases e : c = 10
    · rw [if_pos e] at h' ⊢
      exact RL.app h' hv
    · rw [if_neg e] at h' ⊢
      refine ⟨by omega, ?_⟩
      rw [show k + b - 1 = (k - 1) + b by omega]
      exact RL.app h'.2 hv
theorem RL.take {b : Nat} : ∀ {l : List Nat} {k n : Nat}, RL b k l → RL b k (l.take n)
  | [], _, _, _ => by
    rw [List.take_nil]
    trivial
  | c :: r, k, 0, _ => trivial
  | c :: r, k, n + 1, h => by
    show if c = 10 then RL b b (r.take n) else 1 ≤ k ∧ RL b (k - 1) (r.take n)
    have h' : if c = 10 then RL b b r else 1 ≤ k ∧ RL b (k - 1) r := h
    by_cases e : c = 10
    · rw [if_pos e] at h' ⊢
      exact RL.take h'
    · rw [if_neg e] at h' ⊢
      exact ⟨h'.1, RL.take h'.2⟩
theorem RL.drop {b : Nat} : ∀ {l : List Nat} {k n : Nat}, RL b k l → k ≤ b → RL b b (l.drop n)
  | [], _, _, _, _ => by
    rw [List.drop_nil]
    trivial
  | c :: r, k, 0, h, hk => RL.mono (Nat.le_refl b) h hk
  | c :: r, k, n + 1, h, hk => by
    show RL b b (r.drop n)
    have h' : if c = 10 then RL b b r else 1 ≤ k ∧ RL b (k - 1) r := h
    by_cases e : c = 10
    · rw [if_pos e] at h'
      exact RL.drop h' (Nat.le_refl b)
    · rw [if_neg e] at h'
      exact RL.drop h'.2 (by omega)
theorem RL.line {b : Nat} : ∀ {p rest : List Nat} {k : Nat}, p.length ≤ k → 10 ∉ p → RL b b rest → RL b k (p ++ 10 :: rest)
  | [], rest, k, _, _, h => by
    show if 10 = 10 then RL b b rest else _
    rw [if_pos rfl]
    exact h
  | c :: r, rest, k, hl, hn, h => by
    have hc : c ≠ 10 := fun e => hn (by rw [e]; exact List.mem_cons_self ..)
    rw [List.length_cons] at hl
    show if c = 10 then _ else 1 ≤ k ∧ RL b (k - 1) (r ++ 10 :: rest)
    rw [if_neg hc]
    exact ⟨by omega, RL.line (by omega) (fun z => hn (List.mem_cons_of_mem _ z)) h⟩
theorem RL.one {b : Nat} : ∀ {p : List Nat} {k : Nat}, p.length ≤ k → 10 ∉ p → RL b k p
  | [], _, _, _ => trivial
  | c :: r, k, hl, hn => by
    have hc : c ≠ 10 := fun e => hn (by rw [e]; exact List.mem_cons_self ..)
    rw [List.length_cons] at hl
    show if c = 10 then _ else 1 ≤ k ∧ RL b (k - 1) r
    rw [if_neg hc]
    exact ⟨by omega, RL.one (by omega) (fun z => hn (List.mem_cons_of_mem _ z))⟩
theorem RL.join {b : Nat} : ∀ {ps : List (List Nat)}, (∀ p ∈ ps, p.length ≤ b ∧ 10 ∉ p) → RL b b (TL.joinL [10] ps)
  | [], _ => trivial
  | [p], h => RL.one (h p (List.mem_singleton.mpr rfl)).1 (h p (List.mem_singleton.mpr rfl)).2
  | p :: q :: r, h => RL.line (h p (List.mem_cons_self ..)).1 (h p (List.mem_cons_self ..)).2 (RL.join fun x hx => h x (List.mem_cons_of_mem _ hx))
theorem RL.line_len {b : Nat} : ∀ {p rest : List Nat} {k : Nat}, RL b k (p ++ 10 :: rest) → 10 ∉ p → p.length ≤ k ∧ RL b b rest
  | [], rest, k, h, _ => by
    have h' : if 10 = 10 then RL b b rest else 1 ≤ k ∧ RL b (k - 1) rest := h
    rw [if_pos rfl] at h'
    exact ⟨Nat.zero_le _, h'⟩
  | c :: r, rest, k, h, hn => by
    have hc : c ≠ 10 := fun e => hn (by rw [e]; exact List.mem_cons_self ..)
    have h' : if c = 10 then RL b b (r ++ 10 :: rest) else 1 ≤ k ∧ RL b (k - 1) (r ++ 10 :: rest) := h
    rw [if_neg hc] at h'
    obtain ⟨a1, a2⟩ := RL.line_len h'.2 (fun z => hn (List.mem_cons_of_mem _ z))
    exact ⟨by rw [List.length_cons]; have := h'.1; omega, a2⟩
theorem RL.one_len {b : Nat} : ∀ {p : List Nat} {k : Nat}, RL b k p → 10 ∉ p → p.length ≤ k
  | [], _, _, _ => Nat.zero_le _
  | c :: r, k, h, hn => by
    have hc : c ≠ 10 := fun e => hn (by rw [e]; exact List.mem_cons_self ..)
    have h' : if c = 10 then RL b b r else 1 ≤ k ∧ RL b (k - 1) r := h
    rw [if_neg hc] at h'
    have := RL.one_len h'.2 (fun z => hn (List.mem_cons_of_mem _ z))
    rw [List.length_cons]
    have := h'.1
    omega
theorem RL.lines {b : Nat} : ∀ {ps : List (List Nat)}, RL b b (TL.joinL [10] ps) → (∀ p ∈ ps, 10 ∉ p) → ∀ p ∈ ps, p.length ≤ b
  | [], _, _, p, hp => by cases hp
  | [q], h, hn, p, hp => by
    rw [List.mem_singleton.mp hp]
    exact RL.one_len h (hn q (List.mem_singleton.mpr rfl))
  | q :: q2 :: r, h, hn, p, hp => by
    obtain ⟨a1, a2⟩ := RL.line_len (p := q) (rest := TL.joinL [10] (q2 :: r)) h (hn q (List.mem_cons_self ..))
    rcases List.mem_cons.mp hp with z | z
    · rw [z]
      exact a1
    · exact RL.lines a2 (fun x hx => hn x (List.mem_cons_of_mem _ hx)) p z
theorem count_join : ∀ {ps : List (List Nat)}, ps ≠ [] → (∀ p ∈ ps, 10 ∉ p) → (TL.joinL [10] ps).count 10 + 1 = ps.length
  | [], h, _ => absurd rfl h
  | [p], _, hn => by
    show p.count 10 + 1 = 1
    rw [List.count_eq_zero.mpr (hn p (List.mem_singleton.mpr rfl))]
  | p :: q :: r, _, hn => by
    have ih := count_join (ps := q :: r) (by simp) fun x hx => hn x (List.mem_cons_of_mem _ hx)
    show (p ++ (10 :: TL.joinL [10] (q :: r))).count 10 + 1 = (q :: r).length + 1
    rw [List.count_append, List.count_eq_zero.mpr (hn p (List.mem_cons_self ..)), List.count_cons_self]
    omega
/-- a text of at most n lines of at most b signs -/
structure TxL (b n : Nat) (x : Str) : Prop where
  run : RL b b (cs x)
  as : ∀ c ∈ cs x, c < 128
  nl : (cs x).count 10 + 1 ≤ n
theorem split_back (x : Str) : Txt.join nlS (splitL x) = x := by
  rw [TL.join_eq]
  exact PySem.StrLaws.join_split x nlS
theorem split_cs (x : Str) : cs x = TL.joinL [10] ((splitL x).map fun p => p.cps.toList) := by
  have := congrArg (fun s : Str => s.cps.toList) (split_back x)
  simp only [cs_join] at this
  exact this.symm
theorem TxL.lines {b n : Nat} {x : Str} (h : TxL b n x) : (splitL x).length ≤ n ∧ ∀ y ∈ splitL x, LnB b y := by
  have hn : ∀ p ∈ (splitL x).map fun p => p.cps.toList, 10 ∉ p := fun p hp => by
    obtain ⟨y, hy, rfl⟩ := List.mem_map.mp hp
    exact nl_free hy
  have hr := h.run
  have hc := h.nl
  rw [split_cs x] at hr hc
  have ne : (splitL x).map (fun p => p.cps.toList) ≠ [] := fun z => by
    have := split_pos x
    have z2 := List.map_eq_nil_iff.mp z
    rw [z2] at this
    cases this
  refine ⟨?_, fun y hy => ⟨?_, fun c hc => h.as c (part_mem hy hc), nl_free hy⟩⟩
  · have := count_join ne hn
    rw [List.length_map] at this
    omega
  · have := RL.lines hr hn y.cps.toList (List.mem_map.mpr ⟨y, hy, rfl⟩)
    rw [Array.length_toList] at this
    exact this
theorem TxL.size {b n : Nat} {x : Str} (h : TxL b n x) : x.cps.size ≤ n * (b + 1) := by
  obtain ⟨h1, h2⟩ := h.lines
  have := join_size (y := nlS) (ps := splitL x) (b := b) fun p hp => (h2 p hp).sz
  rw [split_back] at this
  have e : nlS.cps.size = 1 := rfl
  rw [e] at this
  exact Nat.le_trans this (Nat.mul_le_mul_right _ h1)
theorem txl_join {xs : List Str} {b n : Nat} (hne : xs ≠ []) (h : ∀ y ∈ xs, LnB b y) (hl : xs.length ≤ n) : TxL b n (Txt.join nlS xs) := by
  have hn : ∀ p ∈ xs.map fun p => p.cps.toList, p.length ≤ b ∧ 10 ∉ p := fun p hp => by
    obtain ⟨y, hy, rfl⟩ := List.mem_map.mp hp
    exact ⟨by rw [Array.length_toList]; exact (h y hy).sz, (h y hy).nl⟩
  have e : cs (Txt.join nlS xs) = TL.joinL [10] (xs.map fun p => p.cps.toList) := cs_join nlS xs
  refine ⟨?_, fun c hc => ?_, ?_⟩
  · rw [e]
    exact RL.join hn
  · rcases join_mem hc with z | ⟨p, hp, z⟩
    · rw [List.mem_singleton.mp (show c ∈ [10] from z)]
      decide
    · exact (h p hp).as c z
  · rw [e]
    have := count_join (ps := xs.map fun p => p.cps.toList) (fun z => hne (List.map_eq_nil_iff.mp z)) fun p hp => (hn p hp).2
    rw [List.length_map] at this
    omega
theorem txl_text {xs : List Str} {b n : Nat} (h : ∀ y ∈ xs, LnB b y) (hl : xs.length + 1 ≤ n) : TxL b n (textL xs) := by
  rw [text_eq]
  refine txl_join (by simp) (fun y hy => ?_) (by rw [List.length_append]; exact hl)
  rcases List.mem_append.mp hy with z | z
  · exact h y z
  · rw [List.mem_singleton.mp z]
    exact ln_nil.up (Nat.zero_le _)
theorem TxL.up {b n b' n' : Nat} {x : Str} (h : TxL b n x) (hb : b ≤ b') (hn : n ≤ n') : TxL b' n' x := ⟨RL.mono hb h.run hb, h.as, Nat.le_trans h.nl hn⟩
/-- signs left out, put in, or both -/
theorem TxL.edit {b n : Nat} {x y : Str} (h : TxL b n x) {i j : Nat} {m : List Nat} (hm : m.length ≤ 1) (ha : ∀ c ∈ m, c < 128) (e : cs y = (cs x).take i ++ (m ++ (cs x).drop j)) (hij : i ≤ j) : TxL (2 * b + 1) (n + 1) y := by
  have hr : RL 1 1 m := by
    match m, hm with
    | [], _ => trivial
    | [c], _ =>
      show if c = 10 then RL 1 1 [] else 1 ≤ 1 ∧ RL 1 0 []
      split
      · trivial
      · exact ⟨Nat.le_refl 1, trivial⟩
  refine ⟨?_, fun c hc => ?_, ?_⟩
  · rw [e]
    have := RL.app (RL.take (n := i) h.run) (RL.app hr (RL.drop (n := j) h.run (Nat.le_refl b)))
    exact RL.mono (by omega) this (by omega)
  · rw [e] at hc
    rcases List.mem_append.mp hc with z | z
    · exact h.as c (List.mem_of_mem_take z)
    · rcases List.mem_append.mp z with z | z
      · exact ha c z
      · exact h.as c (List.mem_of_mem_drop z)
  · rw [e, List.count_append, List.count_append]
    have h1 : m.count 10 ≤ 1 := Nat.le_trans List.count_le_length hm
    have h2 : ((cs x).take i).count 10 + ((cs x).drop j).count 10 ≤ (cs x).count 10 := by
      have h3 : ((cs x).drop j).count 10 ≤ ((cs x).drop i).count 10 := by
        rw [show j = i + (j - i) by omega, ← List.drop_drop]
        exact (List.drop_sublist _ _).count_le _
      have h4 : ((cs x).take i).count 10 + ((cs x).drop i).count 10 = (cs x).count 10 := by
        rw [← List.count_append, List.take_append_drop]
      omega
    have := h.nl
    omega
end C1

/-! The numbers of a line, by the program and by the law. -/
namespace C1
open PySem PySem.Spec PyProof.Rows L2 SX
open K0 (Cs digs isNum)
open GxR (TabG Tabbed TabB GenS)
abbrev NLI : List Str := ["line", "word", "many", "first", "parts", "part"]
abbrev NLU : List Str := ["line", "word", "many", "parts", "part", "sign"]
abbrev rNotInSign : R2 := fun x y H Q => ∃ (c : Nat) (z : Str), x = .str ⟨#[c]⟩ ∧ y = .str z ∧ Q (.bl (!decide (c ∈ z.cps.toList))) H
abbrev sgn (c : Nat) : V := .str ⟨#[c]⟩
abbrev sgD (c : Nat) : PyData := .str ⟨#[c]⟩
def asc (x : Str) : Prop := ∀ c ∈ cs x, c < 128
section
variable {P : Program} {w : World} {K : PySem.W.Frag} {mg : Str → Option Value} {base : Heap} {T : Addr} {H : Hp}
theorem lc_strF {x : Str} {pb : Nat → Bool} {D : Addr} {σ : L2.St} {wv : List Nat} {j : Nat} {tt : TT} {Qd : Hp → Prop} (hz : x.cps.size ≤ 100000)
    (ht : ∀ c H1 (R : Bool → Hp → Prop), R (pb c) H1 → tt ((wipe σ wv).set j (some (sgn c))) H1 R)
    (hσ : ∀ v, ((wipe σ wv).set j (some v))[j]? = some (some v) ∧ wipe ((wipe σ wv).set j (some v)) wv = wipe σ wv) (q : Qd (upd H D (.lst (((cs x).filter pb).map sgn)))) :
    ∃ W : Nat → Nat → Hp → Prop, (∃ m, W 0 m (upd H D (.lst []))) ∧ ∀ i m H, W i m H →
      ((Its x).stop i H ∧ Qd H) ∨ ((Its x).go i H ∧ ∃ Nx : Hp → Prop, (∀ H', Nx H' → ∃ m', m' < m ∧ W (i + 1) m' H') ∧ ∀ v H', (Its x).yld i H v H' → gName j v (wipe σ wv) H' fun σ2 H2 => wipe σ2 wv = wipe σ wv ∧ tt σ2 H2 fun b H3 =>
        if b = true then tVar j σ2 H3 fun y H4 => ∃ acc, H4 D = some (.lst acc) ∧ acc.length < sizeLine ∧ Nx (upd H4 D (.lst (acc ++ [y]))) else Nx H3) := by
  refine ⟨fun i m H1 => m = x.cps.size - i ∧ i ≤ x.cps.size ∧ H1 = upd H D (.lst ((((cs x).take i).filter pb).map sgn)), ⟨_, rfl, Nat.zero_le _, rfl⟩, ?_⟩
  rintro i m H1 ⟨rfl, hi, rfl⟩
  by_cases hlt : i < x.cps.size
  · refine .inr ⟨hlt, fun H2 => H2 = upd H D (.lst ((((cs x).take (i + 1)).filter pb).map sgn)), fun H' h => ⟨x.cps.size - (i + 1), by omega, rfl, by omega, h⟩, fun v H' y => ?_⟩
    obtain ⟨rfl, c, hc, rfl⟩ := y
    have ec : (cs x)[i]? = some c := by
      show x.cps.toList[i]? = some c
      rw [Array.getElem?_toList]
      exact hc
    refine ⟨(hσ _).2, ht c _ _ ?_⟩
    cases hb : pb c with
    | false =>
      show _ = _
      rw [take_snoc ec, List.filter_append, List.filter_cons_of_neg (by rw [hb]; decide), List.filter_nil, List.append_nil]
    | true =>
      refine ⟨_, (hσ _).1, _, upd_same, ?_, ?_⟩
      · rw [List.length_map, sizeLine_eq]
        have h1 := List.length_filter_le pb ((cs x).take i)
        rw [List.length_take] at h1
        omega
      · rw [upd_upd, take_snoc ec, List.filter_append, List.filter_cons_of_pos hb, List.filter_nil, List.map_append]
        rfl
  · have e : i = x.cps.size := by omega
    subst e
    refine .inl ⟨Nat.le_refl _, ?_⟩
    have : (cs x).take x.cps.size = cs x := List.take_of_length_le (by rw [Array.length_toList]; exact Nat.le_refl _)
    rw [this]
    exact q
theorem dps_sgn : ∀ l : List Nat, DpAll K H (l.map sgn) (l.map sgD)
  | [] => .nil
  | c :: l => .cons (.str _) (dps_sgn l)
end
theorem asc_ok {x : Str} (h : asc x) : PyData.canLay0 (.str x) = true := by
  show (x.cps.all fun c => decide (c < 0x110000)) = true
  rw [← Array.all_toList]
  refine List.all_eq_true.mpr fun c hc => decide_eq_true ?_
  have := h c hc
  omega
theorem cut_one (v : V) (l : List V) : cutV (v :: l) (some 1) none = l := by
  unfold cutV
  rw [HT.sIx_none, show HT.sIx (v :: l).length 0 (some 1) = 1 by
    show HT.sIx (l.length + 1) 0 (some ((1 : Nat) : Int)) = 1
    rw [HT.sIx_nat]
    omega]
  exact List.take_of_length_le (Nat.le_refl _)
def lnN (word : Str) (many : Nat) (x : Str) : Option (List Nat) := match spS x with
  | [] => none
  | w :: rest => if w = word ∧ rest.length = many ∧ rest.all numB = true then some (rest.map numV) else none
theorem LnB.parts2 {b : Nat} {y : Str} (h : LnB b y) (hb : b ≤ 600) : (spS y).length ≤ 601 ∧ ∀ z ∈ spS y, LnB b z := by
  have := spS_len y
  have := h.sz
  refine ⟨by omega, fun z hz => ⟨Nat.le_trans (part_size hz) h.sz, fun c hc => h.as c (part_mem hz hc), fun hc => h.nl (part_mem hz hc)⟩⟩
theorem lnN_eq {x w : Str} {rest : List Str} (e : spS x = w :: rest) (word : Str) (many : Nat) : lnN word many x = if w = word ∧ rest.length = many ∧ rest.all numB = true then some (rest.map numV) else none := by
  unfold lnN
  rw [e]
section
variable {P : Program} {w : World} {K : PySem.W.Frag} {mg : Str → Option Value} {base : Heap} {T : Addr}
end
end C1

/-! The line of cycles, the parts of a wave, by the program. -/
namespace C1
open PySem PySem.Spec PyProof.Rows L2 SX
open K0 (Cs digs isNum)
open GxR (TabG Tabbed TabB GenS)
abbrev sNumberText : Stmt := topS 5
abbrev sCyclesTold : Stmt := topS 13
abbrev sWaveValues : Stmt := topS 21
abbrev sWaveParts : Stmt := topS 19
theorem scNumberText : FnScope ["worth", "limit", "found", "low"] ["worth"] (defScope sNumberText) := ⟨rfl, rfl, rfl, by decide +kernel, rfl, by decide +kernel, by decide +kernel⟩
theorem scCyclesTold : FnScope ["line", "word", "_", "number"] ["line"] (defScope sCyclesTold) := ⟨rfl, rfl, rfl, by decide +kernel, rfl, by decide +kernel, by decide +kernel⟩
abbrev NCT : List Str := ["line", "word", "_", "number"]
theorem scWaveValues : FnScope ["found", "worths", "part"] ["found"] (defScope sWaveValues) := ⟨rfl, rfl, rfl, by decide +kernel, rfl, by decide +kernel, by decide +kernel⟩
abbrev NWV : List Str := ["found", "worths", "part"]
theorem scWaveParts : FnScope ["worths", "found", "cycle", "worth", "stays"] ["worths"] (defScope sWaveParts) := ⟨rfl, rfl, rfl, by decide +kernel, rfl, by decide +kernel, by decide +kernel⟩
abbrev NWP : List Str := ["worths", "found", "cycle", "worth", "stays"]
theorem cut_to (xs : List V) (k : Nat) : cutV xs none (some ((k : Nat) : Int)) = xs.take k := by
  unfold cutV
  rw [HT.sIx_none, HT.sIx_nat, Nat.sub_zero, List.drop_zero]
  by_cases h : k ≤ xs.length
  · rw [Nat.min_eq_left h]
  · rw [Nat.min_eq_right (by omega), List.take_length, List.take_of_length_le (by omega)]
theorem cut_hi (xs : List V) (k : Nat) : cutV xs (some ((k : Nat) : Int)) none = xs.drop k := by
  unfold cutV
  rw [HT.sIx_none, HT.sIx_nat]
  by_cases h : k ≤ xs.length
  · rw [Nat.min_eq_left h]
    exact List.take_of_length_le (by rw [List.length_drop]; omega)
  · rw [Nat.min_eq_right (by omega), List.drop_length, List.take_nil, List.drop_of_length_le (by omega)]
theorem grS {H1 H2 : Hp} {T : Addr} (tb : TabG H1 T) (s : Same H1 H2) : Gr T H1 H2 := by
  obtain ⟨ps, e, r⟩ := tb
  exact ⟨⟨ps, s _ _ e, r⟩, fun b o _ e => s b o e⟩
structure BD (mg : Str → Option Value) : Prop where
  enumerate : mg "enumerate" = none
theorem split_sp {xs : List Str} (hne : xs ≠ []) (h : ∀ x ∈ xs, 32 ∉ x.cps.toList) : spS (Txt.join spB xs) = xs := TL.split_join (s := 32) (S := []) rfl (by decide +kernel) hne h
theorem sp_free {x y : Str} (h : y ∈ spS x) : 32 ∉ y.cps.toList := PySem.StrLaws.split_free x 32 y h
theorem num_free {y : Str} (h : numB y = true) : 32 ∉ cs y := fun hc => by
  obtain ⟨_, ha⟩ := isNum_all h
  have := List.all_eq_true.mp ha 32 hc
  exact absurd this (by decide)
theorem join_back (x : Str) : Txt.join spB (spS x) = x := by
  rw [TL.join_eq]
  exact PySem.StrLaws.join_split x spB
/-- the number of cycles that a first line tells -/
def cycN (x : Str) : Option Nat := match spS x with
  | [w, z] => if w = "cycles" ∧ numB z = true then some (numV z) else none
  | _ => none
theorem cycN_part (x : Str) : cycN x = if (Txt.partition x (Str.ofString " ")).1 = "cycles" ∧ numB (Txt.partition x (Str.ofString " ")).2.2 = true then some (numV (Txt.partition x (Str.ofString " ")).2.2) else none := by
  have hb := join_back x
  have hf : ∀ y ∈ spS x, 32 ∉ y.cps.toList := fun y hy => sp_free hy
  have ey : TL.tl (Str.ofString " ") = 32 :: [] := by decide +kernel
  unfold cycN
  generalize e : spS x = ps at hb hf
  match ps with
  | [] => exact absurd e (spS_ne x)
  | [w] =>
    have hw : x = w := by
      rw [← hb]
      rfl
    have := TL.partition_none (y := Str.ofString " ") ey (a := x) (by rw [hw]; exact hf w (List.mem_singleton.mpr rfl))
    rw [this]
    rw [if_neg (fun z => ?_)]
    have h0 : numB Str.empty = false := by decide +kernel
    rw [h0] at z
    cases z.2
  | w :: z :: r =>
    have hx : x = w ++ Str.ofString " " ++ Txt.join spB (z :: r) := by
      rw [← hb]
      apply TL.ext_tl
      show (Txt.join spB (w :: z :: r)).cps.toList = (w ++ Str.ofString " " ++ Txt.join spB (z :: r)).cps.toList
      rw [app_cs, app_cs, cs_join, cs_join]
      show _ ++ (_ ++ _) = _
      rw [List.append_assoc]
      rfl
    have := TL.partition_app (y := Str.ofString " ") ey (a := w) (b := Txt.join spB (z :: r)) (hf w (List.mem_cons_self ..))
    rw [← hx] at this
    rw [this]
    cases r with
    | nil => rfl
    | cons q r =>
      show none = _
      rw [if_neg (fun y => ?_)]
      refine num_free y.2 ?_
      show 32 ∈ (Txt.join spB (z :: q :: r)).cps.toList
      rw [cs_join]
      refine List.mem_append_right _ (List.mem_append_left _ ?_)
      show 32 ∈ spB.cps.toList
      decide +kernel
theorem part3_size (x : Str) : (Txt.partition x (Str.ofString " ")).2.2.length ≤ x.length := by
  have hb := join_back x
  have hf : ∀ y ∈ spS x, 32 ∉ y.cps.toList := fun y hy => sp_free hy
  have ey : TL.tl (Str.ofString " ") = 32 :: [] := by decide +kernel
  generalize e : spS x = ps at hb hf
  match ps with
  | [] => exact absurd e (spS_ne x)
  | [w] =>
    have hw : x = w := by
      rw [← hb]
      rfl
    have := TL.partition_none (y := Str.ofString " ") ey (a := x) (by rw [hw]; exact hf w (List.mem_singleton.mpr rfl))
    rw [this]
    exact Nat.zero_le _
  | w :: z :: r =>
    have hx : x = w ++ Str.ofString " " ++ Txt.join spB (z :: r) := by
      rw [← hb]
      apply TL.ext_tl
      show (Txt.join spB (w :: z :: r)).cps.toList = (w ++ Str.ofString " " ++ Txt.join spB (z :: r)).cps.toList
      rw [app_cs, app_cs, cs_join, cs_join]
      show _ ++ (_ ++ _) = _
      rw [List.append_assoc]
      rfl
    have := TL.partition_app (y := Str.ofString " ") ey (a := w) (b := Txt.join spB (z :: r)) (hf w (List.mem_cons_self ..))
    rw [← hx] at this
    rw [this]
    have h2 := congrArg Str.length hx
    rw [app_len, app_len] at h2
    show (Txt.join spB (z :: r)).length ≤ _
    omega
def wvN : List Nat → List Str → Option (List Nat)
  | acc, [] => some acc
  | acc, p :: ps => if p = "." ∧ acc ≠ [] then wvN (acc ++ [acc.getLastD 0]) ps else if numB p = true then wvN (acc ++ [numV p]) ps else none
def wvPart (ws : List Nat) (i : Nat) : Str := if 0 < i ∧ ws.getD i 0 = ws.getD (i - 1) 0 then Str.ofString "." else pS (iD (ws.getD i 0))
def wvParts (ws : List Nat) : List Str := (List.range ws.length).map (wvPart ws)
theorem range_snoc {β : Type} (f : Nat → β) (i : Nat) : (List.range (i + 1)).map f = (List.range i).map f ++ [f i] := by
  rw [List.range_succ, List.map_append]
  rfl
section
variable {P : Program} {w : World} {K : PySem.W.Frag} {mg : Str → Option Value} {base : Heap} {T : Addr}
theorem for_enL {K : PySem.W.Frag} {a : Addr} {xs : List V} {g : TG} {tb : TS} {D : Ends} {σ : L2.St} {H : Hp} (Rv : Nat → L2.St → Hp → Prop) (h0 : Rv 0 σ H) (hl : ∀ i σ H, i ≤ xs.length → Rv i σ H → SqL K H a xs)
    (hs : ∀ i x T σ H, xs[i]? = some x → Rv i σ H → H T = none → g (.ref T) σ (upd H T (.tup [.int (i : Nat), x])) fun σ2 H2 => tb { D with nx := Rv (i + 1), ct := Rv (i + 1), bk := D.nx } σ2 H2) (hd : ∀ σ H, Rv xs.length σ H → D.nx σ H) :
    ∃ V : Nat → Nat → L2.St → Hp → Prop, (∃ m, V 0 m σ H) ∧ ∀ i m σ H, V i m σ H →
      ((Ite K a).stop i H ∧ D.nx σ H) ∨ ((Ite K a).go i H ∧ ∃ N : L2.St → Hp → Prop, (∀ σ' H', N σ' H' → ∃ m', m' < m ∧ V (i + 1) m' σ' H') ∧ ∀ x H', (Ite K a).yld i H x H' → g x σ H' fun σ2 H2 => tb { D with nx := N, ct := N, bk := D.nx } σ2 H2) := by
  refine ⟨fun i m σ H => m = xs.length - i ∧ i ≤ xs.length ∧ Rv i σ H, ?_, ?_⟩
  · exact ⟨xs.length, rfl, Nat.zero_le _, h0⟩
  rintro i m σ H ⟨rfl, hi, q⟩
  have sq := hl i σ H hi q
  by_cases lt : i < xs.length
  · refine .inr ⟨⟨xs, xs[i], sq, by simp [lt]⟩, Rv (i + 1), fun σ' H' q' => ⟨xs.length - (i + 1), by omega, rfl, lt, q'⟩, fun v H' y => ?_⟩
    obtain ⟨T, x, rfl, nT, rfl, hx⟩ := y
    exact hs i x T σ H (hx xs sq) q nT
  · obtain rfl : i = xs.length := by omega
    exact .inl ⟨⟨xs, sq, Nat.le_refl _⟩, hd σ H q⟩
def spNText : Sp := fun vs H Q _ => ∃ k : Nat, vs = [iV k] ∧ k < 1000000000 ∧ Q (.str (pS (iD k))) H
theorem ok_ntext {f : Addr} {fd : FuncData} {tk : Tok} (F : Fun K "number_text" "number_text" sNumberText f fd) (ms : mg "str" = none) (gA : mg "AT_ONCE" = some (.int 1000 tk)) : FnOk P w K mg base CX0 1 f fd ["worth"] spNText := by
  refine F.ok scNumberText (fun vs H Q E h => ?_) (fun cdv A outer s H vs Q E hr h => ?_)
  · obtain ⟨k, rfl, _⟩ := h
    rfl
  · obtain ⟨k, rfl, hk, q⟩ := h
    have nd := scNumberText.nd
    have hu := hr.units
    refine ⟨_, (pss_cons (ps_if (pt_cmpR op_lt (pe_bits (pv 0)) (pe_glob (v := .int 1000) (by rfl) gA ⟨_, rfl⟩) (nomark _)) (pss_one (ps_ret (pe_callTy call_str_int (by rfl) ms (by decide +kernel) (pa_cons (pv 0) pa_nil)))) pss_nil)
      pss_never), ?_⟩
    have hb : Builtin.Int.intBits ((k : Nat) : Int) ≤ 30 := intBits_le (by rw [Int.natAbs_natCast]; omega)
    refine ⟨_, rfl, _, rfl, _, _, rfl, rfl, _, rfl, iteT' (decide_eq_true (by omega)) ⟨_, rfl, _, rfl, ?_, q⟩⟩
    exact Pl.log (i := ((k : Nat) : Int)) (nat_part hk)
def spCyc (K : PySem.W.Frag) (T C : Addr) : Sp := fun vs H Q E => ∃ x : Str, vs = [.str x] ∧ LnB 600 x ∧ TabG H T ∧
  (∀ n H', Gr T H H' → cycN x = some n → Q (iV n) H') ∧
  (cycN x = none → ∀ H' d, Gr T H H' → H' d = some (.xd (fsL 1)) → E (.ref C) (some d) H')
theorem ok_cyc {f fS fF fI C : Addr} {fd fdS fdF fdI : FuncData} (F : Fun K "cycles_told" "cycles_told" sCyclesTold f fd)
    (GS : FnOk P w K mg base CX0 1 fS fdS ["text"] (spNum T)) (kS : PySem.W.keepIn K (.ref fS) = true) (bS : Binds K fdS ["text"] []) (gS : mg "is_number" = some (.ref fS))
    (GF : FnOk P w K mg base CX0 2 fF fdF ["text"] spNof) (kF : PySem.W.keepIn K (.ref fF) = true) (bF : Binds K fdF ["text"] []) (gF : mg "number_of" = some (.ref fF))
    (R : ErrB K mg C fI) (tI : PySem.W.typeIn K (.ref fI) = some (.type "function")) (GI : FnOk P w K mg base CX0 1 fI fdI ["self", "line"] (spInitB K)) (bI : Binds K fdI ["self", "line"] []) :
    FnOk P w K mg base (L2.CX P w) 3 f fd ["line"] (spCyc K T C) := by
  refine F.okX scCyclesTold (fun vs H Q E h => ?_) (fun cdv A outer s H vs Q E hr h => ?_)
  · obtain ⟨x, rfl, _⟩ := h
    rfl
  · obtain ⟨x, rfl, hx, tb, qs, qe⟩ := h
    have nd := scCyclesTold.nd
    have hr2 : Room 2 _ := hr
    have hr1 : Room 1 _ := hr.mono (by decide)
    have hrI : Room 2 _ := hr2
    refine ⟨_, (pss_cons (ps_asg (pe_partition (pv 0) pe_str) (pg_tup (by rfl) (pgs_cons (pg_name (i := 1) nd rfl (.inl rfl)) (pgs_cons (pg_name (i := 2) nd rfl (.inl rfl)) (pgs_cons (pg_name (i := 3) nd rfl (.inl rfl)) pgs_nil)))))
      (C8.pss_cut (ps_if (PW.pt (pw_or (pt_cmpR op_ne (pv 1) (pe_str) (nomark _)) (pw_or1 (pt_not (pt_val (pe_call GS hr1 (by rfl) gS kS bS .nil pass0 (pa_cons (pv 3) pa_nil))))))) (pss_one (ps_raise rfl (takes_of rfl rfl rfl rfl) (pmk_oex R.o R.iC tI GI hrI bI .nil pass0 (by rfl) R.g (pa_cons (pe_int) pa_nil)))) pss_nil)
      (pss_one (ps_ret (pe_call GF hr2 (by rfl) gF kF bF .nil pass0 (pa_cons (pv 3) pa_nil)))))), ?_⟩
    have hcy := cycN_part x
    have l3 := part3_size x
    have hsz : x.length ≤ 600 := hx.sz
    generalize e1 : (Txt.partition x (Str.ofString " ")).1 = pa at hcy
    generalize e2 : (Txt.partition x (Str.ofString " ")).2.1 = pb
    generalize e3 : (Txt.partition x (Str.ofString " ")).2.2 = pc at hcy l3
    refine ⟨_, rfl, ⟨x, rfl⟩, x, Str.ofString " ", rfl, rfl, rfl, (by rw [sizeLine_eq]; omega), fun pr npr => ?_⟩
    rw [e1, e2, e3]
    have gP : Gr T H (upd H pr (.tup [.str pa, .str pb, .str pc])) := Gr.laid tb npr
    refine ⟨pr, _, rfl, SqT.of upd_same, rfl, _, _, rfl, _, _, rfl, _, _, rfl, rfl, ?_⟩
    generalize upd H pr (.tup [.str pa, .str pb, .str pc]) = H1 at gP
    have raise : cycN x = none → ∀ H4, Gr T H H4 → ∀ a, H4 a = none → _ := fun e H4 g4 => raise_line (H := H4) (n := 1) (Qx := fun cls d H' => E cls d H') R ⟨by decide, by decide⟩ fun d H5 s5 _ e5 => qe e H5 d (g4.trans (grS g4.tab s5)) e5
    refine ⟨fun σ H' => σ = [some (.str x), some (.str pa), some (.str pb), some (.str pc)] ∧ Gr T H H' ∧ pa = "cycles" ∧ numB pc = true, ?_, ?_⟩
    · refine ⟨_, rfl, rfl, _, rfl, ?_⟩
      by_cases hw : pa = "cycles"
      · refine iteF' (by rw [decide_eq_true (by rw [hw])]; rfl) ?_
        refine ⟨_, rfl, cs pc, by rw [S_tl]; rfl, ?_, gP.tab, fun H4 g4 => ?_⟩
        · have : (cs pc).length = pc.length := Array.length_toList
          rw [this, sizeLine_eq]
          omega
        have hb : isNum (cs pc) = numB pc := rfl
        refine ⟨_, rfl, ?_⟩
        rw [hb]
        cases hn : numB pc with
        | false =>
          refine iteT ⟨(by show 1 ≤ 1000; decide), ?_⟩
          exact raise (by rw [hcy, if_neg (fun z => by rw [hn] at z; cases z.2)]) H4 (gP.trans g4)
        | true => exact iteF ⟨rfl, gP.trans g4, hw, rfl⟩
      · refine iteT' (by rw [decide_eq_false (fun z => hw (V.str.inj z))]; rfl) ⟨(by show 1 ≤ 1000; decide), ?_⟩
        exact raise (by rw [hcy, if_neg (fun z => hw z.1)]) H1 gP
    rintro σ H4 ⟨rfl, g4, hw, hn⟩
    have hpc : pc.length ≤ 600 := by omega
    exact ⟨_, rfl, pc, rfl, hn, hpc, qs _ _ g4 (by rw [hcy, if_pos ⟨hw, hn⟩])⟩
def spWv (K : PySem.W.Frag) (T : Addr) : Sp := fun vs H Q _ => ∃ (a : Addr) (ps : List Str), vs = [.ref a] ∧ SqL K H a (ps.map V.str) ∧ ps.length ≤ 700 ∧ (∀ p ∈ ps, p.length ≤ 600) ∧ TabG H T ∧
  (∀ H', Gr T H H' → wvN [] ps = none → Q .non H') ∧ ∀ H' p ws, Gr T H H' → wvN [] ps = some ws → H p = none → H' p = some (.lst (ws.map iV)) → Q (.ref p) H'
theorem ok_wv {f fS fF : Addr} {fd fdS fdF : FuncData} {tkD : Tok} (F : Fun K "wave_values" "wave_values" sWaveValues f fd) (gD : mg "AS_AHEAD" = some (.str (Str.ofString ".") tkD))
    (GS : FnOk P w K mg base CX0 1 fS fdS ["text"] (spNum T)) (kS : PySem.W.keepIn K (.ref fS) = true) (bS : Binds K fdS ["text"] []) (gS : mg "is_number" = some (.ref fS))
    (GF : FnOk P w K mg base CX0 2 fF fdF ["text"] spNof) (kF : PySem.W.keepIn K (.ref fF) = true) (bF : Binds K fdF ["text"] []) (gF : mg "number_of" = some (.ref fF)) :
    FnOk P w K mg base CX0 3 f fd ["found"] (spWv K T) := by
  refine F.ok scWaveValues (fun vs H Q E h => ?_) (fun cdv A outer s H vs Q E hr h => ?_)
  · obtain ⟨a, ps, rfl, _⟩ := h
    rfl
  · obtain ⟨a, ps, rfl, sq, hl, hp, tb, qn, qs⟩ := h
    have nd := scWaveValues.nd
    have hr2 : Room 2 _ := hr
    have hr1 : Room 1 _ := hr.mono (by decide)
    refine ⟨_, (pss_cons (ps_set (i := 1) nd rfl (.inl rfl) (pe_lst pa_nil))
      (C8.pss_cut (ps_for PassesOwn.never rfl (pi_list (pv 0)) (pg_name (i := 2) nd rfl (.inl rfl)) (pss_one (ps_if (PW.pt (pw_and (pt_cmpR op_eq (pv 2) (pe_glob (v := .str ".") (by rfl) gD ⟨_, rfl⟩) (nomark _)) (pw_and1 (pt_truth (pv 1) (by intro _; rfl))))) (pss_one (ps_expr (pe_bm PySem.F.plainAttrs_list PySem.F.slot_list_append PySem.F.type_list_append mt_append (pv 1) (pa_cons (pe_ix ix_list (pv 1) (pe_un un_neg pe_int) (fun _ _ => rfl)) pa_nil)))) (pss_one (ps_if (pt_val (pe_call GS hr1 (by rfl) gS kS bS .nil pass0 (pa_cons (pv 2) pa_nil))) (pss_one (ps_expr (pe_bm PySem.F.plainAttrs_list PySem.F.slot_list_append PySem.F.type_list_append mt_append (pv 1) (pa_cons (pe_call GF hr2 (by rfl) gF kF bF .nil pass0 (pa_cons (pv 2) pa_nil)) pa_nil)))) (pss_one (ps_ret (pe_non))))))))
      (pss_one (ps_ret (pv 1))))), ?_⟩
    refine ⟨Nat.zero_le _, fun fl nfl => ?_⟩
    have gl0 := Gr.laid (o := .lst []) tb nfl
    have e0 : (upd H fl (.lst [])) fl = some (.lst []) := upd_same
    have nflT := tab_ne tb nfl
    generalize upd H fl (.lst []) = H0 at gl0 e0
    refine ⟨fun σ H' => ∃ (y2 : Option V) (ws : List Nat), σ = [some (.ref a), some (.ref fl), y2] ∧ Gr T H H' ∧ H' fl = some (.lst (ws.map iV)) ∧ wvN [] ps = some ws, ?_, ?_⟩
    · refine ⟨_, rfl, a, rfl, ⟨_, gl0.seqL tb sq⟩, ?_⟩
      refine for_list (xs := ps.map V.str) (fun i σ H' => ∃ (y2 : Option V) (ws : List Nat), σ = [some (.ref a), some (.ref fl), y2] ∧ Gr T H H' ∧ H' fl = some (.lst (ws.map iV)) ∧ ws.length = i ∧ wvN [] ps = wvN ws (ps.drop i)) ⟨none, [], rfl, gl0, e0, rfl, rfl⟩ (fun i σ H' _ h => ?_) (fun i v σ H' hv h => ?_) (fun σ H' h => ?_)
      · obtain ⟨_, _, _, g, _⟩ := h
        exact g.seqL tb sq
      · obtain ⟨y2, ws, rfl, g, e, lw, er⟩ := h
        obtain ⟨z, ez, rfl⟩ := str_at hv
        have hil : i < ps.length := (List.getElem?_eq_some_iff.mp ez).1
        have hz := hp z (List.mem_of_getElem? ez)
        have edr : ps.drop i = z :: ps.drop (i + 1) := by
          obtain ⟨h1, h2⟩ := List.getElem?_eq_some_iff.mp ez
          rw [List.drop_eq_getElem_cons h1, h2]
        have er2 : wvN [] ps = if z = "." ∧ ws ≠ [] then wvN (ws ++ [ws.getLastD 0]) (ps.drop (i + 1)) else if numB z = true then wvN (ws ++ [numV z]) (ps.drop (i + 1)) else none := by
          rw [er, edr]
          rfl
        have put : ∀ (v : Nat) (H5 : Hp) (y2' : Option V), Gr T H H5 → wvN [] ps = wvN (ws ++ [v]) (ps.drop (i + 1)) → ∃ (y2 : Option V) (ws2 : List Nat), ([some (V.ref a), some (.ref fl), y2'] : L2.St) = [some (.ref a), some (.ref fl), y2] ∧ Gr T H (upd H5 fl (.lst (ws.map iV ++ [iV v]))) ∧ (upd H5 fl (.lst (ws.map iV ++ [iV v]))) fl = some (.lst (ws2.map iV)) ∧ ws2.length = i + 1 ∧ wvN [] ps = wvN ws2 (ps.drop (i + 1)) := fun v H5 y2' g5 e6 => by
          refine ⟨y2', ws ++ [v], rfl, ⟨?_, fun b o hb he => ?_⟩, by rw [upd_same, List.map_append]; rfl, by rw [List.length_append, lw]; rfl, e6⟩
          · obtain ⟨ps, ep, r⟩ := g5.tab
            exact ⟨ps, by rw [upd_ne nflT.symm]; exact ep, r⟩
          · rw [upd_ne (ne_of_none he nfl)]
            exact g5.old b o hb he
        have lws : (ws.map iV).length < sizeLine := by
          rw [List.length_map]
          exact lineS200 (by omega)
        refine ⟨_, rfl, rfl, _, rfl, ?_⟩
        by_cases hd : z = "."
        · refine iteT' (decide_eq_true (by rw [hd])) ?_
          refine ⟨_, rfl, !(ws.map iV).isEmpty, .inl ⟨_, SqL.of e, rfl⟩, ?_⟩
          have hwe : (!(ws.map iV).isEmpty) = !ws.isEmpty := by cases ws <;> rfl
          rw [hwe]
          cases hw0 : ws.isEmpty with
          | true =>
            have hw : ws = [] := List.isEmpty_iff.mp hw0
            refine iteF ?_
            refine ⟨_, rfl, cs z, by rw [S_tl]; rfl, ?_, g.tab, fun H4 g4 => ⟨_, rfl, ?_⟩⟩
            · have : (cs z).length = z.length := Array.length_toList
              rw [this, sizeLine_eq]
              omega
            have hb : isNum (cs z) = numB z := rfl
            rw [hb]
            have hno : ¬ (z = "." ∧ ws ≠ []) := fun y => y.2 hw
            rw [if_neg hno] at er2
            have g5 := g.trans g4
            have e5 := g4.at g.tab e (fun ps z => by cases z)
            cases hn : numB z with
            | false =>
              rw [hn, if_neg (by decide)] at er2
              exact iteF (qn _ g5 er2)
            | true =>
              rw [hn, if_pos rfl] at er2
              refine iteT ⟨_, rfl, .inl ⟨rfl, _, SqL.of e5⟩, _, rfl, z, rfl, hn, hz, fl, _, _, rfl, rfl, e5, lws, ?_⟩
              exact put (numV z) _ _ g5 er2
          | false =>
            have hw : ws ≠ [] := fun z => by rw [z] at hw0; cases hw0
            refine iteT ?_
            have hy : z = "." ∧ ws ≠ [] := ⟨hd, hw⟩
            rw [if_pos hy] at er2
            have hlast : atI (ws.map iV) (-1) = some (iV (ws.getLastD 0)) := by
              obtain ⟨ini, la, ew⟩ : ∃ ini la, ws = ini ++ [la] := ⟨_, _, (List.dropLast_concat_getLast hy.2).symm⟩
              rw [ew, List.map_append]
              have : (ini ++ [la]).getLastD 0 = la := by simp
              rw [this]
              exact atI_last _ _
            refine ⟨_, rfl, .inl ⟨rfl, _, SqL.of e⟩, _, rfl, _, rfl, fl, _, _, _, rfl, rfl, SqL.of e, hlast, fl, _, _, rfl, rfl, e, lws, ?_⟩
            exact put _ _ _ g er2
        · refine iteF' (decide_eq_false (fun y => hd (V.str.inj y))) ?_
          refine ⟨_, rfl, cs z, by rw [S_tl]; rfl, ?_, g.tab, fun H4 g4 => ⟨_, rfl, ?_⟩⟩
          · have : (cs z).length = z.length := Array.length_toList
            rw [this, sizeLine_eq]
            omega
          have hb : isNum (cs z) = numB z := rfl
          rw [hb]
          have hno : ¬ (z = "." ∧ ws ≠ []) := fun y => hd y.1
          rw [if_neg hno] at er2
          have g5 := g.trans g4
          have e5 := g4.at g.tab e (fun ps z => by cases z)
          cases hn : numB z with
          | false =>
            rw [hn, if_neg (by decide)] at er2
            exact iteF (qn _ g5 er2)
          | true =>
            rw [hn, if_pos rfl] at er2
            refine iteT ⟨_, rfl, .inl ⟨rfl, _, SqL.of e5⟩, _, rfl, z, rfl, hn, hz, fl, _, _, rfl, rfl, e5, lws, ?_⟩
            exact put (numV z) _ _ g5 er2
      · obtain ⟨y2, ws, rfl, g, e, lw, er⟩ := h
        rw [List.length_map, List.drop_length] at er
        exact ⟨y2, ws, rfl, g, e, er⟩
    rintro σ H5 ⟨y2, ws, rfl, g, e, er⟩
    exact ⟨_, rfl, qs _ fl ws g er nfl e⟩
def spWp (K : PySem.W.Frag) : Sp := fun vs H Q _ => ∃ (a : Addr) (ws : List Nat), vs = [.ref a] ∧ SqL K H a (ws.map iV) ∧ ws.length ≤ 100 ∧ (∀ v ∈ ws, v < 1000000000) ∧ ∀ H' p, Same H H' → H p = none → H' p = some (.lst ((wvParts ws).map V.str)) → Q (.ref p) H'
theorem ok_wp {f fT : Addr} {fd fdT : FuncData} {tkD : Tok} (F : Fun K "wave_parts" "wave_parts" sWaveParts f fd) (B2 : BD mg) (gD : mg "AS_AHEAD" = some (.str (Str.ofString ".") tkD))
    (GT : FnOk P w K mg base CX0 1 fT fdT ["worth"] spNText) (kT : PySem.W.keepIn K (.ref fT) = true) (bT : Binds K fdT ["worth"] []) (gT : mg "number_text" = some (.ref fT)) : FnOk P w K mg base CX0 2 f fd ["worths"] (spWp K) := by
  refine F.ok scWaveParts (fun vs H Q E h => ?_) (fun cdv A outer s H vs Q E hr h => ?_)
  · obtain ⟨a, ws, rfl, _⟩ := h
    rfl
  · obtain ⟨a, ws, rfl, sq, hl, hw, q⟩ := h
    have nd := scWaveParts.nd
    have hr1 : Room 1 _ := hr
    refine ⟨_, (pss_cons (ps_set (i := 1) nd rfl (.inl rfl) (pe_lst pa_nil))
      (C8.pss_cut (ps_for PassesOwn.never rfl (pi_enum (by rfl) B2.enumerate (pa_cons (pv 0) pa_nil)) (pg_tup (by rfl) (pgs_cons (pg_name (i := 2) nd rfl (.inl rfl)) (pgs_cons (pg_name (i := 3) nd rfl (.inl rfl)) pgs_nil))) (pss_cons (ps_set (i := 4) nd rfl (.inl rfl) (pe_and (pe_cmpR op_gt (pv 2) (pe_int) (nomark _)) (pe_one (pe_cmpR op_eq (pv 3) (pe_ix ix_list (pv 0) (pe_op op_sub (pv 2) (pe_int)) (fun _ _ => rfl)) (nomark _)))))
      (pss_one (ps_expr (pe_bm PySem.F.plainAttrs_list PySem.F.slot_list_append PySem.F.type_list_append mt_append (pv 1) (pa_cons (pe_ifExp (pt_val (pv 4)) (pe_glob (v := .str ".") (by rfl) gD ⟨_, rfl⟩) (pe_call GT hr1 (by rfl) gT kT bT .nil pass0 (pa_cons (pv 3) pa_nil))) pa_nil))))))
      (pss_one (ps_ret (pv 1))))), ?_⟩
    refine ⟨Nat.zero_le _, fun fl nfl => ?_⟩
    have s0 : Same H (upd H fl (.lst [])) := Same.up nfl
    have e0 : (upd H fl (.lst [])) fl = some (.lst []) := upd_same
    generalize upd H fl (.lst []) = H0 at s0 e0
    refine ⟨fun σ H' => ∃ (y2 y3 y4 : Option V), σ = [some (.ref a), some (.ref fl), y2, y3, y4] ∧ Same H H' ∧ H' fl = some (.lst ((wvParts ws).map V.str)), ?_, ?_⟩
    · refine ⟨_, rfl, a, _, rfl, s0.seq sq, ?_⟩
      refine for_enL (xs := ws.map iV) (fun i σ H' => ∃ (y2 y3 y4 : Option V), σ = [some (.ref a), some (.ref fl), y2, y3, y4] ∧ Same H H' ∧ H' fl = some (.lst (((List.range i).map (wvPart ws)).map V.str))) ⟨none, none, none, rfl, s0, e0⟩ (fun i σ H' _ h => ?_) (fun i v U σ H' hv h nU => ?_) (fun σ H' h => ?_)
      · obtain ⟨_, _, _, _, g, _⟩ := h
        exact g.seq sq
      · obtain ⟨y2, y3, y4, rfl, g, e⟩ := h
        rw [List.getElem?_map] at hv
        obtain ⟨k, ek, rfl⟩ := Option.map_eq_some_iff.mp hv
        have hil : i < ws.length := (List.getElem?_eq_some_iff.mp ek).1
        have hk := hw k (List.mem_of_getElem? ek)
        have egd : ws.getD i 0 = k := getD_some ek
        have sU : Same H' (upd H' U (.tup [.int ((i : Nat) : Int), iV k])) := Same.up nU
        refine ⟨U, _, rfl, SqT.of upd_same, rfl, _, _, rfl, _, _, rfl, rfl, ?_⟩
        generalize upd H' U (.tup [.int ((i : Nat) : Int), iV k]) = H2 at sU
        have g2 := g.trans sU
        have e2 := sU _ _ e
        have put : ∀ (H5 : Hp) (y2 y3 y4 : Option V) (t : Str), Same H2 H5 → wvPart ws i = t → ∃ (z2 z3 z4 : Option V), ([some (V.ref a), some (.ref fl), y2, y3, y4] : L2.St) = [some (.ref a), some (.ref fl), z2, z3, z4] ∧ Same H (upd H5 fl (.lst (((List.range i).map (wvPart ws)).map V.str ++ [.str t]))) ∧ (upd H5 fl (.lst (((List.range i).map (wvPart ws)).map V.str ++ [.str t]))) fl = some (.lst (((List.range (i + 1)).map (wvPart ws)).map V.str)) := fun H5 y2 y3 y4 t s5 et => by
          refine ⟨y2, y3, y4, rfl, fun b o hb => ?_, ?_⟩
          · rw [upd_ne (ne_of_none hb nfl)]
            exact s5 _ _ (g2 _ _ hb)
          · rw [upd_same, range_snoc, List.map_append, et]
            rfl
        have lfl : (((List.range i).map (wvPart ws)).map V.str).length < sizeLine := by
          rw [List.length_map, List.length_map, List.length_range]
          exact lineS200 (by omega)
        refine ⟨_, rfl, _, _, rfl, rfl, _, rfl, ?_⟩
        by_cases h0 : 0 < i
        · refine iteT' (decide_eq_true (by omega)) ?_
          obtain ⟨j, ej⟩ : ∃ j, ws[i - 1]? = some j := ⟨_, List.getElem?_eq_getElem (by omega)⟩
          have egj : ws.getD (i - 1) 0 = j := getD_some ej
          have hat : atI (ws.map iV) (((i : Nat) : Int) - 1) = some (iV j) := by
            rw [show ((i : Nat) : Int) - 1 = ((i - 1 : Nat) : Int) by omega]
            exact atI_nat (by rw [List.getElem?_map, ej]; rfl)
          refine ⟨_, rfl, _, rfl, _, rfl, _, _, rfl, rfl, a, _, _, _, rfl, rfl, g2.seq sq, hat, rfl, ?_⟩
          refine ⟨_, rfl, .inl ⟨rfl, _, SqL.of e2⟩, _, rfl, _, rfl, ?_⟩
          by_cases hkj : k = j
          · refine iteT' (decide_eq_true (by rw [hkj])) ⟨fl, _, _, rfl, rfl, e2, lfl, ?_⟩
            exact put _ _ _ _ _ (Same.refl _) (by unfold wvPart; rw [egd, egj, if_pos ⟨h0, hkj⟩])
          · refine iteF' (decide_eq_false (fun z => hkj (by have := V.int.inj z; omega))) ⟨_, rfl, k, rfl, hk, fl, _, _, rfl, rfl, e2, lfl, ?_⟩
            exact put _ _ _ _ _ (Same.refl _) (by unfold wvPart; rw [egd, egj, if_neg (fun z => hkj z.2)])
        · refine iteF' (decide_eq_false (by omega)) ?_
          refine ⟨_, rfl, .inl ⟨rfl, _, SqL.of e2⟩, _, rfl, _, rfl, iteF ⟨_, rfl, k, rfl, hk, fl, _, _, rfl, rfl, e2, lfl, ?_⟩⟩
          exact put _ _ _ _ _ (Same.refl _) (by unfold wvPart; rw [egd, if_neg (fun z => h0 z.1)])
      · obtain ⟨y2, y3, y4, rfl, g, e⟩ := h
        rw [List.length_map] at e
        exact ⟨_, _, _, rfl, g, e⟩
    rintro σ H5 ⟨y2, y3, y4, rfl, g, e⟩
    exact ⟨_, rfl, q _ fl g nfl e⟩
end
end C1

/-! Waves read by the program. -/
namespace C1
open PySem PySem.Spec PyProof.Rows L2 SX
open K0 (Cs digs isNum)
open GxR (TabG Tabbed TabB GenS)
abbrev sReadWaves : Stmt := topS 20
theorem scReadWaves : FnScope ["text", "lines", "cycles", "names", "waves", "number", "line", "name", "found", "worths", "told", "cycle"] ["text"] (defScope sReadWaves) := ⟨rfl, rfl, rfl, by decide +kernel, rfl, by decide +kernel, by decide +kernel⟩
abbrev NRW : List Str := ["text", "lines", "cycles", "names", "waves", "number", "line", "name", "found", "worths", "told", "cycle"]
def scRW : Scope := { kind := .function, names := [(".0", .local), ("cycle", .cell), ("tuple", .globalImplicit), ("waves", .cell)], isGenerator := false, isCoroutine := false }
def linesOf (x : Str) : List Str := (splitL x).dropLast
abbrev WRow : Type := Str × List Nat
def rowN (many : Nat) (y : Str) : Option WRow := match spS y with
  | [] => none
  | w :: rest => if w = "" ∨ rest.length ≠ many then none else match wvN [] rest with
    | none => none
    | some ws => some (w, ws)
def readW (many : Nat) : Nat → List WRow → List Str → Sum Nat (List WRow)
  | _, acc, [] => .inr acc
  | k, acc, y :: ys => match rowN many y with
    | none => .inl (k + 2)
    | some r => readW many (k + 1) (acc ++ [r]) ys
def endW (m : Nat) : Sum Nat (List WRow) → Sum Nat (Nat × List WRow)
  | .inl n => .inl n
  | .inr rows => .inr (m, rows)
def wavesN (x : Str) : Sum Nat (Nat × List WRow) := if wholeB x = true then (match linesOf x with
    | [] => .inl 1
    | h :: rest => match cycN h with
      | none => .inl 1
      | some m => endW m (readW m 0 [] rest))
  else .inl (splitL x).length
theorem waves_none {x hd : Str} {rest : List Str} (hw : wholeB x = true) (el : linesOf x = hd :: rest) (en : cycN hd = none) : wavesN x = .inl 1 := by
  unfold wavesN
  rw [if_pos hw, el]
  simp only [en]
theorem waves_some {x hd : Str} {rest : List Str} {m : Nat} (hw : wholeB x = true) (el : linesOf x = hd :: rest) (en : cycN hd = some m) : wavesN x = endW m (readW m 0 [] rest) := by
  unfold wavesN
  rw [if_pos hw, el]
  simp only [en]
def namesD (ns : List Str) : PyData := .tuple (ns.map .str)
def rowD (r : List Nat) : PyData := .tuple (r.map iD)
def toldD (ts : List (List Nat)) : PyData := .tuple (ts.map rowD)
def colsN (m : Nat) (rows : List WRow) : List (List Nat) := (List.range m).map fun k => rows.map fun r => r.2.getD k 0
def pairD (m : Nat) (rows : List WRow) : PyData := .tuple [namesD (rows.map (·.1)), toldD (colsN m rows)]
def WvLn (y : Str) : Prop := ∀ z ∈ spS y, numB z = true → numV z ≤ 1000
theorem cyc_bd {y : Str} {m : Nat} (h : WvLn y) (e : cycN y = some m) : m ≤ 1000 := by
  unfold cycN at e
  split at e
  · rename_i w z es
    split at e
    · rename_i hc
      cases e
      exact h z (by rw [es]; simp) hc.2
    · cases e
  · cases e
theorem wvN_len : ∀ (ps : List Str) (acc ws : List Nat), wvN acc ps = some ws → ws.length = acc.length + ps.length
  | [], acc, ws, h => by
    cases h
    rfl
  | p :: ps, acc, ws, h => by
    unfold wvN at h
    split at h
    · have := wvN_len ps _ ws h
      rw [List.length_append] at this
      show _ = _ + (ps.length + 1)
      have e : [acc.getLastD 0].length = 1 := rfl
      omega
    · split at h
      · have := wvN_len ps _ ws h
        rw [List.length_append] at this
        show _ = _ + (ps.length + 1)
        have e : [numV p].length = 1 := rfl
        omega
      · cases h
theorem rowN_len {many : Nat} {y : Str} {r : WRow} (h : rowN many y = some r) : r.2.length = many := by
  unfold rowN at h
  split at h
  · cases h
  · rename_i w rest es
    split at h
    · cases h
    · rename_i hc
      split at h
      · cases h
      · rename_i ws ew
        cases h
        have := wvN_len rest [] ws ew
        have h2 : ¬ rest.length ≠ many := fun z => hc (.inr z)
        have h3 : ([] : List Nat).length = 0 := rfl
        show ws.length = many
        omega
theorem noLs_i : ∀ ns : List Nat, noLs (ns.map iD) = true := noLs_int
theorem noLs_row : ∀ ts : List (List Nat), noLs (ts.map rowD) = true
  | [] => rfl
  | r :: ts => by
    show (noLs (r.map iD) && noLs (ts.map rowD)) = true
    rw [noLs_int, noLs_row ts]
    rfl
section
variable {P : Program} {w : World} {K : PySem.W.Frag} {mg : Str → Option Value} {base : Heap} {T : Addr}
def spRWaves (K : PySem.W.Frag) (T C : Addr) : Sp := fun vs H Q E => ∃ x : Str, vs = [.str x] ∧ TxL 250 140 x ∧ (∀ y ∈ splitL x, WvLn y) ∧ TabG H T ∧
  (∀ m rows, wavesN x = .inr (m, rows) → ∀ H' v, Gr T H H' → Dp K H' v (pairD m rows) → Q v H') ∧
  ∀ n, wavesN x = .inl n → ∀ H' d, Gr T H H' → H' d = some (.xd (fsL (n : Nat))) → E (.ref C) (some d) H'
theorem ok_rwaves {f fW fC fV fI C : Addr} {fd fdW fdC fdV fdI : FuncData} (F : Fun K "read_waves" "read_waves" sReadWaves f fd) (B : BT mg) (B2 : BD mg) (BL : Bl mg)
    (GW : FnOk P w K mg base (L2.CX P w) 3 fW fdW ["text"] (spWhole K C)) (kW : PySem.W.keepIn K (.ref fW) = true) (bW : Binds K fdW ["text"] []) (gW : mg "whole_lines" = some (.ref fW))
    (GC : FnOk P w K mg base (L2.CX P w) 3 fC fdC ["line"] (spCyc K T C)) (kC : PySem.W.keepIn K (.ref fC) = true) (bC : Binds K fdC ["line"] []) (gC : mg "cycles_told" = some (.ref fC))
    (GV : FnOk P w K mg base CX0 3 fV fdV ["found"] (spWv K T)) (kV : PySem.W.keepIn K (.ref fV) = true) (bV : Binds K fdV ["found"] []) (gV : mg "wave_values" = some (.ref fV))
    (R : ErrB K mg C fI) (tI : PySem.W.typeIn K (.ref fI) = some (.type "function")) (GI : FnOk P w K mg base CX0 1 fI fdI ["self", "line"] (spInitB K)) (bI : Binds K fdI ["self", "line"] []) :
    FnOk P w K mg base (L2.CX P w) 4 f fd ["text"] (spRWaves K T C) := by
  refine F.okX scReadWaves (fun vs H Q E h => ?_) (fun cdv A outer s H vs Q E hr h => ?_)
  · obtain ⟨x, rfl, _⟩ := h
    rfl
  · obtain ⟨x, rfl, hx, hwv, tb, q, qe⟩ := h
    have nd := scReadWaves.nd
    have hr3 : Room 3 _ := hr
    have hrI : Room 2 _ := hr.mono (by decide)
    refine ⟨_, (pss_cons (ps_set (i := 1) nd rfl (.inl rfl) (pe_callS GW hr3 (by rfl) gW kW bW (fun σ => passAt (takes_of rfl rfl rfl rfl) σ) (pa_cons (pv 0) pa_nil)))
      (pss_cons (ps_set (i := 2) nd rfl (.inl rfl) (pe_callS GC hr3 (by rfl) gC kC bC (fun σ => passAt (takes_of rfl rfl rfl rfl) σ) (pa_cons (pe_ix ix_list (pv 1) (pe_int) (fun _ _ => rfl)) pa_nil)))
      (pss_cons (ps_set (i := 3) nd rfl (.inl rfl) (pe_lst pa_nil))
      (pss_cons (ps_set (i := 4) nd rfl (.inr rfl) (pe_lst pa_nil))
      (C8.pss_cut (ps_for (passes_of rfl) rfl (pi_enum (by rfl) B2.enumerate (pa_cons (pe_slice sl_list (pv 1) (po_some (pe_int)) po_none) pa_nil)) (pg_tup (by rfl) (pgs_cons (pg_name (i := 5) nd rfl (.inl rfl)) (pgs_cons (pg_name (i := 6) nd rfl (.inl rfl)) pgs_nil))) (pss_cons (ps_asg (pe_split (pv 6) (pe_str)) (StR.pg_star (n := 1) rfl (pgs_cons (pg_name (i := 7) nd rfl (.inl rfl)) (StR.pgs_last (pg_name (i := 8) nd rfl (.inl rfl)) pgs_nil))))
      (pss_cons (ps_set (i := 9) nd rfl (.inl rfl) (pe_call GV hr3 (by rfl) gV kV bV .nil pass0 (pa_cons (pv 8) pa_nil)))
      (C8.pss_cut (ps_if (PW.pt (pw_or (pt_cmpR op_eq (pv 7) (pe_str) (nomark _)) (pw_or (pt_cmpR op_ne (pe_callB call_len_seq (by rfl) B.len PySem.boot_len (pa_cons (pv 8) pa_nil)) (pv 2) (nomark _)) (pw_or1 (pt_cmpR op_isN (pv 9) (pe_non) (nomark _)))))) (pss_one (ps_raise rfl (takes_of rfl rfl rfl rfl) (pmk_oex R.o R.iC tI GI hrI bI .nil pass0 (by rfl) R.g (pa_cons (pe_op op_add (pv 5) (pe_int)) pa_nil)))) pss_nil)
      (pss_cons (ps_expr (pe_bm PySem.F.plainAttrs_list PySem.F.slot_list_append PySem.F.type_list_append mt_append (pv 3) (pa_cons (pv 7) pa_nil)))
      (pss_one (ps_expr (pe_bm PySem.F.plainAttrs_list PySem.F.slot_list_append PySem.F.type_list_append mt_append (pv 4) (pa_cons (pv 9) pa_nil)))))))))
      (pss_cons (ps_setLc (i := 10) (own := [("cycle", 11)]) (g := gName 11) (tt := tYes) (te := tCB (rTupleOf K) (tCons (tLc (iList K (tVar 4)) (gName 9) (tYes) (tOp (rIxL K) (tVar 9) (tVar 11)) [9]) tNil))  rfl nd rfl rfl (sw_true rfl rfl rfl (by decide +kernel)) (pi_range1 (by rfl) BL.range (pa_cons (pv 2) pa_nil)) (blkOk_by (own := [("cycle", 11)]) (N := NRW) (sc := defScope sReadWaves) (by decide +kernel)) (fun _ _ _ _ _ => pg_name (i := 11) nd rfl (.inr rfl)) (fun _ _ _ _ _ => pts_nil) (fun _ _ _ _ _ => by exact (pe_callTy call_tuple_of (by rfl) B.tuple (by decide +kernel) (pa_cons (pe_lc (own := [("worths", 9)]) (g := gName 9) (tt := tYes) (te := tOp (rIxL K) (tVar 9) (tVar 11))  rfl nd (pi_list (pv 4)) (blkOk_by (own := [("worths", 9)]) (N := NRW) (sc := scRW) (by decide +kernel)) (fun _ _ _ _ _ => pg_name (i := 9) nd rfl (.inl rfl)) (fun _ _ _ _ _ => pts_nil) (fun _ _ _ _ _ => by exact (pe_ix ix_list (pv 9) (pv 11) (fun _ _ => rfl)))) pa_nil))))
      (pss_one (ps_ret (pe_tup (pa_cons (pe_callTy call_tuple_of (by rfl) B.tuple (by decide +kernel) (pa_cons (pv 3) pa_nil)) (pa_cons (pe_callTy call_tuple_of (by rfl) B.tuple (by decide +kernel) (pa_cons (pv 10) pa_nil)) pa_nil))))))))))), ?_⟩
    obtain ⟨hn, hls⟩ := hx.lines
    have hsz := hx.size
    have hp := split_pos x
    have eP0 : wholeB x = false → wavesN x = .inl (splitL x).length := fun e => by
      unfold wavesN
      rw [e]
      rfl
    refine ⟨_, rfl, x, rfl, by omega, fun hw H1 p s1 np e1 => ?_, fun hw H1 d s1 e1 => qe _ (eP0 hw) H1 d (grS tb s1) e1⟩
    have g1 := grS tb s1
    have tb1 := g1.tab
    have hlen : (linesOf x).length ≤ 140 := by
      unfold linesOf
      rw [List.length_dropLast]
      omega
    have hyl : ∀ y ∈ linesOf x, LnB 600 y := fun y h => (hls y (List.dropLast_subset _ h)).up (by decide)
    have h2 : 2 ≤ (splitL x).length := by
      unfold wholeB at hw
      rw [Bool.and_eq_true] at hw
      have : (splitL x).length ≠ 1 := fun z => by
        rw [decide_eq_true z] at hw
        cases hw.2
      omega
    obtain ⟨hd, rest, el⟩ : ∃ h r, linesOf x = h :: r := by
      cases e : linesOf x with
      | nil =>
        have := congrArg List.length e
        unfold linesOf at this
        rw [List.length_dropLast] at this
        simp at this
        omega
      | cons a b => exact ⟨a, b, rfl⟩
    replace e1 : H1 p = some (.lst ((hd :: rest).map V.str)) := by
      rw [← el]
      exact e1
    have hyl2 : ∀ y ∈ hd :: rest, LnB 600 y := by
      rw [← el]
      exact hyl
    have lrest : rest.length + 1 = (linesOf x).length := by
      rw [el]
      rfl
    have raise : ∀ (n : Nat), n ≤ 1000 → wavesN x = .inl n → ∀ (i : Int), i = ((n : Nat) : Int) → ∀ H4, Gr T H H4 → ∀ a, H4 a = none → _ := fun n hn e i ei H4 g4 => raise_line (H := H4) (n := i) (Qx := fun cls d H' => E cls d H') R (by rw [ei]; exact ⟨by omega, by omega⟩) fun d H5 s5 _ e5 => qe _ e H5 d (g4.trans (grS g4.tab s5)) (by rw [← ei]; exact e5)
    have hhd : WvLn hd := hwv hd (List.dropLast_subset _ (show hd ∈ linesOf x by rw [el]; exact List.mem_cons_self ..))
    refine ⟨_, rfl, p, _, _, _, rfl, rfl, SqL.of e1, atI_nat (j := 0) rfl, hd, rfl, hyl2 hd (List.mem_cons_self ..), tb1, fun m H2 g2 en => ?_, fun en H2 d g2 e2 => qe 1 (waves_none hw el en) H2 d (g1.trans g2) e2⟩
    have hm := cyc_bd hhd en
    have eP2 := waves_some hw el en
    have g12 := g1.trans g2
    have tb2 := g12.tab
    have ep2 := g2.at tb1 e1 (fun ps z => by cases z)
    refine ⟨Nat.zero_le _, fun nl nnl => ?_⟩
    have gl0 := Gr.laid (o := .lst []) tb2 nnl
    have gF := g12.trans gl0
    have eF : (upd H2 nl (.lst [])) nl = some (.lst []) := upd_same
    have epF := gl0.at tb2 ep2 (fun ps z => by cases z)
    have nnlH := g12.none tb nnl
    have nnlT := tab_ne tb2 nnl
    have pnl : p ≠ nl := fun z => by
      rw [z, nnl] at ep2
      cases ep2
    show gName 3 (.ref nl) _ (upd H2 nl (.lst [])) _
    generalize upd H2 nl (.lst []) = H3 at gF eF epF
    have tb3 := gF.tab
    refine ⟨Nat.zero_le _, fun wl nwl => ?_⟩
    have gl1 := Gr.laid (o := .lst []) tb3 nwl
    have gG := gF.trans gl1
    have eG : (upd H3 wl (.lst [])) wl = some (.lst []) := upd_same
    have eFG := gl1.at tb3 eF (fun ps z => by cases z)
    have epG := gl1.at tb3 epF (fun ps z => by cases z)
    have nwlH := gF.none tb nwl
    have nwlT := tab_ne tb3 nwl
    have pwl : p ≠ wl := fun z => by
      rw [z, nwl] at epF
      cases epF
    have nlwl : nl ≠ wl := fun z => by
      rw [z, nwl] at eF
      cases eF
    show gName 4 (.ref wl) _ (upd H3 wl (.lst [])) _
    generalize upd H3 wl (.lst []) = H4 at gG eG eFG epG
    have tb4 := gG.tab
    refine ⟨fun σ H' => ∃ (y5 y6 y7 y8 y9 : Option V) (us : List Addr) (rows : List WRow), σ = [some (.str x), some (.ref p), some (iV m), some (.ref nl), some (.ref wl), y5, y6, y7, y8, y9, none, none] ∧ Gr T H H' ∧ H' nl = some (.lst (rows.map fun r => V.str r.1)) ∧ H' wl = some (.lst (us.map V.ref)) ∧ us.length = rows.length ∧ (∀ (i : Nat) (u : Addr) (r : WRow), us[i]? = some u → rows[i]? = some r → H' u = some (.lst (r.2.map iV))) ∧ (∀ r ∈ rows, r.2.length = m) ∧ rows.length ≤ 140 ∧ readW m 0 [] rest = .inr rows, ?_, ?_⟩
    · refine ⟨_, rfl, _, rfl, p, _, rfl, SqL.of epG, fun sp nsp => ?_⟩
      have esp : (upd H4 sp (.lst (cutV ((hd :: rest).map V.str) (some 1) none))) sp = some (.lst (rest.map V.str)) := upd_same.trans (congrArg (fun l => some (HO.lst l)) (cut_hi _ 1))
      have gs := Gr.laid (o := .lst (cutV ((hd :: rest).map V.str) (some 1) none)) tb4 nsp
      have gS := gG.trans gs
      have enS := gs.at tb4 eFG (fun ps z => by cases z)
      have ewS := gs.at tb4 eG (fun ps z => by cases z)
      have spnl : sp ≠ nl := fun z => by
        rw [z, eFG] at nsp
        cases nsp
      have spwl : sp ≠ wl := fun z => by
        rw [z, eG] at nsp
        cases nsp
      generalize upd H4 sp (.lst (cutV ((hd :: rest).map V.str) (some 1) none)) = H5 at gS esp enS ewS
      refine ⟨sp, _, rfl, SqL.of esp, ?_⟩
      refine for_enL (xs := rest.map V.str) (fun i σ H' => ∃ (y5 y6 y7 y8 y9 : Option V) (us : List Addr) (rows : List WRow), σ = [some (.str x), some (.ref p), some (iV m), some (.ref nl), some (.ref wl), y5, y6, y7, y8, y9, none, none] ∧ Gr T H H' ∧ H' sp = some (.lst (rest.map V.str)) ∧ H' nl = some (.lst (rows.map fun r => V.str r.1)) ∧ H' wl = some (.lst (us.map V.ref)) ∧ us.length = rows.length ∧ (∀ (i : Nat) (u : Addr) (r : WRow), us[i]? = some u → rows[i]? = some r → u ≠ nl ∧ u ≠ wl ∧ H' u = some (.lst (r.2.map iV))) ∧ (∀ r ∈ rows, r.2.length = m) ∧ rows.length = i ∧ readW m 0 [] rest = readW m i rows (rest.drop i)) ⟨none, none, none, none, none, [], [], rfl, gS, esp, enS, ewS, rfl, (fun i u r h => by simp at h), (fun r h => by cases h), rfl, rfl⟩ (fun i σ H' _ h => ?_) (fun i v U σ H' hv h nU => ?_) (fun σ H' h => ?_)
      · obtain ⟨_, _, _, _, _, _, _, _, _, e, _⟩ := h
        exact SqL.of e
      · obtain ⟨y5, y6, y7, y8, y9, us, rows, rfl, g, es, enl, ewl, lus, hus, hrl, lrw, er⟩ := h
        obtain ⟨y, ey, rfl⟩ := str_at hv
        have hil : i < rest.length := (List.getElem?_eq_some_iff.mp ey).1
        have edr : rest.drop i = y :: rest.drop (i + 1) := by
          obtain ⟨h1, h2⟩ := List.getElem?_eq_some_iff.mp ey
          rw [List.drop_eq_getElem_cons h1, h2]
        have er2 : readW m 0 [] rest = match rowN m y with
          | none => .inl (i + 2)
          | some r => readW m (i + 1) (rows ++ [r]) (rest.drop (i + 1)) := by
          rw [er, edr]
          rfl
        have hy6 := hyl2 y (List.mem_cons_of_mem _ (List.mem_of_getElem? ey))
        obtain ⟨lsp, psp⟩ := hy6.parts2 (Nat.le_refl _)
        have gu := Gr.laid g.tab nU (o := .tup [.int ((i : Nat) : Int), .str y])
        have gU := g.trans gu
        have esU := gu.at g.tab es (fun ps z => by cases z)
        have enU := gu.at g.tab enl (fun ps z => by cases z)
        have ewU := gu.at g.tab ewl (fun ps z => by cases z)
        have hgu : ∀ (j : Nat) (u : Addr) (r : WRow), us[j]? = some u → rows[j]? = some r → u ≠ nl ∧ u ≠ wl ∧ (upd H' U (.tup [.int ((i : Nat) : Int), .str y])) u = some (.lst (r.2.map iV)) := fun j u r h1 h2 => by
          obtain ⟨a1, a2, a3⟩ := hus j u r h1 h2
          exact ⟨a1, a2, gu.at g.tab a3 (fun ps z => by cases z)⟩
        refine ⟨U, _, rfl, SqT.of upd_same, rfl, _, _, rfl, _, _, rfl, rfl, ?_⟩
        generalize upd H' U (.tup [.int ((i : Nat) : Int), .str y]) = H2u at gU esU enU ewU hgu gu
        obtain ⟨wd, xs, ewx⟩ : ∃ wd xs, spS y = wd :: xs := by
          cases e : spS y with
          | nil => exact absurd e (spS_ne y)
          | cons a b => exact ⟨a, b, rfl⟩
        refine ⟨_, rfl, ⟨y, rfl⟩, y, Str.ofString " ", rfl, rfl, rfl, (by show y.cps.size + 2 ≤ sizeLine; have := hy6.sz; rw [sizeLine_eq]; omega), fun pr npr => ?_⟩
        have gp := Gr.laid gU.tab npr (o := .lst ((Txt.split y (Str.ofString " ")).map V.str))
        have eP : (upd H2u pr (.lst ((Txt.split y (Str.ofString " ")).map V.str))) pr = some (.lst ((wd :: xs).map V.str)) := upd_same.trans (congrArg (fun l => some (HO.lst (List.map V.str l))) ewx)
        have gP := gU.trans gp
        have esP := gp.at gU.tab esU (fun ps z => by cases z)
        have enP := gp.at gU.tab enU (fun ps z => by cases z)
        have ewP := gp.at gU.tab ewU (fun ps z => by cases z)
        have hgp : ∀ (j : Nat) (u : Addr) (r : WRow), us[j]? = some u → rows[j]? = some r → u ≠ nl ∧ u ≠ wl ∧ (upd H2u pr (.lst ((Txt.split y (Str.ofString " ")).map V.str))) u = some (.lst (r.2.map iV)) := fun j u r h1 h2 => by
          obtain ⟨a1, a2, a3⟩ := hgu j u r h1 h2
          exact ⟨a1, a2, gp.at gU.tab a3 (fun ps z => by cases z)⟩
        generalize upd H2u pr (.lst ((Txt.split y (Str.ofString " ")).map V.str)) = H6 at gP eP esP enP ewP hgp
        refine ⟨pr, _, rfl, SqL.of eP, by rw [List.length_map]; exact Nat.succ_le_succ (Nat.zero_le _), fun q7 n7 => ?_⟩
        have g7 := Gr.laid gP.tab n7 (o := .lst (((wd :: xs).map V.str).drop 1))
        have e7 : (upd H6 q7 (.lst (((wd :: xs).map V.str).drop 1))) q7 = some (.lst (xs.map V.str)) := upd_same
        have gQ := gP.trans g7
        have esQ := g7.at gP.tab esP (fun ps z => by cases z)
        have enQ := g7.at gP.tab enP (fun ps z => by cases z)
        have ewQ := g7.at gP.tab ewP (fun ps z => by cases z)
        have hgq : ∀ (j : Nat) (u : Addr) (r : WRow), us[j]? = some u → rows[j]? = some r → u ≠ nl ∧ u ≠ wl ∧ (upd H6 q7 (.lst (((wd :: xs).map V.str).drop 1))) u = some (.lst (r.2.map iV)) := fun j u r h1 h2 => by
          obtain ⟨a1, a2, a3⟩ := hgp j u r h1 h2
          exact ⟨a1, a2, g7.at gP.tab a3 (fun ps z => by cases z)⟩
        refine ⟨_, _, rfl, _, _, rfl, rfl, ?_⟩
        generalize upd H6 q7 (.lst (((wd :: xs).map V.str).drop 1)) = H7 at gQ e7 esQ enQ ewQ hgq
        rw [ewx] at lsp psp
        have lxs : xs.length ≤ 700 := by
          have : (wd :: xs).length = xs.length + 1 := rfl
          omega
        have eRow : rowN m y = if wd = "" ∨ xs.length ≠ m then none else match wvN [] xs with
            | none => none
            | some ws => some (wd, ws) := by
          unfold rowN
          rw [ewx]
        have bad : rowN m y = none → wavesN x = .inl (i + 2) := fun e => by
          rw [eP2, er2, e]
          rfl
        refine ⟨_, rfl, q7, xs, rfl, SqL.of e7, lxs, fun z hz => (psp z (List.mem_cons_of_mem _ hz)).sz, gQ.tab, fun H8 g8 ew8 => ?_, fun H8 u8 ws g8 ew8 n8 e8 => ?_⟩
        · have gV := gQ.trans g8
          have e78 := g8.at gQ.tab e7 (fun ps z => by cases z)
          refine ⟨fun _ _ => False, ?_, fun _ _ h => h.elim⟩
          have hb := bad (by rw [eRow, ew8]; split <;> rfl)
          refine ⟨_, rfl, rfl, _, rfl, ?_⟩
          by_cases c1 : wd = ""
          · refine iteT' (decide_eq_true (by rw [c1])) ⟨_, rfl, _, _, rfl, rfl, (by show 1 ≤ 1000; decide), ?_⟩
            exact raise (i + 2) (by omega) hb _ (by omega) H8 gV
          · refine iteF' (decide_eq_false (fun z => c1 (V.str.inj z))) ⟨_, rfl, q7, _, rfl, .inl (SqL.of e78), _, rfl, rfl, _, rfl, ?_⟩
            rw [List.length_map]
            by_cases c2 : xs.length = m
            · refine iteF' (by rw [decide_eq_true (by rw [c2])]; rfl) ⟨_, rfl, rfl, _, rfl, iteT ⟨_, rfl, _, _, rfl, rfl, (by show 1 ≤ 1000; decide), ?_⟩⟩
              exact raise (i + 2) (by omega) hb _ (by omega) H8 gV
            · refine iteT' (by rw [decide_eq_false (fun z => c2 (by have := V.int.inj z; omega))]; rfl) ⟨_, rfl, _, _, rfl, rfl, (by show 1 ≤ 1000; decide), ?_⟩
              exact raise (i + 2) (by omega) hb _ (by omega) H8 gV
        · have gV := gQ.trans g8
          have e78 := g8.at gQ.tab e7 (fun ps z => by cases z)
          have en8 := g8.at gQ.tab enQ (fun ps z => by cases z)
          have ewl8 := g8.at gQ.tab ewQ (fun ps z => by cases z)
          have es8 := g8.at gQ.tab esQ (fun ps z => by cases z)
          have u8nl : u8 ≠ nl := fun z => by rw [z, enQ] at n8; cases n8
          have u8wl : u8 ≠ wl := fun z => by rw [z, ewQ] at n8; cases n8
          refine ⟨fun σ H' => σ = [some (.str x), some (.ref p), some (iV m), some (.ref nl), some (.ref wl), some (.int ((i : Nat) : Int)), some (.str y), some (.str wd), some (.ref q7), some (.ref u8), none, none] ∧ H' = H8 ∧ wd ≠ "" ∧ xs.length = m, ?_, ?_⟩
          · refine ⟨_, rfl, rfl, _, rfl, ?_⟩
            by_cases c1 : wd = ""
            · refine iteT' (decide_eq_true (by rw [c1])) ⟨_, rfl, _, _, rfl, rfl, (by show 1 ≤ 1000; decide), ?_⟩
              exact raise (i + 2) (by omega) (bad (by rw [eRow, if_pos (.inl c1)])) _ (by omega) H8 gV
            · refine iteF' (decide_eq_false (fun z => c1 (V.str.inj z))) ⟨_, rfl, q7, _, rfl, .inl (SqL.of e78), _, rfl, rfl, _, rfl, ?_⟩
              rw [List.length_map]
              by_cases c2 : xs.length = m
              · exact iteF' (by rw [decide_eq_true (by rw [c2])]; rfl) ⟨_, rfl, rfl, _, rfl, iteF ⟨rfl, rfl, c1, c2⟩⟩
              · refine iteT' (by rw [decide_eq_false (fun z => c2 (by have := V.int.inj z; omega))]; rfl) ⟨_, rfl, _, _, rfl, rfl, (by show 1 ≤ 1000; decide), ?_⟩
                exact raise (i + 2) (by omega) (bad (by rw [eRow, if_pos (.inr c2)])) _ (by omega) H8 gV
          rintro σ H9 ⟨rfl, rfl, c1, c2⟩
          have eR : rowN m y = some (wd, ws) := by
            rw [eRow, if_neg (fun z => z.elim c1 (fun k => k c2)), ew8]
          refine ⟨_, rfl, .inl ⟨rfl, _, SqL.of en8⟩, _, rfl, nl, _, _, rfl, rfl, en8, by rw [List.length_map]; exact lineS200 (by omega), ?_⟩
          have ewl9 : (upd H9 nl (.lst ((rows.map fun r => V.str r.1) ++ [.str wd]))) wl = some (.lst (us.map V.ref)) := by
            rw [upd_ne nlwl.symm]
            exact ewl8
          refine ⟨_, rfl, .inl ⟨rfl, _, SqL.of ewl9⟩, _, rfl, wl, _, _, rfl, rfl, ewl9, by rw [List.length_map]; exact lineS200 (by omega), ?_⟩
          refine ⟨_, _, _, _, _, us ++ [u8], rows ++ [(wd, ws)], rfl, ⟨?_, fun b o hb he => ?_⟩, ?_, ?_, ?_, ?_, ?_, ?_, ?_, ?_⟩
          · obtain ⟨ps, ep, r⟩ := gV.tab
            exact ⟨ps, by rw [upd_ne nwlT.symm, upd_ne nnlT.symm]; exact ep, r⟩
          · rw [upd_ne (ne_of_none he nwlH), upd_ne (ne_of_none he nnlH)]
            exact gV.old b o hb he
          · rw [upd_ne spwl, upd_ne spnl]
            exact es8
          · rw [upd_ne nlwl, upd_same, List.map_append]
            rfl
          · rw [upd_same, List.map_append]
            rfl
          · rw [List.length_append, List.length_append, lus]
            rfl
          · intro j u r h1 h2
            have key : ∀ (u : Addr) (r : WRow), u ≠ nl → u ≠ wl → H9 u = some (.lst (r.2.map iV)) → u ≠ nl ∧ u ≠ wl ∧ (upd (upd H9 nl (.lst ((rows.map fun r => V.str r.1) ++ [.str wd]))) wl (.lst (us.map V.ref ++ [.ref u8]))) u = some (.lst (r.2.map iV)) := fun u r a b c => ⟨a, b, by rw [upd_ne b, upd_ne a]; exact c⟩
            rcases snoc_cases h1 with ⟨j1, k1⟩ | ⟨j1, k1⟩
            · rcases snoc_cases h2 with ⟨j2, k2⟩ | ⟨j2, k2⟩
              · obtain ⟨a1, a2, a3⟩ := hgq j u r k1 k2
                exact key u r a1 a2 (g8.at gQ.tab a3 (fun ps z => by cases z))
              · omega
            · rcases snoc_cases h2 with ⟨j2, k2⟩ | ⟨j2, k2⟩
              · omega
              · subst k1
                subst k2
                exact key u8 (wd, ws) u8nl u8wl e8
          · intro r hr
            rcases List.mem_append.mp hr with h | h
            · exact hrl r h
            · rw [List.mem_singleton.mp h]
              exact rowN_len eR
          · rw [List.length_append, lrw]
            rfl
          · rw [er2, eR]
      · obtain ⟨y5, y6, y7, y8, y9, us, rows, rfl, g, es, enl, ewl, lus, hus, hrl, lrw, er⟩ := h
        rw [List.length_map, List.drop_length] at er
        rw [List.length_map] at lrw
        exact ⟨y5, y6, y7, y8, y9, us, rows, rfl, g, enl, ewl, lus, fun i u r h1 h2 => (hus i u r h1 h2).2.2, hrl, by omega, er⟩
    rintro σ H5 ⟨y5, y6, y7, y8, y9, us, rows, rfl, g, enl, ewl, lus, hus, hrl, lrw, er⟩
    refine ⟨_, rfl, m, rfl, by omega, by omega, fun D nD => ?_⟩
    refine lc_rangeD (K := K) (n := m) ((colsN m rows).map rowD) (noLs_row _) (by unfold colsN; rw [List.length_map, List.length_map, List.length_range]) (by omega) nD (fun k d H6 Q6 hk hdk sm q6 => ?_) (fun H6 acc sm e6 dp6 => ?_)
    · have ed : rowD (rows.map fun r => r.2.getD k 0) = d := by
        unfold colsN at hdk
        rw [List.getElem?_map, List.getElem?_map, List.getElem?_range hk] at hdk
        exact Option.some.inj hdk
      subst ed
      refine ⟨rfl, ?_⟩
      refine ⟨_, rfl, wl, rfl, ⟨_, SqL.of (sm _ _ ewl)⟩, fun D2 nD2 => ?_⟩
      refine lc_listD (xs := us.map V.ref) ((rows.map fun r => r.2.getD k 0).map iD) (noLs_int _) (by rw [List.length_map, List.length_map, List.length_map, lus]) (by rw [List.length_map]; omega) (SqL.of (sm _ _ ewl)) nD2 (fun i v d H7 Q7 hv hdi s7 q7 => ?_) (fun H7 acc s7 e7 dp7 => ?_)
      · rw [List.getElem?_map] at hv
        obtain ⟨u, eu, rfl⟩ := Option.map_eq_some_iff.mp hv
        obtain ⟨r, err⟩ : ∃ r, rows[i]? = some r := ⟨_, List.getElem?_eq_getElem (by have := (List.getElem?_eq_some_iff.mp eu).1; omega)⟩
        have ed : iD (r.2.getD k 0) = d := by
          rw [List.getElem?_map, List.getElem?_map, err] at hdi
          exact Option.some.inj hdi
        subst ed
        have hlr := hrl r (List.mem_of_getElem? err)
        have hkr : k < r.2.length := by omega
        have eat : atI (r.2.map iV) ((0 : Int) + ((k : Nat) : Int)) = some (iV (r.2.getD k 0)) := by
          rw [Int.zero_add]
          refine atI_nat ?_
          rw [List.getElem?_map, List.getElem?_eq_getElem hkr, List.getD_eq_getElem?_getD, List.getElem?_eq_getElem hkr]
          rfl
        exact ⟨rfl, _, rfl, _, rfl, u, _, _, _, rfl, rfl, SqL.of (s7 _ _ (sm _ _ (hus i u r eu err))), eat, q7 _ _ (Same.refl _) (.int _)⟩
      · refine ⟨D2, _, rfl, .inl ⟨SqL.of e7, fun t nt => ?_⟩⟩
        exact q6 _ _ (s7.trans (Same.up nt)) (.tup (SqT.of upd_same) (dps_stay (same_tup (Same.up nt)) _ _ dp7 (noLs_int _)))
    · have g6 := g.trans (grS g.tab sm)
      refine ⟨_, rfl, nl, _, rfl, .inl ⟨SqL.of (sm _ _ enl), fun t nt => ?_⟩⟩
      have st := Same.up nt (o := .tup (rows.map fun r => V.str r.1))
      refine ⟨_, rfl, D, _, rfl, .inl ⟨SqL.of (st _ _ e6), fun t2 nt2 => ⟨line200 (show 2 ≤ 1000 by decide), fun t3 nt3 => ?_⟩⟩⟩
      have st2 := Same.up nt2 (o := .tup acc)
      have st3 := Same.up nt3 (o := .tup [.ref t, .ref t2])
      refine q m rows (by rw [eP2, er]; rfl) _ _ (((g6.trans (grS g6.tab st)).trans (grS (g6.trans (grS g6.tab st)).tab st2)).trans (grS ((g6.trans (grS g6.tab st)).trans (grS (g6.trans (grS g6.tab st)).tab st2)).tab st3)) ?_
      refine .tup (SqT.of upd_same) (.cons (.tup (same_tup st3 _ _ (same_tup st2 _ _ (SqT.of upd_same))) ?_) (.cons (.tup (same_tup st3 _ _ (SqT.of upd_same)) ?_) .nil))
      · have := dps_ofs (K := K) (H := upd (upd (upd H6 t (.tup (rows.map fun r => V.str r.1))) t2 (.tup acc)) t3 (.tup [.ref t, .ref t2])) (rows.map (·.1))
        rw [List.map_map] at this
        exact this
      · exact dps_stay (same_tup ((st.trans st2).trans st3)) _ _ dp6 (noLs_row _)
end
end C1

/-! Waves written by the program. -/
namespace C1
open PySem PySem.Spec PyProof.Rows L2 SX
open K0 (Cs digs isNum)
open GxR (TabG Tabbed TabB GenS)
abbrev sPrintWaves : Stmt := topS 18
theorem scPrintWaves : FnScope ["names", "told", "lines", "which", "name", "worths", "row"] ["names", "told"] (defScope sPrintWaves) := ⟨rfl, rfl, rfl, by decide +kernel, rfl, by decide +kernel, by decide +kernel⟩
abbrev NPW : List Str := ["names", "told", "lines", "which", "name", "worths", "row"]
structure WvOk (ns : List Str) (ts : List (List Nat)) : Prop where
  nl : ns.length ≤ 5
  tl : ts.length ≤ 12
  nn : ∀ x ∈ ns, x.length ≤ 10
  rl : ∀ r ∈ ts, r.length = ns.length
  vb : ∀ r ∈ ts, ∀ v ∈ r, v < 1000
def colT (ts : List (List Nat)) (j : Nat) : List Nat := ts.map fun r => r.getD j 0
def headW (n : Nat) : Str := (Str.empty ++ Str.ofString "cycles ") ++ pS (iD n)
def lineW (ns : List Str) (ts : List (List Nat)) (j : Nat) : Str := Txt.join spB (ns.getD j (Str.ofString "") :: wvParts (colT ts j))
def linesW (ns : List Str) (ts : List (List Nat)) : List Str := headW ts.length :: (List.range ns.length).map (lineW ns ts)
theorem wvPart_len {ws : List Nat} (h : ∀ v ∈ ws, v < 1000000000) (i : Nat) (hi : i < ws.length) : (wvPart ws i).length ≤ 9 := by
  unfold wvPart
  split
  · decide +kernel
  · refine part_len (nat_part ?_)
    rw [List.getD_eq_getElem?_getD, List.getElem?_eq_getElem hi]
    exact h _ (List.getElem_mem hi)
theorem col_bd {ns : List Str} {ts : List (List Nat)} (ok : WvOk ns ts) {j : Nat} (hj : j < ns.length) : ∀ v ∈ colT ts j, v < 1000 := fun v hv => by
  obtain ⟨r, hr, rfl⟩ := List.mem_map.mp hv
  have hl := ok.rl r hr
  have hjr : j < r.length := by omega
  show r.getD j 0 < 1000
  rw [List.getD_eq_getElem?_getD, List.getElem?_eq_getElem hjr]
  exact ok.vb r hr _ (List.getElem_mem hjr)
theorem wvParts_len {ws : List Nat} (h : ∀ v ∈ ws, v < 1000) : (wvParts ws).length = ws.length ∧ ∀ p ∈ wvParts ws, p.length ≤ 9 := by
  refine ⟨by unfold wvParts; rw [List.length_map, List.length_range], fun p hp => ?_⟩
  obtain ⟨i, hi, rfl⟩ := List.mem_map.mp hp
  exact wvPart_len (fun v hv => by have := h v hv; omega) i (List.mem_range.mp hi)
theorem lineW_len {ns : List Str} {ts : List (List Nat)} (ok : WvOk ns ts) {j : Nat} (hj : j < ns.length) : (lineW ns ts j).length ≤ 200 := by
  obtain ⟨l1, l2⟩ := wvParts_len (col_bd ok hj)
  have hc : (colT ts j).length = ts.length := List.length_map _
  have := join_size (y := spB) (ps := ns.getD j (Str.ofString "") :: wvParts (colT ts j)) (b := 10) fun p hp => by
    rcases List.mem_cons.mp hp with rfl | hp
    · rw [List.getD_eq_getElem?_getD, List.getElem?_eq_getElem hj]
      exact ok.nn _ (List.getElem_mem hj)
    · exact Nat.le_succ_of_le (l2 p hp)
  have htl := ok.tl
  have e : spB.cps.size = 1 := rfl
  rw [List.length_cons, l1, hc, e] at this
  have h2 : (ts.length + 1) * (10 + 1) ≤ 13 * 11 := Nat.mul_le_mul (by omega) (Nat.le_refl _)
  show (Txt.join spB _).cps.size ≤ 200
  omega
theorem name_at {K : PySem.W.Frag} {H : Hp} {xs : List V} {ns : List Str} (h : DpAll K H xs (ns.map .str)) : xs = ns.map V.str := by
  induction ns generalizing xs with
  | nil => cases h; rfl
  | cons n r ih =>
    cases h with
    | cons a b =>
    cases a
    rw [ih b]
    rfl
theorem row_i {K : PySem.W.Frag} {H : Hp} {v : V} {r : List Nat} (h : Dp K H v (rowD r)) : ∃ t, v = .ref t ∧ SqT K H t (r.map iV) := by
  obtain ⟨t, xs, e, sq, dp⟩ := dp_tup h
  rw [dps_ints_eq dp] at sq
  exact ⟨t, e, sq⟩
section
variable {P : Program} {w : World} {K : PySem.W.Frag} {mg : Str → Option Value} {base : Heap} {T : Addr}
def spPWaves (K : PySem.W.Frag) : Sp := fun vs H Q _ => ∃ (a b : Addr) (ns : List Str) (ts : List (List Nat)), vs = [.ref a, .ref b] ∧ Dp K H (.ref a) (namesD ns) ∧ Dp K H (.ref b) (toldD ts) ∧ WvOk ns ts ∧ ∀ H', Same H H' → Q (.str (textL (linesW ns ts))) H'
theorem ok_pwaves {f fP fT : Addr} {fd fdP fdT : FuncData} (F : Fun K "print_waves" "print_waves" sPrintWaves f fd) (B : BT mg) (B2 : BD mg)
    (GP : FnOk P w K mg base CX0 2 fP fdP ["worths"] (spWp K)) (kP : PySem.W.keepIn K (.ref fP) = true) (bP : Binds K fdP ["worths"] []) (gP : mg "wave_parts" = some (.ref fP))
    (GT : FnOk P w K mg base CX0 1 fT fdT ["lines"] (spTextOf K)) (kT : PySem.W.keepIn K (.ref fT) = true) (bT : Binds K fdT ["lines"] []) (gT : mg "text_of" = some (.ref fT)) :
    FnOk P w K mg base CX0 3 f fd ["names", "told"] (spPWaves K) := by
  refine F.ok scPrintWaves (fun vs H Q E h => ?_) (fun cdv A outer s H vs Q E hr h => ?_)
  · obtain ⟨a, b, ns, ts, rfl, _⟩ := h
    rfl
  · obtain ⟨a, b, ns, ts, rfl, ha, hb, ok, q⟩ := h
    have nd := scPrintWaves.nd
    have hr2 : Room 2 _ := hr
    have hr1 : Room 1 _ := hr.mono (by decide)
    refine ⟨_, (pss_cons (ps_set (i := 2) nd rfl (.inl rfl) (pe_lst (pa_cons (pe_joined (PJ.cons pe_str (PJ.cons (pe_fmt (pe_callB call_len_seq (by rfl) B.len PySem.boot_len (pa_cons (pv 1) pa_nil))) PJ.nil))) pa_nil)))
      (C8.pss_cut (ps_for PassesOwn.never rfl (EnT.pi_enT (by rfl) B2.enumerate (pa_cons (pv 0) pa_nil)) (pg_tup (by rfl) (pgs_cons (pg_name (i := 3) nd rfl (.inr rfl)) (pgs_cons (pg_name (i := 4) nd rfl (.inl rfl)) pgs_nil))) (pss_cons (ps_setLc (i := 5) (own := [("row", 6)]) (g := gName 6) (tt := tYes) (te := tOp (rIxT K) (tVar 6) (tVar 3))  rfl nd rfl rfl (sw_true rfl rfl rfl (by decide +kernel)) (pi_tup (pv 1)) (blkOk_by (own := [("row", 6)]) (N := NPW) (sc := defScope sPrintWaves) (by decide +kernel)) (fun _ _ _ _ _ => pg_name (i := 6) nd rfl (.inl rfl)) (fun _ _ _ _ _ => pts_nil) (fun _ _ _ _ _ => by exact (pe_ix ix_tup (pv 6) (pv 3) (fun _ _ => rfl))))
      (pss_one (ps_expr (pe_bm PySem.F.plainAttrs_list PySem.F.slot_list_append PySem.F.type_list_append mt_append (pv 2) (pa_cons (pe_join (pe_str) (pe_lst (pa_cons (pv 4) (StX.pa_star (pe_call GP hr2 (by rfl) gP kP bP .nil pass0 (pa_cons (pv 5) pa_nil)) pa_nil)))) pa_nil))))))
      (pss_one (ps_ret (pe_call GT hr1 (by rfl) gT kT bT .nil pass0 (pa_cons (pv 2) pa_nil)))))), ?_⟩
    obtain ⟨a', xs, e, sqa, dpa⟩ := dp_tup ha
    cases e
    obtain rfl := name_at dpa
    obtain ⟨b', ys, e, sqb, dpb⟩ := dp_tup hb
    cases e
    have lys := dps_len dpb
    rw [List.length_map] at lys
    have htl := ok.tl
    have hnl := ok.nl
    have l2 := part_len (nat_part (n := ts.length) (by omega))
    have g2 := Pl.log (i := ((ts.length : Nat) : Int)) (nat_part (n := ts.length) (by omega))
    have z1 : (Str.ofString "cycles ").length = 7 := by decide +kernel
    have z0 : Str.empty.length = 0 := by decide +kernel
    have l2' : (Str.ofString (toString ((ts.length : Nat) : Int))).length ≤ 9 := l2
    refine ⟨_, rfl, by rw [app_len, z0, z1, sizeLine_eq]; decide, _, rfl, b, _, rfl, .inr sqb, .inr ⟨((ts.length : Nat) : Int), by rw [lys], g2, _, rfl, by rw [app_len, app_len, z0, z1, sizeLine_eq]; omega, ?_⟩⟩
    refine ⟨(by show 1 ≤ sizeLine; rw [sizeLine_eq]; decide), fun l nl => ?_⟩
    have hh : (headW ts.length).length ≤ 20 := by
      unfold headW
      rw [app_len, app_len, z0, z1]
      omega
    have s0 : Same H (upd H l (.lst [.str (headW ts.length)])) := Same.up nl
    have e0 : (upd H l (.lst [.str (headW ts.length)])) l = some (.lst [.str (headW ts.length)]) := upd_same
    show gName 2 (.ref l) _ (upd H l (.lst [.str (headW ts.length)])) _
    generalize upd H l (.lst [.str (headW ts.length)]) = H0 at s0 e0
    refine ⟨fun σ H' => ∃ (y3 y4 y5 : Option V), σ = [some (.ref a), some (.ref b), some (.ref l), y3, y4, y5, none] ∧ Same H H' ∧ H' l = some (.lst ((linesW ns ts).map V.str)), ?_, ?_⟩
    · refine ⟨_, rfl, a, _, rfl, same_tup s0 _ _ sqa, ?_⟩
      refine EnT.for_enT (xs := ns.map V.str) (fun i σ H' => ∃ (y3 y4 y5 : Option V), σ = [some (.ref a), some (.ref b), some (.ref l), y3, y4, y5, none] ∧ Same H H' ∧ H' l = some (.lst ((headW ts.length :: (List.range i).map (lineW ns ts)).map V.str))) ⟨none, none, none, rfl, s0, e0⟩ (fun i σ H' _ h => ?_) (fun i v U σ H' hv h nU => ?_) (fun σ H' h => ?_)
      · obtain ⟨_, _, _, _, g, _⟩ := h
        exact same_tup g _ _ sqa
      · obtain ⟨y3, y4, y5, rfl, g, e⟩ := h
        obtain ⟨nm, en, rfl⟩ := str_at hv
        have hil : i < ns.length := (List.getElem?_eq_some_iff.mp en).1
        have sU : Same H' (upd H' U (.tup [.int ((i : Nat) : Int), .str nm])) := Same.up nU
        refine ⟨U, _, rfl, SqT.of upd_same, rfl, _, _, rfl, _, _, rfl, rfl, ?_⟩
        generalize upd H' U (.tup [.int ((i : Nat) : Int), .str nm]) = H2 at sU
        have g2 := g.trans sU
        have e2 := sU _ _ e
        have sqb2 := same_tup g2 _ _ sqb
        have dpb2 := dps_stay (same_tup g2) _ _ dpb (noLs_row ts)
        refine ⟨_, rfl, b, rfl, ⟨_, sqb2⟩, fun D nD => ?_⟩
        refine lc_tupD (xs := ys) ((colT ts i).map iD) (noLs_int _) (by unfold colT; rw [List.length_map, List.length_map, lys]) (by omega) sqb2 nD (fun k x d H3 Q3 hxk hdk s3 q3 => ?_) (fun H3 acc s3 e3 dp3 => ?_)
        · obtain ⟨r, er, rfl⟩ : ∃ r, ts[k]? = some r ∧ iD (r.getD i 0) = d := by
            unfold colT at hdk
            rw [List.getElem?_map, List.getElem?_map] at hdk
            obtain ⟨z, h1, rfl⟩ := Option.map_eq_some_iff.mp hdk
            obtain ⟨r, h2, rfl⟩ := Option.map_eq_some_iff.mp h1
            exact ⟨r, h2, rfl⟩
          have dv : Dp K H2 x (rowD r) := dps_at dpb2 hxk (by rw [List.getElem?_map, er]; rfl)
          obtain ⟨t, rfl, st⟩ := row_i dv
          have hlr := ok.rl r (List.mem_of_getElem? er)
          have hkr : i < r.length := by omega
          have eat : atI (r.map iV) ((i : Nat) : Int) = some (iV (r.getD i 0)) := by
            refine atI_nat ?_
            rw [List.getElem?_map, List.getElem?_eq_getElem hkr, List.getD_eq_getElem?_getD, List.getElem?_eq_getElem hkr]
            rfl
          exact ⟨rfl, _, rfl, _, rfl, t, _, _, _, rfl, rfl, same_tup s3 _ _ st, eat, q3 _ _ (Same.refl _) (.int _)⟩
        · obtain rfl := dps_ints_eq dp3
          have cb := col_bd ok hil
          obtain ⟨w1, w2⟩ := wvParts_len cb
          have hc : (colT ts i).length = ts.length := List.length_map _
          have e3l := s3 _ _ e2
          refine ⟨_, rfl, .inl ⟨rfl, _, SqL.of e3l⟩, ⟨_, rfl⟩, _, rfl, _, rfl, D, colT ts i, rfl, SqL.of e3, by omega, fun v hv => by have := cb v hv; omega, fun H4 p s4 np4 e4 => ⟨p, _, rfl, .inr (SqL.of e4), ?_⟩⟩
          have hlen : ((wvParts (colT ts i)).map V.str).length = ts.length := by rw [List.length_map, w1, hc]
          refine ⟨by rw [List.append_nil, List.length_cons, hlen, sizeLine_eq]; omega, fun pl npl => ?_⟩
          have e4l := s4 _ _ e3l
          have spl := Same.up npl (o := .lst (V.str nm :: ((wvParts (colT ts i)).map V.str ++ [])))
          have enm : ns.getD i (Str.ofString "") = nm := by rw [List.getD_eq_getElem?_getD, en]; rfl
          have lnm := ok.nn nm (List.mem_of_getElem? en)
          refine ⟨Str.ofString " ", pl, nm :: wvParts (colT ts i), rfl, rfl, .inl (SqL.of (by rw [upd_same, List.append_nil]; rfl)), ?_, l, _, _, rfl, rfl, spl _ _ e4l, by rw [List.length_map, List.length_cons, List.length_map, List.length_range]; exact lineS200 (by omega), ?_⟩
          · have h1 := len_sum (xs := nm :: wvParts (colT ts i)) (b := 10) fun y hy => by
              rcases List.mem_cons.mp hy with rfl | hy
              · exact lnm
              · exact Nat.le_succ_of_le (w2 y hy)
            have h0 : (Str.ofString " ").length = 1 := by decide +kernel
            rw [List.length_cons, w1, hc] at h1 ⊢
            rw [h0]
            omega
          · refine ⟨_, _, _, rfl, fun c o hc => ?_, ?_⟩
            · rw [upd_ne (ne_of_none hc nl)]
              exact spl _ _ (s4 _ _ (s3 _ _ (g2 _ _ hc)))
            · rw [upd_same, range_snoc, List.map_cons, List.map_cons, List.map_append]
              show some (HO.lst (_ :: (_ ++ [V.str (Txt.join (Str.ofString " ") (nm :: wvParts (colT ts i)))]))) = some (HO.lst (_ :: (_ ++ [V.str (lineW ns ts i)])))
              unfold lineW
              rw [enm]
      · obtain ⟨y3, y4, y5, rfl, g, e⟩ := h
        rw [List.length_map] at e
        exact ⟨_, _, _, rfl, g, e⟩
    rintro σ H5 ⟨y3, y4, y5, rfl, g, e⟩
    refine ⟨_, rfl, l, linesW ns ts, rfl, SqL.of e, ?_, fun z hz => ?_, fun H' s' => q H' (g.trans s')⟩
    · unfold linesW
      rw [List.length_cons, List.length_map, List.length_range]
      omega
    · rcases List.mem_cons.mp hz with rfl | hz
      · omega
      · obtain ⟨j, hj, rfl⟩ := List.mem_map.mp hz
        have := lineW_len ok (List.mem_range.mp hj)
        omega
end
end C1

/-! What changes, by the program. -/
namespace C1
open PySem PySem.Spec PyProof.Rows L2 SX
abbrev sChanges : Stmt := topS 16
theorem scChanges : FnScope ["told", "found", "cycle", "row", "which", "worth"] ["told"] (defScope sChanges) := ⟨rfl, rfl, rfl, by decide +kernel, rfl, by decide +kernel, by decide +kernel⟩
abbrev NCH : List Str := ["told", "found", "cycle", "row", "which", "worth"]
abbrev Trip : Type := Nat × Nat × Nat
def tripD (c : Trip) : PyData := .tuple [iD c.1, iD c.2.1, iD c.2.2]
def atT (ts : List (List Nat)) (k j : Nat) : Nat := (ts.getD k []).getD j 0
def chg1 (ts : List (List Nat)) (k j : Nat) : List Trip := if k = 0 ∨ atT ts k j ≠ atT ts (k - 1) j then [(k, j, atT ts k j)] else []
def chgR (ts : List (List Nat)) (n k : Nat) : List Trip := (List.range n).flatMap (chg1 ts k)
def chg (ts : List (List Nat)) (n : Nat) : List Trip := (List.range ts.length).flatMap (chgR ts n)
theorem flat_snoc {β : Type} (f : Nat → List β) (i : Nat) : (List.range (i + 1)).flatMap f = (List.range i).flatMap f ++ f i := by
  rw [List.range_succ, List.flatMap_append]
  simp
theorem chg1_len (ts : List (List Nat)) (k j : Nat) : (chg1 ts k j).length ≤ 1 := by
  unfold chg1
  split
  · exact Nat.le_refl _
  · exact Nat.zero_le _
theorem flat_len {β : Type} (f : Nat → List β) (b : Nat) (h : ∀ i, (f i).length ≤ b) : ∀ n, ((List.range n).flatMap f).length ≤ n * b
  | 0 => Nat.zero_le _
  | n + 1 => by
    have ih := flat_len f b h n
    rw [flat_snoc, List.length_append, Nat.succ_mul]
    have := h n
    omega
theorem chgR_len (ts : List (List Nat)) (n k : Nat) : (chgR ts n k).length ≤ n := by
  have := flat_len (chg1 ts k) 1 (chg1_len ts k) n
  rw [Nat.mul_one] at this
  exact this
theorem noLs_trip : ∀ cs : List Trip, noLs (cs.map tripD) = true
  | [] => rfl
  | c :: r => by
    show (true && noLs (r.map tripD)) = true
    rw [noLs_trip r]
    rfl
section
variable {P : Program} {w : World} {K : PySem.W.Frag} {mg : Str → Option Value} {base : Heap} {T : Addr}
theorem told_at {H : Hp} {ys : List V} {ts : List (List Nat)} (dp : DpAll K H ys (ts.map rowD)) {k : Nat} (hk : k < ts.length) : ∃ t, ys[k]? = some (.ref t) ∧ SqT K H t ((ts.getD k []).map iV) := by
  obtain ⟨r, er⟩ : ∃ r, ts[k]? = some r := ⟨_, List.getElem?_eq_getElem hk⟩
  obtain ⟨v, ev, dv⟩ := dps_put dp (show (ts.map rowD)[k]? = some (rowD r) by rw [List.getElem?_map, er]; rfl)
  obtain ⟨t, rfl, st⟩ := row_i dv
  refine ⟨t, ev, ?_⟩
  rw [List.getD_eq_getElem?_getD, er]
  exact st
theorem row_get {r : List Nat} {j : Nat} (h : j < r.length) : (r.map iV)[j]? = some (iV (r.getD j 0)) := by
  rw [List.getElem?_map, List.getElem?_eq_getElem h, List.getD_eq_getElem?_getD, List.getElem?_eq_getElem h]
  rfl
theorem getD_mem {ts : List (List Nat)} {k : Nat} (hk : k < ts.length) : ts.getD k [] ∈ ts := by
  rw [List.getD_eq_getElem?_getD, List.getElem?_eq_getElem hk]
  exact List.getElem_mem hk
def spChg (K : PySem.W.Frag) : Sp := fun vs H Q _ => ∃ (b : Addr) (ns : List Str) (ts : List (List Nat)), vs = [.ref b] ∧ Dp K H (.ref b) (toldD ts) ∧ WvOk ns ts ∧ ∀ H' v, Same H H' → Dp K H' v (.tuple ((chg ts ns.length).map tripD)) → Q v H'
theorem ok_changes {f : Addr} {fd : FuncData} (F : Fun K "changes" "changes" sChanges f fd) (B : BT mg) (B2 : BD mg) : FnOk P w K mg base CX0 1 f fd ["told"] (spChg K) := by
  refine F.ok scChanges (fun vs H Q E h => ?_) (fun cdv A outer s H vs Q E hr h => ?_)
  · obtain ⟨b, ns, ts, rfl, _⟩ := h
    rfl
  · obtain ⟨b, ns, ts, rfl, hb, ok, q⟩ := h
    have nd := scChanges.nd
    refine ⟨_, (pss_cons (ps_set (i := 1) nd rfl (.inl rfl) (pe_lst pa_nil))
      (C8.pss_cut (ps_for PassesOwn.never rfl (EnT.pi_enT (by rfl) B2.enumerate (pa_cons (pv 0) pa_nil)) (pg_tup (by rfl) (pgs_cons (pg_name (i := 2) nd rfl (.inl rfl)) (pgs_cons (pg_name (i := 3) nd rfl (.inl rfl)) pgs_nil))) (pss_one (ps_for PassesOwn.never rfl (EnT.pi_enT (by rfl) B2.enumerate (pa_cons (pv 3) pa_nil)) (pg_tup (by rfl) (pgs_cons (pg_name (i := 4) nd rfl (.inl rfl)) (pgs_cons (pg_name (i := 5) nd rfl (.inl rfl)) pgs_nil))) (pss_one (ps_if (PW.pt (pw_or (pt_cmpR op_eq (pv 2) (pe_int) (nomark _)) (pw_or1 (pt_cmpR op_ne (pv 5) (pe_ix ix_tup (pe_ix ix_tup (pv 0) (pe_op op_sub (pv 2) (pe_int)) (fun _ _ => rfl)) (pv 4) (fun _ _ => rfl)) (nomark _))))) (pss_one (ps_expr (pe_bm PySem.F.plainAttrs_list PySem.F.slot_list_append PySem.F.type_list_append mt_append (pv 1) (pa_cons (pe_tup (pa_cons (pv 2) (pa_cons (pv 4) (pa_cons (pv 5) pa_nil)))) pa_nil)))) pss_nil)))))
      (pss_one (ps_ret (pe_callTy call_tuple_of (by rfl) B.tuple (by decide +kernel) (pa_cons (pv 1) pa_nil)))))), ?_⟩
    obtain ⟨b', ys, e, sqb, dpb⟩ := dp_tup hb
    cases e
    have lys := dps_len dpb
    rw [List.length_map] at lys
    have htl := ok.tl
    have hnl := ok.nl
    obtain ⟨n, en⟩ : ∃ n, ns.length = n := ⟨_, rfl⟩
    have hrl : ∀ r ∈ ts, r.length = n := fun r hr => by rw [← en]; exact ok.rl r hr
    rw [en] at q
    refine ⟨Nat.zero_le _, fun l nl => ?_⟩
    have s0 : Same H (upd H l (.lst [])) := Same.up nl
    have e0 : (upd H l (.lst [])) l = some (.lst []) := upd_same
    generalize upd H l (.lst []) = H0 at s0 e0
    refine ⟨fun σ H' => ∃ (y2 y3 y4 y5 : Option V) (vs : List V), σ = [some (.ref b), some (.ref l), y2, y3, y4, y5] ∧ Same H H' ∧ H' l = some (.lst vs) ∧ DpAll K H' vs ((chg ts n).map tripD), ?_, ?_⟩
    · refine ⟨_, rfl, b, _, rfl, same_tup s0 _ _ sqb, ?_⟩
      refine EnT.for_enT (xs := ys) (fun i σ H' => ∃ (y2 y3 y4 y5 : Option V) (vs : List V), σ = [some (.ref b), some (.ref l), y2, y3, y4, y5] ∧ Same H H' ∧ H' l = some (.lst vs) ∧ DpAll K H' vs (((List.range i).flatMap (chgR ts n)).map tripD)) ⟨none, none, none, none, [], rfl, s0, e0, .nil⟩ (fun i σ H' _ h => ?_) (fun i v U σ H' hv h nU => ?_) (fun σ H' h => ?_)
      · obtain ⟨_, _, _, _, _, _, g, _⟩ := h
        exact same_tup g _ _ sqb
      · obtain ⟨y2, y3, y4, y5, vs, rfl, g, e, dv⟩ := h
        have hil : i < ts.length := by have := (List.getElem?_eq_some_iff.mp hv).1; omega
        obtain ⟨t, et, st⟩ := told_at dpb hil
        have : v = .ref t := Option.some.inj (hv.symm.trans et)
        subst this
        have sU : Same H' (upd H' U (.tup [.int ((i : Nat) : Int), .ref t])) := Same.up nU
        refine ⟨U, _, rfl, SqT.of upd_same, rfl, _, _, rfl, _, _, rfl, rfl, ?_⟩
        generalize upd H' U (.tup [.int ((i : Nat) : Int), .ref t]) = H2 at sU
        have g2 := g.trans sU
        have e2 := sU _ _ e
        have dv2 := dps_stay (same_tup sU) _ _ dv (noLs_trip _)
        have hrow := hrl _ (getD_mem hil)
        refine ⟨_, rfl, t, _, rfl, same_tup g2 _ _ st, ?_⟩
        refine EnT.for_enT (xs := (ts.getD i []).map iV) (fun j σ H' => ∃ (y4 y5 : Option V) (vs : List V), σ = [some (.ref b), some (.ref l), some (.int ((i : Nat) : Int)), some (.ref t), y4, y5] ∧ Same H H' ∧ H' l = some (.lst vs) ∧ DpAll K H' vs (((List.range i).flatMap (chgR ts n) ++ (List.range j).flatMap (chg1 ts i)).map tripD)) ⟨_, _, vs, rfl, g2, e2, by rw [show (List.range 0).flatMap (chg1 ts i) = [] from rfl, List.append_nil]; exact dv2⟩ (fun j σ H' _ h => ?_) (fun j v U2 σ H' hv h nU2 => ?_) (fun σ H' h => ?_)
        · obtain ⟨_, _, _, _, g, _⟩ := h
          exact same_tup g _ _ st
        · obtain ⟨y4, y5, vs3, rfl, g3, e3, dv3⟩ := h
          have hjl : j < (ts.getD i []).length := by have := (List.getElem?_eq_some_iff.mp hv).1; rw [List.length_map] at this; exact this
          have : v = iV (atT ts i j) := Option.some.inj (hv.symm.trans (row_get hjl))
          subst this
          have sU2 : Same H' (upd H' U2 (.tup [.int ((j : Nat) : Int), iV (atT ts i j)])) := Same.up nU2
          refine ⟨U2, _, rfl, SqT.of upd_same, rfl, _, _, rfl, _, _, rfl, rfl, ?_⟩
          generalize upd H' U2 (.tup [.int ((j : Nat) : Int), iV (atT ts i j)]) = H4 at sU2
          have g4 := g3.trans sU2
          have e4 := sU2 _ _ e3
          have dv4 := dps_stay (same_tup sU2) _ _ dv3 (noLs_trip _)
          have lvs := dps_len dv4
          have hb1 := flat_len (chgR ts n) n (chgR_len ts n) i
          have hb2 := flat_len (chg1 ts i) 1 (chg1_len ts i) j
          have hb3 : i * n ≤ 12 * 5 := Nat.mul_le_mul (by omega) (by omega)
          rw [List.length_map, List.length_append] at lvs
          have done : chg1 ts i j = [] → ∃ (y4 y5 : Option V) (vs : List V), ([some (V.ref b), some (.ref l), some (.int ((i : Nat) : Int)), some (.ref t), some (.int ((j : Nat) : Int)), some (iV (atT ts i j))] : L2.St) = [some (.ref b), some (.ref l), some (.int ((i : Nat) : Int)), some (.ref t), y4, y5] ∧ Same H H4 ∧ H4 l = some (.lst vs) ∧ DpAll K H4 vs (((List.range i).flatMap (chgR ts n) ++ (List.range (j + 1)).flatMap (chg1 ts i)).map tripD) := fun ec => ⟨_, _, vs3, rfl, g4, e4, by rw [flat_snoc, ec, List.append_nil]; exact dv4⟩
          have put : chg1 ts i j = [(i, j, atT ts i j)] → ∀ p, H4 p = none → ∃ (y4 y5 : Option V) (vs : List V), ([some (V.ref b), some (.ref l), some (.int ((i : Nat) : Int)), some (.ref t), some (.int ((j : Nat) : Int)), some (iV (atT ts i j))] : L2.St) = [some (.ref b), some (.ref l), some (.int ((i : Nat) : Int)), some (.ref t), y4, y5] ∧ Same H (upd (upd H4 p (.tup [.int ((i : Nat) : Int), .int ((j : Nat) : Int), iV (atT ts i j)])) l (.lst (vs3 ++ [.ref p]))) ∧ (upd (upd H4 p (.tup [.int ((i : Nat) : Int), .int ((j : Nat) : Int), iV (atT ts i j)])) l (.lst (vs3 ++ [.ref p]))) l = some (.lst vs) ∧ DpAll K (upd (upd H4 p (.tup [.int ((i : Nat) : Int), .int ((j : Nat) : Int), iV (atT ts i j)])) l (.lst (vs3 ++ [.ref p]))) vs (((List.range i).flatMap (chgR ts n) ++ (List.range (j + 1)).flatMap (chg1 ts i)).map tripD) := fun ec p np => by
            have sp : Same H4 (upd H4 p (.tup [.int ((i : Nat) : Int), .int ((j : Nat) : Int), iV (atT ts i j)])) := Same.up np
            refine ⟨_, _, _, rfl, fun c o hc => ?_, upd_same, ?_⟩
            · rw [upd_ne (ne_of_none hc nl)]
              exact sp _ _ (g4 _ _ hc)
            · rw [flat_snoc, ec, ← List.append_assoc, List.map_append]
              exact push_dps (sp _ _ e4) (dps_stay (same_tup sp) _ _ dv4 (noLs_trip _)) (noLs_trip _) (.tup (SqT.of upd_same) (.cons (.int _) (.cons (.int _) (.cons (.int _) .nil)))) rfl
          have cT : (i = 0 ∨ atT ts i j ≠ atT ts (i - 1) j) → chg1 ts i j = [(i, j, atT ts i j)] := fun h => if_pos h
          have cF : ¬ (i = 0 ∨ atT ts i j ≠ atT ts (i - 1) j) → chg1 ts i j = [] := fun h => if_neg h
          refine ⟨_, rfl, rfl, _, rfl, ?_⟩
          by_cases h0 : i = 0
          · refine iteT' (decide_eq_true (congrArg V.int (by omega))) ⟨_, rfl, .inl ⟨rfl, _, SqL.of e4⟩, _, rfl, _, rfl, _, rfl, line200 (show 3 ≤ 1000 by decide), fun p np => ⟨l, _, _, rfl, rfl, (Same.up np) _ _ e4, lineS200 (by omega), ?_⟩⟩
            exact put (cT (.inl h0)) p np
          · refine iteF' (decide_eq_false (fun z => h0 (by have := V.int.inj z; omega))) ?_
            have hi1 : i - 1 < ts.length := by omega
            obtain ⟨t1, et1, st1⟩ := told_at dpb hi1
            have hrow1 := hrl _ (getD_mem hi1)
            have hat1 : atI ys (((i : Nat) : Int) - 1) = some (.ref t1) := by
              rw [show ((i : Nat) : Int) - 1 = ((i - 1 : Nat) : Int) by omega]
              exact atI_nat et1
            have hat2 : atI ((ts.getD (i - 1) []).map iV) ((j : Nat) : Int) = some (iV (atT ts (i - 1) j)) := atI_nat (row_get (by omega))
            refine ⟨_, rfl, _, rfl, _, rfl, _, _, rfl, rfl, b, _, _, _, rfl, rfl, same_tup g4 _ _ sqb, hat1, _, rfl, t1, _, _, _, rfl, rfl, same_tup g4 _ _ st1, hat2, rfl, _, rfl, ?_⟩
            by_cases hv : atT ts i j = atT ts (i - 1) j
            · exact iteF' (by rw [decide_eq_true (by rw [hv])]; rfl) (done (cF (fun z => z.elim h0 (fun k => k hv))))
            · refine iteT' (by rw [decide_eq_false (fun z => hv (by have := V.int.inj z; omega))]; rfl) ⟨_, rfl, .inl ⟨rfl, _, SqL.of e4⟩, _, rfl, _, rfl, _, rfl, line200 (show 3 ≤ 1000 by decide), fun p np => ⟨l, _, _, rfl, rfl, (Same.up np) _ _ e4, lineS200 (by omega), ?_⟩⟩
              exact put (cT (.inr hv)) p np
        · obtain ⟨y4, y5, vs3, rfl, g3, e3, dv3⟩ := h
          rw [List.length_map, hrow] at dv3
          exact ⟨_, _, _, _, vs3, rfl, g3, e3, by rw [flat_snoc]; exact dv3⟩
      · obtain ⟨y2, y3, y4, y5, vs, rfl, g, e, dv⟩ := h
        rw [lys] at dv
        exact ⟨_, _, _, _, vs, rfl, g, e, dv⟩
    rintro σ H5 ⟨y2, y3, y4, y5, vs, rfl, g, e, dv⟩
    refine ⟨_, rfl, l, _, rfl, .inl ⟨SqL.of e, fun t nt => ?_⟩⟩
    exact q _ _ (g.trans (Same.up nt)) (.tup (SqT.of upd_same) (dps_stay (same_tup (Same.up nt)) _ _ dv (noLs_trip _)))
end
end C1

/-! {k: v for ..} whose keys are tuples. -/
namespace DcT
open PySem PySem.Spec PyProof.Rows L2
variable {X : Cx}
/-- a pair laid into a dict whose keys are tuples, by the comprehension's own step -/
theorem lay {pins : List (Addr × Obj)} {σ : L2.St} {H : Hp} {t : Shared} {E : Value → Shared → Prop} {D b : Addr} {ps : List (List L2.Key × V)} {key : List L2.Key} {v : V} {r : Value} {Q : Unit → Shared → Prop}
    (room : X.A.units < cLine) (J : Inv X pins σ H t) (eD : H D = some (.dT ps)) (lt : ps.length < sizeLine) (eb : H b = some (.tup (key.map kV))) (rr : RelV v r)
    (go : ∀ t', Inv X pins σ (upd H D (.dT (putK ps key v))) t' → Q () t') : wpAny (model X.prog X.w) X.A (dictSet D (.ref b) r) Q E t := by
  obtain ⟨z1, z2, ys, rel, dd⟩ := dt_of J.hok eD
  have z3 := length_putK ps key v
  have z4 := Paired.length rel
  apply wpAny_dictSet_heap (knd := tupleKind (mixKind X.prog X.w)) (hsz := by omega) room (key_of J.hok eb) dd
  rintro h' ⟨ob, es, ep, q1, q2, q3, q4, q5, q6⟩ same
  have kept : KT (upd H D (.dT (putK ps key v))) (putK ps key v) (storedH ys key b r) := (rel.put key eb rr).keeps fun c zs ec => by
    have : c ≠ D := ne_of ec eD (fun z => nomatch z)
    rw [upd_ne this, ec]
  exact go _ (d_write J (by rw [eD]; trivial) same ⟨ob, q1⟩ ⟨by omega, z2, _, kept, ob, es, ep, q1, q2, q3, q4, q6⟩)
def tDcT (ti : TI) (tg : TG) (tt : TT) (tk tv : TE) (ws : List Nat) : TE := fun σ H Q => ti σ H fun J Hi => ∀ D, Hi D = none → ∃ W : Nat → Nat → Hp → Prop, (∃ m, W 0 m (upd Hi D (.dT []))) ∧ ∀ i m G, W i m G →
  (J.stop i G ∧ Q (.ref D) G) ∨ (J.go i G ∧ ∃ Nx : Hp → Prop, (∀ G', Nx G' → ∃ m', m' < m ∧ W (i + 1) m' G') ∧ ∀ x G', J.yld i G x G' → tg x (wipe σ ws) G' fun σ2 G2 => wipe σ2 ws = wipe σ ws ∧ tt σ2 G2 fun b G3 =>
    if b = true then tk σ2 G3 fun y G4 => tv σ2 G4 fun z G5 => ∃ ps key c, y = .ref c ∧ G5 c = some (.tup (key.map kV)) ∧ G5 D = some (.dT ps) ∧ ps.length < sizeLine ∧ Nx (upd G5 D (.dT (putK ps key z))) else Nx G3)
theorem core {pins : List (Addr × Obj)} {t0 : Shared} {σ : L2.St} {H0 : Hp} {Q : VK} {ke ve tgt src : Expr} {cs : List Expr} {sc : Scope} {own : List (Str × Nat)} {pp pq : Pos} {ti : TI} {tg : TG} {tt : TT} {tk tv : TE} {Qf : Value → Shared → Prop}
    (calm : X.calm = true) (room : X.A.units < cLine) (nodup : X.N.Nodup) (J0 : Inv X pins σ H0 t0) (walk : PI X tgt src ti) (bk : BlkOk X.N X.env.scope sc own)
    (g1 : ∀ (s : Shared) (H : Hp) (C : Addr) (cl : List (Str × Addr)) (fp : List Addr), PG (X.blk s H sc (compEnvC sc cl C X.env) fp) tgt tg)
    (g2 : ∀ (s : Shared) (H : Hp) (C : Addr) (cl : List (Str × Addr)) (fp : List Addr), PTs (X.blk s H sc (compEnvC sc cl C X.env) fp) cs tt)
    (g3 : ∀ (s : Shared) (H : Hp) (C : Addr) (cl : List (Str × Addr)) (fp : List Addr), PE (X.blk s H sc (compEnvC sc cl C X.env) fp) ke tk)
    (g4 : ∀ (s : Shared) (H : Hp) (C : Addr) (cl : List (Str × Addr)) (fp : List Addr), PE (X.blk s H sc (compEnvC sc cl C X.env) fp) ve tv)
    (fs : ∀ x, foldedSetIterable src X.env x = pure x) (rd : tDcT ti tg tt tk tv (own.map (·.2)) σ H0 Q)
    (fin : ∀ D C t m G, Inv X pins σ G t → Q (.ref D) G → t.heap.Ns C m → FpOk X pins G C → compPost (model X.prog X.w) X.A X.xe none Qf (.ref D) C (.ok .next) t) :
    wpAny (model X.prog X.w) X.A (comprehension (.DictComp ke ve [⟨tgt, src, cs, 0⟩] sc pp) sc X.env pq newDict false (eval src X.env) none) Qf X.xe t0 := by
  have outer : ∀ y ∈ sc.names, y.2 = .free → ∃ c, X.env.cells.lookup y.1 = some c := by
    intro y hy ey
    cases bk.free y hy ey with
    | inl z => exact J0.ok.has _ (Or.inl z)
    | inr z => exact J0.ok.has _ (Or.inr z)
  apply wpAny_comprehension_free (use := none) rfl fs (closure_ok outer) bk.kind (by intro y hy ey; rw [bk.uniq y hy, ey])
  apply thn (walk.run pins t0 σ H0 _ J0 rd)
  intro xv t1 hx
  apply thn hx
  rintro itv t2 ⟨it, fp, tn, W0, H1, rfl, J1, tr, st1, fpo, loopd⟩
  refine wpAny_newObj_type (newEnv_comp ?body)
  -- the dict, empty
  obtain ⟨D, eD⟩ : ∃ D, D = t2.heap.objs.size := ⟨_, rfl⟩
  have nD : H1 D = none := J1.hok.fresh (Nat.le_of_eq eD.symm)
  obtain ⟨W, ⟨m0, start⟩, turn⟩ := loopd D nD
  obtain ⟨t3, e3⟩ : ∃ t3 : Shared, t3 = { t2 with heap := t2.heap.push { cls := .type "dict", data := .dict #[] } } := ⟨_, rfl⟩
  have h3 : t3.heap = t2.heap.push { cls := .type "dict", data := .dict #[] } := by rw [e3]
  have keep3 : ∀ b o, t2.heap.get? b = some o → t3.heap.get? b = some o := fun b o e => by
    rw [h3]
    exact Heap.get?_push_of_some _ e
  have J2 : Inv X pins σ (upd H1 D (.dT [])) t3 := by
    subst e3 eD
    exact J1.laid (t' := t2.toks) (fun _ _ e => Heap.get?_push_of_some _ e) (Nat.le_refl _) (dt_empty t2.heap J1.big)
  have low : ∀ b ∈ fp, b < D := fun b hb => by
    obtain ⟨o, e, _⟩ := tr.obj _ _ st1 b hb
    rw [eD]
    exact Heap.lt_size e
  have fp3 : ∀ b ∈ fp, FpOk X pins (upd H1 D (.dT [])) b ∧ b < t3.heap.objs.size := fun b hb => by
    have l1 := low b hb
    constructor
    · refine ⟨?_, (fpo b hb).2⟩
      rw [upd_ne (Nat.ne_of_lt l1)]
      exact (fpo b hb).1
    · rw [h3, Heap.size_push, ← eD]
      exact Nat.lt_succ_of_lt l1
  have st3 : tn 0 t3.heap := tr.keep _ _ _ st1 fun b _ o e => keep3 b o e
  have J3 := block_start J2 bk nodup fp3
  have p1 := g1 t3 (upd H1 D (.dT [])) t3.heap.objs.size (cellsFrom (t3.heap.objs.size + 1) sc.names (cloFrom X.env.cells sc.names [])) fp
  have p2 := g2 t3 (upd H1 D (.dT [])) t3.heap.objs.size (cellsFrom (t3.heap.objs.size + 1) sc.names (cloFrom X.env.cells sc.names [])) fp
  have p3 := g3 t3 (upd H1 D (.dT [])) t3.heap.objs.size (cellsFrom (t3.heap.objs.size + 1) sc.names (cloFrom X.env.cells sc.names [])) fp
  have p4 := g4 t3 (upd H1 D (.dT [])) t3.heap.objs.size (cellsFrom (t3.heap.objs.size + 1) sc.names (cloFrom X.env.cells sc.names [])) fp
  rw [← eD, ← e3]
  have gone : ∀ b ∈ fp, (upd H1 D (.dT [])) b = none := fun b hb => (fp3 b hb).1.1
  obtain ⟨C, eC⟩ : ∃ C, C = t3.heap.objs.size := ⟨_, rfl⟩
  rw [← eC] at J3 p1 p2 p3 p4 ⊢
  obtain ⟨ce, ece⟩ : ∃ ce, ce = compEnvC sc (cellsFrom (C + 1) sc.names (cloFrom X.env.cells sc.names [])) C X.env := ⟨_, rfl⟩
  rw [← ece] at J3 p1 p2 p3 p4
  have loc : ce.locals = C := by rw [ece]; rfl
  obtain ⟨G0, eG0⟩ : ∃ G0, G0 = upd H1 D (.dT []) := ⟨_, rfl⟩
  rw [← eG0] at J2 J3 p1 p2 p3 p4 start gone fp3
  obtain ⟨t4, e4⟩ : ∃ t4 : Shared, t4 = { t3 with heap := pushCells (t3.heap.push { cls := .type "dict", data := .dict #[] }) sc.names } := ⟨_, rfl⟩
  rw [← e4] at J3
  have st4 : tn 0 t4.heap := tr.keep _ _ _ st3 fun b _ o e => by
    rw [e4]
    exact pushCells_keeps _ _ _ _ (Heap.get?_push_of_some _ e)
  have still : ∀ {σ' : L2.St} {G : Hp} {t : Shared}, Inv (X.blk t3 G0 sc ce fp) [] σ' G t → (∀ b ∈ fp, G b = none) → ∀ b ∈ fp, FpOk (X.blk t3 G0 sc ce fp) [] G b := by
    intro σ' G t J free b hb
    obtain ⟨x1, x2⟩ := J.ok.exf b hb
    refine ⟨free b hb, x1, J.ok.exfs b hb, Or.inl hb, x2, ?_⟩
    intro p hp
    cases hp
  have run : codeAny (model X.prog X.w) X.A (.compLoop (.DictComp ke ve [⟨tgt, src, cs, 0⟩] sc pp) 0 (.ref it) (.ref D) ce) (compPost (model X.prog X.w) X.A X.xe none Qf (.ref D) C) t4 := by
    let BX := X.blk t3 G0 sc ce fp
    let ws := own.map (·.2)
    apply compLoop_anyD (fun n t => ∃ i G, Inv BX [] (wipe σ ws) G t ∧ tn i t.heap ∧ (∀ b ∈ fp, G b = none) ∧ W i n G) ?step m0 ⟨0, G0, J3, st4, gone, start⟩
    rintro n t ⟨i, G, J, st, free, here⟩
    cases turn i n G here with
    | inl over =>
      obtain ⟨stp, qq⟩ := over
      apply thnF (tr.done BX rfl rfl rfl calm i [] t _ G (fun _ _ => False) J (still J free) st stp)
      rintro r t' ⟨er, J'⟩
      subst er
      have away : ∀ b ∈ fp, _ := fun b hb => (fp3 b hb).1.2
      have back : Inv X pins σ G t' := J2.call' (ch := fp) J'.os J'.base J'.hok J'.bare fun b hb => by
        obtain ⟨v1, v2, v3, v4, v5⟩ := away b hb
        exact ⟨v3, v1, v4, v5⟩
      have nC : G C = none := by
        have z : G ce.locals = none := J'.free
        rw [loc] at z
        exact z
      obtain ⟨m, hm, _⟩ := J'.loc
      have hm2 : t'.heap.Ns ce.locals m := hm
      rw [loc] at hm2
      exact fin D C t' m G back qq hm2 (J2.fpOk (Nat.le_of_eq eC.symm) nC)
    | inr more =>
      obtain ⟨go, Nx, nxt, stepd⟩ := more
      apply thnF (tr.item BX rfl rfl rfl calm i [] t _ G (fun _ _ => False) J (still J free) st go)
      rintro r t5 ⟨u, er, h5⟩
      subst er
      apply thnF h5
      rintro _ t6 ⟨x, G6, J6, r6, y6, st6, f6⟩
      have J6p := J6.pinned (still J6 f6) (tr.obj _ _ st6)
      apply thnF (p1.run _ t6 _ G6 x u _ J6p r6 (stepd x G6 y6))
      rintro _ t7 ⟨σ7, G7, J7, w7, q7⟩
      apply thnF (p2.run _ t7 σ7 G7 _ J7 q7)
      rintro b t8 ⟨G8, J8, q8⟩
      have next : ∀ (t' : Shared) (G' : Hp), Inv BX ([] ++ pinsAt fp t6.heap) σ7 G' t' → Nx G' → ∃ m, m < n ∧ ∃ i G, Inv BX [] (wipe σ ws) G t' ∧ tn i t'.heap ∧ (∀ b ∈ fp, G b = none) ∧ W i m G := by
        intro t' G' Jn nx
        obtain ⟨m', lm, wn⟩ := nxt G' nx
        have pinned : ∀ b ∈ fp, ∀ o, t6.heap.get? b = some o → t'.heap.get? b = some o ∧ G' b = none := by
          intro b hb o e
          obtain ⟨k1, k2, _⟩ := Jn.pin (b, o) (List.mem_append_right _ (List.mem_append_right _ (mem_pinsAt hb e)))
          exact ⟨k1, k2⟩
        have len : (wipe σ ws).length = σ7.length := by
          rw [← w7]
          exact wipe_length ..
        have weak : Inv BX [] (wipe σ ws) G' t' := (Jn.unpinned (pins := [])).weak len (by
          intro j v e
          rw [← w7] at e
          exact (wipe_some e).1)
        have kept : tn (i + 1) t'.heap := tr.keep _ _ _ st6 (fun b hb o e => (pinned b hb o e).1)
        refine ⟨m', lm, i + 1, G', weak, kept, ?_, wn⟩
        intro b hb
        obtain ⟨o, e, _⟩ := tr.obj _ _ st6 b hb
        exact (pinned b hb o e).2
      by_cases hb : b = true
      · subst hb
        rw [if_pos rfl] at q8
        show wpAny _ _ _ _ _ _
        apply thnF (p3.run _ t8 σ7 G8 _ J8 q8)
        rintro kv t9 ⟨yk, G9, J9, r9, q9⟩
        apply thnF (p4.run _ t9 σ7 G9 _ J9 q9)
        rintro vv ta ⟨yv, Ga, Ja, ra, ps, key, c, rfl, ec, eDa, lt, nx⟩
        cases r9
        exact lay (X := BX) room Ja eDa lt ec ra fun t' J' => next t' _ J' nx
      · rw [if_neg hb] at q8
        have hb2 : b = false := Bool.eq_false_iff.mpr hb
        subst hb2
        exact next t8 G8 J8 q8
  show codeAny _ _ (.compStart (.DictComp ke ve [⟨tgt, src, cs, 0⟩] sc pp) 0 (.ref it) (.ref D) (compEnvC sc (cellsFrom (C + 1) sc.names (cloFrom X.env.cells sc.names [])) C X.env)) (compPost (model X.prog X.w) X.A X.xe none Qf (.ref D) C) { t3 with heap := pushCells (t3.heap.push { cls := .type "dict", data := .dict #[] }) sc.names }
  rw [← ece, ← e4]
  exact codeAny_compStart_dict run (tr.self X.A 0 _ _ _ st4 run)
/-- as a value -/
theorem pe_dcT {ke ve tgt src : Expr} {cs : List Expr} {sc : Scope} {own : List (Str × Nat)} {pp : Pos} {ti : TI} {tg : TG} {tt : TT} {tk tv : TE} (room : X.A.units < cLine) (calm : X.calm = true) (nodup : X.N.Nodup) (walk : PI X tgt src ti) (bk : BlkOk X.N X.env.scope sc own)
    (g1 : ∀ (s : Shared) (H : Hp) (C : Addr) (cl : List (Str × Addr)) (fp : List Addr), PG (X.blk s H sc (compEnvC sc cl C X.env) fp) tgt tg)
    (g2 : ∀ (s : Shared) (H : Hp) (C : Addr) (cl : List (Str × Addr)) (fp : List Addr), PTs (X.blk s H sc (compEnvC sc cl C X.env) fp) cs tt)
    (g3 : ∀ (s : Shared) (H : Hp) (C : Addr) (cl : List (Str × Addr)) (fp : List Addr), PE (X.blk s H sc (compEnvC sc cl C X.env) fp) ke tk)
    (g4 : ∀ (s : Shared) (H : Hp) (C : Addr) (cl : List (Str × Addr)) (fp : List Addr), PE (X.blk s H sc (compEnvC sc cl C X.env) fp) ve tv) (fs : ∀ x, foldedSetIterable src X.env x = pure x := by intro _; rfl) :
    PE X (.DictComp ke ve [⟨tgt, src, cs, 0⟩] sc pp) (tDcT ti tg tt tk tv (own.map (·.2))) := by
  constructor
  intro pins t σ H Q J h
  rw [arm_eval_DictComp]
  apply core calm room nodup J walk bk g1 g2 g3 g4 fs h
  rintro D C t' m G J' q hn ⟨f0, f1, f2, f3, f4, f5⟩
  refine ⟨m, hn, fun h2 sb => ?_⟩
  have J2 := J'.turned (t' := t'.toks) (fun c o hc e => (sb.2 c hc).trans e) f0 f1 f3 f4 f5
  exact ⟨.ref D, G, J2, rfl, q⟩
/-- over a tuple -/
theorem dcT_tup {K : PySem.W.Frag} {a : Addr} {xs : List V} {tg : TG} {tt : TT} {tk tv : TE} {ws : List Nat} {σ : L2.St} {H1 : Hp} {D : Addr} {Qd : Hp → Prop} (Rv : Nat → Hp → Prop) (st : Rv 0 (upd H1 D (.dT []))) (tup : ∀ i H, i ≤ xs.length → Rv i H → SqT K H a xs)
    (one : ∀ i x G, xs[i]? = some x → Rv i G → tg x (wipe σ ws) G fun σ2 G2 => wipe σ2 ws = wipe σ ws ∧ tt σ2 G2 fun b G3 =>
      if b = true then tk σ2 G3 fun y G4 => tv σ2 G4 fun z G5 => ∃ ps key c, y = .ref c ∧ G5 c = some (.tup (key.map kV)) ∧ G5 D = some (.dT ps) ∧ ps.length < sizeLine ∧ Rv (i + 1) (upd G5 D (.dT (putK ps key z))) else Rv (i + 1) G3) (done : ∀ H, Rv xs.length H → Qd H) :
    ∃ W : Nat → Nat → Hp → Prop, (∃ m, W 0 m (upd H1 D (.dT []))) ∧ ∀ i m G, W i m G →
      ((Itt K a).stop i G ∧ Qd G) ∨ ((Itt K a).go i G ∧ ∃ Nx : Hp → Prop, (∀ G', Nx G' → ∃ m', m' < m ∧ W (i + 1) m' G') ∧ ∀ x G', (Itt K a).yld i G x G' → tg x (wipe σ ws) G' fun σ2 G2 => wipe σ2 ws = wipe σ ws ∧ tt σ2 G2 fun b G3 =>
        if b = true then tk σ2 G3 fun y G4 => tv σ2 G4 fun z G5 => ∃ ps key c, y = .ref c ∧ G5 c = some (.tup (key.map kV)) ∧ G5 D = some (.dT ps) ∧ ps.length < sizeLine ∧ Nx (upd G5 D (.dT (putK ps key z))) else Nx G3) := by
  refine ⟨fun i m G => m + i = xs.length ∧ Rv i G, ⟨xs.length, by omega, st⟩, ?_⟩
  rintro i m G ⟨hm, r⟩
  have sq := tup i G (by omega) r
  by_cases lt : i < xs.length
  · right
    refine ⟨⟨xs, xs[i], sq, by simp [lt]⟩, Rv (i + 1), ?_, ?_⟩
    · intro G' r'
      exact ⟨m - 1, by omega, by omega, r'⟩
    · rintro x G' ⟨rfl, y⟩
      exact one i x _ (y xs sq) r
  · left
    have : i = xs.length := by omega
    subst this
    exact ⟨⟨xs, sq, Nat.le_refl _⟩, done G r⟩
end DcT

/-! What changes, filled, by the program. -/
namespace C1
open PySem PySem.Spec PyProof.Rows L2 SX
abbrev sFilled : Stmt := topS 17
theorem scFilled : FnScope ["found", "cycles", "changed", "row", "told", "cycle", "which", "worth", "_"] ["found", "cycles"] (defScope sFilled) := ⟨rfl, rfl, rfl, by decide +kernel, rfl, by decide +kernel, by decide +kernel⟩
abbrev NFI : List Str := ["found", "cycles", "changed", "row", "told", "cycle", "which", "worth", "_"]
abbrev kT2 (k j : Nat) : List L2.Key := [Sum.inl ((k : Nat) : Int), Sum.inl ((j : Nat) : Int)]
theorem kT2_inj {k j k' j' : Nat} (h : kT2 k j = kT2 k' j') : k = k' ∧ j = j' := by
  have h1 := Sum.inl.inj (List.cons.inj h).1
  have h2 := Sum.inl.inj (List.cons.inj (List.cons.inj h).2).1
  omega
theorem mem_chg {ts : List (List Nat)} {n : Nat} {c : Trip} : c ∈ chg ts n ↔ c.1 < ts.length ∧ c.2.1 < n ∧ (c.1 = 0 ∨ atT ts c.1 c.2.1 ≠ atT ts (c.1 - 1) c.2.1) ∧ c.2.2 = atT ts c.1 c.2.1 := by
  unfold chg chgR chg1
  simp only [List.mem_flatMap, List.mem_range]
  constructor
  · rintro ⟨k, hk, j, hj, hc⟩
    split at hc
    · rename_i h
      rw [List.mem_singleton.mp hc]
      exact ⟨hk, hj, h, rfl⟩
    · cases hc
  · rintro ⟨a, b, d, e⟩
    refine ⟨c.1, a, c.2.1, b, ?_⟩
    rw [if_pos d, ← e]
    exact List.mem_singleton.mpr rfl
theorem flat_flt {α β : Type} (f : α → List β) (p : β → Bool) : ∀ l : List α, (l.flatMap f).filter p = l.flatMap fun x => (f x).filter p
  | [] => rfl
  | x :: l => by
    rw [List.flatMap_cons, List.flatMap_cons, List.filter_append, flat_flt f p l]
theorem chg_zero (ts : List (List Nat)) (n : Nat) (h : 0 < ts.length) : ((chg ts n).filter fun c => decide (c.1 = 0)).length = n := by
  unfold chg
  obtain ⟨N, hN⟩ : ∃ N, ts.length = N + 1 := ⟨ts.length - 1, by omega⟩
  rw [hN, List.range_succ_eq_map, List.flatMap_cons, List.filter_append, flat_flt]
  have e1 : (chgR ts n 0).filter (fun c => decide (c.1 = 0)) = chgR ts n 0 := List.filter_eq_self.mpr fun c hc => by
    unfold chgR chg1 at hc
    obtain ⟨j, _, h2⟩ := List.mem_flatMap.mp hc
    rw [if_pos (.inl rfl)] at h2
    rw [List.mem_singleton.mp h2]
    rfl
  have e2 : ((List.range N).map Nat.succ).flatMap (fun x => (chgR ts n x).filter fun c => decide (c.1 = 0)) = [] := by
    refine List.flatMap_eq_nil_iff.mpr fun x hx => ?_
    obtain ⟨y, _, rfl⟩ := List.mem_map.mp hx
    refine List.filter_eq_nil_iff.mpr fun c hc => ?_
    unfold chgR chg1 at hc
    obtain ⟨j, _, h2⟩ := List.mem_flatMap.mp hc
    split at h2
    · rw [List.mem_singleton.mp h2]
      simp
    · cases h2
  rw [e1, e2, List.append_nil]
  unfold chgR
  have e3 : ∀ m, ((List.range m).flatMap (chg1 ts 0)).length = m := fun m => by
    induction m with
    | zero => rfl
    | succ m ih =>
      rw [flat_snoc, List.length_append, ih]
      have : (chg1 ts 0 m).length = 1 := by
        unfold chg1
        rw [if_pos (.inl rfl)]
        rfl
      rw [this]
  exact e3 n
section
variable {P : Program} {w : World} {K : PySem.W.Frag} {mg : Str → Option Value} {base : Heap} {T : Addr}
theorem lc_enL {a : Addr} {xs : List V} {g : TG} {te : TE} {ws : List Nat} {σ : L2.St} {H1 : Hp} {D : Addr} {Qd : Hp → Prop} (Rv : Nat → Hp → Prop) (h0 : Rv 0 (upd H1 D (.lst []))) (hl : ∀ i H, i ≤ xs.length → Rv i H → SqL K H a xs)
    (hs : ∀ i x T H, xs[i]? = some x → Rv i H → H T = none → g (.ref T) (wipe σ ws) (upd H T (.tup [.int (i : Nat), x])) fun σ2 H2 => wipe σ2 ws = wipe σ ws ∧ tYes σ2 H2 fun b H3 =>
      if b = true then te σ2 H3 fun y H4 => ∃ acc, H4 D = some (.lst acc) ∧ acc.length < sizeLine ∧ Rv (i + 1) (upd H4 D (.lst (acc ++ [y]))) else Rv (i + 1) H3) (hd : ∀ H, Rv xs.length H → Qd H) :
    ∃ W : Nat → Nat → Hp → Prop, (∃ m, W 0 m (upd H1 D (.lst []))) ∧ ∀ i m H, W i m H →
      ((Ite K a).stop i H ∧ Qd H) ∨ ((Ite K a).go i H ∧ ∃ Nx : Hp → Prop, (∀ H', Nx H' → ∃ m', m' < m ∧ W (i + 1) m' H') ∧ ∀ x H', (Ite K a).yld i H x H' → g x (wipe σ ws) H' fun σ2 H2 => wipe σ2 ws = wipe σ ws ∧ tYes σ2 H2 fun b H3 =>
        if b = true then te σ2 H3 fun y H4 => ∃ acc, H4 D = some (.lst acc) ∧ acc.length < sizeLine ∧ Nx (upd H4 D (.lst (acc ++ [y]))) else Nx H3) := by
  refine ⟨fun i m H => m = xs.length - i ∧ i ≤ xs.length ∧ Rv i H, ?_, ?_⟩
  · exact ⟨xs.length, rfl, Nat.zero_le _, h0⟩
  rintro i m H ⟨rfl, hi, q⟩
  have sq := hl i H hi q
  by_cases lt : i < xs.length
  · refine .inr ⟨⟨xs, xs[i], sq, by simp [lt]⟩, Rv (i + 1), fun H' q' => ⟨xs.length - (i + 1), by omega, rfl, lt, q'⟩, fun v H' y => ?_⟩
    obtain ⟨T, x, rfl, nT, rfl, hx⟩ := y
    exact hs i x T H (hx xs sq) q nT
  · obtain rfl : i = xs.length := by omega
    exact .inl ⟨⟨xs, sq, Nat.le_refl _⟩, hd H q⟩
theorem trip_at {H : Hp} {xs : List V} {cs : List Trip} (dp : DpAll K H xs (cs.map tripD)) {i : Nat} {v : V} (hv : xs[i]? = some v) : ∃ c t, cs[i]? = some c ∧ v = .ref t ∧ SqT K H t [iV c.1, iV c.2.1, iV c.2.2] := by
  obtain ⟨d, hd, dv⟩ := dps_get dp hv
  rw [List.getElem?_map] at hd
  obtain ⟨c, ec, rfl⟩ := Option.map_eq_some_iff.mp hd
  obtain ⟨t, ys, e, sq, dys⟩ := dp_tup dv
  have : ys = [iV c.1, iV c.2.1, iV c.2.2] := by
    cases dys with
    | cons a r =>
    cases r with
    | cons b r =>
    cases r with
    | cons d r =>
    cases r
    cases a
    cases b
    cases d
    rfl
  subst this
  exact ⟨c, t, ec, e, sq⟩
def spFill (K : PySem.W.Frag) : Sp := fun vs H Q _ => ∃ (a : Addr) (ns : List Str) (ts : List (List Nat)), vs = [.ref a, iV ts.length] ∧ Dp K H (.ref a) (.tuple ((chg ts ns.length).map tripD)) ∧ WvOk ns ts ∧ ∀ H' v, Same H H' → Dp K H' v (toldD ts) → Q v H'
theorem ok_filled {f : Addr} {fd : FuncData} (F : Fun K "filled" "filled" sFilled f fd) (B : BT mg) (B2 : BD mg) (BL : Bl mg) : FnOk P w K mg base CX0 1 f fd ["found", "cycles"] (spFill K) := by
  refine F.ok scFilled (fun vs H Q E h => ?_) (fun cdv A outer s H vs Q E hr h => ?_)
  · obtain ⟨a, ns, ts, rfl, _⟩ := h
    rfl
  · obtain ⟨a, ns, ts, rfl, ha, ok, q⟩ := h
    have nd := scFilled.nd
    have hu := Nat.lt_of_le_of_lt (Nat.le_add_right _ 64) hr.units
    have hud := hu_of hr
    refine ⟨_, (pss_cons (ps_set (i := 2) nd rfl (.inr rfl) (DcT.pe_dcT (own := [("cycle", 5), ("which", 6), ("worth", 7)]) (tg := gTup K 3 (gCons (gName 5) (gCons (gName 6) (gCons (gName 7) gNil)))) (tt := tYes) (tk := tTup (tCons (tVar 5) (tCons (tVar 6) tNil))) (tv := tVar 7) hu rfl nd (pi_tup (pv 0)) (blkOk_by (own := [("cycle", 5), ("which", 6), ("worth", 7)]) (N := NFI) (sc := defScope sFilled) (by decide +kernel)) (fun _ _ _ _ _ => pg_tup (by rfl) (pgs_cons (pg_name (i := 5) nd rfl (.inl rfl)) (pgs_cons (pg_name (i := 6) nd rfl (.inl rfl)) (pgs_cons (pg_name (i := 7) nd rfl (.inl rfl)) pgs_nil)))) (fun _ _ _ _ _ => pts_nil) (fun _ _ _ _ _ => by exact (pe_tup (pa_cons (pv 5) (pa_cons (pv 6) pa_nil)))) (fun _ _ _ _ _ => by exact (pv 7))))
      (pss_cons (ps_set (i := 3) nd rfl (.inl rfl) (pe_op op_rep (pe_lst (pa_cons (pe_non) pa_nil)) (pe_callB call_len_seq (by rfl) B.len PySem.boot_len (pa_cons (pe_lc (own := [("cycle", 5), ("_", 8)]) (g := gTup K 3 (gCons (gName 5) (gCons (gName 8) (gCons (gName 8) (gNil))))) (tt := tTest (tOp rEq (tVar 5) (tC (.int 0)))) (te := tVar 5)  rfl nd (pi_tup (pv 0)) (blkOk_by (own := [("cycle", 5), ("_", 8)]) (N := NFI) (sc := defScope sFilled) (by decide +kernel)) (fun _ _ _ _ _ => pg_tup (by rfl) (pgs_cons (pg_name (i := 5) nd rfl (.inl rfl)) (pgs_cons (pg_name (i := 8) nd rfl (.inl rfl)) (pgs_cons (pg_name (i := 8) nd rfl (.inl rfl)) pgs_nil)))) (fun _ _ _ _ _ => pts_one (pt_cmpR op_eq (pv 5) (pe_int) (nomark _))) (fun _ _ _ _ _ => by exact (pv 5))) pa_nil))))
      (pss_cons (ps_set (i := 4) nd rfl (.inl rfl) (pe_lst pa_nil))
      (C8.pss_cut (ps_for PassesOwn.never rfl (pi_range1 (by rfl) BL.range (pa_cons (pv 1) pa_nil)) (pg_name (i := 5) nd rfl (.inr rfl)) (pss_cons (ps_setLc (i := 3) (own := [("which", 6), ("worth", 7)]) (g := gTup K 2 (gCons (gName 6) (gCons (gName 7) (gNil)))) (tt := tYes) (te := tDGet2 (tVar 2) (tTup (tCons (tVar 5) (tCons (tVar 6) tNil))) (tVar 7))  rfl nd rfl rfl (sw_true rfl rfl rfl (by decide +kernel)) (pi_enum (by rfl) B2.enumerate (pa_cons (pv 3) pa_nil)) (blkOk_by (own := [("which", 6), ("worth", 7)]) (N := NFI) (sc := defScope sFilled) (by decide +kernel)) (fun _ _ _ _ _ => pg_tup (by rfl) (pgs_cons (pg_name (i := 6) nd rfl (.inl rfl)) (pgs_cons (pg_name (i := 7) nd rfl (.inl rfl)) pgs_nil))) (fun _ _ _ _ _ => pts_nil) (fun _ _ _ _ _ => by exact (pe_dget2 hud (pv 2) (pe_tup (pa_cons (pv 5) (pa_cons (pv 6) pa_nil))) (pv 7) ⟨rfl, rfl, rfl, rfl⟩)))
      (pss_one (ps_expr (pe_bm PySem.F.plainAttrs_list PySem.F.slot_list_append PySem.F.type_list_append mt_append (pv 4) (pa_cons (pe_callTy call_tuple_of (by rfl) B.tuple (by decide +kernel) (pa_cons (pv 3) pa_nil)) pa_nil))))))
      (pss_one (ps_ret (pe_callTy call_tuple_of (by rfl) B.tuple (by decide +kernel) (pa_cons (pv 4) pa_nil)))))))), ?_⟩
    obtain ⟨a', xs, e, sqa, dpa⟩ := dp_tup ha
    cases e
    have lxs := dps_len dpa
    rw [List.length_map] at lxs
    have htl := ok.tl
    have hnl := ok.nl
    obtain ⟨n, en⟩ : ∃ n, ns.length = n := ⟨_, rfl⟩
    have hrl : ∀ r ∈ ts, r.length = n := fun r hr => by rw [← en]; exact ok.rl r hr
    rw [en] at dpa lxs hnl
    obtain ⟨cs, ecs⟩ : ∃ cs, chg ts n = cs := ⟨_, rfl⟩
    have lcs : cs.length ≤ 60 := by
      rw [← ecs]
      have := flat_len (chgR ts n) n (chgR_len ts n) ts.length
      have h3 : ts.length * n ≤ 12 * 5 := Nat.mul_le_mul (by omega) (by omega)
      unfold chg
      omega
    rw [ecs] at dpa lxs
    refine ⟨_, rfl, a, rfl, ⟨_, sqa⟩, fun D nD => ?_⟩
    refine DcT.dcT_tup (xs := xs) (fun i G => Same H G ∧ ∃ ps : List (List L2.Key × V), G D = some (.dT ps) ∧ ps.length ≤ i ∧ ∀ k j : Nat, valV ps (kT2 k j) = if ∃ c ∈ cs.take i, c.1 = k ∧ c.2.1 = j then some (iV (atT ts k j)) else none) ⟨Same.up nD, [], upd_same, Nat.le_refl _, fun k j => ?_⟩ (fun i G _ h => same_tup h.1 _ _ sqa) (fun i v G hv h => ?_) (fun G h => ?_)
    · rw [if_neg (fun z => by obtain ⟨c, hc, _⟩ := z; cases hc)]
      rfl
    · obtain ⟨sm, ps, eD, lps, hv2⟩ := h
      obtain ⟨c, t, ec, rfl, st⟩ := trip_at dpa hv
      have hi : i < cs.length := (List.getElem?_eq_some_iff.mp ec).1
      have hc : c ∈ chg ts n := by rw [ecs]; exact List.mem_of_getElem? ec
      have hcv := (mem_chg.mp hc).2.2.2
      refine ⟨t, _, rfl, same_tup sm _ _ st, rfl, _, _, rfl, _, _, rfl, _, _, rfl, rfl, rfl, ?_⟩
      refine ⟨_, rfl, _, rfl, line200 (show 2 ≤ 1000 by decide), fun kt nkt => ⟨_, rfl, ps, kT2 c.1 c.2.1, kt, rfl, upd_same, (Same.up nkt) _ _ eD, lineS200 (by omega), fun b o hb => ?_, _, upd_same, ?_, fun k j => ?_⟩⟩
      · rw [upd_ne (ne_of_none hb nD), upd_ne (ne_of_none (sm _ _ hb) nkt)]
        exact sm _ _ hb
      · have := length_putK ps (kT2 c.1 c.2.1) (iV c.2.2)
        omega
      · rw [valV_put, hv2]
        by_cases hk : kT2 k j = kT2 c.1 c.2.1
        · obtain ⟨rfl, rfl⟩ := kT2_inj hk
          rw [if_pos rfl, if_pos ⟨c, by rw [take_snoc ec]; exact List.mem_append_right _ (List.mem_singleton.mpr rfl), rfl, rfl⟩, hcv]
        · rw [if_neg hk]
          have iff : (∃ c ∈ cs.take i, c.1 = k ∧ c.2.1 = j) ↔ ∃ c ∈ cs.take (i + 1), c.1 = k ∧ c.2.1 = j := by
            rw [take_snoc ec]
            constructor
            · rintro ⟨d, hd, z⟩
              exact ⟨d, List.mem_append_left _ hd, z⟩
            · rintro ⟨d, hd, z⟩
              rcases List.mem_append.mp hd with y | y
              · exact ⟨d, y, z⟩
              · rw [List.mem_singleton.mp y] at z
                exact absurd (by rw [z.1, z.2]) hk
          by_cases h : ∃ c ∈ cs.take i, c.1 = k ∧ c.2.1 = j
          · rw [if_pos h, if_pos (iff.mp h)]
          · rw [if_neg h, if_neg (fun z => h (iff.mpr z))]
    obtain ⟨sm, ps, eD, lps, hval⟩ := h
    rw [lxs, List.take_length] at hval
    have hval2 : ∀ k j, k < ts.length → j < n → valV ps (kT2 k j) = if k = 0 ∨ atT ts k j ≠ atT ts (k - 1) j then some (iV (atT ts k j)) else none := fun k j hk hj => by
      rw [hval]
      by_cases h : k = 0 ∨ atT ts k j ≠ atT ts (k - 1) j
      · rw [if_pos h, if_pos ⟨(k, j, atT ts k j), by rw [← ecs]; exact mem_chg.mpr ⟨hk, hj, h, rfl⟩, rfl, rfl⟩]
      · rw [if_neg h, if_neg (fun z => ?_)]
        obtain ⟨c, hc, rfl, rfl⟩ := z
        rw [← ecs] at hc
        exact h (mem_chg.mp hc).2.2.1
    -- the first row
    refine ⟨(by show 1 ≤ sizeLine; rw [sizeLine_eq]; decide), fun l1 n1 => ?_⟩
    have s1 : Same G (upd G l1 (.lst [.non])) := Same.up n1
    have e1 : (upd G l1 (.lst [.non])) l1 = some (.lst [.non]) := upd_same
    have sqa1 := same_tup (sm.trans s1) _ _ sqa
    have dpa1 := dps_stay (same_tup (sm.trans s1)) _ _ dpa (noLs_trip cs)
    refine ⟨_, rfl, a, rfl, ⟨_, sqa1⟩, fun D2 nD2 => ?_⟩
    obtain ⟨G1, eG1⟩ : ∃ G1, upd G l1 (.lst [.non]) = G1 := ⟨_, rfl⟩
    rw [eG1] at nD2 sqa1 dpa1 e1 s1 ⊢
    refine lc_tup (xs := xs) (fun i H5 => Same G1 H5 ∧ H5 D2 = some (.lst (((cs.take i).filter fun c => decide (c.1 = 0)).map fun c => iV c.1))) ⟨Same.up nD2, upd_same⟩ (fun i H5 _ h => same_tup h.1 _ _ sqa1) (fun i v H5 hv h => ?_) (fun H5 h => ?_)
    · obtain ⟨sm5, e5⟩ := h
      obtain ⟨c, t, ec, rfl, st⟩ := trip_at dpa1 hv
      refine ⟨t, _, rfl, same_tup sm5 _ _ st, rfl, _, _, rfl, _, _, rfl, _, _, rfl, rfl, rfl, _, rfl, rfl, _, rfl, ?_⟩
      have hi : i < cs.length := (List.getElem?_eq_some_iff.mp ec).1
      by_cases h0 : c.1 = 0
      · refine iteT' (decide_eq_true (congrArg V.int (by omega))) ⟨_, rfl, _, e5, ?_, same_put sm5 nD2, ?_⟩
        · rw [List.length_map]
          have := List.length_filter_le (fun c : Trip => decide (c.1 = 0)) (cs.take i)
          rw [List.length_take] at this
          exact lineS200 (by omega)
        · rw [upd_same, take_snoc ec, List.filter_append, List.filter_cons_of_pos (p := fun c : Trip => decide (c.1 = 0)) (decide_eq_true h0), List.filter_nil, List.map_append]
          rfl
      · refine iteF' (decide_eq_false (fun z => h0 (by have := V.int.inj z; omega))) ⟨sm5, ?_⟩
        rw [take_snoc ec, List.filter_append, List.filter_cons_of_neg (by rw [decide_eq_false h0]; decide), List.filter_nil, List.append_nil]
        exact e5
    obtain ⟨sm5, e5⟩ := h
    rw [lxs, List.take_length] at e5
    obtain ⟨R, eR⟩ : ∃ R, (cs.filter fun c => decide (c.1 = 0)).length = R := ⟨_, rfl⟩
    have hR : R ≤ 60 := by
      rw [← eR]
      exact Nat.le_trans (List.length_filter_le _ _) lcs
    have hRn : 0 < ts.length → R = n := fun h => by
      rw [← eR, ← ecs]
      exact chg_zero ts n h
    have rep : ∀ m, ((List.replicate m [V.non]).flatten).length = m := fun m => by
      induction m with
      | zero => rfl
      | succ m ih =>
        rw [List.replicate_succ, List.flatten_cons, List.length_append, ih]
        show 1 + m = m + 1
        omega
    refine ⟨D2, _, rfl, .inl (SqL.of e5), l1, ((R : Nat) : Int), [.non], rfl, by rw [List.length_map, eR], sm5 _ _ e1, by omega, by omega, by rw [sizeLine_eq]; show 1 * _ ≤ _; omega, fun rp nrp => ?_⟩
    have sr : Same H5 (upd H5 rp (.lst (List.replicate ((R : Nat) : Int).toNat [V.non]).flatten)) := Same.up nrp
    have er : (upd H5 rp (.lst (List.replicate ((R : Nat) : Int).toNat [V.non]).flatten)) rp = some (.lst (List.replicate ((R : Nat) : Int).toNat [V.non]).flatten) := upd_same
    have lr : (List.replicate ((R : Nat) : Int).toNat [V.non]).flatten.length = R := by
      rw [rep]
      omega
    generalize (List.replicate ((R : Nat) : Int).toNat [V.non]).flatten = rv0 at sr er lr
    show gName 3 (.ref rp) _ (upd H5 rp (.lst rv0)) _
    have s05 : Same H H5 := (sm.trans s1).trans sm5
    have eD5 := sm5 _ _ (s1 _ _ eD)
    have eD6 := sr _ _ eD5
    have s06 := s05.trans sr
    generalize upd H5 rp (.lst rv0) = H6 at sr er eD6 s06
    refine ⟨Nat.zero_le _, fun L nL => ?_⟩
    have sL : Same H6 (upd H6 L (.lst [])) := Same.up nL
    have rpL : rp ≠ L := fun z => by rw [z, nL] at er; cases er
    have DL : D ≠ L := fun z => by rw [z, nL] at eD6; cases eD6
    have nLH : H L = none := by
      cases h : H L with
      | none => rfl
      | some o => rw [s06 _ _ h] at nL; cases nL
    refine ⟨fun σ H' => ∃ (y3 y5 : Option V) (tl : List V), σ = [some (.ref a), some (iV ts.length), some (.ref D), y3, some (.ref L), y5, none, none, none] ∧ Same H H' ∧ H' L = some (.lst tl) ∧ DpAll K H' tl (ts.map rowD), ?_, ?_⟩
    · refine ⟨_, rfl, _, rfl, by omega, by omega, for_range (n := ts.length) (fun i σ H' => ∃ (y5 : Option V) (rp : Addr) (rv tl : List V), σ = [some (.ref a), some (iV ts.length), some (.ref D), some (.ref rp), some (.ref L), y5, none, none, none] ∧ Same H H' ∧ H' D = some (.dT ps) ∧ H' rp = some (.lst rv) ∧ rp ≠ L ∧ rv.length = R ∧ (∀ i', i = i' + 1 → rv = (ts.getD i' []).map iV) ∧ H' L = some (.lst tl) ∧ DpAll K H' tl ((ts.take i).map rowD)) ⟨none, rp, rv0, [], rfl, s06.trans sL, sL _ _ eD6, sL _ _ er, rpL, lr, (fun i' h => by omega), upd_same, .nil⟩ (fun i σ H' hi h => ?_) (fun σ H' h => ?_)⟩
      · obtain ⟨y5, rp, rv, tl, rfl, g, eDg, erg, rpL, lrv, hrv, eLg, dtl⟩ := h
        have hRn' := hRn (by omega)
        have hrow := hrl _ (getD_mem hi)
        rw [Int.zero_add]
        refine ⟨_, rfl, rp, _, rfl, SqL.of erg, fun D3 nD3 => ?_⟩
        refine lc_enL (xs := rv) (fun j H7 => Same H' H7 ∧ H7 D3 = some (.lst (((List.range j).map fun j => atT ts i j).map iV))) ⟨Same.up nD3, upd_same⟩ (fun j H7 _ h => SqL.of (h.1 _ _ erg)) (fun j v U H7 hv h nU => ?_) (fun H7 h => ?_)
        · obtain ⟨s7, e7⟩ := h
          have hj : j < n := by have := (List.getElem?_eq_some_iff.mp hv).1; omega
          have sU : Same H7 (upd H7 U (.tup [.int ((j : Nat) : Int), v])) := Same.up nU
          refine ⟨U, _, rfl, SqT.of upd_same, rfl, _, _, rfl, _, _, rfl, rfl, rfl, ?_⟩
          generalize upd H7 U (.tup [.int ((j : Nat) : Int), v]) = H8 at sU
          have s8 := s7.trans sU
          have eD8 := s8 _ _ eDg
          refine ⟨_, rfl, D, rfl, .inr ⟨ps, .inl eD8⟩, _, rfl, _, rfl, line200 (show 2 ≤ 1000 by decide), fun kt nkt => ?_⟩
          have sk : Same H8 (upd H8 kt (.tup [.int ((i : Nat) : Int), .int ((j : Nat) : Int)])) := Same.up nkt
          refine ⟨_, rfl, _, DGet.t (k := kT2 i j) (sk _ _ eD8) upd_same, ?_⟩
          have ev : (valV ps (kT2 i j)).getD v = iV (atT ts i j) := by
            rw [hval2 i j hi hj]
            by_cases hc : i = 0 ∨ atT ts i j ≠ atT ts (i - 1) j
            · rw [if_pos hc]
              rfl
            · rw [if_neg hc]
              obtain ⟨i', rfl⟩ : ∃ i', i = i' + 1 := ⟨i - 1, by have : i ≠ 0 := fun z => hc (.inl z); omega⟩
              have h1 : ¬ atT ts (i' + 1) j ≠ atT ts i' j := fun z => hc (.inr z)
              have h2 := hrv i' rfl
              have h3 := hrl _ (getD_mem (ts := ts) (k := i') (by omega))
              rw [h2] at hv
              have := row_get (r := ts.getD i' []) (j := j) (by omega)
              rw [this] at hv
              show v = _
              rw [← Option.some.inj hv]
              show iV (atT ts i' j) = _
              rw [Classical.not_not.mp h1]
          rw [ev]
          have e8 := sk _ _ (sU _ _ e7)
          refine ⟨_, e8, by rw [List.length_map, List.length_map, List.length_range]; exact lineS200 (by omega), same_put (s8.trans sk) nD3, ?_⟩
          rw [upd_same, range_snoc, List.map_append]
          rfl
        · obtain ⟨s7, e7⟩ := h
          have el : ((List.range rv.length).map fun j => atT ts i j) = ts.getD i [] := by
            refine List.ext_getElem? fun j => ?_
            by_cases hj : j < n
            · rw [List.getElem?_map, List.getElem?_range (by omega)]
              show some (atT ts i j) = _
              unfold atT
              rw [List.getD_eq_getElem?_getD, List.getElem?_eq_getElem (show j < (ts.getD i []).length by omega)]
              rfl
            · rw [List.getElem?_eq_none (by rw [List.length_map, List.length_range]; omega), List.getElem?_eq_none (by omega)]
          rw [el] at e7
          have eL7 := s7 _ _ eLg
          have eD7 := s7 _ _ eDg
          have D3L : D3 ≠ L := fun z => by rw [z, eLg] at nD3; cases nD3
          refine ⟨_, rfl, .inl ⟨rfl, _, SqL.of eL7⟩, _, rfl, D3, _, rfl, .inl ⟨SqL.of e7, fun t nt => ?_⟩⟩
          have stt : Same H7 (upd H7 t (.tup ((ts.getD i []).map iV))) := Same.up nt
          have ltl := dps_len dtl
          rw [List.length_map, List.length_take] at ltl
          refine ⟨L, _, _, rfl, rfl, stt _ _ eL7, lineS200 (by omega), ?_⟩
          refine ⟨_, D3, (ts.getD i []).map iV, tl ++ [.ref t], rfl, fun b o hb => ?_, ?_, ?_, D3L, by rw [List.length_map, hrow, hRn'], fun i' h => ?_, upd_same, ?_⟩
          · rw [upd_ne (ne_of_none hb nLH)]
            exact stt _ _ (s7 _ _ (g _ _ hb))
          · rw [upd_ne DL]
            exact stt _ _ eD7
          · rw [upd_ne D3L]
            exact stt _ _ e7
          · have : i' = i := by omega
            rw [this]
          · obtain ⟨r, er⟩ : ∃ r, ts[i]? = some r := ⟨_, List.getElem?_eq_getElem hi⟩
            have egr : ts.getD i [] = r := by rw [List.getD_eq_getElem?_getD, er]; rfl
            rw [take_snoc er, List.map_append]
            refine push_dps (stt _ _ eL7) (dps_stay (same_tup (s7.trans stt)) _ _ dtl (noLs_row _)) (noLs_row _) (.tup (SqT.of upd_same) ?_) (by show noLs (r.map iD) = true; exact noLs_int _)
            rw [egr]
            exact dps_ints r
      · obtain ⟨y5, rp, rv, tl, rfl, g, eDg, erg, rpL, lrv, hrv, eLg, dtl⟩ := h
        rw [List.take_length] at dtl
        exact ⟨_, _, tl, rfl, g, eLg, dtl⟩
    rintro σ H7 ⟨y3, y5, tl, rfl, g, eL7, dtl⟩
    refine ⟨_, rfl, L, _, rfl, .inl ⟨SqL.of eL7, fun t nt => ?_⟩⟩
    exact q _ _ (g.trans (Same.up nt)) (.tup (SqT.of upd_same) (dps_stay (same_tup (Same.up nt)) _ _ dtl (noLs_row _)))
end
end C1

/-! The law's lines and numbers. -/
namespace C1
open PySem PySem.Spec PyProof.Rows L2 SX
open K0 (Cs digs isNum)
abbrev sLawNumber : Stmt := topS 26
abbrev sLawLines : Stmt := topS 25
theorem scLawNumber : FnScope ["text", "sign"] ["text"] (defScope sLawNumber) := ⟨rfl, rfl, rfl, by decide +kernel, rfl, by decide +kernel, by decide +kernel⟩
abbrev NLNu : List Str := ["text", "sign"]
theorem scLawLines : FnScope ["names", "told", "lines", "which", "parts", "k"] ["names", "told"] (defScope sLawLines) := ⟨rfl, rfl, rfl, by decide +kernel, rfl, by decide +kernel, by decide +kernel⟩
abbrev NLLs : List Str := ["names", "told", "lines", "which", "parts", "k"]
abbrev rStrInt : List V → Hp → VK → Prop := fun xs H Q => ∃ i, xs = [.int i] ∧ i.natAbs.log2 < 1920 ∧ Q (.str (toString i)) H
def lnV (x : Str) : Int := if numB x = true then ((numV x : Nat) : Int) else -1
theorem headW_eq (n : Nat) : Str.ofString "cycles " ++ pS (iD n) = headW n := by
  unfold headW
  apply TL.ext_tl
  show (Str.ofString "cycles " ++ pS (iD n)).cps.toList = ((Str.empty ++ Str.ofString "cycles ") ++ pS (iD n)).cps.toList
  rw [app_cs, app_cs, app_cs]
  have e : Str.empty.cps.toList = [] := by decide +kernel
  rw [e]
  rfl
theorem col_get {ts : List (List Nat)} {k j : Nat} (hk : k < ts.length) : (colT ts j).getD k 0 = atT ts k j := by
  unfold colT atT
  rw [List.getD_eq_getElem?_getD, List.getElem?_map, List.getElem?_eq_getElem hk, List.getD_eq_getElem?_getD, List.getD_eq_getElem?_getD, List.getElem?_eq_getElem hk]
  rw [Option.map_some, Option.getD_some, Option.getD_some, List.getD_eq_getElem?_getD]
section
variable {P : Program} {w : World} {K : PySem.W.Frag} {mg : Str → Option Value} {base : Heap} {T : Addr}
def spLNum : Sp := fun vs H Q _ => ∃ x : Str, vs = [.str x] ∧ LnB 600 x ∧ ∀ H', Same H H' → Q (.int (lnV x)) H'
theorem ok_lnumber {f : Addr} {fd : FuncData} (F : Fun K "_law_number" "_law_number" sLawNumber f fd) (B : BT mg) : FnOk P w K mg base CX0 1 f fd ["text"] spLNum := by
  refine F.ok scLawNumber (fun vs H Q E h => ?_) (fun cdv A outer s H vs Q E hr h => ?_)
  · obtain ⟨x, rfl, _⟩ := h
    rfl
  · obtain ⟨x, rfl, hx, q⟩ := h
    have ha := hx.as
    have hz0 := hx.sz
    have hz : x.cps.size ≤ 100000 := Nat.le_trans hz0 (by decide)
    obtain ⟨t, rfl⟩ : ∃ t : Cs, x = S t := ⟨cs x, (S_tl x).symm⟩
    have nd := scLawNumber.nd
    have hu := hr.units
    have hl : t.length ≤ sizeLine := by
      rw [sizeLine_eq]
      have : t.length ≤ 100000 := hz
      omega
    have eB : numB (S t) = isNum t := rfl
    have qf : numB (S t) = false → ∀ H', Same H H' → Q (.int (-1)) H' := fun e H' s => by
      have := q H' s
      unfold lnV at this
      rw [e] at this
      exact this
    refine ⟨_, (C8.pss_cut (ps_if (PW.pt (pw_or (pt_cmpR op_eq (pv 0) (pe_str) (nomark _)) (pw_or (pt_cmpR (op_neD hu) (pe_lc (own := [("sign", 1)]) (g := gName 1) (tt := tTest (tOp rNotInSign (tVar 1) (tC (.str "0123456789")))) (te := tVar 1)  rfl nd (pi_str (pv 0)) (blkOk_by (own := [("sign", 1)]) (N := NLNu) (sc := defScope sLawNumber) (by decide +kernel)) (fun _ _ _ _ _ => pg_name (i := 1) nd rfl (.inl rfl)) (fun _ _ _ _ _ => pts_one (pt_cmpR op_notIn_sign (pv 1) (pe_str) rfl)) (fun _ _ _ _ _ => by exact (pv 1))) (pe_lst pa_nil) (nomark _)) (pw_or1 (PW.pt (pw_and (pt_cmpR op_eq (pe_ix ix_str (pv 0) (pe_int) (fun _ _ => rfl)) (pe_str) (nomark _)) (pw_and1 (pt_cmpR op_ne (pv 0) (pe_str) (nomark _))))))))) (pss_one (ps_ret (pe_un un_neg pe_int))) pss_nil)
      (pss_one (ps_ret (pe_callTy call_int_str (by rfl) B.int (by decide +kernel) (pa_cons (pv 0) pa_nil))))), ?_⟩
    refine ⟨fun σ H' => σ = [some (.str (S t)), none] ∧ Same H H' ∧ numB (S t) = true, ?_, ?_⟩
    · refine ⟨_, rfl, rfl, _, rfl, ?_⟩
      rw [dec_S (b := []) (x := "") rfl]
      cases t with
      | nil => exact iteT ⟨_, rfl, qf rfl H (Same.refl H)⟩
      | cons c r =>
        refine iteF ?_
        have isN : ∀ (n : ¬ (c = 48 ∧ r ≠ [])), isNum (c :: r) = (c :: r).all fun d => decide (d ∈ digs) := fun n => if_neg n
        refine ⟨_, rfl, _, rfl, fun D nD => ?_⟩
        refine lc_strF (x := S (c :: r)) (pb := fun c => !decide (c ∈ digs)) hz (fun c H1 R k => ⟨_, rfl, c, _, rfl, rfl, _, rfl, k⟩) (fun v => ⟨rfl, rfl⟩) ?_
        refine ⟨Nat.zero_le _, fun z nz => ?_⟩
        have sD : Same H (upd (upd H D (.lst ((((c :: r).filter fun c => !decide (c ∈ digs))).map sgn))) z (.lst [])) := (Same.up nD).trans (Same.up nz)
        have eD := (Same.up (o := .lst []) nz) D _ (upd_same (H := H) (a := D) (o := .lst ((((c :: r).filter fun c => !decide (c ∈ digs))).map sgn)))
        refine ⟨.list (((c :: r).filter fun c => !decide (c ∈ digs)).map sgD), .list [], .lst (SqL.of eD) (dps_sgn _), .lst (SqL.of upd_same) .nil, shaped_list _ (fun d hd => ?_), shaped_list [] (fun d hd => by cases hd), _, rfl, ?_⟩
        · obtain ⟨k, hk, rfl⟩ := List.mem_map.mp hd
          have h1 := ha k (List.mem_filter.mp hk).1
          refine ⟨?_, Nat.zero_le _⟩
          show (Array.all #[k] fun c => decide (c < 0x110000)) = true
          simp
          omega
        rw [eqv_nil]
        by_cases hall : ∀ k ∈ c :: r, k ∈ digs
        · have e0 : (c :: r).filter (fun c => !decide (c ∈ digs)) = [] := List.filter_eq_nil_iff.mpr fun k hk => by rw [decide_eq_true (hall k hk)]; decide
          have hA : (c :: r).all (fun d => decide (d ∈ digs)) = true := List.all_eq_true.mpr fun k hk => decide_eq_true (hall k hk)
          generalize hH : (upd (upd H D (.lst ((((c :: r).filter fun c => !decide (c ∈ digs))).map sgn))) z (.lst [])) = H2 at sD
          rw [e0]
          refine iteF ?_
          refine ⟨_, rfl, _, _, c, rfl, rfl, len_S hl, at_S (i := 0) rfl, rfl, _, rfl, ?_⟩
          rw [dec_sig (k := 48) (x := "0") rfl]
          by_cases hc : c = 48
          · rw [decide_eq_true hc]
            refine iteT ?_
            refine ⟨_, rfl, rfl, _, rfl, ?_⟩
            rw [dec_S (b := [48]) (x := "0") rfl]
            by_cases hr2 : r = []
            · refine iteF' (by rw [decide_eq_true (by rw [hc, hr2])]; rfl) ?_
              refine ⟨rfl, sD, ?_⟩
              rw [eB, isN (fun z => z.2 hr2), hA]
            · refine iteT' (by rw [decide_eq_false (fun z => hr2 (List.cons.inj z).2)]; rfl) ⟨_, rfl, qf ?_ _ sD⟩
              rw [eB, show isNum (c :: r) = false from if_pos ⟨hc, hr2⟩]
          · rw [decide_eq_false hc]
            refine iteF ?_
            refine ⟨rfl, sD, ?_⟩
            rw [eB, isN (fun z => hc z.1), hA]
        · have e0 : ((List.filter (fun c => !decide (c ∈ digs)) (c :: r)).map sgD).isEmpty = false := by
            obtain ⟨k, hk⟩ := Classical.not_forall.mp hall
            obtain ⟨h1, h2⟩ := Classical.not_imp.mp hk
            have : k ∈ List.filter (fun c => !decide (c ∈ digs)) (c :: r) := List.mem_filter.mpr ⟨h1, by rw [decide_eq_false h2]; rfl⟩
            cases e : List.filter (fun c => !decide (c ∈ digs)) (c :: r) with
            | nil => rw [e] at this; cases this
            | cons _ _ => rfl
          rw [e0]
          refine iteT ⟨_, rfl, qf ?_ _ sD⟩
          rw [eB]
          have : isNum (c :: r) = false := by
            by_cases hn : c = 48 ∧ r ≠ []
            · exact if_pos hn
            · rw [isN hn]
              exact Bool.eq_false_iff.mpr fun z => hall fun k hk => of_decide_eq_true (List.all_eq_true.mp z k hk)
          rw [this]
    rintro σ H1 ⟨rfl, s1, hb⟩
    obtain ⟨hi, h6⟩ := num_int hb hz0
    refine ⟨_, rfl, S t, _, rfl, hi, h6, ?_⟩
    have := q H1 s1
    unfold lnV at this
    rw [hb] at this
    exact this
def spLLines (K : PySem.W.Frag) : Sp := fun vs H Q _ => ∃ (a b : Addr) (ns : List Str) (ts : List (List Nat)), vs = [.ref a, .ref b] ∧ Dp K H (.ref a) (namesD ns) ∧ Dp K H (.ref b) (toldD ts) ∧ WvOk ns ts ∧ ∀ H' p, Same H H' → H p = none → H' p = some (.lst ((linesW ns ts).map V.str)) → Q (.ref p) H'
theorem ok_llines {f : Addr} {fd : FuncData} (F : Fun K "_law_lines" "_law_lines" sLawLines f fd) (B : BT mg) (BL : Bl mg) : FnOk P w K mg base CX0 1 f fd ["names", "told"] (spLLines K) := by
  refine F.ok scLawLines (fun vs H Q E h => ?_) (fun cdv A outer s H vs Q E hr h => ?_)
  · obtain ⟨a, b, ns, ts, rfl, _⟩ := h
    rfl
  · obtain ⟨a, b, ns, ts, rfl, ha, hb, ok, q⟩ := h
    have nd := scLawLines.nd
    refine ⟨_, (pss_cons (ps_set (i := 2) nd rfl (.inl rfl) (pe_lst (pa_cons (pe_op op_add_str (pe_str) (pe_callTy call_str_int (by rfl) BL.str (by decide +kernel) (pa_cons (pe_callB call_len_seq (by rfl) B.len PySem.boot_len (pa_cons (pv 1) pa_nil)) pa_nil))) pa_nil)))
      (C8.pss_cut (ps_for PassesOwn.never rfl (pi_range1 (by rfl) BL.range (pa_cons (pe_callB call_len_seq (by rfl) B.len PySem.boot_len (pa_cons (pv 0) pa_nil)) pa_nil)) (pg_name (i := 3) nd rfl (.inl rfl)) (pss_cons (ps_set (i := 4) nd rfl (.inl rfl) (pe_lst (pa_cons (pe_ix ix_tup (pv 0) (pv 3) (fun _ _ => rfl)) pa_nil)))
      (C8.pss_cut (ps_for PassesOwn.never rfl (pi_range1 (by rfl) BL.range (pa_cons (pe_callB call_len_seq (by rfl) B.len PySem.boot_len (pa_cons (pv 1) pa_nil)) pa_nil)) (pg_name (i := 5) nd rfl (.inl rfl)) (pss_one (ps_expr (pe_bm PySem.F.plainAttrs_list PySem.F.slot_list_append PySem.F.type_list_append mt_append (pv 4) (pa_cons (pe_ifExp (PW.pt (pw_and (pt_cmpR op_gt (pv 5) (pe_int) (nomark _)) (pw_and1 (pt_cmpR op_eq (pe_ix ix_tup (pe_ix ix_tup (pv 1) (pv 5) (fun _ _ => rfl)) (pv 3) (fun _ _ => rfl)) (pe_ix ix_tup (pe_ix ix_tup (pv 1) (pe_op op_sub (pv 5) (pe_int)) (fun _ _ => rfl)) (pv 3) (fun _ _ => rfl)) (nomark _))))) (pe_str) (pe_callTy call_str_int (by rfl) BL.str (by decide +kernel) (pa_cons (pe_ix ix_tup (pe_ix ix_tup (pv 1) (pv 5) (fun _ _ => rfl)) (pv 3) (fun _ _ => rfl)) pa_nil))) pa_nil)))))
      (pss_one (ps_expr (pe_bm PySem.F.plainAttrs_list PySem.F.slot_list_append PySem.F.type_list_append mt_append (pv 2) (pa_cons (pe_join (pe_str) (pv 4)) pa_nil)))))))
      (pss_one (ps_ret (pv 2))))), ?_⟩
    obtain ⟨a', xs, e, sqa, dpa⟩ := dp_tup ha
    cases e
    obtain rfl := name_at dpa
    obtain ⟨b', ys, e, sqb, dpb⟩ := dp_tup hb
    cases e
    have lys := dps_len dpb
    rw [List.length_map] at lys
    have htl := ok.tl
    have hnl := ok.nl
    have l2 := part_len (nat_part (n := ts.length) (by omega))
    have g2 := Pl.log (i := ((ts.length : Nat) : Int)) (nat_part (n := ts.length) (by omega))
    have z1 : (Str.ofString "cycles ").length = 7 := by decide +kernel
    have l2' : (Str.ofString (toString ((ts.length : Nat) : Int))).length ≤ 9 := l2
    refine ⟨_, rfl, b, _, rfl, .inr sqb, ?_⟩
    rw [lys]
    refine ⟨_, rfl, g2, _, _, rfl, rfl, by rw [z1, sizeLine_eq]; omega, (by show 1 ≤ sizeLine; rw [sizeLine_eq]; decide), fun l nl => ?_⟩
    show gName 2 (.ref l) _ (upd H l (.lst [.str (Str.ofString "cycles " ++ pS (iD ts.length))])) _
    rw [headW_eq]
    have s0 : Same H (upd H l (.lst [.str (headW ts.length)])) := Same.up nl
    have e0 : (upd H l (.lst [.str (headW ts.length)])) l = some (.lst [.str (headW ts.length)]) := upd_same
    generalize upd H l (.lst [.str (headW ts.length)]) = H0 at s0 e0
    refine ⟨fun σ H' => ∃ (y3 y4 y5 : Option V), σ = [some (.ref a), some (.ref b), some (.ref l), y3, y4, y5] ∧ Same H H' ∧ H' l = some (.lst ((linesW ns ts).map V.str)), ?_, ?_⟩
    · refine ⟨_, rfl, a, _, rfl, .inr (same_tup s0 _ _ sqa), ns.length, by rw [List.length_map], by omega, by omega, for_range (n := ns.length) (fun i σ H' => ∃ (y3 y4 y5 : Option V), σ = [some (.ref a), some (.ref b), some (.ref l), y3, y4, y5] ∧ Same H H' ∧ H' l = some (.lst ((headW ts.length :: (List.range i).map (lineW ns ts)).map V.str))) ⟨none, none, none, rfl, s0, e0⟩ (fun j σ H' hj h => ?_) (fun σ H' h => h)⟩
      obtain ⟨y3, y4, y5, rfl, g, e⟩ := h
      rw [Int.zero_add]
      obtain ⟨nm, en⟩ : ∃ nm, ns[j]? = some nm := ⟨_, List.getElem?_eq_getElem hj⟩
      have lnm := ok.nn nm (List.mem_of_getElem? en)
      refine ⟨_, rfl, _, rfl, a, _, _, _, rfl, rfl, same_tup g _ _ sqa, atI_nat (by rw [List.getElem?_map, en]; rfl), (by show 1 ≤ sizeLine; rw [sizeLine_eq]; decide), fun pl npl => ?_⟩
      have sp : Same H' (upd H' pl (.lst [.str nm])) := Same.up npl
      have ep : (upd H' pl (.lst [.str nm])) pl = some (.lst [.str nm]) := upd_same
      have pll : pl ≠ l := fun z => by rw [z, e] at npl; cases npl
      have el := sp _ _ e
      have npH : H pl = none := by
        cases h : H pl with
        | none => rfl
        | some o => rw [g _ _ h] at npl; cases npl
      show gName 4 (.ref pl) _ (upd H' pl (.lst [.str nm])) _
      have g1 := g.trans sp
      generalize upd H' pl (.lst [.str nm]) = H1 at sp ep el g1
      obtain ⟨ws, ews⟩ : ∃ ws, colT ts j = ws := ⟨_, rfl⟩
      have lws : ws.length = ts.length := by rw [← ews]; exact List.length_map _
      have cb := col_bd ok hj
      rw [ews] at cb
      obtain ⟨w1, w2⟩ := wvParts_len cb
      refine ⟨fun σ H' => ∃ (y5 : Option V), σ = [some (.ref a), some (.ref b), some (.ref l), some (iV j), some (.ref pl), y5] ∧ Same H H' ∧ H' l = some (.lst ((headW ts.length :: (List.range j).map (lineW ns ts)).map V.str)) ∧ H' pl = some (.lst (.str nm :: (wvParts ws).map V.str)), ?_, ?_⟩
      · refine ⟨_, rfl, b, _, rfl, .inr (same_tup g1 _ _ sqb), ts.length, by rw [lys], by omega, by omega, for_range (n := ts.length) (fun k σ H' => ∃ (y5 : Option V), σ = [some (.ref a), some (.ref b), some (.ref l), some (iV j), some (.ref pl), y5] ∧ Same H H' ∧ H' l = some (.lst ((headW ts.length :: (List.range j).map (lineW ns ts)).map V.str)) ∧ H' pl = some (.lst (.str nm :: ((List.range k).map (wvPart ws)).map V.str))) ⟨_, rfl, g1, el, ep⟩ (fun k σ H' hk h => ?_) (fun σ H' h => ?_)⟩
        · obtain ⟨y5, rfl, g3, e3, p3⟩ := h
          rw [Int.zero_add]
          have lp : (V.str nm :: ((List.range k).map (wvPart ws)).map V.str).length < sizeLine := by
            rw [List.length_cons, List.length_map, List.length_map, List.length_range]
            exact lineS200 (by omega)
          have put : ∀ t : Str, wvPart ws k = t → ∃ (y5 : Option V), ([some (V.ref a), some (.ref b), some (.ref l), some (iV j), some (.ref pl), some (iV k)] : L2.St) = [some (.ref a), some (.ref b), some (.ref l), some (iV j), some (.ref pl), y5] ∧ Same H (upd H' pl (.lst ((V.str nm :: ((List.range k).map (wvPart ws)).map V.str) ++ [.str t]))) ∧ (upd H' pl (.lst ((V.str nm :: ((List.range k).map (wvPart ws)).map V.str) ++ [.str t]))) l = some (.lst ((headW ts.length :: (List.range j).map (lineW ns ts)).map V.str)) ∧ (upd H' pl (.lst ((V.str nm :: ((List.range k).map (wvPart ws)).map V.str) ++ [.str t]))) pl = some (.lst (.str nm :: ((List.range (k + 1)).map (wvPart ws)).map V.str)) := fun t et => by
            refine ⟨_, rfl, fun c o hc => ?_, by rw [upd_ne pll.symm]; exact e3, ?_⟩
            · rw [upd_ne (ne_of_none hc npH)]
              exact g3 _ _ hc
            · rw [upd_same, range_snoc, List.map_append, et]
              rfl
          obtain ⟨t, et, st⟩ := told_at dpb hk
          have hrow := ok.rl _ (getD_mem hk)
          have eg : ws.getD k 0 = atT ts k j := by rw [← ews]; exact col_get hk
          have hat : atI ((ts.getD k []).map iV) ((j : Nat) : Int) = some (iV (atT ts k j)) := atI_nat (row_get (by omega))
          have vb : atT ts k j < 1000 := ok.vb _ (getD_mem hk) _ (by
            unfold atT
            rw [List.getD_eq_getElem?_getD (l := ts.getD k []), List.getElem?_eq_getElem (by omega)]
            exact List.getElem_mem _)
          have gl := Pl.log (i := ((atT ts k j : Nat) : Int)) (nat_part (n := atT ts k j) (by omega))
          refine ⟨_, rfl, .inl ⟨rfl, _, SqL.of p3⟩, ?_⟩
          refine ⟨_, rfl, _, _, rfl, rfl, _, rfl, ?_⟩
          by_cases h0 : 0 < k
          · refine iteT' (decide_eq_true (by omega)) ?_
            have hk1 : k - 1 < ts.length := by omega
            obtain ⟨t1, et1, st1⟩ := told_at dpb hk1
            have hrow1 := ok.rl _ (getD_mem hk1)
            have eg1 : ws.getD (k - 1) 0 = atT ts (k - 1) j := by rw [← ews]; exact col_get hk1
            have hat1 : atI ys (((k : Nat) : Int) - 1) = some (.ref t1) := by
              rw [show ((k : Nat) : Int) - 1 = ((k - 1 : Nat) : Int) by omega]
              exact atI_nat et1
            have hat2 : atI ((ts.getD (k - 1) []).map iV) ((j : Nat) : Int) = some (iV (atT ts (k - 1) j)) := atI_nat (row_get (by omega))
            refine ⟨_, rfl, _, rfl, b, _, _, _, rfl, rfl, same_tup g3 _ _ sqb, atI_nat et, _, rfl, t, _, _, _, rfl, rfl, same_tup g3 _ _ st, hat, _, rfl, _, rfl, _, _, rfl, rfl, b, _, _, _, rfl, rfl, same_tup g3 _ _ sqb, hat1, _, rfl, t1, _, _, _, rfl, rfl, same_tup g3 _ _ st1, hat2, rfl, _, rfl, ?_⟩
            by_cases hv : atT ts k j = atT ts (k - 1) j
            · refine iteT' (decide_eq_true (by rw [hv])) ⟨pl, _, _, rfl, rfl, p3, lp, ?_⟩
              exact put _ (by unfold wvPart; rw [eg, eg1, if_pos ⟨h0, hv⟩])
            · refine iteF' (decide_eq_false (fun z => hv (by have := V.int.inj z; omega))) ⟨_, rfl, _, rfl, b, _, _, _, rfl, rfl, same_tup g3 _ _ sqb, atI_nat et, _, rfl, t, _, _, _, rfl, rfl, same_tup g3 _ _ st, hat, _, rfl, gl, pl, _, _, rfl, rfl, p3, lp, ?_⟩
              exact put _ (by unfold wvPart; rw [eg, eg1, if_neg (fun z => hv z.2)]; rfl)
          · refine iteF' (decide_eq_false (by omega)) ⟨_, rfl, _, rfl, b, _, _, _, rfl, rfl, same_tup g3 _ _ sqb, atI_nat et, _, rfl, t, _, _, _, rfl, rfl, same_tup g3 _ _ st, hat, _, rfl, gl, pl, _, _, rfl, rfl, p3, lp, ?_⟩
            exact put _ (by unfold wvPart; rw [eg, if_neg (fun z => h0 z.1)]; rfl)
        · obtain ⟨y5, rfl, g3, e3, p3⟩ := h
          refine ⟨y5, rfl, g3, e3, ?_⟩
          unfold wvParts
          rw [lws]
          exact p3
      rintro σ H2 ⟨y5, rfl, g3, e3, p3⟩
      have enm : ns.getD j (Str.ofString "") = nm := by rw [List.getD_eq_getElem?_getD, en]; rfl
      refine ⟨_, rfl, .inl ⟨rfl, _, SqL.of e3⟩, ⟨_, rfl⟩, _, rfl, Str.ofString " ", pl, nm :: wvParts ws, rfl, rfl, .inl (SqL.of p3), ?_, l, _, _, rfl, rfl, e3, by rw [List.length_map, List.length_cons, List.length_map, List.length_range]; exact lineS200 (by omega), ?_⟩
      · have h1 := len_sum (xs := nm :: wvParts ws) (b := 10) fun y hy => by
          rcases List.mem_cons.mp hy with rfl | hy
          · exact lnm
          · exact Nat.le_succ_of_le (w2 y hy)
        have h0 : (Str.ofString " ").length = 1 := by decide +kernel
        rw [List.length_cons, w1, lws] at h1 ⊢
        rw [h0]
        omega
      · refine ⟨_, _, _, rfl, fun c o hc => ?_, ?_⟩
        · rw [upd_ne (ne_of_none hc nl)]
          exact g3 _ _ hc
        · rw [upd_same, range_snoc, List.map_cons, List.map_cons, List.map_append]
          show some (HO.lst (_ :: (_ ++ [V.str (Txt.join (Str.ofString " ") (nm :: wvParts ws))]))) = some (HO.lst (_ :: (_ ++ [V.str (lineW ns ts j)])))
          unfold lineW
          rw [enm, ews]
    rintro σ H5 ⟨y3, y4, y5, rfl, g, e⟩
    exact ⟨_, rfl, q _ l g nl e⟩
end
end C1

/-! The law's reading of a text. -/
namespace C1
open PySem PySem.Spec PyProof.Rows L2 SX
open K0 (Cs digs isNum)
abbrev sLawRead : Stmt := topS 27
theorem scLawRead : FnScope ["text", "lines", "head", "many", "names", "columns", "k", "parts", "values", "part", "column"] ["text"] (defScope sLawRead) := ⟨rfl, rfl, rfl, by decide +kernel, rfl, by decide +kernel, by decide +kernel⟩
abbrev NLRe : List Str := ["text", "lines", "head", "many", "names", "columns", "k", "parts", "values", "part", "column"]
def scLR : Scope := { kind := .function, names := [(".0", .local), ("k", .cell), ("tuple", .globalImplicit), ("columns", .cell)], isGenerator := false, isCoroutine := false }
theorem split_nil : splitL (Str.ofString "") = [Str.ofString ""] := by decide +kernel
def wavesRD (x : Str) : PyData := match wavesN x with
  | .inr r => pairD r.1 r.2
  | .inl n => iD n
section
variable {P : Program} {w : World} {K : PySem.W.Frag} {mg : Str → Option Value} {base : Heap} {T : Addr}
def spLRead (K : PySem.W.Frag) : Sp := fun vs H Q _ => ∃ x : Str, vs = [.str x] ∧ TxL 250 140 x ∧ (∀ y ∈ splitL x, WvLn y) ∧ ∀ H' v, Same H H' → Dp K H' v (wavesRD x) → Q v H'
theorem ok_lread {f fN : Addr} {fd fdN : FuncData} (F : Fun K "_law_read" "_law_read" sLawRead f fd) (B : BT mg) (BL : Bl mg)
    (GN : FnOk P w K mg base CX0 1 fN fdN ["text"] spLNum) (kN : PySem.W.keepIn K (.ref fN) = true) (bN : Binds K fdN ["text"] []) (gN : mg "_law_number" = some (.ref fN)) :
    FnOk P w K mg base CX0 2 f fd ["text"] (spLRead K) := by
  refine F.ok scLawRead (fun vs H Q E h => ?_) (fun cdv A outer s H vs Q E hr h => ?_)
  · obtain ⟨x, rfl, _⟩ := h
    rfl
  · obtain ⟨x, rfl, hx, hwv, q⟩ := h
    have nd := scLawRead.nd
    have hr1 : Room 1 _ := hr
    have hu := hr.units
    refine ⟨_, (pss_cons (ps_set (i := 1) nd rfl (.inl rfl) (pe_split (pv 0) (pe_str)))
      (C8.pss_cut (ps_if (PW.pt (pw_or (pt_cmpR op_ne (pe_ix ix_list (pv 1) (pe_un un_neg pe_int) (fun _ _ => rfl)) (pe_str) (nomark _)) (pw_or1 (pt_cmpR op_lt (pe_callB call_len_seq (by rfl) B.len PySem.boot_len (pa_cons (pv 1) pa_nil)) (pe_int) (nomark _))))) (pss_one (ps_ret (pe_callB call_len_seq (by rfl) B.len PySem.boot_len (pa_cons (pv 1) pa_nil)))) pss_nil)
      (pss_cons (ps_set (i := 2) nd rfl (.inl rfl) (pe_split (pe_ix ix_list (pv 1) (pe_int) (fun _ _ => rfl)) (pe_str)))
      (C8.pss_cut (ps_if (PW.pt (pw_or (pt_cmpR op_ne (pe_callB call_len_seq (by rfl) B.len PySem.boot_len (pa_cons (pv 2) pa_nil)) (pe_int) (nomark _)) (pw_or (pt_cmpR op_ne (pe_ix ix_list (pv 2) (pe_int) (fun _ _ => rfl)) (pe_str) (nomark _)) (pw_or1 (pt_cmpR op_lt (pe_call GN hr1 (by rfl) gN kN bN .nil pass0 (pa_cons (pe_ix ix_list (pv 2) (pe_int) (fun _ _ => rfl)) pa_nil)) (pe_int) (nomark _)))))) (pss_one (ps_ret (pe_int))) pss_nil)
      (pss_cons (ps_set (i := 3) nd rfl (.inl rfl) (pe_call GN hr1 (by rfl) gN kN bN .nil pass0 (pa_cons (pe_ix ix_list (pv 2) (pe_int) (fun _ _ => rfl)) pa_nil)))
      (pss_cons (ps_asg (pe_tup (pa_cons (pe_lst pa_nil) (pa_cons (pe_lst pa_nil) pa_nil))) (pg_tup (by rfl) (pgs_cons (pg_name (i := 4) nd rfl (.inl rfl)) (pgs_cons (pg_name (i := 5) nd rfl (.inr rfl)) pgs_nil))))
      (C8.pss_cut (ps_for PassesOwn.never rfl (pi_range2 (by rfl) BL.range (pa_cons (pe_int) (pa_cons (pe_op op_sub (pe_callB call_len_seq (by rfl) B.len PySem.boot_len (pa_cons (pv 1) pa_nil)) (pe_int)) pa_nil))) (pg_name (i := 6) nd rfl (.inl rfl)) (pss_cons (ps_set (i := 7) nd rfl (.inl rfl) (pe_split (pe_ix ix_list (pv 1) (pv 6) (fun _ _ => rfl)) (pe_str)))
      (C8.pss_cut (ps_if (PW.pt (pw_or (pt_cmpR op_eq (pe_ix ix_list (pv 7) (pe_int) (fun _ _ => rfl)) (pe_str) (nomark _)) (pw_or1 (pt_cmpR op_ne (pe_callB call_len_seq (by rfl) B.len PySem.boot_len (pa_cons (pv 7) pa_nil)) (pe_op op_add (pv 3) (pe_int)) (nomark _))))) (pss_one (ps_ret (pe_op op_add (pv 6) (pe_int)))) pss_nil)
      (pss_cons (ps_set (i := 8) nd rfl (.inl rfl) (pe_lst pa_nil))
      (C8.pss_cut (ps_for PassesOwn.never rfl (pi_list (pe_slice sl_list (pv 7) (po_some (pe_int)) po_none)) (pg_name (i := 9) nd rfl (.inl rfl)) (pss_one (ps_if (PW.pt (pw_and (pt_cmpR op_eq (pv 9) (pe_str) (nomark _)) (pw_and1 (pt_cmpR (op_neD hu) (pv 8) (pe_lst pa_nil) (nomark _))))) (pss_one (ps_expr (pe_bm PySem.F.plainAttrs_list PySem.F.slot_list_append PySem.F.type_list_append mt_append (pv 8) (pa_cons (pe_ix ix_list (pv 8) (pe_un un_neg pe_int) (fun _ _ => rfl)) pa_nil)))) (pss_one (ps_if (pt_cmpR op_ge (pe_call GN hr1 (by rfl) gN kN bN .nil pass0 (pa_cons (pv 9) pa_nil)) (pe_int) (nomark _)) (pss_one (ps_expr (pe_bm PySem.F.plainAttrs_list PySem.F.slot_list_append PySem.F.type_list_append mt_append (pv 8) (pa_cons (pe_call GN hr1 (by rfl) gN kN bN .nil pass0 (pa_cons (pv 9) pa_nil)) pa_nil)))) (pss_one (ps_ret (pe_op op_add (pv 6) (pe_int)))))))))
      (pss_cons (ps_expr (pe_bm PySem.F.plainAttrs_list PySem.F.slot_list_append PySem.F.type_list_append mt_append (pv 4) (pa_cons (pe_ix ix_list (pv 7) (pe_int) (fun _ _ => rfl)) pa_nil)))
      (pss_one (ps_expr (pe_bm PySem.F.plainAttrs_list PySem.F.slot_list_append PySem.F.type_list_append mt_append (pv 5) (pa_cons (pv 8) pa_nil))))))))))
      (pss_one (ps_ret (pe_tup (pa_cons (pe_callTy call_tuple_of (by rfl) B.tuple (by decide +kernel) (pa_cons (pv 4) pa_nil)) (pa_cons (pe_callTy call_tuple_of (by rfl) B.tuple (by decide +kernel) (pa_cons (pe_lc (own := [("k", 6)]) (g := gName 6) (tt := tYes) (te := tCB (rTupleOf K) (tCons (tLc (iList K (tVar 5)) (gName 10) (tYes) (tOp (rIxL K) (tVar 10) (tVar 6)) [10]) tNil))  rfl nd (pi_range1 (by rfl) BL.range (pa_cons (pv 3) pa_nil)) (blkOk_by (own := [("k", 6)]) (N := NLRe) (sc := defScope sLawRead) (by decide +kernel)) (fun _ _ _ _ _ => pg_name (i := 6) nd rfl (.inr rfl)) (fun _ _ _ _ _ => pts_nil) (fun _ _ _ _ _ => by exact (pe_callTy call_tuple_of (by rfl) B.tuple (by decide +kernel) (pa_cons (pe_lc (own := [("column", 10)]) (g := gName 10) (tt := tYes) (te := tOp (rIxL K) (tVar 10) (tVar 6))  rfl nd (pi_list (pv 5)) (blkOk_by (own := [("column", 10)]) (N := NLRe) (sc := scLR) (by decide +kernel)) (fun _ _ _ _ _ => pg_name (i := 10) nd rfl (.inl rfl)) (fun _ _ _ _ _ => pts_nil) (fun _ _ _ _ _ => by exact (pe_ix ix_list (pv 10) (pv 6) (fun _ _ => rfl)))) pa_nil)))) pa_nil)) pa_nil)))))))))))), ?_⟩
    obtain ⟨hn, hls⟩ := hx.lines
    have hsz := hx.size
    have hp := split_pos x
    obtain ⟨L, lt, esp⟩ : ∃ L lt, splitL x = L ++ [lt] := ⟨_, _, (List.dropLast_concat_getLast (fun z => by rw [z] at hp; cases hp)).symm⟩
    have eD : linesOf x = L := by
      unfold linesOf
      rw [esp, List.dropLast_concat]
    have lsp : (splitL x).length = L.length + 1 := by
      rw [esp, List.length_append]
      rfl
    have hyl : ∀ y ∈ L ++ [lt], LnB 600 y := fun y h => (hls y (by rw [esp]; exact h)).up (by decide)
    have inlQ : ∀ n H' v, wavesN x = .inl n → Same H H' → v = iV n → Q v H' := fun n H' v e s ev => q _ _ s (by
      unfold wavesRD
      rw [e, ev]
      exact .int _)
    refine ⟨_, rfl, ⟨x, rfl⟩, x, nlS, rfl, rfl, rfl, (by show x.length + 2 ≤ sizeLine; rw [sizeLine_eq]; show x.cps.size + 2 ≤ _; omega), fun pr npr => ?_⟩
    have gP : Same H (upd H pr (.lst ((Txt.split x nlS).map V.str))) := Same.up npr
    have eP : (upd H pr (.lst ((Txt.split x nlS).map V.str))) pr = some (.lst ((L ++ [lt]).map V.str)) := upd_same.trans (congrArg (fun l => some (HO.lst (List.map V.str l))) esp)
    show gName 1 (.ref pr) _ (upd H pr (.lst ((Txt.split x nlS).map V.str))) _
    generalize upd H pr (.lst ((Txt.split x nlS).map V.str)) = H1 at gP eP
    have lmap : ((L ++ [lt]).map V.str).length = L.length + 1 := by
      rw [List.length_map, List.length_append]
      rfl
    have hlast : atI ((L ++ [lt]).map V.str) (-1) = some (.str lt) := by
      rw [List.map_append]
      exact atI_last _ _
    have notW : wholeB x = false → wavesN x = .inl (L.length + 1) := fun e => by
      unfold wavesN
      rw [e, lsp]
      rfl
    refine ⟨fun σ H' => σ = [some (.str x), some (.ref pr), none, none, none, none, none, none, none, none, none] ∧ H' = H1 ∧ lt = Str.ofString "" ∧ 2 ≤ L.length + 1, ?_, ?_⟩
    · refine ⟨_, rfl, _, rfl, pr, _, _, _, rfl, rfl, SqL.of eP, hlast, rfl, _, rfl, ?_⟩
      by_cases hw : lt = Str.ofString ""
      case neg =>
        refine iteT' (by rw [decide_eq_false (fun z => hw (V.str.inj z))]; rfl) ⟨_, rfl, pr, _, rfl, .inl (SqL.of eP), ?_⟩
        refine inlQ (L.length + 1) _ _ (notW ?_) gP (by rw [lmap])
        unfold wholeB
        rw [esp, List.getLast?_concat, decide_eq_false (fun z => hw (Option.some.inj z))]
        rfl
      refine iteF' (by rw [decide_eq_true (by rw [hw])]; rfl) ?_
      refine ⟨_, rfl, pr, _, rfl, .inl (SqL.of eP), _, _, rfl, rfl, _, rfl, ?_⟩
      rw [lmap]
      by_cases hl2 : L.length + 1 < 2
      · refine iteT' (decide_eq_true (by omega)) ⟨_, rfl, pr, _, rfl, .inl (SqL.of eP), ?_⟩
        refine inlQ (L.length + 1) _ _ (notW ?_) gP (by rw [lmap])
        unfold wholeB
        rw [lsp, decide_eq_true (show L.length + 1 = 1 by omega)]
        exact Bool.and_false _
      · exact iteF' (decide_eq_false (by omega)) ⟨rfl, rfl, hw, by omega⟩
    rintro σ H2 ⟨rfl, rfl, hw, hl2⟩
    obtain ⟨hd, rest, eL⟩ : ∃ hd rest, L = hd :: rest := by
      cases e : L with
      | nil => rw [e] at hl2; exact absurd hl2 (by decide)
      | cons a b => exact ⟨a, b, rfl⟩
    have hwB : wholeB x = true := by
      unfold wholeB
      rw [lsp, esp, List.getLast?_concat, hw, decide_eq_true rfl, decide_eq_false (by omega)]
      rfl
    have hhd := hyl hd (by rw [eL]; exact List.mem_cons_self ..)
    have key : cycN hd = none → wavesN x = .inl 1 := fun e => waves_none hwB (eD.trans eL) e
    have hhw : WvLn hd := hwv hd (by rw [esp, eL]; exact List.mem_cons_self ..)
    refine ⟨_, rfl, pr, _, _, _, rfl, rfl, SqL.of eP, atI_nat (j := 0) (by rw [eL]; rfl), ⟨hd, rfl⟩, hd, Str.ofString " ", rfl, rfl, rfl, (by show hd.cps.size + 2 ≤ sizeLine; have := hhd.sz; rw [sizeLine_eq]; omega), fun ph nph => ?_⟩
    have gH : Same H2 (upd H2 ph (.lst ((Txt.split hd (Str.ofString " ")).map V.str))) := Same.up nph
    have eH : (upd H2 ph (.lst ((Txt.split hd (Str.ofString " ")).map V.str))) ph = some (.lst ((spS hd).map V.str)) := upd_same
    show gName 2 (.ref ph) _ (upd H2 ph (.lst ((Txt.split hd (Str.ofString " ")).map V.str))) _
    generalize upd H2 ph (.lst ((Txt.split hd (Str.ofString " ")).map V.str)) = H3 at gH eH
    have lsh : ((spS hd).map V.str).length = (spS hd).length := List.length_map _
    obtain ⟨hl4, hp4⟩ := hhd.parts2 (Nat.le_refl _)
    refine ⟨fun σ H' => σ = [some (.str x), some (.ref pr), some (.ref ph), none, none, none, none, none, none, none, none] ∧ Same H3 H' ∧ ∃ w z, spS hd = [w, z] ∧ numB z = true ∧ cycN hd = some (numV z), ?_, ?_⟩
    · refine ⟨_, rfl, ph, _, rfl, .inl (SqL.of eH), rfl, _, rfl, ?_⟩
      rw [lsh]
      by_cases h2 : (spS hd).length = 2
      case neg =>
        refine iteT' (by rw [decide_eq_false (fun z => h2 (by have := V.int.inj z; omega))]; rfl) ?_
        refine inlQ 1 _ _ (key ?_) (gP.trans gH) rfl
        unfold cycN
        split
        · rename_i w z e
          rw [e] at h2
          exact absurd rfl h2
        · rfl
      refine iteF' (by rw [decide_eq_true (by rw [h2]; rfl)]; rfl) ?_
      obtain ⟨w, z, e2⟩ : ∃ w z, spS hd = [w, z] := by
        match e : spS hd, h2 with
        | [w, z], _ => exact ⟨w, z, rfl⟩
      have ecy : cycN hd = if w = "cycles" ∧ numB z = true then some (numV z) else none := by
        unfold cycN
        rw [e2]
      rw [e2] at eH
      refine ⟨_, rfl, ph, _, _, _, rfl, rfl, SqL.of eH, atI_nat (j := 0) rfl, rfl, _, rfl, ?_⟩
      by_cases hc : w = "cycles"
      case neg =>
        refine iteT' (by rw [decide_eq_false (fun z => hc (V.str.inj z))]; rfl) ?_
        exact inlQ 1 _ _ (key (by rw [ecy, if_neg (fun z => hc z.1)])) (gP.trans gH) rfl
      refine iteF' (by rw [decide_eq_true (by rw [hc])]; rfl) ?_
      refine ⟨_, rfl, ph, _, _, _, rfl, rfl, SqL.of eH, atI_nat (j := 1) rfl, z, rfl, hp4 z (by rw [e2]; simp), fun H4 s4 => ⟨_, _, rfl, rfl, _, rfl, ?_⟩⟩
      by_cases hz : numB z = true
      · have hv : lnV z = ((numV z : Nat) : Int) := if_pos hz
        refine iteF' (decide_eq_false (by rw [hv]; omega)) ⟨rfl, s4, w, z, e2, hz, by rw [ecy, if_pos ⟨hc, hz⟩]⟩
      · have hv : lnV z = -1 := if_neg hz
        refine iteT' (decide_eq_true (by rw [hv]; decide)) ?_
        exact inlQ 1 _ _ (key (by rw [ecy, if_neg (fun y => hz y.2)])) ((gP.trans gH).trans s4) rfl
    rintro σ H4 ⟨rfl, g34, w, z, e2, hz, ecy⟩
    have eP2 := waves_some hwB (eD.trans eL) ecy
    have hm := cyc_bd hhw ecy
    obtain ⟨m, em⟩ : ∃ m, numV z = m := ⟨_, rfl⟩
    have hv : lnV z = ((m : Nat) : Int) := (if_pos hz).trans (by rw [em])
    rw [em] at eP2 hm
    rw [e2] at eH
    have eH4 := g34 _ _ eH
    have g04 := (gP.trans gH).trans g34
    have eP4 := g34 _ _ (gH _ _ eP)
    refine ⟨_, rfl, ph, _, _, _, rfl, rfl, SqL.of eH4, atI_nat (j := 1) rfl, z, rfl, hp4 z (by rw [e2]; simp), fun H5 s5 => ?_⟩
    rw [hv]
    have g05 := g04.trans s5
    have eP5 := s5 _ _ eP4
    refine ⟨Nat.zero_le _, fun nl nnl => ⟨Nat.zero_le _, fun wl nwl => ⟨line200 (show 2 ≤ 1000 by decide), fun tp ntp => ?_⟩⟩⟩
    have c1 : Same H5 (upd H5 nl (.lst [])) := Same.up nnl
    have c2 := Same.up nwl (o := .lst [])
    have c3 := Same.up ntp (o := .tup [.ref nl, .ref wl])
    have en0 := c3 _ _ (c2 _ _ (upd_same (H := H5) (a := nl) (o := .lst [])))
    have ew0 := c3 _ _ (upd_same (H := upd H5 nl (.lst [])) (a := wl) (o := .lst []))
    have nlwl : nl ≠ wl := fun z => by rw [z, upd_same] at nwl; cases nwl
    have prnl : pr ≠ nl := fun z => by rw [z, nnl] at eP5; cases eP5
    have prwl : pr ≠ wl := fun z => by
      have := c1 _ _ eP5
      rw [z, nwl] at this
      cases this
    have nnlH : H nl = none := by
      cases h : H nl with
      | none => rfl
      | some o => rw [g05 _ _ h] at nnl; cases nnl
    have nwlH : H wl = none := by
      cases h : H wl with
      | none => rfl
      | some o => rw [c1 _ _ (g05 _ _ h)] at nwl; cases nwl
    have eP6 := c3 _ _ (c2 _ _ (c1 _ _ eP5))
    have g06 := ((g05.trans c1).trans c2).trans c3
    refine ⟨tp, _, rfl, SqT.of upd_same, rfl, _, _, rfl, _, _, rfl, rfl, ?_⟩
    generalize upd (upd (upd H5 nl (.lst [])) wl (.lst [])) tp (.tup [.ref nl, .ref wl]) = H6 at en0 ew0 eP6 g06
    have nrest : ((((((L ++ [lt]).map V.str).length : Nat) : Int) - 1) - 1).toNat = rest.length := by
      rw [lmap, eL]
      show ((((rest.length + 1 + 1 : Nat) : Int) - 1) - 1).toNat = _
      omega
    have lL : L.length = rest.length + 1 := by rw [eL]; rfl
    refine ⟨fun σ H' => ∃ (y6 y7 y8 y9 : Option V) (us : List Addr) (rows : List WRow), σ = [some (.str x), some (.ref pr), some (.ref ph), some (iV m), some (.ref nl), some (.ref wl), y6, y7, y8, y9, none] ∧ Same H H' ∧ H' nl = some (.lst (rows.map fun r => V.str r.1)) ∧ H' wl = some (.lst (us.map V.ref)) ∧ us.length = rows.length ∧ (∀ (i : Nat) (u : Addr) (r : WRow), us[i]? = some u → rows[i]? = some r → H' u = some (.lst (r.2.map iV))) ∧ (∀ r ∈ rows, r.2.length = m) ∧ rows.length ≤ 140 ∧ readW m 0 [] rest = .inr rows, ?_, ?_⟩
    · refine ⟨_, rfl, pr, _, rfl, .inl (SqL.of eP6), _, _, rfl, rfl, _, _, rfl, ⟨by decide, by decide, by rw [lmap]; omega, by rw [lmap]; omega⟩, for_range (n := _) (fun i σ H' => ∃ (y6 y7 y8 y9 : Option V) (us : List Addr) (rows : List WRow), σ = [some (.str x), some (.ref pr), some (.ref ph), some (iV m), some (.ref nl), some (.ref wl), y6, y7, y8, y9, none] ∧ Same H H' ∧ H' pr = some (.lst ((L ++ [lt]).map V.str)) ∧ H' nl = some (.lst (rows.map fun r => V.str r.1)) ∧ H' wl = some (.lst (us.map V.ref)) ∧ us.length = rows.length ∧ (∀ (i : Nat) (u : Addr) (r : WRow), us[i]? = some u → rows[i]? = some r → u ≠ nl ∧ u ≠ wl ∧ H' u = some (.lst (r.2.map iV))) ∧ (∀ r ∈ rows, r.2.length = m) ∧ rows.length = i ∧ readW m 0 [] rest = readW m i rows (rest.drop i)) ⟨none, none, none, none, [], [], rfl, g06, eP6, en0, ew0, rfl, (fun i u r h => by simp at h), (fun r h => by cases h), rfl, rfl⟩ (fun i σ H' hi h => ?_) (fun σ H' h => ?_)⟩
      · obtain ⟨y6, y7, y8, y9, us, rows, rfl, g, epr, enl, ewl, lus, hgu, hrl, lrw, er⟩ := h
        rw [nrest] at hi
        obtain ⟨y, ey⟩ : ∃ y, rest[i]? = some y := ⟨_, List.getElem?_eq_getElem hi⟩
        have edr : rest.drop i = y :: rest.drop (i + 1) := by
          obtain ⟨h1, h2⟩ := List.getElem?_eq_some_iff.mp ey
          rw [List.drop_eq_getElem_cons h1, h2]
        have er2 : readW m 0 [] rest = match rowN m y with
          | none => .inl (i + 2)
          | some r => readW m (i + 1) (rows ++ [r]) (rest.drop (i + 1)) := by
          rw [er, edr]
          rfl
        have badR : rowN m y = none → ∀ H7, Same H H7 → Q (.int ((1 : Int) + ((i : Nat) : Int) + 1)) H7 := fun e H7 s7 => inlQ (i + 2) _ _ (by rw [eP2, er2, e]; rfl) s7 (by rw [show (1 : Int) + ((i : Nat) : Int) + 1 = ((i + 2 : Nat) : Int) by omega])
        have ay : atI ((L ++ [lt]).map V.str) ((1 : Int) + ((i : Nat) : Int)) = some (.str y) := by
          rw [show (1 : Int) + ((i : Nat) : Int) = ((i + 1 : Nat) : Int) by omega]
          refine atI_nat ?_
          rw [List.getElem?_map, eL, List.getElem?_append_left (by show i + 1 < rest.length + 1; omega), List.getElem?_cons_succ, ey]
          rfl
        have hy6 := hyl y (by rw [eL]; exact List.mem_append_left _ (List.mem_cons_of_mem _ (List.mem_of_getElem? ey)))
        obtain ⟨lsp2, psp⟩ := hy6.parts2 (Nat.le_refl _)
        obtain ⟨wd, xs, ewx⟩ : ∃ wd xs, spS y = wd :: xs := by
          cases e : spS y with
          | nil => exact absurd e (spS_ne y)
          | cons a b => exact ⟨a, b, rfl⟩
        refine ⟨_, rfl, _, rfl, pr, _, _, _, rfl, rfl, SqL.of epr, ay, ⟨y, rfl⟩, y, Str.ofString " ", rfl, rfl, rfl, (by show y.cps.size + 2 ≤ sizeLine; have := hy6.sz; rw [sizeLine_eq]; omega), fun pp npp => ?_⟩
        have gp := Same.up npp (o := .lst ((Txt.split y (Str.ofString " ")).map V.str))
        have epp : (upd H' pp (.lst ((Txt.split y (Str.ofString " ")).map V.str))) pp = some (.lst ((wd :: xs).map V.str)) := upd_same.trans (congrArg (fun l => some (HO.lst (List.map V.str l))) ewx)
        have ppnl : pp ≠ nl := fun z => by rw [z, enl] at npp; cases npp
        have ppwl : pp ≠ wl := fun z => by rw [z, ewl] at npp; cases npp
        replace g := g.trans gp
        replace epr := gp _ _ epr
        replace enl := gp _ _ enl
        replace ewl := gp _ _ ewl
        replace hgu : ∀ (j : Nat) (u : Addr) (r : WRow), us[j]? = some u → rows[j]? = some r → u ≠ nl ∧ u ≠ wl ∧ (upd H' pp (.lst ((Txt.split y (Str.ofString " ")).map V.str))) u = some (.lst (r.2.map iV)) := fun j u r h1 h2 => by
          obtain ⟨a1, a2, a3⟩ := hgu j u r h1 h2
          exact ⟨a1, a2, gp _ _ a3⟩
        show gName 7 (.ref pp) _ (upd H' pp (.lst ((Txt.split y (Str.ofString " ")).map V.str))) _
        generalize upd H' pp (.lst ((Txt.split y (Str.ofString " ")).map V.str)) = H7 at g epp epr enl ewl hgu
        rw [ewx] at lsp2 psp
        have lxs : xs.length ≤ 700 := by
          have : (wd :: xs).length = xs.length + 1 := rfl
          omega
        have eRow : rowN m y = if wd = "" ∨ xs.length ≠ m then none else match wvN [] xs with
            | none => none
            | some ws => some (wd, ws) := by
          unfold rowN
          rw [ewx]
          all_goals rfl
        refine ⟨fun σ G => σ = [some (.str x), some (.ref pr), some (.ref ph), some (iV m), some (.ref nl), some (.ref wl), some (.int ((1 : Int) + ((i : Nat) : Int))), some (.ref pp), y8, y9, none] ∧ G = H7 ∧ wd ≠ "" ∧ xs.length = m, ?_, ?_⟩
        · refine ⟨_, rfl, pp, _, _, _, rfl, rfl, SqL.of epp, atI_nat (j := 0) rfl, rfl, _, rfl, ?_⟩
          by_cases c1 : wd = ""
          · refine iteT' (decide_eq_true (by rw [c1])) ⟨_, rfl, _, _, rfl, rfl, ?_⟩
            exact badR (by rw [eRow, if_pos (.inl c1)]) _ g
          · refine iteF' (decide_eq_false (fun z => c1 (V.str.inj z))) ⟨_, rfl, pp, _, rfl, .inl (SqL.of epp), _, rfl, _, _, rfl, rfl, rfl, _, rfl, ?_⟩
            rw [List.length_map]
            by_cases c2 : xs.length = m
            · exact iteF' (by rw [decide_eq_true (congrArg V.int (by rw [List.length_cons, c2]; omega))]; rfl) ⟨rfl, rfl, c1, c2⟩
            · refine iteT' (by rw [decide_eq_false (fun z => c2 (by have := V.int.inj z; rw [List.length_cons] at this; omega))]; rfl) ⟨_, rfl, _, _, rfl, rfl, ?_⟩
              exact badR (by rw [eRow, if_pos (.inr c2)]) _ g
        rintro σ G ⟨rfl, rfl, c1, c2⟩
        refine ⟨Nat.zero_le _, fun vl nvl => ?_⟩
        have gv := Same.up nvl (o := .lst [])
        have evl : (upd G vl (.lst [])) vl = some (.lst []) := upd_same
        have vlnl : vl ≠ nl := fun z => by rw [z, enl] at nvl; cases nvl
        have vlwl : vl ≠ wl := fun z => by rw [z, ewl] at nvl; cases nvl
        have vlpr : vl ≠ pr := fun z => by rw [z, epr] at nvl; cases nvl
        have vlpp : vl ≠ pp := fun z => by rw [z, epp] at nvl; cases nvl
        have nvlH : H vl = none := by
          cases h : H vl with
          | none => rfl
          | some o => rw [g _ _ h] at nvl; cases nvl
        have vlus : ∀ (j : Nat) (u : Addr) (r : WRow), us[j]? = some u → rows[j]? = some r → u ≠ vl := fun j u r h1 h2 z => by
          have := (hgu j u r h1 h2).2.2
          rw [z, nvl] at this
          cases this
        replace g := g.trans gv
        replace epr := gv _ _ epr
        replace enl := gv _ _ enl
        replace ewl := gv _ _ ewl
        replace epp := gv _ _ epp
        replace hgu : ∀ (j : Nat) (u : Addr) (r : WRow), us[j]? = some u → rows[j]? = some r → u ≠ nl ∧ u ≠ wl ∧ (upd G vl (.lst [])) u = some (.lst (r.2.map iV)) := fun j u r h1 h2 => by
          obtain ⟨a1, a2, a3⟩ := hgu j u r h1 h2
          exact ⟨a1, a2, gv _ _ a3⟩
        show gName 8 (.ref vl) _ (upd G vl (.lst [])) _
        generalize upd G vl (.lst []) = G1 at g evl epr enl ewl epp hgu
        refine ⟨fun σ G => ∃ (y9 : Option V) (ws : List Nat), σ = [some (.str x), some (.ref pr), some (.ref ph), some (iV m), some (.ref nl), some (.ref wl), some (.int ((1 : Int) + ((i : Nat) : Int))), some (.ref pp), some (.ref vl), y9, none] ∧ Same H G ∧ G pr = some (.lst ((L ++ [lt]).map V.str)) ∧ G nl = some (.lst (rows.map fun r => V.str r.1)) ∧ G wl = some (.lst (us.map V.ref)) ∧ G pp = some (.lst ((wd :: xs).map V.str)) ∧ G vl = some (.lst (ws.map iV)) ∧ (∀ (j : Nat) (u : Addr) (r : WRow), us[j]? = some u → rows[j]? = some r → u ≠ nl ∧ u ≠ wl ∧ G u = some (.lst (r.2.map iV))) ∧ wvN [] xs = some ws, ?_, ?_⟩
        · refine ⟨_, rfl, _, rfl, pp, _, rfl, SqL.of epp, fun sp nsp => ?_⟩
          have gs := Same.up nsp (o := .lst (cutV ((wd :: xs).map V.str) (some 1) none))
          have esp : (upd G1 sp (.lst (cutV ((wd :: xs).map V.str) (some 1) none))) sp = some (.lst (xs.map V.str)) := upd_same.trans (congrArg (fun l => some (HO.lst l)) (cut_hi ((wd :: xs).map V.str) 1))
          have spvl : sp ≠ vl := fun z => by rw [z, evl] at nsp; cases nsp
          replace g := g.trans gs
          replace epr := gs _ _ epr
          replace enl := gs _ _ enl
          replace ewl := gs _ _ ewl
          replace epp := gs _ _ epp
          replace evl := gs _ _ evl
          replace hgu : ∀ (j : Nat) (u : Addr) (r : WRow), us[j]? = some u → rows[j]? = some r → u ≠ nl ∧ u ≠ wl ∧ (upd G1 sp (.lst (cutV ((wd :: xs).map V.str) (some 1) none))) u = some (.lst (r.2.map iV)) := fun j u r h1 h2 => by
            obtain ⟨a1, a2, a3⟩ := hgu j u r h1 h2
            exact ⟨a1, a2, gs _ _ a3⟩
          generalize upd G1 sp (.lst (cutV ((wd :: xs).map V.str) (some 1) none)) = G2 at g esp epr enl ewl epp evl hgu
          refine ⟨sp, rfl, ⟨_, SqL.of esp⟩, ?_⟩
          refine for_list (xs := xs.map V.str) (fun k σ G => ∃ (y9 : Option V) (ws : List Nat), σ = [some (.str x), some (.ref pr), some (.ref ph), some (iV m), some (.ref nl), some (.ref wl), some (.int ((1 : Int) + ((i : Nat) : Int))), some (.ref pp), some (.ref vl), y9, none] ∧ Same H G ∧ G sp = some (.lst (xs.map V.str)) ∧ G pr = some (.lst ((L ++ [lt]).map V.str)) ∧ G nl = some (.lst (rows.map fun r => V.str r.1)) ∧ G wl = some (.lst (us.map V.ref)) ∧ G pp = some (.lst ((wd :: xs).map V.str)) ∧ G vl = some (.lst (ws.map iV)) ∧ (∀ (j : Nat) (u : Addr) (r : WRow), us[j]? = some u → rows[j]? = some r → u ≠ nl ∧ u ≠ wl ∧ G u = some (.lst (r.2.map iV))) ∧ ws.length = k ∧ wvN [] xs = wvN ws (xs.drop k)) ⟨_, [], rfl, g, esp, epr, enl, ewl, epp, evl, hgu, rfl, rfl⟩ (fun k σ G _ h => ?_) (fun k v σ G hv h => ?_) (fun σ G h => ?_)
          · obtain ⟨_, _, _, _, e, _⟩ := h
            exact SqL.of e
          · obtain ⟨y9, ws, rfl, g, esp, epr, enl, ewl, epp, e, hgu, lws, erv⟩ := h
            obtain ⟨z, ez, rfl⟩ := str_at hv
            have hkl : k < xs.length := (List.getElem?_eq_some_iff.mp ez).1
            have hzl := psp z (List.mem_cons_of_mem _ (List.mem_of_getElem? ez))
            have edr3 : xs.drop k = z :: xs.drop (k + 1) := by
              obtain ⟨h1, h2⟩ := List.getElem?_eq_some_iff.mp ez
              rw [List.drop_eq_getElem_cons h1, h2]
            have er3 : wvN [] xs = if z = "." ∧ ws ≠ [] then wvN (ws ++ [ws.getLastD 0]) (xs.drop (k + 1)) else if numB z = true then wvN (ws ++ [numV z]) (xs.drop (k + 1)) else none := by
              rw [erv, edr3]
              rfl
            have lvl : (ws.map iV).length < sizeLine := by
              rw [List.length_map]
              exact lineS200 (by omega)
            have bad : wvN [] xs = none → ∀ H8, Same H H8 → Q (.int ((1 : Int) + ((i : Nat) : Int) + 1)) H8 := fun e => badR (by rw [eRow, if_neg (fun z => z.elim c1 (fun k => k c2)), e])
            have put : ∀ (v : Nat) (H8 : Hp) (y9' : Option V), Same H H8 → H8 nl = some (.lst (rows.map fun r => V.str r.1)) → H8 wl = some (.lst (us.map V.ref)) → H8 pr = some (.lst ((L ++ [lt]).map V.str)) → H8 pp = some (.lst ((wd :: xs).map V.str)) → H8 sp = some (.lst (xs.map V.str)) → (∀ (j : Nat) (u : Addr) (r : WRow), us[j]? = some u → rows[j]? = some r → H8 u = some (.lst (r.2.map iV))) → wvN [] xs = wvN (ws ++ [v]) (xs.drop (k + 1)) →
                ∃ (z9 : Option V) (ws2 : List Nat), ([some (V.str x), some (.ref pr), some (.ref ph), some (iV m), some (.ref nl), some (.ref wl), some (.int ((1 : Int) + ((i : Nat) : Int))), some (.ref pp), some (.ref vl), y9', none] : L2.St) = [some (.str x), some (.ref pr), some (.ref ph), some (iV m), some (.ref nl), some (.ref wl), some (.int ((1 : Int) + ((i : Nat) : Int))), some (.ref pp), some (.ref vl), z9, none] ∧ Same H (upd H8 vl (.lst (ws.map iV ++ [iV v]))) ∧ (upd H8 vl (.lst (ws.map iV ++ [iV v]))) sp = some (.lst (xs.map V.str)) ∧ (upd H8 vl (.lst (ws.map iV ++ [iV v]))) pr = some (.lst ((L ++ [lt]).map V.str)) ∧ (upd H8 vl (.lst (ws.map iV ++ [iV v]))) nl = some (.lst (rows.map fun r => V.str r.1)) ∧ (upd H8 vl (.lst (ws.map iV ++ [iV v]))) wl = some (.lst (us.map V.ref)) ∧ (upd H8 vl (.lst (ws.map iV ++ [iV v]))) pp = some (.lst ((wd :: xs).map V.str)) ∧ (upd H8 vl (.lst (ws.map iV ++ [iV v]))) vl = some (.lst (ws2.map iV)) ∧ (∀ (j : Nat) (u : Addr) (r : WRow), us[j]? = some u → rows[j]? = some r → u ≠ nl ∧ u ≠ wl ∧ (upd H8 vl (.lst (ws.map iV ++ [iV v]))) u = some (.lst (r.2.map iV))) ∧ ws2.length = k + 1 ∧ wvN [] xs = wvN ws2 (xs.drop (k + 1)) := fun v H8 y9' g8 a1 a2 a3 a4 a5 a6 a7 => by
              refine ⟨y9', ws ++ [v], rfl, fun b o hb => ?_, by rw [upd_ne spvl]; exact a5, by rw [upd_ne vlpr.symm]; exact a3, by rw [upd_ne vlnl.symm]; exact a1, by rw [upd_ne vlwl.symm]; exact a2, by rw [upd_ne vlpp.symm]; exact a4, by rw [upd_same, List.map_append]; rfl, fun j u r h1 h2 => ?_, by rw [List.length_append, lws]; rfl, a7⟩
              · rw [upd_ne (ne_of_none hb nvlH)]
                exact g8 _ _ hb
              · obtain ⟨b1, b2, _⟩ := hgu j u r h1 h2
                refine ⟨b1, b2, ?_⟩
                rw [upd_ne (vlus j u r h1 h2)]
                exact a6 j u r h1 h2
            refine ⟨_, rfl, rfl, _, rfl, ?_⟩
            by_cases hd : z = "."
            · refine iteT' (decide_eq_true (by rw [hd])) ?_
              refine ⟨_, rfl, Nat.zero_le _, fun ze nze => ?_⟩
              have cz : Same G (upd G ze (.lst [])) := Same.up nze
              refine ⟨.list (ws.map iD), .list [], .lst (SqL.of (cz _ _ e)) (dps_ints _), .lst (SqL.of upd_same) .nil, shaped_list _ (cL_int _), shaped_list [] (fun d hd => by cases hd), _, rfl, ?_⟩
              rw [eqv_nil]
              replace e := cz _ _ e
              replace g := g.trans cz
              replace epr := cz _ _ epr
              replace enl := cz _ _ enl
              replace ewl := cz _ _ ewl
              replace epp := cz _ _ epp
              replace esp := cz _ _ esp
              replace hgu : ∀ (j : Nat) (u : Addr) (r : WRow), us[j]? = some u → rows[j]? = some r → u ≠ nl ∧ u ≠ wl ∧ (upd G ze (.lst [])) u = some (.lst (r.2.map iV)) := fun j u r h1 h2 => by
                obtain ⟨a1, a2, a3⟩ := hgu j u r h1 h2
                exact ⟨a1, a2, cz _ _ a3⟩
              have hie : (ws.map iD).isEmpty = ws.isEmpty := by cases ws <;> rfl
              rw [hie]
              cases hw0 : ws.isEmpty with
              | true =>
                have hws : ws = [] := List.isEmpty_iff.mp hw0
                have hno : ¬ (z = "." ∧ ws ≠ []) := fun y => y.2 hws
                refine iteF ?_
                refine ⟨_, rfl, z, rfl, hzl, fun H8 s8 => ⟨_, _, rfl, rfl, _, rfl, ?_⟩⟩
                rw [if_neg hno] at er3
                have e8 := s8 _ _ e
                have g8 := g.trans s8
                by_cases hn : numB z = true
                · have hv : lnV z = ((numV z : Nat) : Int) := if_pos hn
                  rw [if_pos hn] at er3
                  refine iteT' (decide_eq_true (by rw [hv]; omega)) ?_
                  refine ⟨_, rfl, .inl ⟨rfl, _, SqL.of e8⟩, _, rfl, z, rfl, hzl, fun H9 s9 => ?_⟩
                  rw [hv]
                  exact ⟨vl, _, _, rfl, rfl, s9 _ _ e8, lvl, put (numV z) H9 _ (g8.trans s9) (s9 _ _ (s8 _ _ enl)) (s9 _ _ (s8 _ _ ewl)) (s9 _ _ (s8 _ _ epr)) (s9 _ _ (s8 _ _ epp)) (s9 _ _ (s8 _ _ esp)) (fun j u r h1 h2 => s9 _ _ (s8 _ _ (hgu j u r h1 h2).2.2)) er3⟩
                · have hv : lnV z = -1 := if_neg hn
                  rw [if_neg hn] at er3
                  refine iteF' (decide_eq_false (by rw [hv]; decide)) ⟨_, rfl, _, _, rfl, rfl, ?_⟩
                  exact bad er3 _ g8
              | false =>
                have hws : ws ≠ [] := fun z => by rw [z] at hw0; cases hw0
                rw [if_pos ⟨hd, hws⟩] at er3
                have hlast2 : atI (ws.map iV) (-1) = some (iV (ws.getLastD 0)) := by
                  obtain ⟨ini, la, ew⟩ : ∃ ini la, ws = ini ++ [la] := ⟨_, _, (List.dropLast_concat_getLast hws).symm⟩
                  rw [ew, List.map_append]
                  have : (ini ++ [la]).getLastD 0 = la := by simp
                  rw [this]
                  exact atI_last _ _
                refine iteT ⟨_, rfl, .inl ⟨rfl, _, SqL.of e⟩, _, rfl, _, rfl, vl, _, _, _, rfl, rfl, SqL.of e, hlast2, vl, _, _, rfl, rfl, e, lvl, ?_⟩
                exact put _ _ _ g enl ewl epr epp esp (fun j u r h1 h2 => (hgu j u r h1 h2).2.2) er3
            · refine iteF' (decide_eq_false (fun y => hd (V.str.inj y))) ?_
              have hno : ¬ (z = "." ∧ ws ≠ []) := fun y => hd y.1
              refine ⟨_, rfl, z, rfl, hzl, fun H8 s8 => ⟨_, _, rfl, rfl, _, rfl, ?_⟩⟩
              rw [if_neg hno] at er3
              have e8 := s8 _ _ e
              have g8 := g.trans s8
              by_cases hn : numB z = true
              · have hv : lnV z = ((numV z : Nat) : Int) := if_pos hn
                rw [if_pos hn] at er3
                refine iteT' (decide_eq_true (by rw [hv]; omega)) ?_
                refine ⟨_, rfl, .inl ⟨rfl, _, SqL.of e8⟩, _, rfl, z, rfl, hzl, fun H9 s9 => ?_⟩
                rw [hv]
                exact ⟨vl, _, _, rfl, rfl, s9 _ _ e8, lvl, put (numV z) H9 _ (g8.trans s9) (s9 _ _ (s8 _ _ enl)) (s9 _ _ (s8 _ _ ewl)) (s9 _ _ (s8 _ _ epr)) (s9 _ _ (s8 _ _ epp)) (s9 _ _ (s8 _ _ esp)) (fun j u r h1 h2 => s9 _ _ (s8 _ _ (hgu j u r h1 h2).2.2)) er3⟩
              · have hv : lnV z = -1 := if_neg hn
                rw [if_neg hn] at er3
                refine iteF' (decide_eq_false (by rw [hv]; decide)) ⟨_, rfl, _, _, rfl, rfl, ?_⟩
                exact bad er3 _ g8
          · obtain ⟨y9, ws, rfl, g, esp, epr, enl, ewl, epp, e, hgu, lws, erv⟩ := h
            rw [List.length_map, List.drop_length] at erv
            exact ⟨y9, ws, rfl, g, epr, enl, ewl, epp, e, hgu, erv⟩
        rintro σ G3 ⟨y9', ws, rfl, g3, epr3, enl3, ewl3, epp3, evl3, hgu3, erv⟩
        have eR : rowN m y = some (wd, ws) := by
          rw [eRow, if_neg (fun z => z.elim c1 (fun k => k c2)), erv]
        refine ⟨_, rfl, .inl ⟨rfl, _, SqL.of enl3⟩, _, rfl, pp, _, _, _, rfl, rfl, SqL.of epp3, atI_nat (j := 0) rfl, nl, _, _, rfl, rfl, enl3, by rw [List.length_map]; exact lineS200 (by omega), ?_⟩
        have ewl4 : (upd G3 nl (.lst ((rows.map fun r => V.str r.1) ++ [.str wd]))) wl = some (.lst (us.map V.ref)) := by
          rw [upd_ne nlwl.symm]
          exact ewl3
        refine ⟨_, rfl, .inl ⟨rfl, _, SqL.of ewl4⟩, _, rfl, wl, _, _, rfl, rfl, ewl4, by rw [List.length_map]; exact lineS200 (by omega), ?_⟩
        refine ⟨_, _, _, _, us ++ [vl], rows ++ [(wd, ws)], rfl, fun b o hb => ?_, ?_, ?_, ?_, ?_, ?_, ?_, ?_, ?_⟩
        · rw [upd_ne (ne_of_none hb nwlH), upd_ne (ne_of_none hb nnlH)]
          exact g3 _ _ hb
        · rw [upd_ne prwl, upd_ne prnl]
          exact epr3
        · rw [upd_ne nlwl, upd_same, List.map_append]
          rfl
        · rw [upd_same, List.map_append]
          rfl
        · rw [List.length_append, List.length_append, lus]
          rfl
        · intro j u r h1 h2
          have key2 : ∀ (u : Addr) (r : WRow), u ≠ nl → u ≠ wl → G3 u = some (.lst (r.2.map iV)) → u ≠ nl ∧ u ≠ wl ∧ (upd (upd G3 nl (.lst ((rows.map fun r => V.str r.1) ++ [.str wd]))) wl (.lst (us.map V.ref ++ [.ref vl]))) u = some (.lst (r.2.map iV)) := fun u r a b c => ⟨a, b, by rw [upd_ne b, upd_ne a]; exact c⟩
          rcases snoc_cases h1 with ⟨j1, k1⟩ | ⟨j1, k1⟩
          · rcases snoc_cases h2 with ⟨j2, k2⟩ | ⟨j2, k2⟩
            · obtain ⟨a1, a2, a3⟩ := hgu3 j u r k1 k2
              exact key2 u r a1 a2 a3
            · omega
          · rcases snoc_cases h2 with ⟨j2, k2⟩ | ⟨j2, k2⟩
            · omega
            · subst k1
              subst k2
              exact key2 vl (wd, ws) vlnl vlwl evl3
        · intro r hr
          rcases List.mem_append.mp hr with h | h
          · exact hrl r h
          · rw [List.mem_singleton.mp h]
            exact rowN_len eR
        · rw [List.length_append, lrw]
          rfl
        · rw [er2, eR]
      · obtain ⟨y6, y7, y8, y9, us, rows, rfl, g, epr, enl, ewl, lus, hgu, hrl, lrw, er⟩ := h
        rw [nrest, List.drop_length] at er
        rw [nrest] at lrw
        exact ⟨y6, y7, y8, y9, us, rows, rfl, g, enl, ewl, lus, fun i u r h1 h2 => (hgu i u r h1 h2).2.2, hrl, by omega, er⟩
    rintro σ H7 ⟨y6, y7, y8, y9, us, rows, rfl, g, enl, ewl, lus, hus, hrl, lrw, er⟩
    refine ⟨_, rfl, nl, _, rfl, .inl ⟨SqL.of enl, fun t nt => ?_⟩⟩
    have st := Same.up nt (o := .tup (rows.map fun r => V.str r.1))
    have ewt := st _ _ ewl
    have hust : ∀ (i : Nat) (u : Addr) (r : WRow), us[i]? = some u → rows[i]? = some r → (upd H7 t (.tup (rows.map fun r => V.str r.1))) u = some (.lst (r.2.map iV)) := fun i u r h1 h2 => st _ _ (hus i u r h1 h2)
    have ett : (upd H7 t (.tup (rows.map fun r => V.str r.1))) t = some (.tup (rows.map fun r => V.str r.1)) := upd_same
    have gt := g.trans st
    generalize upd H7 t (.tup (rows.map fun r => V.str r.1)) = H8 at gt ewt hust ett
    refine ⟨_, rfl, m, rfl, by omega, by omega, fun D nD => ?_⟩
    refine lc_rangeD (K := K) (n := m) ((colsN m rows).map rowD) (noLs_row _) (by unfold colsN; rw [List.length_map, List.length_map, List.length_range]) (by omega) nD (fun k d H9 Q9 hk hdk sm q9 => ?_) (fun H9 acc sm e9 dp9 => ?_)
    · have ed : rowD (rows.map fun r => r.2.getD k 0) = d := by
        unfold colsN at hdk
        rw [List.getElem?_map, List.getElem?_map, List.getElem?_range hk] at hdk
        exact Option.some.inj hdk
      subst ed
      refine ⟨rfl, ?_⟩
      refine ⟨_, rfl, wl, rfl, ⟨_, SqL.of (sm _ _ ewt)⟩, fun D2 nD2 => ?_⟩
      refine lc_listD (xs := us.map V.ref) ((rows.map fun r => r.2.getD k 0).map iD) (noLs_int _) (by rw [List.length_map, List.length_map, List.length_map, lus]) (by rw [List.length_map]; omega) (SqL.of (sm _ _ ewt)) nD2 (fun i v d H10 Q10 hv hdi s10 q10 => ?_) (fun H10 acc s10 e10 dp10 => ?_)
      · rw [List.getElem?_map] at hv
        obtain ⟨u, eu, rfl⟩ := Option.map_eq_some_iff.mp hv
        obtain ⟨r, err⟩ : ∃ r, rows[i]? = some r := ⟨_, List.getElem?_eq_getElem (by have := (List.getElem?_eq_some_iff.mp eu).1; omega)⟩
        have ed : iD (r.2.getD k 0) = d := by
          rw [List.getElem?_map, List.getElem?_map, err] at hdi
          exact Option.some.inj hdi
        subst ed
        have hlr := hrl r (List.mem_of_getElem? err)
        have hkr : k < r.2.length := by omega
        have eat : atI (r.2.map iV) ((0 : Int) + ((k : Nat) : Int)) = some (iV (r.2.getD k 0)) := by
          rw [Int.zero_add]
          exact atI_nat (row_get hkr)
        exact ⟨rfl, _, rfl, _, rfl, u, _, _, _, rfl, rfl, SqL.of (s10 _ _ (sm _ _ (hust i u r eu err))), eat, q10 _ _ (Same.refl _) (.int _)⟩
      · refine ⟨D2, _, rfl, .inl ⟨SqL.of e10, fun t nt => ?_⟩⟩
        exact q9 _ _ (s10.trans (Same.up nt)) (.tup (SqT.of upd_same) (dps_stay (same_tup (Same.up nt)) _ _ dp10 (noLs_int _)))
    · refine ⟨D, _, rfl, .inl ⟨SqL.of e9, fun t2 nt2 => ⟨line200 (show 2 ≤ 1000 by decide), fun t3 nt3 => ?_⟩⟩⟩
      have st2 := Same.up nt2 (o := .tup acc)
      have st3 := Same.up nt3 (o := .tup [.ref t, .ref t2])
      refine q _ _ (((gt.trans sm).trans st2).trans st3) ?_
      have eN : wavesN x = .inr (m, rows) := by
        rw [eP2, er]
        rfl
      unfold wavesRD
      rw [eN]
      refine .tup (SqT.of upd_same) (.cons (.tup (SqT.of (st3 _ _ (st2 _ _ (sm _ _ ett)))) ?_) (.cons (.tup (same_tup st3 _ _ (SqT.of upd_same)) ?_) .nil))
      · have := dps_ofs (K := K) (H := upd (upd H9 t2 (.tup acc)) t3 (.tup [.ref t, .ref t2])) (rows.map (·.1))
        rw [List.map_map] at this
        exact this
      · exact dps_stay (same_tup (st2.trans st3)) _ _ dp9 (noLs_row _)
end
end C1

/-! What the law is told of a text. -/
namespace K0
open PySem PySem.Spec PyProof.Rows L2
theorem pss_cls {X : Cx} {sts : List Stmt} {t : TS} {cls : Value} {C : Addr} (h : cls = .ref C → PSs X sts t) : PSs X sts (fun D σ H => cls = .ref C ∧ t D σ H) :=
  ⟨fun pins s σ H D I q => (h q.1).run pins s σ H D I q.2⟩
end K0
namespace C1
open PySem PySem.Spec PyProof.Rows L2 SX
open K0 (Cs digs isNum)
open GxR (TabG Tabbed TabB GenS)
abbrev sLawTold : Stmt := topS 28
theorem scLawTold : FnScope ["text", "e"] ["text"] (defScope sLawTold) := ⟨rfl, rfl, rfl, by decide +kernel, rfl, by decide +kernel, by decide +kernel⟩
structure ErrT (K : PySem.W.Frag) (mg : Str → Option Value) (C : Addr) : Prop where
  g : mg "BadLine" = some (.ref C)
  x : XfC K C
  c : ExcC K C
  nL : PySem.W.findIn K (.ref C) "line" = some none
abbrev sufL (K : PySem.W.Frag) (C CC : Addr) : K0T.Suite := fun a cls d => fun D σ H => cls = .ref C ∧ tRet (tTup (tCons (tC (.str "line")) (tCons (tIf (tB (tCB (K0E.rIsF K C a d) (tCons (tVar 1) (tCons (tC (.ref CC)) tNil)))) (tXf a cls d C "line" (tVar 1)) (tC .non)) tNil))) D σ H
def toldR (x : Str) : PyData := match wavesN x with
  | .inr r => .tuple [.str "waves", pairD r.1 r.2]
  | .inl n => .tuple [.str "line", iD n]
theorem noL_pair (m : Nat) (rows : List WRow) : noL (pairD m rows) = true := by
  show (noLs ((rows.map (·.1)).map .str) && (noLs ((colsN m rows).map rowD) && true)) = true
  rw [noLs_strs, noLs_row]
  rfl
section
variable {P : Program} {w : World} {K : PySem.W.Frag} {mg : Str → Option Value} {base : Heap} {T : Addr}
def spTold (K : PySem.W.Frag) (T : Addr) : Sp := fun vs H Q _ => ∃ x : Str, vs = [.str x] ∧ TxL 250 140 x ∧ (∀ y ∈ splitL x, WvLn y) ∧ TabG H T ∧ ∀ H' v, Gr T H H' → Dp K H' v (toldR x) → Q v H'
theorem ok_told {f fP C CC : Addr} {fd fdP : FuncData} (F : Fun K "_law_told" "_law_told" sLawTold f fd) (X : ErrT K mg C) (gC : mg "CutError" = some (.ref CC)) (B : Gp mg)
    (GP : FnOk P w K mg base (L2.CX P w) 4 fP fdP ["text"] (spRWaves K T C)) (kP : PySem.W.keepIn K (.ref fP) = true) (bP : Binds K fdP ["text"] []) (gP : mg "read_waves" = some (.ref fP))
    (e1 : PySem.W.exmOne K (.ref C) (.ref C) = some true) (i1 : PySem.W.kitOne K (.ref C) (.ref CC) = some true) :
    FnOk P w K mg base CX0 5 f fd ["text"] (spTold K T) := by
  refine F.ok scLawTold (fun vs H Q E h => ?_) (fun cdv A outer s H vs Q E hr h => ?_)
  · obtain ⟨x, rfl, _⟩ := h
    rfl
  · obtain ⟨x, rfl, hx, hw, tb, q⟩ := h
    have nd := scLawTold.nd
    have hr4 : Room 4 _ := hr
    have hu := hr.units
    refine ⟨_, (pss_one (K0T.ps_try_ases (i := 1) (tb := fun W => tRet (tTup (tCons (tC (.str "waves")) (tCons (tCallS (spRWaves K T C) (WE W) (tCons (tVar 0) tNil)) tNil)))) (Wo := fun _ _ _ _ => False) rfl rfl nd rfl rfl takes0 (fun W pn xe tk _ => pss_one (ps_ret (by exact (pe_tup (pa_cons pe_str (pa_cons (pe_callS GP hr4 (by rfl) gP kP bP (fun σ => passAt tk σ) (by exact (pa_cons (pv 0) pa_nil))) pa_nil)))))) (.cons (ts := sufL K C CC) ⟨rfl, by decide, .inl X.g⟩ (fun a oe cls d pn hz hf => by exact (K0.pss_cls (C := C) fun hcls => (pss_one (ps_ret (pe_tup (pa_cons pe_str (pa_cons (pe_ifExp (pt_val (pe_callB (K0E.call_isF X.c (hcls ▸ hz) hf) (by rfl) B.isi (by decide +kernel) (pa_cons (pv 1) (pa_cons (pe_glob (v := .ref CC) (by rfl) gC rfl) pa_nil)))) (pe_xf X.x X.nL hz hf (pv 1)) pe_non) pa_nil))))))) .nil))), ?_⟩
    refine ⟨_, rfl, x, rfl, hx, hw, tb, fun m rows ed H1 v g1 dv => ⟨line200 (show 2 ≤ 1000 by decide), fun t nt => ?_⟩, fun n en H1 d g1 e3 => ?_⟩
    · refine q _ _ (g1.trans (Gr.laid g1.tab nt)) ?_
      unfold toldR
      rw [ed]
      exact .tup (SqT.of upd_same) (.cons (.str _) (.cons (dp_stay (same_tup (Same.up nt)) _ _ dv (noL_pair m rows)) .nil))
    · refine ⟨true, e1, fun _ ax nax => ⟨rfl, ?_⟩, fun z => nomatch z⟩
      refine ⟨_, rfl, .ref CC, .ref CC, true, d, fsL (n : Nat), rfl, (fun u h => h), i1, rfl, e3, _, rfl, iteT ?_⟩
      refine ⟨_, rfl, rfl, rfl, d, fsL (n : Nat), .int (n : Nat), rfl, e3, rfl, ?_⟩
      refine ⟨line200 (show 2 ≤ 1000 by decide), fun t nt => ?_⟩
      refine q _ _ (g1.trans (Gr.laid g1.tab nt)) ?_
      unfold toldR
      rw [en]
      exact .tup (SqT.of upd_same) (.cons (.str _) (.cons (.int _) .nil))
end
end C1

/-! A text bent, by the law. -/
namespace C1
open PySem PySem.Spec PyProof.Rows L2 SX
open K0 (Cs digs isNum)
abbrev sLawBent : Stmt := topS 29
theorem scLawBent : FnScope ["w", "lines", "at", "parts", "k", "turn", "line"] ["w", "lines"] (defScope sLawBent) := ⟨rfl, rfl, rfl, by decide +kernel, rfl, by decide +kernel, by decide +kernel⟩
abbrev NLB : List Str := ["w", "lines", "at", "parts", "k", "turn", "line"]
theorem LnB.app {b c : Nat} {x y : Str} (h : LnB b x) (k : LnB c y) : LnB (b + c) (x ++ y) := by
  have e : (x ++ y).cps.toList = x.cps.toList ++ y.cps.toList := app_cs x y
  refine ⟨?_, fun z hz => ?_, fun hz => ?_⟩
  · have := app_len x y
    have h1 : (x ++ y).cps.size = x.cps.size + y.cps.size := this
    have := h.sz
    have := k.sz
    omega
  · rw [e] at hz
    exact (List.mem_append.mp hz).elim (h.as z) (k.as z)
  · rw [e] at hz
    exact (List.mem_append.mp hz).elim h.nl k.nl
def wordsB : List Str := [".", "0", "1", "01", "-1", "x", "", "cycles", "3", "12"]
theorem wordsB_ln : ∀ s ∈ wordsB, s.cps.size ≤ 6 ∧ (∀ c ∈ s.cps.toList, c < 128 ∧ c ≠ 10 ∧ c ≠ 32) ∧ (numB s = true → numV s ≤ 1000) := by decide +kernel
/-- a line of the law's -/
structure WLine (b : Nat) (y : Str) : Prop where
  ln : LnB b y
  wv : WvLn y
theorem wl_short {s : Str} (h : s ∈ ["", "x"].map Str.ofString) : WLine 6 s := by
  have h2 : ∀ s ∈ ["", "x"].map Str.ofString, s.cps.size ≤ 6 ∧ (∀ c ∈ s.cps.toList, c < 128 ∧ c ≠ 10) ∧ ∀ z ∈ spS s, numB z = false := by decide +kernel
  obtain ⟨a, b, c⟩ := h2 s h
  exact ⟨⟨a, fun k hk => (b k hk).1, fun hk => (b 10 hk).2 rfl⟩, fun z hz hn => by rw [c z hz] at hn; cases hn⟩
theorem wl_set {b : Nat} {y z : Str} {k : Nat} (h : WLine b y) (hz : z ∈ wordsB) : WLine (b + 6) (Txt.join spB ((spS y).set k z)) := by
  obtain ⟨a1, a2, a3⟩ := wordsB_ln z hz
  have hlz : LnB 6 z := ⟨a1, fun c hc => (a2 c hc).1, fun hc => (a2 10 hc).2.1 rfl⟩
  refine ⟨join_set h.ln hlz, fun p hp hn => ?_⟩
  have ne : (spS y).set k z ≠ [] := fun e => by
    have := congrArg List.length e
    rw [List.length_set] at this
    exact spS_ne y (List.eq_nil_of_length_eq_zero this)
  rw [split_sp ne (fun p hp => ?_)] at hp
  · rcases List.mem_or_eq_of_mem_set hp with v | v
    · exact h.wv p v hn
    · rw [v] at hn ⊢
      exact a3 hn
  · rcases List.mem_or_eq_of_mem_set hp with v | v
    · exact sp_free v
    · rw [v]
      exact fun hc => (a2 32 hc).2.2 rfl
theorem WLine.up {b c : Nat} {y : Str} (h : WLine b y) (l : b ≤ c) : WLine c y := ⟨h.ln.up l, h.wv⟩
theorem wv_nil : WvLn (Str.ofString "") := (wl_short (s := Str.ofString "") (by simp)).wv
theorem text_wl {ys : List Str} {b : Nat} (h : ∀ y ∈ ys, WLine b y) : ∀ y ∈ splitL (textL ys), WvLn y := fun y hy => by
  rw [split_text (fun x hx => (h x hx).ln.nl)] at hy
  rcases List.mem_append.mp hy with z | z
  · exact (h y z).wv
  · rw [List.mem_singleton.mp z]
    exact wv_nil
section
variable {P : Program} {w : World} {K : PySem.W.Frag} {mg : Str → Option Value} {base : Heap} {T : Addr} {a l : Addr} {ds : List Int}
theorem two_te2 {σ : L2.St} {H : Hp} {v i j : Nat} {q : Addr} {xs : List Str} {tA tB : TE} {Q : VK} (hv : σ[v]? = some (some (.ref q))) (e : H q = some (.lst (xs.map V.str))) (W : Wd H a l ds) (qa : q ≠ a)
    (hA : ∀ H1 (R : VK), R (iV i) H1 → tA σ H1 R) (hB : ∀ H1 (R : VK), R (iV j) H1 → tB σ H1 R) (hl : xs.length ≤ 200)
    (hq : ∀ (H' : Hp) (p : Addr), Kp a H H' → Wd H' a l ds → H' p = some (.lst ((xs.take i ++ xs.drop j).map V.str)) → p ≠ a → Q (.ref p) H') :
    (tOp rCat (tSl (rSlL K) (tVar v) tNoPart (tPart tA)) (tSl (rSlL K) (tVar v) (tPart tB) tNoPart)) σ H Q := by
  have ez1 : cutV (xs.map V.str) none (some ((i : Nat) : Int)) = (xs.take i).map V.str := by rw [cut_to, List.map_take]
  have l1 : (xs.take i).length ≤ xs.length := by rw [List.length_take]; omega
  have ez2 : cutV (xs.map V.str) (some ((j : Nat) : Int)) none = (xs.drop j).map V.str := by rw [cut_hi, List.map_drop]
  have l2 : (xs.drop j).length ≤ xs.length := by rw [List.length_drop]; omega
  refine ⟨_, hv, hA _ _ ⟨_, rfl, q, _, rfl, SqL.of e, fun s1 n1 => ?_⟩⟩
  have k1 := Kp.new (a := a) (o := .lst (cutV (xs.map V.str) none (some ((i : Nat) : Int)))) n1
  have W1 := W.new (o := .lst (cutV (xs.map V.str) none (some ((i : Nat) : Int)))) n1
  have e1 := k1 _ _ qa e
  have f1 : (upd H s1 (.lst (cutV (xs.map V.str) none (some ((i : Nat) : Int))))) s1 = some (.lst ((xs.take i).map V.str)) := by rw [upd_same, ez1]
  generalize upd H s1 (.lst (cutV (xs.map V.str) none (some ((i : Nat) : Int)))) = H1 at k1 W1 e1 f1
  refine ⟨_, hv, hB _ _ ⟨_, rfl, q, _, rfl, SqL.of e1, fun s2 n2 => ?_⟩⟩
  have k2 := Kp.new (a := a) (o := .lst (cutV (xs.map V.str) (some ((j : Nat) : Int)) none)) n2
  have W2 := W1.new (o := .lst (cutV (xs.map V.str) (some ((j : Nat) : Int)) none)) n2
  have f2 : (upd H1 s2 (.lst (cutV (xs.map V.str) (some ((j : Nat) : Int)) none))) s2 = some (.lst ((xs.drop j).map V.str)) := by rw [upd_same, ez2]
  have f1' := k2 _ _ (W1.at'.elim fun n h => ne_of f1 h.2 (by intro z; cases z)) f1
  generalize upd H1 s2 (.lst (cutV (xs.map V.str) (some ((j : Nat) : Int)) none)) = H2 at k2 W2 f2 f1'
  refine ⟨s1, s2, _, _, rfl, rfl, f1', f2, line200 (by rw [List.length_map, List.length_map]; omega), fun p np => ?_⟩
  exact hq _ p ((k1.trans k2).trans (Kp.new np)) (W2.new np) (by rw [upd_same, List.map_append]) (W2.fresh np)
theorem mid_te2 {σ : L2.St} {H : Hp} {v i j : Nat} {q : Addr} {xs : List Str} {Py : List Str → Prop} {tA tB te : TE} {Q : VK} (hv : σ[v]? = some (some (.ref q))) (e : H q = some (.lst (xs.map V.str))) (W : Wd H a l ds) (qa : q ≠ a)
    (hA : ∀ H1 (R : VK), R (iV i) H1 → tA σ H1 R) (hB : ∀ H1 (R : VK), R (iV j) H1 → tB σ H1 R) (hl : xs.length ≤ 200)
    (hte : ∀ H1 (R : VK), Kp a H H1 → Wd H1 a l ds → (∀ (p : Addr) (ys : List Str) (H2 : Hp), Kp a H1 H2 → Wd H2 a l ds → H2 p = some (.lst (ys.map V.str)) → p ≠ a → Py ys → ys.length ≤ 200 → R (.ref p) H2) → te σ H1 R)
    (hq : ∀ (H' : Hp) (p : Addr) (ys : List Str), Py ys → Kp a H H' → Wd H' a l ds → H' p = some (.lst (((xs.take i ++ ys) ++ xs.drop j).map V.str)) → p ≠ a → Q (.ref p) H') :
    (tOp rCat (tOp rCat (tSl (rSlL K) (tVar v) tNoPart (tPart tA)) te) (tSl (rSlL K) (tVar v) (tPart tB) tNoPart)) σ H Q := by
  have front : cutV (xs.map V.str) none (some ((i : Nat) : Int)) = (xs.take i).map V.str := by rw [cut_to, List.map_take]
  have back : cutV (xs.map V.str) (some ((j : Nat) : Int)) none = (xs.drop j).map V.str := by rw [cut_hi, List.map_drop]
  have l1 : (xs.take i).length ≤ xs.length := by rw [List.length_take]; omega
  have l2 : (xs.drop j).length ≤ xs.length := by rw [List.length_drop]; omega
  refine ⟨_, hv, hA _ _ ⟨_, rfl, q, _, rfl, SqL.of e, fun s1 n1 => ?_⟩⟩
  rw [front]
  have k1 := Kp.new (a := a) (o := .lst ((xs.take i).map V.str)) n1
  have W1 := W.new (o := .lst ((xs.take i).map V.str)) n1
  have e1 := k1 _ _ qa e
  have f1 : (upd H s1 (.lst ((xs.take i).map V.str))) s1 = some (.lst ((xs.take i).map V.str)) := upd_same
  have a1 := W.fresh n1
  generalize upd H s1 (.lst ((xs.take i).map V.str)) = H1 at k1 W1 e1 f1
  refine hte _ _ k1 W1 fun p3 ys H3 k3 W3 f3 a3 hy ly => ?_
  replace e1 := k3 _ _ qa e1
  replace f1 := k3 _ _ a1 f1
  refine ⟨s1, p3, _, _, rfl, rfl, f1, f3, line200 (by rw [List.length_map, List.length_map]; omega), fun p4 n4 => ?_⟩
  rw [← List.map_append]
  have k4 := Kp.new (a := a) (o := .lst ((xs.take i ++ ys).map V.str)) n4
  have W4 := W3.new (o := .lst ((xs.take i ++ ys).map V.str)) n4
  have a4 := W3.fresh n4
  have f4 : (upd H3 p4 (.lst ((xs.take i ++ ys).map V.str))) p4 = some (.lst ((xs.take i ++ ys).map V.str)) := upd_same
  replace e1 := k4 _ _ qa e1
  generalize upd H3 p4 (.lst ((xs.take i ++ ys).map V.str)) = H4 at k4 W4 f4 e1
  refine ⟨_, hv, hB _ _ ⟨_, rfl, q, _, rfl, SqL.of e1, fun s2 n2 => ?_⟩⟩
  rw [back]
  have k5 := Kp.new (a := a) (o := .lst ((xs.drop j).map V.str)) n2
  have W5 := W4.new (o := .lst ((xs.drop j).map V.str)) n2
  have f2 : (upd H4 s2 (.lst ((xs.drop j).map V.str))) s2 = some (.lst ((xs.drop j).map V.str)) := upd_same
  replace f4 := k5 _ _ a4 f4
  generalize upd H4 s2 (.lst ((xs.drop j).map V.str)) = H5 at k5 W5 f2 f4
  refine ⟨p4, s2, _, _, rfl, rfl, f4, f2, line200 (by rw [List.length_map, List.length_map, List.length_append]; omega), fun p np => ?_⟩
  exact hq _ p ys hy ((((k1.trans k3).trans k4).trans k5).trans (Kp.new np)) (W5.new np) (by rw [upd_same, ← List.map_append]) (W5.fresh np)
def spBent (K : PySem.W.Frag) : Sp := fun vs H Q _ => ∃ (a l p : Addr) (ds : List Int) (xs : List Str), vs = [.ref a, .ref p] ∧ Wd H a l ds ∧ H p = some (.lst (xs.map V.str)) ∧ xs ≠ [] ∧ xs.length ≤ 6 ∧ (∀ x ∈ xs, WLine 200 x) ∧
  ∀ (H' : Hp) (y : Str), Kp a H H' → Wd H' a l ds → TxL 250 140 y → (∀ z ∈ splitL y, WvLn z) → Q (.str y) H'
theorem ok_bent {f fN : Addr} {fd fdN : FuncData} (F : Fun K "_law_bent" "_law_bent" sLawBent f fd) (B : BT mg)
    (GN : FnOk P w K mg base CX0 1 fN fdN ["w", "many"] spNext) (kN : PySem.W.keepIn K (.ref fN) = true) (bN : Binds K fdN ["w", "many"] []) (gN : mg "_law_next" = some (.ref fN)) :
    FnOk P w K mg base CX0 2 f fd ["w", "lines"] (spBent K) := by
  refine F.ok scLawBent (fun vs H Q E h => ?_) (fun cdv A outer s H vs Q E hr h => ?_)
  · obtain ⟨a, l, p, ds, xs, rfl, _⟩ := h
    rfl
  · obtain ⟨a, l, p, ds, xs, rfl, W, ep, hne, hlen, hx, q⟩ := h
    have nd := scLawBent.nd
    have pa : p ≠ a := W.at'.elim fun n h => ne_of ep h.2 (by intro z; cases z)
    have hpos : 0 < xs.length := List.length_pos_iff.mpr hne
    have hr1 : Room 1 _ := hr
    refine ⟨_, (pss_cons (ps_set (i := 2) nd rfl (.inl rfl) (pe_call GN hr1 (by rfl) gN kN bN .nil pass0 (pa_cons (pv 0) (pa_cons (pe_callB call_len_seq (by rfl) B.len PySem.boot_len (pa_cons (pv 1) pa_nil)) pa_nil))))
      (pss_cons (ps_set (i := 3) nd rfl (.inl rfl) (pe_split (pe_ix ix_list (pv 1) (pv 2) (fun _ _ => rfl)) (pe_str)))
      (pss_cons (ps_set (i := 4) nd rfl (.inl rfl) (pe_call GN hr1 (by rfl) gN kN bN .nil pass0 (pa_cons (pv 0) (pa_cons (pe_callB call_len_seq (by rfl) B.len PySem.boot_len (pa_cons (pv 3) pa_nil)) pa_nil))))
      (pss_cons (ps_set (i := 5) nd rfl (.inl rfl) (pe_call GN hr1 (by rfl) gN kN bN .nil pass0 (pa_cons (pv 0) (pa_cons (pe_int) pa_nil))))
      (pss_cons (ps_if (pt_cmpR op_eq (pv 5) (pe_int) (nomark _)) (pss_one (ps_ret (pe_join (pe_str) (pv 1)))) pss_nil)
      (C8.pss_cut (ps_if (pt_cmpR op_eq (pv 5) (pe_int) (nomark _)) (pss_one (ps_set (i := 1) nd rfl (.inl rfl) (pe_op op_cat (pe_slice sl_list (pv 1) po_none (po_some (pv 2))) (pe_slice sl_list (pv 1) (po_some (pe_op op_add (pv 2) (pe_int))) po_none)))) (pss_one (ps_if (pt_cmpR op_eq (pv 5) (pe_int) (nomark _)) (pss_one (ps_set (i := 1) nd rfl (.inl rfl) (pe_op op_cat (pe_op op_cat (pe_slice sl_list (pv 1) po_none (po_some (pv 2))) (pe_lst (pa_cons (pe_ix ix_list (pv 1) (pv 2) (fun _ _ => rfl)) (pa_cons (pe_ix ix_list (pe_lst (pa_cons (pe_str) (pa_cons (pe_str) (pa_cons (pe_ix ix_list (pv 1) (pv 2) (fun _ _ => rfl)) pa_nil)))) (pe_call GN hr1 (by rfl) gN kN bN .nil pass0 (pa_cons (pv 0) (pa_cons (pe_int) pa_nil))) (fun _ _ => rfl)) pa_nil)))) (pe_slice sl_list (pv 1) (po_some (pe_op op_add (pv 2) (pe_int))) po_none)))) (pss_cons (ps_asg (pe_ix ix_list (pe_lst (pa_cons (pe_str) (pa_cons (pe_str) (pa_cons (pe_str) (pa_cons (pe_str) (pa_cons (pe_str) (pa_cons (pe_str) (pa_cons (pe_str) (pa_cons (pe_str) (pa_cons (pe_str) (pa_cons (pe_str) pa_nil))))))))))) (pe_call GN hr1 (by rfl) gN kN bN .nil pass0 (pa_cons (pv 0) (pa_cons (pe_int) pa_nil))) (fun _ _ => rfl)) (pg_sub (pv 3) (pv 4) set_list))
      (pss_one (ps_set (i := 1) nd rfl (.inl rfl) (pe_op op_cat (pe_op op_cat (pe_slice sl_list (pv 1) po_none (po_some (pv 2))) (pe_lst (pa_cons (pe_join (pe_str) (pv 3)) pa_nil))) (pe_slice sl_list (pv 1) (po_some (pe_op op_add (pv 2) (pe_int))) po_none))))))))
      (pss_one (ps_ret (pe_join (pe_str) (pe_lc (own := [("line", 6)]) (g := gName 6) (tt := tYes) (te := tOp rAddStr (tVar 6) (tC (.str "\n")))  rfl nd (pi_list (pv 1)) (blkOk_by (own := [("line", 6)]) (N := NLB) (sc := defScope sLawBent) (by decide +kernel)) (fun _ _ _ _ _ => pg_name (i := 6) nd rfl (.inl rfl)) (fun _ _ _ _ _ => pts_nil) (fun _ _ _ _ _ => by exact (pe_op op_add_str (pv 6) (pe_str))))))))))))), ?_⟩
    refine ⟨_, rfl, _, rfl, p, _, rfl, .inl (SqL.of ep), a, l, ds, _, rfl, by rw [List.length_map]; omega, W, fun at0 H1 hat k1 _ W1 => ?_⟩
    rw [List.length_map] at hat
    replace hat : at0 < xs.length := by omega
    have e1 := k1 _ _ pa ep
    obtain ⟨y, ey⟩ : ∃ y, xs[at0]? = some y := ⟨_, List.getElem?_eq_getElem hat⟩
    have hyb := hx y (List.mem_of_getElem? ey)
    have eyV : (xs.map V.str)[at0]? = some (.str y) := by rw [List.getElem?_map, ey]; rfl
    refine ⟨_, rfl, _, rfl, p, _, _, _, rfl, rfl, SqL.of e1, atI_nat (j := at0) eyV, ⟨y, rfl⟩, y, Str.ofString " ", rfl, rfl, rfl, (by show y.cps.size + 2 ≤ sizeLine; have := hyb.ln.sz; rw [sizeLine_eq]; omega), fun pr npr => ?_⟩
    have k2 := k1.trans (Kp.new npr (o := .lst ((spS y).map V.str)))
    have W2 := W1.new npr (o := .lst ((spS y).map V.str))
    have e2 := (Kp.new npr (o := .lst ((spS y).map V.str)) (a := a)) _ _ pa e1
    have er : (upd H1 pr (.lst ((spS y).map V.str))) pr = some (.lst ((spS y).map V.str)) := upd_same
    have pra := W1.fresh npr
    show gName 3 (.ref pr) _ (upd H1 pr (.lst ((spS y).map V.str))) _
    generalize upd H1 pr (.lst ((spS y).map V.str)) = H2 at k2 W2 e2 er
    have hsp : 0 < (spS y).length := List.length_pos_iff.mpr (spS_ne y)
    refine ⟨_, rfl, _, rfl, pr, _, rfl, .inl (SqL.of er), a, l, ds, _, rfl, by rw [List.length_map]; omega, W2, fun k0 H3 hk k3 _ W3 => ?_⟩
    rw [List.length_map] at hk
    replace hk : k0 < (spS y).length := by omega
    have e3 := k3 _ _ pa e2
    replace er := k3 _ _ pra er
    refine ⟨_, rfl, a, l, ds, _, rfl, by decide, W3, fun wy H4 hwy k4 _ W4 => ?_⟩
    have e4 := k4 _ _ pa e3
    replace er := k4 _ _ pra er
    have k04 := (k2.trans k3).trans k4
    refine ⟨_, rfl, rfl, _, rfl, ?_⟩
    by_cases t0 : wy = 0
    · refine iteT' (decide_eq_true (congrArg V.int (by omega))) ?_
      have hs : splitL (Txt.join nlS xs) = xs := split_lines hne fun x h => (hx x h).ln.nl
      refine ⟨⟨_, rfl⟩, _, rfl, nlS, p, xs, rfl, rfl, .inl (SqL.of e4), ?_, q H4 _ k04 W4 (txl_join hne (fun z h => ((hx z h).ln.up (by decide))) (by omega)) (by rw [hs]; exact fun z h => (hx z h).wv)⟩
      have h1 := len_sum (xs := xs) (b := 200) fun z h => (hx z h).ln.sz
      have h0 : nlS.length = 1 := by decide +kernel
      rw [h0]
      omega
    refine iteF' (decide_eq_false (fun z => t0 (by have := V.int.inj z; omega))) ?_
    have hx2 : ∀ z ∈ xs, WLine 250 z := fun z hz => (hx z hz).up (by decide)
    refine ⟨fun σ H' => ∃ (q' pp : Addr) (ys : List Str), σ = [some (.ref a), some (.ref q'), some (iV at0), some (.ref pp), some (iV k0), some (iV wy), none] ∧ Kp a H H' ∧ Wd H' a l ds ∧ H' q' = some (.lst (ys.map V.str)) ∧ q' ≠ a ∧ ys.length ≤ 8 ∧ ∀ y ∈ ys, WLine 250 y, ?_, ?_⟩
    · refine ⟨_, rfl, rfl, _, rfl, ?_⟩
      by_cases t1 : wy = 1
      · refine iteT' (decide_eq_true (congrArg V.int (by omega))) ?_
        refine two_te2 (i := at0) (j := at0 + 1) rfl e4 W4 pa (fun H1 R h => ⟨_, rfl, h⟩) (fun H1 R h => ⟨_, rfl, _, _, rfl, rfl, h⟩) (by omega) fun H' p' k' W' e' a' => ?_
        exact ⟨p', pr, _, rfl, k04.trans k', W', e', a', by rw [List.length_append, List.length_take, List.length_drop]; omega, fun z hz => (List.mem_append.mp hz).elim (fun h => hx2 z (List.mem_of_mem_take h)) (fun h => hx2 z (List.mem_of_mem_drop h))⟩
      refine iteF' (decide_eq_false (fun z => t1 (by have := V.int.inj z; omega))) ?_
      refine ⟨_, rfl, rfl, _, rfl, ?_⟩
      by_cases t2 : wy = 2
      · refine iteT' (decide_eq_true (congrArg V.int (by omega))) ?_
        refine mid_te2 (Py := fun ys => ys.length ≤ 2 ∧ ∀ z ∈ ys, WLine 250 z) (i := at0) (j := at0 + 1) rfl e4 W4 pa (fun H1 R h => ⟨_, rfl, h⟩) (fun H1 R h => ⟨_, rfl, _, _, rfl, rfl, h⟩) (by omega) (fun H5 R k5 W5 c => ?_) fun H' p' ys hy k' W' e' a' => ?_
        · have e5 := k5 _ _ pa e4
          refine ⟨_, rfl, _, rfl, p, _, _, _, rfl, rfl, SqL.of e5, atI_nat (j := at0) eyV, ?_⟩
          refine ⟨_, rfl, _, rfl, p, _, _, _, rfl, rfl, SqL.of e5, atI_nat (j := at0) eyV, line200 (show 3 ≤ 1000 by decide), fun tp ntp => ?_⟩
          have k6 := Kp.new (a := a) ntp (o := .lst [.str "", .str "x", .str y])
          have W6 := W5.new ntp (o := .lst [.str "", .str "x", .str y])
          have et : (upd H5 tp (.lst [.str "", .str "x", .str y])) tp = some (.lst [.str "", .str "x", .str y]) := upd_same
          have ta := W5.fresh ntp
          generalize upd H5 tp (.lst [.str "", .str "x", .str y]) = H6 at k6 W6 et
          refine ⟨_, rfl, a, l, ds, _, rfl, by decide, W6, fun r H7 hr7 k7 _ W7 => ?_⟩
          obtain ⟨u, eu, hu⟩ : ∃ u, ([V.str "", .str "x", .str y] : List V)[r]? = some (.str u) ∧ WLine 250 u := by
            have : r = 0 ∨ r = 1 ∨ r = 2 := by omega
            rcases this with rfl | rfl | rfl
            · exact ⟨_, rfl, (wl_short (s := Str.ofString "") (by simp)).up (by decide)⟩
            · exact ⟨_, rfl, (wl_short (s := Str.ofString "x") (by simp)).up (by decide)⟩
            · exact ⟨_, rfl, hyb.up (by decide)⟩
          refine ⟨tp, _, _, _, rfl, rfl, SqL.of (k7 _ _ ta et), atI_nat (j := r) eu, line200 (show 2 ≤ 1000 by decide), fun mp nmp => ?_⟩
          refine c mp [y, u] _ ((k6.trans k7).trans (Kp.new nmp)) (W7.new nmp) upd_same (W7.fresh nmp) ⟨Nat.le_refl _, fun z hz => ?_⟩ (by show 2 ≤ 200; decide)
          rcases List.mem_cons.mp hz with rfl | hz
          · exact hyb.up (by decide)
          · rw [List.mem_singleton.mp hz]
            exact hu
        · refine ⟨p', pr, _, rfl, k04.trans k', W', e', a', by rw [List.length_append, List.length_append, List.length_take, List.length_drop]; omega, fun z hz => ?_⟩
          rcases List.mem_append.mp hz with h | h
          · rcases List.mem_append.mp h with h | h
            · exact hx2 z (List.mem_of_mem_take h)
            · exact hy.2 z h
          · exact hx2 z (List.mem_of_mem_drop h)
      refine iteF' (decide_eq_false (fun z => t2 (by have := V.int.inj z; omega))) ?_
      refine ⟨line200 (show 10 ≤ 1000 by decide), fun tp ntp => ?_⟩
      have k5 := Kp.new (a := a) ntp (o := .lst (wordsB.map V.str))
      have W5 := W4.new ntp (o := .lst (wordsB.map V.str))
      have et : (upd H4 tp (.lst (wordsB.map V.str))) tp = some (.lst (wordsB.map V.str)) := upd_same
      have ta := W4.fresh ntp
      have e5 := k5 _ _ pa e4
      have er5 := k5 _ _ pra er
      refine ⟨_, rfl, a, l, ds, _, rfl, by decide, W5, fun r H6 hr6 k6 _ W6 => ?_⟩
      obtain ⟨u, eu⟩ : ∃ u, wordsB[r]? = some u := ⟨_, List.getElem?_eq_getElem (by show r < 10; omega)⟩
      have hu := List.mem_of_getElem? eu
      have e6 := k6 _ _ pa e5
      have er6 := k6 _ _ pra er5
      refine ⟨tp, _, _, _, rfl, rfl, SqL.of (k6 _ _ ta et), atI_nat (j := r) (by rw [List.getElem?_map, eu]; rfl), ?_⟩
      have hix : ixN ((spS y).map V.str).length ((k0 : Nat) : Int) = some k0 := by
        unfold ixN
        rw [List.length_map, if_pos (by omega), if_pos (by omega)]
        rfl
      refine ⟨_, rfl, _, rfl, pr, _, _, k0, rfl, rfl, er6, hix, ?_⟩
      have npa : pr ≠ a := pra
      have prp : pr ≠ p := fun z => by
        rw [z] at npr
        rw [npr] at e1
        cases e1
      have nprH : H pr = none := kp_none k1 pra npr
      have prl : pr ≠ l := fun z => by
        have := W1.dr
        rw [← z, npr] at this
        cases this
      have k7 : Kp a H (upd H6 pr (.lst (((spS y).map V.str).set k0 (.str u)))) := fun b o nb hb => by
        rw [upd_ne (ne_of_none hb nprH)]
        exact ((k04.trans k5).trans k6) b o nb hb
      have W7 := W6.put (o := .lst (((spS y).map V.str).set k0 (.str u))) pra prl
      have e7 : (upd H6 pr (.lst (((spS y).map V.str).set k0 (.str u)))) p = some (.lst (xs.map V.str)) := by
        rw [upd_ne prp.symm]
        exact e6
      have er7 : (upd H6 pr (.lst (((spS y).map V.str).set k0 (.str u)))) pr = some (.lst (((spS y).set k0 u).map V.str)) := by
        rw [upd_same, List.map_set]
      generalize upd H6 pr (.lst (((spS y).map V.str).set k0 (.str u))) = H7 at k7 W7 e7 er7
      have hnew := wl_set (k := k0) hyb hu
      refine mid_te2 (Py := fun ys => ys = [Txt.join spB ((spS y).set k0 u)]) (i := at0) (j := at0 + 1) rfl e7 W7 pa (fun H1 R h => ⟨_, rfl, h⟩) (fun H1 R h => ⟨_, rfl, _, _, rfl, rfl, h⟩) (by omega) (fun H8 R k8 W8 c => ?_) fun H' p' ys hy k' W' e' a' => ?_
      · refine ⟨⟨_, rfl⟩, _, rfl, Str.ofString " ", pr, (spS y).set k0 u, rfl, rfl, .inl (SqL.of (k8 _ _ pra er7)), ?_, line200 (show 1 ≤ 1000 by decide), fun mp nmp => ?_⟩
        · obtain ⟨lsp, psp⟩ := hyb.ln.parts2 (by decide)
          have h1 := len_sum (xs := (spS y).set k0 u) (b := 206) fun v hv => by
            rcases List.mem_or_eq_of_mem_set hv with h | h
            · exact Nat.le_trans (psp v h).sz (by omega)
            · rw [h]
              exact Nat.le_trans (wordsB_ln u hu).1 (by decide)
          have h0 : (Str.ofString " ").length = 1 := by decide +kernel
          rw [List.length_set] at h1 ⊢
          rw [h0]
          omega
        · exact c mp _ _ (Kp.new nmp) (W8.new nmp) upd_same (W8.fresh nmp) rfl (by show 1 ≤ 200; decide)
      · subst hy
        refine ⟨p', pr, _, rfl, k7.trans k', W', e', a', by rw [List.length_append, List.length_append, List.length_take, List.length_drop]; show _ + 1 + _ ≤ 8; omega, fun z hz => ?_⟩
        rcases List.mem_append.mp hz with h | h
        · rcases List.mem_append.mp h with h | h
          · exact hx2 z (List.mem_of_mem_take h)
          · rw [List.mem_singleton.mp h]
            exact hnew.up (by decide)
        · exact hx2 z (List.mem_of_mem_drop h)
    rintro σ H5 ⟨q', pp, ys, rfl, k5, W5, e5, a5, lys, hys⟩
    have hl10 : ∀ y ∈ ys, y.length ≤ 10000 := fun y hy => Nat.le_trans (hys y hy).ln.sz (by decide)
    refine ⟨⟨_, rfl⟩, _, rfl, q', rfl, ⟨_, SqL.of e5⟩, fun D nD => text_lc e5 (by omega) hl10 nD (fun v => ⟨rfl, rfl⟩) fun H6 s6 e6 => ?_⟩
    refine ⟨Str.ofString "", D, _, rfl, rfl, .inl (SqL.of e6), text_bound (by omega) hl10, ?_⟩
    exact q H6 _ (k5.trans (Same.kp s6)) (W5.same s6) (txl_text (fun y hy => (hys y hy).ln) (by omega)) (text_wl hys)
end
end C1

/-! Waves' texts, read back; data that can be compared. -/
namespace C1
open PySem PySem.Spec PyProof.Rows L2 SX
open K0 (Cs digs isNum)
theorem num_back {n : Nat} : numB (pS (iD n)) = true ∧ numV (pS (iD n)) = n := by
  have e : cs (pS (iD n)) = TL.numL n := TL.tl_num n
  unfold numB numV
  rw [e]
  refine ⟨?_, TL.numL_val n⟩
  rw [K0.num_isNum]
theorem dot_no : numB (Str.ofString ".") = false := by decide +kernel
theorem wv_back (ws : List Nat) : ∀ d i, i + d = ws.length → wvN (ws.take i) ((List.range' i d).map (wvPart ws)) = some ws
  | 0, i, h => by
    rw [List.take_of_length_le (by omega)]
    rfl
  | d + 1, i, h => by
    have hi : i < ws.length := by omega
    have ih := wv_back ws d (i + 1) (by omega)
    have et : ws.take (i + 1) = ws.take i ++ [ws.getD i 0] := by
      rw [List.take_succ, List.getD_eq_getElem?_getD, List.getElem?_eq_getElem hi]
      rfl
    rw [List.range'_succ, List.map_cons]
    show (if wvPart ws i = "." ∧ ws.take i ≠ [] then wvN (ws.take i ++ [(ws.take i).getLastD 0]) ((List.range' (i + 1) d).map (wvPart ws)) else if numB (wvPart ws i) = true then wvN (ws.take i ++ [numV (wvPart ws i)]) ((List.range' (i + 1) d).map (wvPart ws)) else none) = some ws
    by_cases hc : 0 < i ∧ ws.getD i 0 = ws.getD (i - 1) 0
    · have ep : wvPart ws i = Str.ofString "." := if_pos hc
      have hne : ws.take i ≠ [] := fun z => by
        have := congrArg List.length z
        rw [List.length_take] at this
        have h0 : ([] : List Nat).length = 0 := rfl
        omega
      rw [if_pos ⟨ep, hne⟩]
      have el : (ws.take i).getLastD 0 = ws.getD i 0 := by
        rw [hc.2]
        have e2 : ws.take i = ws.take (i - 1) ++ [ws.getD (i - 1) 0] := by
          have := List.take_succ (l := ws) (i := i - 1)
          rw [show i - 1 + 1 = i by omega] at this
          rw [this, List.getD_eq_getElem?_getD, List.getElem?_eq_getElem (show i - 1 < ws.length by omega)]
          rfl
        rw [e2]
        simp
      rw [el, ← et]
      exact ih
    · have ep : wvPart ws i = pS (iD (ws.getD i 0)) := if_neg hc
      obtain ⟨b1, b2⟩ := num_back (n := ws.getD i 0)
      rw [ep, if_neg (fun z => by rw [z.1, dot_no] at b1; cases b1), if_pos b1, b2, ← et]
      exact ih
theorem wvs_back (ws : List Nat) : wvN [] (wvParts ws) = some ws := by
  have := wv_back ws ws.length 0 (by omega)
  rw [← List.range_eq_range'] at this
  exact this
/-- names as the law gives them -/
def NmOk (x : Str) : Prop := x ≠ "" ∧ LnB 10 x ∧ 32 ∉ x.cps.toList ∧ numB x = false ∧ PyData.canLay0 (.str x) = true
theorem part_lw {ws : List Nat} (h : ∀ v ∈ ws, v < 1000) : ∀ p ∈ wvParts ws, LnB 10 p ∧ 32 ∉ p.cps.toList ∧ (numB p = true → numV p ≤ 1000) := fun p hp => by
  obtain ⟨i, hi, rfl⟩ := List.mem_map.mp hp
  have hi2 := List.mem_range.mp hi
  unfold wvPart
  split
  · exact ⟨⟨by decide +kernel, by decide +kernel, by decide +kernel⟩, by decide +kernel, fun z => by rw [dot_no] at z; cases z⟩
  · have hv : ws.getD i 0 < 1000 := by
      rw [List.getD_eq_getElem?_getD, List.getElem?_eq_getElem hi2]
      exact h _ (List.getElem_mem hi2)
    obtain ⟨a, b⟩ := part_ln (nat_part (n := ws.getD i 0) (by omega))
    exact ⟨a.up (by decide), b, fun _ => by rw [num_back.2]; omega⟩
theorem line_spl {ns : List Str} {ts : List (List Nat)} (ok : WvOk ns ts) (hn : ∀ x ∈ ns, NmOk x) {j : Nat} (hj : j < ns.length) :
    spS (lineW ns ts j) = ns.getD j (Str.ofString "") :: wvParts (colT ts j) ∧ WLine 200 (lineW ns ts j) := by
  have cb := col_bd ok hj
  have hp := part_lw cb
  obtain ⟨l1, _⟩ := wvParts_len cb
  have hnm : NmOk (ns.getD j (Str.ofString "")) := by
    rw [List.getD_eq_getElem?_getD, List.getElem?_eq_getElem hj]
    exact hn _ (List.getElem_mem hj)
  have hall : ∀ p ∈ ns.getD j (Str.ofString "") :: wvParts (colT ts j), LnB 10 p ∧ 32 ∉ p.cps.toList := fun p h => by
    rcases List.mem_cons.mp h with rfl | h
    · exact ⟨hnm.2.1, hnm.2.2.1⟩
    · exact ⟨(hp p h).1, (hp p h).2.1⟩
  have es : spS (lineW ns ts j) = ns.getD j (Str.ofString "") :: wvParts (colT ts j) := split_sp (by simp) fun p h => (hall p h).2
  refine ⟨es, ?_, fun z hz hb => ?_⟩
  · have := ln_join (b := 10) (ps := ns.getD j (Str.ofString "") :: wvParts (colT ts j)) fun p h => (hall p h).1
    refine this.up ?_
    rw [List.length_cons, l1]
    have hc : (colT ts j).length = ts.length := List.length_map _
    have := ok.tl
    rw [hc]
    have : (ts.length + 1) * (10 + 1) ≤ 13 * 11 := Nat.mul_le_mul (by omega) (Nat.le_refl _)
    omega
  · rw [es] at hz
    rcases List.mem_cons.mp hz with rfl | h
    · rw [hnm.2.2.2.1] at hb
      cases hb
    · exact (hp z h).2.2 hb
theorem head_join (n : Nat) : headW n = Txt.join spB [Str.ofString "cycles", pS (iD n)] := by
  apply TL.ext_tl
  show (headW n).cps.toList = (Txt.join spB [Str.ofString "cycles", pS (iD n)]).cps.toList
  unfold headW
  rw [cs_join, app_cs, app_cs]
  have e1 : Str.empty.cps.toList = [] := by decide +kernel
  have e2 : (Str.ofString "cycles ").cps.toList = [99, 121, 99, 108, 101, 115, 32] := by decide +kernel
  have e3 : (Str.ofString "cycles").cps.toList = [99, 121, 99, 108, 101, 115] := by decide +kernel
  have e4 : spB.cps.toList = [32] := by decide +kernel
  rw [e1, e2]
  show _ = (Str.ofString "cycles").cps.toList ++ (spB.cps.toList ++ (pS (iD n)).cps.toList)
  rw [e3, e4]
  rfl
theorem head_spl {n : Nat} (h : n ≤ 12) : spS (headW n) = [Str.ofString "cycles", pS (iD n)] ∧ WLine 200 (headW n) ∧ cycN (headW n) = some n := by
  obtain ⟨a, b⟩ := part_ln (nat_part (n := n) (by omega))
  have hall : ∀ p ∈ [Str.ofString "cycles", pS (iD n)], LnB 9 p ∧ 32 ∉ p.cps.toList := fun p hp => by
    rcases List.mem_cons.mp hp with rfl | hp
    · exact ⟨⟨by decide +kernel, by decide +kernel, by decide +kernel⟩, by decide +kernel⟩
    · rw [List.mem_singleton.mp hp]
      exact ⟨a, b⟩
  have es : spS (headW n) = [Str.ofString "cycles", pS (iD n)] := by
    rw [head_join]
    exact split_sp (by simp) fun p hp => (hall p hp).2
  refine ⟨es, ⟨?_, fun z hz hb => ?_⟩, ?_⟩
  · have := ln_join (b := 9) (ps := [Str.ofString "cycles", pS (iD n)]) fun p hp => (hall p hp).1
    rw [head_join]
    exact this.up (by show 2 * (9 + 1) ≤ 200; decide)
  · rw [es] at hz
    rcases List.mem_cons.mp hz with rfl | hz
    · have : numB (Str.ofString "cycles") = false := by decide +kernel
      rw [this] at hb
      cases hb
    · rw [List.mem_singleton.mp hz, num_back.2]
      omega
  · unfold cycN
    rw [es]
    show (if _ then _ else _) = _
    rw [if_pos ⟨rfl, num_back.1⟩, num_back.2]
theorem linesW_wl {ns : List Str} {ts : List (List Nat)} (ok : WvOk ns ts) (hn : ∀ x ∈ ns, NmOk x) : ∀ y ∈ linesW ns ts, WLine 200 y := fun y hy => by
  rcases List.mem_cons.mp hy with rfl | hy
  · exact (head_spl ok.tl).2.1
  · obtain ⟨j, hj, rfl⟩ := List.mem_map.mp hy
    exact (line_spl ok hn (List.mem_range.mp hj)).2
def rowsW (ns : List Str) (ts : List (List Nat)) (m : Nat) : List WRow := (List.range m).map fun j => (ns.getD j (Str.ofString ""), colT ts j)
theorem readW_back {ns : List Str} {ts : List (List Nat)} (ok : WvOk ns ts) (hn : ∀ x ∈ ns, NmOk x) : ∀ d i k, i + d = ns.length → readW ts.length k (rowsW ns ts i) ((List.range' i d).map (lineW ns ts)) = .inr (rowsW ns ts ns.length)
  | 0, i, k, h => by
    rw [show i = ns.length by omega]
    rfl
  | d + 1, i, k, h => by
    have hi : i < ns.length := by omega
    have ih := readW_back ok hn d (i + 1) (k + 1) (by omega)
    obtain ⟨es, _⟩ := line_spl ok hn hi
    have hnm : NmOk (ns.getD i (Str.ofString "")) := by
      rw [List.getD_eq_getElem?_getD, List.getElem?_eq_getElem hi]
      exact hn _ (List.getElem_mem hi)
    obtain ⟨l1, _⟩ := wvParts_len (col_bd ok hi)
    have hc : (colT ts i).length = ts.length := List.length_map _
    have er : rowN ts.length (lineW ns ts i) = some (ns.getD i (Str.ofString ""), colT ts i) := by
      unfold rowN
      rw [es]
      show (if ns.getD i (Str.ofString "") = "" ∨ (wvParts (colT ts i)).length ≠ ts.length then none else match wvN [] (wvParts (colT ts i)) with
        | none => none
        | some ws => some (ns.getD i (Str.ofString ""), ws)) = _
      rw [if_neg (fun z => z.elim hnm.1 (fun k => k (l1.trans hc))), wvs_back]
    rw [List.range'_succ, List.map_cons]
    unfold readW
    rw [er]
    have e2 : rowsW ns ts (i + 1) = rowsW ns ts i ++ [(ns.getD i (Str.ofString ""), colT ts i)] := range_snoc _ i
    rw [e2] at ih
    exact ih
theorem waves_back {ns : List Str} {ts : List (List Nat)} (ok : WvOk ns ts) (hn : ∀ x ∈ ns, NmOk x) : wavesN (textL (linesW ns ts)) = .inr (ts.length, rowsW ns ts ns.length) ∧ pairD ts.length (rowsW ns ts ns.length) = .tuple [namesD ns, toldD ts] := by
  have hw := linesW_wl ok hn
  have es := split_text (xs := linesW ns ts) fun x hx => (hw x hx).ln.nl
  have hlen : (linesW ns ts).length = ns.length + 1 := by
    unfold linesW
    rw [List.length_cons, List.length_map, List.length_range]
  have hwB : wholeB (textL (linesW ns ts)) = true := by
    unfold wholeB
    rw [es, List.getLast?_concat, decide_eq_true rfl, List.length_append, hlen, decide_eq_false (by show ¬ ns.length + 1 + 1 = 1; omega)]
    rfl
  have el : linesOf (textL (linesW ns ts)) = headW ts.length :: (List.range ns.length).map (lineW ns ts) := by
    unfold linesOf
    rw [es, List.dropLast_concat]
    rfl
  refine ⟨?_, ?_⟩
  · rw [waves_some hwB el (head_spl ok.tl).2.2]
    have := readW_back ok hn ns.length 0 0 (by omega)
    rw [← List.range_eq_range'] at this
    have e0 : rowsW ns ts 0 = [] := rfl
    rw [e0] at this
    rw [this]
    rfl
  · have e1 : (rowsW ns ts ns.length).map (·.1) = ns := by
      unfold rowsW
      rw [List.map_map]
      refine List.ext_getElem? fun j => ?_
      by_cases hj : j < ns.length
      · rw [List.getElem?_map, List.getElem?_range hj, List.getElem?_eq_getElem hj]
        show some (ns.getD j (Str.ofString "")) = _
        rw [List.getD_eq_getElem?_getD, List.getElem?_eq_getElem hj]
        rfl
      · rw [List.getElem?_eq_none (by rw [List.length_map, List.length_range]; omega), List.getElem?_eq_none (by omega)]
    have e2 : colsN ts.length (rowsW ns ts ns.length) = ts := by
      unfold colsN rowsW
      refine List.ext_getElem? fun k => ?_
      by_cases hk : k < ts.length
      · rw [List.getElem?_map, List.getElem?_range hk, List.getElem?_eq_getElem hk]
        show some (((List.range ns.length).map fun j => ((ns.getD j (Str.ofString ""), colT ts j) : WRow)).map fun r => r.2.getD k 0) = some ts[k]
        congr 1
        have hl := ok.rl _ (List.getElem_mem hk)
        rw [List.map_map]
        refine List.ext_getElem? fun j => ?_
        by_cases hj : j < ns.length
        · rw [List.getElem?_map, List.getElem?_range hj, List.getElem?_eq_getElem (by omega)]
          show some ((colT ts j).getD k 0) = _
          rw [col_get hk]
          unfold atT
          rw [List.getD_eq_getElem?_getD (l := ts), List.getElem?_eq_getElem hk]
          show some (ts[k].getD j 0) = _
          rw [List.getD_eq_getElem?_getD, List.getElem?_eq_getElem (by omega)]
          rfl
        · rw [List.getElem?_eq_none (by rw [List.length_map, List.length_range]; omega), List.getElem?_eq_none (by omega)]
      · rw [List.getElem?_eq_none (by rw [List.length_map, List.length_range]; omega), List.getElem?_eq_none (by omega)]
    unfold pairD
    rw [e1, e2]
/-! ### data that can be compared -/
def Fine (n : Nat) (d : PyData) : Prop := noL d = true ∧ PyData.canLay0 d = true ∧ PyData.depth d ≤ n
theorem fine_tup {n : Nat} : ∀ {ds : List PyData}, (∀ d ∈ ds, Fine n d) → Fine (n + 1) (.tuple ds) := fun {ds} h => by
  have key : ∀ ds : List PyData, (∀ d ∈ ds, Fine n d) → noLs ds = true ∧ PyData.canLayAll0 ds = true ∧ PyData.depthAll ds ≤ n := fun ds => by
    induction ds with
    | nil => exact fun _ => ⟨rfl, rfl, Nat.zero_le _⟩
    | cons d r ih =>
      intro h
      obtain ⟨x1, x2, x3⟩ := h d (List.mem_cons_self ..)
      obtain ⟨y1, y2, y3⟩ := ih fun z hz => h z (List.mem_cons_of_mem _ hz)
      refine ⟨?_, ?_, ?_⟩
      · show (noL d && noLs r) = true
        rw [x1, y1]
        decide
      · show (d.canLay0 && PyData.canLayAll0 r) = true
        rw [x2, y2]
        decide
      · show max d.depth (PyData.depthAll r) ≤ n
        omega
  obtain ⟨a, b, c⟩ := key ds h
  exact ⟨a, b, Nat.succ_le_succ c⟩
theorem fine_int (n : Nat) (k : Int) : Fine n (.int k) := ⟨rfl, rfl, Nat.zero_le _⟩
theorem fine_str {n : Nat} {x : Str} (h : PyData.canLay0 (.str x) = true) : Fine n (.str x) := ⟨rfl, h, Nat.zero_le _⟩
theorem Fine.sh {n : Nat} {d : PyData} (h : Fine n d) (hn : n ≤ 60) : SeqAt.shaped d = true := by
  unfold SeqAt.shaped
  rw [Bool.and_eq_true]
  exact ⟨h.2.1, decide_eq_true (Nat.le_trans h.2.2 (by omega))⟩
theorem fine_row (r : List Nat) : Fine 1 (rowD r) := fine_tup fun d hd => by
  obtain ⟨k, _, rfl⟩ := List.mem_map.mp hd
  exact fine_int 0 _
theorem fine_told (ts : List (List Nat)) : Fine 2 (toldD ts) := fine_tup fun d hd => by
  obtain ⟨r, _, rfl⟩ := List.mem_map.mp hd
  exact fine_row r
theorem fine_names {ns : List Str} (h : ∀ x ∈ ns, PyData.canLay0 (.str x) = true) : Fine 1 (namesD ns) := fine_tup fun d hd => by
  obtain ⟨x, hx, rfl⟩ := List.mem_map.mp hd
  exact fine_str (h x hx)
theorem Fine.up {n m : Nat} {d : PyData} (h : Fine n d) (l : n ≤ m) : Fine m d := ⟨h.1, h.2.1, Nat.le_trans h.2.2 l⟩
theorem fine_pair {m : Nat} {rows : List WRow} (h : ∀ r ∈ rows, PyData.canLay0 (.str r.1) = true) : Fine 3 (pairD m rows) := fine_tup fun d hd => by
  rcases List.mem_cons.mp hd with rfl | hd
  · exact (fine_names fun x hx => by obtain ⟨r, hr, rfl⟩ := List.mem_map.mp hx; exact h r hr).up (by decide)
  · rw [List.mem_singleton.mp hd]
    exact fine_told _
theorem fine_trip (c : Trip) : Fine 1 (tripD c) := fine_tup fun d hd => by
  simp only [List.mem_cons, List.mem_nil_iff, or_false] at hd
  rcases hd with rfl | rfl | rfl <;> exact fine_int 0 _
theorem fine_chg (cs : List Trip) : Fine 2 (.tuple (cs.map tripD)) := fine_tup fun d hd => by
  obtain ⟨c, _, rfl⟩ := List.mem_map.mp hd
  exact fine_trip c
theorem lay_ln {b : Nat} {x : Str} (h : LnB b x) : PyData.canLay0 (.str x) = true := by
  show (Array.all x.cps fun c => decide (c < 0x110000)) = true
  rw [← Array.all_toList]
  exact List.all_eq_true.mpr fun c hc => decide_eq_true (by have := h.as c hc; omega)
theorem readW_lay (m : Nat) : ∀ (k : Nat) (acc : List WRow) (ys : List Str) (rows : List WRow), readW m k acc ys = .inr rows → (∀ y ∈ ys, LnB 600 y) → (∀ r ∈ acc, PyData.canLay0 (.str r.1) = true) → ∀ r ∈ rows, PyData.canLay0 (.str r.1) = true
  | k, acc, [], rows, h, _, ha => by
    cases h
    exact ha
  | k, acc, y :: ys, rows, h, hy, ha => by
    unfold readW at h
    cases e : rowN m y with
    | none => rw [e] at h; cases h
    | some r =>
      rw [e] at h
      refine readW_lay m (k + 1) (acc ++ [r]) ys rows h (fun z hz => hy z (List.mem_cons_of_mem _ hz)) fun q hq => ?_
      rcases List.mem_append.mp hq with hq | hq
      · exact ha q hq
      · rw [List.mem_singleton.mp hq]
        have hyl := hy y (List.mem_cons_self ..)
        obtain ⟨_, hp⟩ := hyl.parts2 (Nat.le_refl _)
        unfold rowN at e
        split at e
        · cases e
        · rename_i w rest es
          split at e
          · cases e
          · split at e
            · cases e
            · cases e
              exact lay_ln (hp w (by rw [es]; exact List.mem_cons_self ..))
theorem waves_fine {x : Str} (h : TxL 250 140 x) : Fine 3 (wavesRD x) ∧ Fine 4 (toldR x) := by
  obtain ⟨_, hls⟩ := h.lines
  have hls2 : ∀ y ∈ linesOf x, LnB 600 y := fun y hy => (hls y (List.dropLast_subset _ hy)).up (by decide)
  have lw : PyData.canLay0 (.str "waves") = true ∧ PyData.canLay0 (.str "line") = true := by decide +kernel
  unfold wavesRD toldR
  cases e : wavesN x with
  | inl n =>
    refine ⟨fine_int _ _, fine_tup fun d hd => ?_⟩
    rcases List.mem_cons.mp hd with rfl | hd
    · exact fine_str lw.2
    · rw [List.mem_singleton.mp hd]
      exact fine_int _ _
  | inr r =>
    have hr : ∀ q ∈ r.2, PyData.canLay0 (.str q.1) = true := by
      unfold wavesN at e
      split at e
      · split at e
        · cases e
        · rename_i hd rest el
          split at e
          · cases e
          · rename_i m en
            unfold endW at e
            split at e
            · cases e
            · rename_i rows er
              cases e
              rw [el] at hls2
              exact readW_lay m 0 [] rest rows er (fun y hy => hls2 y (List.mem_cons_of_mem _ hy)) (fun q hq => by cases hq)
      · cases e
    have hf := fine_pair (m := r.1) hr
    refine ⟨hf, fine_tup fun d hd => ?_⟩
    rcases List.mem_cons.mp hd with rfl | hd
    · exact fine_str lw.1
    · rw [List.mem_singleton.mp hd]
      exact hf
end C1

/-! The law. -/
namespace C1
open PySem PySem.Spec PyProof.Rows L2 SX
open K0 (Cs digs isNum)
open GxR (TabG Tabbed TabB GenS)
abbrev sLaw : Stmt := topS 30
theorem scLaw : FnScope ["script", "w", "names", "told", "k", "row", "due", "which", "lines", "text", "turn", "other", "found", "name", "line"] ["script"] (defScope sLaw) := ⟨rfl, rfl, rfl, by decide +kernel, rfl, by decide +kernel, by decide +kernel⟩
abbrev NLW : List Str := ["script", "w", "names", "told", "k", "row", "due", "which", "lines", "text", "turn", "other", "found", "name", "line"]
theorem sw_cell {elt : Expr} {gs : List Comprehension} {scope : Scope} {pos py : Pos} {y : Str} {l : Nat} {env : Env} (hk : env.scope.kind = .function) (hy : env.scope.names.lookup y = some .cell) : swapsWith (.ListComp elt gs scope pos) (some (.Name y py)) l env = pure false := by
  have ky : env.kindOf y = some .cell := hy
  have hb : env.blockKind = .function := by unfold Env.blockKind; rw [hk]; rfl
  unfold swapsWith
  simp only [hb, ky]
  rfl
theorem wd_merge2 (l : Addr) : mergeK [] [(Sum.inr ("draws" : Str), V.ref l), (Sum.inr ("at" : Str), V.int 0)] = wdL l 0 := by
  have h1 : ¬ (Sum.inr ("draws" : Str) : Key) = Sum.inr ("at" : Str) := by decide
  unfold mergeK wdL
  simp [putK, h1]
section
variable {K : PySem.W.Frag} {a l T : Addr} {ds : List Int} {H H' : Hp}
theorem Wd.sm (W : Wd H a l ds) (s : Same H H') : Wd H' a l ds := by
  obtain ⟨n, n0, e⟩ := W.at'
  exact ⟨⟨n, n0, s _ _ e⟩, s _ _ W.dr, W.len⟩
theorem Wd.gr (W : Wd H a l ds) (tb : TabG H T) (g : Gr T H H') : Wd H' a l ds := by
  obtain ⟨n, n0, e⟩ := W.at'
  exact ⟨⟨n, n0, g.at tb e (fun ps z => by cases z)⟩, g.at tb W.dr (fun ps z => by cases z), W.len⟩
theorem tab_kp (W : Wd H a l ds) (tb : TabG H T) (k : Kp a H H') : TabG H' T := by
  obtain ⟨n, n0, e⟩ := W.at'
  have nT : a ≠ T := tab_is tb e (fun ps z => by cases z)
  obtain ⟨ps, e2, r⟩ := tb
  exact ⟨ps, k _ _ nT.symm e2, r⟩
theorem tab_sm (tb : TabG H T) (s : Same H H') : TabG H' T := by
  obtain ⟨ps, e2, r⟩ := tb
  exact ⟨ps, s _ _ e2, r⟩
end
def namesL : List Str := ["pc", "x", "a1", "y_2", "z"]
theorem namesL_ok : ∀ x ∈ namesL, x.length ≤ 10 ∧ NmOk x := by
  have h : ∀ x ∈ namesL, (x.length ≤ 10 ∧ x ≠ "" ∧ x.cps.size ≤ 10 ∧ (∀ c ∈ x.cps.toList, c < 128 ∧ c ≠ 10) ∧ 32 ∉ x.cps.toList ∧ numB x = false ∧ PyData.canLay0 (.str x) = true) := by decide +kernel
  intro x hx
  obtain ⟨h1, h2, h3, h4, h5, h6, h7⟩ := h x hx
  exact ⟨h1, h2, ⟨h3, fun c hc => (h4 c hc).1, fun hc => (h4 10 hc).2 rfl⟩, h5, h6, h7⟩
theorem lay_rows (ts : List (List Nat)) : LayAll (ts.map rowD) := fun d hd => by
  obtain ⟨r, _, rfl⟩ := List.mem_map.mp hd
  obtain ⟨_, b, c⟩ := fine_row r
  exact ⟨b, Nat.le_trans c (by decide)⟩
theorem last_row {K : PySem.W.Frag} {H : Hp} {vs : List V} {ts : List (List Nat)} (dp : DpAll K H vs (ts.map rowD)) (h : ts ≠ []) : ∃ t r, atI vs (-1) = some (.ref t) ∧ SqT K H t (r.map iV) ∧ r ∈ ts := by
  have hl : 0 < ts.length := List.length_pos_iff.mpr h
  have lv := dps_len dp
  rw [List.length_map] at lv
  obtain ⟨t, et, st⟩ := told_at dp (k := ts.length - 1) (by omega)
  refine ⟨t, _, ?_, st, getD_mem (by omega)⟩
  obtain ⟨ini, la, ev⟩ : ∃ ini la, vs = ini ++ [la] := ⟨_, _, (List.dropLast_concat_getLast (fun z => by rw [z] at lv; simp at lv; omega)).symm⟩
  have li : ini.length = ts.length - 1 := by
    have := congrArg List.length ev
    rw [List.length_append] at this
    have h1 : [la].length = 1 := rfl
    omega
  rw [ev, ← li, List.getElem?_append_right (Nat.le_refl _), Nat.sub_self] at et
  rw [ev, atI_last]
  exact et
section
variable {P : Program} {w : World} {K : PySem.W.Frag} {mg : Str → Option Value} {base : Heap} {T : Addr}
def spLaw (K : PySem.W.Frag) (T : Addr) : Sp := fun vs H Q _ => ∃ (a : Addr) (ns : List Int), vs = [.ref a] ∧ SqL K H a (ns.map V.int) ∧ ns.length ≤ 63 ∧ TabG H T ∧ ∀ H', Q (.bl true) H'
theorem ok_law {f fD fN fC fF fL fP fT fB fR : Addr} {fd fdD fdN fdC fdF fdL fdP fdT fdB fdR : FuncData} (F : Fun K "law" "law" sLaw f fd) (B : BT mg) (BL : Bl mg) (BG : Gp mg)
    (GD : FnOk P w K mg base CX0 1 fD fdD ["script", "many"] (spDraws K)) (kD : PySem.W.keepIn K (.ref fD) = true) (bD : Binds K fdD ["script", "many"] []) (gD : mg "_law_draws" = some (.ref fD))
    (GN : FnOk P w K mg base CX0 1 fN fdN ["w", "many"] spNext) (kN : PySem.W.keepIn K (.ref fN) = true) (bN : Binds K fdN ["w", "many"] []) (gN : mg "_law_next" = some (.ref fN))
    (GC : FnOk P w K mg base CX0 1 fC fdC ["told"] (spChg K)) (kC : PySem.W.keepIn K (.ref fC) = true) (bC : Binds K fdC ["told"] []) (gC : mg "changes" = some (.ref fC))
    (GF : FnOk P w K mg base CX0 1 fF fdF ["found", "cycles"] (spFill K)) (kF : PySem.W.keepIn K (.ref fF) = true) (bF : Binds K fdF ["found", "cycles"] []) (gF : mg "filled" = some (.ref fF))
    (GL : FnOk P w K mg base CX0 1 fL fdL ["names", "told"] (spLLines K)) (kL : PySem.W.keepIn K (.ref fL) = true) (bL : Binds K fdL ["names", "told"] []) (gL : mg "_law_lines" = some (.ref fL))
    (GP : FnOk P w K mg base CX0 3 fP fdP ["names", "told"] (spPWaves K)) (kP : PySem.W.keepIn K (.ref fP) = true) (bP : Binds K fdP ["names", "told"] []) (gP : mg "print_waves" = some (.ref fP))
    (GT : FnOk P w K mg base CX0 5 fT fdT ["text"] (spTold K T)) (kT : PySem.W.keepIn K (.ref fT) = true) (bT : Binds K fdT ["text"] []) (gT : mg "_law_told" = some (.ref fT))
    (GB : FnOk P w K mg base CX0 2 fB fdB ["w", "lines"] (spBent K)) (kB : PySem.W.keepIn K (.ref fB) = true) (bB : Binds K fdB ["w", "lines"] []) (gB : mg "_law_bent" = some (.ref fB))
    (GR : FnOk P w K mg base CX0 2 fR fdR ["text"] (spLRead K)) (kR : PySem.W.keepIn K (.ref fR) = true) (bR : Binds K fdR ["text"] []) (gR : mg "_law_read" = some (.ref fR)) :
    FnOk P w K mg base CX0 6 f fd ["script"] (spLaw K T) := by
  refine F.ok scLaw (fun vs H Q E h => ?_) (fun cdv A outer s H vs Q E hr h => ?_)
  · obtain ⟨a, ns, rfl, _⟩ := h
    rfl
  · obtain ⟨a, scr, rfl, hS, hlen, tb, q⟩ := h
    have nd := scLaw.nd
    have hr5 : Room 5 _ := hr
    have hr3 : Room 3 _ := hr.mono (by decide)
    have hr2 : Room 2 _ := hr.mono (by decide)
    have hr1 : Room 1 _ := hr.mono (by decide)
    have hu := hr.units
    refine ⟨_, (pss_cons (ps_set (i := 1) nd rfl (.inr rfl) (pe_disp (pps_cons (pe_str) (pe_call GD hr1 (by rfl) gD kD bD .nil pass0 (pa_cons (pv 0) (pa_cons (pe_int) pa_nil))) (pps_cons (pe_str) (pe_int) pps_nil)) rfl rfl (by intro z; cases z) (by decide)))
      (pss_cons (ps_set (i := 2) nd rfl (.inl rfl) (pe_callTy call_tuple_of (by rfl) B.tuple (by decide +kernel) (pa_cons (pe_slice sl_list (pe_lst (pa_cons (pe_str) (pa_cons (pe_str) (pa_cons (pe_str) (pa_cons (pe_str) (pa_cons (pe_str) pa_nil)))))) po_none (po_some (pe_call GN hr1 (by rfl) gN kN bN .nil pass0 (pa_cons (pv 1) (pa_cons (pe_int) pa_nil))))) pa_nil)))
      (pss_cons (ps_set (i := 3) nd rfl (.inr rfl) (pe_lst pa_nil))
      (C8.pss_cut (ps_for PassesOwn.never rfl (pi_range1 (by rfl) BL.range (pa_cons (pe_call GN hr1 (by rfl) gN kN bN .nil pass0 (pa_cons (pv 1) (pa_cons (pe_int) pa_nil))) pa_nil)) (pg_name (i := 4) nd rfl (.inl rfl)) (pss_cons (ps_set (i := 5) nd rfl (.inr rfl) (pe_lc (own := [("name", 13)]) (g := gName 13) (tt := tYes) (te := tOp (rIxL K) (tLst (tCons (tC (.int 0)) (tCons (tC (.int 1)) (tCons (tC (.int 7)) (tCons (tCall spNext [] E0 (tCons (tVar 1) (tCons (tC (.int 997)) tNil))) tNil))))) (tCall spNext [] E0 (tCons (tVar 1) (tCons (tC (.int 4)) tNil))))  rfl nd (pi_tup (pv 2)) (blkOk_by (own := [("name", 13)]) (N := NLW) (sc := defScope sLaw) (by decide +kernel)) (fun _ _ _ _ _ => pg_name (i := 13) nd rfl (.inl rfl)) (fun _ _ _ _ _ => pts_nil) (fun _ _ _ _ _ => by exact (pe_ix ix_list (pe_lst (pa_cons (pe_int) (pa_cons (pe_int) (pa_cons (pe_int) (pa_cons (pe_call GN hr1 (by rfl) gN kN bN .nil pass0 (pa_cons (pv 1) (pa_cons (pe_int) pa_nil))) pa_nil))))) (pe_call GN hr1 (by rfl) gN kN bN .nil pass0 (pa_cons (pv 1) (pa_cons (pe_int) pa_nil))) (fun _ _ => rfl)))) (sw_cell rfl rfl))
      (C8.pss_cut (ps_if (pt_cmpR (op_neD hu) (pv 3) (pe_lst pa_nil) (nomark _)) (pss_one (ps_set (i := 5) nd rfl (.inr rfl) (pe_lc (own := [("k", 4)]) (g := gName 4) (tt := tYes) (te := tIf (tTest (tOp rEq (tCall spNext [] E0 (tCons (tVar 1) (tCons (tC (.int 2)) tNil))) (tC (.int 0)))) (tOp (rIxT K) (tOp (rIxL K) (tVar 3) (tUn (rU fun i => .int (-i)) (tC (.int 1)))) (tVar 4)) (tOp (rIxL K) (tVar 5) (tVar 4)))  rfl nd (pi_range1 (by rfl) BL.range (pa_cons (pe_callB call_len_seq (by rfl) B.len PySem.boot_len (pa_cons (pv 5) pa_nil)) pa_nil)) (blkOk_by (own := [("k", 4)]) (N := NLW) (sc := defScope sLaw) (by decide +kernel)) (fun _ _ _ _ _ => pg_name (i := 4) nd rfl (.inl rfl)) (fun _ _ _ _ _ => pts_nil) (fun _ _ _ _ _ => by exact (pe_ifExp (pt_cmpR op_eq (pe_call GN hr1 (by rfl) gN kN bN .nil pass0 (pa_cons (pv 1) (pa_cons (pe_int) pa_nil))) (pe_int) (nomark _)) (pe_ix ix_tup (pe_ix ix_list (pv 3) (pe_un un_neg pe_int) (fun _ _ => rfl)) (pv 4) (fun _ _ => rfl)) (pe_ix ix_list (pv 5) (pv 4) (fun _ _ => rfl))))) (sw_cell rfl rfl))) pss_nil)
      (pss_one (ps_expr (pe_bm PySem.F.plainAttrs_list PySem.F.slot_list_append PySem.F.type_list_append mt_append (pv 3) (pa_cons (pe_callTy call_tuple_of (by rfl) B.tuple (by decide +kernel) (pa_cons (pv 5) pa_nil)) pa_nil)))))))
      (pss_cons (ps_set (i := 3) nd rfl (.inr rfl) (pe_callTy call_tuple_of (by rfl) B.tuple (by decide +kernel) (pa_cons (pv 3) pa_nil)))
      (pss_cons (ps_set (i := 6) nd rfl (.inl rfl) (pe_lst pa_nil))
      (C8.pss_cut (ps_for PassesOwn.never rfl (pi_range1 (by rfl) BL.range (pa_cons (pe_callB call_len_seq (by rfl) B.len PySem.boot_len (pa_cons (pv 3) pa_nil)) pa_nil)) (pg_name (i := 4) nd rfl (.inl rfl)) (pss_one (ps_for PassesOwn.never rfl (pi_range1 (by rfl) BL.range (pa_cons (pe_callB call_len_seq (by rfl) B.len PySem.boot_len (pa_cons (pv 2) pa_nil)) pa_nil)) (pg_name (i := 7) nd rfl (.inl rfl)) (pss_one (ps_if (PW.pt (pw_or (pt_cmpR op_eq (pv 4) (pe_int) (nomark _)) (pw_or1 (pt_cmpR op_ne (pe_ix ix_tup (pe_ix ix_tup (pv 3) (pv 4) (fun _ _ => rfl)) (pv 7) (fun _ _ => rfl)) (pe_ix ix_tup (pe_ix ix_tup (pv 3) (pe_op op_sub (pv 4) (pe_int)) (fun _ _ => rfl)) (pv 7) (fun _ _ => rfl)) (nomark _))))) (pss_one (ps_expr (pe_bm PySem.F.plainAttrs_list PySem.F.slot_list_append PySem.F.type_list_append mt_append (pv 6) (pa_cons (pe_tup (pa_cons (pv 4) (pa_cons (pv 7) (pa_cons (pe_ix ix_tup (pe_ix ix_tup (pv 3) (pv 4) (fun _ _ => rfl)) (pv 7) (fun _ _ => rfl)) pa_nil)))) pa_nil)))) pss_nil)))))
      (C8.pss_cut (ps_if (PW.pt (pw_or (pt_cmpR (op_neD hu) (pe_call GC hr1 (by rfl) gC kC bC .nil pass0 (pa_cons (pv 3) pa_nil)) (pe_callTy call_tuple_of (by rfl) B.tuple (by decide +kernel) (pa_cons (pv 6) pa_nil)) (nomark _)) (pw_or1 (pt_cmpR (op_neD hu) (pe_call GF hr1 (by rfl) gF kF bF .nil pass0 (pa_cons (pe_callTy call_tuple_of (by rfl) B.tuple (by decide +kernel) (pa_cons (pv 6) pa_nil)) (pa_cons (pe_callB call_len_seq (by rfl) B.len PySem.boot_len (pa_cons (pv 3) pa_nil)) pa_nil))) (pv 3) (nomark _))))) (pss_one (ps_ret (pe_bl))) pss_nil)
      (pss_cons (ps_set (i := 8) nd rfl (.inl rfl) (pe_call GL hr1 (by rfl) gL kL bL .nil pass0 (pa_cons (pv 2) (pa_cons (pv 3) pa_nil))))
      (pss_cons (ps_set (i := 9) nd rfl (.inl rfl) (pe_join (pe_str) (pe_lc (own := [("line", 14)]) (g := gName 14) (tt := tYes) (te := tOp rAddStr (tVar 14) (tC (.str "\n")))  rfl nd (pi_list (pv 8)) (blkOk_by (own := [("line", 14)]) (N := NLW) (sc := defScope sLaw) (by decide +kernel)) (fun _ _ _ _ _ => pg_name (i := 14) nd rfl (.inl rfl)) (fun _ _ _ _ _ => pts_nil) (fun _ _ _ _ _ => by exact (pe_op op_add_str (pv 14) (pe_str))))))
      (C8.pss_cut (ps_if (PW.pt (pw_or (pt_cmpR op_ne (pe_call GP hr3 (by rfl) gP kP bP .nil pass0 (pa_cons (pv 2) (pa_cons (pv 3) pa_nil))) (pv 9) (nomark _)) (pw_or1 (pt_cmpR (op_neD hu) (pe_call GT hr5 (by rfl) gT kT bT .nil pass0 (pa_cons (pv 9) pa_nil)) (pe_tup (pa_cons (pe_str) (pa_cons (pe_tup (pa_cons (pv 2) (pa_cons (pv 3) pa_nil))) pa_nil))) (nomark _))))) (pss_one (ps_ret (pe_bl))) pss_nil)
      (C8.pss_cut (ps_for PassesOwn.never rfl (pi_range1 (by rfl) BL.range (pa_cons (pe_int) pa_nil)) (pg_name (i := 10) nd rfl (.inl rfl)) (pss_cons (ps_set (i := 11) nd rfl (.inl rfl) (pe_call GB hr2 (by rfl) gB kB bB .nil pass0 (pa_cons (pv 1) (pa_cons (pv 8) pa_nil))))
      (pss_cons (ps_set (i := 12) nd rfl (.inl rfl) (pe_call GR hr2 (by rfl) gR kR bR .nil pass0 (pa_cons (pv 11) pa_nil)))
      (pss_one (ps_if (pt_cmpR (op_neD hu) (pe_call GT hr5 (by rfl) gT kT bT .nil pass0 (pa_cons (pv 11) pa_nil)) (pe_ifExp (pt_val (pe_callB call_isi (by rfl) BG.isi (by decide +kernel) (pa_cons (pv 12) (pa_cons (pe_bltn (v := .ty "tuple") (by rfl) BG.tu (by decide +kernel) rfl) pa_nil)))) (pe_tup (pa_cons (pe_str) (pa_cons (pv 12) pa_nil))) (pe_tup (pa_cons (pe_str) (pa_cons (pv 12) pa_nil)))) (nomark _)) (pss_one (ps_ret (pe_bl))) pss_nil)))))
      (pss_one (ps_ret (pe_bl))))))))))))))), ?_⟩
    refine fun wa nwa => ?_
    have tb0 := tab_sm tb (Same.up nwa (o := .dK []))
    refine ⟨_, rfl, a, scr, 300, rfl, (same_new nwa).seq hS, hlen, by decide, fun H1 l ds s1 nl el lds => ?_⟩
    have hwa1 : H1 wa = some (.dK []) := s1 _ _ upd_same
    have tb1 := tab_sm tb0 s1
    refine ⟨hwa1, [(.inr ("draws" : Str), .ref l), (.inr ("at" : Str), .int 0)], rfl, (by show 2 ≤ 15; decide), ?_⟩
    rw [wd_merge2]
    have nlw : l ≠ wa := fun z => by
      rw [z, upd_same] at nl
      cases nl
    have W : Wd (upd H1 wa (.dK (wdL l 0))) wa l ds := ⟨⟨0, Int.le_refl 0, upd_same⟩, by rw [upd_ne nlw]; exact el, lds⟩
    have nwT : T ≠ wa := (tab_is tb1 hwa1 (fun ps z => by cases z)).symm
    have tb2 : TabG (upd H1 wa (.dK (wdL l 0))) T := by
      obtain ⟨ps, e, r⟩ := tb1
      exact ⟨ps, by rw [upd_ne nwT]; exact e, r⟩
    generalize upd H1 wa (.dK (wdL l 0)) = H2 at W tb2
    -- names
    refine ⟨line200 (show 5 ≤ 1000 by decide), fun l0 nl0 => ?_⟩
    have Wa := W.new nl0 (o := .lst (namesL.map V.str))
    have tba := tab_sm tb2 (Same.up nl0 (o := .lst (namesL.map V.str)))
    have el0 : (upd H2 l0 (.lst (namesL.map V.str))) l0 = some (.lst (namesL.map V.str)) := upd_same
    have l0a := W.fresh nl0
    refine ⟨_, rfl, wa, l, ds, _, rfl, by decide, Wa, fun r0 H3 hr0 k3 _ W3 => ⟨_, rfl, l0, _, rfl, SqL.of (k3 _ _ l0a el0), fun l1 nl1 => ?_⟩⟩
    have tb3 := tab_kp Wa tba k3
    obtain ⟨ns, ens⟩ : ∃ ns, namesL.take r0 = ns := ⟨_, rfl⟩
    have ecut : cutV (namesL.map V.str) none (some ((r0 : Nat) : Int)) = ns.map V.str := by rw [cut_to, ← List.map_take, ens]
    have hns5 : ns.length ≤ 5 := by
      rw [← ens, List.length_take]
      show min r0 5 ≤ 5
      omega
    have hnm : ∀ x ∈ ns, x.length ≤ 10 ∧ NmOk x := fun x hx => namesL_ok x (by rw [← ens] at hx; exact List.mem_of_mem_take hx)
    rw [ecut]
    have W4 := W3.new nl1 (o := .lst (ns.map V.str))
    have tb4 := tab_sm tb3 (Same.up nl1 (o := .lst (ns.map V.str)))
    refine ⟨l1, _, rfl, .inl ⟨SqL.of upd_same, fun nt nnt => ?_⟩⟩
    have W5 := W4.new nnt (o := .tup (ns.map V.str))
    have tb5 := tab_sm tb4 (Same.up nnt (o := .tup (ns.map V.str)))
    have ent : (upd (upd H3 l1 (.lst (ns.map V.str))) nt (.tup (ns.map V.str))) nt = some (.tup (ns.map V.str)) := upd_same
    have nta := W4.fresh nnt
    show gName 2 (.ref nt) _ (upd (upd H3 l1 (.lst (ns.map V.str))) nt (.tup (ns.map V.str))) _
    generalize upd (upd H3 l1 (.lst (ns.map V.str))) nt (.tup (ns.map V.str)) = H5 at W5 tb5 ent
    -- told
    refine ⟨Nat.zero_le _, fun tl ntl => ?_⟩
    have k6 : Kp wa H5 (upd H5 tl (.lst [])) := Kp.new ntl
    have W6 := W5.new ntl (o := .lst [])
    have tb6 := tab_sm tb5 (Same.up ntl (o := .lst []))
    have etl : (upd H5 tl (.lst [])) tl = some (.lst []) := upd_same
    obtain ⟨tla, tlL⟩ := W5.ne2 ntl
    have tlnt : tl ≠ nt := fun z => by rw [z, ent] at ntl; cases ntl
    have tlT : tl ≠ T := (tab_ne tb5 ntl)
    have ent6 := k6 _ _ nta ent
    show gName 3 (.ref tl) _ (upd H5 tl (.lst [])) _
    generalize upd H5 tl (.lst []) = H6 at W6 tb6 etl ent6
    refine ⟨fun σ H' => ∃ (y4 y5 : Option V) (vs : List V) (ts : List (List Nat)), σ = [some (.ref a), some (.ref wa), some (.ref nt), some (.ref tl), y4, y5, none, none, none, none, none, none, none, none, none] ∧ Wd H' wa l ds ∧ TabG H' T ∧ H' nt = some (.tup (ns.map V.str)) ∧ H' tl = some (.lst vs) ∧ DpAll K H' vs (ts.map rowD) ∧ ts.length ≤ 12 ∧ (∀ r ∈ ts, r.length = ns.length) ∧ ∀ r ∈ ts, ∀ v ∈ r, v < 1000, ?_, ?_⟩
    · refine ⟨_, rfl, wa, l, ds, 13, rfl, by decide, W6, fun cy H7 hcy k7 _ W7 => ?_⟩
      refine ⟨cy, rfl, by omega, by omega, for_range (n := cy) (fun i σ H' => ∃ (y4 y5 : Option V) (vs : List V) (ts : List (List Nat)), σ = [some (.ref a), some (.ref wa), some (.ref nt), some (.ref tl), y4, y5, none, none, none, none, none, none, none, none, none] ∧ Wd H' wa l ds ∧ TabG H' T ∧ H' nt = some (.tup (ns.map V.str)) ∧ H' tl = some (.lst vs) ∧ DpAll K H' vs (ts.map rowD) ∧ ts.length = i ∧ (∀ r ∈ ts, r.length = ns.length) ∧ ∀ r ∈ ts, ∀ v ∈ r, v < 1000) ⟨none, none, [], [], rfl, W7, tab_kp W6 tb6 k7, k7 _ _ nta ent6, k7 _ _ tla etl, .nil, rfl, (fun r h => by cases h), (fun r h => by cases h)⟩ (fun i σ H' hi h => ?_) (fun σ H' h => ?_)⟩
      · obtain ⟨y4, y5, vs, ts, rfl, W', tb', ent', etl', dvs, lts, hrl, hvb⟩ := h
        have lvs := dps_len dvs
        rw [List.length_map] at lvs
        -- a row of draws
        refine ⟨_, rfl, nt, rfl, ⟨_, SqT.of ent'⟩, fun D nD => ?_⟩
        obtain ⟨neD, neDl⟩ := W'.ne2 nD
        refine lc_tup (xs := ns.map V.str) (fun j H8 => Kp wa H' H8 ∧ Wd H8 wa l ds ∧ ∃ zs : List Nat, zs.length = j ∧ (∀ z ∈ zs, z < 1000) ∧ H8 D = some (.lst (zs.map iV))) ⟨Kp.new nD, W'.new nD, [], rfl, (fun z h => by cases h), upd_same⟩ (fun j H8 _ h => SqT.of (h.1 _ _ nta ent')) (fun j v H8 hv h => ?_) (fun H8 h => ?_)
        · obtain ⟨k8, W8, zs, lz, hz, e8⟩ := h
          have hj : j < ns.length := by have := (List.getElem?_eq_some_iff.mp hv).1; rw [List.length_map] at this; exact this
          refine ⟨rfl, _, rfl, wa, l, ds, 997, rfl, by decide, W8, fun x9 H9 hx9 k9 _ W9 => ⟨line200 (show 4 ≤ 1000 by decide), fun qd nqd => ?_⟩⟩
          have W10 := W9.new nqd (o := .lst [.int 0, .int 1, .int 7, iV x9])
          have eq : (upd H9 qd (.lst [.int 0, .int 1, .int 7, iV x9])) qd = some (.lst [.int 0, .int 1, .int 7, iV x9]) := upd_same
          have qda := W9.fresh nqd
          have k10 := k9.trans (Kp.new nqd (o := .lst [.int 0, .int 1, .int 7, iV x9]))
          have e10 := k10 _ _ neD e8
          refine ⟨_, rfl, wa, l, ds, 4, rfl, by decide, W10, fun r H11 hr11 k11 _ W11 => ?_⟩
          obtain ⟨u, eu, hu2⟩ : ∃ u, ([.int 0, .int 1, .int 7, iV x9] : List V)[r]? = some (iV u) ∧ u < 1000 := by
            have : r = 0 ∨ r = 1 ∨ r = 2 ∨ r = 3 := by omega
            rcases this with rfl | rfl | rfl | rfl
            · exact ⟨0, rfl, by decide⟩
            · exact ⟨1, rfl, by decide⟩
            · exact ⟨7, rfl, by decide⟩
            · exact ⟨x9, rfl, by omega⟩
          have e11 := k11 _ _ neD e10
          refine ⟨qd, _, _, _, rfl, rfl, SqL.of (k11 _ _ qda eq), atI_nat eu, _, e11, by rw [List.length_map]; exact lineS200 (by omega), (k8.trans (k10.trans k11)).put nD, W11.put neD neDl, zs ++ [u], by rw [List.length_append, lz]; rfl, fun z h => ?_, ?_⟩
          · rcases List.mem_append.mp h with h | h
            · exact hz z h
            · rw [List.mem_singleton.mp h]
              exact hu2
          · rw [upd_same, List.map_append]
            rfl
        obtain ⟨k8, W8, zs, lz, hz, e8⟩ := h
        rw [List.length_map] at lz
        have tb8 := tab_kp W' tb' k8
        have ent8 := k8 _ _ nta ent'
        have etl8 := k8 _ _ tla etl'
        have dvs8 := stay_dps W' k8 (noLs_row ts) dvs
        have Dtl : D ≠ tl := fun z => by rw [z, etl'] at nD; cases nD
        refine ⟨fun σ G => ∃ (D2 : Addr) (zs2 : List Nat), σ = [some (.ref a), some (.ref wa), some (.ref nt), some (.ref tl), some (.int (0 + ((i : Nat) : Int))), some (.ref D2), none, none, none, none, none, none, none, none, none] ∧ Wd G wa l ds ∧ TabG G T ∧ G nt = some (.tup (ns.map V.str)) ∧ G tl = some (.lst vs) ∧ DpAll K G vs (ts.map rowD) ∧ G D2 = some (.lst (zs2.map iV)) ∧ zs2.length = ns.length ∧ ∀ z ∈ zs2, z < 1000, ?_, ?_⟩
        · refine ⟨_, rfl, Nat.zero_le _, fun ze nze => ?_⟩
          have sz : Same H8 (upd H8 ze (.lst [])) := Same.up nze
          refine ⟨.list (ts.map rowD), .list [], .lst (SqL.of (sz _ _ etl8)) (dps_stay (same_tup sz) _ _ dvs8 (noLs_row ts)), .lst (SqL.of upd_same) .nil, shaped_list _ (lay_rows ts), shaped_list [] (fun d hd => by cases hd), _, rfl, ?_⟩
          rw [eqv_nil]
          have W9 := W8.sm sz
          have tb9 := tab_sm tb8 sz
          have ent9 := sz _ _ ent8
          have etl9 := sz _ _ etl8
          have dvs9 := dps_stay (same_tup sz) _ _ dvs8 (noLs_row ts)
          have e9 := sz _ _ e8
          generalize upd H8 ze (.lst []) = H9 at W9 tb9 ent9 etl9 dvs9 e9
          have hie : (ts.map rowD).isEmpty = ts.isEmpty := by cases ts <;> rfl
          rw [hie]
          cases hte : ts.isEmpty with
          | true => exact iteF ⟨D, zs, rfl, W9, tb9, ent9, etl9, dvs9, e9, lz, hz⟩
          | false =>
            have hts : ts ≠ [] := fun z => by rw [z] at hte; cases hte
            obtain ⟨t, rw0, hlast, st, hmem⟩ := last_row dvs9 hts
            have lrw := hrl _ hmem
            refine iteT ⟨_, rfl, D, _, rfl, .inl (SqL.of e9), ns.length, by rw [List.length_map, lz], by omega, by omega, fun D3 nD3 => ?_⟩
            obtain ⟨neD3, neD3l⟩ := W9.ne2 nD3
            refine lc_range (n := ns.length) (fun j G => Kp wa H9 G ∧ Wd G wa l ds ∧ ∃ us : List Nat, us.length = j ∧ (∀ z ∈ us, z < 1000) ∧ G D3 = some (.lst (us.map iV))) ⟨Kp.new nD3, W9.new nD3, [], rfl, (fun z h => by cases h), upd_same⟩ (fun j G hj h => ?_) (fun G h => ?_)
            · obtain ⟨kG, WG, us, lu, hu3, eG⟩ := h
              refine ⟨rfl, _, rfl, wa, l, ds, 2, rfl, by decide, WG, fun r G2 hr2' kG2 _ WG2 => ⟨rfl, _, rfl, ?_⟩⟩
              have kk := kG.trans kG2
              have eG2 := kG2 _ _ neD3 eG
              have pay : ∀ u, u < 1000 → ∃ acc, G2 D3 = some (.lst acc) ∧ acc.length < sizeLine ∧ Kp wa H9 (upd G2 D3 (.lst (acc ++ [iV u]))) ∧ Wd (upd G2 D3 (.lst (acc ++ [iV u]))) wa l ds ∧ ∃ us : List Nat, us.length = j + 1 ∧ (∀ z ∈ us, z < 1000) ∧ (upd G2 D3 (.lst (acc ++ [iV u]))) D3 = some (.lst (us.map iV)) := fun u hu4 => by
                refine ⟨_, eG2, by rw [List.length_map]; exact lineS200 (by omega), kk.put nD3, WG2.put neD3 neD3l, us ++ [u], by rw [List.length_append, lu]; rfl, fun z h => ?_, by rw [upd_same, List.map_append]; rfl⟩
                rcases List.mem_append.mp h with h | h
                · exact hu3 z h
                · rw [List.mem_singleton.mp h]
                  exact hu4
              have tlD3 : tl ≠ wa := tla
              have etlG := kk _ _ tla etl9
              have stG := WG2
              have dG := stay_dps W9 kk (noLs_row ts) dvs9
              obtain ⟨t2, rw2, hlast2, st2, hmem2⟩ := last_row dG hts
              have lrw2 := hrl _ hmem2
              have Dwa : D ≠ wa := neD
              have eDG := kk _ _ Dwa e9
              have hatj : ∀ r : List Nat, j < r.length → atI (r.map iV) ((0 : Int) + ((j : Nat) : Int)) = some (iV (r.getD j 0)) := fun r h => by
                rw [Int.zero_add]
                exact atI_nat (row_get h)
              by_cases h0 : r = 0
              · refine iteT' (decide_eq_true (congrArg V.int (by omega))) ⟨_, rfl, _, rfl, tl, _, _, _, rfl, rfl, SqL.of etlG, hlast2, _, rfl, t2, _, _, _, rfl, rfl, st2, hatj _ (by omega), ?_⟩
                refine pay (rw2.getD j 0) ?_
                rw [List.getD_eq_getElem?_getD, List.getElem?_eq_getElem (show j < rw2.length by omega)]
                exact hvb _ hmem2 _ (List.getElem_mem _)
              · refine iteF' (decide_eq_false (fun z => h0 (by have := V.int.inj z; omega))) ⟨_, rfl, _, rfl, D, _, _, _, rfl, rfl, SqL.of eDG, hatj _ (by omega), ?_⟩
                refine pay (zs.getD j 0) ?_
                rw [List.getD_eq_getElem?_getD, List.getElem?_eq_getElem (show j < zs.length by omega)]
                exact hz _ (List.getElem_mem _)
            · obtain ⟨kG, WG, us, lu, hu3, eG⟩ := h
              exact ⟨D3, us, rfl, WG, tab_kp W9 tb9 kG, kG _ _ nta ent9, kG _ _ tla etl9, stay_dps W9 kG (noLs_row ts) dvs9, eG, lu, hu3⟩
        rintro σ G ⟨D2, zs2, rfl, WG, tbG, entG, etlG, dG, eD2, lz2, hz2⟩
        refine ⟨_, rfl, .inl ⟨rfl, _, SqL.of etlG⟩, _, rfl, D2, _, rfl, .inl ⟨SqL.of eD2, fun t nt2 => ?_⟩⟩
        have st : Same G (upd G t (.tup (zs2.map iV))) := Same.up nt2
        have WG2 := WG.sm st
        refine ⟨tl, _, _, rfl, rfl, st _ _ etlG, lineS200 (by omega), ?_⟩
        refine ⟨_, _, _, ts ++ [zs2], rfl, WG2.put tla tlL, ?_, ?_, upd_same, ?_, by rw [List.length_append, lts]; rfl, fun r hr => ?_, fun r hr => ?_⟩
        · obtain ⟨ps, ep, r⟩ := tab_sm tbG st
          exact ⟨ps, by rw [upd_ne tlT.symm]; exact ep, r⟩
        · rw [upd_ne tlnt.symm]
          exact st _ _ entG
        · rw [List.map_append]
          exact push_dps (st _ _ etlG) (dps_stay (same_tup st) _ _ dG (noLs_row ts)) (noLs_row ts) (.tup (SqT.of upd_same) (dps_ints zs2)) (noLs_int _)
        · rcases List.mem_append.mp hr with h | h
          · exact hrl r h
          · rw [List.mem_singleton.mp h]
            exact lz2
        · rcases List.mem_append.mp hr with h | h
          · exact hvb r h
          · rw [List.mem_singleton.mp h]
            exact hz2
      · obtain ⟨y4, y5, vs, ts, rfl, W', tb', ent', etl', dvs, lts, hrl, hvb⟩ := h
        exact ⟨y4, y5, vs, ts, rfl, W', tb', ent', etl', dvs, by omega, hrl, hvb⟩
    rintro σ H7 ⟨y4, y5, vs, ts, rfl, W7, tb7, ent7, etl7, dvs7, lts, hrl, hvb⟩
    have ok : WvOk ns ts := ⟨hns5, lts, fun x hx => (hnm x hx).1, hrl, hvb⟩
    have hnm2 : ∀ x ∈ ns, NmOk x := fun x hx => (hnm x hx).2
    refine ⟨_, rfl, tl, _, rfl, .inl ⟨SqL.of etl7, fun tt ntt => ?_⟩⟩
    have s8 : Same H7 (upd H7 tt (.tup vs)) := Same.up ntt
    have W8 := W7.sm s8
    have tb8 := tab_sm tb7 s8
    have ent8 := s8 _ _ ent7
    have ett8 : (upd H7 tt (.tup vs)) tt = some (.tup vs) := upd_same
    have dvs8 := dps_stay (same_tup s8) _ _ dvs7 (noLs_row ts)
    show gName 3 (.ref tt) _ (upd H7 tt (.tup vs)) _
    generalize upd H7 tt (.tup vs) = H8 at W8 tb8 ent8 ett8 dvs8
    have dtt8 : Dp K H8 (.ref tt) (toldD ts) := .tup (SqT.of ett8) dvs8
    have dnt8 : Dp K H8 (.ref nt) (namesD ns) := .tup (SqT.of ent8) (dps_ofs ns)
    have nlT : noL (toldD ts) = true := (fine_told ts).1
    have fnN : Fine 1 (namesD ns) := fine_names fun x hx => (hnm2 x hx).2.2.2.2
    obtain ⟨n, en⟩ : ∃ n, ns.length = n := ⟨_, rfl⟩
    have lvs := dps_len dvs8
    rw [List.length_map] at lvs
    -- due
    refine ⟨Nat.zero_le _, fun dl ndl => ?_⟩
    have s9 : Same H8 (upd H8 dl (.lst [])) := Same.up ndl
    have edl : (upd H8 dl (.lst [])) dl = some (.lst []) := upd_same
    generalize upd H8 dl (.lst []) = H9 at s9 edl
    refine ⟨fun σ H' => ∃ (y4 y7 : Option V) (us : List V), σ = [some (.ref a), some (.ref wa), some (.ref nt), some (.ref tt), y4, y5, some (.ref dl), y7, none, none, none, none, none, none, none] ∧ Same H8 H' ∧ H' dl = some (.lst us) ∧ DpAll K H' us ((chg ts n).map tripD), ?_, ?_⟩
    · refine ⟨_, rfl, tt, _, rfl, .inr (SqT.of (s9 _ _ ett8)), ts.length, by rw [lvs], by omega, by omega, for_range (n := ts.length) (fun i σ H' => ∃ (y4 y7 : Option V) (us : List V), σ = [some (.ref a), some (.ref wa), some (.ref nt), some (.ref tt), y4, y5, some (.ref dl), y7, none, none, none, none, none, none, none] ∧ Same H8 H' ∧ H' dl = some (.lst us) ∧ DpAll K H' us (((List.range i).flatMap (chgR ts n)).map tripD)) ⟨_, none, [], rfl, s9, edl, .nil⟩ (fun i σ H' hi h => ?_) (fun σ H' h => h)⟩
      obtain ⟨y4', y7, us, rfl, g, e, du⟩ := h
      rw [Int.zero_add]
      obtain ⟨t, et, st⟩ := told_at dvs8 hi
      have hrow := hrl _ (getD_mem hi)
      refine ⟨_, rfl, nt, _, rfl, .inr (SqT.of (g _ _ ent8)), n, by rw [List.length_map, en], by omega, by omega, for_range (n := n) (fun j σ H' => ∃ (y7 : Option V) (us : List V), σ = [some (.ref a), some (.ref wa), some (.ref nt), some (.ref tt), some (iV i), y5, some (.ref dl), y7, none, none, none, none, none, none, none] ∧ Same H8 H' ∧ H' dl = some (.lst us) ∧ DpAll K H' us (((List.range i).flatMap (chgR ts n) ++ (List.range j).flatMap (chg1 ts i)).map tripD)) ⟨_, us, rfl, g, e, by rw [show (List.range 0).flatMap (chg1 ts i) = [] from rfl, List.append_nil]; exact du⟩ (fun j σ H' hj h => ?_) (fun σ H' h => ?_)⟩
      · obtain ⟨y7, us3, rfl, g3, e3, du3⟩ := h
        rw [Int.zero_add]
        have lus := dps_len du3
        have hb1 := flat_len (chgR ts n) n (chgR_len ts n) i
        have hb2 := flat_len (chg1 ts i) 1 (chg1_len ts i) j
        have hb3 : i * n ≤ 12 * 5 := Nat.mul_le_mul (by omega) (by omega)
        rw [List.length_map, List.length_append] at lus
        have hat : atI ((ts.getD i []).map iV) ((j : Nat) : Int) = some (iV (atT ts i j)) := atI_nat (row_get (by omega))
        have fin0 : chg1 ts i j = [] → ∃ (y7 : Option V) (us : List V), ([some (V.ref a), some (.ref wa), some (.ref nt), some (.ref tt), some (iV i), y5, some (.ref dl), some (iV j), none, none, none, none, none, none, none] : L2.St) = [some (.ref a), some (.ref wa), some (.ref nt), some (.ref tt), some (iV i), y5, some (.ref dl), y7, none, none, none, none, none, none, none] ∧ Same H8 H' ∧ H' dl = some (.lst us) ∧ DpAll K H' us (((List.range i).flatMap (chgR ts n) ++ (List.range (j + 1)).flatMap (chg1 ts i)).map tripD) := fun ec => ⟨_, us3, rfl, g3, e3, by rw [flat_snoc, ec, List.append_nil]; exact du3⟩
        have put : chg1 ts i j = [(i, j, atT ts i j)] → ∀ p, H' p = none → ∃ (y7 : Option V) (us : List V), ([some (V.ref a), some (.ref wa), some (.ref nt), some (.ref tt), some (iV i), y5, some (.ref dl), some (iV j), none, none, none, none, none, none, none] : L2.St) = [some (.ref a), some (.ref wa), some (.ref nt), some (.ref tt), some (iV i), y5, some (.ref dl), y7, none, none, none, none, none, none, none] ∧ Same H8 (upd (upd H' p (.tup [iV i, iV j, iV (atT ts i j)])) dl (.lst (us3 ++ [.ref p]))) ∧ (upd (upd H' p (.tup [iV i, iV j, iV (atT ts i j)])) dl (.lst (us3 ++ [.ref p]))) dl = some (.lst us) ∧ DpAll K (upd (upd H' p (.tup [iV i, iV j, iV (atT ts i j)])) dl (.lst (us3 ++ [.ref p]))) us (((List.range i).flatMap (chgR ts n) ++ (List.range (j + 1)).flatMap (chg1 ts i)).map tripD) := fun ec p np => by
          have sp : Same H' (upd H' p (.tup [iV i, iV j, iV (atT ts i j)])) := Same.up np
          refine ⟨_, _, rfl, fun c o hc => ?_, upd_same, ?_⟩
          · rw [upd_ne (ne_of_none hc ndl)]
            exact sp _ _ (g3 _ _ hc)
          · rw [flat_snoc, ec, ← List.append_assoc, List.map_append]
            exact push_dps (sp _ _ e3) (dps_stay (same_tup sp) _ _ du3 (noLs_trip _)) (noLs_trip _) (.tup (SqT.of upd_same) (.cons (.int _) (.cons (.int _) (.cons (.int _) .nil)))) rfl
        have cT : (i = 0 ∨ atT ts i j ≠ atT ts (i - 1) j) → chg1 ts i j = [(i, j, atT ts i j)] := fun h => if_pos h
        have cF : ¬ (i = 0 ∨ atT ts i j ≠ atT ts (i - 1) j) → chg1 ts i j = [] := fun h => if_neg h
        have ett3 := g3 _ _ ett8
        have st3 := same_tup g3 _ _ st
        refine ⟨_, rfl, rfl, _, rfl, ?_⟩
        by_cases h0 : i = 0
        · refine iteT' (decide_eq_true (congrArg V.int (by omega))) ⟨_, rfl, .inl ⟨rfl, _, SqL.of e3⟩, _, rfl, _, rfl, _, rfl, _, rfl, tt, _, _, _, rfl, rfl, SqT.of ett3, atI_nat et, _, rfl, t, _, _, _, rfl, rfl, st3, hat, line200 (show 3 ≤ 1000 by decide), fun p np => ⟨dl, _, _, rfl, rfl, (Same.up np) _ _ e3, lineS200 (by omega), ?_⟩⟩
          exact put (cT (.inl h0)) p np
        · refine iteF' (decide_eq_false (fun z => h0 (by have := V.int.inj z; omega))) ?_
          have hi1 : i - 1 < ts.length := by omega
          obtain ⟨t1, et1, st1⟩ := told_at dvs8 hi1
          have hrow1 := hrl _ (getD_mem hi1)
          have hat1 : atI vs (((i : Nat) : Int) - 1) = some (.ref t1) := by
            rw [show ((i : Nat) : Int) - 1 = ((i - 1 : Nat) : Int) by omega]
            exact atI_nat et1
          have hat2 : atI ((ts.getD (i - 1) []).map iV) ((j : Nat) : Int) = some (iV (atT ts (i - 1) j)) := atI_nat (row_get (by omega))
          refine ⟨_, rfl, _, rfl, tt, _, _, _, rfl, rfl, SqT.of ett3, atI_nat et, _, rfl, t, _, _, _, rfl, rfl, st3, hat, _, rfl, _, rfl, _, _, rfl, rfl, tt, _, _, _, rfl, rfl, SqT.of ett3, hat1, _, rfl, t1, _, _, _, rfl, rfl, same_tup g3 _ _ st1, hat2, rfl, _, rfl, ?_⟩
          by_cases hv : atT ts i j = atT ts (i - 1) j
          · exact iteF' (by rw [decide_eq_true (by rw [hv])]; rfl) (fin0 (cF (fun z => z.elim h0 (fun k => k hv))))
          · refine iteT' (by rw [decide_eq_false (fun z => hv (by have := V.int.inj z; omega))]; rfl) ⟨_, rfl, .inl ⟨rfl, _, SqL.of e3⟩, _, rfl, _, rfl, _, rfl, _, rfl, tt, _, _, _, rfl, rfl, SqT.of ett3, atI_nat et, _, rfl, t, _, _, _, rfl, rfl, st3, hat, line200 (show 3 ≤ 1000 by decide), fun p np => ⟨dl, _, _, rfl, rfl, (Same.up np) _ _ e3, lineS200 (by omega), ?_⟩⟩
            exact put (cT (.inr hv)) p np
      · obtain ⟨y7, us3, rfl, g3, e3, du3⟩ := h
        exact ⟨_, _, us3, rfl, g3, e3, by rw [flat_snoc]; exact du3⟩
    rintro σ Ha ⟨y4', y7, us, rfl, ga, ea, dua⟩
    have fC := fine_chg (chg ts n)
    have fT := fine_told ts
    refine ⟨fun σ H' => σ = [some (.ref a), some (.ref wa), some (.ref nt), some (.ref tt), y4', y5, some (.ref dl), y7, none, none, none, none, none, none, none] ∧ Same H8 H', ?_, ?_⟩
    · refine ⟨_, rfl, tt, ns, ts, rfl, dp_stay (same_tup ga) _ _ dtt8 nlT, ok, fun Hb v sb dv => ⟨_, rfl, dl, _, rfl, .inl ⟨SqL.of (sb _ _ ea), fun t2 nt2 => ?_⟩⟩⟩
      rw [en] at dv
      have sc : Same Hb (upd Hb t2 (.tup us)) := Same.up nt2
      have gc := (ga.trans sb).trans sc
      refine ⟨_, _, dp_stay (same_tup sc) _ _ dv fC.1, .tup (SqT.of upd_same) (dps_stay (same_tup (sb.trans sc)) _ _ dua (noLs_trip _)), fC.sh (by decide), fC.sh (by decide), _, rfl, ?_⟩
      rw [SeqAt.eqv_refl _ (SeqAt.canLay_of_shaped (fC.sh (by decide)))]
      have edl3 := sc _ _ (sb _ _ ea)
      have du3 := dps_stay (same_tup (sb.trans sc)) _ _ dua (noLs_trip _)
      generalize upd Hb t2 (.tup us) = Hc at sc gc edl3 du3
      refine iteF ⟨_, rfl, dl, _, rfl, .inl ⟨SqL.of edl3, fun t3 nt3 => ?_⟩⟩
      have sd : Same Hc (upd Hc t3 (.tup us)) := Same.up nt3
      have gd' := gc.trans sd
      refine ⟨_, rfl, tt, _, rfl, .inr (SqT.of (gd' _ _ ett8)), t3, ns, ts, by rw [lvs]; rfl, by rw [en]; exact .tup (SqT.of upd_same) (dps_stay (same_tup sd) _ _ du3 (noLs_trip _)), ok, fun He v se dv => ⟨_, rfl, _, _, dv, dp_stay (same_tup (gd'.trans se)) _ _ dtt8 nlT, fT.sh (by decide), fT.sh (by decide), _, rfl, ?_⟩⟩
      rw [SeqAt.eqv_refl _ (SeqAt.canLay_of_shaped (fT.sh (by decide)))]
      exact iteF ⟨rfl, gd'.trans se⟩
    rintro σ Hb ⟨rfl, gb⟩
    -- lines and text
    refine ⟨_, rfl, _, rfl, nt, tt, ns, ts, rfl, dp_stay (same_tup gb) _ _ dnt8 fnN.1, dp_stay (same_tup gb) _ _ dtt8 nlT, ok, fun Hc lp sc nlp elp => ?_⟩
    have gc := gb.trans sc
    obtain ⟨L, eL⟩ : ∃ L, linesW ns ts = L := ⟨_, rfl⟩
    have hwl := linesW_wl ok hnm2
    have hLl : L.length ≤ 6 := by
      rw [← eL]
      unfold linesW
      rw [List.length_cons, List.length_map, List.length_range]
      omega
    have hLne : L ≠ [] := by
      rw [← eL]
      exact List.cons_ne_nil _ _
    obtain ⟨hwb, hpd⟩ := waves_back ok hnm2
    rw [eL] at elp hwl hwb
    have hl10 : ∀ y ∈ L, y.length ≤ 10000 := fun y hy => Nat.le_trans (hwl y hy).ln.sz (by decide)
    refine ⟨⟨_, rfl⟩, _, rfl, lp, rfl, ⟨_, SqL.of elp⟩, fun D nD => text_lc elp (by omega) hl10 nD (fun v => ⟨rfl, rfl⟩) fun Hd sd eD => ?_⟩
    refine ⟨Str.ofString "", D, _, rfl, rfl, .inl (SqL.of eD), text_bound (by omega) hl10, ?_⟩
    have gd' := gc.trans sd
    have elpd := sd _ _ elp
    show gName 9 (.str (textL L)) _ Hd _
    obtain ⟨tx, etx⟩ : ∃ tx, textL L = tx := ⟨_, rfl⟩
    have htx : TxL 250 140 tx := by
      rw [← etx]
      exact txl_text (fun y hy => ((hwl y hy).ln.up (by decide))) (by omega)
    have hwx : ∀ z ∈ splitL tx, WvLn z := by
      rw [← etx]
      exact text_wl hwl
    rw [etx] at hwb
    have etR : toldR tx = .tuple [.str "waves", .tuple [namesD ns, toldD ts]] := by
      unfold toldR
      rw [hwb]
      show PyData.tuple [.str "waves", pairD ts.length (rowsW ns ts ns.length)] = _
      rw [hpd]
    have fR := (waves_fine htx).2
    rw [etR] at fR
    rw [etx]
    refine ⟨fun σ H' => σ = [some (.ref a), some (.ref wa), some (.ref nt), some (.ref tt), y4', y5, some (.ref dl), y7, some (.ref lp), some (.str tx), none, none, none, none, none] ∧ Wd H' wa l ds ∧ TabG H' T ∧ H' lp = some (.lst (L.map V.str)), ?_, ?_⟩
    · refine ⟨_, rfl, _, rfl, nt, tt, ns, ts, rfl, dp_stay (same_tup gd') _ _ dnt8 fnN.1, dp_stay (same_tup gd') _ _ dtt8 nlT, ok, fun He se => ⟨_, rfl, rfl, _, rfl, ?_⟩⟩
      rw [eL, etx]
      refine iteF' (by rw [decide_eq_true rfl]; rfl) ?_
      have ge := gd'.trans se
      refine ⟨_, rfl, tx, rfl, htx, hwx, tab_sm tb8 ge, fun Hf v gf dv => ?_⟩
      rw [etR] at dv
      have tbe := tab_sm tb8 ge
      have dn := dp_stay (fun b xs h => gf.seqT tbe h) _ _ (dp_stay (same_tup ge) _ _ dnt8 fnN.1) fnN.1
      have dt := dp_stay (fun b xs h => gf.seqT tbe h) _ _ (dp_stay (same_tup ge) _ _ dtt8 nlT) nlT
      have Wf := (W8.sm ge).gr tbe gf
      have elf := gf.at tbe (se _ _ elpd) (fun ps z => by cases z)
      refine ⟨_, rfl, _, rfl, line200 (show 2 ≤ 1000 by decide), fun t1 nt1 => ⟨line200 (show 2 ≤ 1000 by decide), fun t2 nt2 => ?_⟩⟩
      have s1' := Same.up nt1 (o := .tup [.ref nt, .ref tt])
      have s2' := Same.up nt2 (o := .tup [.str "waves", .ref t1])
      have s12 := s1'.trans s2'
      refine ⟨_, _, dp_stay (same_tup s12) _ _ dv fR.1, .tup (SqT.of upd_same) (.cons (.str _) (.cons (.tup (SqT.of (s2' _ _ upd_same)) (.cons (dp_stay (same_tup s12) _ _ dn fnN.1) (.cons (dp_stay (same_tup s12) _ _ dt nlT) .nil))) .nil)), fR.sh (by decide), fR.sh (by decide), _, rfl, ?_⟩
      rw [SeqAt.eqv_refl _ (SeqAt.canLay_of_shaped (fR.sh (by decide)))]
      exact iteF ⟨rfl, Wf.sm s12, tab_sm gf.tab s12, s12 _ _ elf⟩
    rintro σ He ⟨rfl, We, tbe, ele⟩
    refine ⟨fun _ _ => True, ?_, fun σ' H' _ => q H'⟩
    refine ⟨6, rfl, by decide, by decide, for_range (n := 6) (fun i σ H' => ∃ y10 y11 y12 : Option V, σ = [some (.ref a), some (.ref wa), some (.ref nt), some (.ref tt), y4', y5, some (.ref dl), y7, some (.ref lp), some (.str tx), y10, y11, y12, none, none] ∧ Wd H' wa l ds ∧ TabG H' T ∧ H' lp = some (.lst (L.map V.str))) ⟨none, none, none, rfl, We, tbe, ele⟩ (fun i σ H' hi h => ?_) (fun _ _ _ => trivial)⟩
    obtain ⟨y10, y11, y12, rfl, W', tb', el'⟩ := h
    have lpa : lp ≠ wa := W'.at'.elim fun n h => ne_of el' h.2 (by intro z; cases z)
    refine ⟨_, rfl, _, rfl, wa, l, lp, ds, L, rfl, W', el', hLne, hLl, hwl, fun Hf z kf Wf tz hz => ?_⟩
    have tbf := tab_kp W' tb' kf
    have elf := kf _ _ lpa el'
    obtain ⟨f1, f2⟩ := waves_fine tz
    refine ⟨_, rfl, z, rfl, tz, hz, fun Hg v sg dv => ?_⟩
    have tbg := tab_sm tbf sg
    have Wg := Wf.sm sg
    have elg := sg _ _ elf
    refine ⟨_, rfl, z, rfl, tz, hz, tbg, fun Hh u gh du => ?_⟩
    have Wh := Wg.gr tbg gh
    have elh := gh.at tbg elg (fun ps z => by cases z)
    have dvh := dp_stay (fun b xs h => gh.seqT tbg h) _ _ dv f1.1
    cases ew : wavesN z with
    | inr r =>
      have e1 : wavesRD z = pairD r.1 r.2 := by
        unfold wavesRD
        rw [ew]
      have e2 : toldR z = .tuple [.str "waves", pairD r.1 r.2] := by
        unfold toldR
        rw [ew]
      rw [e1] at dvh f1
      rw [e2] at du f2
      obtain ⟨b, ys, rfl, sq, _⟩ := dp_tup dvh
      refine ⟨_, rfl, .ref b, .ty "tuple", .type "tuple", .type "tuple", true, rfl, .ty _, tyx_tup sq, kit_ty (by decide +kernel), _, rfl, iteT ?_⟩
      refine ⟨_, rfl, line200 (show 2 ≤ 1000 by decide), fun t1 nt1 => ?_⟩
      have s1' := Same.up nt1 (o := .tup [.str "waves", .ref b])
      refine ⟨_, _, dp_stay (same_tup s1') _ _ du f2.1, .tup (SqT.of upd_same) (.cons (.str _) (.cons (dp_stay (same_tup s1') _ _ dvh f1.1) .nil)), f2.sh (by decide), f2.sh (by decide), _, rfl, ?_⟩
      rw [SeqAt.eqv_refl _ (SeqAt.canLay_of_shaped (f2.sh (by decide)))]
      exact iteF ⟨_, _, _, rfl, Wh.sm s1', tab_sm gh.tab s1', s1' _ _ elh⟩
    | inl m =>
      have e1 : wavesRD z = iD m := by
        unfold wavesRD
        rw [ew]
      have e2 : toldR z = .tuple [.str "line", iD m] := by
        unfold toldR
        rw [ew]
      rw [e1] at dvh f1
      rw [e2] at du f2
      cases dvh
      refine ⟨_, rfl, .int (m : Nat), .ty "tuple", .type "int", .type "tuple", false, rfl, .ty _, .base (.int _), kit_ty (by decide +kernel), _, rfl, iteF ?_⟩
      refine ⟨_, rfl, line200 (show 2 ≤ 1000 by decide), fun t1 nt1 => ?_⟩
      have s1' := Same.up nt1 (o := .tup [.str "line", .int (m : Nat)])
      refine ⟨_, _, dp_stay (same_tup s1') _ _ du f2.1, .tup (SqT.of upd_same) (.cons (.str _) (.cons (.int _) .nil)), f2.sh (by decide), f2.sh (by decide), _, rfl, ?_⟩
      rw [SeqAt.eqv_refl _ (SeqAt.canLay_of_shaped (f2.sh (by decide)))]
      exact iteF ⟨_, _, _, rfl, Wh.sm s1', tab_sm gh.tab s1', s1' _ _ elh⟩
end
end C1

/-! What the top leaves, and the end. -/
namespace C1
open PySem PySem.Spec PyProof.Rows L2 SX
open GxR (TabG Tabbed TabB GenS)
theorem kit_ref {K : PySem.W.Frag} {t : Value} {C : Addr} (hd : PySem.W.hasDictIn K C = true) (ty : PySem.W.typeIn K (.ref C) = some (.type "type")) (s : PySem.W.subIn K t (.ref C) = some true) : PySem.W.kitOne K t (.ref C) = some true := by
  obtain ⟨cd, hc, _⟩ := PySem.W.any_some hd
  have e : ((PySem.W.clsIn K C).isSome && PySem.W.typeIn K (.ref C) == some (.type "type")) = true := by
    rw [hc, ty]
    rfl
  unfold PySem.W.kitOne
  by_cases q : (t == Value.ref C) = true
  · rw [if_pos q]
  · rw [if_neg q]
    show (if ((PySem.W.clsIn K C).isSome && PySem.W.typeIn K (.ref C) == some (.type "type")) = true then PySem.W.subIn K t (.ref C) else none) = some true
    rw [if_pos e]
    exact s
/-- the table of is_number's code is empty at the law's call -/
def OwnT (K : PySem.W.Frag) (mg : Str → Option Value) (h : Heap) : Prop := ∀ (f c P : Addr) (o : Obj) (fd : FuncData) (e : Value) (dd : Option Addr) (vs : Array Value) (sl : Array (Option Value)),
  mg "is_number" = some (.ref f) → K.lookup f = some o → o.data = .func fd → fd.code = .ref c → K.lookup c = some ⟨e, dd, .fields vs, sl⟩ → vs[11]? = some (.ref P) → h.get? P = some { cls := .none, data := .fields #[] } ∧ PySem.W.CodeHd h c P
theorem walk_ofDef {l : PySem.W.OpenLaw} {n k : Nat} {q : Program} {loose : List Str} {XP : (Str → Option Value) → Heap → Prop} {YP : World → Heap → Prop} {d : DefRec} {K : Params → PySem.W.Frag} {CX : World → CXT} {x nm : Str}
    (hn : l.most = some n) (hn2 : n ≤ sizeLine) (hdf : d.params.defaults = []) (hr : Room k callerA) (hrec : ((recsOf q).any fun e => e.name == "is_number") = true) (hY : ∀ (w : World) (h : Heap), YP w h → (K w.params).In h)
    (F : ∀ (w : World) (mg : Str → Option Value) (fa : Addr) (h : Heap), YP w h → (K w.params).In h → h.Ns mainGlobals mg → mg d.name = some (.ref fa) → OwnT (K w.params) mg h → LamX.LawAtS l w (K w.params) (CX w) k n x mg fa h)
    (hCX : ∀ (w : World) (H : Hp) (s : Shared) (e : Value) (s' : Shared), CX w [] H s (fun _ _ _ => False) e s' → False) :
    PySem.W.WalkO q loose XP YP l.row.toRowW d [] (fun f vs => PySem.call f vs) := by
  refine Att.attach_callB hn hdf fun w s0 s1 mg mb fa o pm cd doc a vs ns G Y ho hd hcd hmg hobj hints hlen hbits hg => ?_
  have KX := hY w _ Y
  have own : OwnT (K w.params) mg s1.heap := fun f c P o1 fd1 e dd vs1 sl k0 k1 k2 k3 k4 k5 => by
    obtain ⟨r, hm, hnm⟩ := List.any_eq_true.mp hrec
    have hnm2 : r.name = "is_number" := beq_iff_eq.mp hnm
    obtain ⟨a2, o2, fd2, c2, P2, h1, h2, h3, h4, h5, h6⟩ := G.T.tab r hm
    rw [hnm2, k0] at h1
    cases h1
    have g1 := KX _ _ k1
    rw [g1] at h2
    cases h2
    rw [k2] at h3
    cases h3
    rw [k3] at h4
    cases h4
    have hc := PySem.W.CodeHd.of h5 h6
    obtain ⟨⟨oc, vc, b1, _, b3, b4⟩, hP⟩ := h6
    have g2 := KX _ _ k4
    rw [g2] at b1
    cases b1
    cases b3
    rw [k5] at b4
    cases b4
    exact ⟨hP, hc⟩
  obtain ⟨fd, cs, sp, hT, nT, C, hb, hsp, hF⟩ := F w mg fa _ Y KX G.T.g hmg own
  exact LamX.law_callTs KX G.T.g G.T.b G.T.builtins G.T.nolimit hg hT nT C G.T.bmain hobj hints (Nat.le_trans hlen hn2) hr hF hb (fun H hH hS => hsp H a ns hlen hbits hH hS) fun H e s' => hCX w H s1 e s'
theorem all_mk {l : PySem.W.OpenLaw} {w : World} {K : PySem.W.Frag} {h : Heap} {mg : Str → Option Value} {fa : Addr} (X : K.In h) (G : h.Ns mainGlobals mg) (hfa : mg "law" = some (.ref fa)) (own : OwnT K mg h)
    {f0 : Addr} {od0 an0 : Option Addr} {sl0 : Array (Option Value)} {oc0 kV0 dc0 pm0  ct0 : Value}
    {f1 : Addr} {od1 an1 : Option Addr} {sl1 : Array (Option Value)} {oc1 kV1 dc1 pm1 cd1 ct1 : Value}
    {f2 : Addr} {od2 an2 : Option Addr} {sl2 : Array (Option Value)} {oc2 kV2 dc2 pm2 cd2 ct2 : Value}
    {f3 : Addr} {od3 an3 : Option Addr} {sl3 : Array (Option Value)} {oc3 kV3 dc3 pm3 cd3 ct3 : Value}
    {f4 : Addr} {od4 an4 : Option Addr} {sl4 : Array (Option Value)} {oc4 kV4 dc4 pm4 cd4 ct4 : Value}
    {f5 : Addr} {od5 an5 : Option Addr} {sl5 : Array (Option Value)} {oc5 kV5 dc5 pm5 cd5 ct5 : Value}
    {f6 : Addr} {od6 an6 : Option Addr} {sl6 : Array (Option Value)} {oc6 kV6 dc6 pm6 cd6 ct6 : Value}
    {f7 : Addr} {od7 an7 : Option Addr} {sl7 : Array (Option Value)} {oc7 kV7 dc7 pm7 cd7 ct7 : Value}
    {f8 : Addr} {od8 an8 : Option Addr} {sl8 : Array (Option Value)} {oc8 kV8 dc8 pm8 cd8 ct8 : Value}
    {f9 : Addr} {od9 an9 : Option Addr} {sl9 : Array (Option Value)} {oc9 kV9 dc9 pm9 cd9 ct9 : Value}
    {f10 : Addr} {od10 an10 : Option Addr} {sl10 : Array (Option Value)} {oc10 kV10 dc10 pm10 cd10 ct10 : Value}
    {f11 : Addr} {od11 an11 : Option Addr} {sl11 : Array (Option Value)} {oc11 kV11 dc11 pm11 cd11 ct11 : Value}
    {f12 : Addr} {od12 an12 : Option Addr} {sl12 : Array (Option Value)} {oc12 kV12 dc12 pm12 cd12 ct12 : Value}
    {f13 : Addr} {od13 an13 : Option Addr} {sl13 : Array (Option Value)} {oc13 kV13 dc13 pm13 cd13 ct13 : Value}
    {f14 : Addr} {od14 an14 : Option Addr} {sl14 : Array (Option Value)} {oc14 kV14 dc14 pm14 cd14 ct14 : Value}
    {f15 : Addr} {od15 an15 : Option Addr} {sl15 : Array (Option Value)} {oc15 kV15 dc15 pm15 cd15 ct15 : Value}
    {f16 : Addr} {od16 an16 : Option Addr} {sl16 : Array (Option Value)} {oc16 kV16 dc16 pm16 cd16 ct16 : Value}
    {f17 : Addr} {od17 an17 : Option Addr} {sl17 : Array (Option Value)} {oc17 kV17 dc17 pm17 cd17 ct17 : Value}
    {f18 : Addr} {od18 an18 : Option Addr} {sl18 : Array (Option Value)} {oc18 kV18 dc18 pm18 cd18 ct18 : Value}
    {f19 : Addr} {od19 an19 : Option Addr} {sl19 : Array (Option Value)} {oc19 kV19 dc19 pm19 cd19 ct19 : Value}
    {f20 : Addr} {od20 an20 : Option Addr} {sl20 : Array (Option Value)} {oc20 kV20 dc20 pm20 cd20 ct20 : Value}
    {cP Tb : Addr} {pe : Value} {pd : Option Addr} {pvs : Array Value} {psl : Array (Option Value)}
    {fI : Addr} {odI anI : Option Addr} {slI : Array (Option Value)} {ocI kVI dcI pmI cdI ctI : Value} {CB CC NCB : Addr} {nmCB qCB : Str} {bsCB : List Value} {snCB : List Str} {subCB : List Value} {abCB : Bool} {colCB : Option Bool} {ddCB : Option Addr} {m0CB m1CB m2CB m3CB m5CB : Option Value}
    {tkD : Tok}
    {tkA tkS : Tok}
    (a0 : PySem.W.nsIn K mainGlobals "is_number" = some (some (.ref f0)))
    (l0 : K.lookup f0 = some ⟨oc0, od0, .func (PySem.W.fnOf "is_number" "is_number" (defArgs sIsNum) (defBody sIsNum) (defScope sIsNum) .none kV0 dc0 pm0 an0 (.ref cP) ct0), sl0⟩)
    (c0 : PySem.W.codeIn K (.ref cP) "is_number" = true)
    (k0 : PySem.W.keepIn K (.ref f0) = true)
    (a1 : PySem.W.nsIn K mainGlobals "number_of" = some (some (.ref f1)))
    (l1 : K.lookup f1 = some ⟨oc1, od1, .func (PySem.W.fnOf "number_of" "number_of" (defArgs sNumberOf) (defBody sNumberOf) (defScope sNumberOf) .none kV1 dc1 pm1 an1 cd1 ct1), sl1⟩)
    (c1 : PySem.W.codeIn K cd1 "number_of" = true)
    (k1 : PySem.W.keepIn K (.ref f1) = true)
    (a2 : PySem.W.nsIn K mainGlobals "power_of_ten" = some (some (.ref f2)))
    (l2 : K.lookup f2 = some ⟨oc2, od2, .func (PySem.W.fnOf "power_of_ten" "power_of_ten" (defArgs sPowerOfTen) (defBody sPowerOfTen) (defScope sPowerOfTen) .none kV2 dc2 pm2 an2 cd2 ct2), sl2⟩)
    (c2 : PySem.W.codeIn K cd2 "power_of_ten" = true)
    (k2 : PySem.W.keepIn K (.ref f2) = true)
    (a3 : PySem.W.nsIn K mainGlobals "number_text" = some (some (.ref f3)))
    (l3 : K.lookup f3 = some ⟨oc3, od3, .func (PySem.W.fnOf "number_text" "number_text" (defArgs sNumberText) (defBody sNumberText) (defScope sNumberText) .none kV3 dc3 pm3 an3 cd3 ct3), sl3⟩)
    (c3 : PySem.W.codeIn K cd3 "number_text" = true)
    (k3 : PySem.W.keepIn K (.ref f3) = true)
    (a4 : PySem.W.nsIn K mainGlobals "whole_lines" = some (some (.ref f4)))
    (l4 : K.lookup f4 = some ⟨oc4, od4, .func (PySem.W.fnOf "whole_lines" "whole_lines" (defArgs sWhole) (defBody sWhole) (defScope sWhole) .none kV4 dc4 pm4 an4 cd4 ct4), sl4⟩)
    (c4 : PySem.W.codeIn K cd4 "whole_lines" = true)
    (k4 : PySem.W.keepIn K (.ref f4) = true)
    (a5 : PySem.W.nsIn K mainGlobals "text_of" = some (some (.ref f5)))
    (l5 : K.lookup f5 = some ⟨oc5, od5, .func (PySem.W.fnOf "text_of" "text_of" (defArgs sTextOf) (defBody sTextOf) (defScope sTextOf) .none kV5 dc5 pm5 an5 cd5 ct5), sl5⟩)
    (c5 : PySem.W.codeIn K cd5 "text_of" = true)
    (k5 : PySem.W.keepIn K (.ref f5) = true)
    (a6 : PySem.W.nsIn K mainGlobals "cycles_told" = some (some (.ref f6)))
    (l6 : K.lookup f6 = some ⟨oc6, od6, .func (PySem.W.fnOf "cycles_told" "cycles_told" (defArgs sCyclesTold) (defBody sCyclesTold) (defScope sCyclesTold) .none kV6 dc6 pm6 an6 cd6 ct6), sl6⟩)
    (c6 : PySem.W.codeIn K cd6 "cycles_told" = true)
    (k6 : PySem.W.keepIn K (.ref f6) = true)
    (a7 : PySem.W.nsIn K mainGlobals "changes" = some (some (.ref f7)))
    (l7 : K.lookup f7 = some ⟨oc7, od7, .func (PySem.W.fnOf "changes" "changes" (defArgs sChanges) (defBody sChanges) (defScope sChanges) .none kV7 dc7 pm7 an7 cd7 ct7), sl7⟩)
    (c7 : PySem.W.codeIn K cd7 "changes" = true)
    (k7 : PySem.W.keepIn K (.ref f7) = true)
    (a8 : PySem.W.nsIn K mainGlobals "filled" = some (some (.ref f8)))
    (l8 : K.lookup f8 = some ⟨oc8, od8, .func (PySem.W.fnOf "filled" "filled" (defArgs sFilled) (defBody sFilled) (defScope sFilled) .none kV8 dc8 pm8 an8 cd8 ct8), sl8⟩)
    (c8 : PySem.W.codeIn K cd8 "filled" = true)
    (k8 : PySem.W.keepIn K (.ref f8) = true)
    (a9 : PySem.W.nsIn K mainGlobals "print_waves" = some (some (.ref f9)))
    (l9 : K.lookup f9 = some ⟨oc9, od9, .func (PySem.W.fnOf "print_waves" "print_waves" (defArgs sPrintWaves) (defBody sPrintWaves) (defScope sPrintWaves) .none kV9 dc9 pm9 an9 cd9 ct9), sl9⟩)
    (c9 : PySem.W.codeIn K cd9 "print_waves" = true)
    (k9 : PySem.W.keepIn K (.ref f9) = true)
    (a10 : PySem.W.nsIn K mainGlobals "wave_parts" = some (some (.ref f10)))
    (l10 : K.lookup f10 = some ⟨oc10, od10, .func (PySem.W.fnOf "wave_parts" "wave_parts" (defArgs sWaveParts) (defBody sWaveParts) (defScope sWaveParts) .none kV10 dc10 pm10 an10 cd10 ct10), sl10⟩)
    (c10 : PySem.W.codeIn K cd10 "wave_parts" = true)
    (k10 : PySem.W.keepIn K (.ref f10) = true)
    (a11 : PySem.W.nsIn K mainGlobals "read_waves" = some (some (.ref f11)))
    (l11 : K.lookup f11 = some ⟨oc11, od11, .func (PySem.W.fnOf "read_waves" "read_waves" (defArgs sReadWaves) (defBody sReadWaves) (defScope sReadWaves) .none kV11 dc11 pm11 an11 cd11 ct11), sl11⟩)
    (c11 : PySem.W.codeIn K cd11 "read_waves" = true)
    (k11 : PySem.W.keepIn K (.ref f11) = true)
    (a12 : PySem.W.nsIn K mainGlobals "wave_values" = some (some (.ref f12)))
    (l12 : K.lookup f12 = some ⟨oc12, od12, .func (PySem.W.fnOf "wave_values" "wave_values" (defArgs sWaveValues) (defBody sWaveValues) (defScope sWaveValues) .none kV12 dc12 pm12 an12 cd12 ct12), sl12⟩)
    (c12 : PySem.W.codeIn K cd12 "wave_values" = true)
    (k12 : PySem.W.keepIn K (.ref f12) = true)
    (a13 : PySem.W.nsIn K mainGlobals "_law_draws" = some (some (.ref f13)))
    (l13 : K.lookup f13 = some ⟨oc13, od13, .func (PySem.W.fnOf "_law_draws" "_law_draws" (defArgs sDraws) (defBody sDraws) (defScope sDraws) .none kV13 dc13 pm13 an13 cd13 ct13), sl13⟩)
    (c13 : PySem.W.codeIn K cd13 "_law_draws" = true)
    (k13 : PySem.W.keepIn K (.ref f13) = true)
    (a14 : PySem.W.nsIn K mainGlobals "_law_next" = some (some (.ref f14)))
    (l14 : K.lookup f14 = some ⟨oc14, od14, .func (PySem.W.fnOf "_law_next" "_law_next" (defArgs sNext) (defBody sNext) (defScope sNext) .none kV14 dc14 pm14 an14 cd14 ct14), sl14⟩)
    (c14 : PySem.W.codeIn K cd14 "_law_next" = true)
    (k14 : PySem.W.keepIn K (.ref f14) = true)
    (a15 : PySem.W.nsIn K mainGlobals "_law_lines" = some (some (.ref f15)))
    (l15 : K.lookup f15 = some ⟨oc15, od15, .func (PySem.W.fnOf "_law_lines" "_law_lines" (defArgs sLawLines) (defBody sLawLines) (defScope sLawLines) .none kV15 dc15 pm15 an15 cd15 ct15), sl15⟩)
    (c15 : PySem.W.codeIn K cd15 "_law_lines" = true)
    (k15 : PySem.W.keepIn K (.ref f15) = true)
    (a16 : PySem.W.nsIn K mainGlobals "_law_number" = some (some (.ref f16)))
    (l16 : K.lookup f16 = some ⟨oc16, od16, .func (PySem.W.fnOf "_law_number" "_law_number" (defArgs sLawNumber) (defBody sLawNumber) (defScope sLawNumber) .none kV16 dc16 pm16 an16 cd16 ct16), sl16⟩)
    (c16 : PySem.W.codeIn K cd16 "_law_number" = true)
    (k16 : PySem.W.keepIn K (.ref f16) = true)
    (a17 : PySem.W.nsIn K mainGlobals "_law_read" = some (some (.ref f17)))
    (l17 : K.lookup f17 = some ⟨oc17, od17, .func (PySem.W.fnOf "_law_read" "_law_read" (defArgs sLawRead) (defBody sLawRead) (defScope sLawRead) .none kV17 dc17 pm17 an17 cd17 ct17), sl17⟩)
    (c17 : PySem.W.codeIn K cd17 "_law_read" = true)
    (k17 : PySem.W.keepIn K (.ref f17) = true)
    (a18 : PySem.W.nsIn K mainGlobals "_law_told" = some (some (.ref f18)))
    (l18 : K.lookup f18 = some ⟨oc18, od18, .func (PySem.W.fnOf "_law_told" "_law_told" (defArgs sLawTold) (defBody sLawTold) (defScope sLawTold) .none kV18 dc18 pm18 an18 cd18 ct18), sl18⟩)
    (c18 : PySem.W.codeIn K cd18 "_law_told" = true)
    (k18 : PySem.W.keepIn K (.ref f18) = true)
    (a19 : PySem.W.nsIn K mainGlobals "_law_bent" = some (some (.ref f19)))
    (l19 : K.lookup f19 = some ⟨oc19, od19, .func (PySem.W.fnOf "_law_bent" "_law_bent" (defArgs sLawBent) (defBody sLawBent) (defScope sLawBent) .none kV19 dc19 pm19 an19 cd19 ct19), sl19⟩)
    (c19 : PySem.W.codeIn K cd19 "_law_bent" = true)
    (k19 : PySem.W.keepIn K (.ref f19) = true)
    (a20 : PySem.W.nsIn K mainGlobals "law" = some (some (.ref f20)))
    (l20 : K.lookup f20 = some ⟨oc20, od20, .func (PySem.W.fnOf "law" "law" (defArgs sLaw) (defBody sLaw) (defScope sLaw) .none kV20 dc20 pm20 an20 cd20 ct20), sl20⟩)
    (c20 : PySem.W.codeIn K cd20 "law" = true)
    (k20 : PySem.W.keepIn K (.ref f20) = true)
    (lc : K.lookup cP = some ⟨pe, pd, .fields pvs, psl⟩)
    (lp : pvs[11]? = some (.ref Tb))
    (ln : K.lookup Tb = none)
    (gCC : PySem.W.nsIn K mainGlobals "CutError" = some (some (.ref CC)))
    (gCB : PySem.W.nsIn K mainGlobals "BadLine" = some (some (.ref CB)))
    (iCB : PySem.W.findIn K (.ref CB) "__init__" = some (some (.ref fI)))
    (tI : PySem.W.typeIn K (.ref fI) = some (.type "function"))
    (lI : K.lookup fI = some ⟨ocI, odI, .func (PySem.W.fnOf "__init__" "BadLine.__init__" (defArgs sInitB) (defBody sInitB) (defScope sInitB) .none kVI dcI pmI anI cdI ctI), slI⟩)
    (cI : PySem.W.codeIn K cdI "BadLine.__init__" = true)
    (kI : PySem.W.keepIn K (.ref fI) = true)
    (xCB : K.lookup CB = some (excClassObj nmCB qCB CB NCB bsCB [.ref CC, .type "ValueError", .type "Exception", .type "BaseException", .type "object"] true snCB subCB abCB colCB ddCB m0CB m1CB m2CB m3CB m5CB "ValueError.__new__"))
    (saCB : PySem.W.findIn K (.ref CB) "__setattr__" = some (some (.builtin "object.__setattr__")))
    (gaCB : PySem.W.findIn K (.ref CB) "__getattribute__" = some (some (.builtin "BaseException.__getattribute__")))
    (ggCB : PySem.W.findIn K (.ref CB) "__getattr__" = some none)
    (exCB : PySem.W.subIn K (.ref CB) (.type "BaseException") = some true)
    (tyCB : PySem.W.typeIn K (.ref CB) = some (.type "type"))
    (kpCB : PySem.W.keepIn K (.ref CB) = true)
    (hdCB : PySem.W.hasDictIn K CB = true)
    (clCB : PySem.W.findIn K (.ref CB) "__class__" = some (some (.builtin "object.__class__")))
    (moCB : PySem.W.mroIn K CB (.type "object") = some true)
    (nRCB : PySem.W.findIn K (.ref CB) "line" = some none)
    (sg : PySem.W.specialIn K (.builtin "object.__class__") "__get__" = some (some (.builtin "getset_descriptor.__get__")))
    (tk : PySem.W.takesIn K (.builtin "object.__class__") = some true)
    (sp : PySem.W.specialIn K (.ref CC) "__getattribute__" = some (some (.builtin "type.__getattribute__")))
    (rd : PySem.W.readsIn K CC (.type "type") = true)
    (fc : PySem.W.findCls K (.ref CC) (.type "type") "__init__" = some (.val (.builtin "ValueError.__init__")))
    (sCBCB : PySem.W.subIn K (.ref CB) (.ref CB) = some true)
    (qCBCC : PySem.W.subIn K (.ref CB) (.ref CC) = some true)
    (hdCC : PySem.W.hasDictIn K CC = true)
    (tyCC : PySem.W.typeIn K (.ref CC) = some (.type "type"))
    (tDi : PySem.W.nsIn K mainGlobals "DIGITS" = some (some (.str (Str.ofString "0123456789") tkD)))
    (tAo : PySem.W.nsIn K mainGlobals "AT_ONCE" = some (some (.int 1000 tkA)))
    (tAs : PySem.W.nsIn K mainGlobals "AS_AHEAD" = some (some (.str (Str.ofString ".") tkS)))
    (z_type : PySem.W.nsIn K mainGlobals "type" = some none)
    (z_int : PySem.W.nsIn K mainGlobals "int" = some none)
    (z_tuple : PySem.W.nsIn K mainGlobals "tuple" = some none)
    (z_bool : PySem.W.nsIn K mainGlobals "bool" = some none)
    (z_str : PySem.W.nsIn K mainGlobals "str" = some none)
    (z_len : PySem.W.nsIn K mainGlobals "len" = some none)
    (z_all : PySem.W.nsIn K mainGlobals "all" = some none)
    (z_range : PySem.W.nsIn K mainGlobals "range" = some none)
    (z_abs : PySem.W.nsIn K mainGlobals "abs" = some none)
    (z_isinstance : PySem.W.nsIn K mainGlobals "isinstance" = some none)
    (z_enumerate : PySem.W.nsIn K mainGlobals "enumerate" = some none)
    (z_min : PySem.W.nsIn K mainGlobals "min" = some none)
    (z_list : PySem.W.nsIn K mainGlobals "list" = some none) :
    LamX.LawAtS l w K CX0 6 63 "script" mg fa h := by
  have M := fun {x : Str} {v : Value} (e : PySem.W.nsIn K mainGlobals x = some (some v)) => PySem.W.mg_of X G e
  have Z := fun {x : Str} (e : PySem.W.nsIn K mainGlobals x = some none) => PySem.W.mg_none_of X G e
  have e := hfa.symm.trans (M a20)
  cases e
  have line : ∀ n : Nat, n ≤ 100 → n ≤ sizeLine := fun n h => by
    rw [sizeLine_eq]
    omega
  have F0 := fun_mk (st := sIsNum) l0 c0 k0
  have B0 := F0.binds (ps := ["text"]) fun _ _ _ _ _ _ us hl => match us, hl with | [_], _ => rfl
  have F1 := fun_mk (st := sNumberOf) l1 c1 k1
  have B1 := F1.binds (ps := ["text"]) fun _ _ _ _ _ _ us hl => match us, hl with | [_], _ => rfl
  have F2 := fun_mk (st := sPowerOfTen) l2 c2 k2
  have B2 := F2.binds (ps := ["many"]) fun _ _ _ _ _ _ us hl => match us, hl with | [_], _ => rfl
  have F3 := fun_mk (st := sNumberText) l3 c3 k3
  have B3 := F3.binds (ps := ["worth"]) fun _ _ _ _ _ _ us hl => match us, hl with | [_], _ => rfl
  have F4 := fun_mk (st := sWhole) l4 c4 k4
  have B4 := F4.binds (ps := ["text"]) fun _ _ _ _ _ _ us hl => match us, hl with | [_], _ => rfl
  have F5 := fun_mk (st := sTextOf) l5 c5 k5
  have B5 := F5.binds (ps := ["lines"]) fun _ _ _ _ _ _ us hl => match us, hl with | [_], _ => rfl
  have F6 := fun_mk (st := sCyclesTold) l6 c6 k6
  have B6 := F6.binds (ps := ["line"]) fun _ _ _ _ _ _ us hl => match us, hl with | [_], _ => rfl
  have F7 := fun_mk (st := sChanges) l7 c7 k7
  have B7 := F7.binds (ps := ["told"]) fun _ _ _ _ _ _ us hl => match us, hl with | [_], _ => rfl
  have F8 := fun_mk (st := sFilled) l8 c8 k8
  have B8 := F8.binds (ps := ["found", "cycles"]) fun _ _ _ _ _ _ us hl => match us, hl with | [_, _], _ => rfl
  have F9 := fun_mk (st := sPrintWaves) l9 c9 k9
  have B9 := F9.binds (ps := ["names", "told"]) fun _ _ _ _ _ _ us hl => match us, hl with | [_, _], _ => rfl
  have F10 := fun_mk (st := sWaveParts) l10 c10 k10
  have B10 := F10.binds (ps := ["worths"]) fun _ _ _ _ _ _ us hl => match us, hl with | [_], _ => rfl
  have F11 := fun_mk (st := sReadWaves) l11 c11 k11
  have B11 := F11.binds (ps := ["text"]) fun _ _ _ _ _ _ us hl => match us, hl with | [_], _ => rfl
  have F12 := fun_mk (st := sWaveValues) l12 c12 k12
  have B12 := F12.binds (ps := ["found"]) fun _ _ _ _ _ _ us hl => match us, hl with | [_], _ => rfl
  have F13 := fun_mk (st := sDraws) l13 c13 k13
  have B13 := F13.binds (ps := ["script", "many"]) fun _ _ _ _ _ _ us hl => match us, hl with | [_, _], _ => rfl
  have F14 := fun_mk (st := sNext) l14 c14 k14
  have B14 := F14.binds (ps := ["w", "many"]) fun _ _ _ _ _ _ us hl => match us, hl with | [_, _], _ => rfl
  have F15 := fun_mk (st := sLawLines) l15 c15 k15
  have B15 := F15.binds (ps := ["names", "told"]) fun _ _ _ _ _ _ us hl => match us, hl with | [_, _], _ => rfl
  have F16 := fun_mk (st := sLawNumber) l16 c16 k16
  have B16 := F16.binds (ps := ["text"]) fun _ _ _ _ _ _ us hl => match us, hl with | [_], _ => rfl
  have F17 := fun_mk (st := sLawRead) l17 c17 k17
  have B17 := F17.binds (ps := ["text"]) fun _ _ _ _ _ _ us hl => match us, hl with | [_], _ => rfl
  have F18 := fun_mk (st := sLawTold) l18 c18 k18
  have B18 := F18.binds (ps := ["text"]) fun _ _ _ _ _ _ us hl => match us, hl with | [_], _ => rfl
  have F19 := fun_mk (st := sLawBent) l19 c19 k19
  have B19 := F19.binds (ps := ["w", "lines"]) fun _ _ _ _ _ _ us hl => match us, hl with | [_, _], _ => rfl
  have F20 := fun_mk (st := sLaw) l20 c20 k20
  have B20 := F20.binds (ps := ["script"]) fun _ _ _ _ _ _ us hl => match us, hl with | [_], _ => rfl
  have FI := fun_mk (st := sInitB) lI cI kI
  have BI := FI.binds (ps := ["self", "line"]) fun _ _ _ _ _ _ us hl => match us, hl with | [_, _], _ => rfl
  have OB : OexC K CB := ⟨⟨_, _, _, _, _, _, _, _, _, _, _, _, _, _, _, xCB, by show PySem.HandSPX.refsVE [.type "ValueError", .type "Exception", .type "BaseException", .type "object"] = true; decide +kernel⟩, saCB, exCB, tyCB, kpCB⟩
  have RB : ErrB K mg CB fI := ⟨OB, iCB, nRCB, M gCB⟩
  have XB : ErrT K mg CB := ⟨M gCB, ⟨gaCB, ggCB, exCB, hdCB⟩, ⟨gaCB, ggCB, exCB, hdCB, clCB, sg, tk, moCB⟩, nRCB⟩
  have GP : Gp mg := ⟨Z z_type, Z z_int, Z z_tuple, Z z_bool, Z z_len, Z z_all, Z z_enumerate, Z z_isinstance, Z z_min, Z z_range, Z z_list⟩
  have BL : Bl mg := ⟨Z z_len, Z z_range, Z z_abs, Z z_int, Z z_str⟩
  have BB : BT mg := ⟨Z z_len, Z z_all, Z z_tuple, Z z_int⟩
  have BN1 : BN mg := ⟨Z z_len, Z z_int, Z z_range⟩
  have BD1 : BD mg := ⟨Z z_enumerate⟩
  obtain ⟨hP, hC⟩ := own _ _ _ _ _ _ _ _ _ (M a0) l0 rfl rfl lc lp
  refine ⟨PySem.W.fnOf "law" "law" (defArgs sLaw) (defBody sLaw) (defScope sLaw) .none kV20 dc20 pm20 an20 cd20 ct20, [(cP, Tb)], spLaw K Tb, fun p hp => ?_, fun p hp => ?_, fun p hp => ?_, fun s u => .of_eq rfl, fun H a ns hl _ hH hS => ⟨a, ns, rfl, hS, hl, ⟨#[], hH _ (List.mem_singleton.mpr rfl), trivial⟩, fun _ => rfl⟩, fun base _ _ TB => ?_⟩
  · rw [List.mem_singleton.mp hp]
    exact hP
  · rw [List.mem_singleton.mp hp]
    exact ln
  · rw [List.mem_singleton.mp hp]
    exact hC
  · have tb0 := TB _ (List.mem_singleton.mpr rfl)
    have tb : TabB base mg cP Tb := ⟨tb0.code, tb0.bm, tb0.gP⟩
    have G0 := ok_isnum (P := l.prog) (w := w) (fd := PySem.W.fnOf "is_number" "is_number" (defArgs sIsNum) (defBody sIsNum) (defScope sIsNum) .none kV0 dc0 pm0 an0 (.ref cP) ct0) l0 c0 (M tDi) (Z z_all) tb
    have GI : FnOk l.prog w K mg base CX0 1 fI _ ["self", "line"] (spInitB K) := ok_initB FI (M gCC) sp rd fc
    have G2 : FnOk l.prog w K mg base CX0 1 f2 _ ["many"] spTen := ok_ten F2 BN1
    have G1 : FnOk l.prog w K mg base CX0 2 f1 _ ["text"] spNof := ok_nof F1 BN1 (M tAo) G2 k2 B2 (M a2)
    have G3 : FnOk l.prog w K mg base CX0 1 f3 _ ["worth"] spNText := ok_ntext F3 (Z z_str) (M tAo)
    have G4 : FnOk l.prog w K mg base (L2.CX l.prog w) 3 f4 _ ["text"] (spWhole K CB) := ok_whole F4 BB RB tI GI BI
    have G5 : FnOk l.prog w K mg base CX0 1 f5 _ ["lines"] (spTextOf K) := ok_textOf F5
    have G6 : FnOk l.prog w K mg base (L2.CX l.prog w) 3 f6 _ ["line"] (spCyc K Tb CB) := ok_cyc F6 G0 k0 B0 (M a0) G1 k1 B1 (M a1) RB tI GI BI
    have G12 : FnOk l.prog w K mg base CX0 3 f12 _ ["found"] (spWv K Tb) := ok_wv F12 (M tAs) G0 k0 B0 (M a0) G1 k1 B1 (M a1)
    have G10 : FnOk l.prog w K mg base CX0 2 f10 _ ["worths"] (spWp K) := ok_wp F10 BD1 (M tAs) G3 k3 B3 (M a3)
    have G11 : FnOk l.prog w K mg base (L2.CX l.prog w) 4 f11 _ ["text"] (spRWaves K Tb CB) := ok_rwaves F11 BB BD1 BL G4 k4 B4 (M a4) G6 k6 B6 (M a6) G12 k12 B12 (M a12) RB tI GI BI
    have G9 : FnOk l.prog w K mg base CX0 3 f9 _ ["names", "told"] (spPWaves K) := ok_pwaves F9 BB BD1 G10 k10 B10 (M a10) G5 k5 B5 (M a5)
    have G7 : FnOk l.prog w K mg base CX0 1 f7 _ ["told"] (spChg K) := ok_changes F7 BB BD1
    have G8 : FnOk l.prog w K mg base CX0 1 f8 _ ["found", "cycles"] (spFill K) := ok_filled F8 BB BD1 BL
    have G13 : FnOk l.prog w K mg base CX0 1 f13 _ ["script", "many"] (spDraws K) := ok_draws F13 BL
    have G14 : FnOk l.prog w K mg base CX0 1 f14 _ ["w", "many"] spNext := ok_next F14 BL
    have G15 : FnOk l.prog w K mg base CX0 1 f15 _ ["names", "told"] (spLLines K) := ok_llines F15 BB BL
    have G16 : FnOk l.prog w K mg base CX0 1 f16 _ ["text"] spLNum := ok_lnumber F16 BB
    have G17 : FnOk l.prog w K mg base CX0 2 f17 _ ["text"] (spLRead K) := ok_lread F17 BB BL G16 k16 B16 (M a16)
    have G18 : FnOk l.prog w K mg base CX0 5 f18 _ ["text"] (spTold K Tb) := ok_told F18 XB (M gCC) GP G11 k11 B11 (M a11) (PySem.W.exm_ref exCB hdCB tyCB sCBCB) (kit_ref hdCC tyCC qCBCC)
    have G19 : FnOk l.prog w K mg base CX0 2 f19 _ ["w", "lines"] (spBent K) := ok_bent F19 BB G14 k14 B14 (M a14)
    exact ok_law F20 BB BL GP G13 k13 B13 (M a13) G14 k14 B14 (M a14) G7 k7 B7 (M a7) G8 k8 B8 (M a8) G15 k15 B15 (M a15) G9 k9 B9 (M a9) G18 k18 B18 (M a18) G19 k19 B19 (M a19) G17 k17 B17 (M a17)
end C1

open PySem PySem.W PyProof.Rows
set_option maxRecDepth 100000 in
set_option maxHeartbeats 0 in
theorem PySem.Challenge.cw_stagecut_k14_waves_of_what_is_told_holds : PySem.Challenge.rw_stagecut_k14_waves_of_what_is_told.Holds := by
  w_on; o_law; k_head; (case hw => w_witness2)
  k_fill
  refine C1.walk_ofDef (l := PySem.Challenge.rw_stagecut_k14_waves_of_what_is_told) (n := 63) (k := 6) (x := "script") (nm := "is_number") (CX := fun _ => L2.CX0) rfl (by decide) rfl ⟨rfl, by decide, by decide⟩ (by decide +kernel) (fun w h Y => PySem.W.kIn_of Y) ?F (fun _ _ _ _ _ h => h)
  case F =>
    intro w mg fa h Y KX G hmg own
    refine' C1.all_mk KX G hmg own ?a0 ?l0 ?c0 ?k0 ?a1 ?l1 ?c1 ?k1 ?a2 ?l2 ?c2 ?k2 ?a3 ?l3 ?c3 ?k3 ?a4 ?l4 ?c4 ?k4 ?a5 ?l5 ?c5 ?k5 ?a6 ?l6 ?c6 ?k6 ?a7 ?l7 ?c7 ?k7 ?a8 ?l8 ?c8 ?k8 ?a9 ?l9 ?c9 ?k9 ?a10 ?l10 ?c10 ?k10 ?a11 ?l11 ?c11 ?k11 ?a12 ?l12 ?c12 ?k12 ?a13 ?l13 ?c13 ?k13 ?a14 ?l14 ?c14 ?k14 ?a15 ?l15 ?c15 ?k15 ?a16 ?l16 ?c16 ?k16 ?a17 ?l17 ?c17 ?k17 ?a18 ?l18 ?c18 ?k18 ?a19 ?l19 ?c19 ?k19 ?a20 ?l20 ?c20 ?k20 ?lc ?lp ?ln ?gCC ?gCB ?iCB ?tI ?lI ?cI ?kI ?xCB ?saCB ?gaCB ?ggCB ?exCB ?tyCB ?kpCB ?hdCB ?clCB ?moCB ?nRCB ?sg ?tk ?sp ?rd ?fc ?sCBCB ?qCBCC ?hdCC ?tyCC ?tDi ?tAo ?tAs ?z_type ?z_int ?z_tuple ?z_bool ?z_str ?z_len ?z_all ?z_range ?z_abs ?z_isinstance ?z_enumerate ?z_min ?z_list
    (case a0 => k_is)
    (case l0 => k_is)
    (case c0 => k_is)
    (case k0 => k_is)
    (case a1 => k_is)
    (case l1 => k_is)
    (case c1 => k_is)
    (case k1 => k_is)
    (case a2 => k_is)
    (case l2 => k_is)
    (case c2 => k_is)
    (case k2 => k_is)
    (case a3 => k_is)
    (case l3 => k_is)
    (case c3 => k_is)
    (case k3 => k_is)
    (case a4 => k_is)
    (case l4 => k_is)
    (case c4 => k_is)
    (case k4 => k_is)
    (case a5 => k_is)
    (case l5 => k_is)
    (case c5 => k_is)
    (case k5 => k_is)
    (case a6 => k_is)
    (case l6 => k_is)
    (case c6 => k_is)
    (case k6 => k_is)
    (case a7 => k_is)
    (case l7 => k_is)
    (case c7 => k_is)
    (case k7 => k_is)
    (case a8 => k_is)
    (case l8 => k_is)
    (case c8 => k_is)
    (case k8 => k_is)
    (case a9 => k_is)
    (case l9 => k_is)
    (case c9 => k_is)
    (case k9 => k_is)
    (case a10 => k_is)
    (case l10 => k_is)
    (case c10 => k_is)
    (case k10 => k_is)
    (case a11 => k_is)
    (case l11 => k_is)
    (case c11 => k_is)
    (case k11 => k_is)
    (case a12 => k_is)
    (case l12 => k_is)
    (case c12 => k_is)
    (case k12 => k_is)
    (case a13 => k_is)
    (case l13 => k_is)
    (case c13 => k_is)
    (case k13 => k_is)
    (case a14 => k_is)
    (case l14 => k_is)
    (case c14 => k_is)
    (case k14 => k_is)
    (case a15 => k_is)
    (case l15 => k_is)
    (case c15 => k_is)
    (case k15 => k_is)
    (case a16 => k_is)
    (case l16 => k_is)
    (case c16 => k_is)
    (case k16 => k_is)
    (case a17 => k_is)
    (case l17 => k_is)
    (case c17 => k_is)
    (case k17 => k_is)
    (case a18 => k_is)
    (case l18 => k_is)
    (case c18 => k_is)
    (case k18 => k_is)
    (case a19 => k_is)
    (case l19 => k_is)
    (case c19 => k_is)
    (case k19 => k_is)
    (case a20 => k_is)
    (case l20 => k_is)
    (case c20 => k_is)
    (case k20 => k_is)
    (case lc => k_is)
    (case lp => rfl)
    (case ln => first | kernel_rfl | with_unfolding_all rfl | rfl)
    (case gCC => k_is)
    (case gCB => k_is)
    (case iCB => k_is)
    (case tI => k_is)
    (case lI => k_is)
    (case cI => k_is)
    (case kI => k_is)
    (case xCB => k_is)
    (case saCB => k_is)
    (case gaCB => k_is)
    (case ggCB => k_is)
    (case exCB => k_is)
    (case tyCB => k_is)
    (case kpCB => k_is)
    (case hdCB => k_is)
    (case clCB => k_is)
    (case moCB => k_is)
    (case nRCB => k_is)
    (case sg => k_is)
    (case tk => k_is)
    (case sp => k_is)
    (case rd => k_is)
    (case fc => k_is)
    (case sCBCB => k_is)
    (case qCBCC => k_is)
    (case hdCC => k_is)
    (case tyCC => k_is)
    (case tDi => k_is)
    (case tAo => k_is)
    (case tAs => k_is)
    (case z_type => k_is)
    (case z_int => k_is)
    (case z_tuple => k_is)
    (case z_bool => k_is)
    (case z_str => k_is)
    (case z_len => k_is)
    (case z_all => k_is)
    (case z_range => k_is)
    (case z_abs => k_is)
    (case z_isinstance => k_is)
    (case z_enumerate => k_is)
    (case z_min => k_is)
    (case z_list => k_is)

