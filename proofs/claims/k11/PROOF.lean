import PyProof.Rows.All
import Wide.All
import OpenK.AllK
import Wide.FinOn
import PySem.Challenge.RW_stagecut_k11_circuits_that_are_none
import HandS.ForMost
import HandS.ForExc
import HandS.Codes
import HandS.StrMore
import HandS.IsInst
import HandS.More
import HandS.Zip
import HandS.Deep
import HandS.WrittenGet
import HandS.TupAny
import HandS.TupLe
set_option Elab.async false
set_option linter.all false
set_option maxRecDepth 100000
set_option maxHeartbeats 8000000
/-! The law's draws, data without lists. -/
namespace C1
open PySem PySem.Spec PyProof.Rows L2 SX
def topS (i : Nat) : Stmt := PySem.Challenge.pw_stagecut_k11_circuits_that_are_none.main.body.getD i (.Pass ⟨0, 0, 0, 0⟩)
abbrev sParts : Stmt := topS 2
abbrev sMask : Stmt := topS 9
abbrev sFitted : Stmt := topS 10
abbrev sOpw : Stmt := topS 11
abbrev sIsCircuit : Stmt := topS 14
abbrev sIsTuple : Stmt := topS 15
abbrev sIsBelow : Stmt := topS 16
abbrev sIsWidth : Stmt := topS 17
abbrev sIsRegister : Stmt := topS 18
abbrev sIsMemory : Stmt := topS 19
abbrev sRowWidth : Stmt := topS 20
abbrev sKnown : Stmt := topS 21
abbrev sAreNexts : Stmt := topS 22
abbrev sAreEnds : Stmt := topS 23
abbrev sIsStore : Stmt := topS 24
abbrev sDraws : Stmt := topS 26
abbrev sNext : Stmt := topS 27
abbrev sRow : Stmt := topS 29
abbrev sCircuit : Stmt := topS 30
abbrev sIs : Stmt := topS 32
abbrev sOfRows : Stmt := topS 33
abbrev sWidth : Stmt := topS 34
abbrev sPairs : Stmt := topS 35
abbrev sFits : Stmt := topS 36
abbrev sThing : Stmt := topS 37
abbrev sBent : Stmt := topS 38
abbrev sLaw : Stmt := topS 39
theorem scDraws : FnScope ["script", "many", "draws", "mixed", "k", "cell", "rest", "turn"] ["script", "many"] (defScope sDraws) := ⟨rfl, rfl, rfl, by decide +kernel, rfl, by decide +kernel, by decide +kernel⟩
theorem scNext : FnScope ["w", "many"] ["w", "many"] (defScope sNext) := ⟨rfl, rfl, rfl, by decide +kernel, rfl, by decide +kernel, by decide +kernel⟩
theorem cut_ints (ds : List Int) (lo hi : Option Int) : ∃ es : List Int, cutV (ds.map V.int) lo hi = es.map V.int ∧ es.length ≤ ds.length := by
  refine ⟨(ds.drop (HT.sIx ds.length 0 lo)).take (HT.sIx ds.length ds.length hi - HT.sIx ds.length 0 lo), ?_, ?_⟩
  · unfold cutV
    rw [List.length_map, List.map_take, List.map_drop]
  · rw [List.length_take, List.length_drop]
    omega
theorem ap_int (ds : List Int) (z : Int) : ds.map V.int ++ [V.int z] = (ds ++ [z]).map V.int := by
  rw [List.map_append]
  rfl
theorem same_new {H : Hp} {p : Addr} {o : HO} (n : H p = none) : Same H (upd H p o) := fun b x e => by
  rw [upd_ne (ne_of_none e n)]
  exact e
theorem same_put {H H1 : Hp} {l : Addr} {o : HO} (g : Same H H1) (n : H l = none) : Same H (upd H1 l o) := fun b x e => by
  rw [upd_ne (ne_of_none e n)]
  exact g b x e
section
variable {P : Program} {w : World} {K : PySem.W.Frag} {mg : Str → Option Value} {base : Heap}
/-- the built-ins that the law calls -/
structure Bl (mg : Str → Option Value) : Prop where
  len : mg "len" = none
  range : mg "range" = none
  abs : mg "abs" = none
  int : mg "int" = none
  str : mg "str" = none
def spDraws (K : PySem.W.Frag) : Sp := fun vs H Q _ => ∃ (a : Addr) (ns : List Int) (m : Nat), vs = [.ref a, .int ((m : Nat) : Int)] ∧ SqL K H a (ns.map V.int) ∧ ns.length ≤ 63 ∧ m ≤ 1000 ∧
  ∀ (H' : Hp) (p : Addr) (ds : List Int), Same H H' → H p = none → H' p = some (.lst (ds.map V.int)) → ds.length ≤ 10000 → Q (.ref p) H'
theorem ok_draws {f : Addr} {fd : FuncData} (F : Fun K "_law_draws" "_law_draws" sDraws f fd) (B : Bl mg) : FnOk P w K mg base CX0 1 f fd ["script", "many"] (spDraws K) := by
  refine F.ok scDraws (fun vs H Q E h => ?_) (fun cdv A outer s H vs Q E hr h => ?_)
  · obtain ⟨a, ns, m, rfl, _⟩ := h
    rfl
  · obtain ⟨a, ns, m, rfl, hS, hlen, hm, q⟩ := h
    have nd := scDraws.nd
    refine ⟨_, (pss_cons (ps_set (i := 2) nd rfl (.inl rfl) (pe_lst pa_nil))
      (pss_cons (ps_set (i := 3) nd rfl (.inl rfl) (pe_int))
      (pss_cons (ps_for PassesOwn.never rfl (pi_range1 (by rfl) B.range (pa_cons (pe_callB call_len_seq (by rfl) B.len PySem.boot_len (pa_cons (pv 0) pa_nil)) pa_nil)) (pg_name (i := 4) nd rfl (.inl rfl)) (pss_cons (ps_set (i := 5) nd rfl (.inl rfl) (pe_callB call_abs (by rfl) B.abs (by decide +kernel) (pa_cons (pe_callTy call_int1 (by rfl) B.int (by decide +kernel) (pa_cons (pe_ix ix_list (pv 0) (pv 4) (fun _ _ => rfl)) pa_nil)) pa_nil)))
      (pss_cons (ps_set (i := 3) nd rfl (.inl rfl) (pe_op op_mod (pe_callTy call_int1 (by rfl) B.int (by decide +kernel) (pa_cons (pe_op op_add (pe_op op_add (pe_op op_mul (pv 3) (pe_int)) (pe_op op_mod (pv 5) (pe_int))) (pv 4)) pa_nil)) (pe_int)))
      (pss_cons (ps_set (i := 6) nd rfl (.inl rfl) (pe_int))
      (C8.pss_cut (ps_if (pt_cmpR op_ge (pv 5) (pe_op op_pow pe_int pe_int) (nomark _)) (pss_one (ps_set (i := 6) nd rfl (.inl rfl) (pv 5)))
      (pss_cons (ps_expr (pe_bm PySem.F.plainAttrs_list PySem.F.slot_list_append PySem.F.type_list_append mt_append (pv 2) (pa_cons (pe_op op_mod (pe_callTy call_int1 (by rfl) B.int (by decide +kernel) (pa_cons (pv 5) pa_nil)) (pe_int)) pa_nil)))
      (pss_one (ps_expr (pe_bm PySem.F.plainAttrs_list PySem.F.slot_list_append PySem.F.type_list_append mt_append (pv 2) (pa_cons (pe_op op_mod (pe_op op_mod (pe_callTy call_int1 (by rfl) B.int (by decide +kernel) (pa_cons (pe_op op_add (pe_op op_mul (pv 3) (pe_int)) (pe_int)) pa_nil)) (pe_int)) (pe_int)) pa_nil))))))
      (pss_one (ps_for PassesOwn.never rfl (pi_range1 (by rfl) B.range (pa_cons (pe_int) pa_nil)) (pg_name (i := 7) nd rfl (.inl rfl)) (pss_one (ps_if (pt_cmpR op_gt (pv 6) pe_int (nomark _)) (pss_cons (ps_expr (pe_bm PySem.F.plainAttrs_list PySem.F.slot_list_append PySem.F.type_list_append mt_append (pv 2) (pa_cons (pe_op op_mod (pe_callTy call_int1 (by rfl) B.int (by decide +kernel) (pa_cons (pv 6) pa_nil)) (pe_int)) pa_nil)))
      (pss_one (ps_set (i := 6) nd rfl (.inl rfl) (pe_op op_fdiv (pv 6) (pe_int))))) pss_nil)))))))))
      (pss_cons (ps_for PassesOwn.never rfl (pi_range1 (by rfl) B.range (pa_cons (pv 1) pa_nil)) (pg_name (i := 4) nd rfl (.inl rfl)) (pss_cons (ps_set (i := 3) nd rfl (.inl rfl) (pe_op op_mod (pe_callTy call_int1 (by rfl) B.int (by decide +kernel) (pa_cons (pe_op op_add (pe_op op_add (pe_op op_mul (pv 3) (pe_int)) (pv 4)) (pe_int)) pa_nil)) (pe_int)))
      (pss_one (ps_expr (pe_bm PySem.F.plainAttrs_list PySem.F.slot_list_append PySem.F.type_list_append mt_append (pv 2) (pa_cons (pe_op op_mod (pe_callTy call_int1 (by rfl) B.int (by decide +kernel) (pa_cons (pv 3) pa_nil)) (pe_int)) pa_nil))))))
      (pss_one (ps_ret (pe_slice sl_list (pv 2) po_none (po_some (pv 1))))))))), ?_⟩
    refine ⟨Nat.zero_le _, fun l nl => ?_⟩
    have big : 100000 ≤ sizeLine := by
      rw [sizeLine_eq]
      decide
    let Iv : Nat → L2.St → Hp → Prop := fun n σ H' => ∃ (mixed : Int) (ds : List Int) (y4 y5 y6 y7 : Option V), σ = [some (.ref a), some (.int ((m : Nat) : Int)), some (.ref l), some (.int mixed), y4, y5, y6, y7] ∧ Same H H' ∧ H' l = some (.lst (ds.map V.int)) ∧ ds.length ≤ n ∧ 0 ≤ mixed ∧ mixed < 65537
    have h65 : ∀ x : Int, 0 ≤ x % 65537 ∧ x % 65537 < 65537 := fun x => ⟨Int.emod_nonneg x (by decide), Int.emod_lt_of_pos x (by decide)⟩
    refine ⟨_, rfl, a, ns.map V.int, rfl, .inl ((same_new nl).seq hS), ?_⟩
    rw [List.length_map]
    refine ⟨_, rfl, by omega, by omega, for_range (fun i σ H' => Iv (62 * i) σ H') ⟨7, [], none, none, none, none, rfl, same_new nl, upd_same, Nat.le_refl 0, by decide, by decide⟩ (fun i σ H1 hi h1 => ?_) (fun σ H1 h1 => ?_)⟩
    · obtain ⟨mixed, ds, y4, y5, y6, y7, rfl, g, el, dl, m0, m1⟩ := h1
      have hi2 : i < ns.length := by omega
      have hg : (ns.map V.int)[i]? = some (.int ns[i]) := by
        rw [List.getElem?_map, List.getElem?_eq_getElem hi2]
        rfl
      rw [Int.zero_add]
      refine ⟨_, rfl, _, rfl, a, _, _, _, rfl, rfl, g.seq hS, atI_nat (j := i) hg, .inl ⟨_, rfl, _, rfl, ?_⟩⟩
      generalize (if ns[i] < 0 then -ns[i] else ns[i]) = c
      refine ⟨_, rfl, _, _, rfl, rfl, .inl ⟨by omega, by omega⟩, _, rfl, _, _, rfl, rfl, (show (0 : Int) < 1000003 by decide), _, _, rfl, rfl, _, rfl, _, _, rfl, rfl, .inl ⟨_, rfl, _, _, rfl, rfl, (show (0 : Int) < 65537 by decide), ?_⟩⟩
      have mx := h65 (mixed * 48271 + c % 1000003 + ((i : Nat) : Int))
      -- behind the if: what the loop over 60 turns asks
      refine ⟨fun σ H2 => ∃ (ds : List Int) (rest : Int) (y7 : Option V), σ = [some (.ref a), some (.int ((m : Nat) : Int)), some (.ref l), some (.int ((mixed * 48271 + c % 1000003 + ((i : Nat) : Int)) % 65537)), some (.int ((i : Nat) : Int)), some (.int c), some (.int rest), y7] ∧ Same H H2 ∧ H2 l = some (.lst (ds.map V.int)) ∧ ds.length ≤ 62 * i + 2, ?_, ?_⟩
      · refine ⟨_, rfl, _, _, rfl, rfl, ⟨by decide, by decide, by decide⟩, _, _, rfl, rfl, _, rfl, ite2 (fun a1 => ?_) (fun a1 => ?_)⟩
        · exact ⟨_, rfl, ds, c, _, rfl, g, el, by omega⟩
        · refine ⟨_, rfl, .inl ⟨rfl, _, SqL.of el⟩, _, rfl, .inl ⟨_, rfl, _, _, rfl, rfl, (show (0 : Int) < 997 by decide), l, _, _, rfl, rfl, el, ?_, ?_⟩⟩
          · rw [List.length_map]
            omega
          · rw [ap_int]
            refine ⟨_, rfl, .inl ⟨rfl, _, SqL.of upd_same⟩, _, rfl, _, _, rfl, rfl, .inl ⟨by omega, by omega⟩, _, _, rfl, rfl, .inl ⟨_, rfl, _, _, rfl, rfl, (show (0 : Int) < 65521 by decide), _, _, rfl, rfl, (show (0 : Int) < 997 by decide), l, _, _, rfl, rfl, upd_same, ?_, ?_⟩⟩
            · rw [List.length_map, List.length_append]
              show ds.length + 1 < sizeLine
              omega
            · rw [ap_int]
              refine ⟨_, 0, _, rfl, same_put (same_put g nl) nl, upd_same, ?_⟩
              rw [List.length_append, List.length_append]
              show ds.length + 1 + 1 ≤ _
              omega
      · rintro σ H2 ⟨ds, rest, y7, rfl, g, el, dl⟩
        refine ⟨_, rfl, by decide, by decide, for_range (fun j σ H3 => ∃ (ds : List Int) (rest : Int) (y7 : Option V), σ = [some (.ref a), some (.int ((m : Nat) : Int)), some (.ref l), some (.int ((mixed * 48271 + c % 1000003 + ((i : Nat) : Int)) % 65537)), some (.int ((i : Nat) : Int)), some (.int c), some (.int rest), y7] ∧ Same H H3 ∧ H3 l = some (.lst (ds.map V.int)) ∧ ds.length ≤ 62 * i + 2 + j)
          ⟨ds, rest, y7, rfl, g, el, dl⟩ (fun j σ H3 hj h3 => ?_) (fun σ H3 h3 => ?_)⟩
        · obtain ⟨ds, rest, y7, rfl, g, el, dl⟩ := h3
          have hj2 : j < 60 := hj
          refine ⟨_, rfl, _, _, rfl, rfl, _, rfl, ite2 (fun a1 => ?_) (fun a1 => ?_)⟩
          · refine ⟨_, rfl, .inl ⟨rfl, _, SqL.of el⟩, _, rfl, .inl ⟨_, rfl, _, _, rfl, rfl, (show (0 : Int) < 997 by decide), l, _, _, rfl, rfl, el, ?_, ?_⟩⟩
            · rw [List.length_map]
              omega
            · rw [ap_int]
              refine ⟨_, rfl, _, _, rfl, rfl, ⟨by decide, by decide⟩, _, _, _, rfl, same_put g nl, upd_same, ?_⟩
              rw [List.length_append]
              show ds.length + 1 ≤ _
              omega
          · exact ⟨ds, rest, _, rfl, g, el, by omega⟩
        · obtain ⟨ds, rest, y7, rfl, g, el, dl⟩ := h3
          have dl2 : ds.length ≤ 62 * i + 2 + 60 := dl
          exact ⟨_, ds, _, _, _, _, rfl, g, el, by omega, mx.1, mx.2⟩
    · obtain ⟨mixed, ds, y4, y5, y6, y7, rfl, g, el, dl, m0, m1⟩ := h1
      have dl2 : ds.length ≤ 4000 := by omega
      refine ⟨_, rfl, _, rfl, by omega, by omega, for_range (fun j σ H2 => Iv (4000 + j) σ H2) ⟨mixed, ds, y4, y5, y6, y7, rfl, g, el, by omega, m0, m1⟩ (fun j σ H2 hj h2 => ?_) (fun σ H2 h2 => ?_)⟩
      · obtain ⟨mixed, ds, y4, y5, y6, y7, rfl, g, el, dl, m0, m1⟩ := h2
        have hj2 : j < m := by omega
        refine ⟨_, rfl, _, _, rfl, rfl, .inl ⟨by omega, by omega⟩, _, rfl, _, _, rfl, rfl, _, _, rfl, rfl, .inl ⟨_, rfl, _, _, rfl, rfl, (show (0 : Int) < 65537 by decide), ?_⟩⟩
        have mx := h65 (mixed * 16807 + (0 + ((j : Nat) : Int)) + 1)
        refine ⟨_, rfl, .inl ⟨rfl, _, SqL.of el⟩, _, rfl, .inl ⟨_, rfl, _, _, rfl, rfl, (show (0 : Int) < 997 by decide), l, _, _, rfl, rfl, el, ?_, ?_⟩⟩
        · rw [List.length_map]
          omega
        · rw [ap_int]
          refine ⟨_, _, _, _, _, _, rfl, same_put g nl, upd_same, ?_, mx.1, mx.2⟩
          rw [List.length_append]
          show ds.length + 1 ≤ _
          omega
      · obtain ⟨mixed, ds, y4, y5, y6, y7, rfl, g, el, dl, m0, m1⟩ := h2
        have dl3 : ds.length ≤ 5000 := by omega
        refine ⟨_, rfl, _, rfl, _, rfl, l, _, rfl, SqL.of el, fun p np => ?_⟩
        obtain ⟨es, e1, e2⟩ := cut_ints ds none (some ((m : Nat) : Int))
        rw [e1]
        exact q _ p es (fun b o e => same_new np b o (g b o e)) (g.free np) upd_same (by omega)
end
/-- the law's world: its draws and how many are taken -/
def wdL (l : Addr) (n : Int) : List (Key × V) := [(.inr ("draws" : Str), .ref l), (.inr ("at" : Str), .int n)]
theorem wd_draws (l : Addr) (n : Int) : valV (wdL l n) (.inr "draws") = some (.ref l) := valV_pos rfl
theorem wd_at (l : Addr) (n : Int) : valV (wdL l n) (.inr "at") = some (.int n) := (valV_neg (show ¬ (Sum.inr ("draws" : Str) : Key) = Sum.inr ("at" : Str) by decide)).trans (valV_pos rfl)
theorem wd_put (l : Addr) (n k : Int) : putK (wdL l n) (.inr ("at" : Str)) (.int k) = wdL l k := by
  have h1 : ¬ (Sum.inr ("draws" : Str) : Key) = Sum.inr ("at" : Str) := by decide
  unfold putK wdL
  simp [h1]
theorem get_draws {H : Hp} {a l : Addr} {n : Int} (h : H a = some (.dK (wdL l n))) : DGet H a (.str "draws") (some (.ref l)) := by
  have g := DGet.k (k := .inr "draws") h
  rw [wd_draws] at g
  exact g
theorem get_at {H : Hp} {a l : Addr} {n : Int} (h : H a = some (.dK (wdL l n))) : DGet H a (.str "at") (some (.int n)) := by
  have g := DGet.k (k := .inr "at") h
  rw [wd_at] at g
  exact g
theorem put_at {H : Hp} {a l : Addr} {n k : Int} (h : H a = some (.dK (wdL l n))) : DPut H a (.str "at") (.int k) (upd H a (.dK (wdL l k))) := by
  have g := DPut.k (k := .inr "at") (v := .int k) h (by rw [sizeLine_eq]; exact (by decide : 2 < 16777216))
  rw [wd_put] at g
  exact g
structure Wd (H : Hp) (a l : Addr) (ds : List Int) : Prop where
  at' : ∃ n : Int, 0 ≤ n ∧ H a = some (.dK (wdL l n))
  dr : H l = some (.lst (ds.map V.int))
  len : ds.length ≤ 10000
/-- all but the world at a is as it was -/
def Kp (a : Addr) (H H' : Hp) : Prop := ∀ b o, b ≠ a → H b = some o → H' b = some o
section
variable {a l : Addr} {ds : List Int} {H H1 H2 : Hp}
theorem Kp.refl (H : Hp) : Kp a H H := fun _ _ _ e => e
theorem Kp.trans (x : Kp a H H1) (y : Kp a H1 H2) : Kp a H H2 := fun b o n e => y b o n (x b o n e)
theorem Wd.ne (W : Wd H a l ds) : l ≠ a := by
  obtain ⟨n, _, e⟩ := W.at'
  exact ne_of W.dr e (by intro z; cases z)
theorem Kp.new {p : Addr} {o : HO} (n : H p = none) : Kp a H (upd H p o) := fun b u _ e => by
  rw [upd_ne (ne_of_none e n)]
  exact e
theorem Wd.new (W : Wd H a l ds) {p : Addr} {o : HO} (n : H p = none) : Wd (upd H p o) a l ds := by
  obtain ⟨k, k0, e⟩ := W.at'
  refine ⟨⟨k, k0, ?_⟩, ?_, W.len⟩
  · rw [upd_ne (ne_of_none e n)]
    exact e
  · rw [upd_ne (ne_of_none W.dr n)]
    exact W.dr
theorem Kp.step {o : HO} : Kp a H (upd H a o) := fun b u n e => by
  rw [upd_ne n]
  exact e
theorem Wd.step (W : Wd H a l ds) {n : Int} (h : 0 ≤ n) : Wd (upd H a (.dK (wdL l n))) a l ds := by
  refine ⟨⟨n, h, upd_same⟩, ?_, W.len⟩
  rw [upd_ne W.ne]
  exact W.dr
theorem Wd.fresh (W : Wd H a l ds) {p : Addr} (n : H p = none) : p ≠ a := fun z => by
  obtain ⟨k, _, e⟩ := W.at'
  rw [z, e] at n
  cases n
end
section
variable {P : Program} {w : World} {K : PySem.W.Frag} {mg : Str → Option Value} {base : Heap}
def spNext : Sp := fun vs H Q _ => ∃ (a l : Addr) (ds : List Int) (m : Int), vs = [.ref a, .int m] ∧ 0 < m ∧ Wd H a l ds ∧ ∀ (r : Nat) H', ((r : Nat) : Int) < m → Kp a H H' → (∀ b, b ≠ a → H' b = H b) → Wd H' a l ds → Q (.int ((r : Nat) : Int)) H'
theorem ok_next {f : Addr} {fd : FuncData} (F : Fun K "_law_next" "_law_next" sNext f fd) (B : Bl mg) : FnOk P w K mg base CX0 1 f fd ["w", "many"] spNext := by
  refine F.ok scNext (fun vs H Q E h => ?_) (fun cdv A outer s H vs Q E hr h => ?_)
  · obtain ⟨a, l, ds, m, rfl, _⟩ := h
    rfl
  · obtain ⟨a, l, ds, m, rfl, hm, W, q⟩ := h
    have hu := hu_of hr
    refine ⟨_, pss_cons (ps_daug hu (pv 0) pe_str pe_int in_add (fun _ _ _ => rfl))
      (pss_cons (ps_if (pt_cmpR op_gt (pe_dget hu (pv 0) pe_str (fun _ _ => rfl)) (pe_callB call_len_seq (by rfl) B.len PySem.boot_len (pa_cons (pe_dget hu (pv 0) pe_str (fun _ _ => rfl)) pa_nil)) (nomark _)) (pss_one (ps_ret pe_int)) pss_nil)
      (pss_one (ps_ret (pe_op op_mod (pe_callTy call_int1 (by rfl) B.int (by decide +kernel) (pa_cons (pe_ix ix_list (pe_dget hu (pv 0) pe_str (fun _ _ => rfl)) (pe_op op_sub (pe_dget hu (pv 0) pe_str (fun _ _ => rfl)) pe_int) (fun _ _ => rfl)) pa_nil)) (pv 1))))), ?_⟩
    obtain ⟨n, n0, e⟩ := W.at'
    refine ⟨_, rfl, a, _, rfl, get_at e, _, _, rfl, rfl, _, put_at e, ?_⟩
    have W1 : Wd (upd H a (.dK (wdL l (n + 1)))) a l ds := W.step (by omega)
    have e1 : (upd H a (.dK (wdL l (n + 1)))) a = some (.dK (wdL l (n + 1))) := upd_same
    refine ⟨_, rfl, a, _, rfl, get_at e1, _, rfl, a, _, rfl, get_draws e1, l, _, rfl, .inl (SqL.of W1.dr), _, _, rfl, rfl, _, rfl, ite2 (fun a1 => ?_) (fun a1 => ?_)⟩
    · exact q 0 _ hm Kp.step (fun b hb => upd_ne hb) W1
    · have b1 : ¬ ((ds.map V.int).length : Int) < n + 1 := fun z => a1 (decide_eq_true z)
      rw [List.length_map] at b1
      obtain ⟨j, ej⟩ : ∃ j : Nat, n + 1 - 1 = ((j : Nat) : Int) := ⟨n.toNat, by omega⟩
      have hj : j < ds.length := by omega
      have hg : (ds.map V.int)[j]? = some (.int ds[j]) := by
        rw [List.getElem?_map, List.getElem?_eq_getElem hj]
        rfl
      refine ⟨_, rfl, a, _, rfl, get_draws e1, _, rfl, a, _, rfl, get_at e1, _, _, rfl, rfl, l, _, _, .int ds[j], rfl, rfl, SqL.of W1.dr, ?_, .inl ⟨_, rfl, _, rfl, _, _, rfl, rfl, hm, ?_⟩⟩
      · rw [ej]
        exact atI_nat (j := j) hg
      · have z0 := Int.emod_nonneg ds[j] (show m ≠ 0 by omega)
        have z1 := Int.emod_lt_of_pos ds[j] hm
        obtain ⟨r, er⟩ : ∃ r : Nat, ds[j] % m = ((r : Nat) : Int) := ⟨(ds[j] % m).toNat, by omega⟩
        show Q (.int (ds[j] % m)) _
        rw [er]
        exact q r _ (by omega) Kp.step (fun b hb => upd_ne hb) W1
end
/-! data without lists: it stays where tuples stay -/
mutual
def noL : PyData → Bool
  | .list _ => false
  | .dict _ => false
  | .tuple ds => noLs ds
  | _ => true
def noLs : List PyData → Bool
  | [] => true
  | d :: ds => noL d && noLs ds
end
mutual
theorem dp_stay {K : PySem.W.Frag} {H H' : Hp} (st : ∀ a xs, SqT K H a xs → SqT K H' a xs) : ∀ (d : PyData) (v : V), Dp K H v d → noL d = true → Dp K H' v d
  | .none, _, h, _ => by cases h; exact .non
  | .bool _, _, h, _ => by cases h; exact .bl _
  | .int _, _, h, _ => by cases h; exact .int _
  | .str _, _, h, _ => by cases h; exact .str _
  | .list _, _, _, n => by cases n
  | .dict _, _, _, n => by cases n
  | .tuple ds, _, h, n => by
    cases h with
    | tup s a => exact .tup (st _ _ s) (dps_stay st ds _ a n)
theorem dps_stay {K : PySem.W.Frag} {H H' : Hp} (st : ∀ a xs, SqT K H a xs → SqT K H' a xs) : ∀ (ds : List PyData) (vs : List V), DpAll K H vs ds → noLs ds = true → DpAll K H' vs ds
  | [], _, h, _ => by cases h; exact .nil
  | d :: ds, _, h, n => by
    cases h with
    | cons a b =>
      have n2 : (noL d && noLs ds) = true := n
      rw [Bool.and_eq_true] at n2
      exact .cons (dp_stay st d _ a n2.1) (dps_stay st ds _ b n2.2)
end
theorem noLs_app : ∀ (a b : List PyData), noLs (a ++ b) = (noLs a && noLs b)
  | [], b => rfl
  | d :: a, b => by
    show (noL d && noLs (a ++ b)) = ((noL d && noLs a) && noLs b)
    rw [noLs_app a b, Bool.and_assoc]
theorem dps_app {K : PySem.W.Frag} {H : Hp} : ∀ {vs : List V} {ds : List PyData} {us : List V} {es : List PyData}, DpAll K H vs ds → DpAll K H us es → DpAll K H (vs ++ us) (ds ++ es)
  | _, _, _, _, .nil, h => h
  | _, _, _, _, .cons a b, h => .cons a (dps_app b h)
theorem dps_len {K : PySem.W.Frag} {H : Hp} : ∀ {vs : List V} {ds : List PyData}, DpAll K H vs ds → vs.length = ds.length
  | _, _, .nil => rfl
  | _, _, .cons _ b => by rw [List.length_cons, List.length_cons, dps_len b]
/-- a new object at p, the list at l grown: tuples stay -/
theorem tups_upd {K : PySem.W.Frag} {H : Hp} {l : Addr} {xs : List V} {o : HO} (e : H l = some (.lst xs)) : ∀ a ys, SqT K H a ys → SqT K (upd H l o) a ys := fun a ys h => by
  rcases h with (h | ⟨u, h⟩) | h
  · refine .inl (.inl ?_)
    rw [upd_ne (ne_of h e (by intro z; cases z))]
    exact h
  · refine .inl (.inr ⟨u, ?_⟩)
    rw [upd_ne (ne_of h e (by intro z; cases z))]
    exact h
  · exact .inr h
end C1
/-! Circuits as drawn: the data, what stands of them, small rules. -/
namespace C1
open PySem PySem.Spec PyProof.Rows L2 SX
theorem dps_get {K : PySem.W.Frag} {H : Hp} : ∀ {vs : List V} {ds : List PyData} {i : Nat} {x : V}, DpAll K H vs ds → vs[i]? = some x → ∃ d, ds[i]? = some d ∧ Dp K H x d
  | _, _, _, _, .nil, h => by simp at h
  | _, _, 0, _, .cons a _, h => by
    have e := Option.some.inj h
    subst e
    exact ⟨_, rfl, a⟩
  | _, _, i + 1, _, .cons _ b, h => dps_get (i := i) b h
def LayAll (F : List PyData) : Prop := ∀ d ∈ F, PyData.canLay0 d = true ∧ PyData.depth d ≤ 5
theorem shaped_list : ∀ (F : List PyData), LayAll F → SeqAt.shaped (.list F) = true := by
  have h1 : ∀ F : List PyData, LayAll F → PyData.canLayAll0 F = true ∧ PyData.depthAll F ≤ 5 := by
    intro F
    induction F with
    | nil => exact fun _ => ⟨rfl, Nat.zero_le _⟩
    | cons d F ih =>
      intro h
      obtain ⟨a, b⟩ := ih fun x hx => h x (List.mem_cons_of_mem _ hx)
      obtain ⟨c, e⟩ := h d (List.mem_cons_self ..)
      refine ⟨?_, ?_⟩
      · show (PyData.canLay0 d && PyData.canLayAll0 F) = true
        rw [c, a]
        rfl
      · show max (PyData.depth d) (PyData.depthAll F) ≤ 5
        exact Nat.max_le.mpr ⟨e, b⟩
  intro F h
  obtain ⟨a, b⟩ := h1 F h
  unfold SeqAt.shaped
  rw [Bool.and_eq_true]
  refine ⟨a, decide_eq_true ?_⟩
  show PyData.depthAll F + 1 ≤ 64
  omega
/-! ### numbers -/
abbrev iV (k : Nat) : V := .int ((k : Nat) : Int)
abbrev iD (k : Nat) : PyData := .int ((k : Nat) : Int)
def pr (p : Nat × Nat) : PyData := .tuple [iD p.1, iD p.2]
inductive Row
  | lit (v w : Nat) | reg (i : Nat) | look (m a : Nat) | inv (a : Nat) | wide (a w : Nat) | part (a lo hi : Nat) | join (a b : Nat) | op (s : Str) (a b : Nat) | pick (t a b : Nat)
def Row.d : Row → PyData
  | .lit v w => .tuple [.str "lit", iD v, iD w]
  | .reg i => .tuple [.str "reg", iD i]
  | .look m a => .tuple [.str "look", iD m, iD a]
  | .inv a => .tuple [.str "not", iD a]
  | .wide a w => .tuple [.str "wide", iD a, iD w]
  | .part a lo hi => .tuple [.str "part", iD a, iD lo, iD hi]
  | .join a b => .tuple [.str "join", iD a, iD b]
  | .op s a b => .tuple [.str "op", .str s, iD a, iD b]
  | .pick t a b => .tuple [.str "pick", iD t, iD a, iD b]
def arithL : List Str := ["+", "-", "*", "&", "|", "^"]
def testL : List Str := ["==", "<"]
def shiftL : List Str := ["<<", ">>"]
/-- what the law draws: a row behind rows of these widths, and its width -/
inductive RowOk (regs mems : List (Nat × Nat)) (ws : List Nat) : Row → Nat → Prop
  | lit {v w : Nat} : v < 2 ^ w → RowOk regs mems ws (.lit v w) w
  | reg {i w f : Nat} : regs[i]? = some (w, f) → RowOk regs mems ws (.reg i) w
  | look {m a b w : Nat} : mems[m]? = some (b, w) → ws[a]? = some b → RowOk regs mems ws (.look m a) w
  | inv {a w : Nat} : ws[a]? = some w → RowOk regs mems ws (.inv a) w
  | wide {a x w : Nat} : ws[a]? = some x → RowOk regs mems ws (.wide a w) w
  | part {a x lo hi : Nat} : ws[a]? = some x → lo ≤ hi → hi < x → RowOk regs mems ws (.part a lo hi) (hi - lo + 1)
  | join {a b x y : Nat} : ws[a]? = some x → ws[b]? = some y → RowOk regs mems ws (.join a b) (x + y)
  | shift {s : Str} {a b x y : Nat} : s ∈ shiftL → ws[a]? = some x → ws[b]? = some y → RowOk regs mems ws (.op s a b) x
  | arith {s : Str} {a b x : Nat} : s ∈ arithL → ws[a]? = some x → ws[b]? = some x → RowOk regs mems ws (.op s a b) x
  | test {s : Str} {a b x : Nat} : s ∈ testL → ws[a]? = some x → ws[b]? = some x → RowOk regs mems ws (.op s a b) 1
  | pick {t a b x : Nat} : ws[t]? = some 1 → ws[a]? = some x → ws[b]? = some x → RowOk regs mems ws (.pick t a b) x
def RegsOk (regs : List (Nat × Nat)) : Prop := ∀ p ∈ regs, 1 ≤ p.1 ∧ p.1 ≤ 5 ∧ p.2 < 2 ^ p.1
def MemsOk (mems : List (Nat × Nat)) : Prop := ∀ p ∈ mems, 1 ≤ p.1 ∧ p.1 ≤ 2 ∧ 1 ≤ p.2 ∧ p.2 ≤ 4
def WsOk (ws : List Nat) : Prop := ∀ x ∈ ws, 1 ≤ x ∧ x ≤ 12
/-! ### rows that fit some test, by their places -/
def fits (ws : List Nat) (x : Nat) (n : Nat) : List Nat := (List.range n).filter fun k => decide (ws[k]? = some x)
theorem fits_zero (ws : List Nat) (x : Nat) : fits ws x 0 = [] := rfl
theorem fits_yes {ws : List Nat} {x i : Nat} (h : ws[i]? = some x) : fits ws x (i + 1) = fits ws x i ++ [i] := by
  unfold fits
  rw [List.range_succ, List.filter_append, List.filter_cons_of_pos (by simp [h])]
  rfl
theorem fits_no {ws : List Nat} {x i : Nat} (h : ¬ ws[i]? = some x) : fits ws x (i + 1) = fits ws x i := by
  unfold fits
  rw [List.range_succ, List.filter_append, List.filter_cons_of_neg (by simp [h])]
  simp
theorem fits_len (ws : List Nat) (x n : Nat) : (fits ws x n).length ≤ n := by
  unfold fits
  exact Nat.le_trans (List.length_filter_le _ _) (by rw [List.length_range]; exact Nat.le_refl n)
theorem fits_mem {ws : List Nat} {x n k : Nat} : k ∈ fits ws x n ↔ k < n ∧ ws[k]? = some x := by
  unfold fits
  rw [List.mem_filter, List.mem_range]
  simp
theorem fits_at {ws : List Nat} {x n r k : Nat} (h : (fits ws x n)[r]? = some k) : k < n ∧ ws[k]? = some x := fits_mem.mp (List.mem_of_getElem? h)
/-! ### data -/
theorem cL_int : ∀ ks : List Nat, LayAll (ks.map iD) := fun ks d h => by
  obtain ⟨k, _, e⟩ := List.mem_map.mp h
  subst e
  exact ⟨rfl, Nat.zero_le _⟩
theorem cL_pr : ∀ ps : List (Nat × Nat), LayAll (ps.map pr) := fun ps d h => by
  obtain ⟨⟨x, y⟩, _, e⟩ := List.mem_map.mp h
  subst e
  refine ⟨rfl, ?_⟩
  unfold pr
  simp [PyData.depth, PyData.depthAll]
theorem eqv_nil (xs : List PyData) : PyData.eqv (.list xs) (.list []) = xs.isEmpty := by
  cases xs with
  | nil => rfl
  | cons x r => rfl
theorem dps_ints {K : PySem.W.Frag} {H : Hp} : ∀ ks : List Nat, DpAll K H (ks.map iV) (ks.map iD)
  | [] => .nil
  | k :: ks => .cons (.int _) (dps_ints ks)
theorem dps_put {K : PySem.W.Frag} {H : Hp} : ∀ {vs : List V} {ds : List PyData} {i : Nat} {d : PyData}, DpAll K H vs ds → ds[i]? = some d → ∃ x, vs[i]? = some x ∧ Dp K H x d
  | _, _, _, _, .nil, h => by simp at h
  | _, _, 0, _, .cons a _, h => by
    have e := Option.some.inj h
    subst e
    exact ⟨_, rfl, a⟩
  | _, _, i + 1, _, .cons _ b, h => dps_put (i := i) b h
theorem pr_at {K : PySem.W.Frag} {H : Hp} {vs : List V} {ps : List (Nat × Nat)} {i : Nat} {p : Nat × Nat} (h : DpAll K H vs (ps.map pr)) (e : ps[i]? = some p) : ∃ b, vs[i]? = some (.ref b) ∧ SqT K H b [iV p.1, iV p.2] := by
  obtain ⟨x, hx, hd⟩ := dps_put h (show (ps.map pr)[i]? = some (pr p) by rw [List.getElem?_map, e]; rfl)
  unfold pr at hd
  cases hd with
  | tup s a =>
    cases a with
    | cons a1 a =>
      cases a with
      | cons a2 a =>
        cases a
        cases a1
        cases a2
        exact ⟨_, hx, s⟩
theorem noLs_pr : ∀ ps : List (Nat × Nat), noLs (ps.map pr) = true
  | [] => rfl
  | p :: ps => by
    show (noL (pr p) && noLs (ps.map pr)) = true
    rw [noLs_pr ps]
    rfl
theorem int_at {ks : List Nat} {i k : Nat} (h : ks[i]? = some k) : (ks.map iV)[i]? = some (iV k) := by
  rw [List.getElem?_map, h]
  rfl
/-- tuples stay where all but the dict at a stays -/
theorem kp_tup {K : PySem.W.Frag} {a : Addr} {H H' : Hp} {kvs : List (Key × V)} (e : H a = some (.dK kvs)) (k : Kp a H H') : ∀ b xs, SqT K H b xs → SqT K H' b xs := fun b xs h => by
  have ne : ∀ {o : HO}, H b = some o → (∀ k2, o ≠ .dK k2) → b ≠ a := fun h1 h2 z => by
    subst z
    rw [e] at h1
    cases h1
    exact h2 _ rfl
  rcases h with (h | ⟨u, h⟩) | h
  · exact .inl (.inl (k b _ (ne h (by intro _ z; cases z)) h))
  · exact .inl (.inr ⟨u, k b _ (ne h (by intro _ z; cases z)) h⟩)
  · exact .inr h
def cdL (rl ml : Addr) : List (Key × V) := [(.inr ("registers" : Str), .ref rl), (.inr ("memories" : Str), .ref ml)]
structure CD (K : PySem.W.Frag) (H : Hp) (c rl ml : Addr) (regs mems : List (Nat × Nat)) : Prop where
  c0 : H c = some (.dK (cdL rl ml))
  r0 : ∃ rvs, H rl = some (.lst rvs) ∧ DpAll K H rvs (regs.map pr)
  m0 : ∃ mvs, H ml = some (.lst mvs) ∧ DpAll K H mvs (mems.map pr)
theorem wd_ne {H : Hp} {a l c rl ml : Addr} {ds : List Int} (W : Wd H a l ds) (h : H c = some (.dK (cdL rl ml))) : c ≠ a := fun z => by
  obtain ⟨n, _, e⟩ := W.at'
  subst z
  rw [e] at h
  have h2 := Option.some.inj h
  unfold wdL cdL at h2
  injection h2 with h3
  injection h3 with h4 h5
  injection h4 with h6 h7
  injection h6 with h8
  revert h8
  decide
theorem wd_lne {H : Hp} {a l b : Addr} {ds : List Int} {xs : List V} (W : Wd H a l ds) (h : H b = some (.lst xs)) : b ≠ a := fun z => by
  obtain ⟨n, _, e⟩ := W.at'
  subst z
  rw [e] at h
  cases h
theorem CD.kp {K : PySem.W.Frag} {H H' : Hp} {a l c rl ml : Addr} {ds : List Int} {regs mems : List (Nat × Nat)} (C : CD K H c rl ml regs mems) (W : Wd H a l ds) (k : Kp a H H') : CD K H' c rl ml regs mems := by
  obtain ⟨n, _, e⟩ := W.at'
  obtain ⟨rvs, r1, r2⟩ := C.r0
  obtain ⟨mvs, m1, m2⟩ := C.m0
  exact ⟨k c _ (wd_ne W C.c0) C.c0, ⟨rvs, k rl _ (wd_lne W r1) r1, dps_stay (kp_tup e k) _ _ r2 (noLs_pr _)⟩, ⟨mvs, k ml _ (wd_lne W m1) m1, dps_stay (kp_tup e k) _ _ m2 (noLs_pr _)⟩⟩
theorem cd_regs {H : Hp} {c rl ml : Addr} (h : H c = some (.dK (cdL rl ml))) : DGet H c (.str "registers") (some (.ref rl)) := by
  have g := DGet.k (k := .inr "registers") h
  rw [show valV (cdL rl ml) (.inr "registers") = some (.ref rl) from valV_pos rfl] at g
  exact g
theorem cd_mems {H : Hp} {c rl ml : Addr} (h : H c = some (.dK (cdL rl ml))) : DGet H c (.str "memories") (some (.ref ml)) := by
  have g := DGet.k (k := .inr "memories") h
  rw [show valV (cdL rl ml) (.inr "memories") = some (.ref ml) from (valV_neg (show ¬ (Sum.inr ("registers" : Str) : Key) = Sum.inr ("memories" : Str) by decide)).trans (valV_pos rfl)] at g
  exact g
end C1
/-! The law's row. -/
namespace C1
open PySem PySem.Spec PyProof.Rows L2 SX
abbrev NR : List Str := ["w", "c", "widths", "turn", "width", "at", "a", "fitting", "low", "high", "b", "same", "tests", "sign", "m", "k"]
theorem scRow : FnScope NR ["w", "c", "widths"] (defScope sRow) := ⟨rfl, rfl, rfl, by decide +kernel, rfl, by decide +kernel, by decide +kernel⟩
section
variable {P : Program} {w : World} {K : PySem.W.Frag} {mg : Str → Option Value} {base : Heap}
def spRow (K : PySem.W.Frag) : Sp := fun vs H Q _ => ∃ (a l c rl ml wl : Addr) (ds : List Int) (regs mems : List (Nat × Nat)) (ws : List Nat), vs = [.ref a, .ref c, .ref wl] ∧ Wd H a l ds ∧ CD K H c rl ml regs mems ∧ H wl = some (.lst (ws.map iV)) ∧
  RegsOk regs ∧ MemsOk mems ∧ WsOk ws ∧ regs.length ≤ 10 ∧ mems.length ≤ 10 ∧ ws.length ≤ 100 ∧
  ∀ (H' : Hp) (p q : Addr) (row : Row) (wd : Nat), Kp a H H' → Wd H' a l ds → H' p = some (.tup [.ref q, iV wd]) → Dp K H' (.ref q) row.d → RowOk regs mems ws row wd → 1 ≤ wd → wd ≤ 12 → Q (.ref p) H'
theorem ok_row {f fN : Addr} {fd fdN : FuncData} (F : Fun K "_law_row" "_law_row" sRow f fd) (GN : FnOk P w K mg base CX0 1 fN fdN ["w", "many"] spNext) (kN : PySem.W.keepIn K (.ref fN) = true) (bN : Binds K fdN ["w", "many"] []) (gN : mg "_law_next" = some (.ref fN)) (B : Bl mg) :
    FnOk P w K mg base CX0 2 f fd ["w", "c", "widths"] (spRow K) := by
  refine F.ok scRow (fun vs H Q E h => ?_) (fun cdv A outer s H vs Q E hr h => ?_)
  · obtain ⟨a, l, c, rl, ml, wl, ds, regs, mems, ws, rfl, _⟩ := h
    rfl
  · obtain ⟨a, l, c, rl, ml, wl, ds, regs, mems, ws, rfl, W, C, hwl, hR, hM, hW, lr, lm, lw, q⟩ := h
    have nd := scRow.nd
    have hu := hr.units
    have hud := hu_of hr
    refine ⟨_, (pss_cons (ps_set (i := 3) nd rfl (.inl rfl) (pe_call GN hr (by rfl) gN kN bN .nil pass0 (pa_cons (pv 0) (pa_cons (pe_int) pa_nil))))
      (pss_cons (ps_if (PW.pt (pw_or (pt_cmpR (op_eqD hu) (pv 2) (pe_lst pa_nil) (nomark _)) (pw_or1 (pt_cmpR op_eq (pv 3) (pe_int) (nomark _))))) (pss_cons (ps_set (i := 4) nd rfl (.inl rfl) (pe_op op_add (pe_int) (pe_call GN hr (by rfl) gN kN bN .nil pass0 (pa_cons (pv 0) (pa_cons (pe_int) pa_nil)))))
      (pss_one (ps_ret (pe_tup (pa_cons (pe_tup (pa_cons (pe_str) (pa_cons (pe_op op_mod (pe_call GN hr (by rfl) gN kN bN .nil pass0 (pa_cons (pv 0) (pa_cons (pe_int) pa_nil))) (pe_op op_shl pe_int (pv 4))) (pa_cons (pv 4) pa_nil)))) (pa_cons (pv 4) pa_nil)))))) pss_nil)
      (C8.pss_cut (ps_if (PW.pt (pw_and (pt_cmpR op_lt (pv 3) (pe_int) (nomark _)) (pw_and1 (pt_cmpR (op_neD hu) (pe_dget hud (pv 1) pe_str (fun _ _ => rfl)) (pe_lst pa_nil) (nomark _))))) (pss_cons (ps_set (i := 5) nd rfl (.inl rfl) (pe_call GN hr (by rfl) gN kN bN .nil pass0 (pa_cons (pv 0) (pa_cons (pe_callB call_len_seq (by rfl) B.len PySem.boot_len (pa_cons (pe_dget hud (pv 1) pe_str (fun _ _ => rfl)) pa_nil)) pa_nil))))
      (pss_one (ps_ret (pe_tup (pa_cons (pe_tup (pa_cons (pe_str) (pa_cons (pv 5) pa_nil))) (pa_cons (pe_ix ix_tup (pe_ix ix_list (pe_dget hud (pv 1) pe_str (fun _ _ => rfl)) (pv 5) (fun _ _ => rfl)) (pe_int) (fun _ _ => rfl)) pa_nil)))))) pss_nil)
      (pss_cons (ps_set (i := 6) nd rfl (.inr rfl) (pe_call GN hr (by rfl) gN kN bN .nil pass0 (pa_cons (pv 0) (pa_cons (pe_callB call_len_seq (by rfl) B.len PySem.boot_len (pa_cons (pv 2) pa_nil)) pa_nil))))
      (C8.pss_cut (ps_if (pt_cmpR op_eq (pv 3) (pe_int) (nomark _)) (pss_cons (ps_setLc (i := 7) (own := [("m", 14)]) (g := gName 14) (tt := tTest (tOp rEq (tOp (rIxT K) (tOp (rIxL K) (tDGet (tVar 1) (tC (.str "memories"))) (tVar 14)) (tC (.int 0))) (tOp (rIxL K) (tVar 2) (tVar 6)))) rfl nd rfl rfl (sw_true rfl rfl rfl (by decide +kernel)) (pi_range1 (by rfl) B.range (pa_cons (pe_callB call_len_seq (by rfl) B.len PySem.boot_len (pa_cons (pe_dget hud (pv 1) pe_str (fun _ _ => rfl)) pa_nil)) pa_nil)) (blkOk_by (N := NR) (sc := defScope sRow) (by decide +kernel)) (fun _ _ _ _ _ => pg_name (i := 14) nd rfl (.inl rfl)) (fun _ _ _ _ _ => pts_one (pt_cmpR op_eq (pe_ix ix_tup (pe_ix ix_list (pe_dget hud (pv 1) pe_str (fun _ _ => rfl)) (pv 14) (fun _ _ => rfl)) (pe_int) (fun _ _ => rfl)) (pe_ix ix_list (pv 2) (pv 6) (fun _ _ => rfl)) (nomark _))) (fun _ _ _ _ _ => pv 14))
      (pss_one (ps_if (pt_cmpR (op_neD hu) (pv 7) (pe_lst pa_nil) (nomark _)) (pss_one (ps_ret (pe_tup (pa_cons (pe_tup (pa_cons (pe_str) (pa_cons (pe_ix ix_list (pv 7) (pe_int) (fun _ _ => rfl)) (pa_cons (pv 6) pa_nil)))) (pa_cons (pe_ix ix_tup (pe_ix ix_list (pe_dget hud (pv 1) pe_str (fun _ _ => rfl)) (pe_ix ix_list (pv 7) (pe_int) (fun _ _ => rfl)) (fun _ _ => rfl)) (pe_int) (fun _ _ => rfl)) pa_nil))))) pss_nil))) pss_nil)
      (pss_cons (ps_if (pt_cmpR op_eq (pv 3) (pe_int) (nomark _)) (pss_one (ps_ret (pe_tup (pa_cons (pe_tup (pa_cons (pe_str) (pa_cons (pv 6) pa_nil))) (pa_cons (pe_ix ix_list (pv 2) (pv 6) (fun _ _ => rfl)) pa_nil))))) pss_nil)
      (pss_cons (ps_if (pt_cmpR op_eq (pv 3) (pe_int) (nomark _)) (pss_cons (ps_set (i := 4) nd rfl (.inl rfl) (pe_op op_add (pe_int) (pe_call GN hr (by rfl) gN kN bN .nil pass0 (pa_cons (pv 0) (pa_cons (pe_int) pa_nil)))))
      (pss_one (ps_ret (pe_tup (pa_cons (pe_tup (pa_cons (pe_str) (pa_cons (pv 6) (pa_cons (pv 4) pa_nil)))) (pa_cons (pv 4) pa_nil)))))) pss_nil)
      (pss_cons (ps_if (pt_cmpR op_eq (pv 3) (pe_int) (nomark _)) (pss_cons (ps_set (i := 8) nd rfl (.inl rfl) (pe_call GN hr (by rfl) gN kN bN .nil pass0 (pa_cons (pv 0) (pa_cons (pe_ix ix_list (pv 2) (pv 6) (fun _ _ => rfl)) pa_nil))))
      (pss_cons (ps_set (i := 9) nd rfl (.inl rfl) (pe_op op_add (pv 8) (pe_call GN hr (by rfl) gN kN bN .nil pass0 (pa_cons (pv 0) (pa_cons (pe_op op_sub (pe_ix ix_list (pv 2) (pv 6) (fun _ _ => rfl)) (pv 8)) pa_nil)))))
      (pss_one (ps_ret (pe_tup (pa_cons (pe_tup (pa_cons (pe_str) (pa_cons (pv 6) (pa_cons (pv 8) (pa_cons (pv 9) pa_nil))))) (pa_cons (pe_op op_add (pe_op op_sub (pv 9) (pv 8)) (pe_int)) pa_nil))))))) pss_nil)
      (pss_cons (ps_set (i := 10) nd rfl (.inl rfl) (pe_call GN hr (by rfl) gN kN bN .nil pass0 (pa_cons (pv 0) (pa_cons (pe_callB call_len_seq (by rfl) B.len PySem.boot_len (pa_cons (pv 2) pa_nil)) pa_nil))))
      (C8.pss_cut (ps_if (PW.pt (pw_and (pt_cmpR op_eq (pv 3) (pe_int) (nomark _)) (pw_and1 (pt_cmpR op_lt (pe_op op_add (pe_ix ix_list (pv 2) (pv 6) (fun _ _ => rfl)) (pe_ix ix_list (pv 2) (pv 10) (fun _ _ => rfl))) (pe_int) (nomark _))))) (pss_one (ps_ret (pe_tup (pa_cons (pe_tup (pa_cons (pe_str) (pa_cons (pv 6) (pa_cons (pv 10) pa_nil)))) (pa_cons (pe_op op_add (pe_ix ix_list (pv 2) (pv 6) (fun _ _ => rfl)) (pe_ix ix_list (pv 2) (pv 10) (fun _ _ => rfl))) pa_nil))))) pss_nil)
      (pss_cons (ps_if (pt_cmpR op_eq (pv 3) (pe_int) (nomark _)) (pss_one (ps_ret (pe_tup (pa_cons (pe_tup (pa_cons (pe_str) (pa_cons (pe_ix ix_list (pe_lst (pa_cons (pe_str) (pa_cons (pe_str) pa_nil))) (pe_call GN hr (by rfl) gN kN bN .nil pass0 (pa_cons (pv 0) (pa_cons (pe_int) pa_nil))) (fun _ _ => rfl)) (pa_cons (pv 6) (pa_cons (pv 10) pa_nil))))) (pa_cons (pe_ix ix_list (pv 2) (pv 6) (fun _ _ => rfl)) pa_nil))))) pss_nil)
      (pss_cons (ps_setLc (i := 11) (own := [("k", 15)]) (g := gName 15) (tt := tTest (tOp rEq (tOp (rIxL K) (tVar 2) (tVar 15)) (tOp (rIxL K) (tVar 2) (tVar 6)))) rfl nd rfl rfl (sw_true rfl rfl rfl (by decide +kernel)) (pi_range1 (by rfl) B.range (pa_cons (pe_callB call_len_seq (by rfl) B.len PySem.boot_len (pa_cons (pv 2) pa_nil)) pa_nil)) (blkOk_by (N := NR) (sc := defScope sRow) (by decide +kernel)) (fun _ _ _ _ _ => pg_name (i := 15) nd rfl (.inl rfl)) (fun _ _ _ _ _ => pts_one (pt_cmpR op_eq (pe_ix ix_list (pv 2) (pv 15) (fun _ _ => rfl)) (pe_ix ix_list (pv 2) (pv 6) (fun _ _ => rfl)) (nomark _))) (fun _ _ _ _ _ => pv 15))
      (pss_cons (ps_set (i := 10) nd rfl (.inl rfl) (pe_ix ix_list (pv 11) (pe_call GN hr (by rfl) gN kN bN .nil pass0 (pa_cons (pv 0) (pa_cons (pe_callB call_len_seq (by rfl) B.len PySem.boot_len (pa_cons (pv 11) pa_nil)) pa_nil))) (fun _ _ => rfl)))
      (pss_cons (ps_setLc (i := 12) (own := [("k", 15)]) (g := gName 15) (tt := tTest (tOp rEq (tOp (rIxL K) (tVar 2) (tVar 15)) (tC (.int 1)))) rfl nd rfl rfl (sw_true rfl rfl rfl (by decide +kernel)) (pi_range1 (by rfl) B.range (pa_cons (pe_callB call_len_seq (by rfl) B.len PySem.boot_len (pa_cons (pv 2) pa_nil)) pa_nil)) (blkOk_by (N := NR) (sc := defScope sRow) (by decide +kernel)) (fun _ _ _ _ _ => pg_name (i := 15) nd rfl (.inl rfl)) (fun _ _ _ _ _ => pts_one (pt_cmpR op_eq (pe_ix ix_list (pv 2) (pv 15) (fun _ _ => rfl)) (pe_int) (nomark _))) (fun _ _ _ _ _ => pv 15))
      (C8.pss_cut (ps_if (PW.pt (pw_and (pt_cmpR op_eq (pv 3) (pe_int) (nomark _)) (pw_and1 (pt_cmpR (op_neD hu) (pv 12) (pe_lst pa_nil) (nomark _))))) (pss_one (ps_ret (pe_tup (pa_cons (pe_tup (pa_cons (pe_str) (pa_cons (pe_ix ix_list (pv 12) (pe_call GN hr (by rfl) gN kN bN .nil pass0 (pa_cons (pv 0) (pa_cons (pe_callB call_len_seq (by rfl) B.len PySem.boot_len (pa_cons (pv 12) pa_nil)) pa_nil))) (fun _ _ => rfl)) (pa_cons (pv 6) (pa_cons (pv 10) pa_nil))))) (pa_cons (pe_ix ix_list (pv 2) (pv 6) (fun _ _ => rfl)) pa_nil))))) pss_nil)
      (pss_cons (ps_set (i := 13) nd rfl (.inl rfl) (pe_ix ix_list (pe_lst (pa_cons (pe_str) (pa_cons (pe_str) (pa_cons (pe_str) (pa_cons (pe_str) (pa_cons (pe_str) (pa_cons (pe_str) (pa_cons (pe_str) (pa_cons (pe_str) pa_nil))))))))) (pe_call GN hr (by rfl) gN kN bN .nil pass0 (pa_cons (pv 0) (pa_cons (pe_int) pa_nil))) (fun _ _ => rfl)))
      (pss_one (ps_ret (pe_tup (pa_cons (pe_tup (pa_cons (pe_str) (pa_cons (pv 13) (pa_cons (pv 6) (pa_cons (pv 10) pa_nil))))) (pa_cons (pe_ifExp (pt_cmpR op_in_seq (pv 13) (pe_tup (pa_cons (pe_str) (pa_cons (pe_str) pa_nil))) (by rfl)) pe_int (pe_ix ix_list (pv 2) (pv 6) (fun _ _ => rfl))) pa_nil))))))))))))))))))))), ?_⟩
    have line : ∀ n : Nat, n ≤ 200 → n ≤ sizeLine := fun n h => by
      rw [sizeLine_eq]
      omega
    have lineS : ∀ n : Nat, n ≤ 200 → n < sizeLine := fun n h => by
      rw [sizeLine_eq]
      omega
    have cw : ∀ {H2 : Hp}, Kp a H H2 → CD K H2 c rl ml regs mems := fun k => C.kp W k
    have wk : ∀ {H2 : Hp}, Kp a H H2 → H2 wl = some (.lst (ws.map iV)) := fun k => k wl _ (wd_lne W hwl) hwl
    have fin : ∀ (H1 : Hp) (vs : List V) (es : List PyData) (row : Row) (wd : Nat), Kp a H H1 → Wd H1 a l ds → row.d = .tuple es → (∀ H', DpAll K H' vs es) → RowOk regs mems ws row wd → 1 ≤ wd → wd ≤ 12 → ∀ q', H1 q' = none → ∀ p', (upd H1 q' (.tup vs)) p' = none →
        Q (.ref p') (upd (upd H1 q' (.tup vs)) p' (.tup [.ref q', iV wd])) := fun H1 vs es row wd k1 W1 er hd ho h1 h2 q' nq p' np => by
      have ne : q' ≠ p' := fun z => by
        rw [← z, upd_same] at np
        cases np
      refine q _ p' q' row wd ((k1.trans (Kp.new nq)).trans (Kp.new np)) ((W1.new nq).new np) upd_same ?_ ho h1 h2
      rw [er]
      exact .tup (SqT.of (by rw [upd_ne ne]; exact upd_same)) (hd _)
    have fin2 : ∀ (H6 : Hp) (vs : List V) (es : List PyData) (row : Row) (wd : Nat) (q' : Addr), Kp a H H6 → Wd H6 a l ds → H6 q' = some (.tup vs) → row.d = .tuple es → (∀ H', DpAll K H' vs es) → RowOk regs mems ws row wd → 1 ≤ wd → wd ≤ 12 → ∀ p', H6 p' = none →
        Q (.ref p') (upd H6 p' (.tup [.ref q', iV wd])) := fun H6 vs es row wd q' k1 W1 eq' er hd ho h1 h2 p' np => by
      refine q _ p' q' row wd (k1.trans (Kp.new np)) (W1.new np) upd_same ?_ ho h1 h2
      rw [er]
      exact .tup (SqT.of (by rw [upd_ne (ne_of_none eq' np)]; exact eq')) (hd _)
    have two : ∀ n : Nat, (1 : Int) * 2 ^ (((n : Nat) : Int)).toNat = ((2 ^ n : Nat) : Int) := fun n => by
      rw [Int.toNat_natCast, Int.one_mul, Int.natCast_pow]
      rfl
    refine ⟨_, rfl, a, l, ds, 12, rfl, by decide, W, fun r H1 hr1 k1 _ W1 => ?_⟩
    refine ⟨_, rfl, Nat.zero_le _, fun z nz => ?_⟩
    have k2 := k1.trans (Kp.new (o := .lst []) nz)
    have W2 := W1.new (o := .lst []) nz
    refine ⟨.list (ws.map iD), .list [], .lst (SqL.of (wk k2)) (dps_ints ws), .lst (SqL.of upd_same) .nil, shaped_list _ (cL_int ws), shaped_list [] (fun d hd => by cases hd), _, rfl, ?_⟩
    rw [eqv_nil]
    refine (fun (g : _ ∨ _ → _) (r : _ → _ → _) => ite2 (fun h => g (.inl h)) (fun h => ⟨_, rfl, rfl, _, rfl, ite2 (fun h2 => g (.inr h2)) (fun h2 => r h h2)⟩)) ?_ ?_
    · intro _
      refine ⟨_, rfl, a, l, ds, 6, rfl, by decide, W2, fun r2 H3 hr2 k3 _ W3 => ⟨_, _, rfl, rfl, ?_⟩⟩
      obtain ⟨n, en⟩ : ∃ n : Nat, 1 + ((r2 : Nat) : Int) = ((n : Nat) : Int) := ⟨1 + r2, by omega⟩
      show gName 4 (V.int (1 + ((r2 : Nat) : Int))) _ _ _
      rw [en]
      have pos : 0 < 2 ^ n := Nat.pow_pos (by decide)
      refine ⟨_, rfl, a, l, ds, 997, rfl, by decide, W3, fun r3 H4 hr3 k4 _ W4 => ?_⟩
      refine ⟨_, rfl, _, _, rfl, rfl, ⟨by omega, by omega, by decide⟩, _, _, rfl, rfl, ?_, _, rfl, line 3 (by decide), fun q' nq => ⟨_, rfl, line 2 (by decide), fun p' np => ?_⟩⟩
      · show (0 : Int) < 1 * 2 ^ ((n : Nat) : Int).toNat
        rw [two]
        omega
      · have ev : ((r3 : Nat) : Int) % (1 * 2 ^ (((n : Nat) : Int)).toNat) = ((r3 % 2 ^ n : Nat) : Int) := by
          rw [two, ← Int.natCast_emod]
        exact fin H4 _ [.str "lit", .int (((r3 : Nat) : Int) % (1 * 2 ^ (((n : Nat) : Int)).toNat)), iD n] (.lit (r3 % 2 ^ n) n) n ((k2.trans k3).trans k4) W4 (by rw [ev]; rfl) (fun _ => .cons (.str _) (.cons (.int _) (.cons (.int _) .nil))) (.lit (Nat.mod_lt _ pos)) (by omega) (by omega) q' nq p' np
    intro hne hr0
    have hwl0 : 0 < ws.length := by
      cases ws with
      | nil => exact absurd rfl hne
      | cons _ _ => exact Nat.zero_lt_succ _
    refine ⟨fun σ H3 => ∃ y4 y5 : Option V, σ = [some (.ref a), some (.ref c), some (.ref wl), some (iV r), y4, y5, none, none, none, none, none, none, none, none, none, none] ∧ Kp a H H3 ∧ Wd H3 a l ds, ?_, ?_⟩
    · refine ⟨_, rfl, _, _, rfl, rfl, _, rfl, ite2 (fun a1 => ?_) (fun a1 => ⟨_, _, rfl, k2, W2⟩)⟩
      obtain ⟨rvs, hr1, hr2⟩ := (cw k2).r0
      refine ⟨_, rfl, c, _, rfl, cd_regs (cw k2).c0, Nat.zero_le _, fun z3 nz3 => ?_⟩
      have k3 := k2.trans (Kp.new (o := .lst []) nz3)
      have W3 := W2.new (o := .lst []) nz3
      obtain ⟨rvs, hr1, hr2⟩ := (cw k3).r0
      have lrv : rvs.length = regs.length := by
        have := dps_len hr2
        rw [List.length_map] at this
        exact this
      refine ⟨.list (regs.map pr), .list [], .lst (SqL.of hr1) hr2, .lst (SqL.of upd_same) .nil, shaped_list _ (cL_pr regs), shaped_list [] (fun d hd => by cases hd), _, rfl, ?_⟩
      rw [eqv_nil]
      refine ite2 (fun a2 => ?_) (fun a2 => ⟨_, _, rfl, k3, W3⟩)
      have hreg : 0 < regs.length := by
        cases regs with
        | nil => exact absurd a2 (by decide)
        | cons _ _ => exact Nat.zero_lt_succ _
      refine ⟨_, rfl, _, rfl, c, _, rfl, cd_regs (cw k3).c0, rl, _, rfl, .inl (SqL.of hr1), a, l, ds, _, rfl, by omega, W3, fun i H4 hi k4 _ W4 => ?_⟩
      have k5 := k3.trans k4
      have hi2 : i < regs.length := by omega
      obtain ⟨⟨rw0, rf0⟩, ep⟩ : ∃ p, regs[i]? = some p := ⟨_, List.getElem?_eq_getElem hi2⟩
      refine ⟨_, rfl, line 2 (by decide), fun q' nq => ?_⟩
      have k6 := k5.trans (Kp.new (o := .tup [.str "reg", iV i]) nq)
      obtain ⟨rvs6, hr16, hr26⟩ := (cw k6).r0
      obtain ⟨b, hb1, hb2⟩ := pr_at hr26 ep
      refine ⟨_, rfl, c, _, rfl, cd_regs (cw k6).c0, _, rfl, rl, _, _, _, rfl, rfl, SqL.of hr16, atI_nat (j := i) hb1, b, _, _, _, rfl, rfl, hb2, atI_nat (j := 0) rfl, line 2 (by decide), fun p' np => ?_⟩
      have bd := hR _ (List.mem_of_getElem? ep)
      exact fin H4 _ [.str "reg", iD i] (.reg i) rw0 k5 W4 rfl (fun _ => .cons (.str _) (.cons (.int _) .nil)) (.reg ep) bd.1 (by have := bd.2.1; omega) q' nq p' np
    rintro σ H3 ⟨y4, y5, rfl, k3, W3⟩
    refine ⟨_, rfl, _, rfl, wl, _, rfl, .inl (SqL.of (wk k3)), a, l, ds, _, rfl, by rw [List.length_map]; omega, W3, fun av H4 hav k4 _ W4 => ?_⟩
    rw [List.length_map] at hav
    have k5 := k3.trans k4
    have hav2 : av < ws.length := by omega
    obtain ⟨x, ex⟩ : ∃ x, ws[av]? = some x := ⟨_, List.getElem?_eq_getElem hav2⟩
    have bx := hW x (List.mem_of_getElem? ex)
    have at_ws : ∀ {H2 : Hp} {j v : Nat}, Kp a H H2 → ws[j]? = some v → SqL K H2 wl (ws.map iV) ∧ atI (ws.map iV) ((j : Nat) : Int) = some (iV v) := fun k e => ⟨SqL.of (wk k), atI_nat (int_at e)⟩
    refine ⟨fun σ H5 => ∃ y7 : Option V, σ = [some (.ref a), some (.ref c), some (.ref wl), some (iV r), y4, y5, some (iV av), y7, none, none, none, none, none, none, none, none] ∧ Kp a H H5 ∧ Wd H5 a l ds, ?_, ?_⟩
    · refine ⟨_, rfl, rfl, _, rfl, ite2 (fun a1 => ?_) (fun a1 => ⟨_, rfl, k5, W4⟩)⟩
      obtain ⟨mvs, hm1, hm2⟩ := (cw k5).m0
      have lmv : mvs.length = mems.length := by
        have := dps_len hm2
        rw [List.length_map] at this
        exact this
      refine ⟨_, rfl, c, _, rfl, cd_mems (cw k5).c0, ml, _, rfl, .inl (SqL.of hm1), ?_⟩
      rw [lmv]
      refine ⟨_, rfl, by omega, by omega, fun D nD => lc_range (n := mems.length) (fun i H' => H' = upd H4 D (.lst ((fits (mems.map Prod.fst) x i).map iV))) rfl (fun i H' hi h => ?_) (fun H' h => ?_)⟩
      · subst h
        rw [Int.zero_add]
        have kD := k5.trans (Kp.new (o := .lst ((fits (mems.map Prod.fst) x i).map iV)) nD)
        obtain ⟨mvs2, hm12, hm22⟩ := (cw kD).m0
        obtain ⟨p, ep⟩ : ∃ p, mems[i]? = some p := ⟨_, List.getElem?_eq_getElem hi⟩
        have ep1 : (mems.map Prod.fst)[i]? = some p.1 := by
          rw [List.getElem?_map, ep]
          rfl
        obtain ⟨b, hb1, hb2⟩ := pr_at hm22 ep
        refine ⟨rfl, _, rfl, c, _, rfl, cd_mems (cw kD).c0, _, rfl, ml, _, _, _, rfl, rfl, SqL.of hm12, atI_nat (j := i) hb1, b, _, _, _, rfl, rfl, hb2, atI_nat (j := 0) rfl, _, rfl, _, rfl, wl, _, _, _, rfl, rfl, (at_ws kD ex).1, (at_ws kD ex).2, rfl, _, rfl, ite2 (fun a2 => ?_) (fun a2 => ?_)⟩
        · have e2 : p.1 = x := Int.ofNat.inj (V.int.inj (of_decide_eq_true a2))
          refine ⟨_, rfl, _, upd_same, ?_, ?_⟩
          · rw [List.length_map]
            exact Nat.lt_of_le_of_lt (fits_len _ _ _) (lineS _ (by omega))
          · rw [upd_upd, fits_yes (by rw [ep1, e2]), List.map_append]
            rfl
        · rw [fits_no (by rw [ep1]; intro z; exact a2 (decide_eq_true (by rw [Option.some.inj z])))]
      · subst h
        have kD := k5.trans (Kp.new (o := .lst ((fits (mems.map Prod.fst) x mems.length).map iV)) nD)
        have WD := W4.new (o := .lst ((fits (mems.map Prod.fst) x mems.length).map iV)) nD
        refine ⟨_, rfl, Nat.zero_le _, fun z nz => ?_⟩
        have kz := kD.trans (Kp.new (o := .lst []) nz)
        have Wz := WD.new (o := .lst []) nz
        have hD : (upd (upd H4 D (.lst ((fits (mems.map Prod.fst) x mems.length).map iV))) z (.lst [])) D = some (.lst ((fits (mems.map Prod.fst) x mems.length).map iV)) := by
          rw [upd_ne (ne_of_none upd_same nz)]
          exact upd_same
        refine ⟨.list ((fits (mems.map Prod.fst) x mems.length).map iD), .list [], .lst (SqL.of hD) (dps_ints _), .lst (SqL.of upd_same) .nil, shaped_list _ (cL_int _), shaped_list [] (fun d hd => by cases hd), _, rfl, ?_⟩
        rw [eqv_nil]
        refine ite2 (fun a2 => ?_) (fun a2 => ⟨_, rfl, kz, Wz⟩)
        cases ef : fits (mems.map Prod.fst) x mems.length with
        | nil =>
          rw [ef] at a2
          cases a2
        | cons m0 mr =>
          have em : m0 < mems.length ∧ (mems.map Prod.fst)[m0]? = some x := fits_mem.mp (by rw [ef]; exact List.mem_cons_self ..)
          rw [ef] at hD kz Wz
          obtain ⟨p, ep⟩ : ∃ p, mems[m0]? = some p := ⟨_, List.getElem?_eq_getElem em.1⟩
          have e1 : p.1 = x := by
            have := em.2
            rw [List.getElem?_map, ep] at this
            exact Option.some.inj this
          refine ⟨_, rfl, D, _, _, _, rfl, rfl, SqL.of hD, atI_nat (j := 0) rfl, _, rfl, line 3 (by decide), fun q' nq => ?_⟩
          have k6 := kz.trans (Kp.new (o := .tup [.str "look", iV m0, iV av]) nq)
          obtain ⟨mvs6, hm16, hm26⟩ := (cw k6).m0
          obtain ⟨b, hb1, hb2⟩ := pr_at hm26 ep
          refine ⟨_, rfl, c, _, rfl, cd_mems (cw k6).c0, _, rfl, D, _, _, _, rfl, rfl, SqL.of (by rw [upd_ne (ne_of_none hD nq)]; exact hD), atI_nat (j := 0) rfl, ml, _, _, _, rfl, rfl, SqL.of hm16, atI_nat (j := m0) hb1, b, _, _, _, rfl, rfl, hb2, atI_nat (j := 1) rfl, line 2 (by decide), fun p' np => ?_⟩
          have bd := hM _ (List.mem_of_getElem? ep)
          exact fin _ _ [.str "look", iD m0, iD av] (.look m0 av) p.2 kz Wz rfl (fun _ => .cons (.str _) (.cons (.int _) (.cons (.int _) .nil))) (.look (by rw [ep, ← e1]) ex) bd.2.2.1 (by have := bd.2.2.2; omega) q' nq p' np
    rintro σ H5 ⟨y7, rfl, k6, W5⟩
    have three : ∀ {s : Str} {x y : Nat} (H' : Hp), DpAll K H' [.str s, iV x, iV y] [.str s, iD x, iD y] := fun H' => .cons (.str _) (.cons (.int _) (.cons (.int _) .nil))
    have four : ∀ {s : Str} {x y z : Nat} (H' : Hp), DpAll K H' [.str s, iV x, iV y, iV z] [.str s, iD x, iD y, iD z] := fun H' => .cons (.str _) (.cons (.int _) (.cons (.int _) (.cons (.int _) .nil)))
    have fourO : ∀ {s u : Str} {y z : Nat} (H' : Hp), DpAll K H' [.str s, .str u, iV y, iV z] [.str s, .str u, iD y, iD z] := fun H' => .cons (.str _) (.cons (.str _) (.cons (.int _) (.cons (.int _) .nil)))
    refine ⟨_, rfl, rfl, _, rfl, ite2 (fun _ => ?_) (fun _ => ?_)⟩
    · refine ⟨_, rfl, line 2 (by decide), fun q' nq => ⟨_, rfl, _, rfl, wl, _, _, _, rfl, rfl, (at_ws (k6.trans (Kp.new nq)) ex).1, (at_ws k6 ex).2, line 2 (by decide), fun p' np => ?_⟩⟩
      exact fin H5 _ [.str "not", iD av] (.inv av) x k6 W5 rfl (fun _ => .cons (.str _) (.cons (.int _) .nil)) (.inv ex) bx.1 bx.2 q' nq p' np
    refine ⟨_, rfl, rfl, _, rfl, ite2 (fun _ => ?_) (fun _ => ?_)⟩
    · refine ⟨_, rfl, a, l, ds, 8, rfl, by decide, W5, fun r2 H6 hr2 k7 _ W6 => ⟨_, _, rfl, rfl, ?_⟩⟩
      show gName 4 (V.int (1 + ((r2 : Nat) : Int))) _ _ _
      rw [show 1 + ((r2 : Nat) : Int) = ((1 + r2 : Nat) : Int) by omega]
      refine ⟨_, rfl, _, rfl, line 3 (by decide), fun q' nq => ⟨_, rfl, line 2 (by decide), fun p' np => ?_⟩⟩
      exact fin H6 _ [.str "wide", iD av, iD (1 + r2)] (.wide av (1 + r2)) (1 + r2) (k6.trans k7) W6 rfl three (.wide ex) (by omega) (by omega) q' nq p' np
    refine ⟨_, rfl, rfl, _, rfl, ite2 (fun _ => ?_) (fun _ => ?_)⟩
    · refine ⟨_, rfl, _, rfl, _, rfl, wl, _, _, _, rfl, rfl, (at_ws k6 ex).1, (at_ws k6 ex).2, a, l, ds, ((x : Nat) : Int), rfl, by omega, W5, fun lo H6 hlo k7 _ W6 => ?_⟩
      have k8 := k6.trans k7
      refine ⟨_, rfl, _, rfl, _, rfl, _, rfl, wl, _, _, _, rfl, rfl, (at_ws k8 ex).1, (at_ws k8 ex).2, _, rfl, _, _, rfl, rfl, a, l, ds, ((x : Nat) : Int) - ((lo : Nat) : Int), rfl, by omega, W6, fun r2 H7 hr2 k9 _ W7 => ⟨_, _, rfl, rfl, ?_⟩⟩
      show gName 9 (V.int (((lo : Nat) : Int) + ((r2 : Nat) : Int))) _ _ _
      rw [show ((lo : Nat) : Int) + ((r2 : Nat) : Int) = ((lo + r2 : Nat) : Int) by omega]
      refine ⟨_, rfl, _, rfl, _, rfl, line 4 (by decide), fun q' nq => ⟨_, rfl, _, rfl, _, _, rfl, rfl, _, _, rfl, rfl, line 2 (by decide), fun p' np => ?_⟩⟩
      have e5 : ((lo + r2 : Nat) : Int) - ((lo : Nat) : Int) + 1 = ((lo + r2 - lo + 1 : Nat) : Int) := by omega
      have h := fin H7 _ [.str "part", iD av, iD lo, iD (lo + r2)] (.part av lo (lo + r2)) (lo + r2 - lo + 1) (k8.trans k9) W7 rfl four (.part ex (by omega) (by omega)) (by omega) (by omega) q' nq p' np
      show Q (.ref p') (upd _ p' (.tup [.ref q', .int (((lo + r2 : Nat) : Int) - ((lo : Nat) : Int) + 1)]))
      rw [e5]
      exact h
    refine ⟨_, rfl, _, rfl, wl, _, rfl, .inl (SqL.of (wk k6)), a, l, ds, _, rfl, by rw [List.length_map]; omega, W5, fun bv H6 hbv k7 _ W6 => ?_⟩
    rw [List.length_map] at hbv
    have k8 := k6.trans k7
    obtain ⟨yb, ey⟩ : ∃ y, ws[bv]? = some y := ⟨_, List.getElem?_eq_getElem (show bv < ws.length by omega)⟩
    have by' := hW yb (List.mem_of_getElem? ey)
    refine ⟨fun σ H7 => σ = [some (.ref a), some (.ref c), some (.ref wl), some (iV r), y4, y5, some (iV av), y7, none, none, some (iV bv), none, none, none, none, none] ∧ Kp a H H7 ∧ Wd H7 a l ds, ?_, ?_⟩
    · refine ⟨_, rfl, rfl, _, rfl, ite2 (fun _ => ?_) (fun _ => ⟨rfl, k8, W6⟩)⟩
      refine ⟨_, rfl, _, rfl, wl, _, _, _, rfl, rfl, (at_ws k8 ex).1, (at_ws k8 ex).2, _, rfl, _, rfl, wl, _, _, _, rfl, rfl, (at_ws k8 ey).1, (at_ws k8 ey).2, _, _, rfl, rfl, _, _, rfl, rfl, _, rfl, ite2 (fun a2 => ?_) (fun _ => ⟨rfl, k8, W6⟩)⟩
      have hlt : ((x : Nat) : Int) + ((yb : Nat) : Int) < 12 := of_decide_eq_true a2
      refine ⟨_, rfl, _, rfl, line 3 (by decide), fun q' nq => ?_⟩
      have k9 := k8.trans (Kp.new (o := .tup [.str "join", iV av, iV bv]) nq)
      refine ⟨_, rfl, _, rfl, wl, _, _, _, rfl, rfl, (at_ws k9 ex).1, (at_ws k9 ex).2, _, rfl, _, rfl, wl, _, _, _, rfl, rfl, (at_ws k9 ey).1, (at_ws k9 ey).2, _, _, rfl, rfl, line 2 (by decide), fun p' np => ?_⟩
      have h := fin H6 _ [.str "join", iD av, iD bv] (.join av bv) (x + yb) k8 W6 rfl three (.join ex ey) (by omega) (by omega) q' nq p' np
      show Q (.ref p') (upd _ p' (.tup [.ref q', .int (((x : Nat) : Int) + ((yb : Nat) : Int))]))
      rw [show ((x : Nat) : Int) + ((yb : Nat) : Int) = ((x + yb : Nat) : Int) by omega]
      exact h
    rintro σ H7 ⟨rfl, k9, W7⟩
    refine ⟨_, rfl, rfl, _, rfl, ite2 (fun _ => ?_) (fun _ => ?_)⟩
    · refine ⟨line 2 (by decide), fun z nz => ?_⟩
      have kz := k9.trans (Kp.new (o := .lst (shiftL.map V.str)) nz)
      refine ⟨_, rfl, a, l, ds, 2, rfl, by decide, W7.new nz, fun r2 H8 hr2 k10 e10 W8 => ?_⟩
      have hz : H8 z = some (.lst (shiftL.map V.str)) := by
        rw [e10 z (W7.fresh nz)]
        exact upd_same
      have hlt : r2 < shiftL.length := by
        show r2 < 2
        omega
      have k11 := kz.trans k10
      refine ⟨z, _, _, _, rfl, rfl, SqL.of hz, atI_nat (j := r2) (show (shiftL.map V.str)[r2]? = some (.str shiftL[r2]) by rw [List.getElem?_map, List.getElem?_eq_getElem hlt]; rfl), _, rfl, _, rfl, line 4 (by decide), fun q' nq => ?_⟩
      have k12 := k11.trans (Kp.new (o := .tup [.str "op", .str shiftL[r2], iV av, iV bv]) nq)
      refine ⟨_, rfl, _, rfl, wl, _, _, _, rfl, rfl, (at_ws k12 ex).1, (at_ws k12 ex).2, line 2 (by decide), fun p' np => ?_⟩
      exact fin H8 _ [.str "op", .str shiftL[r2], iD av, iD bv] (.op shiftL[r2] av bv) x k11 W8 rfl fourO (.shift (List.getElem_mem hlt) ex ey) bx.1 bx.2 q' nq p' np
    -- the rows of the same width
    refine ⟨_, rfl, wl, _, rfl, .inl (SqL.of (wk k9)), ?_⟩
    rw [List.length_map]
    refine ⟨_, rfl, by omega, by omega, fun D nD => lc_range (n := ws.length) (fun i H' => H' = upd H7 D (.lst ((fits ws x i).map iV))) rfl (fun i H' hi h => ?_) (fun H' h => ?_)⟩
    · subst h
      rw [Int.zero_add]
      have kD := k9.trans (Kp.new (o := .lst ((fits ws x i).map iV)) nD)
      obtain ⟨v, ev⟩ : ∃ v, ws[i]? = some v := ⟨_, List.getElem?_eq_getElem hi⟩
      refine ⟨rfl, _, rfl, _, rfl, wl, _, _, _, rfl, rfl, (at_ws kD ev).1, (at_ws kD ev).2, _, rfl, _, rfl, wl, _, _, _, rfl, rfl, (at_ws kD ex).1, (at_ws kD ex).2, rfl, _, rfl, ite2 (fun a2 => ?_) (fun a2 => ?_)⟩
      · have e2 : v = x := Int.ofNat.inj (V.int.inj (of_decide_eq_true a2))
        refine ⟨_, rfl, _, upd_same, ?_, ?_⟩
        · rw [List.length_map]
          exact Nat.lt_of_le_of_lt (fits_len _ _ _) (lineS _ (by omega))
        · rw [upd_upd, fits_yes (by rw [ev, e2]), List.map_append]
          rfl
      · rw [fits_no (by rw [ev]; intro z; exact a2 (decide_eq_true (by rw [Option.some.inj z])))]
    subst h
    have kD := k9.trans (Kp.new (o := .lst ((fits ws x ws.length).map iV)) nD)
    have WD := W7.new (o := .lst ((fits ws x ws.length).map iV)) nD
    have hfl : 0 < (fits ws x ws.length).length := List.length_pos_of_mem (fits_mem.mpr ⟨hav2, ex⟩)
    refine ⟨_, rfl, _, rfl, _, rfl, D, _, rfl, .inl (SqL.of upd_same), a, l, ds, _, rfl, by rw [List.length_map]; omega, WD, fun r3 H8 hr3 k10 e10 W8 => ?_⟩
    rw [List.length_map] at hr3
    have hD8 : H8 D = some (.lst ((fits ws x ws.length).map iV)) := by
      rw [e10 D (W7.fresh nD)]
      exact upd_same
    have k11 := kD.trans k10
    obtain ⟨cv, ec⟩ : ∃ cv, (fits ws x ws.length)[r3]? = some cv := ⟨_, List.getElem?_eq_getElem (by omega)⟩
    have hcv := fits_at ec
    refine ⟨D, _, _, _, rfl, rfl, SqL.of hD8, atI_nat (int_at ec), ?_⟩
    -- the tests
    refine ⟨_, rfl, wl, _, rfl, .inl (SqL.of (wk k11)), ?_⟩
    rw [List.length_map]
    refine ⟨_, rfl, by omega, by omega, fun T nT => lc_range (n := ws.length) (fun i H' => H' = upd H8 T (.lst ((fits ws 1 i).map iV))) rfl (fun i H' hi h => ?_) (fun H' h => ?_)⟩
    · subst h
      rw [Int.zero_add]
      have kT := k11.trans (Kp.new (o := .lst ((fits ws 1 i).map iV)) nT)
      obtain ⟨v, ev⟩ : ∃ v, ws[i]? = some v := ⟨_, List.getElem?_eq_getElem hi⟩
      refine ⟨rfl, _, rfl, _, rfl, wl, _, _, _, rfl, rfl, (at_ws kT ev).1, (at_ws kT ev).2, rfl, _, rfl, ite2 (fun a2 => ?_) (fun a2 => ?_)⟩
      · have e2 : v = 1 := by
          have := V.int.inj (of_decide_eq_true a2)
          omega
        refine ⟨_, rfl, _, upd_same, ?_, ?_⟩
        · rw [List.length_map]
          exact Nat.lt_of_le_of_lt (fits_len _ _ _) (lineS _ (by omega))
        · rw [upd_upd, fits_yes (by rw [ev, e2]), List.map_append]
          rfl
      · rw [fits_no (by
          rw [ev]
          intro z
          refine a2 (decide_eq_true ?_)
          have := Option.some.inj z
          subst this
          rfl)]
    subst h
    have kT := k11.trans (Kp.new (o := .lst ((fits ws 1 ws.length).map iV)) nT)
    have WT := W8.new (o := .lst ((fits ws 1 ws.length).map iV)) nT
    refine ⟨fun σ H9 => σ = [some (.ref a), some (.ref c), some (.ref wl), some (iV r), y4, y5, some (iV av), y7, none, none, some (iV cv), some (.ref D), some (.ref T), none, none, none] ∧ Kp a H H9 ∧ Wd H9 a l ds, ?_, ?_⟩
    · refine ⟨_, rfl, rfl, _, rfl, ite2 (fun _ => ?_) (fun _ => ⟨rfl, kT, WT⟩)⟩
      refine ⟨_, rfl, Nat.zero_le _, fun z nz => ?_⟩
      have kz := kT.trans (Kp.new (o := .lst []) nz)
      have Wz := WT.new (o := .lst []) nz
      have hTz : (upd (upd H8 T (.lst ((fits ws 1 ws.length).map iV))) z (.lst [])) T = some (.lst ((fits ws 1 ws.length).map iV)) := by
        rw [upd_ne (ne_of_none upd_same nz)]
        exact upd_same
      refine ⟨.list ((fits ws 1 ws.length).map iD), .list [], .lst (SqL.of hTz) (dps_ints _), .lst (SqL.of upd_same) .nil, shaped_list _ (cL_int _), shaped_list [] (fun d hd => by cases hd), _, rfl, ?_⟩
      rw [eqv_nil]
      refine ite2 (fun a2 => ?_) (fun a2 => ⟨rfl, kz, Wz⟩)
      have hfl1 : 0 < (fits ws 1 ws.length).length := by
        cases e : fits ws 1 ws.length with
        | nil =>
          rw [e] at a2
          cases a2
        | cons _ _ => exact Nat.zero_lt_succ _
      refine ⟨_, rfl, _, rfl, _, rfl, T, _, rfl, .inl (SqL.of hTz), a, l, ds, _, rfl, by rw [List.length_map]; omega, Wz, fun r4 H9 hr4 k12 e12 W9 => ?_⟩
      rw [List.length_map] at hr4
      have hT9 : H9 T = some (.lst ((fits ws 1 ws.length).map iV)) := by
        rw [e12 T (W8.fresh nT)]
        exact hTz
      have k13 := kz.trans k12
      obtain ⟨tv, et⟩ : ∃ tv, (fits ws 1 ws.length)[r4]? = some tv := ⟨_, List.getElem?_eq_getElem (by omega)⟩
      have htv := fits_at et
      refine ⟨T, _, _, _, rfl, rfl, SqL.of hT9, atI_nat (int_at et), _, rfl, _, rfl, line 4 (by decide), fun q' nq => ?_⟩
      have k14 := k13.trans (Kp.new (o := .tup [.str "pick", iV tv, iV av, iV cv]) nq)
      refine ⟨_, rfl, _, rfl, wl, _, _, _, rfl, rfl, (at_ws k14 ex).1, (at_ws k14 ex).2, line 2 (by decide), fun p' np => ?_⟩
      exact fin H9 _ [.str "pick", iD tv, iD av, iD cv] (.pick tv av cv) x k13 W9 rfl four (.pick htv.2 ex hcv.2) bx.1 bx.2 q' nq p' np
    rintro σ H9 ⟨rfl, k12, W9⟩
    refine ⟨line 8 (by decide), fun z nz => ?_⟩
    have kz := k12.trans (Kp.new (o := .lst ((arithL ++ testL).map V.str)) nz)
    refine ⟨_, rfl, a, l, ds, 8, rfl, by decide, W9.new nz, fun r5 H10 hr5 k13 e13 W10 => ?_⟩
    have hz : H10 z = some (.lst ((arithL ++ testL).map V.str)) := by
      rw [e13 z (W9.fresh nz)]
      exact upd_same
    have hlt : r5 < (arithL ++ testL).length := by
      show r5 < 8
      omega
    have k14 := kz.trans k13
    obtain ⟨sg, esg⟩ : ∃ sg, (arithL ++ testL)[r5]? = some sg := ⟨_, List.getElem?_eq_getElem hlt⟩
    have hsg := List.mem_of_getElem? esg
    refine ⟨z, _, _, _, rfl, rfl, SqL.of hz, atI_nat (j := r5) (show ((arithL ++ testL).map V.str)[r5]? = some (.str sg) by rw [List.getElem?_map, esg]; rfl), ?_⟩
    refine ⟨_, rfl, _, rfl, _, rfl, line 4 (by decide), fun q' nq => ?_⟩
    have k15 := k14.trans (Kp.new (o := .tup [.str "op", .str sg, iV av, iV cv]) nq)
    have W11 := W10.new (o := .tup [.str "op", .str sg, iV av, iV cv]) nq
    refine ⟨_, rfl, line 2 (by decide), fun t nt => ?_⟩
    have k16 := k15.trans (Kp.new (o := .tup [.str "==", .str "<"]) nt)
    have W12 := W11.new (o := .tup [.str "==", .str "<"]) nt
    have hq6 : (upd (upd H10 q' (.tup [.str "op", .str sg, iV av, iV cv])) t (.tup [.str "==", .str "<"])) q' = some (.tup [.str "op", .str sg, iV av, iV cv]) := by
      rw [upd_ne (ne_of_none upd_same nt)]
      exact upd_same
    refine ⟨t, _, rfl, .inr (SqT.of upd_same), rfl, rfl, _, rfl, ?_⟩
    refine ite2 (fun a2 => ⟨line 2 (by decide), fun p' np => ?_⟩) (fun a2 => ⟨_, rfl, _, rfl, wl, _, _, _, rfl, rfl, (at_ws k16 ex).1, (at_ws k16 ex).2, line 2 (by decide), fun p' np => ?_⟩)
    · have ht : sg ∈ testL := (List.mem_append.mp hsg).resolve_left fun h => by
        have : ∀ s ∈ arithL, inV (.str s) [.str "==", .str "<"] = false := by decide +kernel
        rw [show (if false = true then !inV (.str sg) [.str "==", .str "<"] else inV (.str sg) [.str "==", .str "<"]) = inV (.str sg) [.str "==", .str "<"] from rfl, this sg h] at a2
        cases a2
      exact fin2 _ _ [.str "op", .str sg, iD av, iD cv] (.op sg av cv) 1 q' k16 W12 hq6 rfl fourO (.test ht ex hcv.2) (by decide) (by decide) p' np
    · have ht : sg ∈ arithL := (List.mem_append.mp hsg).resolve_right fun h => by
        have : ∀ s ∈ testL, inV (.str s) [.str "==", .str "<"] = true := by decide +kernel
        exact a2 (this sg h)
      exact fin2 _ _ [.str "op", .str sg, iD av, iD cv] (.op sg av cv) x q' k16 W12 hq6 rfl fourO (.arith ht ex hcv.2) bx.1 bx.2 p' np
end
end C1
/-! The law's circuit. -/
namespace C1
open PySem PySem.Spec PyProof.Rows L2 SX
abbrev NC : List Str := ["w", "most", "c", "k", "width", "rows", "widths", "row", "nexts", "first", "own", "stores", "m", "parts_v", "outs", "part"]
theorem scCircuit : FnScope NC ["w", "most"] (defScope sCircuit) := ⟨rfl, rfl, rfl, by decide +kernel, rfl, by decide +kernel, by decide +kernel⟩
def scW : Scope := { kind := .function, names := [(".0", .local), ("width", .cell), ("range", .globalImplicit), ("len", .globalImplicit), ("rows", .cell), ("widths", .cell)], isGenerator := false, isCoroutine := false }
abbrev rLen (K : PySem.W.Frag) : List V → Hp → VK → Prop := fun xs H Q => ∃ p ys, xs = [V.ref p] ∧ (SqL K H p ys ∨ SqT K H p ys) ∧ Q (V.int ys.length) H
section
variable {P : Program} {w : World} {K : PySem.W.Frag} {mg : Str → Option Value} {base : Heap}
structure Ckt where
  regs : List (Nat × Nat)
  mems : List (Nat × Nat)
  rows : List Row
  nexts : List Nat
  stores : List (Nat × Nat × Nat × Nat)
  outs : List Nat
def stD (s : Nat × Nat × Nat × Nat) : PyData := .tuple [iD s.1, iD s.2.1, iD s.2.2.1, iD s.2.2.2]
def Ckt.d (c : Ckt) : PyData := .tuple [.tuple (c.regs.map pr), .tuple (c.mems.map pr), .tuple (c.rows.map Row.d), .tuple (c.nexts.map iD), .tuple (c.stores.map stD), .tuple (c.outs.map iD)]
/-- rows and their widths, one behind the other -/
inductive RowsOk (regs mems : List (Nat × Nat)) : List Row → List Nat → Prop
  | nil : RowsOk regs mems [] []
  | snoc {rows : List Row} {ws : List Nat} {row : Row} {wd : Nat} : RowsOk regs mems rows ws → RowOk regs mems ws row wd → 1 ≤ wd → wd ≤ 12 → RowsOk regs mems (rows ++ [row]) (ws ++ [wd])
structure CktOk (c : Ckt) (ws : List Nat) : Prop where
  rg : RegsOk c.regs
  mm : MemsOk c.mems
  lr : c.regs.length ≤ 4
  lm : c.mems.length ≤ 2
  rw : RowsOk c.regs c.mems c.rows ws
  lw : ws.length ≤ 60
  nl : c.nexts.length = c.regs.length
  nx : ∀ (i : Nat) (p : Nat × Nat) (n : Nat), c.regs[i]? = some p → c.nexts[i]? = some n → ws[n]? = some p.1
  so : ∀ s ∈ c.stores, ∃ p : Nat × Nat, c.mems[s.1]? = some p ∧ ws[s.2.1]? = some p.1 ∧ ws[s.2.2.1]? = some p.2 ∧ ws[s.2.2.2]? = some 1
  sl : c.stores.length ≤ 2
  ol : c.outs.length ≤ 4
  oo : ∀ o ∈ c.outs, o < ws.length
theorem rows_len {regs mems : List (Nat × Nat)} {rows : List Row} {ws : List Nat} (h : RowsOk regs mems rows ws) : rows.length = ws.length := by
  induction h with
  | nil => rfl
  | snoc _ _ _ _ ih => rw [List.length_append, List.length_append, ih]; rfl
theorem rows_ws {regs mems : List (Nat × Nat)} {rows : List Row} {ws : List Nat} (h : RowsOk regs mems rows ws) : WsOk ws := by
  induction h with
  | nil => intro x hx; cases hx
  | snoc _ _ h1 h2 ih =>
    intro x hx
    rcases List.mem_append.mp hx with z | z
    · exact ih x z
    · rw [List.mem_singleton.mp z]
      exact ⟨h1, h2⟩
theorem Row.noL : ∀ r : Row, C1.noL r.d = true := fun r => by cases r <;> rfl
theorem noLs_rows : ∀ rs : List Row, noLs (rs.map Row.d) = true
  | [] => rfl
  | r :: rs => by
    show (C1.noL r.d && noLs (rs.map Row.d)) = true
    rw [Row.noL, noLs_rows rs]
    rfl
theorem noLs_st : ∀ rs : List (Nat × Nat × Nat × Nat), noLs (rs.map stD) = true
  | [] => rfl
  | r :: rs => by
    show (C1.noL (stD r) && noLs (rs.map stD)) = true
    rw [noLs_st rs]
    rfl
section
variable {a l r : Addr} {ds : List Int} {H H1 H2 : Hp}
theorem Kp.put {o : HO} (k : Kp a H H1) (n : H r = none) : Kp a H (upd H1 r o) := fun b u nb e => by
  rw [upd_ne (ne_of_none e n)]
  exact k b u nb e
theorem Wd.put {o : HO} (W : Wd H a l ds) (h1 : r ≠ a) (h2 : r ≠ l) : Wd (upd H r o) a l ds := by
  obtain ⟨k, k0, e⟩ := W.at'
  exact ⟨⟨k, k0, by rw [upd_ne h1.symm]; exact e⟩, by rw [upd_ne h2.symm]; exact W.dr, W.len⟩
theorem kp_none (k : Kp a H H1) (h : r ≠ a) (n : H1 r = none) : H r = none := by
  cases e : H r with
  | none => rfl
  | some o =>
    rw [k r o h e] at n
    cases n
theorem Wd.ne2 (W : Wd H a l ds) (n : H r = none) : r ≠ a ∧ r ≠ l := ⟨W.fresh n, fun z => by
  have := W.dr
  rw [← z, n] at this
  cases this⟩
theorem stay_dps {vs : List V} {es : List PyData} (W : Wd H a l ds) (k : Kp a H H1) (n : noLs es = true) (h : DpAll K H vs es) : DpAll K H1 vs es := by
  obtain ⟨_, _, e⟩ := W.at'
  exact dps_stay (kp_tup e k) _ _ h n
theorem push_dps {vs : List V} {es : List PyData} {v : V} {d : PyData} {o : HO} (e : H r = some (.lst vs)) (h : DpAll K H vs es) (n : noLs es = true) (hd : Dp K H v d) (nd : noL d = true) : DpAll K (upd H r o) (vs ++ [v]) (es ++ [d]) :=
  dps_app (dps_stay (tups_upd e) _ _ h n) (.cons (dp_stay (tups_upd e) _ _ hd nd) .nil)
end
theorem dpI {K : PySem.W.Frag} {H : Hp} {x y : Int} (e : x = y) : Dp K H (.int x) (.int y) := by
  subst e
  exact .int _
theorem cd_merge (rl ml : Addr) : mergeK [] (cdL rl ml) = cdL rl ml := by
  have h1 : ¬ (Sum.inr ("registers" : Str) : Key) = Sum.inr ("memories" : Str) := by decide
  unfold mergeK cdL
  simp [putK, h1]
def spCircuit (K : PySem.W.Frag) : Sp := fun vs H Q _ => ∃ (a l : Addr) (ds : List Int) (m : Nat), vs = [.ref a, iV m] ∧ 0 < m ∧ m ≤ 50 ∧ Wd H a l ds ∧
  ∀ (H' : Hp) (p : Addr) (c : Ckt) (ws : List Nat), Kp a H H' → Wd H' a l ds → Dp K H' (.ref p) c.d → CktOk c ws → Q (.ref p) H'
theorem ok_circuit {f fN fR : Addr} {fd fdN fdR : FuncData} (F : Fun K "_law_circuit" "_law_circuit" sCircuit f fd) (GN : FnOk P w K mg base CX0 1 fN fdN ["w", "many"] spNext) (kN : PySem.W.keepIn K (.ref fN) = true) (bN : Binds K fdN ["w", "many"] []) (gN : mg "_law_next" = some (.ref fN))
    (GR : FnOk P w K mg base CX0 2 fR fdR ["w", "c", "widths"] (spRow K)) (kR : PySem.W.keepIn K (.ref fR) = true) (bR : Binds K fdR ["w", "c", "widths"] []) (gR : mg "_law_row" = some (.ref fR)) (B : Bl mg) (mt : mg "tuple" = none) :
    FnOk P w K mg base CX0 3 f fd ["w", "most"] (spCircuit K) := by
  refine F.ok scCircuit (fun vs H Q E h => ?_) (fun cdv A outer s H vs Q E hr h => ?_)
  · obtain ⟨a, l, ds, m, rfl, _⟩ := h
    rfl
  · obtain ⟨a, l, ds, m, rfl, hm, hm2, W, q⟩ := h
    have nd := scCircuit.nd
    have hu := hr.units
    have hud := hu_of hr
    have hr1 : Room 1 _ := hr.mono (by decide)
    refine ⟨_, (pss_cons (ps_set (i := 2) nd rfl (.inl rfl) (pe_disp (pps_cons pe_str (pe_lst pa_nil) (pps_cons pe_str (pe_lst pa_nil) pps_nil)) rfl rfl (by intro z; cases z) (by decide)))
      (C8.pss_cut (ps_for PassesOwn.never rfl (pi_range1 (by rfl) B.range (pa_cons (pe_call GN hr1 (by rfl) gN kN bN .nil pass0 (pa_cons (pv 0) (pa_cons (pe_int) pa_nil))) pa_nil)) (pg_name (i := 3) nd rfl (.inl rfl)) (pss_cons (ps_set (i := 4) nd rfl (.inr rfl) (pe_op op_add (pe_int) (pe_call GN hr1 (by rfl) gN kN bN .nil pass0 (pa_cons (pv 0) (pa_cons (pe_int) pa_nil)))))
      (pss_one (ps_expr (pe_bm PySem.F.plainAttrs_list PySem.F.slot_list_append PySem.F.type_list_append mt_append (pe_dget hud (pv 2) pe_str (fun _ _ => rfl)) (pa_cons (pe_tup (pa_cons (pv 4) (pa_cons (pe_op op_mod (pe_call GN hr1 (by rfl) gN kN bN .nil pass0 (pa_cons (pv 0) (pa_cons (pe_int) pa_nil))) (pe_op op_shl pe_int (pv 4))) pa_nil))) pa_nil))))))
      (C8.pss_cut (ps_for PassesOwn.never rfl (pi_range1 (by rfl) B.range (pa_cons (pe_call GN hr1 (by rfl) gN kN bN .nil pass0 (pa_cons (pv 0) (pa_cons (pe_int) pa_nil))) pa_nil)) (pg_name (i := 3) nd rfl (.inl rfl)) (pss_one (ps_expr (pe_bm PySem.F.plainAttrs_list PySem.F.slot_list_append PySem.F.type_list_append mt_append (pe_dget hud (pv 2) pe_str (fun _ _ => rfl)) (pa_cons (pe_tup (pa_cons (pe_op op_add (pe_int) (pe_call GN hr1 (by rfl) gN kN bN .nil pass0 (pa_cons (pv 0) (pa_cons (pe_int) pa_nil)))) (pa_cons (pe_op op_add (pe_int) (pe_call GN hr1 (by rfl) gN kN bN .nil pass0 (pa_cons (pv 0) (pa_cons (pe_int) pa_nil)))) pa_nil))) pa_nil)))))
      (pss_cons (ps_asg (pe_tup (pa_cons (pe_lst pa_nil) (pa_cons (pe_lst pa_nil) pa_nil))) (pg_tup (by rfl) (pgs_cons (pg_name (i := 5) nd rfl (.inr rfl)) (pgs_cons (pg_name (i := 6) nd rfl (.inr rfl)) pgs_nil))))
      (C8.pss_cut (ps_for PassesOwn.never rfl (pi_range1 (by rfl) B.range (pa_cons (pe_op op_add (pe_int) (pe_call GN hr1 (by rfl) gN kN bN .nil pass0 (pa_cons (pv 0) (pa_cons (pv 1) pa_nil)))) pa_nil)) (pg_name (i := 3) nd rfl (.inl rfl)) (pss_cons (ps_asg (pe_call GR hr (by rfl) gR kR bR .nil pass0 (pa_cons (pv 0) (pa_cons (pv 2) (pa_cons (pv 6) pa_nil)))) (pg_tup (by rfl) (pgs_cons (pg_name (i := 7) nd rfl (.inl rfl)) (pgs_cons (pg_name (i := 4) nd rfl (.inr rfl)) pgs_nil))))
      (pss_cons (ps_expr (pe_bm PySem.F.plainAttrs_list PySem.F.slot_list_append PySem.F.type_list_append mt_append (pv 5) (pa_cons (pv 7) pa_nil)))
      (pss_one (ps_expr (pe_bm PySem.F.plainAttrs_list PySem.F.slot_list_append PySem.F.type_list_append mt_append (pv 6) (pa_cons (pv 4) pa_nil)))))))
      (pss_cons (ps_set (i := 8) nd rfl (.inl rfl) (pe_lst pa_nil))
      (C8.pss_cut (ps_for PassesOwn.never rfl (pi_list (pe_dget hud (pv 2) pe_str (fun _ _ => rfl))) (pg_tup (by rfl) (pgs_cons (pg_name (i := 4) nd rfl (.inr rfl)) (pgs_cons (pg_name (i := 9) nd rfl (.inl rfl)) pgs_nil))) (pss_cons (ps_setLc (i := 10) (own := [("k", 3)]) (g := gName 3) (tt := tTest (tOp rEq (tOp (rIxL K) (tVar 6) (tVar 3)) (tVar 4))) rfl nd rfl rfl (sw_true rfl rfl rfl (by decide +kernel)) (pi_range1 (by rfl) B.range (pa_cons (pe_callB call_len_seq (by rfl) B.len PySem.boot_len (pa_cons (pv 5) pa_nil)) pa_nil)) (blkOk_by (N := NC) (sc := defScope sCircuit) (by decide +kernel)) (fun _ _ _ _ _ => pg_name (i := 3) nd rfl (.inl rfl)) (fun _ _ _ _ _ => pts_one (pt_cmpR op_eq (pe_ix ix_list (pv 6) (pv 3) (fun _ _ => rfl)) (pv 4) (nomark _))) (fun _ _ _ _ _ => pv 3))
      (C8.pss_cut (ps_if (pt_cmpR (op_eqD hu) (pv 10) (pe_lst pa_nil) (nomark _)) (pss_cons (ps_expr (pe_bm PySem.F.plainAttrs_list PySem.F.slot_list_append PySem.F.type_list_append mt_append (pv 5) (pa_cons (pe_tup (pa_cons (pe_str) (pa_cons (pe_int) (pa_cons (pv 4) pa_nil)))) pa_nil)))
      (pss_cons (ps_expr (pe_bm PySem.F.plainAttrs_list PySem.F.slot_list_append PySem.F.type_list_append mt_append (pv 6) (pa_cons (pv 4) pa_nil)))
      (pss_one (ps_set (i := 10) nd rfl (.inl rfl) (pe_lst (pa_cons (pe_op op_sub (pe_callB call_len_seq (by rfl) B.len PySem.boot_len (pa_cons (pv 5) pa_nil)) (pe_int)) pa_nil)))))) pss_nil)
      (pss_one (ps_expr (pe_bm PySem.F.plainAttrs_list PySem.F.slot_list_append PySem.F.type_list_append mt_append (pv 8) (pa_cons (pe_ix ix_list (pv 10) (pe_call GN hr1 (by rfl) gN kN bN .nil pass0 (pa_cons (pv 0) (pa_cons (pe_callB call_len_seq (by rfl) B.len PySem.boot_len (pa_cons (pv 10) pa_nil)) pa_nil))) (fun _ _ => rfl)) pa_nil)))))))
      (pss_cons (ps_set (i := 11) nd rfl (.inl rfl) (pe_lst pa_nil))
      (C8.pss_cut (ps_for PassesOwn.never rfl (pi_range1 (by rfl) B.range (pa_cons (pe_callB call_len_seq (by rfl) B.len PySem.boot_len (pa_cons (pe_dget hud (pv 2) pe_str (fun _ _ => rfl)) pa_nil)) pa_nil)) (pg_name (i := 12) nd rfl (.inl rfl)) (pss_cons (ps_setLc (i := 13) (own := [("width", 4)]) (g := gName 4) (tt := tYes) (te := tLc (iRng1 (tCons (tCB (rLen K) (tCons (tVar 5) tNil)) tNil)) (gName 3) (tTest (tOp rEq (tOp (rIxL K) (tVar 6) (tVar 3)) (tVar 4))) (tVar 3) [3]) rfl nd rfl rfl (sw_true rfl rfl rfl (by decide +kernel)) (pi_tup (pe_op op_catT (pe_ix ix_list (pe_dget hud (pv 2) pe_str (fun _ _ => rfl)) (pv 12) (fun _ _ => rfl)) (pe_tup (pa_cons (pe_int) pa_nil)))) (blkOk_by (N := NC) (sc := defScope sCircuit) (by decide +kernel)) (fun _ _ _ _ _ => pg_name (i := 4) nd rfl (.inr rfl)) (fun _ _ _ _ _ => pts_nil) (fun _ _ _ _ _ => by exact (pe_lc (own := [("k", 3)]) (g := gName 3) (tt := tTest (tOp rEq (tOp (rIxL K) (tVar 6) (tVar 3)) (tVar 4))) (te := tVar 3) rfl nd (pi_range1 (by rfl) B.range (pa_cons (pe_callB call_len_seq (by rfl) B.len PySem.boot_len (pa_cons (pv 5) pa_nil)) pa_nil)) (blkOk_by (own := [("k", 3)]) (N := NC) (sc := scW) (by decide +kernel)) (fun _ _ _ _ _ => pg_name (i := 3) nd rfl (.inl rfl)) (fun _ _ _ _ _ => pts_one (pt_cmpR op_eq (pe_ix ix_list (pv 6) (pv 3) (fun _ _ => rfl)) (pv 4) (nomark _))) (fun _ _ _ _ _ => pv 3))))
      (pss_one (ps_if (PW.pt (pw_and (pt_cmpR (op_eqD hu) (pe_lc (own := [("part", 15)]) (g := gName 15) (tt := tTest (tOp (rEqD K) (tVar 15) (tLst tNil))) (te := tVar 15) rfl nd (pi_list (pv 13)) (blkOk_by (own := [("part", 15)]) (N := NC) (sc := defScope sCircuit) (by decide +kernel)) (fun _ _ _ _ _ => pg_name (i := 15) nd rfl (.inl rfl)) (fun _ _ _ _ _ => pts_one (pt_cmpR (op_eqD hu) (pv 15) (pe_lst pa_nil) (nomark _))) (fun _ _ _ _ _ => pv 15)) (pe_lst pa_nil) (nomark _)) (pw_and1 (pt_cmpR op_gt (pe_call GN hr1 (by rfl) gN kN bN .nil pass0 (pa_cons (pv 0) (pa_cons (pe_int) pa_nil))) (pe_int) (nomark _))))) (pss_one (ps_expr (pe_bm PySem.F.plainAttrs_list PySem.F.slot_list_append PySem.F.type_list_append mt_append (pv 11) (pa_cons (pe_op op_catT (pe_tup (pa_cons (pv 12) pa_nil)) (pe_callTy call_tuple_of (by rfl) mt (by decide +kernel) (pa_cons (pe_lc (own := [("part", 15)]) (g := gName 15) (tt := tYes) (te := tOp (rIxL K) (tVar 15) (tCall spNext [] E0 (tCons (tVar 0) (tCons (tCB (rLen K) (tCons (tVar 15) tNil)) tNil)))) rfl nd (pi_list (pv 13)) (blkOk_by (own := [("part", 15)]) (N := NC) (sc := defScope sCircuit) (by decide +kernel)) (fun _ _ _ _ _ => pg_name (i := 15) nd rfl (.inl rfl)) (fun _ _ _ _ _ => pts_nil) (fun _ _ _ _ _ => by exact (pe_ix ix_list (pv 15) (pe_call GN hr1 (by rfl) gN kN bN .nil pass0 (pa_cons (pv 0) (pa_cons (pe_callB call_len_seq (by rfl) B.len PySem.boot_len (pa_cons (pv 15) pa_nil)) pa_nil))) (fun _ _ => rfl)))) pa_nil))) pa_nil)))) pss_nil))))
      (pss_cons (ps_set (i := 14) nd rfl (.inl rfl) (pe_callTy call_tuple_of (by rfl) mt (by decide +kernel) (pa_cons (pe_lc (own := [("k", 3)]) (g := gName 3) (tt := tYes) (te := tCall spNext [] E0 (tCons (tVar 0) (tCons (tCB (rLen K) (tCons (tVar 5) tNil)) tNil))) rfl nd (pi_range1 (by rfl) B.range (pa_cons (pe_call GN hr1 (by rfl) gN kN bN .nil pass0 (pa_cons (pv 0) (pa_cons (pe_int) pa_nil))) pa_nil)) (blkOk_by (own := [("k", 3)]) (N := NC) (sc := defScope sCircuit) (by decide +kernel)) (fun _ _ _ _ _ => pg_name (i := 3) nd rfl (.inl rfl)) (fun _ _ _ _ _ => pts_nil) (fun _ _ _ _ _ => by exact (pe_call GN hr1 (by rfl) gN kN bN .nil pass0 (pa_cons (pv 0) (pa_cons (pe_callB call_len_seq (by rfl) B.len PySem.boot_len (pa_cons (pv 5) pa_nil)) pa_nil))))) pa_nil)))
      (pss_one (ps_ret (pe_tup (pa_cons (pe_callTy call_tuple_of (by rfl) mt (by decide +kernel) (pa_cons (pe_dget hud (pv 2) pe_str (fun _ _ => rfl)) pa_nil)) (pa_cons (pe_callTy call_tuple_of (by rfl) mt (by decide +kernel) (pa_cons (pe_dget hud (pv 2) pe_str (fun _ _ => rfl)) pa_nil)) (pa_cons (pe_callTy call_tuple_of (by rfl) mt (by decide +kernel) (pa_cons (pv 5) pa_nil)) (pa_cons (pe_callTy call_tuple_of (by rfl) mt (by decide +kernel) (pa_cons (pv 8) pa_nil)) (pa_cons (pe_callTy call_tuple_of (by rfl) mt (by decide +kernel) (pa_cons (pv 11) pa_nil)) (pa_cons (pv 14) pa_nil))))))))))))))))))), ?_⟩
    have line : ∀ n : Nat, n ≤ 200 → n ≤ sizeLine := fun n h => by
      rw [sizeLine_eq]
      omega
    have lineS : ∀ n : Nat, n ≤ 200 → n < sizeLine := fun n h => by
      rw [sizeLine_eq]
      omega
    have two : ∀ n : Nat, (1 : Int) * 2 ^ (((n : Nat) : Int)).toNat = ((2 ^ n : Nat) : Int) := fun n => by
      rw [Int.toNat_natCast, Int.one_mul, Int.natCast_pow]
      rfl
    refine fun c nc => ⟨Nat.zero_le _, fun rl nrl => ⟨Nat.zero_le _, fun ml nml => ?_⟩⟩
    have c1 : c ≠ rl := ne_of_none upd_same nrl
    have c2 : c ≠ ml := ne_of_none (by rw [upd_ne c1]; exact upd_same) nml
    have c3 : rl ≠ ml := ne_of_none upd_same nml
    have wrl : H rl = none := by
      rw [upd_ne c1.symm] at nrl
      exact nrl
    have wml : H ml = none := by
      rw [upd_ne c3.symm, upd_ne c2.symm] at nml
      exact nml
    refine ⟨by rw [upd_ne c2, upd_ne c1]; exact upd_same, cdL rl ml, rfl, (by show 2 ≤ 15; decide), ?_⟩
    rw [cd_merge]
    obtain ⟨H0, eH0⟩ : ∃ H0, H0 = upd (upd (upd (upd H c (.dK [])) rl (.lst [])) ml (.lst [])) c (.dK (cdL rl ml)) := ⟨_, rfl⟩
    have k0 : Kp a H H0 := by
      rw [eH0]
      exact (((Kp.refl H).put nc).put wrl |>.put wml).put nc
    have nel := W.ne2 nc
    have ner := W.ne2 wrl
    have nem := W.ne2 wml
    have W0 : Wd H0 a l ds := by
      rw [eH0]
      exact (((W.put nel.1 nel.2).put ner.1 ner.2).put nem.1 nem.2).put nel.1 nel.2
    have hc0 : H0 c = some (.dK (cdL rl ml)) := by
      rw [eH0]
      exact upd_same
    have hr0 : H0 rl = some (.lst []) := by
      rw [eH0, upd_ne c1.symm, upd_ne c3]
      exact upd_same
    have hm0 : H0 ml = some (.lst []) := by
      rw [eH0, upd_ne c2.symm]
      exact upd_same
    rw [← eH0]
    -- the registers
    let S1 : List (Nat × Nat) → Hp → Prop := fun regs H' => Kp a H H' ∧ Wd H' a l ds ∧ H' c = some (.dK (cdL rl ml)) ∧ (∃ rvs, H' rl = some (.lst rvs) ∧ DpAll K H' rvs (regs.map pr)) ∧ H' ml = some (.lst []) ∧ RegsOk regs
    refine ⟨fun σ H' => ∃ (y3 y4 : Option V) (regs : List (Nat × Nat)), σ = [some (.ref a), some (iV m), some (.ref c), y3, y4, none, none, none, none, none, none, none, none, none, none, none] ∧ S1 regs H' ∧ regs.length ≤ 4, ?_, ?_⟩
    · refine ⟨_, rfl, a, l, ds, 5, rfl, by decide, W0, fun n1 H1 hn1 k1 e1 W1 => ⟨_, rfl, by omega, by omega, for_range (n := n1) (fun i σ H' => ∃ (y3 y4 : Option V) (regs : List (Nat × Nat)), σ = [some (.ref a), some (iV m), some (.ref c), y3, y4, none, none, none, none, none, none, none, none, none, none, none] ∧ S1 regs H' ∧ regs.length ≤ i) ⟨_, _, [], rfl, ⟨k0.trans k1, W1, k1 c _ nel.1 hc0, ⟨[], k1 rl _ ner.1 hr0, .nil⟩, k1 ml _ nem.1 hm0, fun p hp => by cases hp⟩, Nat.zero_le _⟩ (fun i σ H' hi h => ?_) (fun σ H' h => ?_)⟩⟩
      · obtain ⟨y3, y4, regs, rfl, ⟨kk, WW, cc, ⟨rvs, r1, r2⟩, mm, ro⟩, rn⟩ := h
        refine ⟨_, rfl, a, l, ds, 5, rfl, by decide, WW, fun r2' H3 hr2 k3 _ W3 => ⟨_, _, rfl, rfl, ?_⟩⟩
        show gName 4 (V.int (1 + ((r2' : Nat) : Int))) _ _ _
        rw [show 1 + ((r2' : Nat) : Int) = ((1 + r2' : Nat) : Int) by omega]
        have pos : 0 < 2 ^ (1 + r2') := Nat.pow_pos (by decide)
        refine ⟨_, rfl, c, _, rfl, cd_regs (k3 c _ nel.1 cc), .inl ⟨rfl, _, SqL.of (k3 rl _ ner.1 r1)⟩, _, rfl, ?_⟩
        refine ⟨_, rfl, a, l, ds, 997, rfl, by decide, W3, fun rv H4 hrv k4 _ W4 => ?_⟩
        refine ⟨_, rfl, _, _, rfl, rfl, ⟨by omega, by omega, by decide⟩, _, _, rfl, rfl, ?_, line 2 (by decide), fun q' nq => ?_⟩
        · show (0 : Int) < 1 * 2 ^ ((1 + r2' : Nat) : Int).toNat
          rw [two]
          omega
        have ev : ((rv : Nat) : Int) % (1 * 2 ^ (((1 + r2' : Nat) : Int)).toNat) = ((rv % 2 ^ (1 + r2') : Nat) : Int) := by
          rw [two, ← Int.natCast_emod]
        have k34 := k3.trans k4
        have k5 := k34.trans (Kp.new (o := .tup [iV (1 + r2'), .int (((rv : Nat) : Int) % (1 * 2 ^ (((1 + r2' : Nat) : Int)).toNat))]) nq)
        have W5 := W4.new (o := .tup [iV (1 + r2'), .int (((rv : Nat) : Int) % (1 * 2 ^ (((1 + r2' : Nat) : Int)).toNat))]) nq
        have r15 := k5 rl _ ner.1 r1
        have lrv : rvs.length = regs.length := by
          have := dps_len r2
          rw [List.length_map] at this
          exact this
        refine ⟨rl, _, _, rfl, rfl, r15, by rw [lrv]; exact lineS _ (by omega), ?_⟩
        refine ⟨_, _, regs ++ [(1 + r2', rv % 2 ^ (1 + r2'))], rfl, ⟨(kk.trans k5).put wrl, W5.put ner.1 ner.2, by rw [upd_ne c1]; exact k5 c _ nel.1 cc, ⟨_, upd_same, ?_⟩, by rw [upd_ne c3.symm]; exact k5 ml _ nem.1 mm, ?_⟩, ?_⟩
        · rw [List.map_append]
          exact push_dps r15 (stay_dps WW k5 (noLs_pr _) r2) (noLs_pr _) (.tup (SqT.of upd_same) (.cons (.int _) (.cons (by show Dp K _ _ (.int ((rv % 2 ^ (1 + r2') : Nat) : Int)); rw [← ev]; exact .int _) .nil))) rfl
        · intro p hp
          rcases List.mem_append.mp hp with z | z
          · exact ro p z
          · rw [List.mem_singleton.mp z]
            exact ⟨by show 1 ≤ 1 + r2'; omega, by show 1 + r2' ≤ 5; omega, Nat.mod_lt _ pos⟩
        · rw [List.length_append]
          show regs.length + 1 ≤ i + 1
          omega
      · obtain ⟨y3, y4, regs, rfl, h1, h2⟩ := h
        exact ⟨_, _, regs, rfl, h1, by omega⟩
    rintro σ H1 ⟨y3, y4, regs, rfl, ⟨kk, WW, cc, ⟨rvs, r1, r2⟩, mm, ro⟩, rn⟩
    -- the memories
    have lrg : rvs.length = regs.length := by
      have := dps_len r2
      rw [List.length_map] at this
      exact this
    let S2 : List (Nat × Nat) → Hp → Prop := fun mems H' => Kp a H H' ∧ Wd H' a l ds ∧ H' c = some (.dK (cdL rl ml)) ∧ (∃ rvs, H' rl = some (.lst rvs) ∧ DpAll K H' rvs (regs.map pr)) ∧ (∃ mvs, H' ml = some (.lst mvs) ∧ DpAll K H' mvs (mems.map pr)) ∧ MemsOk mems
    refine ⟨fun σ H' => ∃ (y3 y4 : Option V) (mems : List (Nat × Nat)), σ = [some (.ref a), some (iV m), some (.ref c), y3, y4, none, none, none, none, none, none, none, none, none, none, none] ∧ S2 mems H' ∧ mems.length ≤ 2, ?_, ?_⟩
    · refine ⟨_, rfl, a, l, ds, 3, rfl, by decide, WW, fun n1 H1 hn1 k1 e1 W1 => ⟨_, rfl, by omega, by omega, for_range (n := n1) (fun i σ H' => ∃ (y3 y4 : Option V) (mems : List (Nat × Nat)), σ = [some (.ref a), some (iV m), some (.ref c), y3, y4, none, none, none, none, none, none, none, none, none, none, none] ∧ S2 mems H' ∧ mems.length ≤ i) ⟨_, _, [], rfl, ⟨kk.trans k1, W1, k1 c _ nel.1 cc, ⟨rvs, k1 rl _ ner.1 r1, stay_dps WW k1 (noLs_pr _) r2⟩, ⟨[], k1 ml _ nem.1 mm, .nil⟩, fun p hp => by cases hp⟩, Nat.zero_le _⟩ (fun i σ H' hi h => ?_) (fun σ H' h => ?_)⟩⟩
      · obtain ⟨y3, y4, mems, rfl, ⟨kk, WW, cc, ⟨rvs, r1, r2⟩, ⟨mvs, m1, m2⟩, mo⟩, rn⟩ := h
        refine ⟨_, rfl, c, _, rfl, cd_mems cc, .inl ⟨rfl, _, SqL.of m1⟩, ?_⟩
        refine ⟨_, rfl, a, l, ds, 2, rfl, by decide, WW, fun ra H3 hra k3 _ W3 => ⟨_, _, rfl, rfl, _, rfl, a, l, ds, 4, rfl, by decide, W3, fun rb H4 hrb k4 _ W4 => ⟨_, _, rfl, rfl, line 2 (by decide), fun q' nq => ?_⟩⟩⟩
        have k34 := k3.trans k4
        have k5 := k34.trans (Kp.new (o := .tup [.int (1 + ((ra : Nat) : Int)), .int (1 + ((rb : Nat) : Int))]) nq)
        have W5 := W4.new (o := .tup [.int (1 + ((ra : Nat) : Int)), .int (1 + ((rb : Nat) : Int))]) nq
        have m15 := k5 ml _ nem.1 m1
        have lmv : mvs.length = mems.length := by
          have := dps_len m2
          rw [List.length_map] at this
          exact this
        have r15 := k5 rl _ ner.1 r1
        refine ⟨ml, _, _, rfl, rfl, m15, by rw [lmv]; exact lineS _ (by omega), ?_⟩
        refine ⟨_, _, mems ++ [(1 + ra, 1 + rb)], rfl, ⟨(kk.trans k5).put wml, W5.put nem.1 nem.2, by rw [upd_ne c2]; exact k5 c _ nel.1 cc, ⟨rvs, by rw [upd_ne c3]; exact r15, ?_⟩, ⟨_, upd_same, ?_⟩, ?_⟩, ?_⟩
        · exact dps_stay (tups_upd m15) _ _ (stay_dps WW k5 (noLs_pr _) r2) (noLs_pr _)
        · rw [List.map_append]
          refine push_dps m15 (stay_dps WW k5 (noLs_pr _) m2) (noLs_pr _) (.tup (SqT.of upd_same) (.cons (dpI (y := ((1 + ra : Nat) : Int)) (by omega)) (.cons (dpI (y := ((1 + rb : Nat) : Int)) (by omega)) .nil))) rfl
        · intro p hp
          rcases List.mem_append.mp hp with z | z
          · exact mo p z
          · rw [List.mem_singleton.mp z]
            exact ⟨by show 1 ≤ 1 + ra; omega, by show 1 + ra ≤ 2; omega, by show 1 ≤ 1 + rb; omega, by show 1 + rb ≤ 4; omega⟩
        · rw [List.length_append]
          show mems.length + 1 ≤ i + 1
          omega
      · obtain ⟨y3, y4, mems, rfl, h1, h2⟩ := h
        exact ⟨_, _, mems, rfl, h1, by omega⟩
    clear kk WW cc r1 r2 mm
    rintro σ Hb ⟨y3, y4, mems, rfl, ⟨kk, WW, cc, ⟨rvs, r1, r2⟩, ⟨mvs, m1, m2⟩, mo⟩, mn⟩
    have lrv : rvs.length = regs.length := by
      have := dps_len r2
      rw [List.length_map] at this
      exact this
    have lmv : mvs.length = mems.length := by
      have := dps_len m2
      rw [List.length_map] at this
      exact this
    have CD0 : CD K Hb c rl ml regs mems := ⟨cc, ⟨rvs, r1, r2⟩, ⟨mvs, m1, m2⟩⟩
    -- rows, widths
    refine ⟨Nat.zero_le _, fun R nR => ⟨Nat.zero_le _, fun Wl nW => ⟨line 2 (by decide), fun t nt => ?_⟩⟩⟩
    have RW : R ≠ Wl := ne_of_none upd_same nW
    have nWb : Hb Wl = none := by
      rw [upd_ne RW.symm] at nW
      exact nW
    refine ⟨t, _, rfl, SqT.of upd_same, rfl, _, _, rfl, _, _, rfl, rfl, ?_⟩
    have hRt : R ≠ t := ne_of_none (by rw [upd_ne RW]; exact upd_same) nt
    have hWt : Wl ≠ t := ne_of_none upd_same nt
    have ntb : Hb t = none := by
      rw [upd_ne hWt.symm, upd_ne hRt.symm] at nt
      exact nt
    have neR := WW.ne2 nR
    have neW := WW.ne2 nWb
    have net := WW.ne2 ntb
    let Rw : List Row → List Nat → Hp → Prop := fun rows ws H' => Kp a Hb H' ∧ Wd H' a l ds ∧ (∃ vs, H' R = some (.lst vs) ∧ DpAll K H' vs (rows.map Row.d)) ∧ H' Wl = some (.lst (ws.map iV)) ∧ RowsOk regs mems rows ws
    have Rw0 : Rw [] [] (upd (upd (upd Hb R (.lst [])) Wl (.lst [])) t (.tup [.ref R, .ref Wl])) := ⟨(((Kp.refl Hb).put nR).put nWb).put ntb, ((WW.put neR.1 neR.2).put neW.1 neW.2).put net.1 net.2, ⟨[], by rw [upd_ne hRt, upd_ne RW]; exact upd_same, .nil⟩, by rw [upd_ne hWt]; exact upd_same, .nil⟩
    have RwPush : ∀ {rows ws H' q' row wd}, Rw rows ws H' → Dp K H' (.ref q') row.d → RowOk regs mems ws row wd → 1 ≤ wd → wd ≤ 12 → rows.length ≤ 100 → ∃ vs, H' R = some (.lst vs) ∧ vs.length < sizeLine ∧ (∀ o, (upd H' R o) Wl = some (.lst (ws.map iV))) ∧ (ws.map iV).length < sizeLine ∧ Rw (rows ++ [row]) (ws ++ [wd]) (upd (upd H' R (.lst (vs ++ [.ref q']))) Wl (.lst (ws.map iV ++ [iV wd]))) := by
      rintro rows ws H' q' row wd ⟨k, W', ⟨vs, v1, v2⟩, w1, ro⟩ hd ho h1 h2 hl
      have e1 := dps_len v2
      rw [List.length_map] at e1
      have e2 := rows_len ro
      refine ⟨vs, v1, lineS _ (by omega), fun o => by rw [upd_ne RW.symm]; exact w1, by rw [List.length_map]; exact lineS _ (by omega), (k.put nR).put nWb, (W'.put neR.1 neR.2).put neW.1 neW.2, ⟨_, by rw [upd_ne RW]; exact upd_same, ?_⟩, ?_, .snoc ro ho h1 h2⟩
      · have w2 : (upd H' R (.lst (vs ++ [.ref q']))) Wl = some (.lst (ws.map iV)) := by
          rw [upd_ne RW.symm]
          exact w1
        have h := dps_stay (tups_upd (o := .lst (ws.map iV ++ [iV wd])) w2) _ _ (push_dps (o := .lst (vs ++ [.ref q'])) v1 v2 (noLs_rows _) hd (Row.noL _)) (by rw [noLs_app, noLs_rows]; show (true && (noL row.d && true)) = true; rw [Row.noL]; rfl)
        rw [List.map_append]
        exact h
      · rw [List.map_append]
        exact upd_same
    refine ⟨fun σ H' => ∃ (y3 y4 y7 : Option V) (rows : List Row) (ws : List Nat), σ = [some (.ref a), some (iV m), some (.ref c), y3, y4, some (.ref R), some (.ref Wl), y7, none, none, none, none, none, none, none, none] ∧ Rw rows ws H' ∧ 0 < ws.length ∧ ws.length ≤ 53, ?_, ?_⟩
    · refine ⟨_, rfl, _, rfl, a, l, ds, _, rfl, by omega, Rw0.2.1, fun n1 H1 hn1 k1 e1 W1 => ⟨_, _, rfl, rfl, _, rfl, by omega, by omega, ?_⟩⟩
      refine for_range (n := (4 + ((n1 : Nat) : Int)).toNat) (fun i σ H' => ∃ (y3 y4 y7 : Option V) (rows : List Row) (ws : List Nat), σ = [some (.ref a), some (iV m), some (.ref c), y3, y4, some (.ref R), some (.ref Wl), y7, none, none, none, none, none, none, none, none] ∧ Rw rows ws H' ∧ ws.length = i) ⟨_, _, _, [], [], rfl, ⟨Rw0.1.trans k1, W1, ?_, k1 Wl _ neW.1 Rw0.2.2.2.1, .nil⟩, rfl⟩ (fun i σ H' hi h => ?_) (fun σ H' h => ?_)
      · obtain ⟨vs, v1, v2⟩ := Rw0.2.2.1
        exact ⟨vs, k1 R _ neR.1 v1, stay_dps Rw0.2.1 k1 rfl v2⟩
      · obtain ⟨y3, y4, y7, rows, ws, rfl, RR, wl⟩ := h
        have hil : i < 53 := by omega
        refine ⟨_, rfl, _, rfl, _, rfl, a, l, c, rl, ml, Wl, ds, regs, mems, ws, rfl, RR.2.1, CD0.kp WW RR.1, RR.2.2.2.1, ro, mo, rows_ws RR.2.2.2.2, by omega, by omega, by omega, fun H4 p q' row wd k4 W4 hp hq ho h1 h2 => ?_⟩
        refine ⟨p, _, rfl, SqT.of hp, rfl, _, _, rfl, _, _, rfl, rfl, ?_⟩
        have R4 : Rw rows ws H4 := ⟨RR.1.trans k4, W4, by
          obtain ⟨vs, v1, v2⟩ := RR.2.2.1
          exact ⟨vs, k4 R _ neR.1 v1, stay_dps RR.2.1 k4 (noLs_rows _) v2⟩, k4 Wl _ neW.1 RR.2.2.2.1, RR.2.2.2.2⟩
        have rl4 := rows_len R4.2.2.2.2
        obtain ⟨vs, v1, v2, w1, w2, RP⟩ := RwPush R4 hq ho h1 h2 (by omega)
        refine ⟨_, rfl, .inl ⟨rfl, _, SqL.of v1⟩, _, rfl, R, _, _, rfl, rfl, v1, v2, ?_⟩
        refine ⟨_, rfl, .inl ⟨rfl, _, SqL.of (w1 _)⟩, _, rfl, Wl, _, _, rfl, rfl, w1 _, w2, ?_⟩
        refine ⟨_, _, _, rows ++ [row], ws ++ [wd], rfl, RP, ?_⟩
        rw [List.length_append]
        show ws.length + 1 = i + 1
        omega
      · obtain ⟨y3, y4, y7, rows, ws, rfl, RR, wl⟩ := h
        exact ⟨_, _, _, rows, ws, rfl, RR, by omega, by omega⟩
    rintro σ H1 ⟨y3, y4, y7, rows, ws, rfl, RR, wpos, wlen⟩
    -- the nexts
    refine ⟨Nat.zero_le _, fun N nN => ?_⟩
    obtain ⟨kb, W1, ⟨rws, rw1, rw2⟩, wl1, rok⟩ := RR
    have NR' : R ≠ N := ne_of_none rw1 nN
    have NW' : Wl ≠ N := ne_of_none wl1 nN
    have nNb : Hb N = none := kp_none kb (W1.fresh nN) nN
    have neN := WW.ne2 nNb
    have RN : Rw rows ws (upd H1 N (.lst [])) := ⟨kb.put nNb, W1.put neN.1 neN.2, ⟨rws, by rw [upd_ne NR']; exact rw1, stay_dps W1 (Kp.new nN) (noLs_rows _) rw2⟩, by rw [upd_ne NW']; exact wl1, rok⟩
    let Nx : List Nat → List Nat → Prop := fun ws nexts => ∀ (j : Nat) (p : Nat × Nat) (n : Nat), regs[j]? = some p → nexts[j]? = some n → ws[n]? = some p.1
    refine ⟨fun σ H' => ∃ (y3 y4 y7 y9 y10 : Option V) (rows : List Row) (ws nexts : List Nat), σ = [some (.ref a), some (iV m), some (.ref c), y3, y4, some (.ref R), some (.ref Wl), y7, some (.ref N), y9, y10, none, none, none, none, none] ∧ Rw rows ws H' ∧ H' N = some (.lst (nexts.map iV)) ∧ nexts.length = regs.length ∧ Nx ws nexts ∧ 0 < ws.length ∧ ws.length ≤ 57, ?_, ?_⟩
    · have rlN : ∀ {H2 : Hp}, Kp a Hb H2 → H2 rl = some (.lst rvs) := fun k => k rl _ ner.1 r1
      refine ⟨_, rfl, c, _, rfl, cd_regs (CD0.kp WW RN.1).c0, rl, rfl, ⟨_, SqL.of (rlN RN.1)⟩, for_list (xs := rvs) (fun i σ H' => ∃ (y3 y4 y7 y9 y10 : Option V) (rows : List Row) (ws nexts : List Nat), σ = [some (.ref a), some (iV m), some (.ref c), y3, y4, some (.ref R), some (.ref Wl), y7, some (.ref N), y9, y10, none, none, none, none, none] ∧ Rw rows ws H' ∧ H' N = some (.lst (nexts.map iV)) ∧ nexts.length = i ∧ Nx ws nexts ∧ 0 < ws.length ∧ ws.length ≤ 53 + i) ⟨_, _, _, _, _, rows, ws, [], rfl, RN, upd_same, rfl, fun j p n _ h => by simp at h, wpos, wlen⟩ (fun i σ H' hi h => ?_) (fun i x σ H' hx h => ?_) (fun σ H' h => ?_)⟩
      · obtain ⟨_, _, _, _, _, rows, ws, nexts, _, RR, _⟩ := h
        exact SqL.of (rlN RR.1)
      · obtain ⟨y3, y4, y7, y9, y10, rows, ws, nexts, rfl, RR, hN, nl, nx, wp, wl⟩ := h
        have hi : i < regs.length := by
          rw [← lrv]
          exact (List.getElem?_eq_some_iff.mp hx).1
        obtain ⟨p, ep⟩ : ∃ p, regs[i]? = some p := ⟨_, List.getElem?_eq_getElem hi⟩
        have rbd := ro p (List.mem_of_getElem? ep)
        obtain ⟨b, hb1, hb2⟩ := pr_at (stay_dps WW RR.1 (noLs_pr _) r2) ep
        have exb : x = .ref b := Option.some.inj (hx.symm.trans hb1)
        subst exb
        obtain ⟨kb, W1, ⟨rws, rw1, rw2⟩, wl1, rok⟩ := RR
        have lrw : rws.length = ws.length := by
          have := dps_len rw2
          rw [List.length_map] at this
          rw [this, rows_len rok]
        refine ⟨b, _, rfl, hb2, rfl, _, _, rfl, _, _, rfl, rfl, ?_⟩
        refine ⟨_, rfl, R, _, rfl, .inl (SqL.of rw1), ?_⟩
        rw [lrw]
        have ROn : ∀ {O : Addr} {o : HO}, H' O = none → Rw rows ws (upd H' O o) ∧ O ≠ R ∧ O ≠ Wl ∧ O ≠ N ∧ (upd H' O o) N = some (.lst (nexts.map iV)) := fun {O o} nO => by
          have n1 : R ≠ O := ne_of_none rw1 nO
          have n2 : Wl ≠ O := ne_of_none wl1 nO
          have n3 : N ≠ O := ne_of_none hN nO
          exact ⟨⟨kb.trans (Kp.new nO), W1.new nO, ⟨rws, by rw [upd_ne n1]; exact rw1, stay_dps W1 (Kp.new nO) (noLs_rows _) rw2⟩, by rw [upd_ne n2]; exact wl1, rok⟩, n1.symm, n2.symm, n3.symm, by rw [upd_ne n3]; exact hN⟩
        refine ⟨_, rfl, by omega, by omega, fun O nO => lc_range (n := ws.length) (fun j H2 => H2 = upd H' O (.lst ((fits ws p.1 j).map iV))) rfl (fun j H2 hj h => ?_) (fun H2 h => ?_)⟩
        · subst h
          rw [Int.zero_add]
          have wlO := (ROn (o := .lst ((fits ws p.1 j).map iV)) nO).1.2.2.2.1
          obtain ⟨v, ev⟩ : ∃ v, ws[j]? = some v := ⟨_, List.getElem?_eq_getElem hj⟩
          refine ⟨rfl, _, rfl, _, rfl, Wl, _, _, _, rfl, rfl, SqL.of wlO, atI_nat (int_at ev), _, rfl, rfl, _, rfl, ite2 (fun a2 => ?_) (fun a2 => ?_)⟩
          · have e2 : v = p.1 := Int.ofNat.inj (V.int.inj (of_decide_eq_true a2))
            refine ⟨_, rfl, _, upd_same, ?_, ?_⟩
            · rw [List.length_map]
              exact Nat.lt_of_le_of_lt (fits_len _ _ _) (lineS _ (by omega))
            · rw [upd_upd, fits_yes (by rw [ev, e2]), List.map_append]
              rfl
          · rw [fits_no (by rw [ev]; intro z; exact a2 (decide_eq_true (by rw [Option.some.inj z])))]
        subst h
        obtain ⟨RO, o1, o2, o3, hNO⟩ := ROn (o := .lst ((fits ws p.1 ws.length).map iV)) nO
        have nOb : Hb O = none := kp_none kb (W1.fresh nO) nO
        have neO := WW.ne2 nOb
        refine ⟨fun σ H2 => ∃ (rows : List Row) (ws ks : List Nat) (O : Addr), σ = [some (.ref a), some (iV m), some (.ref c), y3, some (iV p.1), some (.ref R), some (.ref Wl), y7, some (.ref N), some (iV p.2), some (.ref O), none, none, none, none, none] ∧ Rw rows ws H2 ∧ H2 N = some (.lst (nexts.map iV)) ∧ H2 O = some (.lst (ks.map iV)) ∧ 0 < ks.length ∧ ks.length ≤ 100 ∧ (∀ k ∈ ks, ws[k]? = some p.1) ∧ Nx ws nexts ∧ 0 < ws.length ∧ ws.length ≤ 53 + (i + 1), ?_, ?_⟩
        · refine ⟨_, rfl, Nat.zero_le _, fun z nz => ?_⟩
          have wlz : (upd (upd H' O (.lst ((fits ws p.1 ws.length).map iV))) z (.lst [])) O = some (.lst ((fits ws p.1 ws.length).map iV)) := by
            rw [upd_ne (ne_of_none upd_same nz)]
            exact upd_same
          have n1 : R ≠ z := ne_of_none RO.2.2.1.choose_spec.1 nz
          have n2 : Wl ≠ z := ne_of_none RO.2.2.2.1 nz
          have n3 : N ≠ z := ne_of_none hNO nz
          have hNz : (upd (upd H' O (.lst ((fits ws p.1 ws.length).map iV))) z (.lst [])) N = some (.lst (nexts.map iV)) := by
            rw [upd_ne n3]
            exact hNO
          obtain ⟨kO, WO, ⟨rws2, rw12, rw22⟩, wl12, rok2⟩ := RO
          have Rz : Rw rows ws (upd (upd H' O (.lst ((fits ws p.1 ws.length).map iV))) z (.lst [])) := ⟨kO.trans (Kp.new nz), WO.new nz, ⟨rws2, by rw [upd_ne n1]; exact rw12, stay_dps WO (Kp.new nz) (noLs_rows _) rw22⟩, by rw [upd_ne n2]; exact wl12, rok2⟩
          refine ⟨.list ((fits ws p.1 ws.length).map iD), .list [], .lst (SqL.of wlz) (dps_ints _), .lst (SqL.of upd_same) .nil, shaped_list _ (cL_int _), shaped_list [] (fun d hd => by cases hd), _, rfl, ?_⟩
          rw [eqv_nil]
          refine ite2 (fun a2 => ?_) (fun a2 => ?_)
          · -- a row of the law's own
            obtain ⟨vz, vz1, _⟩ := Rz.2.2.1
            refine ⟨_, rfl, .inl ⟨rfl, _, SqL.of vz1⟩, _, rfl, line 3 (by decide), fun q' nq => ?_⟩
            have n4 : R ≠ q' := ne_of_none Rz.2.2.1.choose_spec.1 nq
            have n5 : Wl ≠ q' := ne_of_none Rz.2.2.2.1 nq
            have n6 : N ≠ q' := ne_of_none hNz nq
            obtain ⟨kz, Wz, ⟨rws3, rw13, rw23⟩, wl13, rok3⟩ := Rz
            have Rq : Rw rows ws (upd (upd (upd H' O (.lst ((fits ws p.1 ws.length).map iV))) z (.lst [])) q' (.tup [.str "lit", .int 1, iV p.1])) := ⟨kz.trans (Kp.new nq), Wz.new nq, ⟨rws3, by rw [upd_ne n4]; exact rw13, stay_dps Wz (Kp.new nq) (noLs_rows _) rw23⟩, by rw [upd_ne n5]; exact wl13, rok3⟩
            have h2p : 1 < 2 ^ p.1 := Nat.lt_of_lt_of_le (by decide : 1 < 2 ^ 1) (Nat.pow_le_pow_right (by decide) rbd.1)
            have rle := rows_len rok3
            obtain ⟨vs, v1, v2, w1, w2, RP⟩ := RwPush (q' := q') (row := .lit 1 p.1) (wd := p.1) Rq (.tup (SqT.of upd_same) (.cons (.str _) (.cons (.int _) (.cons (.int _) .nil)))) (.lit h2p) rbd.1 (by omega) (by omega)
            have hNq : (upd (upd (upd H' O (.lst ((fits ws p.1 ws.length).map iV))) z (.lst [])) q' (.tup [.str "lit", .int 1, iV p.1])) N = some (.lst (nexts.map iV)) := by
              rw [upd_ne n6]
              exact hNz
            refine ⟨R, _, _, rfl, rfl, v1, v2, ?_⟩
            refine ⟨_, rfl, .inl ⟨rfl, _, SqL.of (w1 _)⟩, _, rfl, Wl, _, _, rfl, rfl, w1 _, w2, ?_⟩
            obtain ⟨vs5, v5, d5⟩ := RP.2.2.1
            have l5 : vs5.length = ws.length + 1 := by
              have := dps_len d5
              rw [List.length_map, List.length_append] at this
              rw [this, rle]
              rfl
            refine ⟨_, rfl, R, _, rfl, .inl (SqL.of v5), _, _, rfl, rfl, line 1 (by decide), fun O2 nO2 => ?_⟩
            have n7 : R ≠ O2 := ne_of_none v5 nO2
            have n8 : Wl ≠ O2 := ne_of_none RP.2.2.2.1 nO2
            have hNP : (upd (upd (upd (upd (upd H' O (.lst ((fits ws p.1 ws.length).map iV))) z (.lst [])) q' (.tup [.str "lit", .int 1, iV p.1])) R (.lst (vs ++ [.ref q']))) Wl (.lst (ws.map iV ++ [iV p.1]))) N = some (.lst (nexts.map iV)) := by
              rw [upd_ne NW'.symm, upd_ne NR'.symm]
              exact hNq
            have n9 : N ≠ O2 := ne_of_none hNP nO2
            obtain ⟨k6, W6, ⟨rws6, rw16, rw26⟩, wl16, rok6⟩ := RP
            have e6 : (((vs5.length : Nat) : Int)) - 1 = ((ws.length : Nat) : Int) := by omega
            refine ⟨rows ++ [.lit 1 p.1], ws ++ [p.1], [ws.length], O2, rfl, ⟨k6.trans (Kp.new nO2), W6.new nO2, ⟨rws6, by rw [upd_ne n7]; exact rw16, stay_dps W6 (Kp.new nO2) (noLs_rows _) rw26⟩, by rw [upd_ne n8]; exact wl16, rok6⟩, by rw [upd_ne n9]; exact hNP, ?_, Nat.zero_lt_one, (by show 1 ≤ 100; decide), fun k hk => ?_, fun j pp n hj hn => ?_, ?_, ?_⟩
            · show _ = some (HO.lst [V.int ((ws.length : Nat) : Int)])
              rw [← e6]
              exact upd_same
            · rw [List.mem_singleton.mp hk, List.getElem?_append_right (Nat.le_refl _), Nat.sub_self]
              rfl
            · have := nx j pp n hj hn
              rw [List.getElem?_append_left (List.getElem?_eq_some_iff.mp this).1]
              exact this
            · rw [List.length_append]
              omega
            · rw [List.length_append]
              show ws.length + 1 ≤ 53 + (i + 1)
              omega
          · refine ⟨rows, ws, fits ws p.1 ws.length, O, rfl, Rz, hNz, wlz, ?_, Nat.le_trans (fits_len _ _ _) (by omega), fun k hk => (fits_mem.mp hk).2, nx, wp, by omega⟩
            cases e : fits ws p.1 ws.length with
            | nil =>
              rw [e] at a2
              exact absurd rfl a2
            | cons _ _ => exact Nat.zero_lt_succ _
        rintro σ H2 ⟨rows, ws, ks, O, rfl, R2, hN2, hO2, kp, kl, kall, nx2, wp2, wl2⟩
        refine ⟨_, rfl, .inl ⟨rfl, _, SqL.of hN2⟩, _, rfl, _, rfl, _, rfl, O, _, rfl, .inl (SqL.of hO2), a, l, ds, _, rfl, by rw [List.length_map]; omega, R2.2.1, fun r7 H3 hr7 k7 _ W7 => ?_⟩
        rw [List.length_map] at hr7
        obtain ⟨kv, ek⟩ : ∃ kv, ks[r7]? = some kv := ⟨_, List.getElem?_eq_getElem (by omega)⟩
        have neO2 : O ≠ a := fun z => by
          obtain ⟨_, _, e⟩ := R2.2.1.at'
          rw [z, e] at hO2
          cases hO2
        have hN3 := k7 N _ neN.1 hN2
        refine ⟨O, _, _, _, rfl, rfl, SqL.of (k7 O _ neO2 hO2), atI_nat (int_at ek), N, _, _, rfl, rfl, hN3, by rw [List.length_map]; exact lineS _ (by omega), ?_⟩
        obtain ⟨k6, W6, ⟨rws6, rw16, rw26⟩, wl16, rok6⟩ := R2
        refine ⟨_, _, _, _, _, rows, ws, nexts ++ [kv], rfl, ⟨(k6.trans k7).put nNb, W7.put neN.1 neN.2, ⟨rws6, by rw [upd_ne NR']; exact k7 R _ neR.1 rw16, ?_⟩, by rw [upd_ne NW']; exact k7 Wl _ neW.1 wl16, rok6⟩, ?_, ?_, ?_, wp2, wl2⟩
        · exact dps_stay (tups_upd hN3) _ _ (stay_dps W6 k7 (noLs_rows _) rw26) (noLs_rows _)
        · rw [List.map_append]
          exact upd_same
        · rw [List.length_append]
          show nexts.length + 1 = i + 1
          omega
        · intro j pp n hj hn
          by_cases hjl : j < nexts.length
          · rw [List.getElem?_append_left hjl] at hn
            exact nx2 j pp n hj hn
          · rw [List.getElem?_append_right (by omega)] at hn
            have : j - nexts.length = 0 := by
              have := (List.getElem?_eq_some_iff.mp hn).1
              simp at this
              omega
            rw [this] at hn
            have e1 : kv = n := Option.some.inj hn
            have e2 : j = i := by omega
            subst e1 e2
            rw [ep] at hj
            cases hj
            exact kall _ (List.mem_of_getElem? ek)
      · obtain ⟨y3, y4, y7, y9, y10, rows, ws, nexts, rfl, RR, hN, nl, nx, wp, wl⟩ := h
        exact ⟨_, _, _, _, _, rows, ws, nexts, rfl, RR, hN, by omega, nx, wp, by omega⟩
    rintro σ Hs ⟨y3, y4, y7, y9, y10, rows, ws, nexts, rfl, RR, hN, nl, nx, wp, wl⟩
    -- the stores
    refine ⟨Nat.zero_le _, fun St nS => ?_⟩
    obtain ⟨kb, Ws, ⟨rws, rw1, rw2⟩, wl1, rok⟩ := RR
    have lrw : rws.length = ws.length := by
      have := dps_len rw2
      rw [List.length_map] at this
      rw [this, rows_len rok]
    have neS := Ws.ne2 nS
    have kS : Kp a Hs (upd Hs St (.lst [])) := (Kp.refl Hs).put nS
    have WS : Wd (upd Hs St (.lst [])) a l ds := Ws.put neS.1 neS.2
    let SoOk : (Nat × Nat × Nat × Nat) → Prop := fun s => ∃ p : Nat × Nat, mems[s.1]? = some p ∧ ws[s.2.1]? = some p.1 ∧ ws[s.2.2.1]? = some p.2 ∧ ws[s.2.2.2]? = some 1
    let S5 : List (Nat × Nat × Nat × Nat) → Hp → Prop := fun stores H' => Kp a Hs H' ∧ Wd H' a l ds ∧ (∃ svs, H' St = some (.lst svs) ∧ DpAll K H' svs (stores.map stD)) ∧ ∀ s ∈ stores, SoOk s
    have CDs : CD K Hs c rl ml regs mems := CD0.kp WW kb
    refine ⟨fun σ H' => ∃ (y3 y4 y7 y9 y10 y12 y13 : Option V) (stores : List (Nat × Nat × Nat × Nat)), σ = [some (.ref a), some (iV m), some (.ref c), y3, y4, some (.ref R), some (.ref Wl), y7, some (.ref N), y9, y10, some (.ref St), y12, y13, none, none] ∧ S5 stores H' ∧ stores.length ≤ 2, ?_, ?_⟩
    · refine ⟨_, rfl, c, _, rfl, cd_mems (CDs.kp Ws kS).c0, ml, _, rfl, .inl (SqL.of (kS ml _ (wd_lne Ws (kb ml _ nem.1 m1)) (kb ml _ nem.1 m1))), ?_⟩
      rw [lmv]
      refine ⟨_, rfl, by omega, by omega, for_range (n := mems.length) (fun i σ H' => ∃ (y3 y4 y7 y9 y10 y12 y13 : Option V) (stores : List (Nat × Nat × Nat × Nat)), σ = [some (.ref a), some (iV m), some (.ref c), y3, y4, some (.ref R), some (.ref Wl), y7, some (.ref N), y9, y10, some (.ref St), y12, y13, none, none] ∧ S5 stores H' ∧ stores.length ≤ i) ⟨_, _, _, _, _, _, _, [], rfl, ⟨kS, WS, ⟨[], upd_same, .nil⟩, fun s hs => by cases hs⟩, Nat.zero_le _⟩ (fun i σ H' hi h => ?_) (fun σ H' h => ?_)⟩
      · obtain ⟨y3, y4, y7, y9, y10, y12, y13, stores, rfl, ⟨k5, W5, ⟨svs, s1, s2⟩, sok⟩, sl⟩ := h
        show gName 12 (V.int (0 + ((i : Nat) : Int))) _ _ _
        rw [Int.zero_add]
        obtain ⟨p, ep⟩ : ∃ p, mems[i]? = some p := ⟨_, List.getElem?_eq_getElem hi⟩
        have bd := mo p (List.mem_of_getElem? ep)
        have k5b := kb.trans k5
        obtain ⟨b, hb1, hb2⟩ := pr_at (stay_dps WW k5b (noLs_pr _) m2) ep
        -- the tuple of widths
        refine ⟨_, rfl, c, _, rfl, cd_mems (CDs.kp Ws k5).c0, _, rfl, ml, _, _, _, rfl, rfl, SqL.of (k5b ml _ nem.1 m1), atI_nat (j := i) hb1, line 1 (by decide), fun u nu => ?_⟩
        have ku := k5.trans (Kp.new (o := .tup [.int 1]) nu)
        have Wu := W5.new (o := .tup [.int 1]) nu
        have hbu : SqT K (upd H' u (.tup [.int 1])) b [iV p.1, iV p.2] := by
          obtain ⟨_, _, e⟩ := W5.at'
          exact kp_tup e (Kp.new nu) _ _ hb2
        refine ⟨b, u, _, _, rfl, rfl, hbu, SqT.of upd_same, (fun z => by cases z), line 3 (by decide), (fun z => by cases z), fun _ v nv => ?_⟩
        have kv := ku.trans (Kp.new (o := .tup [iV p.1, iV p.2, .int 1]) nv)
        have Wv := Wu.new (o := .tup [iV p.1, iV p.2, .int 1]) nv
        let Hv : Hp := upd (upd H' u (.tup [.int 1])) v (.tup [iV p.1, iV p.2, .int 1])
        have hv : Hv v = some (.tup [iV p.1, iV p.2, iV 1]) := upd_same
        have neV : v ≠ a := Wu.fresh nv
        have svHv : DpAll K Hv svs (stores.map stD) := stay_dps W5 ((Kp.new nu).trans (Kp.new nv)) (noLs_st _) s2
        have nSa : St ≠ a := neS.1
        have s1v : Hv St = some (.lst svs) := by
          show (upd (upd H' u (.tup [.int 1])) v (.tup [iV p.1, iV p.2, .int 1])) St = _
          rw [upd_ne (ne_of_none (by rw [upd_ne (ne_of_none s1 nu)]; exact s1) nv), upd_ne (ne_of_none s1 nu)]
          exact s1
        have atW : ∀ {H2 : Hp} {j x : Nat}, Kp a Hv H2 → ws[j]? = some x → SqL K H2 Wl (ws.map iV) ∧ atI (ws.map iV) ((j : Nat) : Int) = some (iV x) := fun k e => ⟨SqL.of ((kv.trans k) Wl _ neW.1 wl1), atI_nat (int_at e)⟩
        have atR : ∀ {H2 : Hp}, Kp a Hv H2 → SqL K H2 R rws := fun k => SqL.of ((kv.trans k) R _ neR.1 rw1)
        let wants : List Nat := [p.1, p.2, 1]
        refine ⟨v, rfl, ⟨_, SqT.of hv⟩, fun D nD => ?_⟩
        obtain ⟨PvO, ePO⟩ : ∃ PvO : Nat → Hp → Prop, PvO = fun j H2 => Kp a Hv H2 ∧ Wd H2 a l ds ∧ ∃ os : List Addr, os.length = j ∧ H2 D = some (.lst (os.map V.ref)) ∧ ∀ (k : Nat) (o : Addr), os[k]? = some o → o ≠ D ∧ ∃ x : Nat, wants[k]? = some x ∧ H2 o = some (.lst ((fits ws x ws.length).map iV)) := ⟨_, rfl⟩
        have neD : D ≠ a := Wv.fresh nD
        refine lc_tup (xs := wants.map iV) PvO ?_ (fun j H2 _ h => ?_) (fun j x H2 hx h => ?_) (fun H2 h => ?_)
        · rw [ePO]
          exact ⟨Kp.new nD, Wv.new nD, [], rfl, upd_same, fun k o h => by simp at h⟩
        · rw [ePO] at h
          exact SqT.of (h.1 v _ neV hv)
        · rw [ePO] at h
          obtain ⟨k2, W2, os, ol, hD, hos⟩ := h
          obtain ⟨xw, exw⟩ : ∃ xw, wants[j]? = some xw := by
            rw [List.getElem?_map] at hx
            cases e : wants[j]? with
            | none =>
              rw [e] at hx
              cases hx
            | some xw => exact ⟨xw, rfl⟩
          have ex : x = iV xw := by
            rw [List.getElem?_map, exw] at hx
            exact (Option.some.inj hx).symm
          subst ex
          refine ⟨rfl, ?_⟩
          refine ⟨_, rfl, R, _, rfl, .inl (atR k2), ?_⟩
          rw [lrw]
          refine ⟨_, rfl, by omega, by omega, fun O nO => lc_range (n := ws.length) (fun k H3 => H3 = upd H2 O (.lst ((fits ws xw k).map iV))) rfl (fun k H3 hk h => ?_) (fun H3 h => ?_)⟩
          · subst h
            rw [Int.zero_add]
            have k3 := k2.trans (Kp.new (o := .lst ((fits ws xw k).map iV)) nO)
            obtain ⟨x, ev⟩ : ∃ x, ws[k]? = some x := ⟨_, List.getElem?_eq_getElem hk⟩
            refine ⟨rfl, _, rfl, _, rfl, Wl, _, _, _, rfl, rfl, (atW k3 ev).1, (atW k3 ev).2, _, rfl, rfl, _, rfl, ite2 (fun a2 => ?_) (fun a2 => ?_)⟩
            · have e2 : x = xw := Int.ofNat.inj (V.int.inj (of_decide_eq_true a2))
              refine ⟨_, rfl, _, upd_same, ?_, ?_⟩
              · rw [List.length_map]
                exact Nat.lt_of_le_of_lt (fits_len _ _ _) (lineS _ (by omega))
              · rw [upd_upd, fits_yes (by rw [ev, e2]), List.map_append]
                rfl
            · rw [fits_no (by rw [ev]; intro z; exact a2 (decide_eq_true (by rw [Option.some.inj z])))]
          subst h
          have nDO : D ≠ O := ne_of_none hD nO
          have hj3 : j < 3 := (List.getElem?_eq_some_iff.mp exw).1
          refine ⟨os.map V.ref, by rw [upd_ne nDO]; exact hD, by rw [List.length_map, ol]; exact lineS _ (by omega), ?_⟩
          rw [ePO]
          have nDb : Hv D = none := nD
          refine ⟨(k2.trans (Kp.new nO)).put nDb, (W2.new nO).put neD (Wv.ne2 nD).2, os ++ [O], by rw [List.length_append, ol]; rfl, by rw [List.map_append]; exact upd_same, fun k o ho => ?_⟩
          by_cases hk : k < os.length
          · rw [List.getElem?_append_left hk] at ho
            obtain ⟨h1, x, h2, h3⟩ := hos k o ho
            refine ⟨h1, x, h2, ?_⟩
            rw [upd_ne h1, upd_ne (ne_of_none h3 nO)]
            exact h3
          · rw [List.getElem?_append_right (by omega)] at ho
            have e0 : k - os.length = 0 := by
              have := (List.getElem?_eq_some_iff.mp ho).1
              simp at this
              omega
            rw [e0] at ho
            cases ho
            have : k = j := by omega
            subst this
            refine ⟨nDO.symm, xw, exw, ?_⟩
            rw [upd_ne nDO.symm]
            exact upd_same
        rw [ePO] at h
        obtain ⟨k2, W2, os, ol, hD, hos⟩ := h
        have lneq : ∀ {H3 : Hp} {b : Addr} {xs : List V}, Wd H3 a l ds → H3 b = some (.lst xs) → b ≠ a := fun W h => wd_lne W h
        have S5of : ∀ {H3 : Hp}, Kp a Hv H3 → Wd H3 a l ds → S5 stores H3 := fun {H3} k W => ⟨kv.trans k, W, ⟨svs, k St _ nSa s1v, stay_dps Wv k (noLs_st _) svHv⟩, sok⟩
        have neE2 : ∀ {E : Addr}, H2 E = none → E ≠ a := fun n => W2.fresh n
        refine ⟨_, rfl, D, rfl, ⟨_, SqL.of hD⟩, fun E nE => ?_⟩
        obtain ⟨PvE, ePE⟩ : ∃ PvE : Nat → Hp → Prop, PvE = fun j H3 => Kp a H2 H3 ∧ Wd H3 a l ds ∧ ∃ acc : List Addr, H3 E = some (.lst (acc.map V.ref)) ∧ acc.length ≤ j ∧ (∀ o ∈ acc, o ≠ E ∧ H3 o = some (.lst [])) ∧ (acc = [] → ∀ (k x : Nat), k < j → wants[k]? = some x → fits ws x ws.length ≠ []) := ⟨_, rfl⟩
        refine lc_list (xs := os.map V.ref) PvE ?_ (fun j H3 _ h => ?_) (fun j x H3 hx h => ?_) (fun H3 h => ?_)
        · rw [ePE]
          exact ⟨Kp.new nE, W2.new nE, [], upd_same, Nat.le_refl 0, (fun o ho => by cases ho), (fun _ k x hk => by omega)⟩
        · rw [ePE] at h
          exact SqL.of (h.1 D _ neD hD)
        · rw [ePE] at h
          obtain ⟨k3, W3, acc, hE, al, hal, hemp⟩ := h
          have hx2 := hx
          rw [List.getElem?_map] at hx2
          obtain ⟨o, eo⟩ : ∃ o, os[j]? = some o := by
            cases e : os[j]? with
            | none =>
              rw [e] at hx2
              cases hx2
            | some o => exact ⟨o, rfl⟩
          rw [eo] at hx2
          have ex := (Option.some.inj hx2).symm
          subst ex
          obtain ⟨oD, xw, exw, ho2⟩ := hos j o eo
          have oa := lneq W2 ho2
          have ho3 := k3 o _ oa ho2
          have oE : o ≠ E := ne_of_none ho2 nE
          refine ⟨rfl, _, rfl, Nat.zero_le _, fun z nz => ?_⟩
          have zE : E ≠ z := ne_of_none hE nz
          have ho4 : (upd H3 z (.lst [])) o = some (.lst ((fits ws xw ws.length).map iV)) := by
            rw [upd_ne (ne_of_none ho3 nz)]
            exact ho3
          have hE4 : (upd H3 z (.lst [])) E = some (.lst (acc.map V.ref)) := by
            rw [upd_ne zE]
            exact hE
          refine ⟨.list ((fits ws xw ws.length).map iD), .list [], .lst (SqL.of ho4) (dps_ints _), .lst (SqL.of upd_same) .nil, shaped_list _ (cL_int _), shaped_list [] (fun d hd => by cases hd), _, rfl, ?_⟩
          rw [eqv_nil]
          have hj3 : j < 3 := by
            have := (List.getElem?_eq_some_iff.mp exw).1
            exact this
          refine ite2 (fun a2 => ?_) (fun a2 => ?_)
          · have ef : fits ws xw ws.length = [] := by
              cases e : fits ws xw ws.length with
              | nil => rfl
              | cons _ _ =>
                rw [e] at a2
                cases a2
            refine ⟨_, rfl, acc.map V.ref, hE4, by rw [List.length_map]; exact lineS _ (by omega), ?_⟩
            rw [ePE]
            refine ⟨(k3.trans (Kp.new nz)).put nE, (W3.new nz).put (neE2 nE) (W2.ne2 nE).2, acc ++ [o], by rw [List.map_append]; exact upd_same, by rw [List.length_append]; show acc.length + 1 ≤ j + 1; omega, fun o2 ho => ?_, fun e => by simp at e⟩
            rcases List.mem_append.mp ho with h | h
            · obtain ⟨h1, h2⟩ := hal o2 h
              exact ⟨h1, by rw [upd_ne h1, upd_ne (ne_of_none h2 nz)]; exact h2⟩
            · rw [List.mem_singleton.mp h]
              refine ⟨oE, ?_⟩
              rw [upd_ne oE]
              rw [ef] at ho4
              exact ho4
          · rw [ePE]
            refine ⟨k3.trans (Kp.new nz), W3.new nz, acc, hE4, by omega, fun o2 ho => ?_, fun e k x hk hw => ?_⟩
            · obtain ⟨h1, h2⟩ := hal o2 ho
              exact ⟨h1, by rw [upd_ne (ne_of_none h2 nz)]; exact h2⟩
            · by_cases hkj : k < j
              · exact hemp e k x hkj hw
              · have : k = j := by omega
                subst this
                rw [exw] at hw
                cases hw
                intro z2
                rw [z2] at a2
                exact a2 rfl
        rw [ePE] at h
        obtain ⟨k3, W3, acc, hE, al, hal, hemp⟩ := h
        have al3 : acc.length ≤ 3 := by
          rw [List.length_map, ol] at al
          exact al
        refine ⟨Nat.zero_le _, fun z nz => ?_⟩
        have hE4 : (upd H3 z (.lst [])) E = some (.lst (acc.map V.ref)) := by
          rw [upd_ne (ne_of_none hE nz)]
          exact hE
        have dpA : ∀ (L : List Addr) (H4 : Hp), (∀ o ∈ L, H4 o = some (.lst [])) → DpAll K H4 (L.map V.ref) (L.map fun _ => PyData.list []) := by
          intro L H4
          induction L with
          | nil => exact fun _ => .nil
          | cons o L ih => exact fun h => .cons (.lst (SqL.of (h o (List.mem_cons_self ..))) .nil) (ih fun o2 ho => h o2 (List.mem_cons_of_mem _ ho))
        refine ⟨.list (acc.map fun _ => PyData.list []), .list [], .lst (SqL.of hE4) (dpA acc _ fun o ho => by rw [upd_ne (ne_of_none (hal o ho).2 nz)]; exact (hal o ho).2), .lst (SqL.of upd_same) .nil, shaped_list _ (fun d hd => by
          obtain ⟨_, _, e⟩ := List.mem_map.mp hd
          subst e
          exact ⟨rfl, by decide⟩), shaped_list [] (fun d hd => by cases hd), _, rfl, ?_⟩
        rw [eqv_nil]
        have k4 : Kp a Hv (upd H3 z (.lst [])) := (k2.trans k3).trans (Kp.new nz)
        have W4 : Wd (upd H3 z (.lst [])) a l ds := W3.new nz
        refine ite2 (fun a2 => ?_) (fun a2 => ⟨_, _, _, _, _, _, _, stores, rfl, S5of k4 W4, by omega⟩)
        have ea : acc = [] := by
          cases acc with
          | nil => rfl
          | cons _ _ => cases a2
        refine ⟨_, rfl, a, l, ds, 4, rfl, by decide, W4, fun r8 H5 hr8 k8 _ W8 => ⟨_, _, rfl, rfl, _, rfl, ite2 (fun a3 => ?_) (fun a3 => ⟨_, _, _, _, _, _, _, stores, rfl, S5of (k4.trans k8) W8, by omega⟩)⟩⟩
        have k45 := k4.trans k8
        refine ⟨_, rfl, .inl ⟨rfl, _, SqL.of (k45 St _ nSa s1v)⟩, _, rfl, line 1 (by decide), fun u2 nu2 => ?_⟩
        have k28 : Kp a H2 H5 := ((k3.trans (Kp.new nz)).trans k8)
        have k2u := k28.trans (Kp.new (o := .tup [iV i]) nu2)
        have Wu2 := W8.new (o := .tup [iV i]) nu2
        have hu2 : (upd H5 u2 (.tup [iV i])) u2 = some (.tup [iV i]) := upd_same
        have u2a : u2 ≠ a := W8.fresh nu2
        refine ⟨_, rfl, D, rfl, ⟨_, SqL.of (k2u D _ neD hD)⟩, fun G nG => ?_⟩
        obtain ⟨PvG, ePG⟩ : ∃ PvG : Nat → Hp → Prop, PvG = fun j H6 => Kp a (upd H5 u2 (.tup [iV i])) H6 ∧ Wd H6 a l ds ∧ ∃ ks : List Nat, ks.length = j ∧ H6 G = some (.lst (ks.map iV)) ∧ ∀ (k n : Nat), ks[k]? = some n → ∃ x : Nat, wants[k]? = some x ∧ ws[n]? = some x := ⟨_, rfl⟩
        refine lc_list (xs := os.map V.ref) PvG ?_ (fun j H6 _ h => ?_) (fun j x H6 hx h => ?_) (fun H6 h => ?_)
        · rw [ePG]
          exact ⟨Kp.new nG, Wu2.new nG, [], rfl, upd_same, fun k n h => by simp at h⟩
        · rw [ePG] at h
          exact SqL.of ((k2u.trans h.1) D _ neD hD)
        · rw [ePG] at h
          obtain ⟨k6, W6, ks, kl, hG, hks⟩ := h
          have hx2 := hx
          rw [List.getElem?_map] at hx2
          obtain ⟨o, eo⟩ : ∃ o, os[j]? = some o := by
            cases e : os[j]? with
            | none =>
              rw [e] at hx2
              cases hx2
            | some o => exact ⟨o, rfl⟩
          rw [eo] at hx2
          have ex := (Option.some.inj hx2).symm
          subst ex
          obtain ⟨oD, xw, exw, ho2⟩ := hos j o eo
          have oa := lneq W2 ho2
          have ho6 := (k2u.trans k6) o _ oa ho2
          have jl : j < os.length := (List.getElem?_eq_some_iff.mp eo).1
          have hne := hemp ea j xw (by rw [List.length_map]; exact jl) exw
          have hpos : 0 < (fits ws xw ws.length).length := List.length_pos_iff.mpr hne
          have Ga : G ≠ a := Wu2.fresh nG
          refine ⟨rfl, _, rfl, _, rfl, _, rfl, o, _, rfl, .inl (SqL.of ho6), a, l, ds, _, rfl, by rw [List.length_map]; omega, W6, fun r9 H7 hr9 k9 _ W9 => ?_⟩
          rw [List.length_map] at hr9
          obtain ⟨kv9, ek⟩ : ∃ kv9, (fits ws xw ws.length)[r9]? = some kv9 := ⟨_, List.getElem?_eq_getElem (by omega)⟩
          refine ⟨o, _, _, _, rfl, rfl, SqL.of (k9 o _ oa ho6), atI_nat (int_at ek), ks.map iV, k9 G _ Ga hG, by rw [List.length_map]; exact lineS _ (by have : os.length = 3 := ol; omega), ?_⟩
          rw [ePG]
          refine ⟨(k6.trans k9).put nG, W9.put Ga (Wu2.ne2 nG).2, ks ++ [kv9], by rw [List.length_append, kl]; rfl, by rw [List.map_append]; exact upd_same, fun k n hn => ?_⟩
          by_cases hk : k < ks.length
          · rw [List.getElem?_append_left hk] at hn
            exact hks k n hn
          · rw [List.getElem?_append_right (by omega)] at hn
            have e0 : k - ks.length = 0 := by
              have := (List.getElem?_eq_some_iff.mp hn).1
              simp at this
              omega
            rw [e0] at hn
            cases hn
            have : k = j := by omega
            subst this
            exact ⟨xw, exw, (fits_at ek).2⟩
        rw [ePG, List.length_map, ol] at h
        obtain ⟨k6, W6, ks, kl, hG, hks⟩ := h
        refine ⟨G, _, rfl, .inl ⟨SqL.of hG, fun t3 nt3 => ?_⟩⟩
        have hu3 := k6 u2 _ u2a hu2
        have hu4 : (upd H6 t3 (.tup (ks.map iV))) u2 = some (.tup [iV i]) := by
          rw [upd_ne (ne_of_none hu3 nt3)]
          exact hu3
        have kne : ks.map iV ≠ [] := fun e => by
          have := congrArg List.length e
          rw [List.length_map, kl] at this
          cases this
        refine ⟨u2, t3, _, _, rfl, rfl, SqT.of hu4, SqT.of upd_same, (fun e => by cases e), by rw [List.length_map, kl]; exact line 4 (by decide), (fun e => absurd e kne), fun _ q4 nq4 => ?_⟩
        have kA : Kp a Hv (upd (upd H6 t3 (.tup (ks.map iV))) q4 (.tup ([iV i] ++ ks.map iV))) := (((((k2.trans k3).trans (Kp.new nz)).trans k8).trans (Kp.new nu2)).trans k6).trans ((Kp.new nt3).trans (Kp.new nq4))
        have WA : Wd (upd (upd H6 t3 (.tup (ks.map iV))) q4 (.tup ([iV i] ++ ks.map iV))) a l ds := (W6.new nt3).new nq4
        have hSA := kA St _ nSa s1v
        have lsv : svs.length = stores.length := by
          have := dps_len s2
          rw [List.length_map] at this
          exact this
        have bound : stores.length ≤ 2 := by omega
        refine ⟨St, _, _, rfl, rfl, hSA, by rw [lsv]; exact lineS _ (by omega), ?_⟩
        have nSHs : Hs St = none := nS
        obtain ⟨x0, x1, x2, eks⟩ : ∃ x0 x1 x2, ks = [x0, x1, x2] := by
          match ks, kl with
          | [x0, x1, x2], _ => exact ⟨x0, x1, x2, rfl⟩
        subst eks
        refine ⟨_, _, _, _, _, _, _, stores ++ [(i, x0, x1, x2)], rfl, ⟨(kv.trans kA).put nSHs, WA.put neS.1 neS.2, ⟨_, upd_same, ?_⟩, fun s hs => ?_⟩, by rw [List.length_append]; show stores.length + 1 ≤ i + 1; omega⟩
        · rw [List.map_append]
          exact push_dps hSA (stay_dps Wv kA (noLs_st _) svHv) (noLs_st _) (.tup (SqT.of upd_same) (.cons (.int _) (.cons (.int _) (.cons (.int _) (.cons (.int _) .nil))))) rfl
        · rcases List.mem_append.mp hs with h | h
          · exact sok s h
          · rw [List.mem_singleton.mp h]
            obtain ⟨w0, e0, f0⟩ := hks 0 x0 rfl
            obtain ⟨w1, e1, f1⟩ := hks 1 x1 rfl
            obtain ⟨w2, e2, f2⟩ := hks 2 x2 rfl
            cases e0
            cases e1
            cases e2
            exact ⟨p, ep, f0, f1, f2⟩
      · obtain ⟨y3, y4, y7, y9, y10, y12, y13, stores, rfl, h1, h2⟩ := h
        exact ⟨_, _, _, _, _, _, _, stores, rfl, h1, by omega⟩
    rintro σ H6 ⟨y3, y4, y7, y9, y10, y12, y13, stores, rfl, ⟨k5, W5, ⟨svs, s1, s2⟩, sok⟩, sl⟩
    -- what is told, and the whole
    refine ⟨_, rfl, a, l, ds, 5, rfl, by decide, W5, fun n6 H7 hn6 k7 _ W7 => ⟨_, rfl, by omega, by omega, fun D nD => ?_⟩⟩
    have neD := W7.ne2 nD
    have ks7 := k5.trans k7
    obtain ⟨Pv, ePv⟩ : ∃ Pv : Nat → Hp → Prop, Pv = fun j H8 => Kp a H7 H8 ∧ Wd H8 a l ds ∧ ∃ ks : List Nat, ks.length = j ∧ H8 D = some (.lst (ks.map iV)) ∧ ∀ k ∈ ks, k < ws.length := ⟨_, rfl⟩
    refine lc_range (n := n6) Pv ?_ (fun j H8 hj h => ?_) (fun H8 h => ?_)
    · rw [ePv]
      exact ⟨Kp.new nD, W7.new nD, [], rfl, upd_same, fun k hk => by cases hk⟩
    · rw [ePv] at h
      obtain ⟨k8, W8, ks, kl, hD, hks⟩ := h
      refine ⟨rfl, _, rfl, _, rfl, R, _, rfl, .inl (SqL.of ((ks7.trans k8) R _ neR.1 rw1)), a, l, ds, _, rfl, by omega, W8, fun r9 H9 hr9 k9 _ W9 => ?_⟩
      refine ⟨ks.map iV, k9 D _ neD.1 hD, by rw [List.length_map]; exact lineS _ (by omega), ?_⟩
      rw [ePv]
      refine ⟨(k8.trans k9).put nD, W9.put neD.1 neD.2, ks ++ [r9], by rw [List.length_append, kl]; rfl, by rw [List.map_append]; exact upd_same, fun k hk => ?_⟩
      rcases List.mem_append.mp hk with h | h
      · exact hks k h
      · rw [List.mem_singleton.mp h]
        omega
    rw [ePv] at h
    obtain ⟨k8, W8, os, ol, hD, hos⟩ := h
    have ks8 := ks7.trans k8
    refine ⟨D, _, rfl, .inl ⟨SqL.of hD, fun t0 n0 => ?_⟩⟩
    have g0 : Kp a H8 (upd H8 t0 (.tup (os.map iV))) := Kp.new n0
    have V0 : Wd (upd H8 t0 (.tup (os.map iV))) a l ds := W8.new n0
    have hb := kb.trans (ks8.trans g0)
    refine ⟨_, rfl, c, _, rfl, cd_regs (CD0.kp WW hb).c0, rl, _, rfl, .inl ⟨SqL.of (hb rl _ ner.1 r1), fun t1 n1 => ?_⟩⟩
    have g1 := g0.trans (Kp.new (o := .tup rvs) n1)
    have V1 := V0.new (o := .tup rvs) n1
    have hb1 := kb.trans (ks8.trans g1)
    refine ⟨_, rfl, c, _, rfl, cd_mems (CD0.kp WW hb1).c0, ml, _, rfl, .inl ⟨SqL.of (hb1 ml _ nem.1 m1), fun t2 n2 => ?_⟩⟩
    have g2 := g1.trans (Kp.new (o := .tup mvs) n2)
    have V2 := V1.new (o := .tup mvs) n2
    refine ⟨_, rfl, R, _, rfl, .inl ⟨SqL.of ((ks8.trans g2) R _ neR.1 rw1), fun t3 n3 => ?_⟩⟩
    have g3 := g2.trans (Kp.new (o := .tup rws) n3)
    have V3 := V2.new (o := .tup rws) n3
    refine ⟨_, rfl, N, _, rfl, .inl ⟨SqL.of ((ks8.trans g3) N _ neN.1 hN), fun t4 n4 => ?_⟩⟩
    have g4 := g3.trans (Kp.new (o := .tup (nexts.map iV)) n4)
    have V4 := V3.new (o := .tup (nexts.map iV)) n4
    refine ⟨_, rfl, St, _, rfl, .inl ⟨SqL.of (((k7.trans k8).trans g4) St _ neS.1 s1), fun t5 n5 => ?_⟩⟩
    have g5 := g4.trans (Kp.new (o := .tup svs) n5)
    have V5 := V4.new (o := .tup svs) n5
    refine ⟨_, rfl, line 6 (by decide), fun p np => ?_⟩
    have g6 := g5.trans (Kp.new (o := .tup [.ref t1, .ref t2, .ref t3, .ref t4, .ref t5, .ref t0]) np)
    have V6 := V5.new (o := .tup [.ref t1, .ref t2, .ref t3, .ref t4, .ref t5, .ref t0]) np
    have p6 : Kp a _ _ := Kp.new (a := a) (o := .tup [.ref t1, .ref t2, .ref t3, .ref t4, .ref t5, .ref t0]) np
    have p5 := (Kp.new (a := a) (o := .tup svs) n5).trans p6
    have p4 := (Kp.new (a := a) (o := .tup (nexts.map iV)) n4).trans p5
    have p3 := (Kp.new (a := a) (o := .tup rws) n3).trans p4
    have p2 := (Kp.new (a := a) (o := .tup mvs) n2).trans p3
    have p1 := (Kp.new (a := a) (o := .tup rvs) n1).trans p2
    have kf := kb.trans (ks8.trans g6)
    refine q _ p ⟨regs, mems, rows, nexts, stores, os⟩ ws (kk.trans kf) V6 (.tup (SqT.of upd_same) (.cons (.tup (SqT.of (p2 t1 _ (V0.fresh n1) upd_same)) ?_) (.cons (.tup (SqT.of (p3 t2 _ (V1.fresh n2) upd_same)) ?_) (.cons (.tup (SqT.of (p4 t3 _ (V2.fresh n3) upd_same)) ?_) (.cons (.tup (SqT.of (p5 t4 _ (V3.fresh n4) upd_same)) (dps_ints _)) (.cons (.tup (SqT.of (p6 t5 _ (V4.fresh n5) upd_same)) ?_) (.cons (.tup (SqT.of (p1 t0 _ (W8.fresh n0) upd_same)) (dps_ints _)) .nil))))))) ⟨ro, mo, rn, mn, rok, by omega, nl, nx, sok, sl, by show os.length ≤ 4; omega, hos⟩
    · exact stay_dps WW kf (noLs_pr _) r2
    · exact stay_dps WW kf (noLs_pr _) m2
    · exact stay_dps Ws (ks8.trans g6) (noLs_rows _) rw2
    · exact stay_dps W5 ((k7.trans k8).trans g6) (noLs_st _) s2
end
end C1
/-! The program's small tests. -/
namespace C1
open PySem PySem.Spec PyProof.Rows L2 SX
theorem scMask : FnScope ["width"] ["width"] (defScope sMask) := ⟨rfl, rfl, rfl, by decide +kernel, rfl, by decide +kernel, by decide +kernel⟩
theorem scIsTuple : FnScope ["thing", "many"] ["thing", "many"] (defScope sIsTuple) := ⟨rfl, rfl, rfl, by decide +kernel, rfl, by decide +kernel, by decide +kernel⟩
theorem scIsBelow : FnScope ["thing", "limit"] ["thing", "limit"] (defScope sIsBelow) := ⟨rfl, rfl, rfl, by decide +kernel, rfl, by decide +kernel, by decide +kernel⟩
theorem scIsWidth : FnScope ["thing"] ["thing"] (defScope sIsWidth) := ⟨rfl, rfl, rfl, by decide +kernel, rfl, by decide +kernel, by decide +kernel⟩
theorem scIsRegister : FnScope ["thing"] ["thing"] (defScope sIsRegister) := ⟨rfl, rfl, rfl, by decide +kernel, rfl, by decide +kernel, by decide +kernel⟩
theorem scIsMemory : FnScope ["thing"] ["thing"] (defScope sIsMemory) := ⟨rfl, rfl, rfl, by decide +kernel, rfl, by decide +kernel, by decide +kernel⟩
/-! ### what is asked, upon data -/
def tyD : PyData → String
  | .none => "NoneType"
  | .bool _ => "bool"
  | .int _ => "int"
  | .str _ => "str"
  | .list _ => "list"
  | .tuple _ => "tuple"
  | .dict _ => "dict"
theorem ty_of {K : PySem.W.Frag} {H : Hp} {v : V} {d : PyData} (h : Dp K H v d) : TyB K H v (tyD d) := by
  cases h with
  | non => exact .non
  | bl b => exact .bl b
  | int i => exact .int i
  | str x => exact .str x
  | lst s _ => exact .lst s
  | tup s _ => exact .tup s
theorem ty_int {d : PyData} (h : tyD d = "int") : ∃ i, d = .int i := by
  cases d <;> simp [tyD] at h
  exact ⟨_, rfl⟩
theorem ty_tup {d : PyData} (h : tyD d = "tuple") : ∃ i, d = .tuple i := by
  cases d <;> simp [tyD] at h
  exact ⟨_, rfl⟩
theorem ty_str {d : PyData} (h : tyD d = "str") : ∃ i, d = .str i := by
  cases d <;> simp [tyD] at h
  exact ⟨_, rfl⟩
/-- a whole number from lo on, below hi -/
def isI (d : PyData) (lo hi : Int) : Bool := match d with
  | .int i => decide (lo ≤ i) && decide (i < hi)
  | _ => false
def isT (d : PyData) (n : Nat) : Bool := match d with
  | .tuple xs => decide (xs.length = n)
  | _ => false
theorem isI_iff {d : PyData} {lo hi : Int} : isI d lo hi = true ↔ ∃ i, d = .int i ∧ lo ≤ i ∧ i < hi := by
  cases d <;> simp [isI]
theorem isT_iff {d : PyData} {n : Nat} : isT d n = true ↔ ∃ xs, d = .tuple xs ∧ xs.length = n := by
  cases d <;> simp [isT]
def regB (d : PyData) : Bool := match d with
  | .tuple [w, v] => match w with
    | .int i => isI (.int i) 1 33 && isI v 0 (2 ^ i.toNat)
    | _ => false
  | _ => false
def memB (d : PyData) : Bool := match d with
  | .tuple [b, w] => isI b 1 7 && isI w 1 33
  | _ => false
section
variable {P : Program} {w : World} {K : PySem.W.Frag} {mg : Str → Option Value} {base : Heap} {tw tb : Tok}
structure Gp (mg : Str → Option Value) (tw tb : Tok) : Prop where
  ty : mg "type" = none
  it : mg "int" = none
  tu : mg "tuple" = none
  st : mg "str" = none
  len : mg "len" = none
  all : mg "all" = none
  zip : mg "zip" = none
  mw : mg "MOST_WIDTH" = some (.int 32 tw)
  mb : mg "MOST_BITS" = some (.int 6 tb)
def spMask : Sp := fun vs H Q _ => ∃ n : Nat, vs = [.int ((n : Nat) : Int)] ∧ n ≤ 1000 ∧ Q (.int (2 ^ n - 1)) H
theorem ok_mask {f : Addr} {fd : FuncData} (F : Fun K "mask" "mask" sMask f fd) : FnOk P w K mg base CX0 1 f fd ["width"] spMask := by
  refine F.ok scMask (fun vs H Q E h => ?_) (fun cdv A outer s H vs Q E hr h => ?_)
  · obtain ⟨n, rfl, _⟩ := h
    rfl
  · obtain ⟨n, rfl, hn, q⟩ := h
    refine ⟨_, (pss_one (ps_ret (pe_op op_sub (pe_op op_shl pe_int (pv 0)) pe_int))), ?_⟩
    refine ⟨_, rfl, _, _, rfl, rfl, ⟨by omega, by omega, by decide⟩, _, _, rfl, rfl, ?_⟩
    have e : (1 : Int) * 2 ^ (((n : Nat) : Int)).toNat - 1 = 2 ^ n - 1 := by rw [Int.toNat_natCast, Int.one_mul]
    show Q (.int ((1 : Int) * 2 ^ (((n : Nat) : Int)).toNat - 1)) H
    rw [e]
    exact q
def spIsTuple (K : PySem.W.Frag) : Sp := fun vs H Q _ => ∃ (v : V) (d : PyData) (n : Nat), vs = [v, iV n] ∧ Dp K H v d ∧ Q (.bl (isT d n)) H
theorem ok_isTuple {f : Addr} {fd : FuncData} (F : Fun K "is_tuple" "is_tuple" sIsTuple f fd) (G : Gp mg tw tb) : FnOk P w K mg base CX0 1 f fd ["thing", "many"] (spIsTuple K) := by
  refine F.ok scIsTuple (fun vs H Q E h => ?_) (fun cdv A outer s H vs Q E hr h => ?_)
  · obtain ⟨v, d, n, rfl, _⟩ := h
    rfl
  · obtain ⟨v, d, n, rfl, hd, q⟩ := h
    refine ⟨_, (pss_one (ps_ret (pe_and (pe_cmpR op_isTyB (pe_callTy call_type1 (by rfl) G.ty (by decide +kernel) (pa_cons (pv 0) pa_nil)) (pe_bltn (v := .ty "tuple") (by rfl) G.tu (by decide +kernel) rfl) (nomark _)) (pe_one (pe_cmpR op_eq (pe_callB call_len_seq (by rfl) G.len PySem.boot_len (pa_cons (pv 0) pa_nil)) (pv 1) (nomark _)))))), ?_⟩
    refine ⟨_, rfl, _, _, rfl, ty_of hd, _, _, rfl, rfl, ?_⟩
    refine ⟨_, rfl, ite2 (fun a1 => ?_) (fun a1 => ?_)⟩
    · obtain ⟨ds, rfl⟩ := ty_tup (of_decide_eq_true a1)
      cases hd with
      | tup s a =>
        have l := dps_len a
        refine ⟨_, rfl, _, _, rfl, .inr s, _, rfl, rfl, ?_⟩
        rename_i xs
        have e2 : decide (V.int ((xs.length : Nat) : Int) = V.int ((n : Nat) : Int)) = isT (.tuple ds) n := by
          show _ = decide (ds.length = n)
          rw [l]
          refine decide_eq_decide.mpr ⟨fun h => ?_, fun h => by rw [h]⟩
          have := V.int.inj h
          omega
        rw [e2]
        exact q
    · have e : isT d n = false := by
        cases d with
        | tuple xs => exact absurd rfl a1
        | _ => rfl
      rw [e] at q
      exact q
def spIsBelow (K : PySem.W.Frag) : Sp := fun vs H Q _ => ∃ (v : V) (d : PyData) (n : Int), vs = [v, .int n] ∧ Dp K H v d ∧ Q (.bl (isI d 0 n)) H
theorem ok_isBelow {f : Addr} {fd : FuncData} (F : Fun K "is_below" "is_below" sIsBelow f fd) (G : Gp mg tw tb) : FnOk P w K mg base CX0 1 f fd ["thing", "limit"] (spIsBelow K) := by
  refine F.ok scIsBelow (fun vs H Q E h => ?_) (fun cdv A outer s H vs Q E hr h => ?_)
  · obtain ⟨v, d, n, rfl, _⟩ := h
    rfl
  · obtain ⟨v, d, n, rfl, hd, q⟩ := h
    refine ⟨_, (pss_one (ps_ret (pe_and (pe_cmpR op_isTyB (pe_callTy call_type1 (by rfl) G.ty (by decide +kernel) (pa_cons (pv 0) pa_nil)) (pe_bltn (v := .ty "int") (by rfl) G.it (by decide +kernel) rfl) (nomark _)) (pe_one (pe_chain op_le op_lt pe_int (pv 0) (pv 1)))))), ?_⟩
    refine ⟨_, rfl, _, _, rfl, ty_of hd, _, _, rfl, rfl, ?_⟩
    refine ⟨_, rfl, ite2 (fun a1 => ?_) (fun a1 => ?_)⟩
    · obtain ⟨i, rfl⟩ := ty_int (of_decide_eq_true a1)
      cases hd with
      | int i =>
        refine ⟨_, rfl, _, _, rfl, rfl, _, rfl, ite2 (fun a2 => ?_) (fun a2 => ?_)⟩
        · refine ⟨_, rfl, _, _, rfl, rfl, ?_⟩
          have e2 : isI (.int i) 0 n = decide (i < n) := by
            show (decide (0 ≤ i) && decide (i < n)) = _
            rw [a2]
            rfl
          rw [e2] at q
          exact q
        · have e2 : isI (.int i) 0 n = false := by
            show (decide (0 ≤ i) && decide (i < n)) = _
            rw [Bool.eq_false_iff.mpr a2]
            rfl
          rw [e2] at q
          exact q
    · have e : isI d 0 n = false := by
        cases d with
        | int xs => exact absurd rfl a1
        | _ => rfl
      rw [e] at q
      exact q
def spIsWidth (K : PySem.W.Frag) : Sp := fun vs H Q _ => ∃ (v : V) (d : PyData), vs = [v] ∧ Dp K H v d ∧ Q (.bl (isI d 1 33)) H
theorem ok_isWidth {f fB : Addr} {fd fdB : FuncData} (F : Fun K "is_width" "is_width" sIsWidth f fd) (G : Gp mg tw tb) (GB : FnOk P w K mg base CX0 1 fB fdB ["thing", "limit"] (spIsBelow K)) (kB : PySem.W.keepIn K (.ref fB) = true) (bB : Binds K fdB ["thing", "limit"] []) (gB : mg "is_below" = some (.ref fB)) :
    FnOk P w K mg base CX0 2 f fd ["thing"] (spIsWidth K) := by
  refine F.ok scIsWidth (fun vs H Q E h => ?_) (fun cdv A outer s H vs Q E hr h => ?_)
  · obtain ⟨v, d, rfl, _⟩ := h
    rfl
  · obtain ⟨v, d, rfl, hd, q⟩ := h
    have hr1 := hr
    refine ⟨_, (pss_one (ps_ret (pe_and (pe_call GB hr1 (by rfl) gB kB bB .nil pass0 (pa_cons (pv 0) (pa_cons (pe_op op_add (pe_glob (v := .int 32) (by rfl) G.mw ⟨_, rfl⟩) (pe_int)) pa_nil))) (pe_one (pe_cmpR op_gt (pv 0) (pe_int) (nomark _)))))), ?_⟩
    refine ⟨_, rfl, _, _, rfl, rfl, v, d, 33, rfl, hd, ?_⟩
    refine ⟨_, rfl, ite2 (fun a1 => ?_) (fun a1 => ?_)⟩
    · obtain ⟨i, rfl, h0, h1⟩ := isI_iff.mp a1
      cases hd
      refine ⟨_, rfl, _, _, rfl, rfl, ?_⟩
      have e2 : isI (.int i) 1 33 = decide (0 < i) := by
        show (decide (1 ≤ i) && decide (i < 33)) = _
        rw [decide_eq_true h1, Bool.and_true]
        exact decide_eq_decide.mpr ⟨fun h => by omega, fun h => by omega⟩
      rw [e2] at q
      exact q
    · have e : isI d 1 33 = false := by
        rw [Bool.eq_false_iff]
        intro h
        obtain ⟨i, rfl, h0, h1⟩ := isI_iff.mp h
        exact a1 (isI_iff.mpr ⟨i, rfl, by omega, h1⟩)
      rw [e] at q
      exact q
def spD (K : PySem.W.Frag) (b : PyData → Bool) : Sp := fun vs H Q _ => ∃ (v : V) (d : PyData), vs = [v] ∧ Dp K H v d ∧ Q (.bl (b d)) H
theorem ok_isRegister {f fB fT fW fM : Addr} {fd fdB fdT fdW fdM : FuncData} (F : Fun K "is_register" "is_register" sIsRegister f fd) (GB : FnOk P w K mg base CX0 1 fB fdB ["thing", "limit"] (spIsBelow K)) (kB : PySem.W.keepIn K (.ref fB) = true) (bB : Binds K fdB ["thing", "limit"] []) (gB : mg "is_below" = some (.ref fB))
    (GT : FnOk P w K mg base CX0 1 fT fdT ["thing", "many"] (spIsTuple K)) (kT : PySem.W.keepIn K (.ref fT) = true) (bT : Binds K fdT ["thing", "many"] []) (gT : mg "is_tuple" = some (.ref fT))
    (GW : FnOk P w K mg base CX0 2 fW fdW ["thing"] (spIsWidth K)) (kW : PySem.W.keepIn K (.ref fW) = true) (bW : Binds K fdW ["thing"] []) (gW : mg "is_width" = some (.ref fW))
    (GM : FnOk P w K mg base CX0 1 fM fdM ["width"] spMask) (kM : PySem.W.keepIn K (.ref fM) = true) (bM : Binds K fdM ["width"] []) (gM : mg "mask" = some (.ref fM)) :
    FnOk P w K mg base CX0 3 f fd ["thing"] (spD K regB) := by
  refine F.ok scIsRegister (fun vs H Q E h => ?_) (fun cdv A outer s H vs Q E hr h => ?_)
  · obtain ⟨v, d, rfl, _⟩ := h
    rfl
  · obtain ⟨v, d, rfl, hd, q⟩ := h
    have hr2 := hr
    have hr1 : Room 1 _ := hr.mono (by decide)
    refine ⟨_, (pss_one (ps_ret (pe_and (pe_call GT hr1 (by rfl) gT kT bT .nil pass0 (pa_cons (pv 0) (pa_cons (pe_int) pa_nil))) (pe_and (pe_call GW hr2 (by rfl) gW kW bW .nil pass0 (pa_cons (pe_ix ix_tup (pv 0) (pe_int) (fun _ _ => rfl)) pa_nil)) (pe_one (pe_call GB hr1 (by rfl) gB kB bB .nil pass0 (pa_cons (pe_ix ix_tup (pv 0) (pe_int) (fun _ _ => rfl)) (pa_cons (pe_op op_add (pe_call GM hr1 (by rfl) gM kM bM .nil pass0 (pa_cons (pe_ix ix_tup (pv 0) (pe_int) (fun _ _ => rfl)) pa_nil)) (pe_int)) pa_nil)))))))), ?_⟩
    refine ⟨_, rfl, v, d, 2, rfl, hd, ?_⟩
    refine ⟨_, rfl, ite2 (fun a1 => ?_) (fun a1 => ?_)⟩
    · obtain ⟨xs, rfl, hl⟩ := isT_iff.mp a1
      match xs, hl with
      | [w0, v0], _ =>
        cases hd with
        | tup s a =>
          cases a with
          | cons a1 a =>
            cases a with
            | cons a2 a =>
              cases a
              refine ⟨_, rfl, _, _, _, _, rfl, rfl, s, atI_nat (j := 0) rfl, _, w0, rfl, a1, ?_⟩
              refine ⟨_, rfl, ite2 (fun b1 => ?_) (fun b1 => ?_)⟩
              · obtain ⟨i, rfl, h0, h1⟩ := isI_iff.mp b1
                cases a1
                obtain ⟨n, rfl⟩ : ∃ n : Nat, i = ((n : Nat) : Int) := ⟨i.toNat, by omega⟩
                refine ⟨_, rfl, _, _, _, _, rfl, rfl, s, atI_nat (j := 1) rfl, _, rfl, _, _, _, _, rfl, rfl, s, atI_nat (j := 0) rfl, n, rfl, by omega, _, _, rfl, rfl, _, v0, _, rfl, a2, ?_⟩
                have e : regB (.tuple [.int ((n : Nat) : Int), v0]) = isI v0 0 (2 ^ n - 1 + 1) := by
                  show (isI (.int ((n : Nat) : Int)) 1 33 && isI v0 0 (2 ^ ((n : Nat) : Int).toNat)) = _
                  rw [b1, Bool.true_and, Int.toNat_natCast, Int.sub_add_cancel]
                rw [e] at q
                exact q
              · have e : regB (.tuple [w0, v0]) = false := by
                  unfold regB
                  cases w0 with
                  | int i =>
                    show (isI (.int i) 1 33 && _) = false
                    rw [Bool.eq_false_iff.mpr b1, Bool.false_and]
                  | _ => rfl
                rw [e] at q
                exact q
    · have e : regB d = false := by
        unfold regB
        split
        · exact absurd rfl a1
        · rfl
      rw [e] at q
      exact q
theorem ok_isMemory {f fB fT fW : Addr} {fd fdB fdT fdW : FuncData} (F : Fun K "is_memory" "is_memory" sIsMemory f fd) (G : Gp mg tw tb) (GB : FnOk P w K mg base CX0 1 fB fdB ["thing", "limit"] (spIsBelow K)) (kB : PySem.W.keepIn K (.ref fB) = true) (bB : Binds K fdB ["thing", "limit"] []) (gB : mg "is_below" = some (.ref fB))
    (GT : FnOk P w K mg base CX0 1 fT fdT ["thing", "many"] (spIsTuple K)) (kT : PySem.W.keepIn K (.ref fT) = true) (bT : Binds K fdT ["thing", "many"] []) (gT : mg "is_tuple" = some (.ref fT))
    (GW : FnOk P w K mg base CX0 2 fW fdW ["thing"] (spIsWidth K)) (kW : PySem.W.keepIn K (.ref fW) = true) (bW : Binds K fdW ["thing"] []) (gW : mg "is_width" = some (.ref fW)) :
    FnOk P w K mg base CX0 3 f fd ["thing"] (spD K memB) := by
  refine F.ok scIsMemory (fun vs H Q E h => ?_) (fun cdv A outer s H vs Q E hr h => ?_)
  · obtain ⟨v, d, rfl, _⟩ := h
    rfl
  · obtain ⟨v, d, rfl, hd, q⟩ := h
    have hr2 := hr
    have hr1 : Room 1 _ := hr.mono (by decide)
    refine ⟨_, (pss_one (ps_ret (pe_and (pe_call GT hr1 (by rfl) gT kT bT .nil pass0 (pa_cons (pv 0) (pa_cons (pe_int) pa_nil))) (pe_and (pe_call GB hr1 (by rfl) gB kB bB .nil pass0 (pa_cons (pe_ix ix_tup (pv 0) (pe_int) (fun _ _ => rfl)) (pa_cons (pe_op op_add (pe_glob (v := .int 6) (by rfl) G.mb ⟨_, rfl⟩) (pe_int)) pa_nil))) (pe_and (pe_cmpR op_gt (pe_ix ix_tup (pv 0) (pe_int) (fun _ _ => rfl)) (pe_int) (nomark _)) (pe_one (pe_call GW hr2 (by rfl) gW kW bW .nil pass0 (pa_cons (pe_ix ix_tup (pv 0) (pe_int) (fun _ _ => rfl)) pa_nil)))))))), ?_⟩
    refine ⟨_, rfl, v, d, 2, rfl, hd, ?_⟩
    refine ⟨_, rfl, ite2 (fun a1 => ?_) (fun a1 => ?_)⟩
    · obtain ⟨xs, rfl, hl⟩ := isT_iff.mp a1
      match xs, hl with
      | [b0, w0], _ =>
        cases hd with
        | tup s a =>
          cases a with
          | cons a1 a =>
            cases a with
            | cons a2 a =>
              cases a
              refine ⟨_, rfl, _, _, _, _, rfl, rfl, s, atI_nat (j := 0) rfl, _, _, rfl, rfl, _, b0, 7, rfl, a1, ?_⟩
              refine ⟨_, rfl, ite2 (fun b1 => ?_) (fun b1 => ?_)⟩
              · obtain ⟨i, rfl, h0, h1⟩ := isI_iff.mp b1
                cases a1
                refine ⟨_, rfl, _, _, _, _, rfl, rfl, s, atI_nat (j := 0) rfl, _, _, rfl, rfl, ?_⟩
                refine ⟨_, rfl, ite2 (fun b2 => ?_) (fun b2 => ?_)⟩
                · have hp := of_decide_eq_true b2
                  refine ⟨_, rfl, _, _, _, _, rfl, rfl, s, atI_nat (j := 1) rfl, _, w0, rfl, a2, ?_⟩
                  have e : memB (.tuple [.int i, w0]) = isI w0 1 33 := by
                    show (isI (.int i) 1 7 && isI w0 1 33) = _
                    rw [isI_iff.mpr ⟨i, rfl, by omega, h1⟩, Bool.true_and]
                  rw [e] at q
                  exact q
                · have e : memB (.tuple [.int i, w0]) = false := by
                    show (isI (.int i) 1 7 && isI w0 1 33) = _
                    rw [show isI (.int i) 1 7 = false from Bool.eq_false_iff.mpr (fun z => by
                      obtain ⟨j, ej, j0, j1⟩ := isI_iff.mp z
                      cases ej
                      exact b2 (decide_eq_true (by omega))), Bool.false_and]
                  rw [e] at q
                  exact q
              · have e : memB (.tuple [b0, w0]) = false := by
                  show (isI b0 1 7 && isI w0 1 33) = _
                  rw [show isI b0 1 7 = false from Bool.eq_false_iff.mpr (fun z => by
                    obtain ⟨j, ej, j0, j1⟩ := isI_iff.mp z
                    exact b1 (isI_iff.mpr ⟨j, ej, by omega, j1⟩)), Bool.false_and]
                rw [e] at q
                exact q
    · have e : memB d = false := by
        unfold memB
        split
        · exact absurd rfl a1
        · rfl
      rw [e] at q
      exact q
end
end C1
/-! Rules: in a tuple of any data, three comparisons in a row, get of a written dict; op_width, fitted_width, parts. -/
namespace C1
open PySem PySem.Spec PyProof.Rows L2 SX
section
variable {X : Cx}
def rInTD (K : PySem.W.Frag) : R2 := fun x y H Q => ∃ d ds, Dp K H x d ∧ Dp K H y (.tuple ds) ∧ SeqAt.shaped d = true ∧ SeqAt.shaped (.tuple ds) = true ∧ Q (.bl (ds.any fun z => PyData.eqv z d)) H
theorem op_inTD (hu : X.A.units + 65 < cLine) : OpR X (compareOp .In) (rInTD X.K) := by
  intro pins s σ H x y v u Q I rx ry h
  obtain ⟨d, ds, hd, he, sd, se, q⟩ := h
  obtain ⟨as, r1⟩ := Dp.reads I d x v hd rx
  obtain ⟨bs, r2⟩ := Dp.reads I (.tuple ds) y u he ry
  exact SeqAt.in_tuple_reads r2 r1 (SeqAt.canLay_of_shaped se) (SeqAt.canLay_of_shaped sd) (room_in_shaped sd hu) ⟨.bl _, H, I, rfl, q⟩
/-- a op1 b op2 c op3 d, a test -/
def tChain3 (r r' r'' : R2) (ta tb tc td : TE) : TT := fun σ H Q => ta σ H fun x H1 => tb σ H1 fun y H2 => r x y H2 fun z H3 => ∃ k, z = .bl k ∧
  (if k = true then tc σ H3 fun w' H4 => r' y w' H4 fun z2 H5 => ∃ k2, z2 = .bl k2 ∧ (if k2 = true then td σ H5 fun w2 H6 => r'' w' w2 H6 fun z3 H7 => ∃ k3, z3 = .bl k3 ∧ Q k3 H7 else Q false H5) else Q false H3)
theorem pt_chain3 {a b c d : Expr} {ta tb tc td : TE} {pos : Pos} {op op' op'' : CmpOp} {r r' r'' : R2} (ho : OpR X (compareOp op) r) (ho' : OpR X (compareOp op') r') (ho'' : OpR X (compareOp op'') r'') (ha : PE X a ta) (hb : PE X b tb) (hc : PE X c tc) (hd : PE X d td)
    (hm : lastMarks [op, op', op''] [b, c, d] = false := by with_unfolding_all rfl) : PT X (.Compare a [op, op', op''] [b, c, d] pos) (tChain3 r r' r'' ta tb tc td) := by
  refine ⟨fun pins s σ H Q I h => ?_⟩
  refine isTrue_chain (thn (ha.run pins s σ H _ I h) fun v s1 ⟨x, H1, I1, r1, q1⟩ => test_link (thn (hb.run pins s1 σ H1 _ I1 q1) fun u s2 ⟨y, H2, I2, r2, q2⟩ =>
    thn (ho pins s2 σ H2 x y v u _ I2 r1 r2 q2) fun d s3 ⟨z, H3, I3, r3, k, e, q3⟩ => ?_)) hm
  subst e
  cases r3
  refine wpAny_truthy_bool ?_
  cases k with
  | false => exact ite_ff ⟨H3, I3, q3⟩
  | true =>
    refine ite_tt (test_link (thn (hc.run pins s3 σ H3 _ I3 q3) fun w' s4 ⟨z', H4, I4, r4, q4⟩ => thn (ho' pins s4 σ H4 y z' u w' _ I4 r2 r4 q4) fun d' s5 ⟨z2, H5, I5, r5, k2, e2, q5⟩ => ?_))
    subst e2
    cases r5
    refine wpAny_truthy_bool ?_
    cases k2 with
    | false => exact ite_ff ⟨H5, I5, q5⟩
    | true =>
      refine ite_tt (test_last (thn (hd.run pins s5 σ H5 _ I5 q5) fun w3 s6 ⟨z3, H6, I6, r6, q6⟩ => thn (ho'' pins s6 σ H6 z' z3 w' w3 _ I6 r4 r6 q6) fun d7 s7 ⟨z7, H7, I7, r7, k7, e7, q7⟩ => ?_))
      subst e7
      cases r7
      exact wpAny_truthy_bool ⟨H7, I7, q7⟩
/-- d.get(key), d a written dict -/
def tKGet (K : PySem.W.Frag) (w : World) (td ty : TE) : TE := fun σ H Q => td σ H fun x H1 => ∃ p es n, x = .ref p ∧ KDict K w p es n ∧ ty σ H1 fun y H2 => ∃ (z : Str) (r : Option Value) (v : V), y = .str z ∧ PySem.W.nsIn K p z = some r ∧ RelV v (r.getD .none) ∧ Q v H2
theorem pe_kget {o e : Expr} {apos cpos : Pos} {td ty : TE} (ho : PE X o td) (he : PE X e ty) (m : M1 X o "get" apos e cpos) : PE X (.Call (.Attribute o "get" apos) [e] [] cpos) (tKGet X.K X.w td ty) := by
  refine ⟨fun pins s σ H Q I h => ?_⟩
  refine wpAny_Call_method m.base m.few m.line PySem.F.plainAttrs_dict PySem.F.slot_dict_get PySem.F.type_dict_get (thn (ho.run pins s σ H _ I h) fun u s1 ⟨x, H1, I1, rx, p, es, n, ex, D, q1⟩ => ?_)
  subst ex
  obtain rfl : u = Value.ref p := rx
  refine ⟨kd_type D I1, fun b q => ?_, ?_⟩
  · cases q
    exact ⟨_, I1.kIn _ _ D.at_, rfl⟩
  rw [m.trees]
  refine Calls.callWith_builtin rfl (Calls.evalArgs_plain (Calls.spliced_cons (thn (he.run pins s1 σ H1 _ I1 q1) fun iv s2 ⟨y, H2, I2, ry, z, r, v, ey, e1, rv, q2⟩ => Calls.spliced_nil ?_)))
  subst ey
  obtain ⟨t, rfl⟩ := (show ∃ t, iv = Value.str z t from ry)
  have hm := PySem.W.mapOf_K (prog := X.prog) (w := X.w) I2.kIn D.at_ D.lit
  refine call_meetsIn PySem.F.slot_dict_get hm.typeIs PySem.F.entry_dict_get (PySem.F.args_dict_get_2 _ _) (meets_dict_get (PySem.strKind X.prog X.w) p (PySem.strKind_is X.prog X.w z t) D.low) ⟨_, hm, ?_⟩
  rw [PySem.W.find_K D.at_ e1]
  exact ⟨v, H2, I2.tok _, rv, q2⟩
end
theorem hu65 {k : Nat} {A : Around} (hr : Room k A) : A.units + 65 < cLine := by
  have := hr.un
  omega
theorem scOpw : FnScope ["sign", "one", "other"] ["sign", "one", "other"] (defScope sOpw) := ⟨rfl, rfl, rfl, by decide +kernel, rfl, by decide +kernel, by decide +kernel⟩
theorem scFitted : FnScope ["node", "widths", "kind"] ["node", "widths"] (defScope sFitted) := ⟨rfl, rfl, rfl, by decide +kernel, rfl, by decide +kernel, by decide +kernel⟩
theorem scParts : FnScope ["tree", "at"] ["tree"] (defScope sParts) := ⟨rfl, rfl, rfl, by decide +kernel, rfl, by decide +kernel, by decide +kernel⟩
def opW (s : Str) (x y : Nat) : Nat := if s ∈ shiftL then x else if x = y then (if s ∈ testL then 1 else if s ∈ arithL then x else 0) else 0
def opD (d : PyData) (x y : Nat) : Nat := match d with
  | .str s => opW s x y
  | _ => 0
theorem any_str (L : List Str) (d : PyData) : ((L.map PyData.str).any fun z => PyData.eqv z d) = (match d with | .str s => decide (s ∈ L) | _ => false) := by
  induction L with
  | nil => cases d <;> simp
  | cons a L ih =>
    rw [List.map_cons, List.any_cons, ih]
    cases d with
    | str s =>
      show (a == s || decide (s ∈ L)) = decide (s ∈ a :: L)
      rw [show (a == s) = decide (s = a) from by
        by_cases h : s = a
        · subst h
          simp
        · rw [decide_eq_false h]
          exact beq_eq_false_iff_ne.mpr (fun z => h z.symm)]
      by_cases h1 : s = a <;> by_cases h2 : s ∈ L <;> simp [h1, h2]
    | _ => rfl
theorem sh_strs (L : List Str) (h : (L.all fun s => PyData.canLay0 (.str s)) = true) : SeqAt.shaped (.tuple (L.map PyData.str)) = true := by
  have h1 : ∀ L : List Str, (L.all fun s => PyData.canLay0 (.str s)) = true → PyData.canLayAll0 (L.map PyData.str) = true ∧ PyData.depthAll (L.map PyData.str) ≤ 5 := by
    intro L
    induction L with
    | nil => exact fun _ => ⟨rfl, Nat.zero_le _⟩
    | cons a L ih =>
      intro h
      rw [List.all_cons, Bool.and_eq_true] at h
      obtain ⟨i1, i2⟩ := ih h.2
      refine ⟨?_, ?_⟩
      · show (PyData.canLay0 (.str a) && PyData.canLayAll0 (L.map PyData.str)) = true
        rw [h.1, i1]
        rfl
      · show max (PyData.depth (.str a)) (PyData.depthAll (L.map PyData.str)) ≤ 5
        exact Nat.max_le.mpr ⟨Nat.zero_le _, i2⟩
  obtain ⟨a, b⟩ := h1 L h
  unfold SeqAt.shaped
  rw [Bool.and_eq_true]
  refine ⟨a, decide_eq_true ?_⟩
  show PyData.depthAll (L.map PyData.str) + 1 ≤ 64
  omega
theorem dps_strs {K : PySem.W.Frag} {H : Hp} : ∀ L : List Str, DpAll K H (L.map V.str) (L.map PyData.str)
  | [] => .nil
  | a :: L => .cons (.str _) (dps_strs L)
section
variable {P : Program} {w : World} {K : PySem.W.Frag} {mg : Str → Option Value} {base : Heap} {tw tb : Tok} {aS aT aA aP : Addr}
structure Gs (K : PySem.W.Frag) (mg : Str → Option Value) (aS aT aA : Addr) : Prop where
  sh : mg "SHIFTS" = some (.ref aS)
  te : mg "TESTS" = some (.ref aT)
  sa : mg "SAME_WIDTH" = some (.ref aA)
  kS : ∀ H, SqT K H aS (shiftL.map V.str)
  kT : ∀ H, SqT K H aT (testL.map V.str)
  kA : ∀ H, SqT K H aA (arithL.map V.str)
def spOpw (K : PySem.W.Frag) : Sp := fun vs H Q _ => ∃ (v : V) (d : PyData) (x y : Nat), vs = [v, iV x, iV y] ∧ Dp K H v d ∧ SeqAt.shaped d = true ∧ Q (iV (opD d x y)) H
theorem ok_opw {f : Addr} {fd : FuncData} (F : Fun K "op_width" "op_width" sOpw f fd) (G2 : Gs K mg aS aT aA) : FnOk P w K mg base CX0 1 f fd ["sign", "one", "other"] (spOpw K) := by
  refine F.ok scOpw (fun vs H Q E h => ?_) (fun cdv A outer s H vs Q E hr h => ?_)
  · obtain ⟨v, d, x, y, rfl, _⟩ := h
    rfl
  · obtain ⟨v, d, x, y, rfl, hd, sd, q⟩ := h
    have hu := hu65 hr
    refine ⟨_, (pss_cons (ps_if (pt_cmpR (op_inTD hu) (pv 0) (pe_glob (v := .ref aS) (by rfl) G2.sh rfl) (by rfl)) (pss_one (ps_ret (pv 1))) pss_nil)
      (pss_cons (ps_if (pt_cmpR op_ne (pv 1) (pv 2) (nomark _)) (pss_one (ps_ret (pe_int))) pss_nil)
      (pss_cons (ps_if (pt_cmpR (op_inTD hu) (pv 0) (pe_glob (v := .ref aT) (by rfl) G2.te rfl) (by rfl)) (pss_one (ps_ret (pe_int))) pss_nil)
      (pss_one (ps_ret (pe_ifExp (pt_cmpR (op_inTD hu) (pv 0) (pe_glob (v := .ref aA) (by rfl) G2.sa rfl) (by rfl)) (pv 1) pe_int)))))), ?_⟩
    refine ⟨_, rfl, d, shiftL.map PyData.str, hd, .tup (G2.kS _) (dps_strs _), sd, sh_strs _ (by decide +kernel), _, rfl, ?_⟩
    rw [any_str]
    refine ite2 (fun a1 => ?_) (fun a1 => ?_)
    · refine ⟨_, rfl, ?_⟩
      cases d with
      | str s =>
        have e : opD (.str s) x y = x := if_pos (of_decide_eq_true a1)
        rw [e] at q
        exact q
      | _ => cases a1
    refine ⟨_, rfl, _, rfl, rfl, _, rfl, ?_⟩
    by_cases hxy : x = y
    · subst hxy
      refine iteNS rfl ?_
      refine ⟨_, rfl, d, testL.map PyData.str, hd, .tup (G2.kT _) (dps_strs _), sd, sh_strs _ (by decide +kernel), _, rfl, ?_⟩
      rw [any_str]
      refine ite2 (fun a2 => ?_) (fun a2 => ?_)
      · cases d with
        | str s =>
          have e : opD (.str s) x x = 1 := by
            show opW s x x = 1
            unfold opW
            rw [if_neg (fun z => a1 (decide_eq_true z)), if_pos rfl, if_pos (of_decide_eq_true a2)]
          rw [e] at q
          exact q
        | _ => cases a2
      refine ⟨_, rfl, d, arithL.map PyData.str, hd, .tup (G2.kA _) (dps_strs _), sd, sh_strs _ (by decide +kernel), _, rfl, ?_⟩
      rw [any_str]
      refine ite2 (fun a3 => ?_) (fun a3 => ?_)
      · refine ⟨_, rfl, ?_⟩
        cases d with
        | str s =>
          have e : opD (.str s) x x = x := by
            show opW s x x = x
            unfold opW
            rw [if_neg (fun z => a1 (decide_eq_true z)), if_pos rfl, if_neg (fun z => a2 (decide_eq_true z)), if_pos (of_decide_eq_true a3)]
          rw [e] at q
          exact q
        | _ => cases a3
      · have e : opD d x x = 0 := by
          cases d with
          | str s =>
            show opW s x x = 0
            unfold opW
            rw [if_neg (fun z => a1 (decide_eq_true z)), if_pos rfl, if_neg (fun z => a2 (decide_eq_true z)), if_neg (fun z => a3 (decide_eq_true z))]
          | _ => rfl
        rw [e] at q
        exact q
    · have e : opD d x y = 0 := by
        cases d with
        | str s =>
          show opW s x y = 0
          unfold opW
          rw [if_neg (fun z => a1 (decide_eq_true z)), if_neg hxy]
        | _ => rfl
      rw [e] at q
      rw [show (!decide (V.int ((x : Nat) : Int) = V.int ((y : Nat) : Int))) = true from congrArg Bool.not (decide_eq_false (fun z => hxy (Int.ofNat.inj (V.int.inj z))))]
      exact iteT q
theorem sF {a b : Str} (h : a ≠ b) : decide (V.str a = V.str b) = false := decide_eq_false fun z => h (V.str.inj z)
theorem sT (a : Str) : decide (V.str a = V.str a) = true := decide_eq_true rfl
theorem dp_tup {H : Hp} {v : V} {ds : List PyData} (h : Dp K H v (.tuple ds)) : ∃ b xs, v = .ref b ∧ SqT K H b xs ∧ DpAll K H xs ds := by
  cases h with
  | tup s a => exact ⟨_, _, rfl, s, a⟩
inductive FitAt : Str → List PyData → List Nat → Nat → Prop
  | op {s a b : PyData} {x y : Nat} : SeqAt.shaped s = true → FitAt "op" [s, a, b] [x, y] (opD s x y)
  | pick {t a b : PyData} {x y z : Nat} : FitAt "pick" [t, a, b] [x, y, z] (if x = 1 ∧ y = z then y else 0)
  | inv {a : PyData} {x : Nat} : FitAt "not" [a] [x] x
  | wide {a : PyData} {w : Int} {x : Nat} : FitAt "wide" [a, .int w] [x] (if 1 ≤ w ∧ w ≤ 32 then w.toNat else 0)
  | part {a : PyData} {lo hi : Int} {x : Nat} : FitAt "part" [a, .int lo, .int hi] [x] (if 0 ≤ lo ∧ lo ≤ hi ∧ hi < x then (hi - lo + 1).toNat else 0)
  | join {a b : PyData} {x y : Nat} : FitAt "join" [a, b] [x, y] (if x + y ≤ 32 then x + y else 0)
def spFitted (K : PySem.W.Frag) : Sp := fun vs H Q _ => ∃ (v : V) (wl : Addr) (k : Str) (r : List PyData) (ks : List Nat) (z : Nat), vs = [v, .ref wl] ∧ Dp K H v (.tuple (.str k :: r)) ∧ SqL K H wl (ks.map iV) ∧ FitAt k r ks z ∧ Q (iV z) H
theorem ok_fitted {f fO : Addr} {fd fdO : FuncData} (F : Fun K "fitted_width" "fitted_width" sFitted f fd) (G : Gp mg tw tb) (GO : FnOk P w K mg base CX0 1 fO fdO ["sign", "one", "other"] (spOpw K)) (kO : PySem.W.keepIn K (.ref fO) = true) (bO : Binds K fdO ["sign", "one", "other"] []) (gO : mg "op_width" = some (.ref fO)) :
    FnOk P w K mg base CX0 2 f fd ["node", "widths"] (spFitted K) := by
  refine F.ok scFitted (fun vs H Q E h => ?_) (fun cdv A outer s H vs Q E hr h => ?_)
  · obtain ⟨v, wl, k, r, ks, z, rfl, _⟩ := h
    rfl
  · obtain ⟨v, wl, k, r, ks, z, rfl, hd, hw, hf, q⟩ := h
    have nd := scFitted.nd
    obtain ⟨b, xs, rfl, sb, da⟩ := dp_tup hd
    cases da with
    | cons d0 da =>
    cases d0
    rename_i xs
    refine ⟨_, (pss_cons (ps_set (i := 2) nd rfl (.inl rfl) (pe_ix ix_tup (pv 0) (pe_int) (fun _ _ => rfl)))
      (pss_cons (ps_if (pt_cmpR op_eq (pv 2) (pe_str) (nomark _)) (pss_one (ps_ret (pe_call GO hr (by rfl) gO kO bO .nil pass0 (pa_cons (pe_ix ix_tup (pv 0) (pe_int) (fun _ _ => rfl)) (pa_cons (pe_ix ix_list (pv 1) (pe_int) (fun _ _ => rfl)) (pa_cons (pe_ix ix_list (pv 1) (pe_int) (fun _ _ => rfl)) pa_nil)))))) pss_nil)
      (pss_cons (ps_if (pt_cmpR op_eq (pv 2) (pe_str) (nomark _)) (pss_one (ps_ret (pe_ifExp (PW.pt (pw_and (pt_cmpR op_eq (pe_ix ix_list (pv 1) (pe_int) (fun _ _ => rfl)) (pe_int) (nomark _)) (pw_and1 (pt_cmpR op_eq (pe_ix ix_list (pv 1) (pe_int) (fun _ _ => rfl)) (pe_ix ix_list (pv 1) (pe_int) (fun _ _ => rfl)) (nomark _))))) (pe_ix ix_list (pv 1) (pe_int) (fun _ _ => rfl)) pe_int))) pss_nil)
      (pss_cons (ps_if (pt_cmpR op_eq (pv 2) (pe_str) (nomark _)) (pss_one (ps_ret (pe_ix ix_list (pv 1) (pe_int) (fun _ _ => rfl)))) pss_nil)
      (pss_cons (ps_if (pt_cmpR op_eq (pv 2) (pe_str) (nomark _)) (pss_one (ps_ret (pe_ifExp (pt_chain op_le op_le (pe_int) (pe_ix ix_tup (pv 0) (pe_int) (fun _ _ => rfl)) (pe_glob (v := .int 32) (by rfl) G.mw ⟨_, rfl⟩)) (pe_ix ix_tup (pv 0) (pe_int) (fun _ _ => rfl)) pe_int))) pss_nil)
      (pss_cons (ps_if (pt_cmpR op_eq (pv 2) (pe_str) (nomark _)) (pss_one (ps_ret (pe_ifExp (pt_chain3 op_le op_le op_lt pe_int (pe_ix ix_tup (pv 0) (pe_int) (fun _ _ => rfl)) (pe_ix ix_tup (pv 0) (pe_int) (fun _ _ => rfl)) (pe_ix ix_list (pv 1) (pe_int) (fun _ _ => rfl))) (pe_op op_add (pe_op op_sub (pe_ix ix_tup (pv 0) (pe_int) (fun _ _ => rfl)) (pe_ix ix_tup (pv 0) (pe_int) (fun _ _ => rfl))) (pe_int)) pe_int))) pss_nil)
      (pss_one (ps_ret (pe_ifExp (pt_cmpR op_le (pe_op op_add (pe_ix ix_list (pv 1) (pe_int) (fun _ _ => rfl)) (pe_ix ix_list (pv 1) (pe_int) (fun _ _ => rfl))) (pe_glob (v := .int 32) (by rfl) G.mw ⟨_, rfl⟩) (nomark _)) (pe_op op_add (pe_ix ix_list (pv 1) (pe_int) (fun _ _ => rfl)) (pe_ix ix_list (pv 1) (pe_int) (fun _ _ => rfl))) pe_int))))))))), ?_⟩
    refine ⟨_, rfl, _, _, _, _, rfl, rfl, sb, atI_nat (j := 0) rfl, ?_⟩
    refine ⟨_, rfl, rfl, _, rfl, ?_⟩
    cases hf with
    | @op s a b2 x y sh =>
      cases da with
      | cons d1 da =>
      rw [sT]
      refine iteT ?_
      refine ⟨_, rfl, _, _, _, _, rfl, rfl, sb, atI_nat (j := 1) rfl, _, rfl, wl, _, _, _, rfl, rfl, hw, atI_nat (j := 0) rfl, _, rfl, wl, _, _, _, rfl, rfl, hw, atI_nat (j := 1) rfl, _, s, x, y, rfl, d1, sh, q⟩
    | @pick t a b2 x y z =>
      rw [sF (by decide +kernel)]
      refine iteF ⟨_, rfl, rfl, _, rfl, ?_⟩
      rw [sT]
      refine iteT ?_
      refine ⟨_, rfl, wl, _, _, _, rfl, rfl, hw, atI_nat (j := 0) rfl, rfl, _, rfl, ite2 (fun a1 => ?_) (fun a1 => ?_)⟩
      · have e1 : x = 1 := by
          have := V.int.inj (of_decide_eq_true a1)
          omega
        refine ⟨_, rfl, wl, _, _, _, rfl, rfl, hw, atI_nat (j := 1) rfl, _, rfl, wl, _, _, _, rfl, rfl, hw, atI_nat (j := 2) rfl, rfl, _, rfl, ite2 (fun a2 => ?_) (fun a2 => ?_)⟩
        · have e2 : y = z := Int.ofNat.inj (V.int.inj (of_decide_eq_true a2))
          rw [if_pos ⟨e1, e2⟩] at q
          exact ⟨_, rfl, wl, _, _, _, rfl, rfl, hw, atI_nat (j := 1) rfl, q⟩
        · rw [if_neg (fun h => a2 (decide_eq_true (by rw [h.2])))] at q
          exact q
      · rw [if_neg (fun h => a1 (decide_eq_true (by rw [h.1]; rfl)))] at q
        exact q
    | @inv a x =>
      rw [sF (by decide +kernel)]
      refine iteF ⟨_, rfl, rfl, _, rfl, ?_⟩
      rw [sF (by decide +kernel)]
      refine iteF ⟨_, rfl, rfl, _, rfl, ?_⟩
      rw [sT]
      exact iteT ⟨_, rfl, wl, _, _, _, rfl, rfl, hw, atI_nat (j := 0) rfl, q⟩
    | @wide a w0 x =>
      cases da with
      | cons d1 da =>
      cases da with
      | cons d2 da =>
      cases d2
      rw [sF (by decide +kernel)]
      refine iteF ⟨_, rfl, rfl, _, rfl, ?_⟩
      rw [sF (by decide +kernel)]
      refine iteF ⟨_, rfl, rfl, _, rfl, ?_⟩
      rw [sF (by decide +kernel)]
      refine iteF ⟨_, rfl, rfl, _, rfl, ?_⟩
      rw [sT]
      refine iteT ?_
      refine ⟨_, rfl, _, _, _, _, rfl, rfl, sb, atI_nat (j := 2) rfl, _, _, rfl, rfl, _, rfl, ite2 (fun a1 => ?_) (fun a1 => ?_)⟩
      · have h1 := of_decide_eq_true a1
        refine ⟨_, _, rfl, rfl, _, rfl, ite2 (fun a2 => ?_) (fun a2 => ?_)⟩
        · have h2 := of_decide_eq_true a2
          rw [if_pos ⟨h1, h2⟩] at q
          refine ⟨_, rfl, _, _, _, _, rfl, rfl, sb, atI_nat (j := 2) rfl, ?_⟩
          rw [show iV w0.toNat = V.int w0 from congrArg V.int (by omega)] at q
          exact q
        · rw [if_neg (fun h => a2 (decide_eq_true h.2))] at q
          exact q
      · refine ⟨_, rfl, ?_⟩
        rw [if_neg (fun h => a1 (decide_eq_true h.1))] at q
        exact q
    | @part a lo hi x =>
      cases da with
      | cons d1 da =>
      cases da with
      | cons d2 da =>
      cases da with
      | cons d3 da =>
      cases d2
      cases d3
      rw [sF (by decide +kernel)]
      refine iteF ⟨_, rfl, rfl, _, rfl, ?_⟩
      rw [sF (by decide +kernel)]
      refine iteF ⟨_, rfl, rfl, _, rfl, ?_⟩
      rw [sF (by decide +kernel)]
      refine iteF ⟨_, rfl, rfl, _, rfl, ?_⟩
      rw [sF (by decide +kernel)]
      refine iteF ⟨_, rfl, rfl, _, rfl, ?_⟩
      rw [sT]
      refine iteT ?_
      refine ⟨_, rfl, _, _, _, _, rfl, rfl, sb, atI_nat (j := 2) rfl, _, _, rfl, rfl, _, rfl, ite2 (fun a1 => ?_) (fun a1 => ?_)⟩
      · have h1 := of_decide_eq_true a1
        refine ⟨_, rfl, _, _, _, _, rfl, rfl, sb, atI_nat (j := 3) rfl, _, _, rfl, rfl, _, rfl, ite2 (fun a2 => ?_) (fun a2 => ?_)⟩
        · have h2 := of_decide_eq_true a2
          refine ⟨_, rfl, wl, _, _, _, rfl, rfl, hw, atI_nat (j := 0) rfl, _, _, rfl, rfl, _, rfl, ite2 (fun a3 => ?_) (fun a3 => ?_)⟩
          · have h3 := of_decide_eq_true a3
            rw [if_pos ⟨h1, h2, h3⟩] at q
            refine ⟨_, rfl, _, _, _, _, rfl, rfl, sb, atI_nat (j := 3) rfl, _, rfl, _, _, _, _, rfl, rfl, sb, atI_nat (j := 2) rfl, _, _, rfl, rfl, _, _, rfl, rfl, ?_⟩
            rw [show iV (hi - lo + 1).toNat = V.int (hi - lo + 1) from congrArg V.int (by omega)] at q
            exact q
          · rw [if_neg (fun h => a3 (decide_eq_true h.2.2))] at q
            exact q
        · rw [if_neg (fun h => a2 (decide_eq_true h.2.1))] at q
          exact q
      · rw [if_neg (fun h => a1 (decide_eq_true h.1))] at q
        exact q
    | @join a b2 x y =>
      rw [sF (by decide +kernel)]
      refine iteF ⟨_, rfl, rfl, _, rfl, ?_⟩
      rw [sF (by decide +kernel)]
      refine iteF ⟨_, rfl, rfl, _, rfl, ?_⟩
      rw [sF (by decide +kernel)]
      refine iteF ⟨_, rfl, rfl, _, rfl, ?_⟩
      rw [sF (by decide +kernel)]
      refine iteF ⟨_, rfl, rfl, _, rfl, ?_⟩
      rw [sF (by decide +kernel)]
      refine iteF ?_
      refine ⟨_, rfl, wl, _, _, _, rfl, rfl, hw, atI_nat (j := 0) rfl, _, rfl, wl, _, _, _, rfl, rfl, hw, atI_nat (j := 1) rfl, _, _, rfl, rfl, _, _, rfl, rfl, _, rfl, ite2 (fun a1 => ?_) (fun a1 => ?_)⟩
      · have h1 := of_decide_eq_true a1
        rw [if_pos (by omega)] at q
        refine ⟨_, rfl, wl, _, _, _, rfl, rfl, hw, atI_nat (j := 0) rfl, _, rfl, wl, _, _, _, rfl, rfl, hw, atI_nat (j := 1) rfl, _, _, rfl, rfl, ?_⟩
        rw [show iV (x + y) = V.int (((x : Nat) : Int) + ((y : Nat) : Int)) from congrArg V.int (by omega)] at q
        exact q
      · rw [if_neg (fun h => a1 (decide_eq_true (by omega)))] at q
        exact q
def spParts (K : PySem.W.Frag) (w : World) (aP : Addr) : Sp := fun vs H Q _ => ∃ (b t : Addr) (xs ys : List V) (k : Str) (is : List Nat), vs = [.ref b] ∧ SqT K H b xs ∧ xs[0]? = some (.str k) ∧ KDct K w aP k (.ref t) ∧ (∀ H, SqT K H t (is.map iV)) ∧ is.length ≤ 5 ∧ ys.length = is.length ∧ (∀ (j i : Nat), is[j]? = some i → xs[i]? = ys[j]?) ∧
  ∀ p, H p = none → Q (.ref p) (upd H p (.lst ys))
theorem ok_parts {f : Addr} {fd : FuncData} (F : Fun K "parts" "parts" sParts f fd) (gP : mg "PARTS" = some (.ref aP)) : FnOk P w K mg base CX0 1 f fd ["tree"] (spParts K w aP) := by
  refine F.ok scParts (fun vs H Q E h => ?_) (fun cdv A outer s H vs Q E hr h => ?_)
  · obtain ⟨b, t, xs, ys, k, is, rfl, _⟩ := h
    rfl
  · obtain ⟨b, t, xs, ys, k, is, rfl, sb, hk, hd, ht, hl5, hl, hy, q⟩ := h
    have nd := scParts.nd
    refine ⟨_, (pss_one (ps_ret (pe_lc (own := [("at", 1)]) (g := gName 1) (tt := tYes) (te := tOp (rIxT K) (tVar 0) (tVar 1)) rfl nd (pi_tup (pe_ix ix_kdict (pe_glob (v := .ref aP) (by rfl) gP rfl) (pe_ix ix_tup (pv 0) (pe_int) (fun _ _ => rfl)) (fun _ _ => rfl))) (blkOk_by (own := [("at", 1)]) (N := ["tree", "at"]) (sc := defScope sParts) (by decide +kernel)) (fun _ _ _ _ _ => pg_name (i := 1) nd rfl (.inl rfl)) (fun _ _ _ _ _ => pts_nil) (fun _ _ _ _ _ => by exact (pe_ix ix_tup (pv 0) (pv 1) (fun _ _ => rfl)))))), ?_⟩
    refine ⟨_, rfl, _, _, _, _, rfl, rfl, sb, atI_nat (j := 0) hk, _, _, _, rfl, rfl, hd, t, rfl, ⟨_, ht _⟩, fun D nD => ?_⟩
    have stay : ∀ {o : HO}, SqT K (upd H D o) b xs := fun {o} => by
      rcases sb with (h | ⟨u, h⟩) | h
      · exact .inl (.inl (by rw [upd_ne (ne_of_none h nD)]; exact h))
      · exact .inl (.inr ⟨u, by rw [upd_ne (ne_of_none h nD)]; exact h⟩)
      · exact .inr h
    refine lc_tup (xs := is.map iV) (fun j H' => H' = upd H D (.lst (ys.take j))) rfl (fun j H' _ h => ht _) (fun j x H' hx h => ?_) (fun H' h => ?_)
    · subst h
      obtain ⟨i, ei⟩ : ∃ i, is[j]? = some i := by
        rw [List.getElem?_map] at hx
        cases e : is[j]? with
        | none =>
          rw [e] at hx
          cases hx
        | some i => exact ⟨i, rfl⟩
      have ex : x = iV i := by
        rw [List.getElem?_map, ei] at hx
        exact (Option.some.inj hx).symm
      subst ex
      have hj : j < is.length := (List.getElem?_eq_some_iff.mp ei).1
      obtain ⟨y, ey⟩ : ∃ y, ys[j]? = some y := ⟨_, List.getElem?_eq_getElem (by omega)⟩
      have hxi : xs[i]? = some y := (hy j i ei).trans ey
      refine ⟨rfl, _, rfl, _, rfl, b, _, _, _, rfl, rfl, stay, atI_nat hxi, ys.take j, upd_same, Nat.lt_of_le_of_lt (List.length_take_le _ _) (by rw [sizeLine_eq]; omega), ?_⟩
      rw [upd_upd, List.take_add_one, ey]
      rfl
    · subst h
      rw [List.length_map, ← hl, List.take_length]
      exact q D nD
end
end C1
/-! known_row_width. -/
namespace C1
open PySem PySem.Spec PyProof.Rows L2 SX
abbrev NK : List Str := ["circuit", "widths", "row", "kind", "part"]
theorem scKnown : FnScope NK ["circuit", "widths", "row"] (defScope sKnown) := ⟨rfl, rfl, rfl, by decide +kernel, rfl, by decide +kernel, by decide +kernel⟩
def partIx (k : Str) : List Nat := if k = "op" then [2, 3] else if k = "pick" then [1, 2, 3] else if k = "join" then [1, 2] else if k = "look" then [2] else if k = "lit" then [] else if k = "reg" then [] else [1]
def kindsP : List Str := ["look", "not", "op", "pick", "wide", "part", "join"]
def kindsF : List Str := ["not", "op", "pick", "wide", "part", "join"]
theorem partIx_len (k : Str) : (partIx k).length ≤ 3 := by
  unfold partIx
  split
  · decide
  split
  · decide
  split
  · decide
  split
  · decide
  split
  · decide
  split
  · decide
  · decide
theorem same_tup {K : PySem.W.Frag} {H H' : Hp} (s : Same H H') : ∀ b xs, SqT K H b xs → SqT K H' b xs := fun b xs h => by
  rcases h with (h | ⟨u, h⟩) | h
  · exact .inl (.inl (s _ _ h))
  · exact .inl (.inr ⟨u, s _ _ h⟩)
  · exact .inr h
theorem Same.up {H : Hp} {p : Addr} {o : HO} (n : H p = none) : Same H (upd H p o) := same_new n
/-- a circuit whose registers and memories fit -/
structure CH (K : PySem.W.Frag) (H : Hp) (cA : Addr) (regs mems : List (Nat × Nat)) : Prop where
  ex : ∃ (r m : Addr) (rest rvs mvs : List V), SqT K H cA (.ref r :: .ref m :: rest) ∧ SqT K H r rvs ∧ DpAll K H rvs (regs.map pr) ∧ SqT K H m mvs ∧ DpAll K H mvs (mems.map pr)
theorem CH.same {K : PySem.W.Frag} {H H' : Hp} {cA : Addr} {regs mems : List (Nat × Nat)} (C : CH K H cA regs mems) (s : Same H H') : CH K H' cA regs mems := by
  obtain ⟨r, m, rest, rvs, mvs, h1, h2, h3, h4, h5⟩ := C.ex
  exact ⟨r, m, rest, rvs, mvs, same_tup s _ _ h1, same_tup s _ _ h2, dps_stay (same_tup s) _ _ h3 (noLs_pr _), same_tup s _ _ h4, dps_stay (same_tup s) _ _ h5 (noLs_pr _)⟩
/-- a row that is known to fit, and its width -/
inductive KnownAt (regs mems : List (Nat × Nat)) (ws : List Nat) : List PyData → Nat → Prop
  | lit {v : PyData} {w : Nat} : KnownAt regs mems ws [.str "lit", v, iD w] w
  | reg {i : Nat} {p : Nat × Nat} : regs[i]? = some p → KnownAt regs mems ws [.str "reg", iD i] p.1
  | look {m : Nat} {p : Nat × Nat} {a : PyData} : mems[m]? = some p → KnownAt regs mems ws [.str "look", iD m, a] p.2
  | fit {k : Str} {r : List PyData} {ns ks : List Nat} {z : Nat} : k ∈ kindsF → FitAt k r ks z → ns.length = (partIx k).length → (∀ (j i : Nat), (partIx k)[j]? = some i → (PyData.str k :: r)[i]? = (ns[j]?).map iD) → ks.length = ns.length → (∀ (j n : Nat), ns[j]? = some n → ws[n]? = ks[j]?) →
      KnownAt regs mems ws (.str k :: r) z
section
variable {P : Program} {w : World} {K : PySem.W.Frag} {mg : Str → Option Value} {base : Heap} {tw tb : Tok} {aS aT aA aP aL : Addr}
def PtOk (K : PySem.W.Frag) (w : World) (aP : Addr) : Prop := ∀ k ∈ kindsP, ∃ t, KDct K w aP k (.ref t) ∧ ∀ H, SqT K H t ((partIx k).map iV)
def spKnown (K : PySem.W.Frag) : Sp := fun vs H Q _ => ∃ (cA wl : Addr) (v : V) (regs mems : List (Nat × Nat)) (ws : List Nat) (es : List PyData) (z : Nat), vs = [.ref cA, .ref wl, v] ∧ CH K H cA regs mems ∧ H wl = some (.lst (ws.map iV)) ∧ Dp K H v (.tuple es) ∧ noLs es = true ∧ KnownAt regs mems ws es z ∧ ∀ H', Same H H' → Q (iV z) H'
theorem ok_known {f fP fF : Addr} {fd fdP fdF : FuncData} (F : Fun K "known_row_width" "known_row_width" sKnown f fd) (GPt : FnOk P w K mg base CX0 1 fP fdP ["tree"] (spParts K w aP)) (kPt : PySem.W.keepIn K (.ref fP) = true) (bPt : Binds K fdP ["tree"] []) (gPt : mg "parts" = some (.ref fP))
    (GF : FnOk P w K mg base CX0 2 fF fdF ["node", "widths"] (spFitted K)) (kF : PySem.W.keepIn K (.ref fF) = true) (bF : Binds K fdF ["node", "widths"] []) (gF : mg "fitted_width" = some (.ref fF)) (PT : PtOk K w aP) :
    FnOk P w K mg base CX0 3 f fd ["circuit", "widths", "row"] (spKnown K) := by
  refine F.ok scKnown (fun vs H Q E h => ?_) (fun cdv A outer s H vs Q E hr h => ?_)
  · obtain ⟨cA, wl, v, regs, mems, ws, es, z, rfl, _⟩ := h
    rfl
  · obtain ⟨cA, wl, v, regs, mems, ws, es, z, rfl, C, hw, hd, hn, hk, q⟩ := h
    have nd := scKnown.nd
    have hr1 : Room 1 _ := hr.mono (by decide)
    obtain ⟨b, xs, rfl, sb, da⟩ := dp_tup hd
    refine ⟨_, (pss_cons (ps_set (i := 3) nd rfl (.inl rfl) (pe_ix ix_tup (pv 2) (pe_int) (fun _ _ => rfl)))
      (pss_cons (ps_if (pt_cmpR op_eq (pv 3) (pe_str) (nomark _)) (pss_one (ps_ret (pe_ix ix_tup (pv 2) (pe_int) (fun _ _ => rfl)))) pss_nil)
      (pss_cons (ps_if (pt_cmpR op_eq (pv 3) (pe_str) (nomark _)) (pss_one (ps_ret (pe_ix ix_tup (pe_ix ix_tup (pe_ix ix_tup (pv 0) (pe_int) (fun _ _ => rfl)) (pe_ix ix_tup (pv 2) (pe_int) (fun _ _ => rfl)) (fun _ _ => rfl)) (pe_int) (fun _ _ => rfl)))) pss_nil)
      (pss_cons (ps_if (pt_cmpR op_eq (pv 3) (pe_str) (nomark _)) (pss_one (ps_ret (pe_ix ix_tup (pe_ix ix_tup (pe_ix ix_tup (pv 0) (pe_int) (fun _ _ => rfl)) (pe_ix ix_tup (pv 2) (pe_int) (fun _ _ => rfl)) (fun _ _ => rfl)) (pe_int) (fun _ _ => rfl)))) pss_nil)
      (pss_one (ps_ret (pe_call GF hr (by rfl) gF kF bF .nil pass0 (pa_cons (pv 2) (pa_cons (pe_lc (own := [("part", 4)]) (g := gName 4) (tt := tYes) (te := tOp (rIxL K) (tVar 1) (tVar 4)) rfl nd (pi_list (pe_call GPt hr1 (by rfl) gPt kPt bPt .nil pass0 (pa_cons (pv 2) pa_nil))) (blkOk_by (own := [("part", 4)]) (N := NK) (sc := defScope sKnown) (by decide +kernel)) (fun _ _ _ _ _ => pg_name (i := 4) nd rfl (.inl rfl)) (fun _ _ _ _ _ => pts_nil) (fun _ _ _ _ _ => by exact (pe_ix ix_list (pv 1) (pv 4) (fun _ _ => rfl)))) pa_nil))))))))), ?_⟩
    have hx0 : ∃ k, es[0]? = some (.str k) := by cases hk <;> exact ⟨_, rfl⟩
    obtain ⟨k, ek⟩ := hx0
    obtain ⟨x0, ex0, dx0⟩ := dps_put da ek
    cases dx0
    refine ⟨_, rfl, _, _, _, _, rfl, rfl, sb, atI_nat (j := 0) ex0, ?_⟩
    refine ⟨_, rfl, rfl, _, rfl, ?_⟩
    obtain ⟨ra, ma, rest, rvs, mvs, h1, h2, h3, h4, h5⟩ := C.ex
    cases hk with
    | @lit v0 w0 =>
      cases ek
      obtain ⟨x2, ex2, dx2⟩ := dps_put da (i := 2) rfl
      cases dx2
      rw [sT]
      exact iteT ⟨_, rfl, _, _, _, _, rfl, rfl, sb, atI_nat (j := 2) ex2, q H (Same.refl H)⟩
    | @reg i p ep =>
      cases ek
      obtain ⟨x1, ex1, dx1⟩ := dps_put da (i := 1) rfl
      cases dx1
      obtain ⟨b2, hb1, hb2⟩ := pr_at h3 ep
      rw [sF (by decide +kernel)]
      refine iteF ⟨_, rfl, rfl, _, rfl, ?_⟩
      rw [sT]
      exact iteT ⟨_, rfl, _, _, _, _, rfl, rfl, h1, atI_nat (j := 0) rfl, _, rfl, _, _, _, _, rfl, rfl, sb, atI_nat (j := 1) ex1, _, _, _, _, rfl, rfl, h2, atI_nat hb1, _, _, _, _, rfl, rfl, hb2, atI_nat (j := 0) rfl, q H (Same.refl H)⟩
    | @look m p a ep =>
      cases ek
      obtain ⟨x1, ex1, dx1⟩ := dps_put da (i := 1) rfl
      cases dx1
      obtain ⟨b2, hb1, hb2⟩ := pr_at h5 ep
      rw [sF (by decide +kernel)]
      refine iteF ⟨_, rfl, rfl, _, rfl, ?_⟩
      rw [sF (by decide +kernel)]
      refine iteF ⟨_, rfl, rfl, _, rfl, ?_⟩
      rw [sT]
      exact iteT ⟨_, rfl, _, _, _, _, rfl, rfl, h1, atI_nat (j := 1) rfl, _, rfl, _, _, _, _, rfl, rfl, sb, atI_nat (j := 1) ex1, _, _, _, _, rfl, rfl, h4, atI_nat hb1, _, _, _, _, rfl, rfl, hb2, atI_nat (j := 1) rfl, q H (Same.refl H)⟩
    | @fit k2 r ns ks z2 hkf hf hnl hns hkl hks =>
      cases ek
      have hkn : ∀ s : Str, s ∉ kindsF → k ≠ s := fun s h e => h (e ▸ hkf)
      rw [sF (hkn "lit" (by decide +kernel))]
      refine iteF ⟨_, rfl, rfl, _, rfl, ?_⟩
      rw [sF (hkn "reg" (by decide +kernel))]
      refine iteF ⟨_, rfl, rfl, _, rfl, ?_⟩
      rw [sF (hkn "look" (by decide +kernel))]
      refine iteF ?_
      have hkp : k ∈ kindsP := List.mem_cons_of_mem _ hkf
      obtain ⟨t, pt1, pt2⟩ := PT k hkp
      have pl := partIx_len k
      refine ⟨_, rfl, _, rfl, b, t, xs, ns.map iV, k, partIx k, rfl, sb, ex0, pt1, pt2, by omega, by rw [List.length_map]; exact hnl, fun j i hj => ?_, fun p np => ?_⟩
      · have hjl : j < (partIx k).length := (List.getElem?_eq_some_iff.mp hj).1
        obtain ⟨n, en⟩ : ∃ n, ns[j]? = some n := ⟨_, List.getElem?_eq_getElem (by omega)⟩
        have e1 := hns j i hj
        rw [en] at e1
        obtain ⟨x, ex, dx⟩ := dps_put da e1
        cases dx
        rw [ex, List.getElem?_map, en]
        rfl
      refine ⟨p, rfl, ⟨_, SqL.of upd_same⟩, fun D nD => ?_⟩
      have wp : (upd H p (.lst (ns.map iV))) wl = some (.lst (ws.map iV)) := by
        rw [upd_ne (ne_of_none hw np)]
        exact hw
      have pD : p ≠ D := ne_of_none upd_same nD
      refine lc_list (xs := ns.map iV) (fun j H' => H' = upd (upd H p (.lst (ns.map iV))) D (.lst ((ks.take j).map iV))) rfl (fun j H' _ h => ?_) (fun j x H' hx h => ?_) (fun H' h => ?_)
      · subst h
        exact SqL.of (by rw [upd_ne pD]; exact upd_same)
      · subst h
        rw [List.getElem?_map] at hx
        obtain ⟨n, en⟩ : ∃ n, ns[j]? = some n := by
          cases e : ns[j]? with
          | none =>
            rw [e] at hx
            cases hx
          | some n => exact ⟨n, rfl⟩
        rw [en] at hx
        have ex := (Option.some.inj hx).symm
        subst ex
        have hj : j < ns.length := (List.getElem?_eq_some_iff.mp en).1
        obtain ⟨kv, ekv⟩ : ∃ kv, ks[j]? = some kv := ⟨_, List.getElem?_eq_getElem (by omega)⟩
        have e2 := (hks j n en).trans ekv
        refine ⟨rfl, _, rfl, _, rfl, wl, _, _, _, rfl, rfl, SqL.of (by rw [upd_ne (ne_of_none wp nD)]; exact wp), atI_nat (int_at e2), (ks.take j).map iV, upd_same, by rw [List.length_map]; exact Nat.lt_of_le_of_lt (List.length_take_le _ _) (by rw [sizeLine_eq]; omega), ?_⟩
        rw [upd_upd, List.take_add_one, ekv, List.map_append]
        rfl
      · subst h
        rw [List.length_map, ← hkl, List.take_length]
        have sm : Same H (upd (upd H p (.lst (ns.map iV))) D (.lst (ks.map iV))) := (Same.up np).trans (Same.up nD)
        refine ⟨_, D, k, r, ks, z, rfl, dp_stay (same_tup sm) _ _ hd hn, SqL.of upd_same, hf, q _ sm⟩
end
end C1
/-! row_width. -/
namespace C1
open PySem PySem.Spec PyProof.Rows L2 SX
theorem scRowWidth : FnScope NK ["circuit", "widths", "row"] (defScope sRowWidth) := ⟨rfl, rfl, rfl, by decide +kernel, rfl, by decide +kernel, by decide +kernel⟩
def lenOf (k : Str) : Option Nat := if k = "lit" then some 3 else if k = "reg" then some 2 else if k = "look" then some 3 else if k = "not" then some 2 else if k = "op" then some 4 else if k = "pick" then some 4 else if k = "wide" then some 3 else if k = "part" then some 4 else if k = "join" then some 3 else none
/-! data that the law draws: its texts, not deep -/
def strsL : List Str := ["lit", "reg", "look", "not", "op", "pick", "wide", "part", "join", "+", "-", "*", "&", "|", "^", "==", "<", "<<", ">>", "none"]
def gd : Nat → PyData → Bool
  | _, .none => true
  | _, .bool _ => true
  | _, .int _ => true
  | _, .str s => decide (s ∈ strsL)
  | n + 1, .tuple ds => decide (ds.length ≤ 1000) && ds.all (gd n)
  | _, _ => false
theorem gd_ok : ∀ (n : Nat) (d : PyData), gd n d = true → noL d = true ∧ PyData.canLay0 d = true ∧ PyData.depth d ≤ n
  | _, .none, _ => ⟨rfl, rfl, Nat.zero_le _⟩
  | _, .bool _, _ => ⟨rfl, rfl, Nat.zero_le _⟩
  | _, .int _, _ => ⟨rfl, rfl, Nat.zero_le _⟩
  | n, .str s, h => by
    have h1 : s ∈ strsL := by
      cases n <;> exact of_decide_eq_true h
    have h2 : ∀ s ∈ strsL, PyData.canLay0 (.str s) = true := by decide +kernel
    exact ⟨rfl, h2 s h1, Nat.zero_le _⟩
  | 0, .tuple _, h => by cases h
  | n + 1, .tuple ds, h => by
    have h2 := (Bool.and_eq_true_iff.mp h).2
    have h3 : ∀ ds : List PyData, ds.all (gd n) = true → noLs ds = true ∧ PyData.canLayAll0 ds = true ∧ PyData.depthAll ds ≤ n := by
      intro ds
      induction ds with
      | nil => exact fun _ => ⟨rfl, rfl, Nat.zero_le _⟩
      | cons d ds ih =>
        intro h
        rw [List.all_cons, Bool.and_eq_true] at h
        obtain ⟨a1, a2, a3⟩ := gd_ok n d h.1
        obtain ⟨b1, b2, b3⟩ := ih h.2
        refine ⟨?_, ?_, ?_⟩
        · show (noL d && noLs ds) = true
          rw [a1, b1]
          rfl
        · show (PyData.canLay0 d && PyData.canLayAll0 ds) = true
          rw [a2, b2]
          rfl
        · show max (PyData.depth d) (PyData.depthAll ds) ≤ n
          exact Nat.max_le.mpr ⟨a3, b3⟩
    obtain ⟨a, b, c⟩ := h3 ds h2
    exact ⟨a, b, Nat.succ_le_succ c⟩
  | 0, .list _, h => by cases h
  | 0, .dict _, h => by cases h
  | _ + 1, .list _, h => by cases h
  | _ + 1, .dict _, h => by cases h
theorem gd_shaped {n : Nat} {d : PyData} (h : gd n d = true) (hn : n ≤ 60) : SeqAt.shaped d = true := by
  obtain ⟨_, b, c⟩ := gd_ok n d h
  unfold SeqAt.shaped
  rw [Bool.and_eq_true]
  exact ⟨b, decide_eq_true (by omega)⟩
theorem gd_mem {n : Nat} {ds : List PyData} (h : gd (n + 1) (.tuple ds) = true) {d : PyData} (hd : d ∈ ds) : gd n d = true := List.all_eq_true.mp (Bool.and_eq_true_iff.mp h).2 d hd
theorem gd_len {n : Nat} {ds : List PyData} (h : gd (n + 1) (.tuple ds) = true) : ds.length ≤ 1000 := of_decide_eq_true (Bool.and_eq_true_iff.mp h).1
def litB (r : List PyData) : Nat := match r with
  | [v, .int w] => if (isI (.int w) 1 33 && isI v 0 (2 ^ w.toNat)) = true then w.toNat else 0
  | _ => 0
def regW (regs : List (Nat × Nat)) (r : List PyData) : Nat := match r with
  | [.int i] => if 0 ≤ i then ((regs[i.toNat]?).map Prod.fst).getD 0 else 0
  | _ => 0
def lookB (mems : List (Nat × Nat)) (ws : List Nat) (r : List PyData) : Nat := match r with
  | [.int m, .int a] => if 0 ≤ m ∧ 0 ≤ a then (match mems[m.toNat]?, ws[a.toNat]? with | some p, some x => if x = p.1 then p.2 else 0 | _, _ => 0) else 0
  | _ => 0
def fitB (k : Str) (r : List PyData) (ks : List Nat) : Nat :=
  if k = "op" then (match r, ks with | s :: _, [x, y] => opD s x y | _, _ => 0)
  else if k = "pick" then (match ks with | [x, y, z] => if x = 1 ∧ y = z then y else 0 | _ => 0)
  else if k = "not" then ks.headD 0
  else if k = "wide" then (match r with | [_, .int w] => if 1 ≤ w ∧ w ≤ 32 then w.toNat else 0 | _ => 0)
  else if k = "part" then (match r, ks with | [_, .int lo, .int hi], [x] => if 0 ≤ lo ∧ lo ≤ hi ∧ hi < x then (hi - lo + 1).toNat else 0 | _, _ => 0)
  else (match ks with | [x, y] => if x + y ≤ 32 then x + y else 0 | _ => 0)
def natD : PyData → Nat
  | .int i => i.toNat
  | _ => 0
def partsD (k : Str) (es : List PyData) : List PyData := (partIx k).map fun i => es.getD i .none
def rowB (regs mems : List (Nat × Nat)) (ws : List Nat) (d : PyData) : Nat := match d with
  | .tuple (.str k :: r) =>
    if lenOf k = some (r.length + 1) then
      if k = "lit" then litB r else if k = "reg" then regW regs r
      else if ((partsD k (.str k :: r)).all fun p => isI p 0 (ws.length : Nat)) = true then
        (if k = "look" then lookB mems ws r else fitB k r ((partsD k (.str k :: r)).map fun p => ws.getD (natD p) 0))
      else 0
    else 0
  | _ => 0
theorem kinds_of {k : Str} {m : Nat} (h : lenOf k = some m) : k = "lit" ∨ k = "reg" ∨ k ∈ kindsP := by
  unfold lenOf at h
  by_cases h1 : k = "lit"
  · exact .inl h1
  by_cases h2 : k = "reg"
  · exact .inr (.inl h2)
  refine .inr (.inr ?_)
  rw [if_neg h1, if_neg h2] at h
  by_cases h3 : k = "look"
  · subst h3
    decide +kernel
  rw [if_neg h3] at h
  by_cases h4 : k = "not"
  · subst h4
    decide +kernel
  rw [if_neg h4] at h
  by_cases h5 : k = "op"
  · subst h5
    decide +kernel
  rw [if_neg h5] at h
  by_cases h6 : k = "pick"
  · subst h6
    decide +kernel
  rw [if_neg h6] at h
  by_cases h7 : k = "wide"
  · subst h7
    decide +kernel
  rw [if_neg h7] at h
  by_cases h8 : k = "part"
  · subst h8
    decide +kernel
  rw [if_neg h8] at h
  by_cases h9 : k = "join"
  · subst h9
    decide +kernel
  rw [if_neg h9] at h
  cases h
theorem part_lt : ∀ k ∈ kindsP, ∀ m, lenOf k = some m → ∀ i ∈ partIx k, i < m := by
  have h : ∀ k ∈ kindsP, ∀ i ∈ partIx k, i < (lenOf k).getD 0 := by decide +kernel
  intro k hk m hm i hi
  have := h k hk i hi
  rw [hm] at this
  exact this
theorem dps_pick {K : PySem.W.Frag} {H : Hp} {xs : List V} {es : List PyData} (h : DpAll K H xs es) : ∀ is : List Nat, (∀ i ∈ is, i < es.length) → ∃ ys : List V, ys.length = is.length ∧ (∀ (j i : Nat), is[j]? = some i → xs[i]? = ys[j]?) ∧ DpAll K H ys (is.map fun i => es.getD i .none)
  | [], _ => ⟨[], rfl, fun j i h => by simp at h, .nil⟩
  | i :: is, hi => by
    obtain ⟨ys, l, g, d⟩ := dps_pick h is fun i2 h2 => hi i2 (List.mem_cons_of_mem _ h2)
    have hil := hi i (List.mem_cons_self ..)
    obtain ⟨x, ex, dx⟩ := dps_put h (List.getElem?_eq_getElem hil)
    refine ⟨x :: ys, by rw [List.length_cons, List.length_cons, l], fun j i2 hj => ?_, .cons ?_ d⟩
    · cases j with
      | zero =>
        cases hj
        exact ex
      | succ j => exact g j i2 hj
    · show Dp K H x (es.getD i .none)
      rw [List.getD_eq_getElem?_getD, List.getElem?_eq_getElem hil]
      exact dx
theorem all_nat (ws : List Nat) : ∀ pd : List PyData, (pd.all fun p => isI p 0 (ws.length : Nat)) = true → ∃ ns ks : List Nat, pd = ns.map iD ∧ ks.length = ns.length ∧ (∀ (j n : Nat), ns[j]? = some n → ws[n]? = ks[j]?) ∧ (pd.map fun p => ws.getD (natD p) 0) = ks
  | [], _ => ⟨[], [], rfl, rfl, fun j n h => by simp at h, rfl⟩
  | p :: pd, h => by
    rw [List.all_cons, Bool.and_eq_true] at h
    obtain ⟨ns, ks, e1, e2, e3, e4⟩ := all_nat ws pd h.2
    obtain ⟨i, rfl, i0, i1⟩ := isI_iff.mp h.1
    obtain ⟨n, rfl⟩ : ∃ n : Nat, i = ((n : Nat) : Int) := ⟨i.toNat, by omega⟩
    have hn : n < ws.length := by omega
    refine ⟨n :: ns, ws[n] :: ks, by rw [List.map_cons, e1], by rw [List.length_cons, List.length_cons, e2], fun j m hj => ?_, ?_⟩
    · cases j with
      | zero =>
        cases hj
        exact List.getElem?_eq_getElem hn
      | succ j => exact e3 j m hj
    · rw [List.map_cons, e4]
      show ws.getD ((n : Nat) : Int).toNat 0 :: ks = _
      rw [Int.toNat_natCast, List.getD_eq_getElem?_getD, List.getElem?_eq_getElem hn]
      rfl
theorem len1 {α : Type} {l : List α} (h : l.length = 1) : ∃ a, l = [a] := by
  match l, h with
  | [a], _ => exact ⟨a, rfl⟩
theorem len2 {α : Type} {l : List α} (h : l.length = 2) : ∃ a b, l = [a, b] := by
  match l, h with
  | [a, b], _ => exact ⟨a, b, rfl⟩
theorem len3 {α : Type} {l : List α} (h : l.length = 3) : ∃ a b c, l = [a, b, c] := by
  match l, h with
  | [a, b, c], _ => exact ⟨a, b, c, rfl⟩
theorem fit_of {k : Str} {r : List PyData} {ks : List Nat} (hk : k ∈ kindsP) (hl : lenOf k = some (r.length + 1)) (hk2 : k ≠ "look") (hks : ks.length = (partIx k).length) (hs : ∀ d ∈ r, SeqAt.shaped d = true) (hw : k = "wide" → ∃ a w, r = [a, .int w]) (hp : k = "part" → ∃ a lo hi, r = [a, .int lo, .int hi]) :
    k ∈ kindsF ∧ FitAt k r ks (fitB k r ks) := by
  have hf : k ∈ kindsF := (List.mem_cons.mp hk).resolve_left hk2
  refine ⟨hf, ?_⟩
  have hc : k = "not" ∨ k = "op" ∨ k = "pick" ∨ k = "wide" ∨ k = "part" ∨ k = "join" := by
    unfold kindsF at hf
    simpa using hf
  rcases hc with h | h | h | h | h | h
  · subst h
    obtain ⟨a, rfl⟩ := len1 (l := r) (by have : some 2 = some (r.length + 1) := hl; have := Option.some.inj this; omega)
    obtain ⟨x, rfl⟩ := len1 (l := ks) hks
    exact .inv
  · subst h
    obtain ⟨s, a, b, rfl⟩ := len3 (l := r) (by have : some 4 = some (r.length + 1) := hl; have := Option.some.inj this; omega)
    obtain ⟨x, y, rfl⟩ := len2 (l := ks) hks
    exact .op (hs s (List.mem_cons_self ..))
  · subst h
    obtain ⟨s, a, b, rfl⟩ := len3 (l := r) (by have : some 4 = some (r.length + 1) := hl; have := Option.some.inj this; omega)
    obtain ⟨x, y, z, rfl⟩ := len3 (l := ks) hks
    exact .pick
  · obtain ⟨a, w, rfl⟩ := hw h
    subst h
    obtain ⟨x, rfl⟩ := len1 (l := ks) hks
    exact .wide
  · obtain ⟨a, lo, hi, rfl⟩ := hp h
    subst h
    obtain ⟨x, rfl⟩ := len1 (l := ks) hks
    exact .part
  · subst h
    obtain ⟨a, b, rfl⟩ := len2 (l := r) (by have : some 3 = some (r.length + 1) := hl; have := Option.some.inj this; omega)
    obtain ⟨x, y, rfl⟩ := len2 (l := ks) hks
    exact .join
theorem iteN {c A B : Prop} [Decidable c] (hc : ¬ c) (h : A) : if (!decide c) = true then A else B := by
  rw [decide_eq_false hc]
  exact iteT h
section
variable {P : Program} {w : World} {K : PySem.W.Frag} {mg : Str → Option Value} {base : Heap} {tw tb : Tok} {aS aT aA aP aL : Addr}
def LnOk (K : PySem.W.Frag) (w : World) (aL : Addr) : Prop := (∃ es n, KDict K w aL es n) ∧ ∀ z ∈ strsL, ∃ r v, PySem.W.nsIn K aL z = some r ∧ RelV v (r.getD .none) ∧ v = (match lenOf z with | some n => iV n | none => V.non)
def spRowWidth (K : PySem.W.Frag) : Sp := fun vs H Q _ => ∃ (cA wl : Addr) (v : V) (regs mems : List (Nat × Nat)) (ws : List Nat) (d : PyData) (n : Nat), vs = [.ref cA, .ref wl, v] ∧ CH K H cA regs mems ∧ H wl = some (.lst (ws.map iV)) ∧ Dp K H v d ∧ gd n d = true ∧ n ≤ 20 ∧ ws.length ≤ 1000 ∧ regs.length ≤ 1000 ∧ mems.length ≤ 1000 ∧ ∀ H', Same H H' → Q (iV (rowB regs mems ws d)) H'
theorem ok_rowWidth {f fP fB fW fM fK : Addr} {fd fdP fdB fdW fdM fdK : FuncData} (F : Fun K "row_width" "row_width" sRowWidth f fd) (G : Gp mg tw tb) (gL : mg "ROW_LENGTHS" = some (.ref aL)) (LN : LnOk K w aL) (PT : PtOk K w aP)
    (GPt : FnOk P w K mg base CX0 1 fP fdP ["tree"] (spParts K w aP)) (kPt : PySem.W.keepIn K (.ref fP) = true) (bPt : Binds K fdP ["tree"] []) (gPt : mg "parts" = some (.ref fP))
    (GB : FnOk P w K mg base CX0 1 fB fdB ["thing", "limit"] (spIsBelow K)) (kB : PySem.W.keepIn K (.ref fB) = true) (bB : Binds K fdB ["thing", "limit"] []) (gB : mg "is_below" = some (.ref fB))
    (GW : FnOk P w K mg base CX0 2 fW fdW ["thing"] (spIsWidth K)) (kW : PySem.W.keepIn K (.ref fW) = true) (bW : Binds K fdW ["thing"] []) (gW : mg "is_width" = some (.ref fW))
    (GM : FnOk P w K mg base CX0 1 fM fdM ["width"] spMask) (kM : PySem.W.keepIn K (.ref fM) = true) (bM : Binds K fdM ["width"] []) (gM : mg "mask" = some (.ref fM))
    (GK : FnOk P w K mg base CX0 3 fK fdK ["circuit", "widths", "row"] (spKnown K)) (kK : PySem.W.keepIn K (.ref fK) = true) (bK : Binds K fdK ["circuit", "widths", "row"] []) (gK : mg "known_row_width" = some (.ref fK)) :
    FnOk P w K mg base CX0 4 f fd ["circuit", "widths", "row"] (spRowWidth K) := by
  refine F.ok scRowWidth (fun vs H Q E h => ?_) (fun cdv A outer s H vs Q E hr h => ?_)
  · obtain ⟨cA, wl, v, regs, mems, ws, d, n, rfl, _⟩ := h
    rfl
  · obtain ⟨cA, wl, v, regs, mems, ws, d, n, rfl, C, hw, hd, hg, hn, lw, lr, lm, q⟩ := h
    have nd := scRowWidth.nd
    have hr1 : Room 1 _ := hr.mono (by decide)
    have hr2 : Room 2 _ := hr.mono (by decide)
    refine ⟨_, (pss_cons (ps_if (PW.pt (pw_or (pt_cmpR op_notTyB (pe_callTy call_type1 (by rfl) G.ty (by decide +kernel) (pa_cons (pv 2) pa_nil)) (pe_bltn (v := .ty "tuple") (by rfl) G.tu (by decide +kernel) rfl) (nomark _)) (pw_or (pt_not (pt_truth (pv 2) (by intro _; rfl))) (pw_or (pt_cmpR op_notTyB (pe_callTy call_type1 (by rfl) G.ty (by decide +kernel) (pa_cons (pe_ix ix_tup (pv 2) (pe_int) (fun _ _ => rfl)) pa_nil)) (pe_bltn (v := .ty "str") (by rfl) G.st (by decide +kernel) rfl) (nomark _)) (pw_or1 (pt_cmpR op_ne (pe_kget (pe_glob (v := .ref aL) (by rfl) gL rfl) (pe_ix ix_tup (pv 2) (pe_int) (fun _ _ => rfl)) ⟨rfl, rfl, rfl, rfl⟩) (pe_callB call_len_seq (by rfl) G.len PySem.boot_len (pa_cons (pv 2) pa_nil)) (nomark _))))))) (pss_one (ps_ret (pe_int))) pss_nil)
      (pss_cons (ps_set (i := 3) nd rfl (.inl rfl) (pe_ix ix_tup (pv 2) (pe_int) (fun _ _ => rfl)))
      (pss_cons (ps_if (pt_cmpR op_eq (pv 3) (pe_str) (nomark _)) (pss_one (ps_ret (pe_ifExp (PW.pt (pw_and (pt_val (pe_call GW hr2 (by rfl) gW kW bW .nil pass0 (pa_cons (pe_ix ix_tup (pv 2) (pe_int) (fun _ _ => rfl)) pa_nil))) (pw_and1 (pt_val (pe_call GB hr1 (by rfl) gB kB bB .nil pass0 (pa_cons (pe_ix ix_tup (pv 2) (pe_int) (fun _ _ => rfl)) (pa_cons (pe_op op_add (pe_call GM hr1 (by rfl) gM kM bM .nil pass0 (pa_cons (pe_ix ix_tup (pv 2) (pe_int) (fun _ _ => rfl)) pa_nil)) (pe_int)) pa_nil))))))) (pe_ix ix_tup (pv 2) (pe_int) (fun _ _ => rfl)) pe_int))) pss_nil)
      (pss_cons (ps_if (pt_cmpR op_eq (pv 3) (pe_str) (nomark _)) (pss_one (ps_ret (pe_ifExp (pt_val (pe_call GB hr1 (by rfl) gB kB bB .nil pass0 (pa_cons (pe_ix ix_tup (pv 2) (pe_int) (fun _ _ => rfl)) (pa_cons (pe_callB call_len_seq (by rfl) G.len PySem.boot_len (pa_cons (pe_ix ix_tup (pv 0) (pe_int) (fun _ _ => rfl)) pa_nil)) pa_nil)))) (pe_call GK hr (by rfl) gK kK bK .nil pass0 (pa_cons (pv 0) (pa_cons (pv 1) (pa_cons (pv 2) pa_nil)))) pe_int))) pss_nil)
      (C8.pss_cut (ps_if (pt_not (pt_val (pe_callB (cr_all rfl) (by rfl) G.all (by decide +kernel) (pa_cons (pe_lc (own := [("part", 4)]) (g := gName 4) (tt := tYes) (te := tCall (spIsBelow K) [] E0 (tCons (tVar 4) (tCons (tCB (rLen K) (tCons (tVar 1) tNil)) tNil))) rfl nd (pi_list (pe_call GPt hr1 (by rfl) gPt kPt bPt .nil pass0 (pa_cons (pv 2) pa_nil))) (blkOk_by (own := [("part", 4)]) (N := NK) (sc := defScope sRowWidth) (by decide +kernel)) (fun _ _ _ _ _ => pg_name (i := 4) nd rfl (.inl rfl)) (fun _ _ _ _ _ => pts_nil) (fun _ _ _ _ _ => by exact (pe_call GB hr1 (by rfl) gB kB bB .nil pass0 (pa_cons (pv 4) (pa_cons (pe_callB call_len_seq (by rfl) G.len PySem.boot_len (pa_cons (pv 1) pa_nil)) pa_nil))))) pa_nil)))) (pss_one (ps_ret (pe_int))) pss_nil)
      (C8.pss_cut (ps_if (pt_cmpR op_eq (pv 3) (pe_str) (nomark _)) (pss_one (ps_if (PW.pt (pw_or (pt_not (pt_val (pe_call GB hr1 (by rfl) gB kB bB .nil pass0 (pa_cons (pe_ix ix_tup (pv 2) (pe_int) (fun _ _ => rfl)) (pa_cons (pe_callB call_len_seq (by rfl) G.len PySem.boot_len (pa_cons (pe_ix ix_tup (pv 0) (pe_int) (fun _ _ => rfl)) pa_nil)) pa_nil))))) (pw_or1 (pt_cmpR op_ne (pe_ix ix_list (pv 1) (pe_ix ix_tup (pv 2) (pe_int) (fun _ _ => rfl)) (fun _ _ => rfl)) (pe_ix ix_tup (pe_ix ix_tup (pe_ix ix_tup (pv 0) (pe_int) (fun _ _ => rfl)) (pe_ix ix_tup (pv 2) (pe_int) (fun _ _ => rfl)) (fun _ _ => rfl)) (pe_int) (fun _ _ => rfl)) (nomark _))))) (pss_one (ps_ret (pe_int))) pss_nil)) pss_nil)
      (pss_cons (ps_if (PW.pt (pw_and (pt_cmpR op_in_seq (pv 3) (pe_tup (pa_cons (pe_str) (pa_cons (pe_str) pa_nil))) (by rfl)) (pw_and1 (pt_not (pt_val (pe_callB (cr_all rfl) (by rfl) G.all (by decide +kernel) (pa_cons (pe_lc (own := [("part", 4)]) (g := gName 4) (tt := tYes) (te := tOp (fun x y H Q => ∃ a b, x = .ty a ∧ y = .ty b ∧ Q (.bl (decide (a = b))) H) (tCB (rTyp K) (tCons (tVar 4) tNil)) (tC (.ty "int"))) rfl nd (pi_tup (pe_slice sl_tup (pv 2) (po_some pe_int) po_none)) (blkOk_by (own := [("part", 4)]) (N := NK) (sc := defScope sRowWidth) (by decide +kernel)) (fun _ _ _ _ _ => pg_name (i := 4) nd rfl (.inl rfl)) (fun _ _ _ _ _ => pts_nil) (fun _ _ _ _ _ => by exact (pe_cmpR op_isTyB (pe_callTy call_type1 (by rfl) G.ty (by decide +kernel) (pa_cons (pv 4) pa_nil)) (pe_bltn (v := .ty "int") (by rfl) G.it (by decide +kernel) rfl) (nomark _)))) pa_nil))))))) (pss_one (ps_ret (pe_int))) pss_nil)
      (pss_one (ps_ret (pe_call GK hr (by rfl) gK kK bK .nil pass0 (pa_cons (pv 0) (pa_cons (pv 1) (pa_cons (pv 2) pa_nil))))))))))))), ?_⟩
    have z0 : rowB regs mems ws d = 0 → ∀ {H'}, Same H H' → Q (.int 0) H' := fun e H' sm => by
      have := q H' sm
      rw [e] at this
      exact this
    have s0 := Same.refl H
    obtain ⟨⟨les, ln, KD⟩, hln⟩ := LN
    refine ⟨_, rfl, _, _, rfl, ty_of hd, _, _, rfl, rfl, _, rfl, ?_⟩
    cases d with
    | tuple es =>
      refine iteNS rfl ?_
      obtain ⟨b, xs, rfl, sb, da⟩ := dp_tup hd
      have hnn : noLs es = true := (gd_ok n _ hg).1
      obtain ⟨n, rfl⟩ : ∃ m, n = m + 1 := by
        cases n with
        | zero => cases hg
        | succ m => exact ⟨m, rfl⟩
      refine ⟨_, rfl, _, .inr (.inl ⟨xs, sb, rfl⟩), ?_⟩
      cases da with
      | nil => exact iteT (z0 rfl s0)
      | @cons x0 xs d0 r hd0 da =>
        refine iteF ?_
        refine ⟨_, rfl, _, _, _, _, rfl, rfl, sb, atI_nat (j := 0) rfl, _, _, rfl, ty_of hd0, _, _, rfl, rfl, _, rfl, ?_⟩
        cases d0 with
        | str k =>
          cases hd0
          refine iteNS rfl ?_
          have hkk : k ∈ strsL := by
            have := gd_mem hg (List.mem_cons_self ..)
            cases n <;> exact of_decide_eq_true this
          obtain ⟨rr, vv, e1, e2, e3⟩ := hln k hkk
          have lda := dps_len da
          refine ⟨aL, les, ln, rfl, KD, _, rfl, _, _, _, _, rfl, rfl, sb, atI_nat (j := 0) rfl, k, rr, vv, rfl, e1, e2, _, rfl, _, _, rfl, .inr sb, ?_⟩
          subst e3
          cases hl : lenOf k with
          | none =>
            have e : rowB regs mems ws (.tuple (.str k :: r)) = 0 := by
              unfold rowB
              exact if_neg (by rw [hl]; intro z; cases z)
            exact ⟨rfl, _, rfl, iteN (fun z => by cases z) (z0 e s0)⟩
          | some m =>
            by_cases hm : m = r.length + 1
            · subst hm
              refine ⟨rfl, _, rfl, iteNS (by
                show V.int ((r.length + 1 : Nat) : Int) = V.int (((V.str k :: xs).length : Nat) : Int)
                rw [List.length_cons, lda]) ?_⟩
              have hrow : rowB regs mems ws (.tuple (.str k :: r)) = (if k = "lit" then litB r else if k = "reg" then regW regs r
                  else if ((partsD k (.str k :: r)).all fun p => isI p 0 (ws.length : Nat)) = true then
                    (if k = "look" then lookB mems ws r else fitB k r ((partsD k (.str k :: r)).map fun p => ws.getD (natD p) 0)) else 0) := if_pos hl
              refine ⟨_, rfl, _, _, _, _, rfl, rfl, sb, atI_nat (j := 0) rfl, ?_⟩
              refine ⟨_, rfl, rfl, _, rfl, ?_⟩
              by_cases hlit : k = "lit"
              · subst hlit
                obtain ⟨v0, w0, rfl⟩ := len2 (l := r) (by have : some 3 = some (r.length + 1) := hl; have := Option.some.inj this; omega)
                rw [if_pos rfl] at hrow
                rw [sT]
                refine iteT ?_
                cases da with
                | cons dv da =>
                cases da with
                | cons dw da =>
                cases da
                refine ⟨_, rfl, _, _, _, _, rfl, rfl, sb, atI_nat (j := 2) rfl, _, w0, rfl, dw, _, rfl, ite2 (fun b1 => ?_) (fun b1 => ?_)⟩
                · obtain ⟨i, rfl, i0, i1⟩ := isI_iff.mp b1
                  cases dw
                  obtain ⟨nn, rfl⟩ : ∃ n : Nat, i = ((n : Nat) : Int) := ⟨i.toNat, by omega⟩
                  have el : litB [v0, .int ((nn : Nat) : Int)] = if isI v0 0 (2 ^ nn - 1 + 1) = true then nn else 0 := by
                    show (if (isI (.int ((nn : Nat) : Int)) 1 33 && isI v0 0 (2 ^ ((nn : Nat) : Int).toNat)) = true then ((nn : Nat) : Int).toNat else 0) = _
                    rw [b1, Bool.true_and, Int.toNat_natCast, Int.sub_add_cancel]
                  rw [el] at hrow
                  refine ⟨_, rfl, _, _, _, _, rfl, rfl, sb, atI_nat (j := 1) rfl, _, rfl, _, _, _, _, rfl, rfl, sb, atI_nat (j := 2) rfl, nn, rfl, by omega, _, _, rfl, rfl, _, v0, _, rfl, dv, _, rfl, ite2 (fun b2 => ?_) (fun b2 => ?_)⟩
                  · rw [if_pos b2] at hrow
                    have := q H s0
                    rw [hrow] at this
                    exact ⟨_, rfl, _, _, _, _, rfl, rfl, sb, atI_nat (j := 2) rfl, this⟩
                  · rw [if_neg b2] at hrow
                    exact z0 hrow s0
                · refine z0 (hrow.trans ?_) s0
                  cases w0 with
                  | int i =>
                    show (if (isI (.int i) 1 33 && _) = true then _ else 0) = 0
                    rw [Bool.eq_false_iff.mpr b1, Bool.false_and]
                    rfl
                  | _ => rfl
              rw [if_neg hlit] at hrow
              rw [sF hlit]
              refine iteF ⟨_, rfl, rfl, _, rfl, ?_⟩
              obtain ⟨ra, ma, rest, rvs, mvs, h1, h2, h3, h4, h5⟩ := C.ex
              have lrv : rvs.length = regs.length := by
                have := dps_len h3
                rw [List.length_map] at this
                exact this
              have lmv : mvs.length = mems.length := by
                have := dps_len h5
                rw [List.length_map] at this
                exact this
              have fin : ∀ {H' : Hp} {z : Nat}, Same H H' → KnownAt regs mems ws (.str k :: r) z → rowB regs mems ws (.tuple (.str k :: r)) = z → ∀ Q2 : VK, Q2 = Q → CH K H' cA regs mems ∧ H' wl = some (.lst (ws.map iV)) ∧ Dp K H' (.ref b) (.tuple (.str k :: r)) ∧ noLs (.str k :: r) = true ∧ KnownAt regs mems ws (.str k :: r) z ∧ ∀ H2, Same H' H2 → Q (iV z) H2 := fun {H' z} sm kn e _ _ => ⟨C.same sm, sm _ _ hw, dp_stay (same_tup sm) _ _ hd hnn, hnn, kn, fun H2 s2 => by rw [← e]; exact q H2 (sm.trans s2)⟩
              by_cases hreg : k = "reg"
              · subst hreg
                obtain ⟨i0, rfl⟩ := len1 (l := r) (by have : some 2 = some (r.length + 1) := hl; have := Option.some.inj this; omega)
                rw [if_pos rfl] at hrow
                rw [sT]
                refine iteT ?_
                cases da with
                | cons di da =>
                cases da
                refine ⟨_, rfl, _, _, _, _, rfl, rfl, sb, atI_nat (j := 1) rfl, _, rfl, _, _, _, _, rfl, rfl, h1, atI_nat (j := 0) rfl, _, _, rfl, .inr h2, _, i0, _, rfl, di, _, rfl, ite2 (fun b1 => ?_) (fun b1 => ?_)⟩
                · obtain ⟨i, rfl, i1, i2⟩ := isI_iff.mp b1
                  obtain ⟨nn, rfl⟩ : ∃ n : Nat, i = ((n : Nat) : Int) := ⟨i.toNat, by omega⟩
                  obtain ⟨p, ep⟩ : ∃ p, regs[nn]? = some p := ⟨_, List.getElem?_eq_getElem (by omega)⟩
                  have er : regW regs [.int ((nn : Nat) : Int)] = p.1 := by
                    show (if (0 : Int) ≤ ((nn : Nat) : Int) then _ else 0) = _
                    rw [if_pos i1, Int.toNat_natCast, ep]
                    rfl
                  obtain ⟨f1, f2, f3, f4, f5, f6⟩ := fin s0 (.reg ep) (hrow.trans er) _ rfl
                  exact ⟨_, rfl, _, rfl, _, rfl, cA, wl, _, regs, mems, ws, _, _, rfl, f1, f2, f3, f4, f5, f6⟩
                · refine z0 (hrow.trans ?_) s0
                  cases i0 with
                  | int i =>
                    show (if (0 : Int) ≤ i then ((regs[i.toNat]?).map Prod.fst).getD 0 else 0) = 0
                    by_cases hi : 0 ≤ i
                    · rw [if_pos hi, List.getElem?_eq_none]
                      · rfl
                      · have : ¬ i < ((rvs.length : Nat) : Int) := fun z => b1 (isI_iff.mpr ⟨i, rfl, hi, z⟩)
                        omega
                    · rw [if_neg hi]
                  | _ => rfl
              rw [if_neg hreg] at hrow
              rw [sF hreg]
              refine iteF ?_
              have hkp : k ∈ kindsP := ((kinds_of hl).resolve_left hlit).resolve_left hreg
              obtain ⟨t, pt1, pt2⟩ := PT k hkp
              have pl := partIx_len k
              obtain ⟨ys, yl, yg, yd⟩ := dps_pick (.cons (.str k) da) (partIx k) (fun i hi => part_lt k hkp _ hl i hi)
              have hpd : partsD k (.str k :: r) = (partIx k).map fun i => (PyData.str k :: r).getD i .none := rfl
              rw [← hpd] at yd
              refine ⟨fun σ H' => σ = [some (.ref cA), some (.ref wl), some (.ref b), some (.str k), none] ∧ Same H H' ∧ ((partsD k (.str k :: r)).all fun p => isI p 0 (ws.length : Nat)) = true, ?_, ?_⟩
              · refine ⟨_, rfl, b, t, V.str k :: xs, ys, k, partIx k, rfl, sb, rfl, pt1, pt2, by omega, yl, yg, fun p np => ⟨p, rfl, ⟨_, SqL.of upd_same⟩, fun D nD => ?_⟩⟩
                have pD : p ≠ D := ne_of_none upd_same nD
                have wp : (upd H p (.lst ys)) wl = some (.lst (ws.map iV)) := by
                  rw [upd_ne (ne_of_none hw np)]
                  exact hw
                have ylp : ys.length = (partsD k (.str k :: r)).length := dps_len yd
                refine lc_list (xs := ys) (fun j H' => H' = upd (upd H p (.lst ys)) D (.lst ((((partsD k (.str k :: r)).take j).map fun p => isI p 0 (ws.length : Nat)).map V.bl))) rfl (fun j H' _ h => ?_) (fun j x H' hx h => ?_) (fun H' h => ?_)
                · subst h
                  exact SqL.of (by rw [upd_ne pD]; exact upd_same)
                · subst h
                  obtain ⟨dj, hdj, dx⟩ := dps_get yd hx
                  have nlj : noL dj = true := by
                    have h1 : noLs (partsD k (.str k :: r)) = true := by
                      have h2 : ∀ is : List Nat, noLs (is.map fun i => (PyData.str k :: r).getD i .none) = true := by
                        intro is
                        induction is with
                        | nil => rfl
                        | cons i is ih =>
                          show (noL ((PyData.str k :: r).getD i .none) && noLs (is.map fun i => (PyData.str k :: r).getD i .none)) = true
                          rw [ih, Bool.and_true, List.getD_eq_getElem?_getD]
                          cases e : (PyData.str k :: r)[i]? with
                          | none => rfl
                          | some dd => exact (gd_ok n dd (gd_mem hg (List.mem_of_getElem? e))).1
                      exact h2 _
                    have h3 : ∀ L : List PyData, noLs L = true → ∀ d ∈ L, noL d = true := by
                      intro L
                      induction L with
                      | nil => intro _ d hd; cases hd
                      | cons a L ih =>
                        intro h d hd
                        have h' := Bool.and_eq_true_iff.mp (show (noL a && noLs L) = true from h)
                        rcases List.mem_cons.mp hd with rfl | hd
                        · exact h'.1
                        · exact ih h'.2 d hd
                    exact h3 _ h1 dj (List.mem_of_getElem? hdj)
                  have sm : Same H (upd (upd H p (.lst ys)) D (.lst ((((partsD k (.str k :: r)).take j).map fun p => isI p 0 (ws.length : Nat)).map V.bl))) := (Same.up np).trans (Same.up nD)
                  refine ⟨rfl, _, rfl, _, rfl, wl, _, rfl, .inl (SqL.of (by rw [upd_ne (ne_of_none wp nD)]; exact wp)), x, dj, _, rfl, dp_stay (same_tup sm) _ _ dx nlj, _, upd_same, ?_, ?_⟩
                  · rw [List.length_map, List.length_map]
                    refine Nat.lt_of_le_of_lt (List.length_take_le' _ _) ?_
                    rw [← ylp, yl, sizeLine_eq]
                    omega
                  · rw [upd_upd, List.take_add_one, hdj, List.map_append, List.map_append, List.length_map]
                    rfl
                · subst h
                  refine ⟨D, _, rfl, SqL.of upd_same, _, rfl, ?_⟩
                  rw [ylp, List.take_length]
                  have sm : Same H (upd (upd H p (.lst ys)) D (.lst (((partsD k (.str k :: r)).map fun p => isI p 0 (ws.length : Nat)).map V.bl))) := (Same.up np).trans (Same.up nD)
                  have ea : (((partsD k (.str k :: r)).map fun p => isI p 0 (ws.length : Nat)).all id) = ((partsD k (.str k :: r)).all fun p => isI p 0 (ws.length : Nat)) := by
                    rw [List.all_map]
                    rfl
                  rw [ea]
                  cases ha : ((partsD k (.str k :: r)).all fun p => isI p 0 (ws.length : Nat)) with
                  | true => exact iteF ⟨rfl, sm, rfl⟩
                  | false =>
                    rw [ha] at hrow
                    exact iteT (z0 hrow sm)
              rintro σ H3 ⟨rfl, s3, hall⟩
              rw [if_pos hall] at hrow
              obtain ⟨ns, ks, en1, en2, en3, en4⟩ := all_nat ws _ hall
              refine ⟨fun σ H' => σ = [some (.ref cA), some (.ref wl), some (.ref b), some (.str k), none] ∧ Same H H' ∧ (k = "look" → ∃ (m : Nat) (p : Nat × Nat) (a x : Nat), r = [iD m, iD a] ∧ mems[m]? = some p ∧ ws[a]? = some p.1), ?_, ?_⟩
              · refine ⟨_, rfl, rfl, _, rfl, ?_⟩
                by_cases hlk : k = "look"
                · subst hlk
                  rw [sT]
                  refine iteT ?_
                  obtain ⟨m0, a0, rfl⟩ := len2 (l := r) (by have : some 3 = some (r.length + 1) := hl; have := Option.some.inj this; omega)
                  cases da with
                  | cons dm da =>
                  cases da with
                  | cons da0 da =>
                  cases da
                  have nlm : noL m0 = true := (Bool.and_eq_true_iff.mp (show (noL m0 && noLs [a0]) = true from (Bool.and_eq_true_iff.mp (show (true && (noL m0 && noLs [a0])) = true from hnn)).2)).1
                  have ep : partsD "look" [.str "look", m0, a0] = [a0] := rfl
                  rw [ep] at en1
                  obtain ⟨a, rfl, ea0⟩ : ∃ a, ns = [a] ∧ a0 = iD a := by
                    match ns, en1 with
                    | [a], h => exact ⟨a, rfl, List.head_eq_of_cons_eq h⟩
                  subst ea0
                  obtain ⟨x, rfl⟩ := len1 (l := ks) en2
                  have eax : ws[a]? = some x := en3 0 a rfl
                  cases da0
                  rw [if_pos rfl] at hrow
                  have sb3 := same_tup s3 _ _ sb
                  refine ⟨_, rfl, _, _, _, _, rfl, rfl, sb3, atI_nat (j := 1) rfl, _, rfl, _, _, _, _, rfl, rfl, same_tup s3 _ _ h1, atI_nat (j := 1) rfl, _, _, rfl, .inr (same_tup s3 _ _ h4), _, m0, _, rfl, dp_stay (same_tup s3) _ _ dm nlm, _, rfl, ?_⟩
                  cases hi : isI m0 0 (mvs.length : Nat) with
                  | false =>
                    refine iteT (z0 (hrow.trans ?_) s3)
                    cases m0 with
                    | int i =>
                      show (if (0 : Int) ≤ i ∧ (0 : Int) ≤ ((a : Nat) : Int) then _ else 0) = 0
                      by_cases h0 : (0 : Int) ≤ i
                      · rw [if_pos ⟨h0, by omega⟩, List.getElem?_eq_none (l := mems)]
                        have : ¬ i < ((mvs.length : Nat) : Int) := fun z => by
                          rw [isI_iff.mpr ⟨i, rfl, h0, z⟩] at hi
                          cases hi
                        omega
                      · rw [if_neg (fun z => h0 z.1)]
                    | _ => rfl
                  | true =>
                    obtain ⟨i, rfl, i1, i2⟩ := isI_iff.mp hi
                    obtain ⟨mm, rfl⟩ : ∃ n : Nat, i = ((n : Nat) : Int) := ⟨i.toNat, by omega⟩
                    obtain ⟨p, epm⟩ : ∃ p, mems[mm]? = some p := ⟨_, List.getElem?_eq_getElem (by omega)⟩
                    cases dm
                    obtain ⟨b2, hb1, hb2⟩ := pr_at h5 epm
                    have elook : lookB mems ws [iD mm, iD a] = if x = p.1 then p.2 else 0 := by
                      show (if (0 : Int) ≤ ((mm : Nat) : Int) ∧ (0 : Int) ≤ ((a : Nat) : Int) then _ else 0) = _
                      rw [Int.toNat_natCast, Int.toNat_natCast, epm, eax]
                      exact if_pos ⟨by omega, by omega⟩
                    rw [elook] at hrow
                    refine iteF ?_
                    refine ⟨_, rfl, _, rfl, _, _, _, _, rfl, rfl, sb3, atI_nat (j := 2) rfl, wl, _, _, _, rfl, rfl, SqL.of (s3 _ _ hw), atI_nat (int_at eax), _, rfl, _, _, _, _, rfl, rfl, same_tup s3 _ _ h1, atI_nat (j := 1) rfl, _, rfl, _, _, _, _, rfl, rfl, sb3, atI_nat (j := 1) rfl, _, _, _, _, rfl, rfl, same_tup s3 _ _ h4, atI_nat hb1, _, _, _, _, rfl, rfl, same_tup s3 _ _ hb2, atI_nat (j := 0) rfl, rfl, _, rfl, ?_⟩
                    by_cases hx : x = p.1
                    · refine iteNS (by rw [hx]) ⟨rfl, s3, fun _ => ⟨mm, p, a, x, rfl, epm, by rw [eax, hx]⟩⟩
                    · rw [if_neg hx] at hrow
                      exact iteN (fun z => hx (Int.ofNat.inj (V.int.inj z))) (z0 hrow s3)
                · rw [sF hlk]
                  exact iteF ⟨rfl, s3, fun e => absurd e hlk⟩
              rintro σ H4 ⟨rfl, s4, hlook⟩
              have lenp : ns.length = (partIx k).length := by
                have := congrArg List.length en1
                rw [List.length_map] at this
                rw [← this, hpd, List.length_map]
              have known : (k = "wide" → ∃ a w, r = [a, .int w]) → (k = "part" → ∃ a lo hi, r = [a, .int lo, .int hi]) → ∃ z, KnownAt regs mems ws (.str k :: r) z ∧ rowB regs mems ws (.tuple (.str k :: r)) = z := fun hwd hpt => by
                by_cases hlk : k = "look"
                · obtain ⟨m, p, a, x, er, em, ea⟩ := hlook hlk
                  subst hlk er
                  refine ⟨_, .look em, ?_⟩
                  rw [if_pos rfl] at hrow
                  rw [hrow]
                  show (if (0 : Int) ≤ ((m : Nat) : Int) ∧ (0 : Int) ≤ ((a : Nat) : Int) then _ else 0) = _
                  rw [if_pos ⟨by omega, by omega⟩, Int.toNat_natCast, Int.toNat_natCast, em, ea]
                  exact if_pos rfl
                · obtain ⟨f1, f2⟩ := fit_of hkp hl hlk (ks := ks) (by rw [en2, lenp]) (fun d hd => gd_shaped (gd_mem hg (List.mem_cons_of_mem _ hd)) (by omega)) hwd hpt
                  refine ⟨_, .fit f1 f2 lenp (fun j i hj => ?_) en2 en3, ?_⟩
                  · have h1 : (partsD k (.str k :: r))[j]? = some ((PyData.str k :: r).getD i .none) := by
                      rw [hpd, List.getElem?_map, hj]
                      rfl
                    rw [en1, List.getElem?_map] at h1
                    have hi : i < (PyData.str k :: r).length := part_lt k hkp _ hl i (List.mem_of_getElem? hj)
                    rw [h1, List.getD_eq_getElem?_getD, List.getElem?_eq_getElem hi]
                    rfl
                  · rw [if_neg hlk, en4] at hrow
                    exact hrow
              have line2 : 2 ≤ sizeLine := by
                rw [sizeLine_eq]
                decide
              refine ⟨_, rfl, line2, fun t nt => ⟨t, _, rfl, .inr (SqT.of upd_same), rfl, rfl, _, rfl, ?_⟩⟩
              have s5 : Same H (upd H4 t (.tup [.str "wide", .str "part"])) := s4.trans (Same.up nt)
              by_cases hwp : k = "wide" ∨ k = "part"
              · have hin : inV (.str k) [.str "wide", .str "part"] = true := by
                  rcases hwp with h | h <;> subst h <;> decide +kernel
                have hlk : k ≠ "look" := by
                  rcases hwp with h | h <;> subst h <;> decide +kernel
                rw [if_neg hlk] at hrow
                rw [show (if false = true then !inV (V.str k) [.str "wide", .str "part"] else inV (V.str k) [.str "wide", .str "part"]) = true from hin]
                refine iteT ?_
                -- what stands behind the row's first part
                have hwhole : (∃ x0 x1 d0 d1, xs = [x0, x1] ∧ r = [d0, d1] ∧ k = "wide") ∨ (∃ x0 x1 x2 d0 d1 d2, xs = [x0, x1, x2] ∧ r = [d0, d1, d2] ∧ k = "part") := by
                  rcases hwp with h | h
                  · subst h
                    have hr2 : r.length = 2 := by have : some 3 = some (r.length + 1) := hl; have := Option.some.inj this; omega
                    obtain ⟨d0, d1, e⟩ := len2 hr2
                    obtain ⟨x0, x1, e'⟩ := len2 (lda.trans hr2)
                    exact .inl ⟨x0, x1, d0, d1, e', e, rfl⟩
                  · subst h
                    have hr2 : r.length = 3 := by have : some 4 = some (r.length + 1) := hl; have := Option.some.inj this; omega
                    obtain ⟨d0, d1, d2, e⟩ := len3 hr2
                    obtain ⟨x0, x1, x2, e'⟩ := len3 (lda.trans hr2)
                    exact .inr ⟨x0, x1, x2, d0, d1, d2, e', e, rfl⟩
                have hcut : ¬ (HT.sIx (V.str k :: xs).length 0 (some 2) = 0 ∧ HT.sIx (V.str k :: xs).length (V.str k :: xs).length none = (V.str k :: xs).length) ∧ cutV (V.str k :: xs) (some 2) none = xs.drop 1 := by
                  rcases hwhole with ⟨x0, x1, d0, d1, e, _, _⟩ | ⟨x0, x1, x2, d0, d1, d2, e, _, _⟩
                  · subst e
                    exact ⟨show ¬ (HT.sIx 3 0 (some 2) = 0 ∧ HT.sIx 3 3 none = 3) by decide, rfl⟩
                  · subst e
                    exact ⟨show ¬ (HT.sIx 4 0 (some 2) = 0 ∧ HT.sIx 4 4 none = 4) by decide, rfl⟩
                have hdr : DpAll K H (xs.drop 1) (r.drop 1) := by
                  cases da with
                  | nil => exact .nil
                  | cons _ a => exact a
                have hdn : noLs (r.drop 1) = true := by
                  have h1 : noLs r = true := (Bool.and_eq_true_iff.mp (show (true && noLs r) = true from hnn)).2
                  cases r with
                  | nil => rfl
                  | cons d r => exact (Bool.and_eq_true_iff.mp (show (noL d && noLs r) = true from h1)).2
                have hdl : (xs.drop 1).length ≤ 2 := by
                  rcases hwhole with ⟨x0, x1, d0, d1, e, _, _⟩ | ⟨x0, x1, x2, d0, d1, d2, e, _, _⟩
                  · rw [e]
                    show 1 ≤ 2
                    decide
                  · rw [e]
                    show 2 ≤ 2
                    decide
                refine ⟨_, rfl, _, rfl, b, _, rfl, same_tup s5 _ _ sb, hcut.1, fun p np => ?_⟩
                rw [hcut.2]
                refine ⟨p, rfl, ⟨_, SqT.of upd_same⟩, fun D nD => ?_⟩
                have pD : p ≠ D := ne_of_none upd_same nD
                have s6 : ∀ {o : HO}, Same H (upd (upd (upd H4 t (.tup [.str "wide", .str "part"])) p (.tup (xs.drop 1))) D o) := fun {o} => (s5.trans (Same.up np)).trans (Same.up nD)
                refine lc_tup (xs := xs.drop 1) (fun j H' => H' = upd (upd (upd H4 t (.tup [.str "wide", .str "part"])) p (.tup (xs.drop 1))) D (.lst ((((r.drop 1).take j).map fun d => decide (tyD d = "int")).map V.bl))) rfl (fun j H' _ h => ?_) (fun j x H' hx h => ?_) (fun H' h => ?_)
                · subst h
                  exact SqT.of (by rw [upd_ne pD]; exact upd_same)
                · subst h
                  obtain ⟨dj, hdj, dx⟩ := dps_get (dps_stay (same_tup s6) _ _ hdr hdn) hx
                  refine ⟨rfl, _, rfl, _, _, rfl, ty_of dx, _, _, rfl, rfl, _, upd_same, ?_, ?_⟩
                  · rw [List.length_map, List.length_map]
                    refine Nat.lt_of_le_of_lt (List.length_take_le' _ _) ?_
                    rw [← dps_len hdr, sizeLine_eq]
                    omega
                  · rw [upd_upd, List.take_add_one, hdj, List.map_append, List.map_append]
                    rfl
                · subst h
                  refine ⟨D, _, rfl, SqL.of upd_same, _, rfl, ?_⟩
                  rw [show (xs.drop 1).length = (r.drop 1).length from dps_len hdr, List.take_length]
                  have ea : (((r.drop 1).map fun d => decide (tyD d = "int")).all id) = ((r.drop 1).all fun d => decide (tyD d = "int")) := by
                    rw [List.all_map]
                    rfl
                  rw [ea]
                  cases ha : ((r.drop 1).all fun d => decide (tyD d = "int")) with
                  | true =>
                    have ai : ∀ d ∈ r.drop 1, ∃ i, d = .int i := fun d hd => ty_int (of_decide_eq_true (List.all_eq_true.mp ha d hd))
                    obtain ⟨z, kz, ez⟩ := known (fun e => by
                      rcases hwhole with ⟨x0, x1, d0, d1, _, er, _⟩ | ⟨x0, x1, x2, d0, d1, d2, _, _, e2⟩
                      · subst er
                        obtain ⟨i, rfl⟩ := ai d1 (List.mem_cons_self ..)
                        exact ⟨d0, i, rfl⟩
                      · rw [e] at e2
                        exact absurd e2 (by decide +kernel)) (fun e => by
                      rcases hwhole with ⟨x0, x1, d0, d1, _, _, e2⟩ | ⟨x0, x1, x2, d0, d1, d2, _, er, _⟩
                      · rw [e] at e2
                        exact absurd e2 (by decide +kernel)
                      · subst er
                        obtain ⟨i, rfl⟩ := ai d1 (List.mem_cons_self ..)
                        obtain ⟨i2, rfl⟩ := ai d2 (List.mem_cons_of_mem _ (List.mem_cons_self ..))
                        exact ⟨d0, i, i2, rfl⟩)
                    obtain ⟨f1, f2, f3, f4, f5, f6⟩ := fin (s6 (o := .lst (((r.drop 1).map fun d => decide (tyD d = "int")).map V.bl))) kz ez _ rfl
                    exact iteF ⟨_, rfl, _, rfl, _, rfl, cA, wl, _, regs, mems, ws, _, _, rfl, f1, f2, f3, f4, f5, f6⟩
                  | false =>
                    refine iteT (z0 (hrow.trans ?_) s6)
                    rcases hwhole with ⟨x0, x1, d0, d1, _, er, ek⟩ | ⟨x0, x1, x2, d0, d1, d2, _, er, ek⟩
                    · subst er ek
                      cases d1 with
                      | int i => cases ha
                      | _ => rfl
                    · subst er ek
                      cases d1 with
                      | int i =>
                        cases d2 with
                        | int i2 => cases ha
                        | _ => rfl
                      | _ => rfl
              · have hin : inV (.str k) [.str "wide", .str "part"] = false := by
                  have h1 : k ≠ "wide" := fun e => hwp (.inl e)
                  have h2 : k ≠ "part" := fun e => hwp (.inr e)
                  have h3 : ∀ k ∈ kindsP, k ≠ "wide" → k ≠ "part" → inV (.str k) [.str "wide", .str "part"] = false := by decide +kernel
                  exact h3 k hkp h1 h2
                obtain ⟨z, kz, ez⟩ := known (fun e => absurd (.inl e) hwp) (fun e => absurd (.inr e) hwp)
                obtain ⟨f1, f2, f3, f4, f5, f6⟩ := fin s5 kz ez _ rfl
                rw [show (if false = true then !inV (V.str k) [.str "wide", .str "part"] else inV (V.str k) [.str "wide", .str "part"]) = false from hin]
                exact iteF ⟨_, rfl, _, rfl, _, rfl, cA, wl, _, regs, mems, ws, _, _, rfl, f1, f2, f3, f4, f5, f6⟩
            · have e : rowB regs mems ws (.tuple (.str k :: r)) = 0 := by
                unfold rowB
                exact if_neg (by rw [hl]; intro z; exact hm (Option.some.inj z))
              refine ⟨rfl, _, rfl, iteN (fun z => ?_) (z0 e s0)⟩
              have := V.int.inj z
              rw [List.length_cons] at this
              omega
        | _ => exact iteN (fun e => by simp [tyD] at e) (z0 rfl s0)
    | _ => exact iteN (fun e => by simp [tyD] at e) (z0 rfl s0)
end
end C1
/-! are_nexts, is_store, are_ends. -/
namespace C1
open PySem PySem.Spec PyProof.Rows L2 SX
theorem scAreNexts : FnScope ["registers", "widths", "nexts", "width", "_", "row"] ["registers", "widths", "nexts"] (defScope sAreNexts) := ⟨rfl, rfl, rfl, by decide +kernel, rfl, by decide +kernel, by decide +kernel⟩
abbrev NS : List Str := ["memories", "widths", "thing", "bits", "width", "row"]
theorem scIsStore : FnScope NS ["memories", "widths", "thing"] (defScope sIsStore) := ⟨rfl, rfl, rfl, by decide +kernel, rfl, by decide +kernel, by decide +kernel⟩
abbrev NE : List Str := ["memories", "widths", "stores", "outs", "store", "row"]
theorem scAreEnds : FnScope NE ["memories", "widths", "stores", "outs"] (defScope sAreEnds) := ⟨rfl, rfl, rfl, by decide +kernel, rfl, by decide +kernel, by decide +kernel⟩
def nextsB (ws : List Nat) : List (Nat × Nat) → List PyData → Bool
  | [], [] => true
  | p :: ps, d :: ds => isI d 0 (ws.length : Nat) && (decide (ws.getD (natD d) 0 = p.1) && nextsB ws ps ds)
  | _, _ => false
theorem nextsB_len {ws : List Nat} : ∀ {ps : List (Nat × Nat)} {ds : List PyData}, ds.length ≠ ps.length → nextsB ws ps ds = false
  | [], [], h => absurd rfl h
  | [], _ :: _, _ => rfl
  | _ :: _, [], _ => rfl
  | p :: ps, d :: ds, h => by
    show (_ && (_ && nextsB ws ps ds)) = false
    rw [nextsB_len (ps := ps) (ds := ds) (fun e => h (by rw [List.length_cons, List.length_cons, e])), Bool.and_false, Bool.and_false]
theorem noLs_mem : ∀ {L : List PyData}, noLs L = true → ∀ d ∈ L, noL d = true
  | [], _, d, hd => by cases hd
  | a :: L, h, d, hd => by
    have h' := Bool.and_eq_true_iff.mp (show (noL a && noLs L) = true from h)
    rcases List.mem_cons.mp hd with rfl | hd
    · exact h'.1
    · exact noLs_mem h'.2 d hd
def nextOk (ws : List Nat) (p : Nat × Nat) (d : PyData) : Bool := isI d 0 (ws.length : Nat) && decide (ws.getD (natD d) 0 = p.1)
theorem nextsB_drop {ws : List Nat} : ∀ {ps : List (Nat × Nat)} {ds : List PyData} {i : Nat} {p : Nat × Nat} {d : PyData}, ps[i]? = some p → ds[i]? = some d → nextsB ws (ps.drop i) (ds.drop i) = (nextOk ws p d && nextsB ws (ps.drop (i + 1)) (ds.drop (i + 1)))
  | p :: ps, d :: ds, 0, _, _, h1, h2 => by
    cases h1
    cases h2
    show (_ && (_ && _)) = _
    unfold nextOk
    rw [Bool.and_assoc]
    rfl
  | p :: ps, d :: ds, i + 1, _, _, h1, h2 => nextsB_drop (ps := ps) (ds := ds) (i := i) h1 h2
def storeB (mems : List (Nat × Nat)) (ws : List Nat) (d : PyData) : Bool := match d with
  | .tuple [m, a, v, t] => isI m 0 (mems.length : Nat) && (([a, v, t].all fun r => isI r 0 (ws.length : Nat)) && decide ([a, v, t].map (fun r => ws.getD (natD r) 0) = [((mems[natD m]?).getD (0, 0)).1, ((mems[natD m]?).getD (0, 0)).2, 1]))
  | _ => false
section
variable {P : Program} {w : World} {K : PySem.W.Frag} {mg : Str → Option Value} {base : Heap} {tw tb : Tok}
def spAreNexts (K : PySem.W.Frag) : Sp := fun vs H Q _ => ∃ (r wl nA : Addr) (regs : List (Nat × Nat)) (ws : List Nat) (rvs nvs : List V) (nds : List PyData), vs = [.ref r, .ref wl, .ref nA] ∧ SqT K H r rvs ∧ DpAll K H rvs (regs.map pr) ∧ H wl = some (.lst (ws.map iV)) ∧ SqT K H nA nvs ∧ DpAll K H nvs nds ∧ noLs nds = true ∧ ∀ H', Same H H' → Q (.bl (nextsB ws regs nds)) H'
theorem ok_areNexts {f fB : Addr} {fd fdB : FuncData} (F : Fun K "are_nexts" "are_nexts" sAreNexts f fd) (G : Gp mg tw tb) (GB : FnOk P w K mg base CX0 1 fB fdB ["thing", "limit"] (spIsBelow K)) (kB : PySem.W.keepIn K (.ref fB) = true) (bB : Binds K fdB ["thing", "limit"] []) (gB : mg "is_below" = some (.ref fB)) :
    FnOk P w K mg base CX0 2 f fd ["registers", "widths", "nexts"] (spAreNexts K) := by
  refine F.ok scAreNexts (fun vs H Q E h => ?_) (fun cdv A outer s H vs Q E hr h => ?_)
  · obtain ⟨r, wl, nA, regs, ws, rvs, nvs, nds, rfl, _⟩ := h
    rfl
  · obtain ⟨r, wl, nA, regs, ws, rvs, nvs, nds, rfl, hr0, dr, hw, hn0, dn, nn, q⟩ := h
    have nd := scAreNexts.nd
    have hr1 := hr
    have lrv : rvs.length = regs.length := by
      have := dps_len dr
      rw [List.length_map] at this
      exact this
    have lnv := dps_len dn
    refine ⟨_, (pss_cons (ps_if (pt_cmpR op_ne (pe_callB call_len_seq (by rfl) G.len PySem.boot_len (pa_cons (pv 2) pa_nil)) (pe_callB call_len_seq (by rfl) G.len PySem.boot_len (pa_cons (pv 0) pa_nil)) (nomark _)) (pss_one (ps_ret (pe_bl))) pss_nil)
      (pss_cons (ps_for PassesOwn.never rfl (RZ.pi_zipA (by rfl) G.zip (pa_cons (pv 0) (pa_cons (pv 2) pa_nil))) (pg_tup (by rfl) (pgs_cons (pg_tup (by rfl) (pgs_cons (pg_name (i := 3) nd rfl (.inl rfl)) (pgs_cons (pg_name (i := 4) nd rfl (.inl rfl)) pgs_nil))) (pgs_cons (pg_name (i := 5) nd rfl (.inl rfl)) pgs_nil))) (pss_one (ps_if (PW.pt (pw_or (pt_not (pt_val (pe_call GB hr1 (by rfl) gB kB bB .nil pass0 (pa_cons (pv 5) (pa_cons (pe_callB call_len_seq (by rfl) G.len PySem.boot_len (pa_cons (pv 1) pa_nil)) pa_nil))))) (pw_or1 (pt_cmpR op_ne (pe_ix ix_list (pv 1) (pv 5) (fun _ _ => rfl)) (pv 3) (nomark _))))) (pss_one (ps_ret (pe_bl))) pss_nil)))
      (pss_one (ps_ret (pe_bl))))), ?_⟩
    refine ⟨_, rfl, _, _, rfl, .inr hn0, _, rfl, _, _, rfl, .inr hr0, rfl, _, rfl, ?_⟩
    by_cases hl : nvs.length = rvs.length
    · refine iteNS (by rw [hl]) ?_
      refine ⟨_, rfl, _, rfl, r, nA, rvs, nvs, rfl, .inr ⟨hr0, hn0, RZ.for_zipT hl.symm (fun i σ H' => ∃ y3 y4 y5 : Option V, σ = [some (.ref r), some (.ref wl), some (.ref nA), y3, y4, y5] ∧ Same H H' ∧ nextsB ws regs nds = nextsB ws (regs.drop i) (nds.drop i)) ⟨_, _, _, rfl, Same.refl H, rfl⟩ (fun i σ H' h => ?_) (fun i x y T σ H' hx hy h nT => ?_) (fun σ H' h => ?_)⟩⟩
      · obtain ⟨_, _, _, _, s1, _⟩ := h
        exact ⟨same_tup s1 _ _ hr0, same_tup s1 _ _ hn0⟩
      · obtain ⟨y3, y4, y5, rfl, s1, e1⟩ := h
        have s2 : Same H (upd H' T (.tup [x, y])) := s1.trans (Same.up nT)
        have hi : i < regs.length := by
          rw [← lrv]
          exact (List.getElem?_eq_some_iff.mp hx).1
        obtain ⟨p, ep⟩ : ∃ p, regs[i]? = some p := ⟨_, List.getElem?_eq_getElem hi⟩
        obtain ⟨b, hb1, hb2⟩ := pr_at dr ep
        have exb : x = .ref b := Option.some.inj (hx.symm.trans hb1)
        subst exb
        obtain ⟨dj, hdj, dx⟩ := dps_get dn hy
        have nlj : noL dj = true := by
          have h3 : ∀ L : List PyData, noLs L = true → ∀ d ∈ L, noL d = true := by
            intro L
            induction L with
            | nil => intro _ d hd; cases hd
            | cons a L ih =>
              intro h d hd
              have h' := Bool.and_eq_true_iff.mp (show (noL a && noLs L) = true from h)
              rcases List.mem_cons.mp hd with rfl | hd
              · exact h'.1
              · exact ih h'.2 d hd
          exact h3 _ nn dj (List.mem_of_getElem? hdj)
        have e2 := nextsB_drop (ws := ws) ep hdj
        refine ⟨T, _, rfl, SqT.of upd_same, rfl, _, _, rfl, b, _, rfl, same_tup s2 _ _ hb2, rfl, _, _, rfl, _, _, rfl, rfl, _, _, rfl, rfl, ?_⟩
        refine ⟨_, rfl, _, rfl, wl, _, rfl, .inl (SqL.of (s2 _ _ hw)), y, dj, _, rfl, dp_stay (same_tup s2) _ _ dx nlj, _, rfl, ?_⟩
        rw [List.length_map]
        cases hb : isI dj 0 (ws.length : Nat) with
        | false =>
          refine iteT ?_
          have ef : nextsB ws regs nds = false := by
            rw [e1, e2]
            unfold nextOk
            rw [hb]
            rfl
          have := q _ s2
          rw [ef] at this
          exact this
        | true =>
          refine iteF ?_
          obtain ⟨ii, rfl, i0, i1⟩ := isI_iff.mp hb
          obtain ⟨nn2, rfl⟩ : ∃ n : Nat, ii = ((n : Nat) : Int) := ⟨ii.toNat, by omega⟩
          cases dx
          obtain ⟨x, ex⟩ : ∃ x, ws[nn2]? = some x := ⟨_, List.getElem?_eq_getElem (by omega)⟩
          have eo : nextOk ws p (.int ((nn2 : Nat) : Int)) = decide (x = p.1) := by
            unfold nextOk
            rw [hb, Bool.true_and]
            show decide (ws.getD ((nn2 : Nat) : Int).toNat 0 = p.1) = _
            rw [Int.toNat_natCast, List.getD_eq_getElem?_getD, ex]
            rfl
          refine ⟨_, rfl, _, rfl, wl, _, _, _, rfl, rfl, SqL.of (s2 _ _ hw), atI_nat (int_at ex), _, rfl, rfl, _, rfl, ?_⟩
          by_cases hx2 : x = p.1
          · refine iteNS (by rw [hx2]) ⟨_, _, _, rfl, s2, ?_⟩
            rw [e1, e2, eo, decide_eq_true hx2, Bool.true_and]
          · refine iteN (fun z => hx2 (Int.ofNat.inj (V.int.inj z))) ?_
            have ef : nextsB ws regs nds = false := by
              rw [e1, e2, eo, decide_eq_false hx2, Bool.false_and]
            have := q _ s2
            rw [ef] at this
            exact this
      · obtain ⟨y3, y4, y5, rfl, s1, e1⟩ := h
        have ef : nextsB ws regs nds = true := by
          rw [e1, lrv, List.drop_length, show regs.length = nds.length by omega, List.drop_length]
          rfl
        have := q _ s1
        rw [ef] at this
        exact this
    · refine iteN (fun z => hl (Int.ofNat.inj (V.int.inj z))) ?_
      have := q _ (Same.refl H)
      rw [nextsB_len (by omega)] at this
      exact this
def spIsStore (K : PySem.W.Frag) : Sp := fun vs H Q _ => ∃ (m wl : Addr) (v : V) (mems : List (Nat × Nat)) (ws : List Nat) (mvs : List V) (d : PyData), vs = [.ref m, .ref wl, v] ∧ SqT K H m mvs ∧ DpAll K H mvs (mems.map pr) ∧ H wl = some (.lst (ws.map iV)) ∧ Dp K H v d ∧ noL d = true ∧ ∀ H', Same H H' → Q (.bl (storeB mems ws d)) H'
theorem ok_isStore {f fB fT : Addr} {fd fdB fdT : FuncData} (F : Fun K "is_store" "is_store" sIsStore f fd) (G : Gp mg tw tb) (GB : FnOk P w K mg base CX0 1 fB fdB ["thing", "limit"] (spIsBelow K)) (kB : PySem.W.keepIn K (.ref fB) = true) (bB : Binds K fdB ["thing", "limit"] []) (gB : mg "is_below" = some (.ref fB))
    (GT : FnOk P w K mg base CX0 1 fT fdT ["thing", "many"] (spIsTuple K)) (kT : PySem.W.keepIn K (.ref fT) = true) (bT : Binds K fdT ["thing", "many"] []) (gT : mg "is_tuple" = some (.ref fT)) :
    FnOk P w K mg base CX0 2 f fd ["memories", "widths", "thing"] (spIsStore K) := by
  refine F.ok scIsStore (fun vs H Q E h => ?_) (fun cdv A outer s H vs Q E hr h => ?_)
  · obtain ⟨m, wl, v, mems, ws, mvs, d, rfl, _⟩ := h
    rfl
  · obtain ⟨m, wl, v, mems, ws, mvs, d, rfl, hm0, dm0, hw, hd, hn, q⟩ := h
    have nd := scIsStore.nd
    have hr1 := hr
    have hu := hr.units
    have lmv : mvs.length = mems.length := by
      have := dps_len dm0
      rw [List.length_map] at this
      exact this
    have qf : storeB mems ws d = false → ∀ {H'}, Same H H' → Q (.bl false) H' := fun e H' sm => by
      have := q H' sm
      rw [e] at this
      exact this
    have line3 : 3 ≤ sizeLine := by
      rw [sizeLine_eq]
      decide
    refine ⟨_, (pss_cons (ps_if (PW.pt (pw_or (pt_not (pt_val (pe_call GT hr1 (by rfl) gT kT bT .nil pass0 (pa_cons (pv 2) (pa_cons (pe_int) pa_nil))))) (pw_or1 (pt_not (pt_val (pe_call GB hr1 (by rfl) gB kB bB .nil pass0 (pa_cons (pe_ix ix_tup (pv 2) (pe_int) (fun _ _ => rfl)) (pa_cons (pe_callB call_len_seq (by rfl) G.len PySem.boot_len (pa_cons (pv 0) pa_nil)) pa_nil)))))))) (pss_one (ps_ret (pe_bl))) pss_nil)
      (C8.pss_cut (ps_if (pt_not (pt_val (pe_callB (cr_all rfl) (by rfl) G.all (by decide +kernel) (pa_cons (pe_lc (own := [("row", 5)]) (g := gName 5) (tt := tYes) (te := tCall (spIsBelow K) [] E0 (tCons (tVar 5) (tCons (tCB (rLen K) (tCons (tVar 1) tNil)) tNil))) rfl nd (pi_tup (pe_slice sl_tup (pv 2) (po_some pe_int) po_none)) (blkOk_by (own := [("row", 5)]) (N := NS) (sc := defScope sIsStore) (by decide +kernel)) (fun _ _ _ _ _ => pg_name (i := 5) nd rfl (.inl rfl)) (fun _ _ _ _ _ => pts_nil) (fun _ _ _ _ _ => by exact (pe_call GB hr1 (by rfl) gB kB bB .nil pass0 (pa_cons (pv 5) (pa_cons (pe_callB call_len_seq (by rfl) G.len PySem.boot_len (pa_cons (pv 1) pa_nil)) pa_nil))))) pa_nil)))) (pss_one (ps_ret (pe_bl))) pss_nil)
      (pss_cons (ps_asg (pe_ix ix_tup (pv 0) (pe_ix ix_tup (pv 2) (pe_int) (fun _ _ => rfl)) (fun _ _ => rfl)) (pg_tup (by rfl) (pgs_cons (pg_name (i := 3) nd rfl (.inl rfl)) (pgs_cons (pg_name (i := 4) nd rfl (.inl rfl)) pgs_nil))))
      (pss_one (ps_ret (pe_cmpR (op_eqD hu) (pe_lc (own := [("row", 5)]) (g := gName 5) (tt := tYes) (te := tOp (rIxL K) (tVar 1) (tVar 5)) rfl nd (pi_tup (pe_slice sl_tup (pv 2) (po_some pe_int) po_none)) (blkOk_by (own := [("row", 5)]) (N := NS) (sc := defScope sIsStore) (by decide +kernel)) (fun _ _ _ _ _ => pg_name (i := 5) nd rfl (.inl rfl)) (fun _ _ _ _ _ => pts_nil) (fun _ _ _ _ _ => by exact (pe_ix ix_list (pv 1) (pv 5) (fun _ _ => rfl)))) (pe_lst (pa_cons (pv 3) (pa_cons (pv 4) (pa_cons (pe_int) pa_nil)))) (nomark _))))))), ?_⟩
    refine ⟨_, rfl, v, d, 4, rfl, hd, _, rfl, ?_⟩
    cases ht : isT d 4 with
    | false =>
      refine iteT (qf ?_ (Same.refl H))
      unfold storeB
      split
      · cases ht
      · rfl
    | true =>
      refine iteF ?_
      obtain ⟨ds, rfl, hl⟩ := isT_iff.mp ht
      match ds, hl with
      | [m0, a0, v0, t0], _ =>
        obtain ⟨b, xs, rfl, sb, da⟩ := dp_tup hd
        have hnn : noLs [m0, a0, v0, t0] = true := hn
        cases da with
        | cons d0 da =>
        rename_i xm xs
        have ldr := dps_len da
        have hst : storeB mems ws (.tuple [m0, a0, v0, t0]) = (isI m0 0 (mems.length : Nat) && (([a0, v0, t0].all fun r => isI r 0 (ws.length : Nat)) && decide ([a0, v0, t0].map (fun r => ws.getD (natD r) 0) = [((mems[natD m0]?).getD (0, 0)).1, ((mems[natD m0]?).getD (0, 0)).2, 1]))) := rfl
        refine ⟨_, rfl, _, _, _, _, rfl, rfl, sb, atI_nat (j := 0) rfl, _, rfl, _, _, rfl, .inr hm0, _, m0, _, rfl, d0, _, rfl, ?_⟩
        rw [lmv]
        cases hi : isI m0 0 (mems.length : Nat) with
        | false =>
          rw [hi, Bool.false_and] at hst
          exact iteT (qf hst (Same.refl H))
        | true =>
          refine iteF ?_
          rw [hi, Bool.true_and] at hst
          have hcut : ¬ (HT.sIx (xm :: xs).length 0 (some 1) = 0 ∧ HT.sIx (xm :: xs).length (xm :: xs).length none = (xm :: xs).length) ∧ cutV (xm :: xs) (some 1) none = xs := by
            obtain ⟨x0, x1, x2, e⟩ := len3 ldr
            subst e
            exact ⟨show ¬ (HT.sIx 4 0 (some 1) = 0 ∧ HT.sIx 4 4 none = 4) by decide, rfl⟩
          have hdn : noLs [a0, v0, t0] = true := (Bool.and_eq_true_iff.mp (show (noL m0 && noLs [a0, v0, t0]) = true from hnn)).2
          refine ⟨fun σ H' => σ = [some (.ref m), some (.ref wl), some (.ref b), none, none, none] ∧ Same H H' ∧ ([a0, v0, t0].all fun r => isI r 0 (ws.length : Nat)) = true, ?_, ?_⟩
          · refine ⟨_, rfl, _, rfl, b, _, rfl, sb, hcut.1, fun p np => ?_⟩
            rw [hcut.2]
            refine ⟨p, rfl, ⟨_, SqT.of upd_same⟩, fun D nD => ?_⟩
            have pD : p ≠ D := ne_of_none upd_same nD
            have s6 : ∀ {o : HO}, Same H (upd (upd H p (.tup xs)) D o) := fun {o} => (Same.up np).trans (Same.up nD)
            refine lc_tup (xs := xs) (fun j H' => H' = upd (upd H p (.tup xs)) D (.lst ((([a0, v0, t0].take j).map fun r => isI r 0 (ws.length : Nat)).map V.bl))) rfl (fun j H' _ h => ?_) (fun j x H' hx h => ?_) (fun H' h => ?_)
            · subst h
              exact SqT.of (by rw [upd_ne pD]; exact upd_same)
            · subst h
              obtain ⟨dj, hdj, dx⟩ := dps_get (dps_stay (same_tup s6) _ _ da hdn) hx
              refine ⟨rfl, _, rfl, _, rfl, wl, _, rfl, .inl (SqL.of (s6 _ _ hw)), x, dj, _, rfl, dx, _, upd_same, ?_, ?_⟩
              · rw [List.length_map, List.length_map]
                refine Nat.lt_of_le_of_lt (List.length_take_le' _ _) ?_
                show 3 < sizeLine
                rw [sizeLine_eq]
                decide
              · rw [upd_upd, List.take_add_one, hdj, List.map_append, List.map_append, List.length_map]
                rfl
            · subst h
              refine ⟨D, _, rfl, SqL.of upd_same, _, rfl, ?_⟩
              rw [ldr, List.take_length]
              have ea : (([a0, v0, t0].map fun r => isI r 0 (ws.length : Nat)).all id) = ([a0, v0, t0].all fun r => isI r 0 (ws.length : Nat)) := by
                rw [List.all_map]
                rfl
              rw [ea]
              cases ha : ([a0, v0, t0].all fun r => isI r 0 (ws.length : Nat)) with
              | true => exact iteF ⟨rfl, s6, rfl⟩
              | false =>
                rw [ha, Bool.false_and] at hst
                exact iteT (qf hst s6)
          rintro σ H3 ⟨rfl, s3, hall⟩
          rw [hall, Bool.true_and] at hst
          obtain ⟨ns, ks, en1, en2, en3, en4⟩ := all_nat ws _ hall
          obtain ⟨i, rfl, i0, i1⟩ := isI_iff.mp hi
          obtain ⟨mm, rfl⟩ : ∃ n : Nat, i = ((n : Nat) : Int) := ⟨i.toNat, by omega⟩
          cases d0
          obtain ⟨p, ep⟩ : ∃ p, mems[mm]? = some p := ⟨_, List.getElem?_eq_getElem (by omega)⟩
          obtain ⟨b2, hb1, hb2⟩ := pr_at dm0 ep
          have em : (mems[natD (.int ((mm : Nat) : Int))]?).getD (0, 0) = p := by
            show (mems[((mm : Nat) : Int).toNat]?).getD (0, 0) = p
            rw [Int.toNat_natCast, ep]
            rfl
          rw [em, en4] at hst
          have sb3 := same_tup s3 _ _ sb
          refine ⟨_, rfl, _, rfl, _, _, _, _, rfl, rfl, sb3, atI_nat (j := 0) rfl, _, _, _, _, rfl, rfl, same_tup s3 _ _ hm0, atI_nat hb1, b2, _, rfl, same_tup s3 _ _ hb2, rfl, _, _, rfl, _, _, rfl, rfl, ?_⟩
          refine ⟨_, rfl, _, rfl, b, _, rfl, sb3, hcut.1, fun p2 np2 => ?_⟩
          rw [hcut.2]
          refine ⟨p2, rfl, ⟨_, SqT.of upd_same⟩, fun D nD => ?_⟩
          have pD : p2 ≠ D := ne_of_none upd_same nD
          have s6 : ∀ {o : HO}, Same H (upd (upd H3 p2 (.tup xs)) D o) := fun {o} => (s3.trans (Same.up np2)).trans (Same.up nD)
          have lns : ns.length = 3 := by
            have := congrArg List.length en1
            rw [List.length_map] at this
            exact this.symm
          refine lc_tup (xs := xs) (fun j H' => H' = upd (upd H3 p2 (.tup xs)) D (.lst ((ks.take j).map iV))) rfl (fun j H' _ h => ?_) (fun j x H' hx h => ?_) (fun H' h => ?_)
          · subst h
            exact SqT.of (by rw [upd_ne pD]; exact upd_same)
          · subst h
            obtain ⟨dj, hdj, dx⟩ := dps_get da hx
            rw [en1, List.getElem?_map] at hdj
            obtain ⟨n, en⟩ : ∃ n, ns[j]? = some n := by
              cases e : ns[j]? with
              | none =>
                rw [e] at hdj
                cases hdj
              | some n => exact ⟨n, rfl⟩
            rw [en] at hdj
            cases hdj
            cases dx
            have hj : j < ns.length := (List.getElem?_eq_some_iff.mp en).1
            obtain ⟨kv, ekv⟩ : ∃ kv, ks[j]? = some kv := ⟨_, List.getElem?_eq_getElem (by omega)⟩
            have e2 := (en3 j n en).trans ekv
            refine ⟨rfl, _, rfl, _, rfl, wl, _, _, _, rfl, rfl, SqL.of (s6 _ _ hw), atI_nat (int_at e2), (ks.take j).map iV, upd_same, by rw [List.length_map]; exact Nat.lt_of_le_of_lt (List.length_take_le _ _) (by rw [sizeLine_eq]; omega), ?_⟩
            rw [upd_upd, List.take_add_one, ekv, List.map_append]
            rfl
          · subst h
            rw [show xs.length = ks.length by rw [ldr, en2, lns]; rfl, List.take_length]
            refine ⟨_, rfl, _, rfl, line3, fun z nz => ?_⟩
            have hz : (upd (upd (upd H3 p2 (.tup xs)) D (.lst (ks.map iV))) z (.lst [iV p.1, iV p.2, .int 1])) D = some (.lst (ks.map iV)) := by
              rw [upd_ne (ne_of_none upd_same nz)]
              exact upd_same
            refine ⟨.list (ks.map iD), .list ([p.1, p.2, 1].map iD), .lst (SqL.of hz) (dps_ints _), .lst (SqL.of upd_same) (dps_ints [p.1, p.2, 1]), shaped_list _ (cL_int _), shaped_list _ (cL_int _), ?_⟩
            have ee : ∀ a b : List Nat, PyData.eqv (.list (a.map iD)) (.list (b.map iD)) = decide (a = b) := by
              intro a
              induction a with
              | nil => intro b; cases b <;> simp [PyData.eqv, PyData.eqvAll]
              | cons x a ih =>
                intro b
                cases b with
                | nil => simp [PyData.eqv, PyData.eqvAll]
                | cons y b =>
                  have := ih b
                  simp only [PyData.eqv, PyData.eqvAll, List.map_cons] at this ⊢
                  rw [this]
                  by_cases h1 : x = y
                  · subst h1
                    by_cases h2 : a = b <;> simp [h2]
                  · have : ¬ ((x : Nat) : Int) = ((y : Nat) : Int) := fun z => h1 (by omega)
                    simp [h1, this]
            rw [ee, ← hst]
            exact q _ (s6.trans (Same.up nz))
def spAreEnds (K : PySem.W.Frag) : Sp := fun vs H Q _ => ∃ (m wl sA oA : Addr) (mems : List (Nat × Nat)) (ws : List Nat) (mvs svs ovs : List V) (sds ods : List PyData), vs = [.ref m, .ref wl, .ref sA, .ref oA] ∧ SqT K H m mvs ∧ DpAll K H mvs (mems.map pr) ∧ H wl = some (.lst (ws.map iV)) ∧ SqT K H sA svs ∧ DpAll K H svs sds ∧ noLs sds = true ∧ sds.length ≤ 1000 ∧ SqT K H oA ovs ∧ DpAll K H ovs ods ∧ noLs ods = true ∧ ods.length ≤ 1000 ∧
  ∀ H', Same H H' → Q (.bl (sds.all (storeB mems ws) && ods.all fun r => isI r 0 (ws.length : Nat))) H'
theorem ok_areEnds {f fB fS : Addr} {fd fdB fdS : FuncData} (F : Fun K "are_ends" "are_ends" sAreEnds f fd) (G : Gp mg tw tb) (GB : FnOk P w K mg base CX0 1 fB fdB ["thing", "limit"] (spIsBelow K)) (kB : PySem.W.keepIn K (.ref fB) = true) (bB : Binds K fdB ["thing", "limit"] []) (gB : mg "is_below" = some (.ref fB))
    (GS : FnOk P w K mg base CX0 2 fS fdS ["memories", "widths", "thing"] (spIsStore K)) (kS : PySem.W.keepIn K (.ref fS) = true) (bS : Binds K fdS ["memories", "widths", "thing"] []) (gS : mg "is_store" = some (.ref fS)) :
    FnOk P w K mg base CX0 3 f fd ["memories", "widths", "stores", "outs"] (spAreEnds K) := by
  refine F.ok scAreEnds (fun vs H Q E h => ?_) (fun cdv A outer s H vs Q E hr h => ?_)
  · obtain ⟨m, wl, sA, oA, mems, ws, mvs, svs, ovs, sds, ods, rfl, _⟩ := h
    rfl
  · obtain ⟨m, wl, sA, oA, mems, ws, mvs, svs, ovs, sds, ods, rfl, hm0, dm0, hw, hs0, dss, ns, ls, ho0, doo, no, lo, q⟩ := h
    have nd := scAreEnds.nd
    have hr2 := hr
    have hr1 : Room 1 _ := hr.mono (by decide)
    refine ⟨_, (pss_cons (ps_if (pt_not (pt_val (pe_callB (cr_all rfl) (by rfl) G.all (by decide +kernel) (pa_cons (pe_lc (own := [("store", 4)]) (g := gName 4) (tt := tYes) (te := tCall (spIsStore K) [] E0 (tCons (tVar 0) (tCons (tVar 1) (tCons (tVar 4) tNil)))) rfl nd (pi_tup (pv 2)) (blkOk_by (own := [("store", 4)]) (N := NE) (sc := defScope sAreEnds) (by decide +kernel)) (fun _ _ _ _ _ => pg_name (i := 4) nd rfl (.inl rfl)) (fun _ _ _ _ _ => pts_nil) (fun _ _ _ _ _ => by exact (pe_call GS hr2 (by rfl) gS kS bS .nil pass0 (pa_cons (pv 0) (pa_cons (pv 1) (pa_cons (pv 4) pa_nil)))))) pa_nil)))) (pss_one (ps_ret (pe_bl))) pss_nil)
      (pss_one (ps_ret (pe_callB (cr_all rfl) (by rfl) G.all (by decide +kernel) (pa_cons (pe_lc (own := [("row", 5)]) (g := gName 5) (tt := tYes) (te := tCall (spIsBelow K) [] E0 (tCons (tVar 5) (tCons (tCB (rLen K) (tCons (tVar 1) tNil)) tNil))) rfl nd (pi_tup (pv 3)) (blkOk_by (own := [("row", 5)]) (N := NE) (sc := defScope sAreEnds) (by decide +kernel)) (fun _ _ _ _ _ => pg_name (i := 5) nd rfl (.inl rfl)) (fun _ _ _ _ _ => pts_nil) (fun _ _ _ _ _ => by exact (pe_call GB hr1 (by rfl) gB kB bB .nil pass0 (pa_cons (pv 5) (pa_cons (pe_callB call_len_seq (by rfl) G.len PySem.boot_len (pa_cons (pv 1) pa_nil)) pa_nil))))) pa_nil))))), ?_⟩
    refine ⟨_, rfl, sA, rfl, ⟨_, hs0⟩, fun D nD => ?_⟩
    refine lc_tup (xs := svs) (fun j H' => Same H H' ∧ H' D = some (.lst (((sds.take j).map (storeB mems ws)).map V.bl))) ⟨Same.up nD, upd_same⟩ (fun j H' _ h => same_tup h.1 _ _ hs0) (fun j x H' hx h => ?_) (fun H' h => ?_)
    · obtain ⟨s1, hD⟩ := h
      obtain ⟨dj, hdj, dx⟩ := dps_get dss hx
      refine ⟨rfl, _, rfl, _, rfl, _, rfl, m, wl, x, mems, ws, mvs, dj, rfl, same_tup s1 _ _ hm0, dps_stay (same_tup s1) _ _ dm0 (noLs_pr _), s1 _ _ hw, dp_stay (same_tup s1) _ _ dx (noLs_mem ns dj (List.mem_of_getElem? hdj)), noLs_mem ns dj (List.mem_of_getElem? hdj), fun H2 s2 => ?_⟩
      refine ⟨_, s2 _ _ hD, ?_, ?_, ?_⟩
      · rw [List.length_map, List.length_map]
        refine Nat.lt_of_le_of_lt (List.length_take_le' _ _) ?_
        rw [sizeLine_eq]
        omega
      · exact fun b o e => by
          have nb : b ≠ D := ne_of_none e nD
          rw [upd_ne nb]
          exact s2 _ _ (s1 _ _ e)
      · rw [List.take_add_one, hdj, List.map_append, List.map_append]
        exact upd_same
    · obtain ⟨s1, hD⟩ := h
      rw [dps_len dss, List.take_length] at hD
      refine ⟨D, _, rfl, SqL.of hD, _, rfl, ?_⟩
      have ea : ((sds.map (storeB mems ws)).all id) = sds.all (storeB mems ws) := by
        rw [List.all_map]
        rfl
      rw [ea]
      cases ha : sds.all (storeB mems ws) with
      | false =>
        refine iteT ?_
        have := q _ s1
        rw [ha, Bool.false_and] at this
        exact this
      | true =>
        rw [ha] at q
        refine iteF ?_
        refine ⟨_, rfl, oA, rfl, ⟨_, same_tup s1 _ _ ho0⟩, fun D2 nD2 => ?_⟩
        have s6 : ∀ {o : HO}, Same H (upd H' D2 o) := fun {o} => s1.trans (Same.up nD2)
        refine lc_tup (xs := ovs) (fun j H2 => H2 = upd H' D2 (.lst (((ods.take j).map fun r => isI r 0 (ws.length : Nat)).map V.bl))) rfl (fun j H2 _ h => ?_) (fun j x H2 hx h => ?_) (fun H2 h => ?_)
        · subst h
          exact same_tup s6 _ _ ho0
        · subst h
          obtain ⟨dj, hdj, dx⟩ := dps_get (dps_stay (same_tup s6) _ _ doo no) hx
          refine ⟨rfl, _, rfl, _, rfl, wl, _, rfl, .inl (SqL.of (s6 _ _ hw)), x, dj, _, rfl, dx, _, upd_same, ?_, ?_⟩
          · rw [List.length_map, List.length_map]
            refine Nat.lt_of_le_of_lt (List.length_take_le' _ _) ?_
            rw [sizeLine_eq]
            omega
          · rw [upd_upd, List.take_add_one, hdj, List.map_append, List.map_append, List.length_map]
            rfl
        · subst h
          refine ⟨D2, _, rfl, SqL.of upd_same, ?_⟩
          rw [dps_len doo, List.take_length]
          have eo : ((ods.map fun r => isI r 0 (ws.length : Nat)).all id) = (ods.all fun r => isI r 0 (ws.length : Nat)) := by
            rw [List.all_map]
            rfl
          rw [eo]
          exact q _ s6
end
end C1
/-! is_circuit. -/
namespace C1
open PySem PySem.Spec PyProof.Rows L2 SX
abbrev NI : List Str := ["thing", "registers", "memories", "rows", "nexts", "stores", "outs", "widths", "row", "width", "part"]
theorem scIsCircuit : FnScope NI ["thing"] (defScope sIsCircuit) := ⟨rfl, rfl, rfl, by decide +kernel, rfl, by decide +kernel, by decide +kernel⟩
def toPr : PyData → Nat × Nat
  | .tuple [a, b] => (natD a, natD b)
  | _ => (0, 0)
theorem reg_pr {d : PyData} (h : regB d = true) : d = pr (toPr d) := by
  unfold regB at h
  split at h
  · split at h
    · obtain ⟨h1, h2⟩ := Bool.and_eq_true_iff.mp h
      obtain ⟨i, e1, i0, i1⟩ := isI_iff.mp h1
      cases e1
      obtain ⟨j, rfl, j0, j1⟩ := isI_iff.mp h2
      simp only [pr, toPr, natD, iD]
      rw [Int.toNat_of_nonneg (by omega), Int.toNat_of_nonneg j0]
    · cases h
  · cases h
theorem mem_pr {d : PyData} (h : memB d = true) : d = pr (toPr d) := by
  unfold memB at h
  split at h
  · rename_i b0 w0
    obtain ⟨h1, h2⟩ := Bool.and_eq_true_iff.mp h
    obtain ⟨ib, eb, ib0, ib1⟩ := isI_iff.mp h1
    obtain ⟨jw, ew, jw0, jw1⟩ := isI_iff.mp h2
    rw [eb, ew]
    show PyData.tuple [.int ib, .int jw] = .tuple [.int ((ib.toNat : Nat) : Int), .int ((jw.toNat : Nat) : Int)]
    rw [Int.toNat_of_nonneg (by omega), Int.toNat_of_nonneg (by omega)]
  · cases h
theorem all_pr {b : PyData → Bool} (hb : ∀ d, b d = true → d = pr (toPr d)) : ∀ ds : List PyData, ds.all b = true → ds = (ds.map toPr).map pr
  | [], _ => rfl
  | d :: ds, h => by
    rw [List.all_cons, Bool.and_eq_true] at h
    rw [List.map_cons, List.map_cons, ← hb d h.1, ← all_pr hb ds h.2]
def rowsW (regs mems : List (Nat × Nat)) : List PyData → List Nat → Option (List Nat)
  | [], ws => some ws
  | r :: rs, ws => if rowB regs mems ws r = 0 then none else rowsW regs mems rs (ws ++ [rowB regs mems ws r])
theorem rowsW_drop {regs mems : List (Nat × Nat)} {rows : List PyData} {i : Nat} {d : PyData} {ws : List Nat} (h : rows[i]? = some d) : rowsW regs mems (rows.drop i) ws = if rowB regs mems ws d = 0 then none else rowsW regs mems (rows.drop (i + 1)) (ws ++ [rowB regs mems ws d]) := by
  obtain ⟨hi, e⟩ := List.getElem?_eq_some_iff.mp h
  rw [List.drop_eq_getElem_cons hi, e]
  rfl
/-- the rules of 6.1 and 6.2, upon data -/
def circB (d : PyData) : Bool := match d with
  | .tuple [.tuple rd, .tuple md, .tuple rows, .tuple nx, .tuple st, .tuple ou] => rd.all regB && (md.all memB && (match rowsW (rd.map toPr) (md.map toPr) rows [] with
    | some ws => nextsB ws (rd.map toPr) nx && (st.all (storeB (md.map toPr) ws) && ou.all fun r => isI r 0 (ws.length : Nat))
    | none => false))
  | _ => false
theorem circB_six {ds : List PyData} (hl : ds.length = 6) (h : (ds.all fun d => decide (tyD d = "tuple")) = false) : circB (.tuple ds) = false := by
  unfold circB
  split
  · rename_i e
    cases e
    cases h
  · rfl
section
variable {P : Program} {w : World} {K : PySem.W.Frag} {mg : Str → Option Value} {base : Heap} {tw tb : Tok}
def spIsCircuit (K : PySem.W.Frag) : Sp := fun vs H Q _ => ∃ (v : V) (d : PyData) (n : Nat), vs = [v] ∧ Dp K H v d ∧ gd n d = true ∧ n ≤ 20 ∧ ∀ H', Same H H' → Q (.bl (circB d)) H'
theorem ok_isCircuit {f fT fR fM fW fN fE : Addr} {fd fdT fdR fdM fdW fdN fdE : FuncData} (F : Fun K "is_circuit" "is_circuit" sIsCircuit f fd) (G : Gp mg tw tb)
    (GT : FnOk P w K mg base CX0 1 fT fdT ["thing", "many"] (spIsTuple K)) (kT : PySem.W.keepIn K (.ref fT) = true) (bT : Binds K fdT ["thing", "many"] []) (gT : mg "is_tuple" = some (.ref fT))
    (GR : FnOk P w K mg base CX0 3 fR fdR ["thing"] (spD K regB)) (kR : PySem.W.keepIn K (.ref fR) = true) (bR : Binds K fdR ["thing"] []) (gR : mg "is_register" = some (.ref fR))
    (GM : FnOk P w K mg base CX0 3 fM fdM ["thing"] (spD K memB)) (kM : PySem.W.keepIn K (.ref fM) = true) (bM : Binds K fdM ["thing"] []) (gM : mg "is_memory" = some (.ref fM))
    (GRW : FnOk P w K mg base CX0 4 fW fdW ["circuit", "widths", "row"] (spRowWidth K)) (kRW : PySem.W.keepIn K (.ref fW) = true) (bRW : Binds K fdW ["circuit", "widths", "row"] []) (gRW : mg "row_width" = some (.ref fW))
    (GAN : FnOk P w K mg base CX0 2 fN fdN ["registers", "widths", "nexts"] (spAreNexts K)) (kAN : PySem.W.keepIn K (.ref fN) = true) (bAN : Binds K fdN ["registers", "widths", "nexts"] []) (gAN : mg "are_nexts" = some (.ref fN))
    (GAE : FnOk P w K mg base CX0 3 fE fdE ["memories", "widths", "stores", "outs"] (spAreEnds K)) (kAE : PySem.W.keepIn K (.ref fE) = true) (bAE : Binds K fdE ["memories", "widths", "stores", "outs"] []) (gAE : mg "are_ends" = some (.ref fE)) :
    FnOk P w K mg base CX0 5 f fd ["thing"] (spIsCircuit K) := by
  refine F.ok scIsCircuit (fun vs H Q E h => ?_) (fun cdv A outer s H vs Q E hr h => ?_)
  · obtain ⟨v, d, n, rfl, _⟩ := h
    rfl
  · obtain ⟨v, d, n, rfl, hd, hg, hn, q⟩ := h
    have nd := scIsCircuit.nd
    have hr4 := hr
    have hr3 : Room 3 _ := hr.mono (by decide)
    have hr2 : Room 2 _ := hr.mono (by decide)
    have hr1 : Room 1 _ := hr.mono (by decide)
    have qf : circB d = false → ∀ {H'}, Same H H' → Q (.bl false) H' := fun e H' sm => by
      have := q H' sm
      rw [e] at this
      exact this
    refine ⟨_, (C8.pss_cut (ps_if (PW.pt (pw_or (pt_not (pt_val (pe_call GT hr1 (by rfl) gT kT bT .nil pass0 (pa_cons (pv 0) (pa_cons (pe_int) pa_nil))))) (pw_or1 (pt_not (pt_val (pe_callB (cr_all rfl) (by rfl) G.all (by decide +kernel) (pa_cons (pe_lc (own := [("part", 10)]) (g := gName 10) (tt := tYes) (te := tOp (fun x y H Q => ∃ a b, x = .ty a ∧ y = .ty b ∧ Q (.bl (decide (a = b))) H) (tCB (rTyp K) (tCons (tVar 10) tNil)) (tC (.ty "tuple"))) rfl nd (pi_tup (pv 0)) (blkOk_by (own := [("part", 10)]) (N := NI) (sc := defScope sIsCircuit) (by decide +kernel)) (fun _ _ _ _ _ => pg_name (i := 10) nd rfl (.inl rfl)) (fun _ _ _ _ _ => pts_nil) (fun _ _ _ _ _ => by exact (pe_cmpR op_isTyB (pe_callTy call_type1 (by rfl) G.ty (by decide +kernel) (pa_cons (pv 10) pa_nil)) (pe_bltn (v := .ty "tuple") (by rfl) G.tu (by decide +kernel) rfl) (nomark _)))) pa_nil))))))) (pss_one (ps_ret (pe_bl))) pss_nil)
      (pss_cons (ps_asg (pv 0) (pg_tup (by rfl) (pgs_cons (pg_name (i := 1) nd rfl (.inl rfl)) (pgs_cons (pg_name (i := 2) nd rfl (.inl rfl)) (pgs_cons (pg_name (i := 3) nd rfl (.inl rfl)) (pgs_cons (pg_name (i := 4) nd rfl (.inl rfl)) (pgs_cons (pg_name (i := 5) nd rfl (.inl rfl)) (pgs_cons (pg_name (i := 6) nd rfl (.inl rfl)) pgs_nil))))))))
      (C8.pss_cut (ps_if (PW.pt (pw_or (pt_not (pt_val (pe_callB (cr_all rfl) (by rfl) G.all (by decide +kernel) (pa_cons (pe_lc (own := [("part", 10)]) (g := gName 10) (tt := tYes) (te := tCall (spD K regB) [] E0 (tCons (tVar 10) tNil)) rfl nd (pi_tup (pv 1)) (blkOk_by (own := [("part", 10)]) (N := NI) (sc := defScope sIsCircuit) (by decide +kernel)) (fun _ _ _ _ _ => pg_name (i := 10) nd rfl (.inl rfl)) (fun _ _ _ _ _ => pts_nil) (fun _ _ _ _ _ => by exact (pe_call GR hr3 (by rfl) gR kR bR .nil pass0 (pa_cons (pv 10) pa_nil)))) pa_nil)))) (pw_or1 (pt_not (pt_val (pe_callB (cr_all rfl) (by rfl) G.all (by decide +kernel) (pa_cons (pe_lc (own := [("part", 10)]) (g := gName 10) (tt := tYes) (te := tCall (spD K memB) [] E0 (tCons (tVar 10) tNil)) rfl nd (pi_tup (pv 2)) (blkOk_by (own := [("part", 10)]) (N := NI) (sc := defScope sIsCircuit) (by decide +kernel)) (fun _ _ _ _ _ => pg_name (i := 10) nd rfl (.inl rfl)) (fun _ _ _ _ _ => pts_nil) (fun _ _ _ _ _ => by exact (pe_call GM hr3 (by rfl) gM kM bM .nil pass0 (pa_cons (pv 10) pa_nil)))) pa_nil))))))) (pss_one (ps_ret (pe_bl))) pss_nil)
      (pss_cons (ps_set (i := 7) nd rfl (.inl rfl) (pe_lst pa_nil))
      (C8.pss_cut (ps_for PassesOwn.never rfl (pi_tup (pv 3)) (pg_name (i := 8) nd rfl (.inl rfl)) (pss_cons (ps_set (i := 9) nd rfl (.inl rfl) (pe_call GRW hr4 (by rfl) gRW kRW bRW .nil pass0 (pa_cons (pv 0) (pa_cons (pv 7) (pa_cons (pv 8) pa_nil)))))
      (pss_cons (ps_if (pt_cmpR op_eq (pv 9) (pe_int) (nomark _)) (pss_one (ps_ret (pe_bl))) pss_nil)
      (pss_one (ps_expr (pe_bm PySem.F.plainAttrs_list PySem.F.slot_list_append PySem.F.type_list_append mt_append (pv 7) (pa_cons (pv 9) pa_nil)))))))
      (pss_one (ps_ret (pe_and (pe_call GAN hr2 (by rfl) gAN kAN bAN .nil pass0 (pa_cons (pv 1) (pa_cons (pv 7) (pa_cons (pv 4) pa_nil)))) (pe_one (pe_call GAE hr3 (by rfl) gAE kAE bAE .nil pass0 (pa_cons (pv 2) (pa_cons (pv 7) (pa_cons (pv 5) (pa_cons (pv 6) pa_nil)))))))))))))), ?_⟩
    have lineL : ∀ {α : Type} (f : PyData → α) (L : List PyData) (j : Nat) (g : α → V), L.length ≤ 1000 → (((L.take j).map f).map g).length < sizeLine := fun f L j g h => by
      rw [List.length_map, List.length_map]
      refine Nat.lt_of_le_of_lt (List.length_take_le' _ _) ?_
      rw [sizeLine_eq]
      omega
    refine ⟨fun σ H' => σ = [some v, none, none, none, none, none, none, none, none, none, none] ∧ Same H H' ∧ ∃ ds : List PyData, d = .tuple ds ∧ ds.length = 6 ∧ (ds.all fun d => decide (tyD d = "tuple")) = true, ?_, ?_⟩
    · refine ⟨_, rfl, v, d, 6, rfl, hd, _, rfl, ?_⟩
      cases ht : isT d 6 with
      | false =>
        refine iteT (qf ?_ (Same.refl H))
        unfold circB
        split
        · cases ht
        · rfl
      | true =>
        refine iteF ?_
        obtain ⟨ds, rfl, hl⟩ := isT_iff.mp ht
        obtain ⟨b, xs, rfl, sb, da⟩ := dp_tup hd
        have hnn : noLs ds = true := (gd_ok n _ hg).1
        have lda := dps_len da
        refine ⟨_, rfl, b, rfl, ⟨_, sb⟩, fun D nD => ?_⟩
        have s6 : ∀ {o : HO}, Same H (upd H D o) := fun {o} => Same.up nD
        refine lc_tup (xs := xs) (fun j H' => H' = upd H D (.lst (((ds.take j).map fun d => decide (tyD d = "tuple")).map V.bl))) rfl (fun j H' _ h => ?_) (fun j x H' hx h => ?_) (fun H' h => ?_)
        · subst h
          exact same_tup s6 _ _ sb
        · subst h
          obtain ⟨dj, hdj, dx⟩ := dps_get (dps_stay (same_tup s6) _ _ da hnn) hx
          refine ⟨rfl, _, rfl, _, _, rfl, ty_of dx, _, _, rfl, rfl, _, upd_same, lineL _ _ _ _ (by omega), ?_⟩
          rw [upd_upd, List.take_add_one, hdj, List.map_append, List.map_append]
          rfl
        · subst h
          refine ⟨D, _, rfl, SqL.of upd_same, _, rfl, ?_⟩
          rw [lda, List.take_length]
          have ea : ((ds.map fun d => decide (tyD d = "tuple")).all id) = (ds.all fun d => decide (tyD d = "tuple")) := by
            rw [List.all_map]
            rfl
          rw [ea]
          cases ha : (ds.all fun d => decide (tyD d = "tuple")) with
          | false => exact iteT (qf (circB_six hl ha) s6)
          | true => exact iteF ⟨rfl, s6, ds, rfl, hl, ha⟩
    rintro σ H1 ⟨rfl, s1, ds, rfl, hl, hall⟩
    have hty : ∀ d ∈ ds, ∃ es, d = .tuple es := fun d hd => ty_tup (of_decide_eq_true (List.all_eq_true.mp hall d hd))
    match ds, hl with
    | [t0, t1, t2, t3, t4, t5], _ =>
      obtain ⟨rd, rfl⟩ := hty t0 (by simp)
      obtain ⟨md, rfl⟩ := hty t1 (by simp)
      obtain ⟨rows, rfl⟩ := hty t2 (by simp)
      obtain ⟨nx, rfl⟩ := hty t3 (by simp)
      obtain ⟨st, rfl⟩ := hty t4 (by simp)
      obtain ⟨ou, rfl⟩ := hty t5 (by simp)
      have hnn := (gd_ok n _ hg).1
      obtain ⟨n, rfl⟩ : ∃ m, n = m + 2 := by
        match n, hg with
        | 0, h => cases h
        | 1, h => cases gd_mem h (List.mem_cons_self ..)
        | m + 2, _ => exact ⟨m, rfl⟩
      have g0 := gd_mem hg (d := .tuple rd) (by simp)
      have g1 := gd_mem hg (d := .tuple md) (by simp)
      have g2 := gd_mem hg (d := .tuple rows) (by simp)
      have g3 := gd_mem hg (d := .tuple nx) (by simp)
      have g4 := gd_mem hg (d := .tuple st) (by simp)
      have g5 := gd_mem hg (d := .tuple ou) (by simp)
      have n0 : noLs rd = true := (gd_ok _ _ g0).1
      have n1 : noLs md = true := (gd_ok _ _ g1).1
      have n2 : noLs rows = true := (gd_ok _ _ g2).1
      have n3 : noLs nx = true := (gd_ok _ _ g3).1
      have n4 : noLs st = true := (gd_ok _ _ g4).1
      have n5 : noLs ou = true := (gd_ok _ _ g5).1
      have l0 := gd_len g0
      have l1 := gd_len g1
      have l2 := gd_len g2
      have l4 := gd_len g4
      have l5 := gd_len g5
      obtain ⟨b, xs, rfl, sb, da⟩ := dp_tup (dp_stay (same_tup s1) _ _ hd hnn)
      cases da with
      | cons e0 da =>
      cases da with
      | cons e1 da =>
      cases da with
      | cons e2 da =>
      cases da with
      | cons e3 da =>
      cases da with
      | cons e4 da =>
      cases da with
      | cons e5 da =>
      cases da
      obtain ⟨a0, rvs, rfl, q0, d0⟩ := dp_tup e0
      obtain ⟨a1, mvs, rfl, q1, d1⟩ := dp_tup e1
      obtain ⟨a2, wvs, rfl, q2, d2⟩ := dp_tup e2
      obtain ⟨a3, nvs, rfl, q3, d3⟩ := dp_tup e3
      obtain ⟨a4, svs, rfl, q4, d4⟩ := dp_tup e4
      obtain ⟨a5, ovs, rfl, q5, d5⟩ := dp_tup e5
      refine ⟨_, rfl, b, _, rfl, sb, rfl, _, _, rfl, _, _, rfl, _, _, rfl, _, _, rfl, _, _, rfl, _, _, rfl, rfl, ?_⟩
      have hcb : circB (.tuple [.tuple rd, .tuple md, .tuple rows, .tuple nx, .tuple st, .tuple ou]) = (rd.all regB && (md.all memB && (match rowsW (rd.map toPr) (md.map toPr) rows [] with
        | some ws => nextsB ws (rd.map toPr) nx && (st.all (storeB (md.map toPr) ws) && ou.all fun r => isI r 0 (ws.length : Nat))
        | none => false))) := rfl
      refine ⟨fun σ H' => σ = [some (.ref b), some (.ref a0), some (.ref a1), some (.ref a2), some (.ref a3), some (.ref a4), some (.ref a5), none, none, none, none] ∧ Same H1 H' ∧ rd.all regB = true ∧ md.all memB = true, ?_, ?_⟩
      · refine ⟨_, rfl, a0, rfl, ⟨_, q0⟩, fun D nD => ?_⟩
        have s6 : ∀ {o : HO}, Same H1 (upd H1 D o) := fun {o} => Same.up nD
        refine lc_tup (xs := rvs) (fun j H' => H' = upd H1 D (.lst (((rd.take j).map regB).map V.bl))) rfl (fun j H' _ h => ?_) (fun j x H' hx h => ?_) (fun H' h => ?_)
        · subst h
          exact same_tup s6 _ _ q0
        · subst h
          obtain ⟨dj, hdj, dx⟩ := dps_get (dps_stay (same_tup s6) _ _ d0 n0) hx
          refine ⟨rfl, _, rfl, x, dj, rfl, dx, _, upd_same, lineL _ _ _ _ l0, ?_⟩
          rw [upd_upd, List.take_add_one, hdj, List.map_append, List.map_append]
          rfl
        · subst h
          refine ⟨D, _, rfl, SqL.of upd_same, _, rfl, ?_⟩
          rw [dps_len d0, List.take_length]
          have ea : ((rd.map regB).all id) = rd.all regB := by
            rw [List.all_map]
            rfl
          rw [ea]
          cases ha : rd.all regB with
          | false =>
            rw [ha, Bool.false_and] at hcb
            exact iteT (qf hcb (s1.trans s6))
          | true =>
            rw [ha, Bool.true_and] at hcb
            refine iteF ?_
            refine ⟨_, rfl, a1, rfl, ⟨_, same_tup s6 _ _ q1⟩, fun D2 nD2 => ?_⟩
            have s7 : ∀ {o : HO}, Same H1 (upd (upd H1 D (.lst ((rd.map regB).map V.bl))) D2 o) := fun {o} => s6.trans (Same.up nD2)
            refine lc_tup (xs := mvs) (fun j H' => H' = upd (upd H1 D (.lst ((rd.map regB).map V.bl))) D2 (.lst (((md.take j).map memB).map V.bl))) rfl (fun j H' _ h => ?_) (fun j x H' hx h => ?_) (fun H' h => ?_)
            · subst h
              exact same_tup s7 _ _ q1
            · subst h
              obtain ⟨dj, hdj, dx⟩ := dps_get (dps_stay (same_tup s7) _ _ d1 n1) hx
              refine ⟨rfl, _, rfl, x, dj, rfl, dx, _, upd_same, lineL _ _ _ _ l1, ?_⟩
              rw [upd_upd, List.take_add_one, hdj, List.map_append, List.map_append]
              rfl
            · subst h
              refine ⟨D2, _, rfl, SqL.of upd_same, _, rfl, ?_⟩
              rw [dps_len d1, List.take_length]
              have eb : ((md.map memB).all id) = md.all memB := by
                rw [List.all_map]
                rfl
              rw [eb]
              cases hb : md.all memB with
              | false =>
                rw [hb, Bool.false_and] at hcb
                exact iteT (qf hcb (s1.trans s7))
              | true => exact iteF ⟨rfl, s7, rfl, rfl⟩
      rintro σ H2 ⟨rfl, s2, hra, hma⟩
      rw [hra, hma, Bool.true_and, Bool.true_and] at hcb
      have er : rd = (rd.map toPr).map pr := all_pr (fun d => reg_pr) rd hra
      have em : md = (md.map toPr).map pr := all_pr (fun d => mem_pr) md hma
      rw [er] at d0
      rw [em] at d1
      have t2 := s1.trans s2
      -- the rows
      refine ⟨Nat.zero_le _, fun Wl nW => ?_⟩
      have CC : ∀ {H'}, Same H2 H' → CH K H' b (rd.map toPr) (md.map toPr) := fun {H'} sm => (CH.mk ⟨a0, a1, _, rvs, mvs, same_tup s2 _ _ sb, same_tup s2 _ _ q0, dps_stay (same_tup s2) _ _ d0 (noLs_pr _), same_tup s2 _ _ q1, dps_stay (same_tup s2) _ _ d1 (noLs_pr _)⟩ : CH K H2 b (rd.map toPr) (md.map toPr)).same sm
      have Q2 := same_tup s2 _ _ q2
      have D2 := dps_stay (same_tup s2) _ _ d2 n2
      refine ⟨fun σ H' => ∃ (y8 y9 : Option V) (ws : List Nat), σ = [some (.ref b), some (.ref a0), some (.ref a1), some (.ref a2), some (.ref a3), some (.ref a4), some (.ref a5), some (.ref Wl), y8, y9, none] ∧ Same H2 H' ∧ H' Wl = some (.lst (ws.map iV)) ∧ rowsW (rd.map toPr) (md.map toPr) rows [] = some ws, ?_, ?_⟩
      · refine ⟨_, rfl, a2, rfl, ⟨_, same_tup (Same.up nW) _ _ Q2⟩, for_tup (xs := wvs) (fun i σ H' => ∃ (y8 y9 : Option V) (ws : List Nat), σ = [some (.ref b), some (.ref a0), some (.ref a1), some (.ref a2), some (.ref a3), some (.ref a4), some (.ref a5), some (.ref Wl), y8, y9, none] ∧ Same H2 H' ∧ H' Wl = some (.lst (ws.map iV)) ∧ rowsW (rd.map toPr) (md.map toPr) rows [] = rowsW (rd.map toPr) (md.map toPr) (rows.drop i) ws ∧ ws.length = i) ⟨_, _, [], rfl, Same.up nW, upd_same, rfl, rfl⟩ (fun i σ H' _ h => ?_) (fun i x σ H' hx h => ?_) (fun σ H' h => ?_)⟩
        · obtain ⟨_, _, _, _, s3, _⟩ := h
          exact same_tup s3 _ _ Q2
        · obtain ⟨y8, y9, ws, rfl, s3, hW, e1, lw⟩ := h
          obtain ⟨dj, hdj, dx⟩ := dps_get D2 hx
          have gj := gd_mem g2 (List.mem_of_getElem? hdj)
          have hi : i < rows.length := (List.getElem?_eq_some_iff.mp hdj).1
          have ed := rowsW_drop (regs := rd.map toPr) (mems := md.map toPr) (ws := ws) hdj
          refine ⟨_, rfl, _, rfl, _, rfl, b, Wl, x, rd.map toPr, md.map toPr, ws, dj, _, rfl, CC s3, hW, dp_stay (same_tup s3) _ _ dx (gd_ok _ _ gj).1, gj, by omega, by omega, by rw [List.length_map]; exact l0, by rw [List.length_map]; exact l1, fun H3 s4 => ?_⟩
          have s5 := s3.trans s4
          refine ⟨_, rfl, rfl, _, rfl, ?_⟩
          by_cases hz : rowB (rd.map toPr) (md.map toPr) ws dj = 0
          · rw [hz]
            refine iteT (qf ?_ (t2.trans s5))
            rw [hcb, e1, ed, if_pos hz]
          · refine ite2 (fun a => absurd (Int.ofNat.inj (V.int.inj (of_decide_eq_true a))) hz) (fun _ => ?_)
            have hW3 := s4 _ _ hW
            refine ⟨_, rfl, .inl ⟨rfl, _, SqL.of hW3⟩, _, rfl, Wl, _, _, rfl, rfl, hW3, by rw [List.length_map, sizeLine_eq]; omega, ?_⟩
            refine ⟨_, _, ws ++ [rowB (rd.map toPr) (md.map toPr) ws dj], rfl, fun c o e => ?_, ?_, ?_, ?_⟩
            · rw [upd_ne (ne_of_none e nW)]
              exact s5 _ _ e
            · rw [List.map_append]
              exact upd_same
            · rw [e1, ed, if_neg hz]
            · rw [List.length_append]
              show ws.length + 1 = i + 1
              omega
        · obtain ⟨y8, y9, ws, rfl, s3, hW, e1, lw⟩ := h
          refine ⟨_, _, ws, rfl, s3, hW, ?_⟩
          rw [e1, dps_len D2, List.drop_length]
          rfl
      rintro σ H3 ⟨y8, y9, ws, rfl, s3, hW, ew⟩
      rw [ew] at hcb
      have t3 := s2.trans s3
      have u3 := t2.trans s3
      refine ⟨_, rfl, _, rfl, _, rfl, a0, Wl, a3, rd.map toPr, ws, rvs, nvs, nx, rfl, same_tup t3 _ _ q0, dps_stay (same_tup t3) _ _ d0 (noLs_pr _), hW, same_tup t3 _ _ q3, dps_stay (same_tup t3) _ _ d3 n3, n3, fun H4 s4 => ?_⟩
      have t4 := t3.trans s4
      refine ⟨_, rfl, ?_⟩
      cases hx : nextsB ws (rd.map toPr) nx with
      | false =>
        dsimp only at hcb
        rw [hx, Bool.false_and] at hcb
        exact iteF (qf hcb (u3.trans s4))
      | true =>
        dsimp only at hcb
        rw [hx, Bool.true_and] at hcb
        refine iteT ?_
        refine ⟨_, rfl, _, rfl, _, rfl, _, rfl, a1, Wl, a4, a5, md.map toPr, ws, mvs, svs, ovs, st, ou, rfl, same_tup t4 _ _ q1, dps_stay (same_tup t4) _ _ d1 (noLs_pr _), s4 _ _ hW, same_tup t4 _ _ q4, dps_stay (same_tup t4) _ _ d4 n4, n4, l4, same_tup t4 _ _ q5, dps_stay (same_tup t4) _ _ d5 n5, n5, l5, fun H5 s5 => ?_⟩
        rw [← hcb]
        exact q _ ((u3.trans s4).trans s5)
end
end C1
/-! What the law draws is a circuit by the rules. -/
namespace C1
open PySem PySem.Spec PyProof.Rows L2 SX
theorem toPr_pr (ps : List (Nat × Nat)) : (ps.map pr).map toPr = ps := by
  rw [List.map_map]
  have : (toPr ∘ pr) = id := by
    funext ⟨x, y⟩
    rfl
  rw [this, List.map_id]
theorem isI_nat {k lo hi : Nat} (h1 : lo ≤ k) (h2 : k < hi) : isI (iD k) (lo : Nat) (hi : Nat) = true := isI_iff.mpr ⟨_, rfl, by omega, by omega⟩
theorem isI_ws {ws : List Nat} {a x : Nat} (h : ws[a]? = some x) : isI (iD a) 0 (ws.length : Nat) = true := isI_iff.mpr ⟨_, rfl, by omega, by have := (List.getElem?_eq_some_iff.mp h).1; omega⟩
theorem getD_ws {ws : List Nat} {a x : Nat} (h : ws[a]? = some x) : ws.getD (natD (iD a)) 0 = x := by
  show ws.getD ((a : Nat) : Int).toNat 0 = x
  rw [Int.toNat_natCast, List.getD_eq_getElem?_getD, h]
  rfl
section
variable {regs mems : List (Nat × Nat)} {ws : List Nat}
theorem row_ok {row : Row} {wd : Nat} (h : RowOk regs mems ws row wd) (hM : MemsOk mems) (h1 : 1 ≤ wd) (h2 : wd ≤ 12) (hw : WsOk ws) : rowB regs mems ws row.d = wd := by
  cases h with
  | @lit v w hv =>
    show (if (isI (iD wd) 1 33 && isI (iD v) 0 (2 ^ ((wd : Nat) : Int).toNat)) = true then ((wd : Nat) : Int).toNat else 0) = wd
    rw [if_pos, Int.toNat_natCast]
    rw [Bool.and_eq_true]
    refine ⟨isI_iff.mpr ⟨_, rfl, by omega, by omega⟩, isI_iff.mpr ⟨_, rfl, by omega, ?_⟩⟩
    rw [Int.toNat_natCast]
    have : ((2 ^ wd : Nat) : Int) = (2 : Int) ^ wd := Int.natCast_pow 2 wd
    rw [← this]
    omega
  | @reg i w f hr =>
    show (if (0 : Int) ≤ ((i : Nat) : Int) then ((regs[((i : Nat) : Int).toNat]?).map Prod.fst).getD 0 else 0) = wd
    rw [if_pos (by omega), Int.toNat_natCast, hr]
    rfl
  | @look m a b w hm ha =>
    show (if ([iD a].all fun p => isI p 0 (ws.length : Nat)) = true then lookB mems ws [iD m, iD a] else 0) = wd
    rw [if_pos (by rw [List.all_cons, isI_ws ha]; rfl)]
    show (if (0 : Int) ≤ ((m : Nat) : Int) ∧ (0 : Int) ≤ ((a : Nat) : Int) then _ else 0) = _
    rw [Int.toNat_natCast, Int.toNat_natCast, hm, ha, if_pos ⟨by omega, by omega⟩]
    exact if_pos rfl
  | @inv a w ha =>
    show (if ([iD a].all fun p => isI p 0 (ws.length : Nat)) = true then ws.getD (natD (iD a)) 0 else 0) = wd
    rw [if_pos (by rw [List.all_cons, isI_ws ha]; rfl), getD_ws ha]
  | @wide a x w ha =>
    show (if ([iD a].all fun p => isI p 0 (ws.length : Nat)) = true then (if 1 ≤ ((wd : Nat) : Int) ∧ ((wd : Nat) : Int) ≤ 32 then ((wd : Nat) : Int).toNat else 0) else 0) = wd
    rw [if_pos (by rw [List.all_cons, isI_ws ha]; rfl), if_pos ⟨by omega, by omega⟩, Int.toNat_natCast]
  | @part a x lo hi ha hl hh =>
    show (if ([iD a].all fun p => isI p 0 (ws.length : Nat)) = true then (if 0 ≤ ((lo : Nat) : Int) ∧ ((lo : Nat) : Int) ≤ ((hi : Nat) : Int) ∧ ((hi : Nat) : Int) < ((ws.getD (natD (iD a)) 0 : Nat) : Int) then (((hi : Nat) : Int) - ((lo : Nat) : Int) + 1).toNat else 0) else 0) = hi - lo + 1
    rw [if_pos (by rw [List.all_cons, isI_ws ha]; rfl), getD_ws ha, if_pos ⟨by omega, by omega, by omega⟩]
    omega
  | @join a b x y ha hb =>
    show (if ([iD a, iD b].all fun p => isI p 0 (ws.length : Nat)) = true then (if ws.getD (natD (iD a)) 0 + ws.getD (natD (iD b)) 0 ≤ 32 then ws.getD (natD (iD a)) 0 + ws.getD (natD (iD b)) 0 else 0) else 0) = x + y
    rw [if_pos (by rw [List.all_cons, List.all_cons, isI_ws ha, isI_ws hb]; rfl), getD_ws ha, getD_ws hb, if_pos (by omega)]
  | @shift s a b x y hs ha hb =>
    show (if ([iD a, iD b].all fun p => isI p 0 (ws.length : Nat)) = true then opW s (ws.getD (natD (iD a)) 0) (ws.getD (natD (iD b)) 0) else 0) = wd
    rw [if_pos (by rw [List.all_cons, List.all_cons, isI_ws ha, isI_ws hb]; rfl), getD_ws ha, getD_ws hb]
    exact if_pos hs
  | @arith s a b x hs ha hb =>
    show (if ([iD a, iD b].all fun p => isI p 0 (ws.length : Nat)) = true then opW s (ws.getD (natD (iD a)) 0) (ws.getD (natD (iD b)) 0) else 0) = wd
    rw [if_pos (by rw [List.all_cons, List.all_cons, isI_ws ha, isI_ws hb]; rfl), getD_ws ha, getD_ws hb]
    have h1 : ∀ s ∈ arithL, s ∉ shiftL ∧ s ∉ testL := by decide +kernel
    unfold opW
    rw [if_neg (h1 s hs).1, if_pos rfl, if_neg (h1 s hs).2, if_pos hs]
  | @test s a b x hs ha hb =>
    show (if ([iD a, iD b].all fun p => isI p 0 (ws.length : Nat)) = true then opW s (ws.getD (natD (iD a)) 0) (ws.getD (natD (iD b)) 0) else 0) = 1
    rw [if_pos (by rw [List.all_cons, List.all_cons, isI_ws ha, isI_ws hb]; rfl), getD_ws ha, getD_ws hb]
    have h1 : ∀ s ∈ testL, s ∉ shiftL := by decide +kernel
    unfold opW
    rw [if_neg (h1 s hs), if_pos rfl, if_pos hs]
  | @pick t a b x ht ha hb =>
    show (if ([iD t, iD a, iD b].all fun p => isI p 0 (ws.length : Nat)) = true then (if ws.getD (natD (iD t)) 0 = 1 ∧ ws.getD (natD (iD a)) 0 = ws.getD (natD (iD b)) 0 then ws.getD (natD (iD a)) 0 else 0) else 0) = wd
    rw [if_pos (by rw [List.all_cons, List.all_cons, List.all_cons, isI_ws ht, isI_ws ha, isI_ws hb]; rfl), getD_ws ht, getD_ws ha, getD_ws hb]
    exact if_pos ⟨rfl, rfl⟩
theorem rowsW_app {rs : List PyData} {r : PyData} : ∀ {ws ws2 : List Nat}, rowsW regs mems rs ws = some ws2 → rowB regs mems ws2 r ≠ 0 → rowsW regs mems (rs ++ [r]) ws = some (ws2 ++ [rowB regs mems ws2 r]) := by
  induction rs with
  | nil =>
    intro ws ws2 h hr
    cases h
    show (if rowB regs mems ws r = 0 then none else some (ws ++ [rowB regs mems ws r])) = _
    rw [if_neg hr]
  | cons a rs ih =>
    intro ws ws2 h hr
    have h1 : (if rowB regs mems ws a = 0 then none else rowsW regs mems rs (ws ++ [rowB regs mems ws a])) = some ws2 := h
    show (if rowB regs mems ws a = 0 then none else rowsW regs mems (rs ++ [r]) (ws ++ [rowB regs mems ws a])) = _
    by_cases hz : rowB regs mems ws a = 0
    · rw [if_pos hz] at h1
      cases h1
    · rw [if_neg hz] at h1 ⊢
      exact ih h1 hr
theorem rows_ok {rows : List Row} (hM : MemsOk mems) (h : RowsOk regs mems rows ws) : rowsW regs mems (rows.map Row.d) [] = some ws := by
  induction h with
  | nil => rfl
  | @snoc rows ws row wd hro ho h1 h2 ih =>
    have e := row_ok ho hM h1 h2 (rows_ws hro)
    rw [List.map_append]
    have := rowsW_app (r := row.d) ih (by rw [e]; omega)
    rw [e] at this
    exact this
theorem nexts_ok : ∀ {regs : List (Nat × Nat)} {nexts : List Nat}, nexts.length = regs.length → (∀ (i : Nat) (p : Nat × Nat) (n : Nat), regs[i]? = some p → nexts[i]? = some n → ws[n]? = some p.1) → nextsB ws regs (nexts.map iD) = true
  | [], [], _, _ => rfl
  | p :: ps, n :: ns, hl, h => by
    have h0 := h 0 p n rfl rfl
    show (isI (iD n) 0 (ws.length : Nat) && (decide (ws.getD (natD (iD n)) 0 = p.1) && nextsB ws ps (ns.map iD))) = true
    rw [isI_ws h0, getD_ws h0, nexts_ok (regs := ps) (nexts := ns) (by simpa using hl) (fun i p n h1 h2 => h (i + 1) p n h1 h2), decide_eq_true rfl]
    rfl
end
theorem ckt_circ {c : Ckt} {ws : List Nat} (h : CktOk c ws) : circB c.d = true := by
  show ((c.regs.map pr).all regB && ((c.mems.map pr).all memB && (match rowsW ((c.regs.map pr).map toPr) ((c.mems.map pr).map toPr) (c.rows.map Row.d) [] with
    | some ws => nextsB ws ((c.regs.map pr).map toPr) (c.nexts.map iD) && ((c.stores.map stD).all (storeB ((c.mems.map pr).map toPr) ws) && (c.outs.map iD).all fun r => isI r 0 (ws.length : Nat))
    | none => false))) = true
  rw [toPr_pr, toPr_pr, rows_ok h.mm h.rw]
  have hr : (c.regs.map pr).all regB = true := by
    rw [List.all_eq_true]
    intro d hd
    obtain ⟨p, hp, e⟩ := List.mem_map.mp hd
    subst e
    obtain ⟨p1, p2, p3⟩ := h.rg p hp
    show (isI (iD p.1) 1 33 && isI (iD p.2) 0 (2 ^ ((p.1 : Nat) : Int).toNat)) = true
    rw [Bool.and_eq_true]
    refine ⟨isI_iff.mpr ⟨_, rfl, by omega, by omega⟩, isI_iff.mpr ⟨_, rfl, by omega, ?_⟩⟩
    rw [Int.toNat_natCast]
    have : ((2 ^ p.1 : Nat) : Int) = (2 : Int) ^ p.1 := Int.natCast_pow 2 p.1
    rw [← this]
    omega
  have hm : (c.mems.map pr).all memB = true := by
    rw [List.all_eq_true]
    intro d hd
    obtain ⟨p, hp, e⟩ := List.mem_map.mp hd
    subst e
    obtain ⟨p1, p2, p3, p4⟩ := h.mm p hp
    show (isI (iD p.1) 1 7 && isI (iD p.2) 1 33) = true
    rw [Bool.and_eq_true]
    exact ⟨isI_iff.mpr ⟨_, rfl, by omega, by omega⟩, isI_iff.mpr ⟨_, rfl, by omega, by omega⟩⟩
  have hn := nexts_ok h.nl h.nx
  have hs : (c.stores.map stD).all (storeB c.mems ws) = true := by
    rw [List.all_eq_true]
    intro d hd
    obtain ⟨⟨m, a, v, t⟩, hp, e⟩ := List.mem_map.mp hd
    subst e
    obtain ⟨p, h0, h1, h2, h3⟩ := h.so _ hp
    dsimp only at h0 h1 h2 h3
    show (isI (iD m) 0 (c.mems.length : Nat) && (([iD a, iD v, iD t].all fun r => isI r 0 (ws.length : Nat)) && decide ([ws.getD (natD (iD a)) 0, ws.getD (natD (iD v)) 0, ws.getD (natD (iD t)) 0] = [((c.mems[((m : Nat) : Int).toNat]?).getD (0, 0)).1, ((c.mems[((m : Nat) : Int).toNat]?).getD (0, 0)).2, 1]))) = true
    rw [Int.toNat_natCast, h0, getD_ws h1, getD_ws h2, getD_ws h3, List.all_cons, List.all_cons, List.all_cons, isI_ws h1, isI_ws h2, isI_ws h3]
    rw [isI_iff.mpr ⟨_, rfl, by omega, by have := (List.getElem?_eq_some_iff.mp h0).1; omega⟩]
    show (true && ((true && (true && (true && true))) && decide ([p.1, p.2, 1] = [p.1, p.2, 1]))) = true
    rw [decide_eq_true rfl]
    rfl
  have ho : ((c.outs.map iD).all fun r => isI r 0 (ws.length : Nat)) = true := by
    rw [List.all_eq_true]
    intro d hd
    obtain ⟨o, hp, e⟩ := List.mem_map.mp hd
    subst e
    exact isI_iff.mpr ⟨_, rfl, by omega, by have := h.oo o hp; omega⟩
  rw [hr, hm]
  show (nextsB ws c.regs (c.nexts.map iD) && ((c.stores.map stD).all (storeB c.mems ws) && (c.outs.map iD).all fun r => isI r 0 (ws.length : Nat))) = true
  rw [hn, hs, ho]
  rfl
theorem gd_row {row : Row} {regs mems : List (Nat × Nat)} {ws : List Nat} {wd : Nat} (h : RowOk regs mems ws row wd) : gd 1 row.d = true := by
  have hs : ∀ s : Str, s ∈ shiftL ∨ s ∈ arithL ∨ s ∈ testL → decide (s ∈ strsL) = true := by
    have h1 : ∀ s ∈ shiftL ++ (arithL ++ testL), decide (s ∈ strsL) = true := by decide +kernel
    intro s hs
    refine h1 s ?_
    rw [List.mem_append, List.mem_append]
    exact hs
  have go : ∀ (s : Str) (a b : Nat), decide (s ∈ strsL) = true → gd 1 (Row.op s a b).d = true := fun s a b e => by
    show (decide (4 ≤ 1000) && (decide (("op" : Str) ∈ strsL) && (decide (s ∈ strsL) && (true && (true && true))))) = true
    rw [e]
    rfl
  cases h with
  | shift h => exact go _ _ _ (hs _ (.inl h))
  | arith h => exact go _ _ _ (hs _ (.inr (.inl h)))
  | test h => exact go _ _ _ (hs _ (.inr (.inr h)))
  | lit => rfl
  | reg => rfl
  | look => rfl
  | inv => rfl
  | wide => rfl
  | part => rfl
  | join => rfl
  | pick => rfl
theorem gd_rows {regs mems : List (Nat × Nat)} {rows : List Row} {ws : List Nat} (h : RowsOk regs mems rows ws) : ∀ r ∈ rows, gd 1 r.d = true := by
  induction h with
  | nil => exact fun r hr => by cases hr
  | snoc _ ho _ _ ih =>
    intro r hr
    rcases List.mem_append.mp hr with h | h
    · exact ih r h
    · rw [List.mem_singleton.mp h]
      exact gd_row ho
theorem gd_tup {n : Nat} {ds : List PyData} (hl : ds.length ≤ 1000) (h : ∀ d ∈ ds, gd n d = true) : gd (n + 1) (.tuple ds) = true := Bool.and_eq_true_iff.mpr ⟨decide_eq_true hl, List.all_eq_true.mpr h⟩
theorem gd_int {n : Nat} (k : Int) : gd n (.int k) = true := by cases n <;> rfl
theorem ckt_gd {c : Ckt} {ws : List Nat} (h : CktOk c ws) : gd 3 c.d = true := by
  have hi : ∀ (n : Nat) (ks : List Nat), ∀ d ∈ ks.map iD, gd n d = true := fun n ks d hd => by
    obtain ⟨k, _, e⟩ := List.mem_map.mp hd
    subst e
    exact gd_int _
  have hp : ∀ (ps : List (Nat × Nat)), ∀ d ∈ ps.map pr, gd 1 d = true := fun ps d hd => by
    obtain ⟨⟨x, y⟩, _, e⟩ := List.mem_map.mp hd
    subst e
    rfl
  have lw := h.lw
  have lrw := rows_len h.rw
  refine gd_tup (by show 6 ≤ 1000; decide) fun d hd => ?_
  have nlen := h.nl
  have h1 := h.lr
  have h2 := h.lm
  have h3 := h.sl
  have h4 := h.ol
  have hd' : d = .tuple (c.regs.map pr) ∨ d = .tuple (c.mems.map pr) ∨ d = .tuple (c.rows.map Row.d) ∨ d = .tuple (c.nexts.map iD) ∨ d = .tuple (c.stores.map stD) ∨ d = .tuple (c.outs.map iD) := by
    simpa using hd
  rcases hd' with e | e | e | e | e | e
  · subst e
    exact gd_tup (by rw [List.length_map]; omega) (hp _)
  · subst e
    exact gd_tup (by rw [List.length_map]; omega) (hp _)
  · subst e
    refine gd_tup (by rw [List.length_map]; omega) fun d hd => ?_
    obtain ⟨r, hr, e⟩ := List.mem_map.mp hd
    subst e
    exact gd_rows h.rw r hr
  · subst e
    exact gd_tup (by rw [List.length_map]; omega) (hi _ _)
  · subst e
    refine gd_tup (by rw [List.length_map]; omega) fun d hd => ?_
    obtain ⟨r, hr, e⟩ := List.mem_map.mp hd
    subst e
    rfl
  · subst e
    exact gd_tup (by rw [List.length_map]; omega) (hi _ _)
end C1
/-! The law's small tests. -/
namespace C1
open PySem PySem.Spec PyProof.Rows L2 SX
theorem scIs : FnScope ["thing", "low", "high"] ["thing", "low", "high"] (defScope sIs) := ⟨rfl, rfl, rfl, by decide +kernel, rfl, by decide +kernel, by decide +kernel⟩
theorem scOfRows : FnScope ["parts_v", "many", "part"] ["parts_v", "many"] (defScope sOfRows) := ⟨rfl, rfl, rfl, by decide +kernel, rfl, by decide +kernel, by decide +kernel⟩
theorem scPairs : FnScope ["thing", "second", "pair"] ["thing", "second"] (defScope sPairs) := ⟨rfl, rfl, rfl, by decide +kernel, rfl, by decide +kernel, by decide +kernel⟩
theorem tyx_of {K : PySem.W.Frag} {H : Hp} {v : V} {d : PyData} (h : Dp K H v d) (n : noL d = true) : TyX K H v (.type (tyD d)) := by
  cases h with
  | non => exact .base .non
  | bl b => exact .base (.bl b)
  | int i => exact .base (.int i)
  | str x => exact .base (.str x)
  | lst s _ => cases n
  | tup s _ =>
    rcases s with (s | ⟨u, s⟩) | ⟨o, its, k, s, c, _⟩
    · exact .base (.tup s)
    · exact .fTuple s
    · exact .kTuple s c
def isInst (d : PyData) (T : String) : Bool := (kitB (tyD d) T).getD false
section
variable {P : Program} {w : World} {K : PySem.W.Frag} {mg : Str → Option Value} {base : Heap} {tw tb : Tok}
theorem kit_int (d : PyData) (n : noL d = true) : kitB (tyD d) "int" = some (decide (tyD d = "int") || decide (tyD d = "bool")) := by
  cases d with
  | list _ => cases n
  | dict _ => cases n
  | none => show kitB "NoneType" "int" = some (decide ("NoneType" = "int") || decide ("NoneType" = "bool")); decide +kernel
  | bool _ => show kitB "bool" "int" = some (decide ("bool" = "int") || decide ("bool" = "bool")); decide +kernel
  | int _ => show kitB "int" "int" = some (decide ("int" = "int") || decide ("int" = "bool")); decide +kernel
  | str _ => show kitB "str" "int" = some (decide ("str" = "int") || decide ("str" = "bool")); decide +kernel
  | tuple _ => show kitB "tuple" "int" = some (decide ("tuple" = "int") || decide ("tuple" = "bool")); decide +kernel
theorem kit_one (T : String) (hT : T = "bool" ∨ T = "tuple" ∨ T = "str") (d : PyData) (n : noL d = true) : kitB (tyD d) T = some (decide (tyD d = T)) := by
  rcases hT with rfl | rfl | rfl
  · cases d with
    | list _ => cases n
    | dict _ => cases n
    | none => show kitB "NoneType" "bool" = some (decide ("NoneType" = "bool")); decide +kernel
    | bool _ => show kitB "bool" "bool" = some (decide ("bool" = "bool")); decide +kernel
    | int _ => show kitB "int" "bool" = some (decide ("int" = "bool")); decide +kernel
    | str _ => show kitB "str" "bool" = some (decide ("str" = "bool")); decide +kernel
    | tuple _ => show kitB "tuple" "bool" = some (decide ("tuple" = "bool")); decide +kernel
  · cases d with
    | list _ => cases n
    | dict _ => cases n
    | none => show kitB "NoneType" "tuple" = some (decide ("NoneType" = "tuple")); decide +kernel
    | bool _ => show kitB "bool" "tuple" = some (decide ("bool" = "tuple")); decide +kernel
    | int _ => show kitB "int" "tuple" = some (decide ("int" = "tuple")); decide +kernel
    | str _ => show kitB "str" "tuple" = some (decide ("str" = "tuple")); decide +kernel
    | tuple _ => show kitB "tuple" "tuple" = some (decide ("tuple" = "tuple")); decide +kernel
  · cases d with
    | list _ => cases n
    | dict _ => cases n
    | none => show kitB "NoneType" "str" = some (decide ("NoneType" = "str")); decide +kernel
    | bool _ => show kitB "bool" "str" = some (decide ("bool" = "str")); decide +kernel
    | int _ => show kitB "int" "str" = some (decide ("int" = "str")); decide +kernel
    | str _ => show kitB "str" "str" = some (decide ("str" = "str")); decide +kernel
    | tuple _ => show kitB "tuple" "str" = some (decide ("tuple" = "str")); decide +kernel
def spLIs (K : PySem.W.Frag) : Sp := fun vs H Q _ => ∃ (v : V) (d : PyData) (lo hi : Int), vs = [v, .int lo, .int hi] ∧ Dp K H v d ∧ noL d = true ∧ Q (.bl (isI d lo (hi + 1))) H
theorem ok_lIs {f : Addr} {fd : FuncData} (F : Fun K "_law_is" "_law_is" sIs f fd) (G : Gp mg tw tb) (GI : mg "isinstance" = none) (GBo : mg "bool" = none) : FnOk P w K mg base CX0 1 f fd ["thing", "low", "high"] (spLIs K) := by
  refine F.ok scIs (fun vs H Q E h => ?_) (fun cdv A outer s H vs Q E hr h => ?_)
  · obtain ⟨v, d, lo, hi, rfl, _⟩ := h
    rfl
  · obtain ⟨v, d, lo, hi, rfl, hd, hn, q⟩ := h
    refine ⟨_, (pss_one (ps_ret (pe_and (pe_callB call_isi (by rfl) GI (by decide +kernel) (pa_cons (pv 0) (pa_cons (pe_bltn (v := .ty "int") (by rfl) G.it (by decide +kernel) rfl) pa_nil))) (pe_and (pe_not (pe_callB call_isi (by rfl) GI (by decide +kernel) (pa_cons (pv 0) (pa_cons (pe_bltn (v := .ty "bool") (by rfl) GBo (by decide +kernel) rfl) pa_nil)))) (pe_one (pe_chain op_le op_le (pv 1) (pv 0) (pv 2))))))), ?_⟩
    refine ⟨_, rfl, v, _, _, _, _, rfl, .ty "int", tyx_of hd hn, kit_ty (kit_int d hn), ?_⟩
    refine ⟨_, rfl, ?_⟩
    cases d with
    | list _ => cases hn
    | dict _ => cases hn
    | int i =>
      cases hd
      refine iteT ?_
      refine ⟨_, rfl, _, _, _, _, _, rfl, .ty "bool", tyx_of (K := K) (H := H) (.int i) rfl, kit_ty (kit_one "bool" (.inl rfl) (.int i) rfl), ?_⟩
      refine ⟨_, rfl, _, rfl, iteT ?_⟩
      refine ⟨_, rfl, _, rfl, _, _, rfl, rfl, _, rfl, ite2 (fun a1 => ?_) (fun a1 => ?_)⟩
      · refine ⟨_, rfl, _, _, rfl, rfl, ?_⟩
        have e : isI (.int i) lo (hi + 1) = decide (i ≤ hi) := by
          show (decide (lo ≤ i) && decide (i < hi + 1)) = _
          rw [a1, Bool.true_and]
          exact decide_eq_decide.mpr ⟨fun h => by omega, fun h => by omega⟩
        rw [e] at q
        exact q
      · have e : isI (.int i) lo (hi + 1) = false := by
          show (decide (lo ≤ i) && decide (i < hi + 1)) = _
          rw [Bool.eq_false_iff.mpr a1, Bool.false_and]
        rw [e] at q
        exact q
    | bool b =>
      cases hd
      refine iteT ?_
      refine ⟨_, rfl, _, _, _, _, _, rfl, .ty "bool", tyx_of (K := K) (H := H) (.bl b) rfl, kit_ty (kit_one "bool" (.inl rfl) (.bool b) rfl), ?_⟩
      exact ⟨_, rfl, _, rfl, iteF q⟩
    | none => exact iteF q
    | str _ => exact iteF q
    | tuple _ => exact iteF q
theorem filt_all (f : PyData → Bool) : ∀ ds : List PyData, (ds.filter fun d => !f d).isEmpty = ds.all f
  | [] => rfl
  | d :: ds => by
    rw [List.all_cons]
    cases h : f d with
    | true => rw [List.filter_cons_of_neg (by simp [h]), filt_all f ds, Bool.true_and]
    | false => rw [List.filter_cons_of_pos (by simp [h]), Bool.false_and]; rfl
def spOfRows (K : PySem.W.Frag) : Sp := fun vs H Q _ => ∃ (p : Addr) (xs : List V) (ds : List PyData) (n : Int) (k : Nat), vs = [.ref p, .int n] ∧ SqT K H p xs ∧ DpAll K H xs ds ∧ (∀ d ∈ ds, gd k d = true) ∧ k ≤ 5 ∧ ds.length ≤ 3000 ∧ ∀ H', Same H H' → Q (.bl (ds.all fun d => isI d 0 n)) H'
theorem noLs_of {k : Nat} : ∀ {ds : List PyData}, (∀ d ∈ ds, gd k d = true) → noLs ds = true
  | [], _ => rfl
  | d :: ds, h => by
    show (noL d && noLs ds) = true
    rw [(gd_ok k d (h d (List.mem_cons_self ..))).1, noLs_of (ds := ds) (fun x hx => h x (List.mem_cons_of_mem _ hx))]
    rfl
theorem ok_ofRows {f fI : Addr} {fd fdI : FuncData} (F : Fun K "_law_of_rows" "_law_of_rows" sOfRows f fd) (GIs : FnOk P w K mg base CX0 1 fI fdI ["thing", "low", "high"] (spLIs K)) (kIs : PySem.W.keepIn K (.ref fI) = true) (bIs : Binds K fdI ["thing", "low", "high"] []) (gIs : mg "_law_is" = some (.ref fI)) :
    FnOk P w K mg base CX0 2 f fd ["parts_v", "many"] (spOfRows K) := by
  refine F.ok scOfRows (fun vs H Q E h => ?_) (fun cdv A outer s H vs Q E hr h => ?_)
  · obtain ⟨p, xs, ds, n, k, rfl, _⟩ := h
    rfl
  · obtain ⟨p, xs, ds, n, k, rfl, hp, da, hg, hk, hl, q⟩ := h
    have nd := scOfRows.nd
    have hr1 := hr
    have hu := hr.units
    have nn := noLs_of hg
    refine ⟨_, (pss_one (ps_ret (pe_cmpR (op_eqD hu) (pe_lc (own := [("part", 2)]) (g := gName 2) (tt := tNot (tB (tCall (spLIs K) [] E0 (tCons (tVar 2) (tCons (tC (.int 0)) (tCons (tOp (rI0 fun i j => V.int (i - j)) (tVar 1) (tC (.int 1))) tNil)))))) rfl nd (pi_tup (pv 0)) (blkOk_by (own := [("part", 2)]) (N := ["parts_v", "many", "part"]) (sc := defScope sOfRows) (by decide +kernel)) (fun _ _ _ _ _ => pg_name (i := 2) nd rfl (.inl rfl)) (fun _ _ _ _ _ => pts_one (by exact (pt_not (pt_val (pe_call GIs hr1 (by rfl) gIs kIs bIs .nil pass0 (pa_cons (pv 2) (pa_cons (pe_int) (pa_cons (pe_op op_sub (pv 1) (pe_int)) pa_nil)))))))) (fun _ _ _ _ _ => pv 2)) (pe_lst pa_nil) (nomark _)))), ?_⟩
    refine ⟨_, rfl, p, rfl, ⟨_, hp⟩, fun D nD => ?_⟩
    have s6 : ∀ {o : HO}, Same H (upd H D o) := fun {o} => Same.up nD
    refine lc_tup (xs := xs) (fun j H' => ∃ acc : List V, H' = upd H D (.lst acc) ∧ DpAll K H acc ((ds.take j).filter fun d => !isI d 0 n) ∧ acc.length ≤ j) ⟨[], rfl, .nil, Nat.zero_le _⟩ (fun j H' _ h => ?_) (fun j x H' hx h => ?_) (fun H' h => ?_)
    · obtain ⟨acc, rfl, _⟩ := h
      exact same_tup s6 _ _ hp
    · obtain ⟨acc, rfl, hA, la⟩ := h
      obtain ⟨dj, hdj, dx⟩ := dps_get da hx
      have njl := (gd_ok k dj (hg dj (List.mem_of_getElem? hdj))).1
      have hj : j < xs.length := (List.getElem?_eq_some_iff.mp hx).1
      have hxl := dps_len da
      have tk : ds.take (j + 1) = ds.take j ++ [dj] := by
        rw [List.take_add_one, hdj]
        rfl
      refine ⟨rfl, _, rfl, _, rfl, _, _, rfl, rfl, x, dj, 0, n - 1, rfl, dp_stay (same_tup s6) _ _ dx njl, njl, _, rfl, ?_⟩
      rw [Int.sub_add_cancel]
      cases hb : isI dj 0 n with
      | false =>
        refine iteT ⟨_, rfl, acc, upd_same, Nat.lt_of_le_of_lt la (by rw [sizeLine_eq]; omega), acc ++ [x], upd_upd, ?_, ?_⟩
        · rw [tk, List.filter_append, List.filter_cons_of_pos (by rw [hb]; rfl)]
          exact dps_app hA (.cons dx .nil)
        · rw [List.length_append]
          show acc.length + 1 ≤ j + 1
          omega
      | true =>
        refine iteF ⟨acc, rfl, ?_, by omega⟩
        rw [tk, List.filter_append, List.filter_cons_of_neg (by rw [hb]; decide)]
        rw [List.filter_nil, List.append_nil]
        exact hA
    · obtain ⟨acc, rfl, hA, la⟩ := h
      rw [dps_len da, List.take_length] at hA
      refine ⟨Nat.zero_le _, fun z nz => ?_⟩
      have hD : (upd (upd H D (.lst acc)) z (.lst [])) D = some (.lst acc) := by
        rw [upd_ne (ne_of_none upd_same nz)]
        exact upd_same
      have sm : Same H (upd (upd H D (.lst acc)) z (.lst [])) := s6.trans (Same.up nz)
      have nf : noLs (ds.filter fun d => !isI d 0 n) = true := noLs_of (k := k) fun d hd => hg d (List.mem_filter.mp hd).1
      refine ⟨.list (ds.filter fun d => !isI d 0 n), .list [], .lst (SqL.of hD) (dps_stay (same_tup sm) _ _ hA nf), .lst (SqL.of upd_same) .nil, shaped_list _ (fun d hd => ?_), shaped_list [] (fun d hd => by cases hd), ?_⟩
      · obtain ⟨_, b, c⟩ := gd_ok k d (hg d (List.mem_filter.mp hd).1)
        exact ⟨b, by omega⟩
      · rw [eqv_nil, filt_all (fun d => isI d 0 n)]
        exact q _ sm
def spPairs (K : PySem.W.Frag) : Sp := fun vs H Q _ => ∃ (p : Addr) (xs : List V) (ds : List PyData) (b : Bool), vs = [.ref p, .bl b] ∧ SqT K H p xs ∧ DpAll K H xs ds ∧ noLs ds = true ∧ Q (.bl (ds.all (if b = true then regB else memB))) H
theorem ok_pairs {f fI : Addr} {fd fdI : FuncData} (F : Fun K "_law_pairs" "_law_pairs" sPairs f fd) (G : Gp mg tw tb) (GI : mg "isinstance" = none) (GIs : FnOk P w K mg base CX0 1 fI fdI ["thing", "low", "high"] (spLIs K)) (kIs : PySem.W.keepIn K (.ref fI) = true) (bIs : Binds K fdI ["thing", "low", "high"] []) (gIs : mg "_law_is" = some (.ref fI)) :
    FnOk P w K mg base CX0 2 f fd ["thing", "second"] (spPairs K) := by
  refine F.ok scPairs (fun vs H Q E h => ?_) (fun cdv A outer s H vs Q E hr h => ?_)
  · obtain ⟨p, xs, ds, b, rfl, _⟩ := h
    rfl
  · obtain ⟨p, xs, ds, b, rfl, hp, da, nn, q⟩ := h
    have nd := scPairs.nd
    have hr1 := hr
    refine ⟨_, (pss_cons (ps_for PassesOwn.never rfl (pi_tup (pv 0)) (pg_name (i := 2) nd rfl (.inl rfl)) (pss_cons (ps_if (PW.pt (pw_or (pt_not (pt_val (pe_callB call_isi (by rfl) GI (by decide +kernel) (pa_cons (pv 2) (pa_cons (pe_bltn (v := .ty "tuple") (by rfl) G.tu (by decide +kernel) rfl) pa_nil))))) (pw_or1 (pt_cmpR op_ne (pe_callB call_len_seq (by rfl) G.len PySem.boot_len (pa_cons (pv 2) pa_nil)) (pe_int) (nomark _))))) (pss_one (ps_ret (pe_bl))) pss_nil)
      (C8.pss_cut (ps_if (PW.pt (pw_and (pt_val (pv 1)) (pw_and1 (pt_not (PW.pt (pw_and (pt_val (pe_call GIs hr1 (by rfl) gIs kIs bIs .nil pass0 (pa_cons (pe_ix ix_tup (pv 2) (pe_int) (fun _ _ => rfl)) (pa_cons (pe_int) (pa_cons (pe_int) pa_nil))))) (pw_and1 (pt_val (pe_call GIs hr1 (by rfl) gIs kIs bIs .nil pass0 (pa_cons (pe_ix ix_tup (pv 2) (pe_int) (fun _ _ => rfl)) (pa_cons (pe_int) (pa_cons (pe_op op_sub (pe_op op_shl pe_int (pe_ix ix_tup (pv 2) (pe_int) (fun _ _ => rfl))) (pe_int)) pa_nil)))))))))))) (pss_one (ps_ret (pe_bl))) pss_nil)
      (pss_one (ps_if (PW.pt (pw_and (pt_not (pt_val (pv 1))) (pw_and1 (pt_not (PW.pt (pw_and (pt_val (pe_call GIs hr1 (by rfl) gIs kIs bIs .nil pass0 (pa_cons (pe_ix ix_tup (pv 2) (pe_int) (fun _ _ => rfl)) (pa_cons (pe_int) (pa_cons (pe_int) pa_nil))))) (pw_and1 (pt_val (pe_call GIs hr1 (by rfl) gIs kIs bIs .nil pass0 (pa_cons (pe_ix ix_tup (pv 2) (pe_int) (fun _ _ => rfl)) (pa_cons (pe_int) (pa_cons (pe_int) pa_nil)))))))))))) (pss_one (ps_ret (pe_bl))) pss_nil)))))
      (pss_one (ps_ret (pe_bl)))), ?_⟩
    refine ⟨_, rfl, p, rfl, ⟨_, hp⟩, for_tup (xs := xs) (fun j σ H' => ∃ y : Option V, σ = [some (.ref p), some (.bl b), y] ∧ H' = H ∧ ds.all (if b = true then regB else memB) = (ds.drop j).all (if b = true then regB else memB)) ⟨_, rfl, rfl, rfl⟩ (fun j σ H' _ h => ?_) (fun j x σ H' hx h => ?_) (fun σ H' h => ?_)⟩
    · obtain ⟨_, _, rfl, _⟩ := h
      exact hp
    · obtain ⟨y, rfl, rfl, e1⟩ := h
      obtain ⟨dj, hdj, dx⟩ := dps_get da hx
      have nj := noLs_mem nn dj (List.mem_of_getElem? hdj)
      obtain ⟨hi, ei⟩ := List.getElem?_eq_some_iff.mp hdj
      have e2 : (ds.drop j).all (if b = true then regB else memB) = ((if b = true then regB else memB) dj && (ds.drop (j + 1)).all (if b = true then regB else memB)) := by
        rw [List.drop_eq_getElem_cons hi, ei]
        rfl
      rw [e2] at e1
      have qf : (if b = true then regB else memB) dj = false → Q (.bl false) H' := fun e => by
        rw [e1, e, Bool.false_and] at q
        exact q
      refine ⟨_, rfl, x, _, _, _, _, rfl, .ty "tuple", tyx_of dx nj, kit_ty (kit_one "tuple" (.inr (.inl rfl)) dj nj), _, rfl, ?_⟩
      cases dj with
      | tuple es =>
        refine iteNS rfl ?_
        obtain ⟨bb, ys, rfl, sb, dy⟩ := dp_tup dx
        have ly := dps_len dy
        refine ⟨_, rfl, _, _, rfl, .inr sb, rfl, _, rfl, ?_⟩
        by_cases h2 : es.length = 2
        · refine iteNS (by rw [ly, h2]; rfl) ?_
          obtain ⟨m0, m1, rfl⟩ := len2 h2
          cases dy with
          | cons c0 dy =>
          cases dy with
          | cons c1 dy =>
          cases dy
          have n0 : noL m0 = true := (Bool.and_eq_true_iff.mp (show (noL m0 && noLs [m1]) = true from nj)).1
          have n1 : noL m1 = true := (Bool.and_eq_true_iff.mp (show (noL m1 && true) = true from (Bool.and_eq_true_iff.mp (show (noL m0 && noLs [m1]) = true from nj)).2)).1
          refine ⟨fun σ H2 => σ = [some (.ref p), some (.bl b), some (.ref bb)] ∧ H2 = H' ∧ (b = true → regB (.tuple [m0, m1]) = true), ?_, ?_⟩
          · refine ⟨_, rfl, _, rfl, ?_⟩
            cases b with
            | false => exact iteF ⟨rfl, rfl, fun e => by cases e⟩
            | true =>
              refine iteT ?_
              refine ⟨_, rfl, _, _, _, _, rfl, rfl, sb, atI_nat (j := 0) rfl, _, m0, 1, 32, rfl, c0, n0, _, rfl, ?_⟩
              cases hb : isI m0 1 (32 + 1) with
              | false =>
                refine iteF (iteT (qf ?_))
                show regB (.tuple [m0, m1]) = false
                cases m0 with
                | int i =>
                  show (isI (.int i) 1 33 && _) = false
                  rw [show isI (.int i) 1 33 = false from hb, Bool.false_and]
                | _ => rfl
              | true =>
                refine iteT ?_
                obtain ⟨i, rfl, i0, i1⟩ := isI_iff.mp hb
                obtain ⟨nn2, rfl⟩ : ∃ n : Nat, i = ((n : Nat) : Int) := ⟨i.toNat, by omega⟩
                cases c0
                refine ⟨_, rfl, _, _, _, _, rfl, rfl, sb, atI_nat (j := 1) rfl, _, rfl, _, _, _, _, rfl, rfl, sb, atI_nat (j := 0) rfl, _, _, rfl, rfl, ⟨by omega, by omega, by decide⟩, _, _, rfl, rfl, _, m1, 0, _, rfl, c1, n1, _, rfl, ?_⟩
                have er : regB (.tuple [.int ((nn2 : Nat) : Int), m1]) = isI m1 0 (1 * 2 ^ (((nn2 : Nat) : Int)).toNat - 1 + 1) := by
                  show (isI (.int ((nn2 : Nat) : Int)) 1 33 && isI m1 0 (2 ^ ((nn2 : Nat) : Int).toNat)) = _
                  rw [show isI (.int ((nn2 : Nat) : Int)) 1 33 = true from hb, Bool.true_and, Int.sub_add_cancel, Int.one_mul]
                rw [← er]
                cases hr0 : regB (.tuple [.int ((nn2 : Nat) : Int), m1]) with
                | false => exact iteT (qf hr0)
                | true => exact iteF ⟨rfl, rfl, fun _ => rfl⟩
          rintro σ H2 ⟨rfl, rfl, hreg⟩
          refine ⟨_, rfl, _, rfl, ?_⟩
          cases b with
          | true =>
            refine iteF ⟨_, rfl, rfl, ?_⟩
            rw [e1]
            show (regB (.tuple [m0, m1]) && _) = _
            rw [hreg rfl, Bool.true_and]
          | false =>
            refine iteT ?_
            refine ⟨_, rfl, _, _, _, _, rfl, rfl, sb, atI_nat (j := 0) rfl, _, m0, 1, 6, rfl, c0, n0, _, rfl, ?_⟩
            cases hb : isI m0 1 (6 + 1) with
            | false =>
              refine iteF (iteT (qf ?_))
              show (isI m0 1 7 && isI m1 1 33) = false
              rw [show isI m0 1 7 = false from hb, Bool.false_and]
            | true =>
              refine iteT ?_
              refine ⟨_, rfl, _, _, _, _, rfl, rfl, sb, atI_nat (j := 1) rfl, _, m1, 1, 32, rfl, c1, n1, _, rfl, ?_⟩
              cases hc : isI m1 1 (32 + 1) with
              | false =>
                refine iteT (qf ?_)
                show (isI m0 1 7 && isI m1 1 33) = false
                rw [show isI m1 1 33 = false from hc, Bool.and_false]
              | true =>
                refine iteF ⟨_, rfl, rfl, ?_⟩
                rw [e1]
                show ((isI m0 1 7 && isI m1 1 33) && _) = _
                rw [show isI m0 1 7 = true from hb, show isI m1 1 33 = true from hc]
                rfl
        · refine iteN (fun z => ?_) (qf ?_)
          · have := V.int.inj z
            exact h2 (by omega)
          · cases b with
            | true =>
              show regB (.tuple es) = false
              unfold regB
              split
              · rename_i e
                cases e
                exact absurd rfl h2
              · rfl
            | false =>
              show memB (.tuple es) = false
              unfold memB
              split
              · rename_i e
                cases e
                exact absurd rfl h2
              · rfl
      | _ => exact iteN (fun e => by simp [tyD] at e) (qf (by cases b <;> rfl))
    · obtain ⟨y, rfl, rfl, e1⟩ := h
      rw [e1, dps_len da, List.drop_length] at q
      exact q
end
end C1
/-! The law's width of a row. -/
namespace C1
open PySem PySem.Spec PyProof.Rows L2 SX
abbrev NW : List Str := ["row", "widths", "registers", "memories", "lengths", "word", "many", "fits", "parts_v", "own", "part"]
theorem scWidth : FnScope NW ["row", "widths", "registers", "memories"] (defScope sWidth) := ⟨rfl, rfl, rfl, by decide +kernel, rfl, by decide +kernel, by decide +kernel⟩
def lenKV : List (Key × V) := [(.inr ("lit" : Str), .int 3), (.inr ("reg" : Str), .int 2), (.inr ("look" : Str), .int 3), (.inr ("not" : Str), .int 2), (.inr ("op" : Str), .int 4), (.inr ("pick" : Str), .int 4), (.inr ("wide" : Str), .int 3), (.inr ("part" : Str), .int 4), (.inr ("join" : Str), .int 3)]
def opsL : List Str := ["+", "-", "*", "&", "|", "^", "==", "<", "<<", ">>"]
theorem ops_in : ∀ s ∈ strsL, inV (.str s) (opsL.map V.str) = decide (s ∈ opsL) := by decide +kernel
theorem ops_of {s : Str} (h : s ∉ opsL) : s ∉ shiftL ∧ s ∉ testL ∧ s ∉ arithL := by
  have h1 : ∀ s ∈ shiftL, s ∈ opsL := by decide +kernel
  have h2 : ∀ s ∈ testL, s ∈ opsL := by decide +kernel
  have h3 : ∀ s ∈ arithL, s ∈ opsL := by decide +kernel
  exact ⟨fun z => h (h1 s z), fun z => h (h2 s z), fun z => h (h3 s z)⟩
theorem shift_in : ∀ s ∈ strsL, inV (.str s) (shiftL.map V.str) = decide (s ∈ shiftL) := by decide +kernel
theorem test_in : ∀ s ∈ strsL, inV (.str s) (testL.map V.str) = decide (s ∈ testL) := by decide +kernel
theorem ops_arith : ∀ s ∈ opsL, s ∉ shiftL → s ∉ testL → s ∈ arithL := by decide +kernel
theorem ops_strs : ∀ s ∈ opsL, s ∈ strsL := by decide +kernel
theorem len_merge : mergeK [] lenKV = lenKV := by decide +kernel
theorem len_get : ∀ s ∈ strsL, (valV lenKV (.inr s)).getD (.int 0) = .int (((lenOf s).getD 0 : Nat) : Int) := by decide +kernel
section
variable {P : Program} {w : World} {K : PySem.W.Frag} {mg : Str → Option Value} {base : Heap} {tw tb : Tok}
def spWidth (K : PySem.W.Frag) : Sp := fun vs H Q _ => ∃ (v : V) (wl r m : Addr) (regs mems : List (Nat × Nat)) (ws : List Nat) (rvs mvs : List V) (d : PyData), vs = [v, .ref wl, .ref r, .ref m] ∧ Dp K H v d ∧ gd 5 d = true ∧ H wl = some (.lst (ws.map iV)) ∧ SqT K H r rvs ∧ DpAll K H rvs (regs.map pr) ∧ SqT K H m mvs ∧ DpAll K H mvs (mems.map pr) ∧ (∀ x ∈ ws, x ≤ 32) ∧ ws.length ≤ 1000 ∧
  ∀ H', Same H H' → Q (iV (rowB regs mems ws d)) H'
theorem ok_width {f fI fO : Addr} {fd fdI fdO : FuncData} (F : Fun K "_law_width" "_law_width" sWidth f fd) (G : Gp mg tw tb) (GI : mg "isinstance" = none) (GSum : mg "sum" = none)
    (GIs : FnOk P w K mg base CX0 1 fI fdI ["thing", "low", "high"] (spLIs K)) (kIs : PySem.W.keepIn K (.ref fI) = true) (bIs : Binds K fdI ["thing", "low", "high"] []) (gIs : mg "_law_is" = some (.ref fI))
    (GOr : FnOk P w K mg base CX0 2 fO fdO ["parts_v", "many"] (spOfRows K)) (kOr : PySem.W.keepIn K (.ref fO) = true) (bOr : Binds K fdO ["parts_v", "many"] []) (gOr : mg "_law_of_rows" = some (.ref fO)) :
    FnOk P w K mg base CX0 3 f fd ["row", "widths", "registers", "memories"] (spWidth K) := by
  refine F.ok scWidth (fun vs H Q E h => ?_) (fun cdv A outer s H vs Q E hr h => ?_)
  · obtain ⟨v, wl, r, m, regs, mems, ws, rvs, mvs, d, rfl, _⟩ := h
    rfl
  · obtain ⟨v, wl, rA, m, regs, mems, ws, rvs, mvs, d, rfl, hd, hg, hw, hr0, dr, hm0, dm, hws, lws, q⟩ := h
    have nd := scWidth.nd
    have hr2 := hr
    have hr1 : Room 1 _ := hr.mono (by decide)
    have hu := hr.units
    have hud := hu_of hr
    have lrv : rvs.length = regs.length := by
      have := dps_len dr
      rw [List.length_map] at this
      exact this
    have lmv : mvs.length = mems.length := by
      have := dps_len dm
      rw [List.length_map] at this
      exact this
    have z0 : rowB regs mems ws d = 0 → ∀ {H'}, Same H H' → Q (.int 0) H' := fun e H' sm => by
      have := q H' sm
      rw [e] at this
      exact this
    refine ⟨_, (pss_cons (ps_set (i := 4) nd rfl (.inl rfl) (pe_disp (pps_cons pe_str pe_int (pps_cons pe_str pe_int (pps_cons pe_str pe_int (pps_cons pe_str pe_int (pps_cons pe_str pe_int (pps_cons pe_str pe_int (pps_cons pe_str pe_int (pps_cons pe_str pe_int (pps_cons pe_str pe_int pps_nil))))))))) rfl rfl (by intro z; cases z) (by decide)))
      (pss_cons (ps_if (PW.pt (pw_or (pt_not (pt_val (pe_callB call_isi (by rfl) GI (by decide +kernel) (pa_cons (pv 0) (pa_cons (pe_bltn (v := .ty "tuple") (by rfl) G.tu (by decide +kernel) rfl) pa_nil))))) (pw_or (pt_cmpR (op_eqD hu) (pv 0) (pe_tup pa_nil) (nomark _)) (pw_or (pt_not (pt_val (pe_callB call_isi (by rfl) GI (by decide +kernel) (pa_cons (pe_ix ix_tup (pv 0) (pe_int) (fun _ _ => rfl)) (pa_cons (pe_bltn (v := .ty "str") (by rfl) G.st (by decide +kernel) rfl) pa_nil))))) (pw_or1 (pt_cmpR op_ne (pe_dget2 hud (pv 4) (pe_ix ix_tup (pv 0) (pe_int) (fun _ _ => rfl)) pe_int ⟨rfl, rfl, rfl, rfl⟩) (pe_callB call_len_seq (by rfl) G.len PySem.boot_len (pa_cons (pv 0) pa_nil)) (nomark _))))))) (pss_one (ps_ret (pe_int))) pss_nil)
      (pss_cons (ps_set (i := 5) nd rfl (.inl rfl) (pe_ix ix_tup (pv 0) (pe_int) (fun _ _ => rfl)))
      (pss_cons (ps_set (i := 6) nd rfl (.inl rfl) (pe_callB call_len_seq (by rfl) G.len PySem.boot_len (pa_cons (pv 1) pa_nil)))
      (pss_cons (ps_if (pt_cmpR op_eq (pv 5) (pe_str) (nomark _)) (pss_one (ps_ret (pe_ifExp (PW.pt (pw_and (pt_val (pe_call GIs hr1 (by rfl) gIs kIs bIs .nil pass0 (pa_cons (pe_ix ix_tup (pv 0) (pe_int) (fun _ _ => rfl)) (pa_cons (pe_int) (pa_cons (pe_int) pa_nil))))) (pw_and1 (pt_val (pe_call GIs hr1 (by rfl) gIs kIs bIs .nil pass0 (pa_cons (pe_ix ix_tup (pv 0) (pe_int) (fun _ _ => rfl)) (pa_cons (pe_int) (pa_cons (pe_op op_sub (pe_op op_shl pe_int (pe_ix ix_tup (pv 0) (pe_int) (fun _ _ => rfl))) (pe_int)) pa_nil)))))))) (pe_ix ix_tup (pv 0) (pe_int) (fun _ _ => rfl)) pe_int))) pss_nil)
      (pss_cons (ps_if (pt_cmpR op_eq (pv 5) (pe_str) (nomark _)) (pss_one (ps_ret (pe_ifExp (pt_val (pe_call GIs hr1 (by rfl) gIs kIs bIs .nil pass0 (pa_cons (pe_ix ix_tup (pv 0) (pe_int) (fun _ _ => rfl)) (pa_cons (pe_int) (pa_cons (pe_op op_sub (pe_callB call_len_seq (by rfl) G.len PySem.boot_len (pa_cons (pv 2) pa_nil)) (pe_int)) pa_nil))))) (pe_ix ix_tup (pe_ix ix_tup (pv 2) (pe_ix ix_tup (pv 0) (pe_int) (fun _ _ => rfl)) (fun _ _ => rfl)) (pe_int) (fun _ _ => rfl)) pe_int))) pss_nil)
      (pss_cons (ps_if (pt_cmpR op_eq (pv 5) (pe_str) (nomark _)) (pss_cons (ps_set (i := 7) nd rfl (.inl rfl) (pe_and (pe_call GIs hr1 (by rfl) gIs kIs bIs .nil pass0 (pa_cons (pe_ix ix_tup (pv 0) (pe_int) (fun _ _ => rfl)) (pa_cons (pe_int) (pa_cons (pe_op op_sub (pe_callB call_len_seq (by rfl) G.len PySem.boot_len (pa_cons (pv 3) pa_nil)) (pe_int)) pa_nil)))) (pe_one (pe_call GOr hr2 (by rfl) gOr kOr bOr .nil pass0 (pa_cons (pe_slice sl_tup (pv 0) (po_some pe_int) po_none) (pa_cons (pv 6) pa_nil))))))
      (pss_one (ps_ret (pe_ifExp (PW.pt (pw_and (pt_val (pv 7)) (pw_and1 (pt_cmpR op_eq (pe_ix ix_list (pv 1) (pe_ix ix_tup (pv 0) (pe_int) (fun _ _ => rfl)) (fun _ _ => rfl)) (pe_ix ix_tup (pe_ix ix_tup (pv 3) (pe_ix ix_tup (pv 0) (pe_int) (fun _ _ => rfl)) (fun _ _ => rfl)) (pe_int) (fun _ _ => rfl)) (nomark _))))) (pe_ix ix_tup (pe_ix ix_tup (pv 3) (pe_ix ix_tup (pv 0) (pe_int) (fun _ _ => rfl)) (fun _ _ => rfl)) (pe_int) (fun _ _ => rfl)) pe_int)))) pss_nil)
      (pss_cons (ps_if (pt_cmpR op_eq (pv 5) (pe_str) (nomark _)) (pss_one (ps_ret (pe_ifExp (PW.pt (pw_and (pt_val (pe_call GOr hr2 (by rfl) gOr kOr bOr .nil pass0 (pa_cons (pe_slice sl_tup (pv 0) (po_some pe_int) (po_some pe_int)) (pa_cons (pv 6) pa_nil)))) (pw_and1 (pt_val (pe_call GIs hr1 (by rfl) gIs kIs bIs .nil pass0 (pa_cons (pe_ix ix_tup (pv 0) (pe_int) (fun _ _ => rfl)) (pa_cons (pe_int) (pa_cons (pe_int) pa_nil)))))))) (pe_ix ix_tup (pv 0) (pe_int) (fun _ _ => rfl)) pe_int))) pss_nil)
      (pss_cons (ps_if (pt_cmpR op_eq (pv 5) (pe_str) (nomark _)) (pss_cons (ps_set (i := 7) nd rfl (.inl rfl) (pe_and (pe_call GOr hr2 (by rfl) gOr kOr bOr .nil pass0 (pa_cons (pe_slice sl_tup (pv 0) (po_some pe_int) (po_some pe_int)) (pa_cons (pv 6) pa_nil))) (pe_and (pe_call GIs hr1 (by rfl) gIs kIs bIs .nil pass0 (pa_cons (pe_ix ix_tup (pv 0) (pe_int) (fun _ _ => rfl)) (pa_cons (pe_int) (pa_cons (pe_int) pa_nil)))) (pe_one (pe_call GIs hr1 (by rfl) gIs kIs bIs .nil pass0 (pa_cons (pe_ix ix_tup (pv 0) (pe_int) (fun _ _ => rfl)) (pa_cons (pe_int) (pa_cons (pe_int) pa_nil))))))))
      (pss_one (ps_ret (pe_ifExp (PW.pt (pw_and (pt_val (pv 7)) (pw_and1 (pt_chain op_le op_lt (pe_ix ix_tup (pv 0) (pe_int) (fun _ _ => rfl)) (pe_ix ix_tup (pv 0) (pe_int) (fun _ _ => rfl)) (pe_ix ix_list (pv 1) (pe_ix ix_tup (pv 0) (pe_int) (fun _ _ => rfl)) (fun _ _ => rfl)))))) (pe_op op_add (pe_op op_sub (pe_ix ix_tup (pv 0) (pe_int) (fun _ _ => rfl)) (pe_ix ix_tup (pv 0) (pe_int) (fun _ _ => rfl))) (pe_int)) pe_int)))) pss_nil)
      (C8.pss_cut (ps_if (PW.pt (pw_and (pt_cmpR op_eq (pv 5) (pe_str) (nomark _)) (pw_and1 (PW.pt (pw_or (pt_not (pt_val (pe_callB call_isi (by rfl) GI (by decide +kernel) (pa_cons (pe_ix ix_tup (pv 0) (pe_int) (fun _ _ => rfl)) (pa_cons (pe_bltn (v := .ty "str") (by rfl) G.st (by decide +kernel) rfl) pa_nil))))) (pw_or1 (pt_cmpR op_notIn_seq (pe_ix ix_tup (pv 0) (pe_int) (fun _ _ => rfl)) (pe_tup (pa_cons (pe_str) (pa_cons (pe_str) (pa_cons (pe_str) (pa_cons (pe_str) (pa_cons (pe_str) (pa_cons (pe_str) (pa_cons (pe_str) (pa_cons (pe_str) (pa_cons (pe_str) (pa_cons (pe_str) pa_nil))))))))))) (by rfl)))))))) (pss_one (ps_ret (pe_int))) pss_nil)
      (C8.pss_cut (ps_set (i := 8) nd rfl (.inl rfl) (pe_ifExp (pt_cmpR op_eq (pv 5) (pe_str) (nomark _)) (pe_slice sl_tup (pv 0) (po_some pe_int) po_none) (pe_slice sl_tup (pv 0) (po_some pe_int) po_none)))
      (C8.pss_cut (ps_if (pt_not (pt_val (pe_call GOr hr2 (by rfl) gOr kOr bOr .nil pass0 (pa_cons (pv 8) (pa_cons (pv 6) pa_nil))))) (pss_one (ps_ret (pe_int))) pss_nil)
      (C8.pss_cut (ps_setLc (i := 9) (own := [("part", 10)]) (g := gName 10) (tt := tYes) (te := tOp (rIxL K) (tVar 1) (tVar 10)) rfl nd rfl rfl (sw_true rfl rfl rfl (by decide +kernel)) (pi_tup (pv 8)) (blkOk_by (N := NW) (sc := defScope sWidth) (by decide +kernel)) (fun _ _ _ _ _ => pg_name (i := 10) nd rfl (.inl rfl)) (fun _ _ _ _ _ => pts_nil) (fun _ _ _ _ _ => by exact (pe_ix ix_list (pv 1) (pv 10) (fun _ _ => rfl))))
      (pss_cons (ps_if (pt_cmpR op_eq (pv 5) (pe_str) (nomark _)) (pss_one (ps_ret (pe_ix ix_list (pv 9) (pe_int) (fun _ _ => rfl)))) pss_nil)
      (pss_cons (ps_if (pt_cmpR op_eq (pv 5) (pe_str) (nomark _)) (pss_one (ps_ret (pe_ifExp (pt_cmpR op_le (pe_callB (cr_sum rfl) (by rfl) GSum (by decide +kernel) (pa_cons (pv 9) pa_nil)) (pe_int) (nomark _)) (pe_callB (cr_sum rfl) (by rfl) GSum (by decide +kernel) (pa_cons (pv 9) pa_nil)) pe_int))) pss_nil)
      (pss_cons (ps_if (pt_cmpR op_eq (pv 5) (pe_str) (nomark _)) (pss_one (ps_ret (pe_ifExp (PW.pt (pw_and (pt_cmpR op_eq (pe_ix ix_list (pv 9) (pe_int) (fun _ _ => rfl)) (pe_int) (nomark _)) (pw_and1 (pt_cmpR op_eq (pe_ix ix_list (pv 9) (pe_int) (fun _ _ => rfl)) (pe_ix ix_list (pv 9) (pe_int) (fun _ _ => rfl)) (nomark _))))) (pe_ix ix_list (pv 9) (pe_int) (fun _ _ => rfl)) pe_int))) pss_nil)
      (pss_cons (ps_if (pt_cmpR op_in_seq (pe_ix ix_tup (pv 0) (pe_int) (fun _ _ => rfl)) (pe_tup (pa_cons (pe_str) (pa_cons (pe_str) pa_nil))) (by rfl)) (pss_one (ps_ret (pe_ix ix_list (pv 9) (pe_int) (fun _ _ => rfl)))) pss_nil)
      (pss_cons (ps_if (pt_cmpR op_ne (pe_ix ix_list (pv 9) (pe_int) (fun _ _ => rfl)) (pe_ix ix_list (pv 9) (pe_int) (fun _ _ => rfl)) (nomark _)) (pss_one (ps_ret (pe_int))) pss_nil)
      (pss_one (ps_ret (pe_ifExp (pt_cmpR op_in_seq (pe_ix ix_tup (pv 0) (pe_int) (fun _ _ => rfl)) (pe_tup (pa_cons (pe_str) (pa_cons (pe_str) pa_nil))) (by rfl)) pe_int (pe_ix ix_list (pv 9) (pe_int) (fun _ _ => rfl))))))))))))))))))))))), ?_⟩
    refine fun p np => ⟨upd_same, lenKV, rfl, (by show 9 ≤ 15; decide), ?_⟩
    rw [len_merge]
    have s0 : Same H (upd (upd H p (.dK [])) p (.dK lenKV)) := fun b o e => by
      rw [upd_ne (ne_of_none e np), upd_ne (ne_of_none e np)]
      exact e
    have hnl : noL d = true := (gd_ok 5 d hg).1
    refine ⟨_, rfl, v, _, _, _, _, rfl, .ty "tuple", tyx_of (dp_stay (same_tup s0) _ _ hd hnl) hnl, kit_ty (kit_one "tuple" (.inr (.inl rfl)) d hnl), _, rfl, ?_⟩
    cases d with
    | tuple es =>
      refine iteNS rfl ?_
      obtain ⟨b, xs, rfl, sb, da⟩ := dp_tup hd
      have hnn : noLs es = true := hnl
      refine ⟨_, rfl, Nat.zero_le _, fun e0 ne0 => ?_⟩
      have sc : Same H (upd (upd (upd H p (.dK [])) p (.dK lenKV)) e0 (.tup [])) := s0.trans (Same.up ne0)
      refine ⟨.tuple es, .tuple [], dp_stay (same_tup sc) _ _ hd hnl, .tup (SqT.of upd_same) .nil, gd_shaped hg (by decide), (by decide +kernel), _, rfl, ?_⟩
      have ee : PyData.eqv (.tuple es) (.tuple []) = es.isEmpty := by
        cases es <;> rfl
      rw [ee]
      have daC := dps_stay (same_tup sc) _ _ da hnn
      have sbC := same_tup sc _ _ sb
      have hwC := sc _ _ hw
      have hrC := same_tup sc _ _ hr0
      have hmC := same_tup sc _ _ hm0
      have drC := dps_stay (same_tup sc) _ _ dr (noLs_pr _)
      have dmC := dps_stay (same_tup sc) _ _ dm (noLs_pr _)
      have hpC : (upd (upd (upd H p (.dK [])) p (.dK lenKV)) e0 (.tup [])) p = some (.dK lenKV) := by
        rw [upd_ne (ne_of_none upd_same ne0)]
        exact upd_same
      generalize (upd (upd (upd H p (.dK [])) p (.dK lenKV)) e0 (.tup [])) = Hc at *
      cases es with
      | nil => exact iteT (z0 rfl sc)
      | cons d0 r =>
        refine iteF ?_
        cases daC with
        | @cons x0 xs _ _ hd0 daC =>
        have hn0 : noL d0 = true := (Bool.and_eq_true_iff.mp (show (noL d0 && noLs r) = true from hnn)).1
        have hnr : noLs r = true := (Bool.and_eq_true_iff.mp (show (noL d0 && noLs r) = true from hnn)).2
        have lda := dps_len daC
        refine ⟨_, rfl, _, _, _, _, rfl, rfl, sbC, atI_nat (j := 0) rfl, x0, _, _, _, _, rfl, .ty "str", tyx_of hd0 hn0, kit_ty (kit_one "str" (.inr (.inr rfl)) d0 hn0), _, rfl, ?_⟩
        cases d0 with
        | str k =>
          cases hd0
          refine iteNS rfl ?_
          have hkk : k ∈ strsL := of_decide_eq_true (gd_mem hg (List.mem_cons_self ..))
          refine ⟨_, rfl, p, rfl, .inl ⟨_, .inl hpC⟩, _, rfl, _, _, _, _, rfl, rfl, sbC, atI_nat (j := 0) rfl, valV lenKV (.inr k), DGet.k (k := .inr k) hpC, ?_⟩
          rw [len_get k hkk]
          refine ⟨_, rfl, _, _, rfl, .inr sbC, rfl, _, rfl, ?_⟩
          by_cases hl : lenOf k = some (r.length + 1)
          · refine iteNS (by rw [hl, List.length_cons, lda]; rfl) ?_
            have hrow : rowB regs mems ws (.tuple (.str k :: r)) = (if k = "lit" then litB r else if k = "reg" then regW regs r
                else if ((partsD k (.str k :: r)).all fun p => isI p 0 (ws.length : Nat)) = true then
                  (if k = "look" then lookB mems ws r else fitB k r ((partsD k (.str k :: r)).map fun p => ws.getD (natD p) 0)) else 0) := if_pos hl
            refine ⟨_, rfl, _, _, _, _, rfl, rfl, sbC, atI_nat (j := 0) rfl, ?_⟩
            refine ⟨_, rfl, wl, _, rfl, .inl (SqL.of hwC), ?_⟩
            rw [List.length_map]
            refine ⟨_, rfl, rfl, _, rfl, ?_⟩
            by_cases hlit : k = "lit"
            · subst hlit
              obtain ⟨v0, w0, rfl⟩ := len2 (l := r) (by have : some 3 = some (r.length + 1) := hl; have := Option.some.inj this; omega)
              rw [if_pos rfl] at hrow
              rw [sT]
              refine iteT ?_
              cases daC with
              | cons dv daC =>
              cases daC with
              | cons dw daC =>
              cases daC
              have nv : noL v0 = true := (Bool.and_eq_true_iff.mp (show (noL v0 && noLs [w0]) = true from hnr)).1
              have nw : noL w0 = true := (Bool.and_eq_true_iff.mp (show (noL w0 && true) = true from (Bool.and_eq_true_iff.mp (show (noL v0 && noLs [w0]) = true from hnr)).2)).1
              refine ⟨_, rfl, _, _, _, _, rfl, rfl, sbC, atI_nat (j := 2) rfl, _, w0, 1, 32, rfl, dw, nw, _, rfl, ite2 (fun b1 => ?_) (fun b1 => ?_)⟩
              · obtain ⟨i, rfl, i0, i1⟩ := isI_iff.mp b1
                cases dw
                obtain ⟨nn, rfl⟩ : ∃ n : Nat, i = ((n : Nat) : Int) := ⟨i.toNat, by omega⟩
                have el : litB [v0, .int ((nn : Nat) : Int)] = if isI v0 0 (1 * 2 ^ (((nn : Nat) : Int)).toNat - 1 + 1) = true then nn else 0 := by
                  show (if (isI (.int ((nn : Nat) : Int)) 1 33 && isI v0 0 (2 ^ ((nn : Nat) : Int).toNat)) = true then ((nn : Nat) : Int).toNat else 0) = _
                  rw [show isI (.int ((nn : Nat) : Int)) 1 33 = true from b1, Bool.true_and, Int.sub_add_cancel, Int.one_mul, Int.toNat_natCast]
                rw [el] at hrow
                refine ⟨_, rfl, _, _, _, _, rfl, rfl, sbC, atI_nat (j := 1) rfl, _, rfl, _, _, _, _, rfl, rfl, sbC, atI_nat (j := 2) rfl, _, _, rfl, rfl, ⟨by omega, by omega, by decide⟩, _, _, rfl, rfl, _, v0, 0, _, rfl, dv, nv, _, rfl, ite2 (fun b2 => ?_) (fun b2 => ?_)⟩
                · rw [if_pos b2] at hrow
                  have := q Hc sc
                  rw [hrow] at this
                  exact ⟨_, rfl, _, _, _, _, rfl, rfl, sbC, atI_nat (j := 2) rfl, this⟩
                · rw [if_neg b2] at hrow
                  exact z0 hrow sc
              · refine z0 (hrow.trans ?_) sc
                cases w0 with
                | int i =>
                  show (if (isI (.int i) 1 33 && _) = true then _ else 0) = 0
                  rw [show isI (.int i) 1 33 = false from Bool.eq_false_iff.mpr b1, Bool.false_and]
                  rfl
                | _ => rfl
            rw [if_neg hlit] at hrow
            rw [sF hlit]
            refine iteF ⟨_, rfl, rfl, _, rfl, ?_⟩
            by_cases hreg : k = "reg"
            · subst hreg
              obtain ⟨i0, rfl⟩ := len1 (l := r) (by have : some 2 = some (r.length + 1) := hl; have := Option.some.inj this; omega)
              rw [if_pos rfl] at hrow
              rw [sT]
              refine iteT ?_
              cases daC with
              | cons di daC =>
              cases daC
              have ni : noL i0 = true := (Bool.and_eq_true_iff.mp (show (noL i0 && true) = true from hnr)).1
              refine ⟨_, rfl, _, _, _, _, rfl, rfl, sbC, atI_nat (j := 1) rfl, _, rfl, _, _, rfl, .inr hrC, _, _, rfl, rfl, _, i0, 0, _, rfl, di, ni, _, rfl, ?_⟩
              rw [Int.sub_add_cancel]
              refine ite2 (fun b1 => ?_) (fun b1 => ?_)
              · obtain ⟨i, rfl, i1, i2⟩ := isI_iff.mp b1
                obtain ⟨nn, rfl⟩ : ∃ n : Nat, i = ((n : Nat) : Int) := ⟨i.toNat, by omega⟩
                obtain ⟨p2, ep⟩ : ∃ p, regs[nn]? = some p := ⟨_, List.getElem?_eq_getElem (by omega)⟩
                obtain ⟨b2, hb1, hb2⟩ := pr_at drC ep
                cases di
                have er : regW regs [.int ((nn : Nat) : Int)] = p2.1 := by
                  show (if (0 : Int) ≤ ((nn : Nat) : Int) then _ else 0) = _
                  rw [if_pos i1, Int.toNat_natCast, ep]
                  rfl
                have := q Hc sc
                rw [hrow, er] at this
                exact ⟨_, rfl, _, rfl, _, _, _, _, rfl, rfl, sbC, atI_nat (j := 1) rfl, _, _, _, _, rfl, rfl, hrC, atI_nat hb1, _, _, _, _, rfl, rfl, hb2, atI_nat (j := 0) rfl, this⟩
              · refine z0 (hrow.trans ?_) sc
                cases i0 with
                | int i =>
                  show (if (0 : Int) ≤ i then ((regs[i.toNat]?).map Prod.fst).getD 0 else 0) = 0
                  by_cases hi : 0 ≤ i
                  · rw [if_pos hi, List.getElem?_eq_none]
                    · rfl
                    · have : ¬ i < ((rvs.length : Nat) : Int) := fun z => b1 (isI_iff.mpr ⟨i, rfl, hi, z⟩)
                      omega
                  · rw [if_neg hi]
                | _ => rfl
            rw [if_neg hreg] at hrow
            rw [sF hreg]
            refine iteF ⟨_, rfl, rfl, _, rfl, ?_⟩
            have gdr : ∀ dd ∈ r, gd 4 dd = true := fun dd hdd => gd_mem hg (List.mem_cons_of_mem _ hdd)
            have l5 : r.length ≤ 1000 := Nat.le_of_succ_le (gd_len hg)
            by_cases hlk : k = "look"
            · subst hlk
              obtain ⟨m0, a0, rfl⟩ := len2 (l := r) (by have : some 3 = some (r.length + 1) := hl; have := Option.some.inj this; omega)
              have hrow2 : rowB regs mems ws (.tuple [.str "look", m0, a0]) = if ([a0].all fun p => isI p 0 (ws.length : Nat)) = true then lookB mems ws [m0, a0] else 0 := hrow
              rw [sT]
              refine iteT ?_
              cases daC with
              | @cons xm _ _ _ dm0 daC =>
              cases daC with
              | @cons xa _ _ _ da0 daC =>
              cases daC
              have nm : noL m0 = true := (gd_ok 4 m0 (gdr m0 (List.mem_cons_self ..))).1
              have na : noL a0 = true := (gd_ok 4 a0 (gdr a0 (List.mem_cons_of_mem _ (List.mem_cons_self ..)))).1
              refine ⟨_, rfl, _, _, _, _, rfl, rfl, sbC, atI_nat (j := 1) rfl, _, rfl, _, _, rfl, .inr hmC, _, _, rfl, rfl, _, m0, 0, _, rfl, dm0, nm, _, rfl, ?_⟩
              rw [Int.sub_add_cancel]
              cases hi : isI m0 0 (mvs.length : Nat) with
              | false =>
                refine iteF ⟨_, rfl, _, rfl, iteF (z0 (hrow2.trans ?_) sc)⟩
                split
                · cases m0 with
                  | int i =>
                    cases a0 with
                    | int j =>
                      show (if (0 : Int) ≤ i ∧ (0 : Int) ≤ j then _ else 0) = 0
                      by_cases h0 : (0 : Int) ≤ i
                      · rw [List.getElem?_eq_none (l := mems)]
                        · split <;> rfl
                        · have : ¬ i < ((mvs.length : Nat) : Int) := fun z => by
                            rw [isI_iff.mpr ⟨i, rfl, h0, z⟩] at hi
                            cases hi
                          omega
                      · rw [if_neg (fun z => h0 z.1)]
                    | _ => rfl
                  | _ => rfl
                · rfl
              | true =>
                refine iteT ?_
                obtain ⟨i, rfl, i1, i2⟩ := isI_iff.mp hi
                obtain ⟨mm, rfl⟩ : ∃ n : Nat, i = ((n : Nat) : Int) := ⟨i.toNat, by omega⟩
                obtain ⟨pm, epm⟩ : ∃ p, mems[mm]? = some p := ⟨_, List.getElem?_eq_getElem (by omega)⟩
                obtain ⟨b2, hb1, hb2⟩ := pr_at dmC epm
                cases dm0
                refine ⟨_, rfl, _, rfl, b, _, rfl, sbC, show ¬ (HT.sIx 3 0 (some 2) = 0 ∧ HT.sIx 3 3 none = 3) by decide, fun p2 np2 => ?_⟩
                rw [show cutV [V.str "look", iV mm, xa] (some 2) none = [xa] from rfl]
                refine ⟨_, rfl, p2, [xa], [a0], _, 4, rfl, SqT.of upd_same, .cons (dp_stay (same_tup (Same.up np2)) _ _ da0 na) .nil, fun dd hdd => gdr dd (List.mem_cons_of_mem _ hdd), by decide, (by show 1 ≤ 3000; decide), fun H2 s2 => ?_⟩
                have sC2 : Same Hc H2 := (Same.up np2).trans s2
                have sH2 := sc.trans sC2
                refine ⟨_, rfl, _, rfl, ?_⟩
                cases ha : ([a0].all fun d => isI d 0 (ws.length : Nat)) with
                | false =>
                  rw [ha] at hrow2
                  exact iteF (z0 hrow2 sH2)
                | true =>
                  rw [ha] at hrow2
                  refine iteT ?_
                  have hai : isI a0 0 (ws.length : Nat) = true := by
                    rw [List.all_cons, List.all_nil, Bool.and_true] at ha
                    exact ha
                  obtain ⟨ia, rfl, a1, a2⟩ := isI_iff.mp hai
                  obtain ⟨aa, rfl⟩ : ∃ n : Nat, ia = ((n : Nat) : Int) := ⟨ia.toNat, by omega⟩
                  obtain ⟨x, ex⟩ : ∃ x, ws[aa]? = some x := ⟨_, List.getElem?_eq_getElem (by omega)⟩
                  cases da0
                  have elook : lookB mems ws [iD mm, iD aa] = if x = pm.1 then pm.2 else 0 := by
                    show (if (0 : Int) ≤ ((mm : Nat) : Int) ∧ (0 : Int) ≤ ((aa : Nat) : Int) then _ else 0) = _
                    rw [Int.toNat_natCast, Int.toNat_natCast, epm, ex]
                    exact if_pos ⟨by omega, by omega⟩
                  have hrow3 := hrow2.trans ((if_pos rfl).trans elook)
                  have sb2 := same_tup sC2 _ _ sbC
                  have hm2 := same_tup sC2 _ _ hmC
                  have hb22 := same_tup sC2 _ _ hb2
                  refine ⟨_, rfl, _, rfl, _, _, _, _, rfl, rfl, sb2, atI_nat (j := 2) rfl, wl, _, _, _, rfl, rfl, SqL.of (sC2 _ _ hwC), atI_nat (int_at ex), _, rfl, _, rfl, _, _, _, _, rfl, rfl, sb2, atI_nat (j := 1) rfl, _, _, _, _, rfl, rfl, hm2, atI_nat hb1, _, _, _, _, rfl, rfl, hb22, atI_nat (j := 0) rfl, rfl, _, rfl, ite2 (fun c1 => ?_) (fun c1 => ?_)⟩
                  · have e1 : x = pm.1 := Int.ofNat.inj (V.int.inj (of_decide_eq_true c1))
                    rw [if_pos e1] at hrow3
                    have := q H2 sH2
                    rw [hrow3] at this
                    exact ⟨_, rfl, _, rfl, _, _, _, _, rfl, rfl, sb2, atI_nat (j := 1) rfl, _, _, _, _, rfl, rfl, hm2, atI_nat hb1, _, _, _, _, rfl, rfl, hb22, atI_nat (j := 1) rfl, this⟩
                  · rw [if_neg (fun e => c1 (decide_eq_true (by rw [e])))] at hrow3
                    exact z0 hrow3 sH2
            rw [sF hlk]
            refine iteF ⟨_, rfl, rfl, _, rfl, ?_⟩
            have hrow1 : rowB regs mems ws (.tuple (.str k :: r)) = if ((partsD k (.str k :: r)).all fun p => isI p 0 (ws.length : Nat)) = true then fitB k r ((partsD k (.str k :: r)).map fun p => ws.getD (natD p) 0) else 0 := by
              rw [if_neg hlk] at hrow
              exact hrow
            by_cases hwd : k = "wide"
            · subst hwd
              obtain ⟨a0, w0, rfl⟩ := len2 (l := r) (by have : some 3 = some (r.length + 1) := hl; have := Option.some.inj this; omega)
              have hrow2 : rowB regs mems ws (.tuple [.str "wide", a0, w0]) = if ([a0].all fun p => isI p 0 (ws.length : Nat)) = true then (match [a0, w0] with | [_, .int w] => if 1 ≤ w ∧ w ≤ 32 then w.toNat else 0 | _ => 0) else 0 := hrow1
              rw [sT]
              refine iteT ?_
              cases daC with
              | @cons xa _ _ _ da0 daC =>
              cases daC with
              | @cons xw _ _ _ dw daC =>
              cases daC
              have na : noL a0 = true := (gd_ok 4 a0 (gdr a0 (List.mem_cons_self ..))).1
              have nw : noL w0 = true := (gd_ok 4 w0 (gdr w0 (List.mem_cons_of_mem _ (List.mem_cons_self ..)))).1
              refine ⟨_, rfl, _, rfl, _, rfl, b, _, rfl, sbC, show ¬ (HT.sIx 3 0 (some 1) = 0 ∧ HT.sIx 3 3 (some 2) = 3) by decide, fun p2 np2 => ?_⟩
              rw [show cutV [V.str "wide", xa, xw] (some 1) (some 2) = [xa] from rfl]
              refine ⟨_, rfl, p2, [xa], [a0], _, 4, rfl, SqT.of upd_same, .cons (dp_stay (same_tup (Same.up np2)) _ _ da0 na) .nil, (fun dd hdd => gdr dd (by rw [List.mem_singleton.mp hdd]; exact List.mem_cons_self ..)), by decide, (by show 1 ≤ 3000; decide), fun H2 s2 => ?_⟩
              have sC2 : Same Hc H2 := (Same.up np2).trans s2
              have sH2 := sc.trans sC2
              have sb2 := same_tup sC2 _ _ sbC
              refine ⟨_, rfl, ?_⟩
              cases ha : ([a0].all fun d => isI d 0 (ws.length : Nat)) with
              | false =>
                rw [ha] at hrow2
                exact iteF (z0 hrow2 sH2)
              | true =>
                rw [ha] at hrow2
                refine iteT ?_
                refine ⟨_, rfl, _, _, _, _, rfl, rfl, sb2, atI_nat (j := 2) rfl, _, w0, 1, 32, rfl, dp_stay (same_tup sC2) _ _ dw nw, nw, _, rfl, ite2 (fun c1 => ?_) (fun c1 => ?_)⟩
                · obtain ⟨iw, rfl, w1, w2⟩ := isI_iff.mp c1
                  cases dw
                  have hrow3 : rowB regs mems ws (.tuple [.str "wide", a0, .int iw]) = iw.toNat := hrow2.trans ((if_pos rfl).trans (if_pos ⟨w1, by omega⟩))
                  have := q H2 sH2
                  rw [hrow3, show iV iw.toNat = V.int iw from congrArg V.int (by omega)] at this
                  exact ⟨_, rfl, _, _, _, _, rfl, rfl, sb2, atI_nat (j := 2) rfl, this⟩
                · refine z0 (hrow2.trans ((if_pos rfl).trans ?_)) sH2
                  cases w0 with
                  | int i => exact if_neg (fun z => c1 (isI_iff.mpr ⟨i, rfl, z.1, by omega⟩))
                  | _ => rfl
            rw [sF hwd]
            refine iteF ⟨_, rfl, rfl, _, rfl, ?_⟩
            by_cases hpt : k = "part"
            · subst hpt
              rw [sT]
              refine iteT ?_
              obtain ⟨a0, lo, hi, rfl⟩ := len3 (l := r) (by have : some 4 = some (r.length + 1) := hl; have := Option.some.inj this; omega)
              have hrow2 : rowB regs mems ws (.tuple [.str "part", a0, lo, hi]) = if ([a0].all fun p => isI p 0 (ws.length : Nat)) = true then (match [a0, lo, hi], [ws.getD (natD a0) 0] with | [_, .int lo, .int hi], [x] => if 0 ≤ lo ∧ lo ≤ hi ∧ hi < x then (hi - lo + 1).toNat else 0 | _, _ => 0) else 0 := hrow1
              cases daC with
              | @cons xa _ _ _ da0 daC =>
              cases daC with
              | @cons xl _ _ _ dl daC =>
              cases daC with
              | @cons xh _ _ _ dh daC =>
              cases daC
              have na : noL a0 = true := (gd_ok 4 a0 (gdr a0 (List.mem_cons_self ..))).1
              have nl : noL lo = true := (gd_ok 4 lo (gdr lo (List.mem_cons_of_mem _ (List.mem_cons_self ..)))).1
              have nh : noL hi = true := (gd_ok 4 hi (gdr hi (List.mem_cons_of_mem _ (List.mem_cons_of_mem _ (List.mem_cons_self ..))))).1
              refine ⟨_, rfl, _, rfl, _, rfl, b, _, rfl, sbC, show ¬ (HT.sIx 4 0 (some 1) = 0 ∧ HT.sIx 4 4 (some 2) = 4) by decide, fun p2 np2 => ?_⟩
              rw [show cutV [V.str "part", xa, xl, xh] (some 1) (some 2) = [xa] from rfl]
              refine ⟨_, rfl, p2, [xa], [a0], _, 4, rfl, SqT.of upd_same, .cons (dp_stay (same_tup (Same.up np2)) _ _ da0 na) .nil, (fun dd hdd => gdr dd (by rw [List.mem_singleton.mp hdd]; exact List.mem_cons_self ..)), by decide, (by show 1 ≤ 3000; decide), fun H2 s2 => ?_⟩
              have sC2 : Same Hc H2 := (Same.up np2).trans s2
              have sH2 := sc.trans sC2
              have sb2 := same_tup sC2 _ _ sbC
              refine ⟨_, rfl, ?_⟩
              cases ha : ([a0].all fun d => isI d 0 (ws.length : Nat)) with
              | false =>
                rw [ha] at hrow2
                exact iteF ⟨_, rfl, _, rfl, iteF (z0 hrow2 sH2)⟩
              | true =>
                rw [ha] at hrow2
                refine iteT ?_
                have hai : isI a0 0 (ws.length : Nat) = true := by
                  rw [List.all_cons, List.all_nil, Bool.and_true] at ha
                  exact ha
                obtain ⟨ia, rfl, a1, a2⟩ := isI_iff.mp hai
                obtain ⟨aa, rfl⟩ : ∃ n : Nat, ia = ((n : Nat) : Int) := ⟨ia.toNat, by omega⟩
                obtain ⟨x, ex⟩ : ∃ x, ws[aa]? = some x := ⟨_, List.getElem?_eq_getElem (by omega)⟩
                have hx32 := hws x (List.mem_of_getElem? ex)
                cases da0
                have hrow3 := hrow2.trans (if_pos rfl)
                rw [show ws.getD (natD (.int ((aa : Nat) : Int))) 0 = x from getD_ws ex] at hrow3
                refine ⟨_, rfl, _, _, _, _, rfl, rfl, sb2, atI_nat (j := 2) rfl, _, lo, 0, 31, rfl, dp_stay (same_tup sC2) _ _ dl nl, nl, _, rfl, ?_⟩
                cases hbl : isI lo 0 (31 + 1) with
                | false =>
                  refine iteF ⟨_, rfl, _, rfl, iteF (z0 (hrow3.trans ?_) sH2)⟩
                  cases lo with
                  | int l =>
                    cases hi with
                    | int h =>
                      refine if_neg (fun z => ?_)
                      rw [show isI (.int l) 0 (31 + 1) = true from isI_iff.mpr ⟨l, rfl, z.1, by omega⟩] at hbl
                      cases hbl
                    | _ => rfl
                  | _ => rfl
                | true =>
                  refine iteT ?_
                  refine ⟨_, rfl, _, _, _, _, rfl, rfl, sb2, atI_nat (j := 3) rfl, _, hi, 0, 31, rfl, dp_stay (same_tup sC2) _ _ dh nh, nh, ?_⟩
                  obtain ⟨l, rfl, l0, l1⟩ := isI_iff.mp hbl
                  cases dl
                  refine ⟨_, rfl, _, rfl, ?_⟩
                  cases hbh : isI hi 0 (31 + 1) with
                  | false =>
                    refine iteF (z0 (hrow3.trans ?_) sH2)
                    cases hi with
                    | int h =>
                      refine if_neg (fun z => ?_)
                      rw [show isI (.int h) 0 (31 + 1) = true from isI_iff.mpr ⟨h, rfl, by omega, by omega⟩] at hbh
                      cases hbh
                    | _ => rfl
                  | true =>
                    refine iteT ?_
                    obtain ⟨h, rfl, h0, h1⟩ := isI_iff.mp hbh
                    cases dh
                    refine ⟨_, rfl, _, _, _, _, rfl, rfl, sb2, atI_nat (j := 2) rfl, _, rfl, _, _, _, _, rfl, rfl, sb2, atI_nat (j := 3) rfl, _, _, rfl, rfl, _, rfl, ite2 (fun c1 => ?_) (fun c1 => ?_)⟩
                    · have e1 := of_decide_eq_true c1
                      refine ⟨_, rfl, _, rfl, _, _, _, _, rfl, rfl, sb2, atI_nat (j := 1) rfl, wl, _, _, _, rfl, rfl, SqL.of (sC2 _ _ hwC), atI_nat (int_at ex), _, _, rfl, rfl, _, rfl, ite2 (fun c2 => ?_) (fun c2 => ?_)⟩
                      · have e2 := of_decide_eq_true c2
                        have := q H2 sH2
                        rw [hrow3.trans (if_pos ⟨l0, e1, e2⟩), show iV (h - l + 1).toNat = V.int (h - l + 1) from congrArg V.int (by omega)] at this
                        exact ⟨_, rfl, _, _, _, _, rfl, rfl, sb2, atI_nat (j := 3) rfl, _, rfl, _, _, _, _, rfl, rfl, sb2, atI_nat (j := 2) rfl, _, _, rfl, rfl, _, _, rfl, rfl, this⟩
                      · exact z0 (hrow3.trans (if_neg fun z => c2 (decide_eq_true z.2.2))) sH2
                    · exact ⟨_, rfl, z0 (hrow3.trans (if_neg fun z => c1 (decide_eq_true z.2.1))) sH2⟩
            rw [sF hpt]
            refine iteF ?_
            have hkp : k ∈ kindsP := ((kinds_of hl).resolve_left hlit).resolve_left hreg
            have hk4 : k = "not" ∨ k = "op" ∨ k = "pick" ∨ k = "join" := by
              have : k = "look" ∨ k = "not" ∨ k = "op" ∨ k = "pick" ∨ k = "wide" ∨ k = "part" ∨ k = "join" := by
                unfold kindsP at hkp
                simpa using hkp
              rcases this with h | h | h | h | h | h | h
              · exact absurd h hlk
              · exact .inl h
              · exact .inr (.inl h)
              · exact .inr (.inr (.inl h))
              · exact absurd h hwd
              · exact absurd h hpt
              · exact .inr (.inr (.inr h))
            refine ⟨fun σ H' => σ = [some (.ref b), some (.ref wl), some (.ref rA), some (.ref m), some (.ref p), some (.str k), some (iV ws.length), none, none, none, none] ∧ Same Hc H' ∧ (k = "op" → ∃ s a b2, r = [.str s, a, b2] ∧ s ∈ opsL), ?_, ?_⟩
            · refine ⟨_, rfl, rfl, _, rfl, ?_⟩
              by_cases hop : k = "op"
              · subst hop
                rw [sT]
                refine iteT ?_
                obtain ⟨s, a0, b0, rfl⟩ := len3 (l := r) (by have : some 4 = some (r.length + 1) := hl; have := Option.some.inj this; omega)
                cases daC with
                | @cons xs0 _ _ _ ds daC =>
                have gs := gdr s (List.mem_cons_self ..)
                have ns : noL s = true := (gd_ok 4 s gs).1
                have hrow2 : rowB regs mems ws (.tuple [.str "op", s, a0, b0]) = if ([a0, b0].all fun p => isI p 0 (ws.length : Nat)) = true then opD s (ws.getD (natD a0) 0) (ws.getD (natD b0) 0) else 0 := hrow1
                refine ⟨_, rfl, _, _, _, _, rfl, rfl, sbC, atI_nat (j := 1) rfl, xs0, _, _, _, _, rfl, .ty "str", tyx_of ds ns, kit_ty (kit_one "str" (.inr (.inr rfl)) s ns), _, rfl, ?_⟩
                cases s with
                | str sg =>
                  cases ds
                  refine iteNS rfl ?_
                  have hsg : sg ∈ strsL := of_decide_eq_true gs
                  refine ⟨_, rfl, _, _, _, _, rfl, rfl, sbC, atI_nat (j := 1) rfl, (by show 10 ≤ sizeLine; rw [sizeLine_eq]; decide), fun t nt => ⟨t, opsL.map V.str, rfl, .inr (SqT.of upd_same), rfl, (by decide +kernel), _, rfl, ?_⟩⟩
                  rw [ops_in sg hsg]
                  by_cases ho : sg ∈ opsL
                  · rw [decide_eq_true ho]
                    exact iteF ⟨rfl, Same.up nt, fun _ => ⟨sg, a0, b0, rfl, ho⟩⟩
                  · rw [decide_eq_false ho]
                    refine iteT (z0 (hrow2.trans ?_) (sc.trans (Same.up nt)))
                    obtain ⟨o1, o2, o3⟩ := ops_of ho
                    have : ∀ x y, opW sg x y = 0 := fun x y => by
                      unfold opW
                      rw [if_neg o1, if_neg o2, if_neg o3]
                      split <;> rfl
                    show (if _ then opW sg _ _ else 0) = 0
                    rw [this]
                    split <;> rfl
                | _ =>
                  refine iteN (fun e => by simp [tyD] at e) (z0 (hrow2.trans ?_) sc)
                  split <;> rfl
              · rw [sF hop]
                exact iteF ⟨rfl, Same.refl Hc, fun e => absurd e hop⟩
            rintro σ H1 ⟨rfl, t1, hopr⟩
            have sb1 := same_tup t1 _ _ sbC
            have da1 := dps_stay (same_tup t1) _ _ daC hnr
            refine ⟨fun σ H' => ∃ (pp : Addr) (ys : List V), σ = [some (.ref b), some (.ref wl), some (.ref rA), some (.ref m), some (.ref p), some (.str k), some (iV ws.length), none, some (.ref pp), none, none] ∧ Same Hc H' ∧ SqT K H' pp ys ∧ DpAll K H' ys (partsD k (.str k :: r)), ?_, ?_⟩
            · refine ⟨_, rfl, rfl, _, rfl, ?_⟩
              by_cases hop : k = "op"
              · obtain ⟨s, a0, b0, er, _⟩ := hopr hop
                subst hop er
                rw [sT]
                refine iteT ?_
                cases da1 with
                | @cons xs0 _ _ _ c0 da1 =>
                cases da1 with
                | @cons xa _ _ _ c1 da1 =>
                cases da1 with
                | @cons xb _ _ _ c2 da1 =>
                cases da1
                refine ⟨_, rfl, _, rfl, b, _, rfl, sb1, show ¬ (HT.sIx 4 0 (some 2) = 0 ∧ HT.sIx 4 4 none = 4) by decide, fun p2 np2 => ?_⟩
                rw [show cutV [V.str "op", xs0, xa, xb] (some 2) none = [xa, xb] from rfl]
                have na := (gd_ok 4 a0 (gdr a0 (by simp))).1
                have nb := (gd_ok 4 b0 (gdr b0 (by simp))).1
                exact ⟨p2, [xa, xb], rfl, t1.trans (Same.up np2), SqT.of upd_same, .cons (dp_stay (same_tup (Same.up np2)) _ _ c1 na) (.cons (dp_stay (same_tup (Same.up np2)) _ _ c2 nb) .nil)⟩
              · rw [sF hop]
                refine iteF ?_
                have hcut : ¬ (HT.sIx (V.str k :: xs).length 0 (some 1) = 0 ∧ HT.sIx (V.str k :: xs).length (V.str k :: xs).length none = (V.str k :: xs).length) ∧ cutV (V.str k :: xs) (some 1) none = xs ∧ partsD k (.str k :: r) = r := by
                  rcases hk4 with h | h | h | h
                  · subst h
                    have hl1 : r.length = 1 := by have : some 2 = some (r.length + 1) := hl; have := Option.some.inj this; omega
                    obtain ⟨d1, e1⟩ := len1 hl1
                    obtain ⟨x1, e2⟩ := len1 (lda.trans hl1)
                    rw [e1, e2]
                    exact ⟨show ¬ (HT.sIx 2 0 (some 1) = 0 ∧ HT.sIx 2 2 none = 2) by decide, rfl, rfl⟩
                  · exact absurd h hop
                  · subst h
                    have hl1 : r.length = 3 := by have : some 4 = some (r.length + 1) := hl; have := Option.some.inj this; omega
                    obtain ⟨d1, d2, d3, e1⟩ := len3 hl1
                    obtain ⟨x1, x2, x3, e2⟩ := len3 (lda.trans hl1)
                    rw [e1, e2]
                    exact ⟨show ¬ (HT.sIx 4 0 (some 1) = 0 ∧ HT.sIx 4 4 none = 4) by decide, rfl, rfl⟩
                  · subst h
                    have hl1 : r.length = 2 := by have : some 3 = some (r.length + 1) := hl; have := Option.some.inj this; omega
                    obtain ⟨d1, d2, e1⟩ := len2 hl1
                    obtain ⟨x1, x2, e2⟩ := len2 (lda.trans hl1)
                    rw [e1, e2]
                    exact ⟨show ¬ (HT.sIx 3 0 (some 1) = 0 ∧ HT.sIx 3 3 none = 3) by decide, rfl, rfl⟩
                refine ⟨_, rfl, _, rfl, b, _, rfl, sb1, hcut.1, fun p2 np2 => ?_⟩
                rw [hcut.2.1]
                refine ⟨p2, xs, rfl, t1.trans (Same.up np2), SqT.of upd_same, ?_⟩
                rw [hcut.2.2]
                exact dps_stay (same_tup (Same.up np2)) _ _ da1 hnr
            rintro σ H2 ⟨pp, ys, rfl, t2, hpp, dpp⟩
            have gdp : ∀ dd ∈ partsD k (.str k :: r), gd 4 dd = true := by
              intro dd hdd
              obtain ⟨i, _, e⟩ := List.mem_map.mp hdd
              subst e
              rw [List.getD_eq_getElem?_getD]
              cases e : (PyData.str k :: r)[i]? with
              | none => rfl
              | some d2 => exact gd_mem hg (List.mem_of_getElem? e)
            have plen : (partsD k (.str k :: r)).length ≤ 3 := by
              unfold partsD
              rw [List.length_map]
              exact partIx_len k
            refine ⟨fun σ H' => σ = [some (.ref b), some (.ref wl), some (.ref rA), some (.ref m), some (.ref p), some (.str k), some (iV ws.length), none, some (.ref pp), none, none] ∧ Same H2 H' ∧ ((partsD k (.str k :: r)).all fun p => isI p 0 (ws.length : Nat)) = true, ?_, ?_⟩
            · refine ⟨_, rfl, _, rfl, pp, ys, partsD k (.str k :: r), _, 4, rfl, hpp, dpp, gdp, by decide, by omega, fun H3 s3 => ⟨_, rfl, ?_⟩⟩
              cases ha : ((partsD k (.str k :: r)).all fun p => isI p 0 (ws.length : Nat)) with
              | false =>
                rw [ha] at hrow1
                exact iteT (z0 hrow1 ((sc.trans t2).trans s3))
              | true => exact iteF ⟨rfl, s3, rfl⟩
            rintro σ H3 ⟨rfl, t3, hall⟩
            rw [if_pos hall] at hrow1
            obtain ⟨ns, ks, en1, en2, en3, en4⟩ := all_nat ws _ hall
            rw [en4] at hrow1
            have t03 : Same Hc H3 := t2.trans t3
            have hw3 := t03 _ _ hwC
            have hpp3 := same_tup t3 _ _ hpp
            have nlp : noLs (partsD k (.str k :: r)) = true := noLs_of gdp
            have dpp3 := dps_stay (same_tup t3) _ _ dpp nlp
            refine ⟨fun σ H' => ∃ O : Addr, σ = [some (.ref b), some (.ref wl), some (.ref rA), some (.ref m), some (.ref p), some (.str k), some (iV ws.length), none, some (.ref pp), some (.ref O), none] ∧ Same H3 H' ∧ H' O = some (.lst (ks.map iV)), ?_, ?_⟩
            · refine ⟨_, rfl, pp, rfl, ⟨_, hpp3⟩, fun D nD => ?_⟩
              have s6 : ∀ {o : HO}, Same H3 (upd H3 D o) := fun {o} => Same.up nD
              refine lc_tup (xs := ys) (fun j H' => H' = upd H3 D (.lst ((ks.take j).map iV))) rfl (fun j H' _ h => ?_) (fun j x H' hx h => ?_) (fun H' h => ?_)
              · subst h
                exact same_tup s6 _ _ hpp3
              · subst h
                obtain ⟨dj, hdj, dx⟩ := dps_get dpp3 hx
                rw [en1, List.getElem?_map] at hdj
                obtain ⟨n, en⟩ : ∃ n, ns[j]? = some n := by
                  cases e : ns[j]? with
                  | none =>
                    rw [e] at hdj
                    cases hdj
                  | some n => exact ⟨n, rfl⟩
                rw [en] at hdj
                cases hdj
                cases dx
                have hj : j < ns.length := (List.getElem?_eq_some_iff.mp en).1
                have lns : ns.length ≤ 3 := by
                  rw [en1, List.length_map] at plen
                  exact plen
                obtain ⟨kv, ekv⟩ : ∃ kv, ks[j]? = some kv := ⟨_, List.getElem?_eq_getElem (by omega)⟩
                have e2 := (en3 j n en).trans ekv
                refine ⟨rfl, _, rfl, _, rfl, wl, _, _, _, rfl, rfl, SqL.of (s6 _ _ hw3), atI_nat (int_at e2), (ks.take j).map iV, upd_same, by rw [List.length_map]; exact Nat.lt_of_le_of_lt (List.length_take_le _ _) (by rw [sizeLine_eq]; omega), ?_⟩
                rw [upd_upd, List.take_add_one, ekv, List.map_append]
                rfl
              · subst h
                have ly : ys.length = ks.length := by
                  have := dps_len dpp3
                  rw [this, en1, List.length_map, en2]
                rw [ly, List.take_length]
                exact ⟨D, rfl, s6, upd_same⟩
            rintro σ H4 ⟨O, rfl, t4, hO⟩
            have t04 : Same Hc H4 := t03.trans t4
            have sf := sc.trans t04
            have sb4 := same_tup t04 _ _ sbC
            have lks : ks.length = (partIx k).length := by
              have := congrArg List.length en1
              rw [List.length_map] at this
              rw [en2, ← this]
              unfold partsD
              rw [List.length_map]
            refine ⟨_, rfl, rfl, _, rfl, ?_⟩
            have line2 : 2 ≤ sizeLine := by
              rw [sizeLine_eq]
              decide
            have fin : ∀ {z : Nat} {H'}, fitB k r ks = z → Same H4 H' → Q (iV z) H' := fun {z H'} e s => by
              have := q H' (sf.trans s)
              rw [hrow1, e] at this
              exact this
            rcases hk4 with hk | hk | hk | hk
            · subst hk
              obtain ⟨x, rfl⟩ := len1 (l := ks) lks
              rw [sT]
              exact iteT ⟨_, rfl, O, _, _, _, rfl, rfl, SqL.of hO, atI_nat (j := 0) rfl, fin rfl (Same.refl H4)⟩
            · obtain ⟨sg, a0, b0, er, ho⟩ := hopr hk
              subst hk er
              obtain ⟨x, y, rfl⟩ := len2 (l := ks) lks
              rw [sF (by decide +kernel)]
              refine iteF ⟨_, rfl, rfl, _, rfl, ?_⟩
              rw [sF (by decide +kernel)]
              refine iteF ⟨_, rfl, rfl, _, rfl, ?_⟩
              rw [sF (by decide +kernel)]
              refine iteF ?_
              cases daC with
              | cons c0 daC =>
              cases c0
              refine ⟨_, rfl, _, _, _, _, rfl, rfl, sb4, atI_nat (j := 1) rfl, line2, fun t nt => ⟨t, shiftL.map V.str, rfl, .inr (SqT.of upd_same), rfl, (by decide +kernel), _, rfl, ?_⟩⟩
              have hsg := ops_strs sg ho
              have hOt : (upd H4 t (.tup [.str "<<", .str ">>"])) O = some (.lst ([x, y].map iV)) := by
                rw [upd_ne (ne_of_none hO nt)]
                exact hO
              rw [show (if false = true then !inV (V.str sg) (shiftL.map V.str) else inV (V.str sg) (shiftL.map V.str)) = decide (sg ∈ shiftL) from shift_in sg hsg]
              by_cases h1 : sg ∈ shiftL
              · rw [decide_eq_true h1]
                refine iteT ⟨_, rfl, O, _, _, _, rfl, rfl, SqL.of hOt, atI_nat (j := 0) rfl, fin ?_ (Same.up nt)⟩
                exact if_pos h1
              · rw [decide_eq_false h1]
                refine iteF ?_
                refine ⟨_, rfl, O, _, _, _, rfl, rfl, SqL.of hOt, atI_nat (j := 0) rfl, _, rfl, O, _, _, _, rfl, rfl, SqL.of hOt, atI_nat (j := 1) rfl, rfl, _, rfl, ?_⟩
                by_cases hxy : x = y
                · subst hxy
                  refine iteNS rfl ?_
                  have sb5 := same_tup (Same.up (o := .tup [.str "<<", .str ">>"]) nt) _ _ sb4
                  refine ⟨_, rfl, _, _, _, _, rfl, rfl, sb5, atI_nat (j := 1) rfl, line2, fun t2 nt2 => ⟨t2, testL.map V.str, rfl, .inr (SqT.of upd_same), rfl, (by decide +kernel), _, rfl, ?_⟩⟩
                  rw [show (if false = true then !inV (V.str sg) (testL.map V.str) else inV (V.str sg) (testL.map V.str)) = decide (sg ∈ testL) from test_in sg hsg]
                  have sm := (Same.up (o := .tup [.str "<<", .str ">>"]) nt).trans (Same.up (o := .tup [.str "==", .str "<"]) nt2)
                  by_cases h2 : sg ∈ testL
                  · rw [decide_eq_true h2]
                    refine iteT (fin (z := 1) ?_ sm)
                    show opW sg x x = 1
                    unfold opW
                    rw [if_neg h1, if_pos rfl, if_pos h2]
                  · rw [decide_eq_false h2]
                    refine iteF ⟨_, rfl, O, _, _, _, rfl, rfl, SqL.of (sm _ _ hO), atI_nat (j := 0) rfl, fin ?_ sm⟩
                    show opW sg x x = x
                    unfold opW
                    rw [if_neg h1, if_pos rfl, if_neg h2, if_pos (ops_arith sg ho h1 h2)]
                · refine iteN (fun z => hxy (Int.ofNat.inj (V.int.inj z))) (fin (z := 0) ?_ (Same.up nt))
                  show opW sg x y = 0
                  unfold opW
                  rw [if_neg h1, if_neg hxy]
            · subst hk
              obtain ⟨x, y, z, rfl⟩ := len3 (l := ks) lks
              rw [sF (by decide +kernel)]
              refine iteF ⟨_, rfl, rfl, _, rfl, ?_⟩
              rw [sF (by decide +kernel)]
              refine iteF ⟨_, rfl, rfl, _, rfl, ?_⟩
              rw [sT]
              refine iteT ?_
              have s0' := Same.refl H4
              have ef : fitB "pick" r [x, y, z] = if x = 1 ∧ y = z then y else 0 := rfl
              refine ⟨_, rfl, O, _, _, _, rfl, rfl, SqL.of hO, atI_nat (j := 0) rfl, rfl, _, rfl, ite2 (fun a1 => ?_) (fun a1 => ?_)⟩
              · have e1 : x = 1 := by
                  have := V.int.inj (of_decide_eq_true a1)
                  omega
                refine ⟨_, rfl, O, _, _, _, rfl, rfl, SqL.of hO, atI_nat (j := 1) rfl, _, rfl, O, _, _, _, rfl, rfl, SqL.of hO, atI_nat (j := 2) rfl, rfl, _, rfl, ite2 (fun a2 => ?_) (fun a2 => ?_)⟩
                · have e2 : y = z := Int.ofNat.inj (V.int.inj (of_decide_eq_true a2))
                  exact ⟨_, rfl, O, _, _, _, rfl, rfl, SqL.of hO, atI_nat (j := 1) rfl, fin (ef.trans (if_pos ⟨e1, e2⟩)) s0'⟩
                · exact fin (z := 0) (ef.trans (if_neg fun h => a2 (decide_eq_true (by rw [h.2])))) s0'
              · exact fin (z := 0) (ef.trans (if_neg fun h => a1 (decide_eq_true (by rw [h.1]; rfl)))) s0'
            · subst hk
              obtain ⟨x, y, rfl⟩ := len2 (l := ks) lks
              rw [sF (by decide +kernel)]
              refine iteF ⟨_, rfl, rfl, _, rfl, ?_⟩
              rw [sT]
              refine iteT ?_
              have s0' := Same.refl H4
              have ef : fitB "join" r [x, y] = if x + y ≤ 32 then x + y else 0 := rfl
              have hsq : SqL K H4 O (([((x : Nat) : Int), ((y : Nat) : Int)]).map V.int) := SqL.of hO
              refine ⟨_, rfl, O, [((x : Nat) : Int), ((y : Nat) : Int)], rfl, hsq, _, _, rfl, rfl, _, rfl, ite2 (fun a1 => ?_) (fun a1 => ?_)⟩
              · have h1 : ([((x : Nat) : Int), ((y : Nat) : Int)]).sum ≤ 32 := of_decide_eq_true a1
                have es : ([((x : Nat) : Int), ((y : Nat) : Int)]).sum = ((x + y : Nat) : Int) := by
                  simp
                have hle : x + y ≤ 32 := by omega
                refine ⟨_, rfl, O, [((x : Nat) : Int), ((y : Nat) : Int)], rfl, hsq, ?_⟩
                rw [es]
                exact fin (ef.trans (if_pos hle)) s0'
              · have es : ([((x : Nat) : Int), ((y : Nat) : Int)]).sum = ((x + y : Nat) : Int) := by
                  simp
                refine fin (z := 0) (ef.trans (if_neg fun h => a1 (decide_eq_true ?_))) s0'
                rw [es]
                omega
          · refine iteN (fun z => ?_) (z0 ?_ sc)
            · have h1 := V.int.inj z
              rw [List.length_cons] at h1
              cases e : lenOf k with
              | none =>
                rw [e] at h1
                have h2 : (0 : Int) = ((xs.length + 1 : Nat) : Int) := h1
                omega
              | some mm =>
                rw [e] at h1
                have h2 : ((mm : Nat) : Int) = ((xs.length + 1 : Nat) : Int) := h1
                exact hl (by rw [e, ← lda]; congr 1; omega)
            · unfold rowB
              exact if_neg hl
        | _ => exact iteN (fun e => by simp [tyD] at e) (z0 rfl sc)
    | _ => exact iteN (fun e => by simp [tyD] at e) (z0 rfl s0)
end
end C1
/-! The law's reading of a whole circuit. -/
namespace C1
open PySem PySem.Spec PyProof.Rows L2 SX
abbrev NF : List Str := ["thing", "registers", "memories", "rows", "nexts", "stores", "outs", "widths", "row", "store", "part", "k"]
theorem scFits : FnScope NF ["thing"] (defScope sFits) := ⟨rfl, rfl, rfl, by decide +kernel, rfl, by decide +kernel, by decide +kernel⟩
theorem nextsB_all {ws : List Nat} : ∀ {ps : List (Nat × Nat)} {ds : List PyData}, nextsB ws ps ds = true → (ds.all fun r => isI r 0 (ws.length : Nat)) = true
  | [], [], _ => rfl
  | [], _ :: _, h => by cases h
  | _ :: _, [], h => by cases h
  | p :: ps, d :: ds, h => by
    have h' := Bool.and_eq_true_iff.mp (show (isI d 0 (ws.length : Nat) && (decide (ws.getD (natD d) 0 = p.1) && nextsB ws ps ds)) = true from h)
    rw [List.all_cons, h'.1, nextsB_all (Bool.and_eq_true_iff.mp h'.2).2]
    rfl
theorem nextsB_get {ws : List Nat} : ∀ {ps : List (Nat × Nat)} {ds : List PyData}, nextsB ws ps ds = true → ∀ (j : Nat) (p : Nat × Nat) (d : PyData), ps[j]? = some p → ds[j]? = some d → ws.getD (natD d) 0 = p.1
  | [], _, _, j, p, d, h1, _ => by simp at h1
  | _ :: _, [], h, _, _, _, _, _ => by cases h
  | p :: ps, d :: ds, h, j, p2, d2, h1, h2 => by
    have h' := Bool.and_eq_true_iff.mp (show (isI d 0 (ws.length : Nat) && (decide (ws.getD (natD d) 0 = p.1) && nextsB ws ps ds)) = true from h)
    have h'' := Bool.and_eq_true_iff.mp h'.2
    cases j with
    | zero =>
      cases h1
      cases h2
      exact of_decide_eq_true h''.1
    | succ j => exact nextsB_get h''.2 j p2 d2 h1 h2
theorem eqv_ints : ∀ a b : List Nat, PyData.eqv (.list (a.map iD)) (.list (b.map iD)) = decide (a = b) := by
  intro a
  induction a with
  | nil => intro b; cases b <;> simp [PyData.eqv, PyData.eqvAll]
  | cons x a ih =>
    intro b
    cases b with
    | nil => simp [PyData.eqv, PyData.eqvAll]
    | cons y b =>
      have := ih b
      simp only [PyData.eqv, PyData.eqvAll, List.map_cons] at this ⊢
      rw [this]
      by_cases h1 : x = y
      · subst h1
        by_cases h2 : a = b <;> simp [h2]
      · have : ¬ ((x : Nat) : Int) = ((y : Nat) : Int) := fun z => h1 (by omega)
        simp [h1, this]
theorem gd_mono : ∀ (n : Nat) (d : PyData), gd n d = true → gd (n + 1) d = true
  | _, .none, _ => rfl
  | _, .bool _, _ => rfl
  | _, .int _, _ => rfl
  | n, .str s, h => by
    cases n <;> exact h
  | 0, .tuple _, h => by cases h
  | n + 1, .tuple ds, h => gd_tup (gd_len h) fun d hd => gd_mono n d (gd_mem h hd)
  | 0, .list _, h => by cases h
  | 0, .dict _, h => by cases h
  | _ + 1, .list _, h => by cases h
  | _ + 1, .dict _, h => by cases h
theorem gd_le {n m : Nat} {d : PyData} (h : gd n d = true) (hm : n ≤ m) : gd m d = true := by
  induction hm with
  | refl => exact h
  | step _ ih => exact gd_mono _ _ ih
theorem opD_le {d : PyData} {x y : Nat} (h : x ≤ 32) : opD d x y ≤ 32 := by
  unfold opD
  split
  · unfold opW
    split
    · exact h
    · split
      · split
        · decide
        · split
          · exact h
          · decide
      · decide
  · decide
theorem getD_le {ws : List Nat} (hw : ∀ x ∈ ws, x ≤ 32) (i : Nat) : ws.getD i 0 ≤ 32 := by
  rw [List.getD_eq_getElem?_getD]
  cases e : ws[i]? with
  | none => exact Nat.zero_le _
  | some x => exact hw x (List.mem_of_getElem? e)
theorem rowB_le {regs mems : List (Nat × Nat)} {ws : List Nat} (hr : ∀ p ∈ regs, p.1 ≤ 32) (hm : ∀ p ∈ mems, p.2 ≤ 32) (hw : ∀ x ∈ ws, x ≤ 32) (d : PyData) : rowB regs mems ws d ≤ 32 := by
  unfold rowB
  split
  · split
    · split
      · unfold litB
        split
        · split
          · rename_i h
            obtain ⟨i, e, i0, i1⟩ := isI_iff.mp (Bool.and_eq_true_iff.mp h).1
            cases e
            omega
          · exact Nat.zero_le _
        · exact Nat.zero_le _
      · split
        · unfold regW
          split
          · split
            · have key : ∀ o : Option (Nat × Nat), (∀ p, o = some p → p.1 ≤ 32) → (o.map Prod.fst).getD 0 ≤ 32 := fun o h => by
                cases o with
                | none => exact Nat.zero_le _
                | some p => exact h p rfl
              exact key _ fun p e => hr p (List.mem_of_getElem? e)
            · exact Nat.zero_le _
          · exact Nat.zero_le _
        · split
          · split
            · unfold lookB
              split
              · split
                · split
                  · split
                    · rename_i e _ _
                      exact hm _ (List.mem_of_getElem? e)
                    · exact Nat.zero_le _
                  · exact Nat.zero_le _
                · exact Nat.zero_le _
              · exact Nat.zero_le _
            · rename_i k r _ _ _ _ _
              have hks : ∀ x ∈ ((partsD k (.str k :: r)).map fun p => ws.getD (natD p) 0), x ≤ 32 := fun x hx => by
                obtain ⟨p, _, e⟩ := List.mem_map.mp hx
                subst e
                exact getD_le hw _
              generalize ((partsD k (.str k :: r)).map fun p => ws.getD (natD p) 0) = ks at hks
              unfold fitB
              split
              · split
                · exact opD_le (hks _ (by simp))
                · exact Nat.zero_le _
              · split
                · split
                  · split
                    · exact hks _ (by simp)
                    · exact Nat.zero_le _
                  · exact Nat.zero_le _
                · split
                  · cases ks with
                    | nil => exact Nat.zero_le _
                    | cons a _ => exact hks a (List.mem_cons_self ..)
                  · split
                    · split
                      · split
                        · omega
                        · exact Nat.zero_le _
                      · exact Nat.zero_le _
                    · split
                      · split
                        · split
                          · rename_i x _ _ hc
                            have := hks x (by simp)
                            omega
                          · exact Nat.zero_le _
                        · exact Nat.zero_le _
                      · split
                        · split
                          · omega
                          · exact Nat.zero_le _
                        · exact Nat.zero_le _
          · exact Nat.zero_le _
    · exact Nat.zero_le _
  · exact Nat.zero_le _
theorem reg_le {ds : List PyData} (h : ds.all regB = true) : ∀ p ∈ ds.map toPr, p.1 ≤ 32 := fun p hp => by
  obtain ⟨d, hd, e⟩ := List.mem_map.mp hp
  subst e
  have hb := List.all_eq_true.mp h d hd
  unfold regB at hb
  split at hb
  · split at hb
    · obtain ⟨i, e, i0, i1⟩ := isI_iff.mp (Bool.and_eq_true_iff.mp hb).1
      cases e
      show Int.toNat _ ≤ 32
      omega
    · cases hb
  · cases hb
theorem mem_le {ds : List PyData} (h : ds.all memB = true) : ∀ p ∈ ds.map toPr, p.2 ≤ 32 := fun p hp => by
  obtain ⟨d, hd, e⟩ := List.mem_map.mp hp
  subst e
  have hb := List.all_eq_true.mp h d hd
  unfold memB at hb
  split at hb
  · obtain ⟨i, e, i0, i1⟩ := isI_iff.mp (Bool.and_eq_true_iff.mp hb).2
    cases e
    show Int.toNat _ ≤ 32
    omega
  · cases hb
section
variable {P : Program} {w : World} {K : PySem.W.Frag} {mg : Str → Option Value} {base : Heap} {tw tb : Tok}
def spFits (K : PySem.W.Frag) : Sp := fun vs H Q _ => ∃ (v : V) (d : PyData) (n : Nat), vs = [v] ∧ Dp K H v d ∧ gd n d = true ∧ n ≤ 5 ∧ ∀ H', Same H H' → Q (.bl (circB d)) H'
theorem ok_fits {f fI fO fP fW : Addr} {fd fdI fdO fdP fdW : FuncData} (F : Fun K "_law_fits" "_law_fits" sFits f fd) (G : Gp mg tw tb) (GI : mg "isinstance" = none) (GRg : mg "range" = none)
    (GIs : FnOk P w K mg base CX0 1 fI fdI ["thing", "low", "high"] (spLIs K)) (kIs : PySem.W.keepIn K (.ref fI) = true) (bIs : Binds K fdI ["thing", "low", "high"] []) (gIs : mg "_law_is" = some (.ref fI))
    (GOr : FnOk P w K mg base CX0 2 fO fdO ["parts_v", "many"] (spOfRows K)) (kOr : PySem.W.keepIn K (.ref fO) = true) (bOr : Binds K fdO ["parts_v", "many"] []) (gOr : mg "_law_of_rows" = some (.ref fO))
    (GPa : FnOk P w K mg base CX0 2 fP fdP ["thing", "second"] (spPairs K)) (kPa : PySem.W.keepIn K (.ref fP) = true) (bPa : Binds K fdP ["thing", "second"] []) (gPa : mg "_law_pairs" = some (.ref fP))
    (GWd : FnOk P w K mg base CX0 3 fW fdW ["row", "widths", "registers", "memories"] (spWidth K)) (kWd : PySem.W.keepIn K (.ref fW) = true) (bWd : Binds K fdW ["row", "widths", "registers", "memories"] []) (gWd : mg "_law_width" = some (.ref fW)) :
    FnOk P w K mg base CX0 4 f fd ["thing"] (spFits K) := by
  refine F.ok scFits (fun vs H Q E h => ?_) (fun cdv A outer s H vs Q E hr h => ?_)
  · obtain ⟨v, d, n, rfl, _⟩ := h
    rfl
  · obtain ⟨v, d, n, rfl, hd, hg, hn, q⟩ := h
    have nd := scFits.nd
    have hr2 : Room 2 _ := hr.mono (by decide)
    have hr1 : Room 1 _ := hr.mono (by decide)
    have hu := hr.units
    refine ⟨_, (C8.pss_cut (ps_if (PW.pt (pw_or (pt_not (pt_val (pe_callB call_isi (by rfl) GI (by decide +kernel) (pa_cons (pv 0) (pa_cons (pe_bltn (v := .ty "tuple") (by rfl) G.tu (by decide +kernel) rfl) pa_nil))))) (pw_or (pt_cmpR op_ne (pe_callB call_len_seq (by rfl) G.len PySem.boot_len (pa_cons (pv 0) pa_nil)) (pe_int) (nomark _)) (pw_or1 (pt_cmpR (op_neD hu) (pe_lc (own := [("part", 10)]) (g := gName 10) (tt := tNot (tB (tCB (rIsi K) (tCons (tVar 10) (tCons (tC (.ty "tuple")) tNil))))) rfl nd (pi_tup (pv 0)) (blkOk_by (own := [("part", 10)]) (N := NF) (sc := defScope sFits) (by decide +kernel)) (fun _ _ _ _ _ => pg_name (i := 10) nd rfl (.inl rfl)) (fun _ _ _ _ _ => pts_one (by exact (pt_not (pt_val (pe_callB call_isi (by rfl) GI (by decide +kernel) (pa_cons (pv 10) (pa_cons (pe_bltn (v := .ty "tuple") (by rfl) G.tu (by decide +kernel) rfl) pa_nil))))))) (fun _ _ _ _ _ => pv 10)) (pe_lst pa_nil) (nomark _)))))) (pss_one (ps_ret (pe_bl))) pss_nil)
      (pss_cons (ps_asg (pv 0) (pg_tup (by rfl) (pgs_cons (pg_name (i := 1) nd rfl (.inr rfl)) (pgs_cons (pg_name (i := 2) nd rfl (.inl rfl)) (pgs_cons (pg_name (i := 3) nd rfl (.inl rfl)) (pgs_cons (pg_name (i := 4) nd rfl (.inr rfl)) (pgs_cons (pg_name (i := 5) nd rfl (.inl rfl)) (pgs_cons (pg_name (i := 6) nd rfl (.inl rfl)) pgs_nil))))))))
      (C8.pss_cut (ps_if (PW.pt (pw_or (pt_not (pt_val (pe_call GPa hr2 (by rfl) gPa kPa bPa .nil pass0 (pa_cons (pv 1) (pa_cons (pe_bl) pa_nil))))) (pw_or1 (pt_not (pt_val (pe_call GPa hr2 (by rfl) gPa kPa bPa .nil pass0 (pa_cons (pv 2) (pa_cons (pe_bl) pa_nil)))))))) (pss_one (ps_ret (pe_bl))) pss_nil)
      (pss_cons (ps_set (i := 7) nd rfl (.inr rfl) (pe_lst pa_nil))
      (C8.pss_cut (ps_for PassesOwn.never rfl (pi_tup (pv 3)) (pg_name (i := 8) nd rfl (.inl rfl)) (pss_cons (ps_expr (pe_bm PySem.F.plainAttrs_list PySem.F.slot_list_append PySem.F.type_list_append mt_append (pv 7) (pa_cons (pe_call GWd hr (by rfl) gWd kWd bWd .nil pass0 (pa_cons (pv 8) (pa_cons (pv 7) (pa_cons (pv 1) (pa_cons (pv 2) pa_nil))))) pa_nil)))
      (pss_one (ps_if (pt_cmpR op_eq (pe_ix ix_list (pv 7) (pe_un un_neg pe_int) (fun _ _ => rfl)) (pe_int) (nomark _)) (pss_one (ps_ret (pe_bl))) pss_nil))))
      (C8.pss_cut (ps_if (PW.pt (pw_or (pt_not (pt_val (pe_call GOr hr2 (by rfl) gOr kOr bOr .nil pass0 (pa_cons (pe_op op_catA (pv 4) (pv 6)) (pa_cons (pe_callB call_len_seq (by rfl) G.len PySem.boot_len (pa_cons (pv 3) pa_nil)) pa_nil))))) (pw_or1 (pt_cmpR op_ne (pe_callB call_len_seq (by rfl) G.len PySem.boot_len (pa_cons (pv 4) pa_nil)) (pe_callB call_len_seq (by rfl) G.len PySem.boot_len (pa_cons (pv 1) pa_nil)) (nomark _))))) (pss_one (ps_ret (pe_bl))) pss_nil)
      (C8.pss_cut (ps_if (pt_cmpR (op_neD hu) (pe_lc (own := [("k", 11)]) (g := gName 11) (tt := tTest (tOp rNe (tOp (rIxL K) (tVar 7) (tOp (rIxT K) (tVar 4) (tVar 11))) (tOp (rIxT K) (tOp (rIxT K) (tVar 1) (tVar 11)) (tC (.int 0))))) rfl nd (pi_range1 (by rfl) GRg (pa_cons (pe_callB call_len_seq (by rfl) G.len PySem.boot_len (pa_cons (pv 4) pa_nil)) pa_nil)) (blkOk_by (own := [("k", 11)]) (N := NF) (sc := defScope sFits) (by decide +kernel)) (fun _ _ _ _ _ => pg_name (i := 11) nd rfl (.inl rfl)) (fun _ _ _ _ _ => pts_one (by exact (pt_cmpR op_ne (pe_ix ix_list (pv 7) (pe_ix ix_tup (pv 4) (pv 11) (fun _ _ => rfl)) (fun _ _ => rfl)) (pe_ix ix_tup (pe_ix ix_tup (pv 1) (pv 11) (fun _ _ => rfl)) (pe_int) (fun _ _ => rfl)) (nomark _)))) (fun _ _ _ _ _ => pv 11)) (pe_lst pa_nil) (nomark _)) (pss_one (ps_ret (pe_bl))) pss_nil)
      (C8.pss_cut (ps_for PassesOwn.never rfl (pi_tup (pv 5)) (pg_name (i := 9) nd rfl (.inl rfl)) (C8.pss_cut (ps_if (PW.pt (pw_or (pt_not (pt_val (pe_callB call_isi (by rfl) GI (by decide +kernel) (pa_cons (pv 9) (pa_cons (pe_bltn (v := .ty "tuple") (by rfl) G.tu (by decide +kernel) rfl) pa_nil))))) (pw_or (pt_cmpR op_ne (pe_callB call_len_seq (by rfl) G.len PySem.boot_len (pa_cons (pv 9) pa_nil)) (pe_int) (nomark _)) (pw_or (pt_not (pt_val (pe_call GIs hr1 (by rfl) gIs kIs bIs .nil pass0 (pa_cons (pe_ix ix_tup (pv 9) (pe_int) (fun _ _ => rfl)) (pa_cons (pe_int) (pa_cons (pe_op op_sub (pe_callB call_len_seq (by rfl) G.len PySem.boot_len (pa_cons (pv 2) pa_nil)) (pe_int)) pa_nil)))))) (pw_or1 (pt_not (pt_val (pe_call GOr hr2 (by rfl) gOr kOr bOr .nil pass0 (pa_cons (pe_slice sl_tup (pv 9) (po_some pe_int) po_none) (pa_cons (pe_callB call_len_seq (by rfl) G.len PySem.boot_len (pa_cons (pv 3) pa_nil)) pa_nil)))))))))) (pss_one (ps_ret (pe_bl))) pss_nil)
      (pss_one (ps_if (pt_cmpR (op_neD hu) (pe_lc (own := [("part", 10)]) (g := gName 10) (tt := tYes) (te := tOp (rIxL K) (tVar 7) (tVar 10)) rfl nd (pi_tup (pe_slice sl_tup (pv 9) (po_some pe_int) po_none)) (blkOk_by (own := [("part", 10)]) (N := NF) (sc := defScope sFits) (by decide +kernel)) (fun _ _ _ _ _ => pg_name (i := 10) nd rfl (.inl rfl)) (fun _ _ _ _ _ => pts_nil) (fun _ _ _ _ _ => by exact (pe_ix ix_list (pv 7) (pv 10) (fun _ _ => rfl)))) (pe_lst (pa_cons (pe_ix ix_tup (pe_ix ix_tup (pv 2) (pe_ix ix_tup (pv 9) (pe_int) (fun _ _ => rfl)) (fun _ _ => rfl)) (pe_int) (fun _ _ => rfl)) (pa_cons (pe_ix ix_tup (pe_ix ix_tup (pv 2) (pe_ix ix_tup (pv 9) (pe_int) (fun _ _ => rfl)) (fun _ _ => rfl)) (pe_int) (fun _ _ => rfl)) (pa_cons (pe_int) pa_nil)))) (nomark _)) (pss_one (ps_ret (pe_bl))) pss_nil))))
      (pss_one (ps_ret (pe_bl))))))))))), ?_⟩
    have qf : circB d = false → ∀ {H'}, Same H H' → Q (.bl false) H' := fun e H' sm => by
      have := q H' sm
      rw [e] at this
      exact this
    have hnl : noL d = true := (gd_ok n d hg).1
    refine ⟨fun σ H' => σ = [some v, none, none, none, none, none, none, none, none, none, none, none] ∧ Same H H' ∧ ∃ ds : List PyData, d = .tuple ds ∧ ds.length = 6 ∧ (ds.all fun d => decide (tyD d = "tuple")) = true, ?_, ?_⟩
    · refine ⟨_, rfl, v, _, _, _, _, rfl, .ty "tuple", tyx_of hd hnl, kit_ty (kit_one "tuple" (.inr (.inl rfl)) d hnl), _, rfl, ?_⟩
      cases d with
      | tuple ds =>
        refine iteNS rfl ?_
        obtain ⟨b, xs, rfl, sb, da⟩ := dp_tup hd
        have nn : noLs ds = true := hnl
        have lda := dps_len da
        refine ⟨_, rfl, _, _, rfl, .inr sb, rfl, _, rfl, ?_⟩
        by_cases h6 : ds.length = 6
        · refine iteNS (by rw [lda, h6]; rfl) ?_
          obtain ⟨n, rfl⟩ : ∃ m, n = m + 1 := by
            cases n with
            | zero => cases hg
            | succ m => exact ⟨m, rfl⟩
          refine ⟨_, rfl, b, rfl, ⟨_, sb⟩, fun D nD => ?_⟩
          have s6 : ∀ {o : HO}, Same H (upd H D o) := fun {o} => Same.up nD
          refine lc_tup (xs := xs) (fun j H' => ∃ acc : List V, H' = upd H D (.lst acc) ∧ DpAll K H acc ((ds.take j).filter fun d => !decide (tyD d = "tuple")) ∧ acc.length ≤ j) ⟨[], rfl, .nil, Nat.zero_le _⟩ (fun j H' _ h => ?_) (fun j x H' hx h => ?_) (fun H' h => ?_)
          · obtain ⟨acc, rfl, _⟩ := h
            exact same_tup s6 _ _ sb
          · obtain ⟨acc, rfl, hA, la⟩ := h
            obtain ⟨dj, hdj, dx⟩ := dps_get da hx
            have njl := noLs_mem nn dj (List.mem_of_getElem? hdj)
            have hj : j < xs.length := (List.getElem?_eq_some_iff.mp hx).1
            have tk : ds.take (j + 1) = ds.take j ++ [dj] := by
              rw [List.take_add_one, hdj]
              rfl
            refine ⟨rfl, _, rfl, x, _, _, _, _, rfl, .ty "tuple", tyx_of (dp_stay (same_tup s6) _ _ dx njl) njl, kit_ty (kit_one "tuple" (.inr (.inl rfl)) dj njl), _, rfl, ?_⟩
            by_cases ht : tyD dj = "tuple"
            · refine iteNS ht ⟨acc, rfl, ?_, by omega⟩
              rw [tk, List.filter_append, List.filter_cons_of_neg (by rw [decide_eq_true ht]; decide)]
              rw [List.filter_nil, List.append_nil]
              exact hA
            · refine iteN ht ⟨_, rfl, acc, upd_same, Nat.lt_of_le_of_lt la (by rw [sizeLine_eq]; omega), acc ++ [x], upd_upd, ?_, ?_⟩
              · rw [tk, List.filter_append, List.filter_cons_of_pos (by rw [decide_eq_false ht]; rfl)]
                exact dps_app hA (.cons dx .nil)
              · rw [List.length_append]
                show acc.length + 1 ≤ j + 1
                omega
          · obtain ⟨acc, rfl, hA, la⟩ := h
            rw [lda, List.take_length] at hA
            refine ⟨Nat.zero_le _, fun z nz => ?_⟩
            have hD : (upd (upd H D (.lst acc)) z (.lst [])) D = some (.lst acc) := by
              rw [upd_ne (ne_of_none upd_same nz)]
              exact upd_same
            have sm : Same H (upd (upd H D (.lst acc)) z (.lst [])) := s6.trans (Same.up nz)
            have nf : noLs (ds.filter fun d => !decide (tyD d = "tuple")) = true := noLs_of (k := n) fun d hd => gd_mem hg (List.mem_filter.mp hd).1
            refine ⟨.list (ds.filter fun d => !decide (tyD d = "tuple")), .list [], .lst (SqL.of hD) (dps_stay (same_tup sm) _ _ hA nf), .lst (SqL.of upd_same) .nil, shaped_list _ (fun d hd => ?_), shaped_list [] (fun d hd => by cases hd), _, rfl, ?_⟩
            · obtain ⟨_, b, c⟩ := gd_ok n d (gd_mem hg (List.mem_filter.mp hd).1)
              exact ⟨b, by omega⟩
            · rw [eqv_nil, filt_all (fun d => decide (tyD d = "tuple"))]
              cases ha : (ds.all fun d => decide (tyD d = "tuple")) with
              | false => exact iteT (qf (circB_six h6 ha) sm)
              | true => exact iteF ⟨rfl, sm, ds, rfl, h6, ha⟩
        · refine iteN (fun z => ?_) (qf ?_ (Same.refl H))
          · have := V.int.inj z
            exact h6 (by omega)
          · unfold circB
            split
            · rename_i e
              cases e
              exact absurd rfl h6
            · rfl
      | _ => exact iteN (fun e => by simp [tyD] at e) (qf rfl (Same.refl H))
    rintro σ H1 ⟨rfl, s1, ds, rfl, hl, hall⟩
    have hty : ∀ d ∈ ds, ∃ es, d = .tuple es := fun d hd => ty_tup (of_decide_eq_true (List.all_eq_true.mp hall d hd))
    match ds, hl with
    | [t0, t1, t2, t3, t4, t5], _ =>
      obtain ⟨rd, rfl⟩ := hty t0 (by simp)
      obtain ⟨md, rfl⟩ := hty t1 (by simp)
      obtain ⟨rows, rfl⟩ := hty t2 (by simp)
      obtain ⟨nx, rfl⟩ := hty t3 (by simp)
      obtain ⟨st, rfl⟩ := hty t4 (by simp)
      obtain ⟨ou, rfl⟩ := hty t5 (by simp)
      have hnn := (gd_ok n _ hg).1
      obtain ⟨n, rfl⟩ : ∃ m, n = m + 2 := by
        match n, hg with
        | 0, h => cases h
        | 1, h => cases gd_mem h (List.mem_cons_self ..)
        | m + 2, _ => exact ⟨m, rfl⟩
      have g0 := gd_mem hg (d := .tuple rd) (by simp)
      have g1 := gd_mem hg (d := .tuple md) (by simp)
      have g2 := gd_mem hg (d := .tuple rows) (by simp)
      have g3 := gd_mem hg (d := .tuple nx) (by simp)
      have g4 := gd_mem hg (d := .tuple st) (by simp)
      have g5 := gd_mem hg (d := .tuple ou) (by simp)
      have n0 : noLs rd = true := (gd_ok _ _ g0).1
      have n1 : noLs md = true := (gd_ok _ _ g1).1
      have n2 : noLs rows = true := (gd_ok _ _ g2).1
      have n3 : noLs nx = true := (gd_ok _ _ g3).1
      have n4 : noLs st = true := (gd_ok _ _ g4).1
      have n5 : noLs ou = true := (gd_ok _ _ g5).1
      have l0 := gd_len g0
      have l1 := gd_len g1
      have l2 := gd_len g2
      have l4 := gd_len g4
      have l5 := gd_len g5
      obtain ⟨b, xs, rfl, sb, da⟩ := dp_tup (dp_stay (same_tup s1) _ _ hd hnn)
      cases da with
      | cons e0 da =>
      cases da with
      | cons e1 da =>
      cases da with
      | cons e2 da =>
      cases da with
      | cons e3 da =>
      cases da with
      | cons e4 da =>
      cases da with
      | cons e5 da =>
      cases da
      obtain ⟨a0, rvs, rfl, q0, d0⟩ := dp_tup e0
      obtain ⟨a1, mvs, rfl, q1, d1⟩ := dp_tup e1
      obtain ⟨a2, wvs, rfl, q2, d2⟩ := dp_tup e2
      obtain ⟨a3, nvs, rfl, q3, d3⟩ := dp_tup e3
      obtain ⟨a4, svs, rfl, q4, d4⟩ := dp_tup e4
      obtain ⟨a5, ovs, rfl, q5, d5⟩ := dp_tup e5
      refine ⟨_, rfl, b, _, rfl, sb, rfl, _, _, rfl, _, _, rfl, _, _, rfl, _, _, rfl, _, _, rfl, _, _, rfl, rfl, ?_⟩
      have hcb : circB (.tuple [.tuple rd, .tuple md, .tuple rows, .tuple nx, .tuple st, .tuple ou]) = (rd.all regB && (md.all memB && (match rowsW (rd.map toPr) (md.map toPr) rows [] with
        | some ws => nextsB ws (rd.map toPr) nx && (st.all (storeB (md.map toPr) ws) && ou.all fun r => isI r 0 (ws.length : Nat))
        | none => false))) := rfl
      refine ⟨fun σ H' => σ = [some (.ref b), some (.ref a0), some (.ref a1), some (.ref a2), some (.ref a3), some (.ref a4), some (.ref a5), none, none, none, none, none] ∧ H' = H1 ∧ rd.all regB = true ∧ md.all memB = true, ?_, ?_⟩
      · refine ⟨_, rfl, a0, rvs, rd, true, rfl, q0, d0, n0, _, rfl, ?_⟩
        show (if (!rd.all regB) = true then _ else _)
        cases ha : rd.all regB with
        | false =>
          rw [ha, Bool.false_and] at hcb
          exact iteT (qf hcb s1)
        | true =>
          rw [ha, Bool.true_and] at hcb
          refine iteF ⟨_, rfl, a1, mvs, md, false, rfl, q1, d1, n1, _, rfl, ?_⟩
          show (if (!md.all memB) = true then _ else _)
          cases hb : md.all memB with
          | false =>
            rw [hb, Bool.false_and] at hcb
            exact iteT (qf hcb s1)
          | true => exact iteF ⟨rfl, rfl, rfl, rfl⟩
      rintro σ H2 ⟨rfl, rfl, hra, hma⟩
      rw [hra, hma, Bool.true_and, Bool.true_and] at hcb
      have er : rd = (rd.map toPr).map pr := all_pr (fun d => reg_pr) rd hra
      have em : md = (md.map toPr).map pr := all_pr (fun d => mem_pr) md hma
      rw [er] at d0
      rw [em] at d1
      -- the rows
      have hrle := reg_le hra
      have hmle := mem_le hma
      refine ⟨Nat.zero_le _, fun Wl nW => ?_⟩
      refine ⟨fun σ H' => ∃ (y8 : Option V) (ws : List Nat), σ = [some (.ref b), some (.ref a0), some (.ref a1), some (.ref a2), some (.ref a3), some (.ref a4), some (.ref a5), some (.ref Wl), y8, none, none, none] ∧ Same H2 H' ∧ H' Wl = some (.lst (ws.map iV)) ∧ rowsW (rd.map toPr) (md.map toPr) rows [] = some ws ∧ ws.length = rows.length, ?_, ?_⟩
      · refine ⟨_, rfl, a2, rfl, ⟨_, same_tup (Same.up nW) _ _ q2⟩, for_tup (xs := wvs) (fun i σ H' => ∃ (y8 : Option V) (ws : List Nat), σ = [some (.ref b), some (.ref a0), some (.ref a1), some (.ref a2), some (.ref a3), some (.ref a4), some (.ref a5), some (.ref Wl), y8, none, none, none] ∧ Same H2 H' ∧ H' Wl = some (.lst (ws.map iV)) ∧ rowsW (rd.map toPr) (md.map toPr) rows [] = rowsW (rd.map toPr) (md.map toPr) (rows.drop i) ws ∧ ws.length = i ∧ ∀ x ∈ ws, x ≤ 32) ⟨_, [], rfl, Same.up nW, upd_same, rfl, rfl, fun x hx => by cases hx⟩ (fun i σ H' _ h => ?_) (fun i x σ H' hx h => ?_) (fun σ H' h => ?_)⟩
        · obtain ⟨_, _, _, s3, _⟩ := h
          exact same_tup s3 _ _ q2
        · obtain ⟨y8, ws, rfl, s3, hW, e1, lw, hws⟩ := h
          obtain ⟨dj, hdj, dx⟩ := dps_get d2 hx
          have gj := gd_mem g2 (List.mem_of_getElem? hdj)
          have hi : i < rows.length := (List.getElem?_eq_some_iff.mp hdj).1
          have ed := rowsW_drop (regs := rd.map toPr) (mems := md.map toPr) (ws := ws) hdj
          refine ⟨_, rfl, .inl ⟨rfl, _, SqL.of hW⟩, ?_⟩
          refine ⟨_, rfl, _, rfl, _, rfl, _, rfl, x, Wl, a0, a1, rd.map toPr, md.map toPr, ws, rvs, mvs, dj, rfl, dp_stay (same_tup s3) _ _ dx (gd_ok _ _ gj).1, gd_le gj (by omega), hW, same_tup s3 _ _ q0, dps_stay (same_tup s3) _ _ d0 (noLs_pr _), same_tup s3 _ _ q1, dps_stay (same_tup s3) _ _ d1 (noLs_pr _), hws, by omega, fun H3 s4 => ?_⟩
          have s5 := s3.trans s4
          have hW3 := s4 _ _ hW
          refine ⟨Wl, _, _, rfl, rfl, hW3, by rw [List.length_map, sizeLine_eq]; omega, ?_⟩
          have sW : Same H2 (upd H3 Wl (.lst (ws.map iV ++ [iV (rowB (rd.map toPr) (md.map toPr) ws dj)]))) := fun c o e => by
            rw [upd_ne (ne_of_none e nW)]
            exact s5 _ _ e
          refine ⟨_, rfl, _, rfl, Wl, _, _, _, rfl, rfl, SqL.of upd_same, atI_last _ _, rfl, _, rfl, ?_⟩
          by_cases hz : rowB (rd.map toPr) (md.map toPr) ws dj = 0
          · rw [hz] at sW ⊢
            refine iteT (qf ?_ (s1.trans sW))
            rw [hcb, e1, ed, if_pos hz]
          · refine ite2 (fun a => absurd (Int.ofNat.inj (V.int.inj (of_decide_eq_true a))) hz) (fun _ => ?_)
            refine ⟨_, ws ++ [rowB (rd.map toPr) (md.map toPr) ws dj], rfl, sW, ?_, ?_, ?_, fun y hy => ?_⟩
            · rw [List.map_append]
              exact upd_same
            · rw [e1, ed, if_neg hz]
            · rw [List.length_append]
              show ws.length + 1 = i + 1
              omega
            · rcases List.mem_append.mp hy with h | h
              · exact hws y h
              · rw [List.mem_singleton.mp h]
                exact rowB_le hrle hmle hws dj
        · obtain ⟨y8, ws, rfl, s3, hW, e1, lw, hws⟩ := h
          refine ⟨_, ws, rfl, s3, hW, ?_, by rw [lw, dps_len d2]⟩
          rw [e1, dps_len d2, List.drop_length]
          rfl
      rintro σ H3 ⟨y8, ws, rfl, s3, hW, ew, lw⟩
      rw [ew] at hcb
      dsimp only at hcb
      have u3 := s1.trans s3
      have Q0 := same_tup s3 _ _ q0
      have Q2 := same_tup s3 _ _ q2
      have Q3 := same_tup s3 _ _ q3
      have Q5 := same_tup s3 _ _ q5
      have D3 := dps_stay (same_tup s3) _ _ d3 n3
      have D5 := dps_stay (same_tup s3) _ _ d5 n5
      have l3 := gd_len g3
      have lnv := dps_len d3
      have lov := dps_len d5
      have lrv : rvs.length = (rd.map toPr).length := by
        have := dps_len d0
        rw [List.length_map] at this
        exact this
      have lwv := dps_len d2
      have ew2 : wvs.length = ws.length := by omega
      refine ⟨fun σ H' => σ = [some (.ref b), some (.ref a0), some (.ref a1), some (.ref a2), some (.ref a3), some (.ref a4), some (.ref a5), some (.ref Wl), y8, none, none, none] ∧ Same H3 H' ∧ (nx.all fun r => isI r 0 (ws.length : Nat)) = true ∧ (ou.all fun r => isI r 0 (ws.length : Nat)) = true ∧ nx.length = (rd.map toPr).length, ?_, ?_⟩
      · refine ⟨_, rfl, _, rfl, a3, a5, nvs, ovs, rfl, rfl, Q3, Q5, by rw [sizeLine_eq]; omega, fun e => ?_, fun e1 e2 => ?_, fun e1 e2 pA nA => ?_⟩
        · have sm := Same.refl H3
          have hq : SqT K H3 a5 (nvs ++ ovs) := by
            rw [e]
            exact Q5
          refine ⟨_, rfl, _, _, rfl, .inr (same_tup sm _ _ Q2), a5, nvs ++ ovs, nx ++ ou, _, 4, rfl, hq, dps_app (dps_stay (same_tup sm) _ _ D3 n3) (dps_stay (same_tup sm) _ _ D5 n5), (fun d hd => (List.mem_append.mp hd).elim (fun h => gd_le (gd_mem g3 h) (by omega)) (fun h => gd_le (gd_mem g5 h) (by omega))), by decide, by rw [List.length_append]; omega, fun H4 s4 => ⟨_, rfl, ?_⟩⟩
          have t4 := sm.trans s4
          rw [List.all_append, ew2]
          cases hnx : (nx.all fun r => isI r 0 (ws.length : Nat)) with
          | false =>
            refine iteT (qf (hcb.trans ?_) (u3.trans t4))
            cases hnb : nextsB ws (rd.map toPr) nx with
            | false => rfl
            | true =>
              rw [nextsB_all hnb] at hnx
              cases hnx
          | true =>
            cases hou : (ou.all fun r => isI r 0 (ws.length : Nat)) with
            | false =>
              refine iteT (qf (hcb.trans ?_) (u3.trans t4))
              rw [hou, Bool.and_false, Bool.and_false]
            | true =>
              refine iteF ⟨_, rfl, _, _, rfl, .inr (same_tup t4 _ _ Q3), _, rfl, _, _, rfl, .inr (same_tup t4 _ _ Q0), rfl, _, rfl, ?_⟩
              by_cases hll : nx.length = (rd.map toPr).length
              · exact iteNS (by rw [lnv, lrv, hll]) ⟨rfl, t4, rfl, rfl, hll⟩
              · refine iteN (fun z => hll (by have := V.int.inj z; omega)) (qf (hcb.trans ?_) (u3.trans t4))
                rw [nextsB_len hll, Bool.false_and]
        · have sm := Same.refl H3
          have hq : SqT K H3 a3 (nvs ++ ovs) := by
            rw [e2, List.append_nil]
            exact Q3
          refine ⟨_, rfl, _, _, rfl, .inr (same_tup sm _ _ Q2), a3, nvs ++ ovs, nx ++ ou, _, 4, rfl, hq, dps_app (dps_stay (same_tup sm) _ _ D3 n3) (dps_stay (same_tup sm) _ _ D5 n5), (fun d hd => (List.mem_append.mp hd).elim (fun h => gd_le (gd_mem g3 h) (by omega)) (fun h => gd_le (gd_mem g5 h) (by omega))), by decide, by rw [List.length_append]; omega, fun H4 s4 => ⟨_, rfl, ?_⟩⟩
          have t4 := sm.trans s4
          rw [List.all_append, ew2]
          cases hnx : (nx.all fun r => isI r 0 (ws.length : Nat)) with
          | false =>
            refine iteT (qf (hcb.trans ?_) (u3.trans t4))
            cases hnb : nextsB ws (rd.map toPr) nx with
            | false => rfl
            | true =>
              rw [nextsB_all hnb] at hnx
              cases hnx
          | true =>
            cases hou : (ou.all fun r => isI r 0 (ws.length : Nat)) with
            | false =>
              refine iteT (qf (hcb.trans ?_) (u3.trans t4))
              rw [hou, Bool.and_false, Bool.and_false]
            | true =>
              refine iteF ⟨_, rfl, _, _, rfl, .inr (same_tup t4 _ _ Q3), _, rfl, _, _, rfl, .inr (same_tup t4 _ _ Q0), rfl, _, rfl, ?_⟩
              by_cases hll : nx.length = (rd.map toPr).length
              · exact iteNS (by rw [lnv, lrv, hll]) ⟨rfl, t4, rfl, rfl, hll⟩
              · refine iteN (fun z => hll (by have := V.int.inj z; omega)) (qf (hcb.trans ?_) (u3.trans t4))
                rw [nextsB_len hll, Bool.false_and]
        · have sm : Same H3 (upd H3 pA (.tup (nvs ++ ovs))) := Same.up nA
          have hq : SqT K (upd H3 pA (.tup (nvs ++ ovs))) pA (nvs ++ ovs) := SqT.of upd_same
          refine ⟨_, rfl, _, _, rfl, .inr (same_tup sm _ _ Q2), pA, nvs ++ ovs, nx ++ ou, _, 4, rfl, hq, dps_app (dps_stay (same_tup sm) _ _ D3 n3) (dps_stay (same_tup sm) _ _ D5 n5), (fun d hd => (List.mem_append.mp hd).elim (fun h => gd_le (gd_mem g3 h) (by omega)) (fun h => gd_le (gd_mem g5 h) (by omega))), by decide, by rw [List.length_append]; omega, fun H4 s4 => ⟨_, rfl, ?_⟩⟩
          have t4 := sm.trans s4
          rw [List.all_append, ew2]
          cases hnx : (nx.all fun r => isI r 0 (ws.length : Nat)) with
          | false =>
            refine iteT (qf (hcb.trans ?_) (u3.trans t4))
            cases hnb : nextsB ws (rd.map toPr) nx with
            | false => rfl
            | true =>
              rw [nextsB_all hnb] at hnx
              cases hnx
          | true =>
            cases hou : (ou.all fun r => isI r 0 (ws.length : Nat)) with
            | false =>
              refine iteT (qf (hcb.trans ?_) (u3.trans t4))
              rw [hou, Bool.and_false, Bool.and_false]
            | true =>
              refine iteF ⟨_, rfl, _, _, rfl, .inr (same_tup t4 _ _ Q3), _, rfl, _, _, rfl, .inr (same_tup t4 _ _ Q0), rfl, _, rfl, ?_⟩
              by_cases hll : nx.length = (rd.map toPr).length
              · exact iteNS (by rw [lnv, lrv, hll]) ⟨rfl, t4, rfl, rfl, hll⟩
              · refine iteN (fun z => hll (by have := V.int.inj z; omega)) (qf (hcb.trans ?_) (u3.trans t4))
                rw [nextsB_len hll, Bool.false_and]
      rintro σ H4 ⟨rfl, t4, hnx, hou, hll⟩
      have u4 := u3.trans t4
      obtain ⟨ns, ks, en1, en2, en3, en4⟩ := all_nat ws nx hnx
      have lns : ns.length = (rd.map toPr).length := by
        rw [en1, List.length_map] at hll
        exact hll
      let bad : Nat → List Nat := fun j => (List.range j).filter fun k => decide (ks[k]? ≠ ((rd.map toPr)[k]?).map Prod.fst)
      have Q04 := same_tup t4 _ _ Q0
      have D04 := dps_stay (same_tup (s3.trans t4)) _ _ d0 (noLs_pr _)
      have Q34 := same_tup t4 _ _ Q3
      have D34 := dps_stay (same_tup t4) _ _ D3 n3
      have hW4 := t4 _ _ hW
      refine ⟨fun σ H' => σ = [some (.ref b), some (.ref a0), some (.ref a1), some (.ref a2), some (.ref a3), some (.ref a4), some (.ref a5), some (.ref Wl), y8, none, none, none] ∧ Same H4 H' ∧ nextsB ws (rd.map toPr) nx = true, ?_, ?_⟩
      · refine ⟨_, rfl, _, _, rfl, .inr Q34, ?_⟩
        have ln : nvs.length = ns.length := by omega
        rw [ln]
        refine ⟨_, rfl, by omega, by omega, fun D nD => lc_range (n := ns.length) (fun j H' => H' = upd H4 D (.lst ((bad j).map iV))) rfl (fun j H' hj h => ?_) (fun H' h => ?_)⟩
        · subst h
          rw [Int.zero_add]
          have s6 : Same H4 (upd H4 D (.lst ((bad j).map iV))) := Same.up nD
          obtain ⟨n, en⟩ : ∃ n, ns[j]? = some n := ⟨_, List.getElem?_eq_getElem hj⟩
          obtain ⟨kv, ekv⟩ : ∃ kv, ks[j]? = some kv := ⟨_, List.getElem?_eq_getElem (by omega)⟩
          obtain ⟨pj, epj⟩ : ∃ p, (rd.map toPr)[j]? = some p := ⟨_, List.getElem?_eq_getElem (by omega)⟩
          have e2 := (en3 j n en).trans ekv
          have hnj : nx[j]? = some (iD n) := by
            rw [en1, List.getElem?_map, en]
            rfl
          obtain ⟨xj, exj, dxj⟩ := dps_put D34 hnj
          cases dxj
          obtain ⟨bj, hb1, hb2⟩ := pr_at D04 epj
          have lb : (bad j).length ≤ j := Nat.le_trans (List.length_filter_le _ _) (by rw [List.length_range]; exact Nat.le_refl j)
          refine ⟨rfl, _, rfl, _, rfl, _, rfl, _, _, _, _, rfl, rfl, same_tup s6 _ _ Q34, atI_nat exj, Wl, _, _, _, rfl, rfl, SqL.of (s6 _ _ hW4), atI_nat (int_at e2), _, rfl, _, rfl, _, _, _, _, rfl, rfl, same_tup s6 _ _ Q04, atI_nat hb1, _, _, _, _, rfl, rfl, same_tup s6 _ _ hb2, atI_nat (j := 0) rfl, rfl, _, rfl, ?_⟩
          have bs : bad (j + 1) = bad j ++ (if kv = pj.1 then [] else [j]) := by
            show (List.range (j + 1)).filter _ = (List.range j).filter _ ++ _
            rw [List.range_succ, List.filter_append]
            congr 1
            by_cases hk : kv = pj.1
            · rw [if_pos hk, List.filter_cons_of_neg (by rw [ekv, epj, hk]; simp)]
              rfl
            · rw [if_neg hk, List.filter_cons_of_pos (by rw [ekv, epj]; simp [hk])]
              rfl
          by_cases hk : kv = pj.1
          · refine iteNS (by rw [hk]) ?_
            rw [bs, if_pos hk, List.append_nil]
          · refine iteN (fun z => hk (Int.ofNat.inj (V.int.inj z))) ⟨_, rfl, _, upd_same, ?_, ?_⟩
            · rw [List.length_map, sizeLine_eq]
              omega
            · rw [upd_upd, bs, if_neg hk, List.map_append]
              rfl
        · subst h
          refine ⟨Nat.zero_le _, fun z nz => ?_⟩
          have hD : (upd (upd H4 D (.lst ((bad ns.length).map iV))) z (.lst [])) D = some (.lst ((bad ns.length).map iV)) := by
            rw [upd_ne (ne_of_none upd_same nz)]
            exact upd_same
          have sm : Same H4 (upd (upd H4 D (.lst ((bad ns.length).map iV))) z (.lst [])) := (Same.up nD).trans (Same.up nz)
          refine ⟨.list ((bad ns.length).map iD), .list [], .lst (SqL.of hD) (dps_ints _), .lst (SqL.of upd_same) .nil, shaped_list _ (cL_int _), shaped_list [] (fun d hd => by cases hd), _, rfl, ?_⟩
          rw [eqv_nil]
          cases hb : bad ns.length with
          | nil =>
            have sm' := sm
            rw [hb] at sm'
            refine iteF ⟨rfl, sm', ?_⟩
            rw [en1]
            refine nexts_ok lns fun i p n hi hn => ?_
            have hil : i < ns.length := (List.getElem?_eq_some_iff.mp hn).1
            by_cases hk : ks[i]? = ((rd.map toPr)[i]?).map Prod.fst
            · rw [en3 i n hn, hk, hi]
              rfl
            · have : i ∈ bad ns.length := List.mem_filter.mpr ⟨List.mem_range.mpr hil, decide_eq_true hk⟩
              rw [hb] at this
              cases this
          | cons k0 kr =>
            have sm' := sm
            rw [hb] at sm'
            refine iteT (qf (hcb.trans ?_) (u4.trans sm'))
            cases hnb : nextsB ws (rd.map toPr) nx with
            | false => rfl
            | true =>
              have hk0 : k0 ∈ bad ns.length := by
                rw [hb]
                exact List.mem_cons_self ..
              obtain ⟨hr0', hne⟩ := List.mem_filter.mp hk0
              have hlt := List.mem_range.mp hr0'
              obtain ⟨n, en⟩ : ∃ n, ns[k0]? = some n := ⟨_, List.getElem?_eq_getElem hlt⟩
              obtain ⟨pj, epj⟩ : ∃ p, (rd.map toPr)[k0]? = some p := ⟨_, List.getElem?_eq_getElem (by omega)⟩
              have hnj : nx[k0]? = some (iD n) := by
                rw [en1, List.getElem?_map, en]
                rfl
              have g := nextsB_get hnb k0 pj _ epj hnj
              obtain ⟨kv, ekv⟩ : ∃ kv, ks[k0]? = some kv := ⟨_, List.getElem?_eq_getElem (by omega)⟩
              rw [getD_ws ((en3 k0 n en).trans ekv)] at g
              rw [ekv, epj, g] at hne
              simp at hne
      rintro σ H5 ⟨rfl, t5, hnb⟩
      rw [hnb, Bool.true_and, hou, Bool.and_true] at hcb
      have u5 := u4.trans t5
      -- the stores
      have v5 := (s3.trans t4).trans t5
      have Q15 := same_tup v5 _ _ q1
      have D15 := dps_stay (same_tup v5) _ _ d1 (noLs_pr _)
      have Q45 := same_tup v5 _ _ q4
      have D45 := dps_stay (same_tup v5) _ _ d4 n4
      have Q25 := same_tup v5 _ _ q2
      have hW5 := t5 _ _ hW4
      have lmv : mvs.length = (md.map toPr).length := by
        have := dps_len d1
        rw [List.length_map] at this
        exact this
      refine ⟨fun σ H' => ∃ y9, σ = [some (.ref b), some (.ref a0), some (.ref a1), some (.ref a2), some (.ref a3), some (.ref a4), some (.ref a5), some (.ref Wl), y8, y9, none, none] ∧ Same H5 H' ∧ st.all (storeB (md.map toPr) ws) = true, ?_, ?_⟩
      · refine ⟨_, rfl, a4, rfl, ⟨_, Q45⟩, for_tup (xs := svs) (fun i σ H' => ∃ y9, σ = [some (.ref b), some (.ref a0), some (.ref a1), some (.ref a2), some (.ref a3), some (.ref a4), some (.ref a5), some (.ref Wl), y8, y9, none, none] ∧ Same H5 H' ∧ st.all (storeB (md.map toPr) ws) = (st.drop i).all (storeB (md.map toPr) ws)) ⟨_, rfl, Same.refl H5, rfl⟩ (fun i σ H' _ h => ?_) (fun i x σ H' hx h => ?_) (fun σ H' h => ?_)⟩
        · obtain ⟨_, _, s6, _⟩ := h
          exact same_tup s6 _ _ Q45
        · obtain ⟨y9, rfl, s6, e1⟩ := h
          obtain ⟨dj, hdj, dx0⟩ := dps_get D45 hx
          have gj := gd_le (gd_mem g4 (List.mem_of_getElem? hdj)) (show _ ≤ 5 by omega)
          have nj := (gd_ok _ _ gj).1
          have dx := dp_stay (same_tup s6) _ _ dx0 nj
          obtain ⟨hi, ei⟩ := List.getElem?_eq_some_iff.mp hdj
          have e2 : (st.drop i).all (storeB (md.map toPr) ws) = (storeB (md.map toPr) ws dj && (st.drop (i + 1)).all (storeB (md.map toPr) ws)) := by
            rw [List.drop_eq_getElem_cons hi, ei]
            rfl
          rw [e2] at e1
          have qs : storeB (md.map toPr) ws dj = false → ∀ {H6}, Same H' H6 → Q (.bl false) H6 := fun e H6 sm => qf (by rw [hcb, e1, e, Bool.false_and]) ((u5.trans s6).trans sm)
          have hW' := s6 _ _ hW5
          have Q1' := same_tup s6 _ _ Q15
          have D1' := dps_stay (same_tup s6) _ _ D15 (noLs_pr _)
          have Q2' := same_tup s6 _ _ Q25
          refine ⟨fun σ H6 => σ = [some (.ref b), some (.ref a0), some (.ref a1), some (.ref a2), some (.ref a3), some (.ref a4), some (.ref a5), some (.ref Wl), y8, some x, none, none] ∧ Same H' H6 ∧ ∃ m0 c0 c1 c2, dj = .tuple [m0, c0, c1, c2] ∧ isI m0 0 ((md.map toPr).length : Nat) = true ∧ ([c0, c1, c2].all fun r => isI r 0 (ws.length : Nat)) = true, ?_, ?_⟩
          · refine ⟨_, rfl, x, _, _, _, _, rfl, .ty "tuple", tyx_of dx nj, kit_ty (kit_one "tuple" (.inr (.inl rfl)) dj nj), _, rfl, ?_⟩
            cases dj with
            | tuple es =>
              refine iteNS rfl ?_
              obtain ⟨bb, xs, rfl, sbb, da⟩ := dp_tup dx
              have ly := dps_len da
              refine ⟨_, rfl, _, _, rfl, .inr sbb, rfl, _, rfl, ?_⟩
              by_cases h4 : es.length = 4
              · refine iteNS (by rw [ly, h4]; rfl) ?_
                match es, h4 with
                | [m0, c0, c1, c2], _ =>
                  cases da with
                  | @cons xm xt _ _ dm0 da =>
                  have hst0 : storeB (md.map toPr) ws (.tuple [m0, c0, c1, c2]) = (isI m0 0 ((md.map toPr).length : Nat) && (([c0, c1, c2].all fun r => isI r 0 (ws.length : Nat)) && decide ([c0, c1, c2].map (fun r => ws.getD (natD r) 0) = [(((md.map toPr)[natD m0]?).getD (0, 0)).1, (((md.map toPr)[natD m0]?).getD (0, 0)).2, 1]))) := rfl
                  have nm : noL m0 = true := (Bool.and_eq_true_iff.mp (show (noL m0 && noLs [c0, c1, c2]) = true from nj)).1
                  have nr : noLs [c0, c1, c2] = true := (Bool.and_eq_true_iff.mp (show (noL m0 && noLs [c0, c1, c2]) = true from nj)).2
                  have ldr := dps_len da
                  refine ⟨_, rfl, _, _, _, _, rfl, rfl, sbb, atI_nat (j := 0) rfl, _, rfl, _, _, rfl, .inr Q1', _, _, rfl, rfl, _, m0, 0, _, rfl, dm0, nm, _, rfl, ?_⟩
                  rw [Int.sub_add_cancel, lmv]
                  cases hi0 : isI m0 0 ((md.map toPr).length : Nat) with
                  | false =>
                    rw [hi0, Bool.false_and] at hst0
                    exact iteT (qs hst0 (Same.refl H'))
                  | true =>
                    rw [hi0, Bool.true_and] at hst0
                    refine iteF ?_
                    have hcut : ¬ (HT.sIx (xm :: xt).length 0 (some 1) = 0 ∧ HT.sIx (xm :: xt).length (xm :: xt).length none = (xm :: xt).length) ∧ cutV (xm :: xt) (some 1) none = xt := by
                      obtain ⟨x0, x1, x2, e⟩ := len3 ldr
                      subst e
                      exact ⟨show ¬ (HT.sIx 4 0 (some 1) = 0 ∧ HT.sIx 4 4 none = 4) by decide, rfl⟩
                    refine ⟨_, rfl, _, rfl, bb, _, rfl, sbb, hcut.1, fun p2 np2 => ?_⟩
                    rw [hcut.2]
                    have sp : Same H' (upd H' p2 (.tup xt)) := Same.up np2
                    refine ⟨_, rfl, _, _, rfl, .inr (same_tup sp _ _ Q2'), p2, xt, [c0, c1, c2], _, 4, rfl, SqT.of upd_same, dps_stay (same_tup sp) _ _ da nr, (fun d hd => gd_mem gj (List.mem_cons_of_mem _ hd)), by decide, (by show 3 ≤ 3000; decide), fun H6 s7 => ⟨_, rfl, ?_⟩⟩
                    rw [ew2]
                    cases ha : ([c0, c1, c2].all fun r => isI r 0 (ws.length : Nat)) with
                    | false =>
                      rw [ha, Bool.false_and] at hst0
                      exact iteT (qs hst0 (sp.trans s7))
                    | true => exact iteF ⟨rfl, sp.trans s7, m0, c0, c1, c2, rfl, hi0, ha⟩
              · refine iteN (fun z => h4 (by have := V.int.inj z; omega)) (qs ?_ (Same.refl H'))
                unfold storeB
                split
                · rename_i e
                  cases e
                  exact absurd rfl h4
                · rfl
            | _ => exact iteN (fun e => by simp [tyD] at e) (qs rfl (Same.refl H'))
          rintro σ H6 ⟨rfl, s7, m0, c0, c1, c2, rfl, hi0, ha⟩
          obtain ⟨bb, xs, rfl, sbb0, da0⟩ := dp_tup dx
          have sbb := same_tup s7 _ _ sbb0
          have da := dps_stay (same_tup s7) _ _ da0 nj
          cases da with
          | @cons xm xt _ _ dm0 da =>
          have ldr := dps_len da
          obtain ⟨ms, kss, en1', en2', en3', en4'⟩ := all_nat ws _ ha
          obtain ⟨ii, rfl, i0, i1⟩ := isI_iff.mp hi0
          obtain ⟨mm, rfl⟩ : ∃ n : Nat, ii = ((n : Nat) : Int) := ⟨ii.toNat, by omega⟩
          cases dm0
          obtain ⟨pp, epp⟩ : ∃ p, (md.map toPr)[mm]? = some p := ⟨_, List.getElem?_eq_getElem (by omega)⟩
          have Q16 := same_tup s7 _ _ Q1'
          have D16 := dps_stay (same_tup s7) _ _ D1' (noLs_pr _)
          have hW6 := s7 _ _ hW'
          obtain ⟨b2, hb1, hb2⟩ := pr_at D16 epp
          have hst0 : storeB (md.map toPr) ws (.tuple [.int ((mm : Nat) : Int), c0, c1, c2]) = decide (kss = [pp.1, pp.2, 1]) := by
            show (isI (.int ((mm : Nat) : Int)) 0 ((md.map toPr).length : Nat) && (([c0, c1, c2].all fun r => isI r 0 (ws.length : Nat)) && decide ([c0, c1, c2].map (fun r => ws.getD (natD r) 0) = [(((md.map toPr)[((mm : Nat) : Int).toNat]?).getD (0, 0)).1, (((md.map toPr)[((mm : Nat) : Int).toNat]?).getD (0, 0)).2, 1]))) = _
            rw [hi0, ha, Bool.true_and, Bool.true_and, en4', Int.toNat_natCast, epp]
            rfl
          have hcut : ¬ (HT.sIx (V.int ((mm : Nat) : Int) :: xt).length 0 (some 1) = 0 ∧ HT.sIx (V.int ((mm : Nat) : Int) :: xt).length (V.int ((mm : Nat) : Int) :: xt).length none = (V.int ((mm : Nat) : Int) :: xt).length) ∧ cutV (V.int ((mm : Nat) : Int) :: xt) (some 1) none = xt := by
            obtain ⟨x0, x1, x2, e⟩ := len3 ldr
            subst e
            exact ⟨show ¬ (HT.sIx 4 0 (some 1) = 0 ∧ HT.sIx 4 4 none = 4) by decide, rfl⟩
          refine ⟨_, rfl, _, rfl, bb, _, rfl, sbb, hcut.1, fun p3 np3 => ?_⟩
          rw [hcut.2]
          refine ⟨p3, rfl, ⟨_, SqT.of upd_same⟩, fun D nD => ?_⟩
          have pD : p3 ≠ D := ne_of_none upd_same nD
          have s8 : ∀ {o : HO}, Same H6 (upd (upd H6 p3 (.tup xt)) D o) := fun {o} => (Same.up np3).trans (Same.up nD)
          have lms : ms.length = 3 := by
            have := congrArg List.length en1'
            rw [List.length_map] at this
            exact this.symm
          refine lc_tup (xs := xt) (fun j H' => H' = upd (upd H6 p3 (.tup xt)) D (.lst ((kss.take j).map iV))) rfl (fun j H' _ h => ?_) (fun j x H' hx h => ?_) (fun H' h => ?_)
          · subst h
            exact SqT.of (by rw [upd_ne pD]; exact upd_same)
          · subst h
            obtain ⟨dk, hdk, dxk⟩ := dps_get da hx
            rw [en1', List.getElem?_map] at hdk
            obtain ⟨n, en⟩ : ∃ n, ms[j]? = some n := by
              cases e : ms[j]? with
              | none =>
                rw [e] at hdk
                cases hdk
              | some n => exact ⟨n, rfl⟩
            rw [en] at hdk
            cases hdk
            cases dxk
            have hj : j < ms.length := (List.getElem?_eq_some_iff.mp en).1
            obtain ⟨kv, ekv⟩ : ∃ kv, kss[j]? = some kv := ⟨_, List.getElem?_eq_getElem (by omega)⟩
            have e2 := (en3' j n en).trans ekv
            refine ⟨rfl, _, rfl, _, rfl, Wl, _, _, _, rfl, rfl, SqL.of (s8 _ _ hW6), atI_nat (int_at e2), (kss.take j).map iV, upd_same, by rw [List.length_map]; exact Nat.lt_of_le_of_lt (List.length_take_le _ _) (by rw [sizeLine_eq]; omega), ?_⟩
            rw [upd_upd, List.take_add_one, ekv, List.map_append]
            rfl
          · subst h
            rw [show xt.length = kss.length by rw [ldr, en2', lms]; rfl, List.take_length]
            have Q18 := same_tup (s8 (o := .lst (kss.map iV))) _ _ Q16
            have sb8 := same_tup (s8 (o := .lst (kss.map iV))) _ _ sbb
            have hb28 := same_tup (s8 (o := .lst (kss.map iV))) _ _ hb2
            refine ⟨_, rfl, _, rfl, _, _, _, _, rfl, rfl, sb8, atI_nat (j := 0) rfl, _, _, _, _, rfl, rfl, Q18, atI_nat hb1, _, _, _, _, rfl, rfl, hb28, atI_nat (j := 0) rfl, _, rfl, _, rfl, _, _, _, _, rfl, rfl, sb8, atI_nat (j := 0) rfl, _, _, _, _, rfl, rfl, Q18, atI_nat hb1, _, _, _, _, rfl, rfl, hb28, atI_nat (j := 1) rfl, (by show 3 ≤ sizeLine; rw [sizeLine_eq]; decide), fun z nz => ?_⟩
            have hz : (upd (upd (upd H6 p3 (.tup xt)) D (.lst (kss.map iV))) z (.lst [iV pp.1, iV pp.2, .int 1])) D = some (.lst (kss.map iV)) := by
              rw [upd_ne (ne_of_none upd_same nz)]
              exact upd_same
            refine ⟨.list (kss.map iD), .list ([pp.1, pp.2, 1].map iD), .lst (SqL.of hz) (dps_ints _), .lst (SqL.of upd_same) (dps_ints [pp.1, pp.2, 1]), shaped_list _ (cL_int _), shaped_list _ (cL_int _), _, rfl, ?_⟩
            have s9 := (s7.trans (s8 (o := .lst (kss.map iV)))).trans (Same.up (o := .lst [iV pp.1, iV pp.2, .int 1]) nz)
            rw [eqv_ints]
            by_cases hk : kss = [pp.1, pp.2, 1]
            · refine iteNS hk ⟨_, rfl, s6.trans s9, ?_⟩
              rw [e1, hst0, decide_eq_true hk, Bool.true_and]
            · exact iteN hk (qs (by rw [hst0, decide_eq_false hk]) s9)
        · obtain ⟨y9, rfl, s6, e1⟩ := h
          refine ⟨_, rfl, s6, ?_⟩
          rw [e1, dps_len D45, List.drop_length]
          rfl
      rintro σ H6 ⟨y9, rfl, s6, hst⟩
      have := q _ (u5.trans s6)
      rw [hcb, hst] at this
      exact this
end
end C1
/-! The law's things. -/
namespace C1
open PySem PySem.Spec PyProof.Rows L2 SX
theorem scThing : FnScope ["w", "many", "things"] ["w", "many"] (defScope sThing) := ⟨rfl, rfl, rfl, by decide +kernel, rfl, by decide +kernel, by decide +kernel⟩
section
variable {P : Program} {w : World} {K : PySem.W.Frag} {mg : Str → Option Value} {base : Heap} {tw tb : Tok}
def spThing (K : PySem.W.Frag) : Sp := fun vs H Q _ => ∃ (a l : Addr) (ds : List Int) (n : Int), vs = [.ref a, .int n] ∧ Wd H a l ds ∧ ∀ (H' : Hp) (v : V) (d : PyData), Kp a H H' → Wd H' a l ds → Dp K H' v d → gd 1 d = true → Q v H'
theorem ok_thing {f fN : Addr} {fd fdN : FuncData} (F : Fun K "_law_thing" "_law_thing" sThing f fd) (GN : FnOk P w K mg base CX0 1 fN fdN ["w", "many"] spNext) (kN : PySem.W.keepIn K (.ref fN) = true) (bN : Binds K fdN ["w", "many"] []) (gN : mg "_law_next" = some (.ref fN)) (B : Bl mg) :
    FnOk P w K mg base CX0 2 f fd ["w", "many"] (spThing K) := by
  refine F.ok scThing (fun vs H Q E h => ?_) (fun cdv A outer s H vs Q E hr h => ?_)
  · obtain ⟨a, l, ds, n, rfl, _⟩ := h
    rfl
  · obtain ⟨a, l, ds, n, rfl, W, q⟩ := h
    have nd := scThing.nd
    have line : ∀ n : Nat, n ≤ 200 → n ≤ sizeLine := fun n h => by
      rw [sizeLine_eq]
      omega
    refine ⟨_, (pss_cons (ps_set (i := 2) nd rfl (.inl rfl) (pe_lst (pa_cons (pe_int) (pa_cons (pe_int) (pa_cons (pe_un un_neg pe_int) (pa_cons (pv 1) (pa_cons (pe_op op_sub (pv 1) (pe_int)) (pa_cons (pe_int) (pa_cons (pe_int) (pa_cons (pe_op op_pow pe_int pe_int) (pa_cons (pe_bl) (pa_cons (pe_bl) (pa_cons (pe_non) (pa_cons (pe_str) (pa_cons (pe_str) (pa_cons (pe_str) (pa_cons (pe_tup pa_nil) (pa_cons (pe_tup (pa_cons (pe_int) (pa_cons (pe_int) pa_nil))) (pa_cons (pe_int) (pa_cons (pe_int) (pa_cons (pe_str) (pa_cons (pe_int) pa_nil))))))))))))))))))))))
      (pss_one (ps_ret (pe_ix ix_list (pv 2) (pe_call GN hr (by rfl) gN kN bN .nil pass0 (pa_cons (pv 0) (pa_cons (pe_callB call_len_seq (by rfl) B.len PySem.boot_len (pa_cons (pv 2) pa_nil)) pa_nil))) (fun _ _ => rfl))))), ?_⟩
    refine ⟨_, rfl, _, rfl, _, rfl, _, _, rfl, rfl, _, _, rfl, rfl, ⟨by decide, by decide, by decide⟩, Nat.zero_le _, fun t0 n0 => ⟨line 2 (by decide), fun t1 n1 => ⟨line 20 (by decide), fun z nz => ?_⟩⟩⟩
    have W1 := ((W.new (o := .tup []) n0).new (o := .tup [.int 1, .int 1]) n1)
    have Wz := W1.new (o := .lst [.int 0, .int 1, .int (-1), .int n, .int (n - 1), .int 32, .int 33, .int (2 ^ (32 : Int).toNat), .bl true, .bl false, .non, .str "+", .str "lit", .str "none", .ref t0, .ref t1, .int 6, .int 7, .str "reg", .int 3]) nz
    have t01 : t0 ≠ t1 := ne_of_none upd_same n1
    have t0z : t0 ≠ z := ne_of_none (by rw [upd_ne t01]; exact upd_same) nz
    have t1z : t1 ≠ z := ne_of_none upd_same nz
    refine ⟨_, rfl, _, rfl, _, rfl, z, _, rfl, .inl (SqL.of upd_same), a, l, ds, _, rfl, (by show (0 : Int) < 20; decide), Wz, fun r H1 hr1 k1 e1 W2 => ?_⟩
    have hz : H1 z = some (.lst [.int 0, .int 1, .int (-1), .int n, .int (n - 1), .int 32, .int 33, .int (2 ^ (32 : Int).toNat), .bl true, .bl false, .non, .str "+", .str "lit", .str "none", .ref t0, .ref t1, .int 6, .int 7, .str "reg", .int 3]) := by
      rw [e1 z (W1.fresh nz)]
      exact upd_same
    have h0 : H1 t0 = some (.tup []) := by
      rw [e1 t0 (W.fresh n0), upd_ne t0z, upd_ne t01]
      exact upd_same
    have h1 : H1 t1 = some (.tup [.int 1, .int 1]) := by
      rw [e1 t1 ((W.new (o := .tup []) n0).fresh n1), upd_ne t1z]
      exact upd_same
    have hr20 : r < 20 := by
      have : ((r : Nat) : Int) < 20 := hr1
      omega
    have kk : Kp a H H1 := (((Kp.new n0).trans (Kp.new n1)).trans (Kp.new nz)).trans k1
    have dp : DpAll K H1 [.int 0, .int 1, .int (-1), .int n, .int (n - 1), .int 32, .int 33, .int (2 ^ (32 : Int).toNat), .bl true, .bl false, .non, .str "+", .str "lit", .str "none", .ref t0, .ref t1, .int 6, .int 7, .str "reg", .int 3]
        [.int 0, .int 1, .int (-1), .int n, .int (n - 1), .int 32, .int 33, .int (2 ^ (32 : Int).toNat), .bool true, .bool false, .none, .str "+", .str "lit", .str "none", .tuple [], .tuple [.int 1, .int 1], .int 6, .int 7, .str "reg", .int 3] :=
      .cons (.int _) (.cons (.int _) (.cons (.int _) (.cons (.int _) (.cons (.int _) (.cons (.int _) (.cons (.int _) (.cons (.int _) (.cons (.bl _) (.cons (.bl _) (.cons .non (.cons (.str _) (.cons (.str _) (.cons (.str _) (.cons (.tup (SqT.of h0) .nil) (.cons (.tup (SqT.of h1) (.cons (.int _) (.cons (.int _) .nil))) (.cons (.int _) (.cons (.int _) (.cons (.str _) (.cons (.int _) .nil)))))))))))))))))))
    obtain ⟨d, ed⟩ : ∃ d, ([.int 0, .int 1, .int (-1), .int n, .int (n - 1), .int 32, .int 33, .int (2 ^ (32 : Int).toNat), .bool true, .bool false, .none, .str "+", .str "lit", .str "none", .tuple [], .tuple [.int 1, .int 1], .int 6, .int 7, .str "reg", .int 3] : List PyData)[r]? = some d := ⟨_, List.getElem?_eq_getElem hr20⟩
    obtain ⟨v, ev, dv⟩ := dps_put dp ed
    have ga : ∀ (r : Nat) (d : PyData), ([.int 0, .int 1, .int (-1), .int n, .int (n - 1), .int 32, .int 33, .int (2 ^ (32 : Int).toNat), .bool true, .bool false, .none, .str "+", .str "lit", .str "none", .tuple [], .tuple [.int 1, .int 1], .int 6, .int 7, .str "reg", .int 3] : List PyData)[r]? = some d → gd 1 d = true := by
      intro r d h
      have hm := List.mem_of_getElem? h
      have hall : ([.int 0, .int 1, .int (-1), .int n, .int (n - 1), .int 32, .int 33, .int (2 ^ (32 : Int).toNat), .bool true, .bool false, .none, .str "+", .str "lit", .str "none", .tuple [], .tuple [.int 1, .int 1], .int 6, .int 7, .str "reg", .int 3] : List PyData).all (gd 1) = true := rfl
      exact List.all_eq_true.mp hall d hm
    exact ⟨z, _, _, _, rfl, rfl, SqL.of hz, atI_nat ev, q H1 v d kk W2 dv (ga r d ed)⟩
end
end C1
/-! A thing of a circuit bent. -/
namespace C1
open PySem PySem.Spec PyProof.Rows L2 SX
abbrev NB : List Str := ["w", "thing", "many", "depth", "at", "turn"]
theorem scBent : FnScope NB ["w", "thing", "many", "depth"] (defScope sBent) := ⟨rfl, rfl, rfl, by decide +kernel, rfl, by decide +kernel, by decide +kernel⟩
def short : Nat → PyData → Bool
  | n + 1, .tuple ds => decide (ds.length ≤ 100) && ds.all (short n)
  | 0, .tuple _ => false
  | _, _ => true
theorem short_mem {n : Nat} {ds : List PyData} (h : short (n + 1) (.tuple ds) = true) {d : PyData} (hd : d ∈ ds) : short n d = true := List.all_eq_true.mp (Bool.and_eq_true_iff.mp h).2 d hd
theorem short_len {n : Nat} {ds : List PyData} (h : short (n + 1) (.tuple ds) = true) : ds.length ≤ 100 := of_decide_eq_true (Bool.and_eq_true_iff.mp h).1
theorem cut_take (xs : List V) (k : Nat) (h : k < xs.length) : cutV xs none (some ((k : Nat) : Int)) = xs.take k := by
  unfold cutV
  rw [HT.sIx_none, HT.sIx_nat, Nat.sub_zero, List.drop_zero, Nat.min_eq_left (by omega)]
theorem cut_drop (xs : List V) (k : Nat) (h : k < xs.length) : cutV xs (some (((k : Nat) : Int) + 1)) none = xs.drop (k + 1) := by
  unfold cutV
  rw [show ((k : Nat) : Int) + 1 = ((k + 1 : Nat) : Int) by omega, HT.sIx_none, HT.sIx_nat, Nat.min_eq_left (by omega)]
  exact List.take_of_length_le (by rw [List.length_drop]; omega)
theorem dps_take {K : PySem.W.Frag} {H : Hp} : ∀ {xs : List V} {ds : List PyData} (_ : DpAll K H xs ds) (k : Nat), DpAll K H (xs.take k) (ds.take k)
  | _, _, .nil, k => by simp; exact .nil
  | _, _, .cons _ _, 0 => .nil
  | _, _, .cons a b, k + 1 => .cons a (dps_take b k)
theorem dps_drop {K : PySem.W.Frag} {H : Hp} : ∀ {xs : List V} {ds : List PyData} (_ : DpAll K H xs ds) (k : Nat), DpAll K H (xs.drop k) (ds.drop k)
  | _, _, .nil, k => by simp; exact .nil
  | _, _, .cons a b, 0 => .cons a b
  | _, _, .cons _ b, k + 1 => dps_drop b k
theorem catA_read {K : PySem.W.Frag} {H : Hp} {a0 b0 : Addr} {xs ys : List V} {Q : VK} (hx : SqT K H a0 xs) (hy : SqT K H b0 ys) (hl : xs.length + ys.length ≤ sizeLine)
    (q : ∀ p H', Same H H' → (∀ a l ds, Wd H a l ds → Wd H' a l ds) → SqT K H' p (xs ++ ys) → Q (.ref p) H') : rCatA K (.ref a0) (.ref b0) H Q := by
  refine ⟨a0, b0, xs, ys, rfl, rfl, hx, hy, hl, fun e => ?_, fun e1 e2 => ?_, fun e1 e2 p np => ?_⟩
  · refine q b0 H (Same.refl H) (fun _ _ _ W => W) ?_
    rw [e]
    exact hy
  · refine q a0 H (Same.refl H) (fun _ _ _ W => W) ?_
    rw [e2, List.append_nil]
    exact hx
  · exact q p _ (Same.up np) (fun _ _ _ W => W.new np) (SqT.of upd_same)
theorem Same.kp {H H' : Hp} {a : Addr} (s : Same H H') : Kp a H H' := fun b o _ e => s b o e
section
variable {P : Program} {w : World} {K : PySem.W.Frag} {mg : Str → Option Value} {base : Heap} {tw tb : Tok}
def spBent (K : PySem.W.Frag) (k : Nat) : Sp := fun vs H Q _ => ∃ (a l : Addr) (ds : List Int) (v : V) (d : PyData) (n dep : Int) (m : Nat), vs = [.ref a, v, .int n, .int dep] ∧ Wd H a l ds ∧ Dp K H v d ∧ gd m d = true ∧ short m d = true ∧ m ≤ 5 ∧ 3 ≤ dep + (k : Nat) ∧
  ∀ (H' : Hp) (v' : V) (d' : PyData), Kp a H H' → Wd H' a l ds → Dp K H' v' d' → gd (m + 1) d' = true → Q v' H'
theorem ok_bent0 {f fN fT : Addr} {fd fdN fdT : FuncData} (F : Fun K "_law_bent_in" "_law_bent_in" sBent f fd) (G : Gp mg tw tb) (GI : mg "isinstance" = none) (B : Bl mg)
    (GN : FnOk P w K mg base CX0 1 fN fdN ["w", "many"] spNext) (kN : PySem.W.keepIn K (.ref fN) = true) (bN : Binds K fdN ["w", "many"] []) (gN : mg "_law_next" = some (.ref fN))
    (GTh : FnOk P w K mg base CX0 2 fT fdT ["w", "many"] (spThing K)) (kTh : PySem.W.keepIn K (.ref fT) = true) (bTh : Binds K fdT ["w", "many"] []) (gTh : mg "_law_thing" = some (.ref fT)) :
    FnOk P w K mg base CX0 3 f fd ["w", "thing", "many", "depth"] (spBent K 0) := by
  refine F.ok scBent (fun vs H Q E h => ?_) (fun cdv A outer s H vs Q E hr h => ?_)
  · obtain ⟨a, l, ds, v, d, n, dep, m, rfl, _⟩ := h
    rfl
  · obtain ⟨a, l, ds, v, d, n, dep, m, rfl, W, hd, hg, hs, hm, hdep, q⟩ := h
    have nd := scBent.nd
    have hr2 := hr
    have hr1 : Room 1 _ := hr.mono (by decide)
    have hu := hr.units
    have th : ∀ {H2 : Hp}, Kp a H H2 → ∀ (H' : Hp) (v' : V) (d' : PyData), Kp a H2 H' → Wd H' a l ds → Dp K H' v' d' → gd 1 d' = true → Q v' H' := fun k2 H' v' d' k3 W3 dv gv => q H' v' d' (k2.trans k3) W3 dv (gd_le gv (by omega))
    refine ⟨_, (pss_cons (ps_if (PW.pt (pw_or (pt_not (pt_val (pe_callB call_isi (by rfl) GI (by decide +kernel) (pa_cons (pv 1) (pa_cons (pe_bltn (v := .ty "tuple") (by rfl) G.tu (by decide +kernel) rfl) pa_nil))))) (pw_or (pt_cmpR (op_eqD hu) (pv 1) (pe_tup pa_nil) (nomark _)) (pw_or (pt_cmpR op_gt (pv 3) (pe_int) (nomark _)) (pw_or1 (pt_cmpR op_eq (pe_call GN hr1 (by rfl) gN kN bN .nil pass0 (pa_cons (pv 0) (pa_cons (pe_int) pa_nil))) (pe_int) (nomark _))))))) (pss_one (ps_ret (pe_call GTh hr2 (by rfl) gTh kTh bTh .nil pass0 (pa_cons (pv 0) (pa_cons (pv 2) pa_nil))))) pss_nil)
      (pss_cons ps_never (pss_cons ps_never (pss_cons ps_never (pss_cons ps_never (pss_one ps_never)))))), ?_⟩
    have hnl := (gd_ok m d hg).1
    refine ⟨_, rfl, v, _, _, _, _, rfl, .ty "tuple", tyx_of hd hnl, kit_ty (kit_one "tuple" (.inr (.inl rfl)) d hnl), _, rfl, ?_⟩
    cases d with
    | tuple es =>
      refine iteNS rfl ?_
      refine ⟨_, rfl, Nat.zero_le _, fun e0 ne0 => ?_⟩
      have s0 : Same H (upd H e0 (.tup [])) := Same.up ne0
      have W0 := W.new (o := .tup []) ne0
      have k0 : Kp a H (upd H e0 (.tup [])) := Kp.new ne0
      refine ⟨.tuple es, .tuple [], dp_stay (same_tup s0) _ _ hd hnl, .tup (SqT.of upd_same) .nil, gd_shaped hg (by omega), (by decide +kernel), _, rfl, ?_⟩
      have ee : PyData.eqv (.tuple es) (.tuple []) = es.isEmpty := by
        cases es <;> rfl
      rw [ee]
      refine ite2 (fun _ => ⟨_, rfl, _, rfl, a, l, ds, n, rfl, W0, th k0⟩) (fun hne => ?_)
      refine ⟨_, rfl, _, _, rfl, rfl, _, rfl, ite2 (fun _ => ⟨_, rfl, _, rfl, a, l, ds, n, rfl, W0, th k0⟩) (fun hdp => ?_)⟩
      exact absurd (decide_eq_true (show (2 : Int) < dep by omega)) hdp
    | _ => exact iteN (fun e => by simp [tyD] at e) ⟨_, rfl, _, rfl, a, l, ds, n, rfl, W, th (Kp.refl H)⟩
theorem ok_bentS {f fN fT : Addr} {fd fdN fdT : FuncData} (j : Nat) (F : Fun K "_law_bent_in" "_law_bent_in" sBent f fd) (G : Gp mg tw tb) (GI : mg "isinstance" = none) (B : Bl mg)
    (GN : FnOk P w K mg base CX0 1 fN fdN ["w", "many"] spNext) (kN : PySem.W.keepIn K (.ref fN) = true) (bN : Binds K fdN ["w", "many"] []) (gN : mg "_law_next" = some (.ref fN))
    (GTh : FnOk P w K mg base CX0 2 fT fdT ["w", "many"] (spThing K)) (kTh : PySem.W.keepIn K (.ref fT) = true) (bTh : Binds K fdT ["w", "many"] []) (gTh : mg "_law_thing" = some (.ref fT))
    (GB : FnOk P w K mg base CX0 (3 + j) f fd ["w", "thing", "many", "depth"] (spBent K j)) (kB : PySem.W.keepIn K (.ref f) = true) (bB : Binds K fd ["w", "thing", "many", "depth"] []) (gB : mg "_law_bent_in" = some (.ref f)) :
    FnOk P w K mg base CX0 (3 + j + 1) f fd ["w", "thing", "many", "depth"] (spBent K (j + 1)) := by
  refine F.ok scBent (fun vs H Q E h => ?_) (fun cdv A outer s H vs Q E hr h => ?_)
  · obtain ⟨a, l, ds, v, d, n, dep, m, rfl, _⟩ := h
    rfl
  · obtain ⟨a, l, ds, v, d, n, dep, m, rfl, W, hd, hg, hs, hm, hdep, q⟩ := h
    have nd := scBent.nd
    have hr2 : Room 2 _ := hr.mono (by omega)
    have hr1 : Room 1 _ := hr.mono (by omega)
    have hu := hr.units
    have th : ∀ {H2 : Hp}, Kp a H H2 → ∀ (H' : Hp) (v' : V) (d' : PyData), Kp a H2 H' → Wd H' a l ds → Dp K H' v' d' → gd 1 d' = true → Q v' H' := fun k2 H' v' d' k3 W3 dv gv => q H' v' d' (k2.trans k3) W3 dv (gd_le gv (by omega))
    refine ⟨_, (pss_cons (ps_if (PW.pt (pw_or (pt_not (pt_val (pe_callB call_isi (by rfl) GI (by decide +kernel) (pa_cons (pv 1) (pa_cons (pe_bltn (v := .ty "tuple") (by rfl) G.tu (by decide +kernel) rfl) pa_nil))))) (pw_or (pt_cmpR (op_eqD hu) (pv 1) (pe_tup pa_nil) (nomark _)) (pw_or (pt_cmpR op_gt (pv 3) (pe_int) (nomark _)) (pw_or1 (pt_cmpR op_eq (pe_call GN hr1 (by rfl) gN kN bN .nil pass0 (pa_cons (pv 0) (pa_cons (pe_int) pa_nil))) (pe_int) (nomark _))))))) (pss_one (ps_ret (pe_call GTh hr2 (by rfl) gTh kTh bTh .nil pass0 (pa_cons (pv 0) (pa_cons (pv 2) pa_nil))))) pss_nil)
      (pss_cons (ps_set (i := 4) nd rfl (.inl rfl) (pe_call GN hr1 (by rfl) gN kN bN .nil pass0 (pa_cons (pv 0) (pa_cons (pe_callB call_len_seq (by rfl) B.len PySem.boot_len (pa_cons (pv 1) pa_nil)) pa_nil))))
      (pss_cons (ps_set (i := 5) nd rfl (.inl rfl) (pe_call GN hr1 (by rfl) gN kN bN .nil pass0 (pa_cons (pv 0) (pa_cons (pe_int) pa_nil))))
      (pss_cons (ps_if (pt_cmpR op_eq (pv 5) (pe_int) (nomark _)) (pss_one (ps_ret (pe_op op_catA (pe_slice sl_tup (pv 1) po_none (po_some (pv 4))) (pe_slice sl_tup (pv 1) (po_some (pe_op op_add (pv 4) (pe_int))) po_none)))) pss_nil)
      (pss_cons (ps_if (pt_cmpR op_eq (pv 5) (pe_int) (nomark _)) (pss_one (ps_ret (pe_op op_catA (pv 1) (pe_tup (pa_cons (pe_ix ix_tup (pv 1) (pv 4) (fun _ _ => rfl)) pa_nil))))) pss_nil)
      (pss_one (ps_ret (pe_op op_catA (pe_op op_catA (pe_slice sl_tup (pv 1) po_none (po_some (pv 4))) (pe_tup (pa_cons (pe_call GB hr (by rfl) gB kB bB .nil pass0 (pa_cons (pv 0) (pa_cons (pe_ix ix_tup (pv 1) (pv 4) (fun _ _ => rfl)) (pa_cons (pv 2) (pa_cons (pe_op op_add (pv 3) (pe_int)) pa_nil))))) pa_nil))) (pe_slice sl_tup (pv 1) (po_some (pe_op op_add (pv 4) (pe_int))) po_none))))))))), ?_⟩
    have hnl := (gd_ok m d hg).1
    refine ⟨_, rfl, v, _, _, _, _, rfl, .ty "tuple", tyx_of hd hnl, kit_ty (kit_one "tuple" (.inr (.inl rfl)) d hnl), _, rfl, ?_⟩
    cases d with
    | tuple es =>
      refine iteNS rfl ?_
      refine ⟨_, rfl, Nat.zero_le _, fun e0 ne0 => ?_⟩
      have s0 : Same H (upd H e0 (.tup [])) := Same.up ne0
      have W0 := W.new (o := .tup []) ne0
      have k0 : Kp a H (upd H e0 (.tup [])) := Kp.new ne0
      refine ⟨.tuple es, .tuple [], dp_stay (same_tup s0) _ _ hd hnl, .tup (SqT.of upd_same) .nil, gd_shaped hg (by omega), (by decide +kernel), _, rfl, ?_⟩
      have ee : PyData.eqv (.tuple es) (.tuple []) = es.isEmpty := by
        cases es <;> rfl
      rw [ee]
      refine ite2 (fun _ => ⟨_, rfl, _, rfl, a, l, ds, n, rfl, W0, th k0⟩) (fun hne => ?_)
      refine ⟨_, rfl, _, _, rfl, rfl, _, rfl, ite2 (fun _ => ⟨_, rfl, _, rfl, a, l, ds, n, rfl, W0, th k0⟩) (fun hdp => ?_)⟩
      refine ⟨_, rfl, a, l, ds, 9, rfl, by decide, W0, fun r3 H3 hr3 k3 _ W3 => ⟨rfl, _, rfl, ite2 (fun _ => ⟨_, rfl, _, rfl, a, l, ds, n, rfl, W3, th (k0.trans k3)⟩) (fun _ => ?_)⟩⟩
      obtain ⟨_, _, eW⟩ := W.at'
      have k03 := k0.trans k3
      obtain ⟨b, xs, rfl, sb, da⟩ := dp_tup hd
      have lda := dps_len da
      have hpos : 0 < es.length := by
        cases es with
        | nil => exact absurd rfl hne
        | cons _ _ => exact Nat.zero_lt_succ _
      obtain ⟨m, rfl⟩ : ∃ m', m = m' + 1 := by
        cases m with
        | zero => cases hg
        | succ m' => exact ⟨m', rfl⟩
      have hlen := short_len hs
      refine ⟨_, rfl, _, rfl, b, _, rfl, .inr (kp_tup eW k03 _ _ sb), a, l, ds, _, rfl, by omega, W3, fun at' H4 hat k4 _ W4 => ?_⟩
      have hat2 : at' < es.length := by omega
      refine ⟨_, rfl, a, l, ds, 12, rfl, by decide, W4, fun tn H5 htn k5 _ W5 => ?_⟩
      have k05 := (k03.trans k4).trans k5
      have sb5 := kp_tup eW k05 _ _ sb
      have da5 := stay_dps W k05 hnl da
      have gt : ∀ d ∈ es.take at', gd (m + 1) d = true := fun d hd => gd_mono _ _ (gd_mem hg (List.mem_of_mem_take hd))
      have gdr : ∀ d ∈ es.drop (at' + 1), gd (m + 1) d = true := fun d hd => gd_mono _ _ (gd_mem hg (List.mem_of_mem_drop hd))
      have nlt : noLs (es.take at') = true := noLs_of gt
      have nld : noLs (es.drop (at' + 1)) = true := noLs_of gdr
      have nw1 : ¬ (HT.sIx xs.length 0 none = 0 ∧ HT.sIx xs.length xs.length (some ((at' : Nat) : Int)) = xs.length) := fun z => by
        have := z.2
        rw [HT.sIx_nat] at this
        omega
      have nw2 : ¬ (HT.sIx xs.length 0 (some (((at' : Nat) : Int) + 1)) = 0 ∧ HT.sIx xs.length xs.length none = xs.length) := fun z => by
        have := z.1
        rw [show ((at' : Nat) : Int) + 1 = ((at' + 1 : Nat) : Int) by omega, HT.sIx_nat] at this
        omega
      have big : 1000 ≤ sizeLine := by
        rw [sizeLine_eq]
        decide
      obtain ⟨x, ex⟩ : ∃ x, es[at']? = some x := ⟨_, List.getElem?_eq_getElem hat2⟩
      obtain ⟨vx, evx, dvx⟩ := dps_put da ex
      have gx := gd_mem hg (List.mem_of_getElem? ex)
      have sx := short_mem hs (List.mem_of_getElem? ex)
      have nx := (gd_ok _ _ gx).1
      refine ⟨_, rfl, rfl, _, rfl, ite2 (fun _ => ?_) (fun _ => ?_)⟩
      · refine ⟨_, rfl, _, rfl, _, rfl, b, _, rfl, sb5, nw1, fun p1 np1 => ?_⟩
        have s1 : Same H5 (upd H5 p1 (.tup (cutV xs none (some ((at' : Nat) : Int))))) := Same.up np1
        refine ⟨_, rfl, _, rfl, _, _, rfl, rfl, _, rfl, b, _, rfl, same_tup s1 _ _ sb5, nw2, fun p2 np2 => ?_⟩
        have s2 := s1.trans (Same.up (o := .tup (cutV xs (some (((at' : Nat) : Int) + 1)) none)) np2)
        refine catA_read (xs := cutV xs none (some ((at' : Nat) : Int))) (ys := cutV xs (some (((at' : Nat) : Int) + 1)) none) (same_tup (Same.up np2) _ _ (SqT.of upd_same)) (SqT.of upd_same) (Nat.le_trans (Nat.add_le_add (cutV_length _ _ _) (cutV_length _ _ _)) (by omega)) fun p H' s3 w3 hq => ?_
        rw [cut_take xs at' (by omega), cut_drop xs at' (by omega)] at hq
        have s4 := s2.trans s3
        refine q H' _ (.tuple (es.take at' ++ es.drop (at' + 1))) (k05.trans (C1.Same.kp s4)) (w3 _ _ _ ((W5.new np1).new np2)) (.tup hq (dps_app (dps_stay (same_tup s4) _ _ (dps_take da5 at') nlt) (dps_stay (same_tup s4) _ _ (dps_drop da5 (at' + 1)) nld))) (gd_tup (by rw [List.length_append, List.length_take, List.length_drop]; omega) fun d hd => (List.mem_append.mp hd).elim (gt d) (gdr d))
      · refine ⟨_, rfl, rfl, _, rfl, ite2 (fun _ => ?_) (fun _ => ?_)⟩
        · refine ⟨_, rfl, _, rfl, _, rfl, b, _, _, _, rfl, rfl, sb5, atI_nat evx, Nat.le_trans (by decide : 1 ≤ 1000) big, fun p1 np1 => ?_⟩
          have s1 : Same H5 (upd H5 p1 (.tup [vx])) := Same.up np1
          refine catA_read (xs := xs) (ys := [vx]) (same_tup s1 _ _ sb5) (SqT.of upd_same) (by show xs.length + 1 ≤ sizeLine; omega) fun p H' s3 w3 hq => ?_
          have s4 := s1.trans s3
          have dvx5 : Dp K H5 vx x := dp_stay (kp_tup eW k05) _ _ dvx nx
          refine q H' _ (.tuple (es ++ [x])) (k05.trans (C1.Same.kp s4)) (w3 _ _ _ (W5.new np1)) (.tup hq (dps_app (dps_stay (same_tup s4) _ _ da5 hnl) (.cons (dp_stay (same_tup s4) _ _ dvx5 nx) .nil))) (gd_tup (by rw [List.length_append]; show es.length + 1 ≤ 1000; omega) fun d hd => ?_)
          rcases List.mem_append.mp hd with h | h
          · exact gd_mono _ _ (gd_mem hg h)
          · rw [List.mem_singleton.mp h]
            exact gd_mono _ _ gx
        · refine ⟨_, rfl, _, rfl, _, rfl, b, _, rfl, sb5, nw1, fun p1 np1 => ?_⟩
          have s1 : Same H5 (upd H5 p1 (.tup (cutV xs none (some ((at' : Nat) : Int))))) := Same.up np1
          have W6 := W5.new (o := .tup (cutV xs none (some ((at' : Nat) : Int)))) np1
          have k06 := k05.trans (Kp.new (o := .tup (cutV xs none (some ((at' : Nat) : Int)))) np1)
          refine ⟨_, rfl, _, rfl, _, rfl, b, _, _, _, rfl, rfl, same_tup s1 _ _ sb5, atI_nat evx, _, rfl, _, rfl, _, _, rfl, rfl, a, l, ds, vx, x, n, dep + 1, m, rfl, W6, dp_stay (kp_tup eW k06) _ _ dvx nx, gx, sx, by omega, by omega, fun H7 v' d' k7 W7 dv gv => ?_⟩
          obtain ⟨_, _, eW6⟩ := W6.at'
          have nd' := (gd_ok _ _ gv).1
          have k07 := k06.trans k7
          refine ⟨Nat.le_trans (by decide : 1 ≤ 1000) big, fun p2 np2 => ?_⟩
          have s8 : Same H7 (upd H7 p2 (.tup [v'])) := Same.up np2
          refine catA_read (xs := cutV xs none (some ((at' : Nat) : Int))) (ys := [v']) (same_tup s8 _ _ (kp_tup eW6 k7 _ _ (SqT.of upd_same))) (SqT.of upd_same) (Nat.le_trans (Nat.add_le_add_right (cutV_length _ _ _) 1) (by omega)) fun p9 H9 s9 w9 hq9 => ?_
          have s79 := s8.trans s9
          have W9 := w9 _ _ _ (W7.new np2)
          have k09 := k07.trans (C1.Same.kp s79)
          refine ⟨_, rfl, _, rfl, _, _, rfl, rfl, _, rfl, b, _, rfl, kp_tup eW k09 _ _ sb, nw2, fun p3 np3 => ?_⟩
          have sA : Same H9 (upd H9 p3 (.tup (cutV xs (some (((at' : Nat) : Int) + 1)) none))) := Same.up np3
          refine catA_read (xs := cutV xs none (some ((at' : Nat) : Int)) ++ [v']) (ys := cutV xs (some (((at' : Nat) : Int) + 1)) none) (same_tup sA _ _ hq9) (SqT.of upd_same) ?_ fun p H' sB wB hq => ?_
          · rw [List.length_append]
            have h1 := cutV_length xs none (some ((at' : Nat) : Int))
            have h2 := cutV_length xs (some (((at' : Nat) : Int) + 1)) none
            show (cutV xs none (some ((at' : Nat) : Int))).length + 1 + _ ≤ sizeLine
            omega
          rw [cut_take xs at' (by omega), cut_drop xs at' (by omega)] at hq
          have sC := sA.trans sB
          have kf := k09.trans (C1.Same.kp sC)
          refine q H' _ (.tuple ((es.take at' ++ [d']) ++ es.drop (at' + 1))) kf (wB _ _ _ (W9.new np3)) (.tup hq (dps_app (dps_app (stay_dps W kf nlt (dps_take da at')) (.cons (dp_stay (same_tup (s79.trans sC)) _ _ dv nd') .nil)) (stay_dps W kf nld (dps_drop da (at' + 1))))) (gd_tup ?_ fun d hd => ?_)
          · rw [List.length_append, List.length_append, List.length_take, List.length_drop]
            show min at' es.length + 1 + _ ≤ 1000
            omega
          · rcases List.mem_append.mp hd with h | h
            · rcases List.mem_append.mp h with h | h
              · exact gt d h
              · rw [List.mem_singleton.mp h]
                exact gv
            · exact gdr d h
    | _ => exact iteN (fun e => by simp [tyD] at e) ⟨_, rfl, _, rfl, a, l, ds, n, rfl, W, th (Kp.refl H)⟩
end
end C1
/-! The law. -/
namespace C1
open PySem PySem.Spec PyProof.Rows L2 SX
abbrev NLw : List Str := ["script", "w", "turn", "circuit", "k", "other", "told"]
theorem scLaw : FnScope NLw ["script"] (defScope sLaw) := ⟨rfl, rfl, rfl, by decide +kernel, rfl, by decide +kernel, by decide +kernel⟩
theorem wd_merge (l : Addr) (n : Int) : mergeK [] [(.inr ("draws" : Str), .ref l), (.inr ("at" : Str), .int n)] = wdL l n := by
  have h1 : ¬ (Sum.inr ("draws" : Str) : Key) = Sum.inr ("at" : Str) := by decide
  unfold mergeK wdL
  simp [putK, h1]
theorem ckt_short {c : Ckt} {ws : List Nat} (h : CktOk c ws) : short 3 c.d = true := by
  have st1 : ∀ (n : Nat) (ds : List PyData), ds.length ≤ 100 → (∀ d ∈ ds, short n d = true) → short (n + 1) (.tuple ds) = true := fun n ds hl hd => Bool.and_eq_true_iff.mpr ⟨decide_eq_true hl, List.all_eq_true.mpr hd⟩
  have hi : ∀ (n : Nat) (ks : List Nat), ∀ d ∈ ks.map iD, short n d = true := fun n ks d hd => by
    obtain ⟨k, _, e⟩ := List.mem_map.mp hd
    subst e
    cases n <;> rfl
  have hp : ∀ (ps : List (Nat × Nat)), ∀ d ∈ ps.map pr, short 1 d = true := fun ps d hd => by
    obtain ⟨⟨x, y⟩, _, e⟩ := List.mem_map.mp hd
    subst e
    rfl
  have lw := h.lw
  have lrw := rows_len h.rw
  have nlen := h.nl
  have h1 := h.lr
  have h2 := h.lm
  have h3 := h.sl
  have h4 := h.ol
  refine st1 2 _ (by show 6 ≤ 100; decide) fun d hd => ?_
  have hd' : d = .tuple (c.regs.map pr) ∨ d = .tuple (c.mems.map pr) ∨ d = .tuple (c.rows.map Row.d) ∨ d = .tuple (c.nexts.map iD) ∨ d = .tuple (c.stores.map stD) ∨ d = .tuple (c.outs.map iD) := by
    simpa using hd
  rcases hd' with e | e | e | e | e | e
  · subst e
    exact st1 1 _ (by rw [List.length_map]; omega) (hp _)
  · subst e
    exact st1 1 _ (by rw [List.length_map]; omega) (hp _)
  · subst e
    refine st1 1 _ (by rw [List.length_map]; omega) fun d hd => ?_
    obtain ⟨r, _, e⟩ := List.mem_map.mp hd
    subst e
    cases r <;> rfl
  · subst e
    exact st1 1 _ (by rw [List.length_map]; omega) (hi _ _)
  · subst e
    refine st1 1 _ (by rw [List.length_map]; omega) fun d hd => ?_
    obtain ⟨r, _, e⟩ := List.mem_map.mp hd
    subst e
    rfl
  · subst e
    exact st1 1 _ (by rw [List.length_map]; omega) (hi _ _)
theorem Wd.same {H H' : Hp} {a l : Addr} {ds : List Int} (W : Wd H a l ds) (s : Same H H') : Wd H' a l ds := by
  obtain ⟨n, n0, e⟩ := W.at'
  exact ⟨⟨n, n0, s _ _ e⟩, s _ _ W.dr, W.len⟩
section
variable {P : Program} {w : World} {K : PySem.W.Frag} {mg : Str → Option Value} {base : Heap} {tw tb : Tok}
def spLaw (K : PySem.W.Frag) : Sp := fun vs H Q _ => ∃ (a : Addr) (ns : List Int), vs = [.ref a] ∧ SqL K H a (ns.map V.int) ∧ ns.length ≤ 63 ∧ ∀ H', Q (.bl true) H'
theorem ok_law {f fD fC fF fI fB : Addr} {fd fdD fdC fdF fdI fdB : FuncData} (F : Fun K "law" "law" sLaw f fd) (B : Bl mg) (GI : mg "isinstance" = none) (GBo : mg "bool" = none)
    (GD : FnOk P w K mg base CX0 1 fD fdD ["script", "many"] (spDraws K)) (kD : PySem.W.keepIn K (.ref fD) = true) (bD : Binds K fdD ["script", "many"] []) (gD : mg "_law_draws" = some (.ref fD))
    (GC : FnOk P w K mg base CX0 3 fC fdC ["w", "most"] (spCircuit K)) (kC : PySem.W.keepIn K (.ref fC) = true) (bC : Binds K fdC ["w", "most"] []) (gC : mg "_law_circuit" = some (.ref fC))
    (GF : FnOk P w K mg base CX0 4 fF fdF ["thing"] (spFits K)) (kF : PySem.W.keepIn K (.ref fF) = true) (bF : Binds K fdF ["thing"] []) (gF : mg "_law_fits" = some (.ref fF))
    (GIc : FnOk P w K mg base CX0 5 fI fdI ["thing"] (spIsCircuit K)) (kIc : PySem.W.keepIn K (.ref fI) = true) (bIc : Binds K fdI ["thing"] []) (gIc : mg "is_circuit" = some (.ref fI))
    (GB : FnOk P w K mg base CX0 6 fB fdB ["w", "thing", "many", "depth"] (spBent K 3)) (kB : PySem.W.keepIn K (.ref fB) = true) (bB : Binds K fdB ["w", "thing", "many", "depth"] []) (gB : mg "_law_bent_in" = some (.ref fB)) :
    FnOk P w K mg base CX0 7 f fd ["script"] (spLaw K) := by
  refine F.ok scLaw (fun vs H Q E h => ?_) (fun cdv A outer s H vs Q E hr h => ?_)
  · obtain ⟨a, ns, rfl, _⟩ := h
    rfl
  · obtain ⟨a, ns, rfl, hS, hlen, q⟩ := h
    have nd := scLaw.nd
    have hr6 := hr
    have hr5 : Room 5 _ := hr.mono (by decide)
    have hr4 : Room 4 _ := hr.mono (by decide)
    have hr3 : Room 3 _ := hr.mono (by decide)
    have hr1 : Room 1 _ := hr.mono (by decide)
    refine ⟨_, (pss_cons (ps_set (i := 1) nd rfl (.inl rfl) (pe_disp (pps_cons pe_str (pe_call GD hr1 (by rfl) gD kD bD .nil pass0 (pa_cons (pv 0) (pa_cons (pe_int) pa_nil))) (pps_cons pe_str pe_int pps_nil)) rfl rfl (by intro z; cases z) (by decide)))
      (pss_cons (ps_for PassesOwn.never rfl (pi_range1 (by rfl) B.range (pa_cons (pe_int) pa_nil)) (pg_name (i := 2) nd rfl (.inl rfl)) (pss_cons (ps_set (i := 3) nd rfl (.inl rfl) (pe_call GC hr3 (by rfl) gC kC bC .nil pass0 (pa_cons (pv 1) (pa_cons (pe_int) pa_nil))))
      (pss_cons (ps_if (PW.pt (pw_or (pt_not (pt_val (pe_call GF hr4 (by rfl) gF kF bF .nil pass0 (pa_cons (pv 3) pa_nil)))) (pw_or1 (pt_cmpR op_isnot_bl (pe_call GIc hr5 (by rfl) gIc kIc bIc .nil pass0 (pa_cons (pv 3) pa_nil)) (pe_bl) (nomark _))))) (pss_one (ps_ret (pe_bl))) pss_nil)
      (pss_one (ps_for PassesOwn.never rfl (pi_range1 (by rfl) B.range (pa_cons (pe_int) pa_nil)) (pg_name (i := 4) nd rfl (.inl rfl)) (pss_cons (ps_set (i := 5) nd rfl (.inl rfl) (pe_call GB hr6 (by rfl) gB kB bB .nil pass0 (pa_cons (pv 1) (pa_cons (pv 3) (pa_cons (pe_callB call_len_seq (by rfl) B.len PySem.boot_len (pa_cons (pe_ix ix_tup (pv 3) (pe_int) (fun _ _ => rfl)) pa_nil)) (pa_cons (pe_int) pa_nil))))))
      (pss_cons (ps_set (i := 6) nd rfl (.inl rfl) (pe_call GIc hr5 (by rfl) gIc kIc bIc .nil pass0 (pa_cons (pv 5) pa_nil)))
      (pss_one (ps_if (PW.pt (pw_or (pt_not (pt_val (pe_callB call_isi (by rfl) GI (by decide +kernel) (pa_cons (pv 6) (pa_cons (pe_bltn (v := .ty "bool") (by rfl) GBo (by decide +kernel) rfl) pa_nil))))) (pw_or1 (pt_cmpR op_ne (pv 6) (pe_call GF hr4 (by rfl) gF kF bF .nil pass0 (pa_cons (pv 5) pa_nil)) (nomark _))))) (pss_one (ps_ret (pe_bl))) pss_nil)))))))))
      (pss_one (ps_ret (pe_bl))))), ?_⟩
    refine fun wa nwa => ?_
    refine ⟨_, rfl, a, ns, 420, rfl, (same_new nwa).seq hS, hlen, by decide, fun H1 l ds s1 nl el lds => ?_⟩
    have hwa1 : H1 wa = some (.dK []) := s1 _ _ upd_same
    refine ⟨hwa1, [(.inr ("draws" : Str), .ref l), (.inr ("at" : Str), .int 0)], rfl, (by show 2 ≤ 15; decide), ?_⟩
    rw [wd_merge]
    have nlw : l ≠ wa := fun z => by
      rw [z, upd_same] at nl
      cases nl
    have W : Wd (upd H1 wa (.dK (wdL l 0))) wa l ds := ⟨⟨0, Int.le_refl 0, upd_same⟩, by rw [upd_ne nlw]; exact el, lds⟩
    refine ⟨_, rfl, by decide, by decide, for_range (n := 2) (fun i σ H' => ∃ y2 y3 y4 y5 y6 : Option V, σ = [some (.ref a), some (.ref wa), y2, y3, y4, y5, y6] ∧ Wd H' wa l ds) ⟨_, _, _, _, _, rfl, W⟩ (fun i σ H' hi h => ?_) (fun σ H' h => q H')⟩
    obtain ⟨y2, y3, y4, y5, y6, rfl, W'⟩ := h
    refine ⟨_, rfl, wa, l, ds, 12, rfl, by decide, by decide, W', fun H2 p c ws k2 W2 hp hc => ?_⟩
    have hcirc := ckt_circ hc
    have hgd := ckt_gd hc
    have hsh := ckt_short hc
    have hnl := (gd_ok 3 _ hgd).1
    refine ⟨_, rfl, .ref p, c.d, 3, rfl, hp, hgd, by decide, fun H3 s3 => ⟨_, rfl, ?_⟩⟩
    rw [hcirc]
    refine iteF ?_
    have hp3 := dp_stay (same_tup s3) _ _ hp hnl
    refine ⟨_, rfl, .ref p, c.d, 3, rfl, hp3, hgd, by decide, fun H4 s4 => ⟨_, _, rfl, rfl, _, rfl, ?_⟩⟩
    rw [hcirc]
    refine iteNS rfl ?_
    have W4 := C1.Wd.same (C1.Wd.same W2 s3) s4
    have hp4 := dp_stay (same_tup s4) _ _ hp3 hnl
    refine ⟨_, rfl, by decide, by decide, for_range (n := 8) (fun j σ H' => ∃ y2 y4 y5 y6 : Option V, σ = [some (.ref a), some (.ref wa), y2, some (.ref p), y4, y5, y6] ∧ Wd H' wa l ds ∧ Dp K H' (.ref p) c.d) ⟨_, _, _, _, rfl, W4, hp4⟩ (fun j σ H' hj h => ?_) (fun σ H' h => ?_)⟩
    · obtain ⟨y2, y4, y5, y6, rfl, W5, hp5⟩ := h
      obtain ⟨b, xs, eb, sb, da⟩ := dp_tup hp5
      cases eb
      obtain ⟨x2, ex2, dx2⟩ := dps_put da (i := 2) rfl
      obtain ⟨b2, ys, rfl, sb2, _⟩ := dp_tup dx2
      refine ⟨_, rfl, _, rfl, _, rfl, _, _, _, _, rfl, rfl, sb, atI_nat (j := 2) ex2, _, _, rfl, .inr sb2, wa, l, ds, .ref p, c.d, _, 0, 3, rfl, W5, hp5, hgd, hsh, by decide, by decide, fun H6 v' d' k6 W6 dv gv => ?_⟩
      have nl' := (gd_ok 4 _ gv).1
      obtain ⟨_, _, eW⟩ := W5.at'
      have hp6 := dp_stay (kp_tup eW k6) _ _ hp5 hnl
      refine ⟨_, rfl, v', d', 4, rfl, dv, gv, by decide, fun H7 s7 => ?_⟩
      have dv7 := dp_stay (same_tup s7) _ _ dv nl'
      refine ⟨_, rfl, .bl (circB d'), _, _, _, _, rfl, .ty "bool", tyx_of (K := K) (H := H7) (.bl (circB d')) rfl, kit_ty (kit_one "bool" (.inl rfl) (.bool (circB d')) rfl), _, rfl, iteNS rfl ?_⟩
      refine ⟨_, rfl, _, rfl, v', d', 4, rfl, dv7, gv, by decide, fun H8 s8 => ⟨rfl, _, rfl, iteNS rfl ⟨_, _, _, _, rfl, C1.Wd.same (C1.Wd.same W6 s7) s8, dp_stay (same_tup (s7.trans s8)) _ _ hp6 hnl⟩⟩⟩
    · obtain ⟨y2, y4, y5, y6, rfl, W5, _⟩ := h
      exact ⟨_, _, _, _, _, rfl, W5⟩
end
end C1
/-! What the top leaves, and the end. -/
namespace C1
open PySem PySem.Spec PyProof.Rows L2 SX
theorem all_mk {l : PySem.W.OpenLaw} {w : World} {K : PySem.W.Frag} {h : Heap} {mg : Str → Option Value} {fa : Addr} (X : K.In h) (G : h.Ns mainGlobals mg) (hfa : mg "law" = some (.ref fa))
    {f0 : Addr} {od0 an0 : Option Addr} {sl0 : Array (Option Value)} {oc0 kV0 dc0 pm0 cd0 ct0 : Value}
    {f1 : Addr} {od1 an1 : Option Addr} {sl1 : Array (Option Value)} {oc1 kV1 dc1 pm1 cd1 ct1 : Value}
    {f2 : Addr} {od2 an2 : Option Addr} {sl2 : Array (Option Value)} {oc2 kV2 dc2 pm2 cd2 ct2 : Value}
    {f3 : Addr} {od3 an3 : Option Addr} {sl3 : Array (Option Value)} {oc3 kV3 dc3 pm3 cd3 ct3 : Value}
    {f4 : Addr} {od4 an4 : Option Addr} {sl4 : Array (Option Value)} {oc4 kV4 dc4 pm4 cd4 ct4 : Value}
    {f5 : Addr} {od5 an5 : Option Addr} {sl5 : Array (Option Value)} {oc5 kV5 dc5 pm5 cd5 ct5 : Value}
    {f6 : Addr} {od6 an6 : Option Addr} {sl6 : Array (Option Value)} {oc6 kV6 dc6 pm6 cd6 ct6 : Value}
    {f7 : Addr} {od7 an7 : Option Addr} {sl7 : Array (Option Value)} {oc7 kV7 dc7 pm7 cd7 ct7 : Value}
    {f8 : Addr} {od8 an8 : Option Addr} {sl8 : Array (Option Value)} {oc8 kV8 dc8 pm8 cd8 ct8 : Value}
    {f9 : Addr} {od9 an9 : Option Addr} {sl9 : Array (Option Value)} {oc9 kV9 dc9 pm9 cd9 ct9 : Value}
    {f10 : Addr} {od10 an10 : Option Addr} {sl10 : Array (Option Value)} {oc10 kV10 dc10 pm10 cd10 ct10 : Value}
    {f11 : Addr} {od11 an11 : Option Addr} {sl11 : Array (Option Value)} {oc11 kV11 dc11 pm11 cd11 ct11 : Value}
    {f12 : Addr} {od12 an12 : Option Addr} {sl12 : Array (Option Value)} {oc12 kV12 dc12 pm12 cd12 ct12 : Value}
    {f13 : Addr} {od13 an13 : Option Addr} {sl13 : Array (Option Value)} {oc13 kV13 dc13 pm13 cd13 ct13 : Value}
    {f14 : Addr} {od14 an14 : Option Addr} {sl14 : Array (Option Value)} {oc14 kV14 dc14 pm14 cd14 ct14 : Value}
    {f15 : Addr} {od15 an15 : Option Addr} {sl15 : Array (Option Value)} {oc15 kV15 dc15 pm15 cd15 ct15 : Value}
    {f16 : Addr} {od16 an16 : Option Addr} {sl16 : Array (Option Value)} {oc16 kV16 dc16 pm16 cd16 ct16 : Value}
    {f17 : Addr} {od17 an17 : Option Addr} {sl17 : Array (Option Value)} {oc17 kV17 dc17 pm17 cd17 ct17 : Value}
    {f18 : Addr} {od18 an18 : Option Addr} {sl18 : Array (Option Value)} {oc18 kV18 dc18 pm18 cd18 ct18 : Value}
    {f19 : Addr} {od19 an19 : Option Addr} {sl19 : Array (Option Value)} {oc19 kV19 dc19 pm19 cd19 ct19 : Value}
    {f20 : Addr} {od20 an20 : Option Addr} {sl20 : Array (Option Value)} {oc20 kV20 dc20 pm20 cd20 ct20 : Value}
    {f21 : Addr} {od21 an21 : Option Addr} {sl21 : Array (Option Value)} {oc21 kV21 dc21 pm21 cd21 ct21 : Value}
    {f22 : Addr} {od22 an22 : Option Addr} {sl22 : Array (Option Value)} {oc22 kV22 dc22 pm22 cd22 ct22 : Value}
    {f23 : Addr} {od23 an23 : Option Addr} {sl23 : Array (Option Value)} {oc23 kV23 dc23 pm23 cd23 ct23 : Value}
    {f24 : Addr} {od24 an24 : Option Addr} {sl24 : Array (Option Value)} {oc24 kV24 dc24 pm24 cd24 ct24 : Value}
    {f25 : Addr} {od25 an25 : Option Addr} {sl25 : Array (Option Value)} {oc25 kV25 dc25 pm25 cd25 ct25 : Value}
    {f26 : Addr} {od26 an26 : Option Addr} {sl26 : Array (Option Value)} {oc26 kV26 dc26 pm26 cd26 ct26 : Value}
    {tw tb : Tok} {aS aT aA aP aL : Addr} {ddS ddT ddA : Option Addr} {nS nT nA nP nL : Nat} {slS slT slA : Array (Option Value)} {esP esL : Array DictEntry} {u0 u1 u2 u3 u4 u5 u6 u7 u8 u9 : Tok}
    {t_look : Addr} {d_look : Option Addr} {n_look : Nat} {s_look : Array (Option Value)} {v_look0 : Tok} {t_not : Addr} {d_not : Option Addr} {n_not : Nat} {s_not : Array (Option Value)} {v_not0 : Tok} {t_op : Addr} {d_op : Option Addr} {n_op : Nat} {s_op : Array (Option Value)} {v_op0 v_op1 : Tok} {t_pick : Addr} {d_pick : Option Addr} {n_pick : Nat} {s_pick : Array (Option Value)} {v_pick0 v_pick1 v_pick2 : Tok} {t_wide : Addr} {d_wide : Option Addr} {n_wide : Nat} {s_wide : Array (Option Value)} {v_wide0 : Tok} {t_part : Addr} {d_part : Option Addr} {n_part : Nat} {s_part : Array (Option Value)} {v_part0 : Tok} {t_join : Addr} {d_join : Option Addr} {n_join : Nat} {s_join : Array (Option Value)} {v_join0 v_join1 : Tok} {w_lit w_reg w_look w_not w_op w_pick w_wide w_part w_join : Tok}
    (a0 : PySem.W.nsIn K mainGlobals "parts" = some (some (.ref f0)))
    (l0 : K.lookup f0 = some ⟨oc0, od0, .func (PySem.W.fnOf "parts" "parts" (defArgs sParts) (defBody sParts) (defScope sParts) .none kV0 dc0 pm0 an0 cd0 ct0), sl0⟩)
    (c0 : PySem.W.codeIn K cd0 "parts" = true)
    (k0 : PySem.W.keepIn K (.ref f0) = true)
    (a1 : PySem.W.nsIn K mainGlobals "mask" = some (some (.ref f1)))
    (l1 : K.lookup f1 = some ⟨oc1, od1, .func (PySem.W.fnOf "mask" "mask" (defArgs sMask) (defBody sMask) (defScope sMask) .none kV1 dc1 pm1 an1 cd1 ct1), sl1⟩)
    (c1 : PySem.W.codeIn K cd1 "mask" = true)
    (k1 : PySem.W.keepIn K (.ref f1) = true)
    (a2 : PySem.W.nsIn K mainGlobals "fitted_width" = some (some (.ref f2)))
    (l2 : K.lookup f2 = some ⟨oc2, od2, .func (PySem.W.fnOf "fitted_width" "fitted_width" (defArgs sFitted) (defBody sFitted) (defScope sFitted) .none kV2 dc2 pm2 an2 cd2 ct2), sl2⟩)
    (c2 : PySem.W.codeIn K cd2 "fitted_width" = true)
    (k2 : PySem.W.keepIn K (.ref f2) = true)
    (a3 : PySem.W.nsIn K mainGlobals "op_width" = some (some (.ref f3)))
    (l3 : K.lookup f3 = some ⟨oc3, od3, .func (PySem.W.fnOf "op_width" "op_width" (defArgs sOpw) (defBody sOpw) (defScope sOpw) .none kV3 dc3 pm3 an3 cd3 ct3), sl3⟩)
    (c3 : PySem.W.codeIn K cd3 "op_width" = true)
    (k3 : PySem.W.keepIn K (.ref f3) = true)
    (a4 : PySem.W.nsIn K mainGlobals "is_circuit" = some (some (.ref f4)))
    (l4 : K.lookup f4 = some ⟨oc4, od4, .func (PySem.W.fnOf "is_circuit" "is_circuit" (defArgs sIsCircuit) (defBody sIsCircuit) (defScope sIsCircuit) .none kV4 dc4 pm4 an4 cd4 ct4), sl4⟩)
    (c4 : PySem.W.codeIn K cd4 "is_circuit" = true)
    (k4 : PySem.W.keepIn K (.ref f4) = true)
    (a5 : PySem.W.nsIn K mainGlobals "is_tuple" = some (some (.ref f5)))
    (l5 : K.lookup f5 = some ⟨oc5, od5, .func (PySem.W.fnOf "is_tuple" "is_tuple" (defArgs sIsTuple) (defBody sIsTuple) (defScope sIsTuple) .none kV5 dc5 pm5 an5 cd5 ct5), sl5⟩)
    (c5 : PySem.W.codeIn K cd5 "is_tuple" = true)
    (k5 : PySem.W.keepIn K (.ref f5) = true)
    (a6 : PySem.W.nsIn K mainGlobals "is_below" = some (some (.ref f6)))
    (l6 : K.lookup f6 = some ⟨oc6, od6, .func (PySem.W.fnOf "is_below" "is_below" (defArgs sIsBelow) (defBody sIsBelow) (defScope sIsBelow) .none kV6 dc6 pm6 an6 cd6 ct6), sl6⟩)
    (c6 : PySem.W.codeIn K cd6 "is_below" = true)
    (k6 : PySem.W.keepIn K (.ref f6) = true)
    (a7 : PySem.W.nsIn K mainGlobals "is_width" = some (some (.ref f7)))
    (l7 : K.lookup f7 = some ⟨oc7, od7, .func (PySem.W.fnOf "is_width" "is_width" (defArgs sIsWidth) (defBody sIsWidth) (defScope sIsWidth) .none kV7 dc7 pm7 an7 cd7 ct7), sl7⟩)
    (c7 : PySem.W.codeIn K cd7 "is_width" = true)
    (k7 : PySem.W.keepIn K (.ref f7) = true)
    (a8 : PySem.W.nsIn K mainGlobals "is_register" = some (some (.ref f8)))
    (l8 : K.lookup f8 = some ⟨oc8, od8, .func (PySem.W.fnOf "is_register" "is_register" (defArgs sIsRegister) (defBody sIsRegister) (defScope sIsRegister) .none kV8 dc8 pm8 an8 cd8 ct8), sl8⟩)
    (c8 : PySem.W.codeIn K cd8 "is_register" = true)
    (k8 : PySem.W.keepIn K (.ref f8) = true)
    (a9 : PySem.W.nsIn K mainGlobals "is_memory" = some (some (.ref f9)))
    (l9 : K.lookup f9 = some ⟨oc9, od9, .func (PySem.W.fnOf "is_memory" "is_memory" (defArgs sIsMemory) (defBody sIsMemory) (defScope sIsMemory) .none kV9 dc9 pm9 an9 cd9 ct9), sl9⟩)
    (c9 : PySem.W.codeIn K cd9 "is_memory" = true)
    (k9 : PySem.W.keepIn K (.ref f9) = true)
    (a10 : PySem.W.nsIn K mainGlobals "row_width" = some (some (.ref f10)))
    (l10 : K.lookup f10 = some ⟨oc10, od10, .func (PySem.W.fnOf "row_width" "row_width" (defArgs sRowWidth) (defBody sRowWidth) (defScope sRowWidth) .none kV10 dc10 pm10 an10 cd10 ct10), sl10⟩)
    (c10 : PySem.W.codeIn K cd10 "row_width" = true)
    (k10 : PySem.W.keepIn K (.ref f10) = true)
    (a11 : PySem.W.nsIn K mainGlobals "known_row_width" = some (some (.ref f11)))
    (l11 : K.lookup f11 = some ⟨oc11, od11, .func (PySem.W.fnOf "known_row_width" "known_row_width" (defArgs sKnown) (defBody sKnown) (defScope sKnown) .none kV11 dc11 pm11 an11 cd11 ct11), sl11⟩)
    (c11 : PySem.W.codeIn K cd11 "known_row_width" = true)
    (k11 : PySem.W.keepIn K (.ref f11) = true)
    (a12 : PySem.W.nsIn K mainGlobals "are_nexts" = some (some (.ref f12)))
    (l12 : K.lookup f12 = some ⟨oc12, od12, .func (PySem.W.fnOf "are_nexts" "are_nexts" (defArgs sAreNexts) (defBody sAreNexts) (defScope sAreNexts) .none kV12 dc12 pm12 an12 cd12 ct12), sl12⟩)
    (c12 : PySem.W.codeIn K cd12 "are_nexts" = true)
    (k12 : PySem.W.keepIn K (.ref f12) = true)
    (a13 : PySem.W.nsIn K mainGlobals "are_ends" = some (some (.ref f13)))
    (l13 : K.lookup f13 = some ⟨oc13, od13, .func (PySem.W.fnOf "are_ends" "are_ends" (defArgs sAreEnds) (defBody sAreEnds) (defScope sAreEnds) .none kV13 dc13 pm13 an13 cd13 ct13), sl13⟩)
    (c13 : PySem.W.codeIn K cd13 "are_ends" = true)
    (k13 : PySem.W.keepIn K (.ref f13) = true)
    (a14 : PySem.W.nsIn K mainGlobals "is_store" = some (some (.ref f14)))
    (l14 : K.lookup f14 = some ⟨oc14, od14, .func (PySem.W.fnOf "is_store" "is_store" (defArgs sIsStore) (defBody sIsStore) (defScope sIsStore) .none kV14 dc14 pm14 an14 cd14 ct14), sl14⟩)
    (c14 : PySem.W.codeIn K cd14 "is_store" = true)
    (k14 : PySem.W.keepIn K (.ref f14) = true)
    (a15 : PySem.W.nsIn K mainGlobals "_law_draws" = some (some (.ref f15)))
    (l15 : K.lookup f15 = some ⟨oc15, od15, .func (PySem.W.fnOf "_law_draws" "_law_draws" (defArgs sDraws) (defBody sDraws) (defScope sDraws) .none kV15 dc15 pm15 an15 cd15 ct15), sl15⟩)
    (c15 : PySem.W.codeIn K cd15 "_law_draws" = true)
    (k15 : PySem.W.keepIn K (.ref f15) = true)
    (a16 : PySem.W.nsIn K mainGlobals "_law_next" = some (some (.ref f16)))
    (l16 : K.lookup f16 = some ⟨oc16, od16, .func (PySem.W.fnOf "_law_next" "_law_next" (defArgs sNext) (defBody sNext) (defScope sNext) .none kV16 dc16 pm16 an16 cd16 ct16), sl16⟩)
    (c16 : PySem.W.codeIn K cd16 "_law_next" = true)
    (k16 : PySem.W.keepIn K (.ref f16) = true)
    (a17 : PySem.W.nsIn K mainGlobals "_law_row" = some (some (.ref f17)))
    (l17 : K.lookup f17 = some ⟨oc17, od17, .func (PySem.W.fnOf "_law_row" "_law_row" (defArgs sRow) (defBody sRow) (defScope sRow) .none kV17 dc17 pm17 an17 cd17 ct17), sl17⟩)
    (c17 : PySem.W.codeIn K cd17 "_law_row" = true)
    (k17 : PySem.W.keepIn K (.ref f17) = true)
    (a18 : PySem.W.nsIn K mainGlobals "_law_circuit" = some (some (.ref f18)))
    (l18 : K.lookup f18 = some ⟨oc18, od18, .func (PySem.W.fnOf "_law_circuit" "_law_circuit" (defArgs sCircuit) (defBody sCircuit) (defScope sCircuit) .none kV18 dc18 pm18 an18 cd18 ct18), sl18⟩)
    (c18 : PySem.W.codeIn K cd18 "_law_circuit" = true)
    (k18 : PySem.W.keepIn K (.ref f18) = true)
    (a19 : PySem.W.nsIn K mainGlobals "_law_is" = some (some (.ref f19)))
    (l19 : K.lookup f19 = some ⟨oc19, od19, .func (PySem.W.fnOf "_law_is" "_law_is" (defArgs sIs) (defBody sIs) (defScope sIs) .none kV19 dc19 pm19 an19 cd19 ct19), sl19⟩)
    (c19 : PySem.W.codeIn K cd19 "_law_is" = true)
    (k19 : PySem.W.keepIn K (.ref f19) = true)
    (a20 : PySem.W.nsIn K mainGlobals "_law_of_rows" = some (some (.ref f20)))
    (l20 : K.lookup f20 = some ⟨oc20, od20, .func (PySem.W.fnOf "_law_of_rows" "_law_of_rows" (defArgs sOfRows) (defBody sOfRows) (defScope sOfRows) .none kV20 dc20 pm20 an20 cd20 ct20), sl20⟩)
    (c20 : PySem.W.codeIn K cd20 "_law_of_rows" = true)
    (k20 : PySem.W.keepIn K (.ref f20) = true)
    (a21 : PySem.W.nsIn K mainGlobals "_law_width" = some (some (.ref f21)))
    (l21 : K.lookup f21 = some ⟨oc21, od21, .func (PySem.W.fnOf "_law_width" "_law_width" (defArgs sWidth) (defBody sWidth) (defScope sWidth) .none kV21 dc21 pm21 an21 cd21 ct21), sl21⟩)
    (c21 : PySem.W.codeIn K cd21 "_law_width" = true)
    (k21 : PySem.W.keepIn K (.ref f21) = true)
    (a22 : PySem.W.nsIn K mainGlobals "_law_pairs" = some (some (.ref f22)))
    (l22 : K.lookup f22 = some ⟨oc22, od22, .func (PySem.W.fnOf "_law_pairs" "_law_pairs" (defArgs sPairs) (defBody sPairs) (defScope sPairs) .none kV22 dc22 pm22 an22 cd22 ct22), sl22⟩)
    (c22 : PySem.W.codeIn K cd22 "_law_pairs" = true)
    (k22 : PySem.W.keepIn K (.ref f22) = true)
    (a23 : PySem.W.nsIn K mainGlobals "_law_fits" = some (some (.ref f23)))
    (l23 : K.lookup f23 = some ⟨oc23, od23, .func (PySem.W.fnOf "_law_fits" "_law_fits" (defArgs sFits) (defBody sFits) (defScope sFits) .none kV23 dc23 pm23 an23 cd23 ct23), sl23⟩)
    (c23 : PySem.W.codeIn K cd23 "_law_fits" = true)
    (k23 : PySem.W.keepIn K (.ref f23) = true)
    (a24 : PySem.W.nsIn K mainGlobals "_law_thing" = some (some (.ref f24)))
    (l24 : K.lookup f24 = some ⟨oc24, od24, .func (PySem.W.fnOf "_law_thing" "_law_thing" (defArgs sThing) (defBody sThing) (defScope sThing) .none kV24 dc24 pm24 an24 cd24 ct24), sl24⟩)
    (c24 : PySem.W.codeIn K cd24 "_law_thing" = true)
    (k24 : PySem.W.keepIn K (.ref f24) = true)
    (a25 : PySem.W.nsIn K mainGlobals "_law_bent_in" = some (some (.ref f25)))
    (l25 : K.lookup f25 = some ⟨oc25, od25, .func (PySem.W.fnOf "_law_bent_in" "_law_bent_in" (defArgs sBent) (defBody sBent) (defScope sBent) .none kV25 dc25 pm25 an25 cd25 ct25), sl25⟩)
    (c25 : PySem.W.codeIn K cd25 "_law_bent_in" = true)
    (k25 : PySem.W.keepIn K (.ref f25) = true)
    (a26 : PySem.W.nsIn K mainGlobals "law" = some (some (.ref f26)))
    (l26 : K.lookup f26 = some ⟨oc26, od26, .func (PySem.W.fnOf "law" "law" (defArgs sLaw) (defBody sLaw) (defScope sLaw) .none kV26 dc26 pm26 an26 cd26 ct26), sl26⟩)
    (c26 : PySem.W.codeIn K cd26 "law" = true)
    (k26 : PySem.W.keepIn K (.ref f26) = true)
    (tw' : PySem.W.nsIn K mainGlobals "MOST_WIDTH" = some (some (.int 32 tw)))
    (tb' : PySem.W.nsIn K mainGlobals "MOST_BITS" = some (some (.int 6 tb)))
    (gaS : PySem.W.nsIn K mainGlobals "SHIFTS" = some (some (.ref aS)))
    (gaT : PySem.W.nsIn K mainGlobals "TESTS" = some (some (.ref aT)))
    (gaA : PySem.W.nsIn K mainGlobals "SAME_WIDTH" = some (some (.ref aA)))
    (gaP : PySem.W.nsIn K mainGlobals "PARTS" = some (some (.ref aP)))
    (gaL : PySem.W.nsIn K mainGlobals "ROW_LENGTHS" = some (some (.ref aL)))
    (oS : K.lookup aS = some ⟨.type "tuple", ddS, .seq #[.str "<<" u0, .str ">>" u1] nS, slS⟩)
    (oT : K.lookup aT = some ⟨.type "tuple", ddT, .seq #[.str "==" u2, .str "<" u3] nT, slT⟩)
    (oA : K.lookup aA = some ⟨.type "tuple", ddA, .seq #[.str "+" u4, .str "-" u5, .str "*" u6, .str "&" u7, .str "|" u8, .str "^" u9] nA, slA⟩)
    (oP : K.lookup aP = some ⟨.type "dict", none, .dict esP nP, #[]⟩)
    (oL : K.lookup aL = some ⟨.type "dict", none, .dict esL nL, #[]⟩)
    (lP : PySem.W.KeysLit w.params esP.toList)
    (lL : PySem.W.KeysLit w.params esL.toList)
    (sL : (aL == sysModules) = false)
    (p_look : PySem.W.nsIn K aP "look" = some (some (.ref t_look)))
    (q_look : K.lookup t_look = some ⟨.type "tuple", d_look, .seq #[.int 2 v_look0] n_look, s_look⟩)
    (p_not : PySem.W.nsIn K aP "not" = some (some (.ref t_not)))
    (q_not : K.lookup t_not = some ⟨.type "tuple", d_not, .seq #[.int 1 v_not0] n_not, s_not⟩)
    (p_op : PySem.W.nsIn K aP "op" = some (some (.ref t_op)))
    (q_op : K.lookup t_op = some ⟨.type "tuple", d_op, .seq #[.int 2 v_op0, .int 3 v_op1] n_op, s_op⟩)
    (p_pick : PySem.W.nsIn K aP "pick" = some (some (.ref t_pick)))
    (q_pick : K.lookup t_pick = some ⟨.type "tuple", d_pick, .seq #[.int 1 v_pick0, .int 2 v_pick1, .int 3 v_pick2] n_pick, s_pick⟩)
    (p_wide : PySem.W.nsIn K aP "wide" = some (some (.ref t_wide)))
    (q_wide : K.lookup t_wide = some ⟨.type "tuple", d_wide, .seq #[.int 1 v_wide0] n_wide, s_wide⟩)
    (p_part : PySem.W.nsIn K aP "part" = some (some (.ref t_part)))
    (q_part : K.lookup t_part = some ⟨.type "tuple", d_part, .seq #[.int 1 v_part0] n_part, s_part⟩)
    (p_join : PySem.W.nsIn K aP "join" = some (some (.ref t_join)))
    (q_join : K.lookup t_join = some ⟨.type "tuple", d_join, .seq #[.int 1 v_join0, .int 2 v_join1] n_join, s_join⟩)
    (r00 : PySem.W.nsIn K aL "lit" = some (some (.int 3 w_lit)))
    (r01 : PySem.W.nsIn K aL "reg" = some (some (.int 2 w_reg)))
    (r02 : PySem.W.nsIn K aL "look" = some (some (.int 3 w_look)))
    (r03 : PySem.W.nsIn K aL "not" = some (some (.int 2 w_not)))
    (r04 : PySem.W.nsIn K aL "op" = some (some (.int 4 w_op)))
    (r05 : PySem.W.nsIn K aL "pick" = some (some (.int 4 w_pick)))
    (r06 : PySem.W.nsIn K aL "wide" = some (some (.int 3 w_wide)))
    (r07 : PySem.W.nsIn K aL "part" = some (some (.int 4 w_part)))
    (r08 : PySem.W.nsIn K aL "join" = some (some (.int 3 w_join)))
    (r09 : PySem.W.nsIn K aL "+" = some none)
    (r10 : PySem.W.nsIn K aL "-" = some none)
    (r11 : PySem.W.nsIn K aL "*" = some none)
    (r12 : PySem.W.nsIn K aL "&" = some none)
    (r13 : PySem.W.nsIn K aL "|" = some none)
    (r14 : PySem.W.nsIn K aL "^" = some none)
    (r15 : PySem.W.nsIn K aL "==" = some none)
    (r16 : PySem.W.nsIn K aL "<" = some none)
    (r17 : PySem.W.nsIn K aL "<<" = some none)
    (r18 : PySem.W.nsIn K aL ">>" = some none)
    (r19 : PySem.W.nsIn K aL "none" = some none)
    (z_type : PySem.W.nsIn K mainGlobals "type" = some none)
    (z_int : PySem.W.nsIn K mainGlobals "int" = some none)
    (z_tuple : PySem.W.nsIn K mainGlobals "tuple" = some none)
    (z_str : PySem.W.nsIn K mainGlobals "str" = some none)
    (z_len : PySem.W.nsIn K mainGlobals "len" = some none)
    (z_all : PySem.W.nsIn K mainGlobals "all" = some none)
    (z_zip : PySem.W.nsIn K mainGlobals "zip" = some none)
    (z_range : PySem.W.nsIn K mainGlobals "range" = some none)
    (z_abs : PySem.W.nsIn K mainGlobals "abs" = some none)
    (z_isinstance : PySem.W.nsIn K mainGlobals "isinstance" = some none)
    (z_bool : PySem.W.nsIn K mainGlobals "bool" = some none)
    (z_sum : PySem.W.nsIn K mainGlobals "sum" = some none) :
    ∃ fd : FuncData, (∀ (s : Shared) (v : Value), BindsTo s fd ⟨[v], []⟩ [("script", v)]) ∧ ∀ base : Heap, K.In base → base.Ns mainGlobals mg → FnOk l.prog w K mg base CX0 7 fa fd ["script"] (spLaw K) := by
  have M := fun {x : Str} {v : Value} (e : PySem.W.nsIn K mainGlobals x = some (some v)) => PySem.W.mg_of X G e
  have Z := fun {x : Str} (e : PySem.W.nsIn K mainGlobals x = some none) => PySem.W.mg_none_of X G e
  have e := hfa.symm.trans (M a26)
  cases e
  have line : ∀ n : Nat, n ≤ 100 → n ≤ sizeLine := fun n h => by
    rw [sizeLine_eq]
    omega
  have F0 := fun_mk (st := sParts) l0 c0 k0
  have B0 := F0.binds (ps := ["tree"]) fun _ _ _ _ _ _ us hl => match us, hl with | [_], _ => rfl
  have F1 := fun_mk (st := sMask) l1 c1 k1
  have B1 := F1.binds (ps := ["width"]) fun _ _ _ _ _ _ us hl => match us, hl with | [_], _ => rfl
  have F2 := fun_mk (st := sFitted) l2 c2 k2
  have B2 := F2.binds (ps := ["node", "widths"]) fun _ _ _ _ _ _ us hl => match us, hl with | [_, _], _ => rfl
  have F3 := fun_mk (st := sOpw) l3 c3 k3
  have B3 := F3.binds (ps := ["sign", "one", "other"]) fun _ _ _ _ _ _ us hl => match us, hl with | [_, _, _], _ => rfl
  have F4 := fun_mk (st := sIsCircuit) l4 c4 k4
  have B4 := F4.binds (ps := ["thing"]) fun _ _ _ _ _ _ us hl => match us, hl with | [_], _ => rfl
  have F5 := fun_mk (st := sIsTuple) l5 c5 k5
  have B5 := F5.binds (ps := ["thing", "many"]) fun _ _ _ _ _ _ us hl => match us, hl with | [_, _], _ => rfl
  have F6 := fun_mk (st := sIsBelow) l6 c6 k6
  have B6 := F6.binds (ps := ["thing", "limit"]) fun _ _ _ _ _ _ us hl => match us, hl with | [_, _], _ => rfl
  have F7 := fun_mk (st := sIsWidth) l7 c7 k7
  have B7 := F7.binds (ps := ["thing"]) fun _ _ _ _ _ _ us hl => match us, hl with | [_], _ => rfl
  have F8 := fun_mk (st := sIsRegister) l8 c8 k8
  have B8 := F8.binds (ps := ["thing"]) fun _ _ _ _ _ _ us hl => match us, hl with | [_], _ => rfl
  have F9 := fun_mk (st := sIsMemory) l9 c9 k9
  have B9 := F9.binds (ps := ["thing"]) fun _ _ _ _ _ _ us hl => match us, hl with | [_], _ => rfl
  have F10 := fun_mk (st := sRowWidth) l10 c10 k10
  have B10 := F10.binds (ps := ["circuit", "widths", "row"]) fun _ _ _ _ _ _ us hl => match us, hl with | [_, _, _], _ => rfl
  have F11 := fun_mk (st := sKnown) l11 c11 k11
  have B11 := F11.binds (ps := ["circuit", "widths", "row"]) fun _ _ _ _ _ _ us hl => match us, hl with | [_, _, _], _ => rfl
  have F12 := fun_mk (st := sAreNexts) l12 c12 k12
  have B12 := F12.binds (ps := ["registers", "widths", "nexts"]) fun _ _ _ _ _ _ us hl => match us, hl with | [_, _, _], _ => rfl
  have F13 := fun_mk (st := sAreEnds) l13 c13 k13
  have B13 := F13.binds (ps := ["memories", "widths", "stores", "outs"]) fun _ _ _ _ _ _ us hl => match us, hl with | [_, _, _, _], _ => rfl
  have F14 := fun_mk (st := sIsStore) l14 c14 k14
  have B14 := F14.binds (ps := ["memories", "widths", "thing"]) fun _ _ _ _ _ _ us hl => match us, hl with | [_, _, _], _ => rfl
  have F15 := fun_mk (st := sDraws) l15 c15 k15
  have B15 := F15.binds (ps := ["script", "many"]) fun _ _ _ _ _ _ us hl => match us, hl with | [_, _], _ => rfl
  have F16 := fun_mk (st := sNext) l16 c16 k16
  have B16 := F16.binds (ps := ["w", "many"]) fun _ _ _ _ _ _ us hl => match us, hl with | [_, _], _ => rfl
  have F17 := fun_mk (st := sRow) l17 c17 k17
  have B17 := F17.binds (ps := ["w", "c", "widths"]) fun _ _ _ _ _ _ us hl => match us, hl with | [_, _, _], _ => rfl
  have F18 := fun_mk (st := sCircuit) l18 c18 k18
  have B18 := F18.binds (ps := ["w", "most"]) fun _ _ _ _ _ _ us hl => match us, hl with | [_, _], _ => rfl
  have F19 := fun_mk (st := sIs) l19 c19 k19
  have B19 := F19.binds (ps := ["thing", "low", "high"]) fun _ _ _ _ _ _ us hl => match us, hl with | [_, _, _], _ => rfl
  have F20 := fun_mk (st := sOfRows) l20 c20 k20
  have B20 := F20.binds (ps := ["parts_v", "many"]) fun _ _ _ _ _ _ us hl => match us, hl with | [_, _], _ => rfl
  have F21 := fun_mk (st := sWidth) l21 c21 k21
  have B21 := F21.binds (ps := ["row", "widths", "registers", "memories"]) fun _ _ _ _ _ _ us hl => match us, hl with | [_, _, _, _], _ => rfl
  have F22 := fun_mk (st := sPairs) l22 c22 k22
  have B22 := F22.binds (ps := ["thing", "second"]) fun _ _ _ _ _ _ us hl => match us, hl with | [_, _], _ => rfl
  have F23 := fun_mk (st := sFits) l23 c23 k23
  have B23 := F23.binds (ps := ["thing"]) fun _ _ _ _ _ _ us hl => match us, hl with | [_], _ => rfl
  have F24 := fun_mk (st := sThing) l24 c24 k24
  have B24 := F24.binds (ps := ["w", "many"]) fun _ _ _ _ _ _ us hl => match us, hl with | [_, _], _ => rfl
  have F25 := fun_mk (st := sBent) l25 c25 k25
  have B25 := F25.binds (ps := ["w", "thing", "many", "depth"]) fun _ _ _ _ _ _ us hl => match us, hl with | [_, _, _, _], _ => rfl
  have F26 := fun_mk (st := sLaw) l26 c26 k26
  have B26 := F26.binds (ps := ["script"]) fun _ _ _ _ _ _ us hl => match us, hl with | [_], _ => rfl
  have GP : Gp mg tw tb := ⟨Z z_type, Z z_int, Z z_tuple, Z z_str, Z z_len, Z z_all, Z z_zip, M tw', M tb'⟩
  have G2 : Gs K mg aS aT aA := ⟨M gaS, M gaT, M gaA, fun H => .inr ⟨_, _, _, oS, rfl, rfl, line 2 (by decide), .cons ⟨_, rfl⟩ (.cons ⟨_, rfl⟩ .nil)⟩, fun H => .inr ⟨_, _, _, oT, rfl, rfl, line 2 (by decide), .cons ⟨_, rfl⟩ (.cons ⟨_, rfl⟩ .nil)⟩, fun H => .inr ⟨_, _, _, oA, rfl, rfl, line 6 (by decide), .cons ⟨_, rfl⟩ (.cons ⟨_, rfl⟩ (.cons ⟨_, rfl⟩ (.cons ⟨_, rfl⟩ (.cons ⟨_, rfl⟩ (.cons ⟨_, rfl⟩ .nil)))))⟩⟩
  have BL : Bl mg := ⟨Z z_len, Z z_range, Z z_abs, Z z_int, Z z_str⟩
  have PT : PtOk K w aP := by
    intro k hk
    have hc : k = "look" ∨ k = "not" ∨ k = "op" ∨ k = "pick" ∨ k = "wide" ∨ k = "part" ∨ k = "join" := by
      unfold kindsP at hk
      simpa using hk
    rcases hc with rfl | rfl | rfl | rfl | rfl | rfl | rfl
    · exact ⟨t_look, ⟨_, _, _, oP, lP, p_look, rfl⟩, fun H => .inr ⟨_, _, _, q_look, rfl, rfl, line 1 (by decide), .cons ⟨_, rfl⟩ .nil⟩⟩
    · exact ⟨t_not, ⟨_, _, _, oP, lP, p_not, rfl⟩, fun H => .inr ⟨_, _, _, q_not, rfl, rfl, line 1 (by decide), .cons ⟨_, rfl⟩ .nil⟩⟩
    · exact ⟨t_op, ⟨_, _, _, oP, lP, p_op, rfl⟩, fun H => .inr ⟨_, _, _, q_op, rfl, rfl, line 2 (by decide), .cons ⟨_, rfl⟩ (.cons ⟨_, rfl⟩ .nil)⟩⟩
    · exact ⟨t_pick, ⟨_, _, _, oP, lP, p_pick, rfl⟩, fun H => .inr ⟨_, _, _, q_pick, rfl, rfl, line 3 (by decide), .cons ⟨_, rfl⟩ (.cons ⟨_, rfl⟩ (.cons ⟨_, rfl⟩ .nil))⟩⟩
    · exact ⟨t_wide, ⟨_, _, _, oP, lP, p_wide, rfl⟩, fun H => .inr ⟨_, _, _, q_wide, rfl, rfl, line 1 (by decide), .cons ⟨_, rfl⟩ .nil⟩⟩
    · exact ⟨t_part, ⟨_, _, _, oP, lP, p_part, rfl⟩, fun H => .inr ⟨_, _, _, q_part, rfl, rfl, line 1 (by decide), .cons ⟨_, rfl⟩ .nil⟩⟩
    · exact ⟨t_join, ⟨_, _, _, oP, lP, p_join, rfl⟩, fun H => .inr ⟨_, _, _, q_join, rfl, rfl, line 2 (by decide), .cons ⟨_, rfl⟩ (.cons ⟨_, rfl⟩ .nil)⟩⟩
  have LN : LnOk K w aL := by
    refine ⟨⟨_, _, oL, lL, sL⟩, fun k hk => ?_⟩
    have hc : k = "lit" ∨ k = "reg" ∨ k = "look" ∨ k = "not" ∨ k = "op" ∨ k = "pick" ∨ k = "wide" ∨ k = "part" ∨ k = "join" ∨ k = "+" ∨ k = "-" ∨ k = "*" ∨ k = "&" ∨ k = "|" ∨ k = "^" ∨ k = "==" ∨ k = "<" ∨ k = "<<" ∨ k = ">>" ∨ k = "none" := by
      unfold strsL at hk
      simpa using hk
    rcases hc with rfl | rfl | rfl | rfl | rfl | rfl | rfl | rfl | rfl | rfl | rfl | rfl | rfl | rfl | rfl | rfl | rfl | rfl | rfl | rfl
    · exact ⟨_, .int 3, r00, ⟨_, rfl⟩, by decide +kernel⟩
    · exact ⟨_, .int 2, r01, ⟨_, rfl⟩, by decide +kernel⟩
    · exact ⟨_, .int 3, r02, ⟨_, rfl⟩, by decide +kernel⟩
    · exact ⟨_, .int 2, r03, ⟨_, rfl⟩, by decide +kernel⟩
    · exact ⟨_, .int 4, r04, ⟨_, rfl⟩, by decide +kernel⟩
    · exact ⟨_, .int 4, r05, ⟨_, rfl⟩, by decide +kernel⟩
    · exact ⟨_, .int 3, r06, ⟨_, rfl⟩, by decide +kernel⟩
    · exact ⟨_, .int 4, r07, ⟨_, rfl⟩, by decide +kernel⟩
    · exact ⟨_, .int 3, r08, ⟨_, rfl⟩, by decide +kernel⟩
    · exact ⟨_, .non, r09, rfl, by decide +kernel⟩
    · exact ⟨_, .non, r10, rfl, by decide +kernel⟩
    · exact ⟨_, .non, r11, rfl, by decide +kernel⟩
    · exact ⟨_, .non, r12, rfl, by decide +kernel⟩
    · exact ⟨_, .non, r13, rfl, by decide +kernel⟩
    · exact ⟨_, .non, r14, rfl, by decide +kernel⟩
    · exact ⟨_, .non, r15, rfl, by decide +kernel⟩
    · exact ⟨_, .non, r16, rfl, by decide +kernel⟩
    · exact ⟨_, .non, r17, rfl, by decide +kernel⟩
    · exact ⟨_, .non, r18, rfl, by decide +kernel⟩
    · exact ⟨_, .non, r19, rfl, by decide +kernel⟩
  refine ⟨PySem.W.fnOf "law" "law" (defArgs sLaw) (defBody sLaw) (defScope sLaw) .none kV26 dc26 pm26 an26 cd26 ct26, fun s v => .of_eq rfl, fun base _ _ => ?_⟩
  have G1 : FnOk l.prog w K mg base CX0 1 f1 _ ["width"] spMask := ok_mask F1
  have G5 : FnOk l.prog w K mg base CX0 1 f5 _ ["thing", "many"] (spIsTuple K) := ok_isTuple F5 GP
  have G6 : FnOk l.prog w K mg base CX0 1 f6 _ ["thing", "limit"] (spIsBelow K) := ok_isBelow F6 GP
  have G7 : FnOk l.prog w K mg base CX0 2 f7 _ ["thing"] (spIsWidth K) := ok_isWidth F7 GP G6 k6 B6 (M a6)
  have G8 : FnOk l.prog w K mg base CX0 3 f8 _ ["thing"] (spD K regB) := ok_isRegister F8 G6 k6 B6 (M a6) G5 k5 B5 (M a5) G7 k7 B7 (M a7) G1 k1 B1 (M a1)
  have G9 : FnOk l.prog w K mg base CX0 3 f9 _ ["thing"] (spD K memB) := ok_isMemory F9 GP G6 k6 B6 (M a6) G5 k5 B5 (M a5) G7 k7 B7 (M a7)
  have G3 : FnOk l.prog w K mg base CX0 1 f3 _ ["sign", "one", "other"] (spOpw K) := ok_opw F3 G2
  have G2 : FnOk l.prog w K mg base CX0 2 f2 _ ["node", "widths"] (spFitted K) := ok_fitted F2 GP G3 k3 B3 (M a3)
  have G0 : FnOk l.prog w K mg base CX0 1 f0 _ ["tree"] (spParts K w aP) := ok_parts F0 (M gaP)
  have G11 : FnOk l.prog w K mg base CX0 3 f11 _ ["circuit", "widths", "row"] (spKnown K) := ok_known F11 G0 k0 B0 (M a0) G2 k2 B2 (M a2) PT
  have G10 : FnOk l.prog w K mg base CX0 4 f10 _ ["circuit", "widths", "row"] (spRowWidth K) := ok_rowWidth F10 GP (M gaL) LN PT G0 k0 B0 (M a0) G6 k6 B6 (M a6) G7 k7 B7 (M a7) G1 k1 B1 (M a1) G11 k11 B11 (M a11)
  have G12 : FnOk l.prog w K mg base CX0 2 f12 _ ["registers", "widths", "nexts"] (spAreNexts K) := ok_areNexts F12 GP G6 k6 B6 (M a6)
  have G14 : FnOk l.prog w K mg base CX0 2 f14 _ ["memories", "widths", "thing"] (spIsStore K) := ok_isStore F14 GP G6 k6 B6 (M a6) G5 k5 B5 (M a5)
  have G13 : FnOk l.prog w K mg base CX0 3 f13 _ ["memories", "widths", "stores", "outs"] (spAreEnds K) := ok_areEnds F13 GP G6 k6 B6 (M a6) G14 k14 B14 (M a14)
  have G4 : FnOk l.prog w K mg base CX0 5 f4 _ ["thing"] (spIsCircuit K) := ok_isCircuit F4 GP G5 k5 B5 (M a5) G8 k8 B8 (M a8) G9 k9 B9 (M a9) G10 k10 B10 (M a10) G12 k12 B12 (M a12) G13 k13 B13 (M a13)
  have G15 : FnOk l.prog w K mg base CX0 1 f15 _ ["script", "many"] (spDraws K) := ok_draws F15 BL
  have G16 : FnOk l.prog w K mg base CX0 1 f16 _ ["w", "many"] spNext := ok_next F16 BL
  have G17 : FnOk l.prog w K mg base CX0 2 f17 _ ["w", "c", "widths"] (spRow K) := ok_row F17 G16 k16 B16 (M a16) BL
  have G18 : FnOk l.prog w K mg base CX0 3 f18 _ ["w", "most"] (spCircuit K) := ok_circuit F18 G16 k16 B16 (M a16) G17 k17 B17 (M a17) BL (Z z_tuple)
  have G19 : FnOk l.prog w K mg base CX0 1 f19 _ ["thing", "low", "high"] (spLIs K) := ok_lIs F19 GP (Z z_isinstance) (Z z_bool)
  have G20 : FnOk l.prog w K mg base CX0 2 f20 _ ["parts_v", "many"] (spOfRows K) := ok_ofRows F20 G19 k19 B19 (M a19)
  have G22 : FnOk l.prog w K mg base CX0 2 f22 _ ["thing", "second"] (spPairs K) := ok_pairs F22 GP (Z z_isinstance) G19 k19 B19 (M a19)
  have G21 : FnOk l.prog w K mg base CX0 3 f21 _ ["row", "widths", "registers", "memories"] (spWidth K) := ok_width F21 GP (Z z_isinstance) (Z z_sum) G19 k19 B19 (M a19) G20 k20 B20 (M a20)
  have G23 : FnOk l.prog w K mg base CX0 4 f23 _ ["thing"] (spFits K) := ok_fits F23 GP (Z z_isinstance) (Z z_range) G19 k19 B19 (M a19) G20 k20 B20 (M a20) G22 k22 B22 (M a22) G21 k21 B21 (M a21)
  have G24 : FnOk l.prog w K mg base CX0 2 f24 _ ["w", "many"] (spThing K) := ok_thing F24 G16 k16 B16 (M a16) BL
  have Gb0 : FnOk l.prog w K mg base CX0 3 f25 _ ["w", "thing", "many", "depth"] (spBent K 0) := ok_bent0 F25 GP (Z z_isinstance) BL G16 k16 B16 (M a16) G24 k24 B24 (M a24)
  have Gb1 : FnOk l.prog w K mg base CX0 4 f25 _ ["w", "thing", "many", "depth"] (spBent K 1) := ok_bentS 0 F25 GP (Z z_isinstance) BL G16 k16 B16 (M a16) G24 k24 B24 (M a24) Gb0 k25 B25 (M a25)
  have Gb2 : FnOk l.prog w K mg base CX0 5 f25 _ ["w", "thing", "many", "depth"] (spBent K 2) := ok_bentS 1 F25 GP (Z z_isinstance) BL G16 k16 B16 (M a16) G24 k24 B24 (M a24) Gb1 k25 B25 (M a25)
  have Gb3 : FnOk l.prog w K mg base CX0 6 f25 _ ["w", "thing", "many", "depth"] (spBent K 3) := ok_bentS 2 F25 GP (Z z_isinstance) BL G16 k16 B16 (M a16) G24 k24 B24 (M a24) Gb2 k25 B25 (M a25)
  exact ok_law F26 BL (Z z_isinstance) (Z z_bool) G15 k15 B15 (M a15) G18 k18 B18 (M a18) G23 k23 B23 (M a23) G4 k4 B4 (M a4) Gb3 k25 B25 (M a25)
end C1
open PySem PySem.W PyProof.Rows
set_option maxRecDepth 100000 in
set_option maxHeartbeats 0 in
theorem PySem.Challenge.cw_stagecut_k11_circuits_that_are_none_holds : PySem.Challenge.rw_stagecut_k11_circuits_that_are_none.Holds := by
  w_on; o_law; k_head; (case hw => w_witness2)
  k_fill
  refine L2.walk_of (l := PySem.Challenge.rw_stagecut_k11_circuits_that_are_none) (n := 63) (k := 7) (x := "script") (CX := fun _ => L2.CX0) (sp := fun w => C1.spLaw _) rfl (by decide) rfl ⟨rfl, by decide, by decide⟩ (fun w h Y => PySem.W.kIn_of Y) ?F (fun _ _ a ns hl _ hS => ⟨a, ns, rfl, hS, hl, fun _ => rfl⟩) (fun _ _ _ _ _ h => h)
  case F =>
    intro w mg fa h KX G hmg
    refine' C1.all_mk KX G hmg ?a0 ?l0 ?c0 ?k0 ?a1 ?l1 ?c1 ?k1 ?a2 ?l2 ?c2 ?k2 ?a3 ?l3 ?c3 ?k3 ?a4 ?l4 ?c4 ?k4 ?a5 ?l5 ?c5 ?k5 ?a6 ?l6 ?c6 ?k6 ?a7 ?l7 ?c7 ?k7 ?a8 ?l8 ?c8 ?k8 ?a9 ?l9 ?c9 ?k9 ?a10 ?l10 ?c10 ?k10 ?a11 ?l11 ?c11 ?k11 ?a12 ?l12 ?c12 ?k12 ?a13 ?l13 ?c13 ?k13 ?a14 ?l14 ?c14 ?k14 ?a15 ?l15 ?c15 ?k15 ?a16 ?l16 ?c16 ?k16 ?a17 ?l17 ?c17 ?k17 ?a18 ?l18 ?c18 ?k18 ?a19 ?l19 ?c19 ?k19 ?a20 ?l20 ?c20 ?k20 ?a21 ?l21 ?c21 ?k21 ?a22 ?l22 ?c22 ?k22 ?a23 ?l23 ?c23 ?k23 ?a24 ?l24 ?c24 ?k24 ?a25 ?l25 ?c25 ?k25 ?a26 ?l26 ?c26 ?k26 ?tw' ?tb' ?gaS ?gaT ?gaA ?gaP ?gaL ?oS ?oT ?oA ?oP ?oL ?lP ?lL ?sL ?p_look ?q_look ?p_not ?q_not ?p_op ?q_op ?p_pick ?q_pick ?p_wide ?q_wide ?p_part ?q_part ?p_join ?q_join ?r00 ?r01 ?r02 ?r03 ?r04 ?r05 ?r06 ?r07 ?r08 ?r09 ?r10 ?r11 ?r12 ?r13 ?r14 ?r15 ?r16 ?r17 ?r18 ?r19 ?z_type ?z_int ?z_tuple ?z_str ?z_len ?z_all ?z_zip ?z_range ?z_abs ?z_isinstance ?z_bool ?z_sum
    (case a0 => k_is)
    (case l0 => k_is)
    (case c0 => k_is)
    (case k0 => k_is)
    (case a1 => k_is)
    (case l1 => k_is)
    (case c1 => k_is)
    (case k1 => k_is)
    (case a2 => k_is)
    (case l2 => k_is)
    (case c2 => k_is)
    (case k2 => k_is)
    (case a3 => k_is)
    (case l3 => k_is)
    (case c3 => k_is)
    (case k3 => k_is)
    (case a4 => k_is)
    (case l4 => k_is)
    (case c4 => k_is)
    (case k4 => k_is)
    (case a5 => k_is)
    (case l5 => k_is)
    (case c5 => k_is)
    (case k5 => k_is)
    (case a6 => k_is)
    (case l6 => k_is)
    (case c6 => k_is)
    (case k6 => k_is)
    (case a7 => k_is)
    (case l7 => k_is)
    (case c7 => k_is)
    (case k7 => k_is)
    (case a8 => k_is)
    (case l8 => k_is)
    (case c8 => k_is)
    (case k8 => k_is)
    (case a9 => k_is)
    (case l9 => k_is)
    (case c9 => k_is)
    (case k9 => k_is)
    (case a10 => k_is)
    (case l10 => k_is)
    (case c10 => k_is)
    (case k10 => k_is)
    (case a11 => k_is)
    (case l11 => k_is)
    (case c11 => k_is)
    (case k11 => k_is)
    (case a12 => k_is)
    (case l12 => k_is)
    (case c12 => k_is)
    (case k12 => k_is)
    (case a13 => k_is)
    (case l13 => k_is)
    (case c13 => k_is)
    (case k13 => k_is)
    (case a14 => k_is)
    (case l14 => k_is)
    (case c14 => k_is)
    (case k14 => k_is)
    (case a15 => k_is)
    (case l15 => k_is)
    (case c15 => k_is)
    (case k15 => k_is)
    (case a16 => k_is)
    (case l16 => k_is)
    (case c16 => k_is)
    (case k16 => k_is)
    (case a17 => k_is)
    (case l17 => k_is)
    (case c17 => k_is)
    (case k17 => k_is)
    (case a18 => k_is)
    (case l18 => k_is)
    (case c18 => k_is)
    (case k18 => k_is)
    (case a19 => k_is)
    (case l19 => k_is)
    (case c19 => k_is)
    (case k19 => k_is)
    (case a20 => k_is)
    (case l20 => k_is)
    (case c20 => k_is)
    (case k20 => k_is)
    (case a21 => k_is)
    (case l21 => k_is)
    (case c21 => k_is)
    (case k21 => k_is)
    (case a22 => k_is)
    (case l22 => k_is)
    (case c22 => k_is)
    (case k22 => k_is)
    (case a23 => k_is)
    (case l23 => k_is)
    (case c23 => k_is)
    (case k23 => k_is)
    (case a24 => k_is)
    (case l24 => k_is)
    (case c24 => k_is)
    (case k24 => k_is)
    (case a25 => k_is)
    (case l25 => k_is)
    (case c25 => k_is)
    (case k25 => k_is)
    (case a26 => k_is)
    (case l26 => k_is)
    (case c26 => k_is)
    (case k26 => k_is)
    (case tw' => k_is)
    (case tb' => k_is)
    (case gaS => k_is)
    (case gaT => k_is)
    (case gaA => k_is)
    (case gaP => k_is)
    (case gaL => k_is)
    (case oS => k_is)
    (case oT => k_is)
    (case oA => k_is)
    (case oP => k_is)
    (case oL => k_is)
    (case lP => (show PySem.W.KeysLit _ _); (repeat' (first | exact trivial | refine ⟨⟨_, _, rfl, rfl⟩, ?_⟩)))
    (case lL => (show PySem.W.KeysLit _ _); (repeat' (first | exact trivial | refine ⟨⟨_, _, rfl, rfl⟩, ?_⟩)))
    (case sL => rfl)
    (case p_look => k_is)
    (case q_look => k_is)
    (case p_not => k_is)
    (case q_not => k_is)
    (case p_op => k_is)
    (case q_op => k_is)
    (case p_pick => k_is)
    (case q_pick => k_is)
    (case p_wide => k_is)
    (case q_wide => k_is)
    (case p_part => k_is)
    (case q_part => k_is)
    (case p_join => k_is)
    (case q_join => k_is)
    (case r00 => k_is)
    (case r01 => k_is)
    (case r02 => k_is)
    (case r03 => k_is)
    (case r04 => k_is)
    (case r05 => k_is)
    (case r06 => k_is)
    (case r07 => k_is)
    (case r08 => k_is)
    (case r09 => k_is)
    (case r10 => k_is)
    (case r11 => k_is)
    (case r12 => k_is)
    (case r13 => k_is)
    (case r14 => k_is)
    (case r15 => k_is)
    (case r16 => k_is)
    (case r17 => k_is)
    (case r18 => k_is)
    (case r19 => k_is)
    (case z_type => k_is)
    (case z_int => k_is)
    (case z_tuple => k_is)
    (case z_str => k_is)
    (case z_len => k_is)
    (case z_all => k_is)
    (case z_zip => k_is)
    (case z_range => k_is)
    (case z_abs => k_is)
    (case z_isinstance => k_is)
    (case z_bool => k_is)
    (case z_sum => k_is)
