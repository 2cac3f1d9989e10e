import PyProof.Rows.All
import Wide.All
import OpenK.AllK
import Wide.FinOn
import PySem.Challenge.RW_stagecut_k10_circuits_that_run
import HandS.ForMost
import HandS.ForExc
import HandS.Codes
import HandS.StrMore
import HandS.IsInst
import HandS.More
import HandS.Zip
import HandS.Deep
import HandS.WrittenGet
import HandS.WideBits
import HandS.CallLocal
import HandS.DictComp
import HandS.TupLe
import HandS.Conv
set_option Elab.async false
set_option linter.all false
set_option maxRecDepth 100000
set_option maxHeartbeats 8000000
set_option pp.maxSteps 500

/-! The law's draws, data without lists. -/
namespace C1
open PySem PySem.Spec PyProof.Rows L2 SX
def topS (i : Nat) : Stmt := PySem.Challenge.pw_stagecut_k10_circuits_that_run.main.body.getD i (.Pass ⟨0, 0, 0, 0⟩)
abbrev sParts : Stmt := topS 2
abbrev sMask : Stmt := topS 9
abbrev sFitted : Stmt := topS 22
abbrev sOpw : Stmt := topS 23
abbrev sIsCircuit : Stmt := topS 26
abbrev sIsTuple : Stmt := topS 28
abbrev sIsBelow : Stmt := topS 29
abbrev sIsWidth : Stmt := topS 30
abbrev sIsRegister : Stmt := topS 31
abbrev sIsMemory : Stmt := topS 32
abbrev sRowWidth : Stmt := topS 33
abbrev sKnown : Stmt := topS 34
abbrev sAreNexts : Stmt := topS 35
abbrev sAreEnds : Stmt := topS 36
abbrev sIsStore : Stmt := topS 37
abbrev sDraws : Stmt := topS 42
abbrev sNext : Stmt := topS 43
abbrev sRow : Stmt := topS 45
abbrev sCircuit : Stmt := topS 46
abbrev sLaw : Stmt := topS 52
theorem scDraws : FnScope ["script", "many", "draws", "mixed", "k", "cell", "rest", "turn"] ["script", "many"] (defScope sDraws) := ⟨rfl, rfl, rfl, by decide +kernel, rfl, by decide +kernel, by decide +kernel⟩
theorem scNext : FnScope ["w", "many"] ["w", "many"] (defScope sNext) := ⟨rfl, rfl, rfl, by decide +kernel, rfl, by decide +kernel, by decide +kernel⟩
theorem cut_ints (ds : List Int) (lo hi : Option Int) : ∃ es : List Int, cutV (ds.map V.int) lo hi = es.map V.int ∧ es.length ≤ ds.length := by
  refine ⟨(ds.drop (HT.sIx ds.length 0 lo)).take (HT.sIx ds.length ds.length hi - HT.sIx ds.length 0 lo), ?_, ?_⟩
  · unfold cutV
    rw [List.length_map, List.map_take, List.map_drop]
  · rw [List.length_take, List.length_drop]
    omega
theorem ap_int (ds : List Int) (z : Int) : ds.map V.int ++ [V.int z] = (ds ++ [z]).map V.int := by
  rw [List.map_append]
  rfl
theorem same_new {H : Hp} {p : Addr} {o : HO} (n : H p = none) : Same H (upd H p o) := fun b x e => by
  rw [upd_ne (ne_of_none e n)]
  exact e
theorem same_put {H H1 : Hp} {l : Addr} {o : HO} (g : Same H H1) (n : H l = none) : Same H (upd H1 l o) := fun b x e => by
  rw [upd_ne (ne_of_none e n)]
  exact g b x e
section
variable {P : Program} {w : World} {K : PySem.W.Frag} {mg : Str → Option Value} {base : Heap}
/-- the built-ins that the law calls -/
structure Bl (mg : Str → Option Value) : Prop where
  len : mg "len" = none
  range : mg "range" = none
  abs : mg "abs" = none
  int : mg "int" = none
  str : mg "str" = none
def spDraws (K : PySem.W.Frag) : Sp := fun vs H Q _ => ∃ (a : Addr) (ns : List Int) (m : Nat), vs = [.ref a, .int ((m : Nat) : Int)] ∧ SqL K H a (ns.map V.int) ∧ ns.length ≤ 63 ∧ m ≤ 1000 ∧
  ∀ (H' : Hp) (p : Addr) (ds : List Int), Same H H' → H p = none → H' p = some (.lst (ds.map V.int)) → ds.length ≤ 10000 → Q (.ref p) H'
theorem ok_draws {f : Addr} {fd : FuncData} (F : Fun K "_law_draws" "_law_draws" sDraws f fd) (B : Bl mg) : FnOk P w K mg base CX0 1 f fd ["script", "many"] (spDraws K) := by
  refine F.ok scDraws (fun vs H Q E h => ?_) (fun cdv A outer s H vs Q E hr h => ?_)
  · obtain ⟨a, ns, m, rfl, _⟩ := h
    rfl
  · obtain ⟨a, ns, m, rfl, hS, hlen, hm, q⟩ := h
    have nd := scDraws.nd
    refine ⟨_, (pss_cons (ps_set (i := 2) nd rfl (.inl rfl) (pe_lst pa_nil))
      (pss_cons (ps_set (i := 3) nd rfl (.inl rfl) (pe_int))
      (pss_cons (ps_for PassesOwn.never rfl (pi_range1 (by rfl) B.range (pa_cons (pe_callB call_len_seq (by rfl) B.len PySem.boot_len (pa_cons (pv 0) pa_nil)) pa_nil)) (pg_name (i := 4) nd rfl (.inl rfl)) (pss_cons (ps_set (i := 5) nd rfl (.inl rfl) (pe_callB call_abs (by rfl) B.abs (by decide +kernel) (pa_cons (pe_callTy call_int1 (by rfl) B.int (by decide +kernel) (pa_cons (pe_ix ix_list (pv 0) (pv 4) (fun _ _ => rfl)) pa_nil)) pa_nil)))
      (pss_cons (ps_set (i := 3) nd rfl (.inl rfl) (pe_op op_mod (pe_callTy call_int1 (by rfl) B.int (by decide +kernel) (pa_cons (pe_op op_add (pe_op op_add (pe_op op_mul (pv 3) (pe_int)) (pe_op op_mod (pv 5) (pe_int))) (pv 4)) pa_nil)) (pe_int)))
      (pss_cons (ps_set (i := 6) nd rfl (.inl rfl) (pe_int))
      (C8.pss_cut (ps_if (pt_cmpR op_ge (pv 5) (pe_op op_pow pe_int pe_int) (nomark _)) (pss_one (ps_set (i := 6) nd rfl (.inl rfl) (pv 5)))
      (pss_cons (ps_expr (pe_bm PySem.F.plainAttrs_list PySem.F.slot_list_append PySem.F.type_list_append mt_append (pv 2) (pa_cons (pe_op op_mod (pe_callTy call_int1 (by rfl) B.int (by decide +kernel) (pa_cons (pv 5) pa_nil)) (pe_int)) pa_nil)))
      (pss_one (ps_expr (pe_bm PySem.F.plainAttrs_list PySem.F.slot_list_append PySem.F.type_list_append mt_append (pv 2) (pa_cons (pe_op op_mod (pe_op op_mod (pe_callTy call_int1 (by rfl) B.int (by decide +kernel) (pa_cons (pe_op op_add (pe_op op_mul (pv 3) (pe_int)) (pe_int)) pa_nil)) (pe_int)) (pe_int)) pa_nil))))))
      (pss_one (ps_for PassesOwn.never rfl (pi_range1 (by rfl) B.range (pa_cons (pe_int) pa_nil)) (pg_name (i := 7) nd rfl (.inl rfl)) (pss_one (ps_if (pt_cmpR op_gt (pv 6) pe_int (nomark _)) (pss_cons (ps_expr (pe_bm PySem.F.plainAttrs_list PySem.F.slot_list_append PySem.F.type_list_append mt_append (pv 2) (pa_cons (pe_op op_mod (pe_callTy call_int1 (by rfl) B.int (by decide +kernel) (pa_cons (pv 6) pa_nil)) (pe_int)) pa_nil)))
      (pss_one (ps_set (i := 6) nd rfl (.inl rfl) (pe_op op_fdiv (pv 6) (pe_int))))) pss_nil)))))))))
      (pss_cons (ps_for PassesOwn.never rfl (pi_range1 (by rfl) B.range (pa_cons (pv 1) pa_nil)) (pg_name (i := 4) nd rfl (.inl rfl)) (pss_cons (ps_set (i := 3) nd rfl (.inl rfl) (pe_op op_mod (pe_callTy call_int1 (by rfl) B.int (by decide +kernel) (pa_cons (pe_op op_add (pe_op op_add (pe_op op_mul (pv 3) (pe_int)) (pv 4)) (pe_int)) pa_nil)) (pe_int)))
      (pss_one (ps_expr (pe_bm PySem.F.plainAttrs_list PySem.F.slot_list_append PySem.F.type_list_append mt_append (pv 2) (pa_cons (pe_op op_mod (pe_callTy call_int1 (by rfl) B.int (by decide +kernel) (pa_cons (pv 3) pa_nil)) (pe_int)) pa_nil))))))
      (pss_one (ps_ret (pe_slice sl_list (pv 2) po_none (po_some (pv 1))))))))), ?_⟩
    refine ⟨Nat.zero_le _, fun l nl => ?_⟩
    have big : 100000 ≤ sizeLine := by
      rw [sizeLine_eq]
      decide
    let Iv : Nat → L2.St → Hp → Prop := fun n σ H' => ∃ (mixed : Int) (ds : List Int) (y4 y5 y6 y7 : Option V), σ = [some (.ref a), some (.int ((m : Nat) : Int)), some (.ref l), some (.int mixed), y4, y5, y6, y7] ∧ Same H H' ∧ H' l = some (.lst (ds.map V.int)) ∧ ds.length ≤ n ∧ 0 ≤ mixed ∧ mixed < 65537
    have h65 : ∀ x : Int, 0 ≤ x % 65537 ∧ x % 65537 < 65537 := fun x => ⟨Int.emod_nonneg x (by decide), Int.emod_lt_of_pos x (by decide)⟩
    refine ⟨_, rfl, a, ns.map V.int, rfl, .inl ((same_new nl).seq hS), ?_⟩
    rw [List.length_map]
    refine ⟨_, rfl, by omega, by omega, for_range (fun i σ H' => Iv (62 * i) σ H') ⟨7, [], none, none, none, none, rfl, same_new nl, upd_same, Nat.le_refl 0, by decide, by decide⟩ (fun i σ H1 hi h1 => ?_) (fun σ H1 h1 => ?_)⟩
    · obtain ⟨mixed, ds, y4, y5, y6, y7, rfl, g, el, dl, m0, m1⟩ := h1
      have hi2 : i < ns.length := by omega
      have hg : (ns.map V.int)[i]? = some (.int ns[i]) := by
        rw [List.getElem?_map, List.getElem?_eq_getElem hi2]
        rfl
      rw [Int.zero_add]
      refine ⟨_, rfl, _, rfl, a, _, _, _, rfl, rfl, g.seq hS, atI_nat (j := i) hg, .inl ⟨_, rfl, _, rfl, ?_⟩⟩
      generalize (if ns[i] < 0 then -ns[i] else ns[i]) = c
      refine ⟨_, rfl, _, _, rfl, rfl, .inl ⟨by omega, by omega⟩, _, rfl, _, _, rfl, rfl, (show (0 : Int) < 1000003 by decide), _, _, rfl, rfl, _, rfl, _, _, rfl, rfl, .inl ⟨_, rfl, _, _, rfl, rfl, (show (0 : Int) < 65537 by decide), ?_⟩⟩
      have mx := h65 (mixed * 48271 + c % 1000003 + ((i : Nat) : Int))
      -- behind the if: what the loop over 60 turns asks
      refine ⟨fun σ H2 => ∃ (ds : List Int) (rest : Int) (y7 : Option V), σ = [some (.ref a), some (.int ((m : Nat) : Int)), some (.ref l), some (.int ((mixed * 48271 + c % 1000003 + ((i : Nat) : Int)) % 65537)), some (.int ((i : Nat) : Int)), some (.int c), some (.int rest), y7] ∧ Same H H2 ∧ H2 l = some (.lst (ds.map V.int)) ∧ ds.length ≤ 62 * i + 2, ?_, ?_⟩
      · refine ⟨_, rfl, _, _, rfl, rfl, ⟨by decide, by decide, by decide⟩, _, _, rfl, rfl, _, rfl, ite2 (fun a1 => ?_) (fun a1 => ?_)⟩
        · exact ⟨_, rfl, ds, c, _, rfl, g, el, by omega⟩
        · refine ⟨_, rfl, .inl ⟨rfl, _, SqL.of el⟩, _, rfl, .inl ⟨_, rfl, _, _, rfl, rfl, (show (0 : Int) < 997 by decide), l, _, _, rfl, rfl, el, ?_, ?_⟩⟩
          · rw [List.length_map]
            omega
          · rw [ap_int]
            refine ⟨_, rfl, .inl ⟨rfl, _, SqL.of upd_same⟩, _, rfl, _, _, rfl, rfl, .inl ⟨by omega, by omega⟩, _, _, rfl, rfl, .inl ⟨_, rfl, _, _, rfl, rfl, (show (0 : Int) < 65521 by decide), _, _, rfl, rfl, (show (0 : Int) < 997 by decide), l, _, _, rfl, rfl, upd_same, ?_, ?_⟩⟩
            · rw [List.length_map, List.length_append]
              show ds.length + 1 < sizeLine
              omega
            · rw [ap_int]
              refine ⟨_, 0, _, rfl, same_put (same_put g nl) nl, upd_same, ?_⟩
              rw [List.length_append, List.length_append]
              show ds.length + 1 + 1 ≤ _
              omega
      · rintro σ H2 ⟨ds, rest, y7, rfl, g, el, dl⟩
        refine ⟨_, rfl, by decide, by decide, for_range (fun j σ H3 => ∃ (ds : List Int) (rest : Int) (y7 : Option V), σ = [some (.ref a), some (.int ((m : Nat) : Int)), some (.ref l), some (.int ((mixed * 48271 + c % 1000003 + ((i : Nat) : Int)) % 65537)), some (.int ((i : Nat) : Int)), some (.int c), some (.int rest), y7] ∧ Same H H3 ∧ H3 l = some (.lst (ds.map V.int)) ∧ ds.length ≤ 62 * i + 2 + j)
          ⟨ds, rest, y7, rfl, g, el, dl⟩ (fun j σ H3 hj h3 => ?_) (fun σ H3 h3 => ?_)⟩
        · obtain ⟨ds, rest, y7, rfl, g, el, dl⟩ := h3
          have hj2 : j < 60 := hj
          refine ⟨_, rfl, _, _, rfl, rfl, _, rfl, ite2 (fun a1 => ?_) (fun a1 => ?_)⟩
          · refine ⟨_, rfl, .inl ⟨rfl, _, SqL.of el⟩, _, rfl, .inl ⟨_, rfl, _, _, rfl, rfl, (show (0 : Int) < 997 by decide), l, _, _, rfl, rfl, el, ?_, ?_⟩⟩
            · rw [List.length_map]
              omega
            · rw [ap_int]
              refine ⟨_, rfl, _, _, rfl, rfl, ⟨by decide, by decide⟩, _, _, _, rfl, same_put g nl, upd_same, ?_⟩
              rw [List.length_append]
              show ds.length + 1 ≤ _
              omega
          · exact ⟨ds, rest, _, rfl, g, el, by omega⟩
        · obtain ⟨ds, rest, y7, rfl, g, el, dl⟩ := h3
          have dl2 : ds.length ≤ 62 * i + 2 + 60 := dl
          exact ⟨_, ds, _, _, _, _, rfl, g, el, by omega, mx.1, mx.2⟩
    · obtain ⟨mixed, ds, y4, y5, y6, y7, rfl, g, el, dl, m0, m1⟩ := h1
      have dl2 : ds.length ≤ 4000 := by omega
      refine ⟨_, rfl, _, rfl, by omega, by omega, for_range (fun j σ H2 => Iv (4000 + j) σ H2) ⟨mixed, ds, y4, y5, y6, y7, rfl, g, el, by omega, m0, m1⟩ (fun j σ H2 hj h2 => ?_) (fun σ H2 h2 => ?_)⟩
      · obtain ⟨mixed, ds, y4, y5, y6, y7, rfl, g, el, dl, m0, m1⟩ := h2
        have hj2 : j < m := by omega
        refine ⟨_, rfl, _, _, rfl, rfl, .inl ⟨by omega, by omega⟩, _, rfl, _, _, rfl, rfl, _, _, rfl, rfl, .inl ⟨_, rfl, _, _, rfl, rfl, (show (0 : Int) < 65537 by decide), ?_⟩⟩
        have mx := h65 (mixed * 16807 + (0 + ((j : Nat) : Int)) + 1)
        refine ⟨_, rfl, .inl ⟨rfl, _, SqL.of el⟩, _, rfl, .inl ⟨_, rfl, _, _, rfl, rfl, (show (0 : Int) < 997 by decide), l, _, _, rfl, rfl, el, ?_, ?_⟩⟩
        · rw [List.length_map]
          omega
        · rw [ap_int]
          refine ⟨_, _, _, _, _, _, rfl, same_put g nl, upd_same, ?_, mx.1, mx.2⟩
          rw [List.length_append]
          show ds.length + 1 ≤ _
          omega
      · obtain ⟨mixed, ds, y4, y5, y6, y7, rfl, g, el, dl, m0, m1⟩ := h2
        have dl3 : ds.length ≤ 5000 := by omega
        refine ⟨_, rfl, _, rfl, _, rfl, l, _, rfl, SqL.of el, fun p np => ?_⟩
        obtain ⟨es, e1, e2⟩ := cut_ints ds none (some ((m : Nat) : Int))
        rw [e1]
        exact q _ p es (fun b o e => same_new np b o (g b o e)) (g.free np) upd_same (by omega)
end
/-- the law's world: its draws and how many are taken -/
def wdL (l : Addr) (n : Int) : List (Key × V) := [(.inr ("draws" : Str), .ref l), (.inr ("at" : Str), .int n)]
theorem wd_draws (l : Addr) (n : Int) : valV (wdL l n) (.inr "draws") = some (.ref l) := valV_pos rfl
theorem wd_at (l : Addr) (n : Int) : valV (wdL l n) (.inr "at") = some (.int n) := (valV_neg (show ¬ (Sum.inr ("draws" : Str) : Key) = Sum.inr ("at" : Str) by decide)).trans (valV_pos rfl)
theorem wd_put (l : Addr) (n k : Int) : putK (wdL l n) (.inr ("at" : Str)) (.int k) = wdL l k := by
  have h1 : ¬ (Sum.inr ("draws" : Str) : Key) = Sum.inr ("at" : Str) := by decide
  unfold putK wdL
  simp [h1]
theorem get_draws {H : Hp} {a l : Addr} {n : Int} (h : H a = some (.dK (wdL l n))) : DGet H a (.str "draws") (some (.ref l)) := by
  have g := DGet.k (k := .inr "draws") h
  rw [wd_draws] at g
  exact g
theorem get_at {H : Hp} {a l : Addr} {n : Int} (h : H a = some (.dK (wdL l n))) : DGet H a (.str "at") (some (.int n)) := by
  have g := DGet.k (k := .inr "at") h
  rw [wd_at] at g
  exact g
theorem put_at {H : Hp} {a l : Addr} {n k : Int} (h : H a = some (.dK (wdL l n))) : DPut H a (.str "at") (.int k) (upd H a (.dK (wdL l k))) := by
  have g := DPut.k (k := .inr "at") (v := .int k) h (by rw [sizeLine_eq]; exact (by decide : 2 < 16777216))
  rw [wd_put] at g
  exact g
structure Wd (H : Hp) (a l : Addr) (ds : List Int) : Prop where
  at' : ∃ n : Int, 0 ≤ n ∧ H a = some (.dK (wdL l n))
  dr : H l = some (.lst (ds.map V.int))
  len : ds.length ≤ 10000
/-- all but the world at a is as it was -/
def Kp (a : Addr) (H H' : Hp) : Prop := ∀ b o, b ≠ a → H b = some o → H' b = some o
section
variable {a l : Addr} {ds : List Int} {H H1 H2 : Hp}
theorem Kp.refl (H : Hp) : Kp a H H := fun _ _ _ e => e
theorem Kp.trans (x : Kp a H H1) (y : Kp a H1 H2) : Kp a H H2 := fun b o n e => y b o n (x b o n e)
theorem Wd.ne (W : Wd H a l ds) : l ≠ a := by
  obtain ⟨n, _, e⟩ := W.at'
  exact ne_of W.dr e (by intro z; cases z)
theorem Kp.new {p : Addr} {o : HO} (n : H p = none) : Kp a H (upd H p o) := fun b u _ e => by
  rw [upd_ne (ne_of_none e n)]
  exact e
theorem Wd.new (W : Wd H a l ds) {p : Addr} {o : HO} (n : H p = none) : Wd (upd H p o) a l ds := by
  obtain ⟨k, k0, e⟩ := W.at'
  refine ⟨⟨k, k0, ?_⟩, ?_, W.len⟩
  · rw [upd_ne (ne_of_none e n)]
    exact e
  · rw [upd_ne (ne_of_none W.dr n)]
    exact W.dr
theorem Kp.step {o : HO} : Kp a H (upd H a o) := fun b u n e => by
  rw [upd_ne n]
  exact e
theorem Wd.step (W : Wd H a l ds) {n : Int} (h : 0 ≤ n) : Wd (upd H a (.dK (wdL l n))) a l ds := by
  refine ⟨⟨n, h, upd_same⟩, ?_, W.len⟩
  rw [upd_ne W.ne]
  exact W.dr
theorem Wd.fresh (W : Wd H a l ds) {p : Addr} (n : H p = none) : p ≠ a := fun z => by
  obtain ⟨k, _, e⟩ := W.at'
  rw [z, e] at n
  cases n
end
section
variable {P : Program} {w : World} {K : PySem.W.Frag} {mg : Str → Option Value} {base : Heap}
def spNext : Sp := fun vs H Q _ => ∃ (a l : Addr) (ds : List Int) (m : Int), vs = [.ref a, .int m] ∧ 0 < m ∧ Wd H a l ds ∧ ∀ (r : Nat) H', ((r : Nat) : Int) < m → Kp a H H' → (∀ b, b ≠ a → H' b = H b) → Wd H' a l ds → Q (.int ((r : Nat) : Int)) H'
theorem ok_next {f : Addr} {fd : FuncData} (F : Fun K "_law_next" "_law_next" sNext f fd) (B : Bl mg) : FnOk P w K mg base CX0 1 f fd ["w", "many"] spNext := by
  refine F.ok scNext (fun vs H Q E h => ?_) (fun cdv A outer s H vs Q E hr h => ?_)
  · obtain ⟨a, l, ds, m, rfl, _⟩ := h
    rfl
  · obtain ⟨a, l, ds, m, rfl, hm, W, q⟩ := h
    have hu := hu_of hr
    refine ⟨_, pss_cons (ps_daug hu (pv 0) pe_str pe_int in_add (fun _ _ _ => rfl))
      (pss_cons (ps_if (pt_cmpR op_gt (pe_dget hu (pv 0) pe_str (fun _ _ => rfl)) (pe_callB call_len_seq (by rfl) B.len PySem.boot_len (pa_cons (pe_dget hu (pv 0) pe_str (fun _ _ => rfl)) pa_nil)) (nomark _)) (pss_one (ps_ret pe_int)) pss_nil)
      (pss_one (ps_ret (pe_op op_mod (pe_callTy call_int1 (by rfl) B.int (by decide +kernel) (pa_cons (pe_ix ix_list (pe_dget hu (pv 0) pe_str (fun _ _ => rfl)) (pe_op op_sub (pe_dget hu (pv 0) pe_str (fun _ _ => rfl)) pe_int) (fun _ _ => rfl)) pa_nil)) (pv 1))))), ?_⟩
    obtain ⟨n, n0, e⟩ := W.at'
    refine ⟨_, rfl, a, _, rfl, get_at e, _, _, rfl, rfl, _, put_at e, ?_⟩
    have W1 : Wd (upd H a (.dK (wdL l (n + 1)))) a l ds := W.step (by omega)
    have e1 : (upd H a (.dK (wdL l (n + 1)))) a = some (.dK (wdL l (n + 1))) := upd_same
    refine ⟨_, rfl, a, _, rfl, get_at e1, _, rfl, a, _, rfl, get_draws e1, l, _, rfl, .inl (SqL.of W1.dr), _, _, rfl, rfl, _, rfl, ite2 (fun a1 => ?_) (fun a1 => ?_)⟩
    · exact q 0 _ hm Kp.step (fun b hb => upd_ne hb) W1
    · have b1 : ¬ ((ds.map V.int).length : Int) < n + 1 := fun z => a1 (decide_eq_true z)
      rw [List.length_map] at b1
      obtain ⟨j, ej⟩ : ∃ j : Nat, n + 1 - 1 = ((j : Nat) : Int) := ⟨n.toNat, by omega⟩
      have hj : j < ds.length := by omega
      have hg : (ds.map V.int)[j]? = some (.int ds[j]) := by
        rw [List.getElem?_map, List.getElem?_eq_getElem hj]
        rfl
      refine ⟨_, rfl, a, _, rfl, get_draws e1, _, rfl, a, _, rfl, get_at e1, _, _, rfl, rfl, l, _, _, .int ds[j], rfl, rfl, SqL.of W1.dr, ?_, .inl ⟨_, rfl, _, rfl, _, _, rfl, rfl, hm, ?_⟩⟩
      · rw [ej]
        exact atI_nat (j := j) hg
      · have z0 := Int.emod_nonneg ds[j] (show m ≠ 0 by omega)
        have z1 := Int.emod_lt_of_pos ds[j] hm
        obtain ⟨r, er⟩ : ∃ r : Nat, ds[j] % m = ((r : Nat) : Int) := ⟨(ds[j] % m).toNat, by omega⟩
        show Q (.int (ds[j] % m)) _
        rw [er]
        exact q r _ (by omega) Kp.step (fun b hb => upd_ne hb) W1
end
/-! data without lists: it stays where tuples stay -/
mutual
def noL : PyData → Bool
  | .list _ => false
  | .dict _ => false
  | .tuple ds => noLs ds
  | _ => true
def noLs : List PyData → Bool
  | [] => true
  | d :: ds => noL d && noLs ds
end
mutual
theorem dp_stay {K : PySem.W.Frag} {H H' : Hp} (st : ∀ a xs, SqT K H a xs → SqT K H' a xs) : ∀ (d : PyData) (v : V), Dp K H v d → noL d = true → Dp K H' v d
  | .none, _, h, _ => by cases h; exact .non
  | .bool _, _, h, _ => by cases h; exact .bl _
  | .int _, _, h, _ => by cases h; exact .int _
  | .str _, _, h, _ => by cases h; exact .str _
  | .list _, _, _, n => by cases n
  | .dict _, _, _, n => by cases n
  | .tuple ds, _, h, n => by
    cases h with
    | tup s a => exact .tup (st _ _ s) (dps_stay st ds _ a n)
theorem dps_stay {K : PySem.W.Frag} {H H' : Hp} (st : ∀ a xs, SqT K H a xs → SqT K H' a xs) : ∀ (ds : List PyData) (vs : List V), DpAll K H vs ds → noLs ds = true → DpAll K H' vs ds
  | [], _, h, _ => by cases h; exact .nil
  | d :: ds, _, h, n => by
    cases h with
    | cons a b =>
      have n2 : (noL d && noLs ds) = true := n
      rw [Bool.and_eq_true] at n2
      exact .cons (dp_stay st d _ a n2.1) (dps_stay st ds _ b n2.2)
end
theorem noLs_app : ∀ (a b : List PyData), noLs (a ++ b) = (noLs a && noLs b)
  | [], b => rfl
  | d :: a, b => by
    show (noL d && noLs (a ++ b)) = ((noL d && noLs a) && noLs b)
    rw [noLs_app a b, Bool.and_assoc]
theorem dps_app {K : PySem.W.Frag} {H : Hp} : ∀ {vs : List V} {ds : List PyData} {us : List V} {es : List PyData}, DpAll K H vs ds → DpAll K H us es → DpAll K H (vs ++ us) (ds ++ es)
  | _, _, _, _, .nil, h => h
  | _, _, _, _, .cons a b, h => .cons a (dps_app b h)
theorem dps_len {K : PySem.W.Frag} {H : Hp} : ∀ {vs : List V} {ds : List PyData}, DpAll K H vs ds → vs.length = ds.length
  | _, _, .nil => rfl
  | _, _, .cons _ b => by rw [List.length_cons, List.length_cons, dps_len b]
/-- a new object at p, the list at l grown: tuples stay -/
theorem tups_upd {K : PySem.W.Frag} {H : Hp} {l : Addr} {xs : List V} {o : HO} (e : H l = some (.lst xs)) : ∀ a ys, SqT K H a ys → SqT K (upd H l o) a ys := fun a ys h => by
  rcases h with (h | ⟨u, h⟩) | h
  · refine .inl (.inl ?_)
    rw [upd_ne (ne_of h e (by intro z; cases z))]
    exact h
  · refine .inl (.inr ⟨u, ?_⟩)
    rw [upd_ne (ne_of h e (by intro z; cases z))]
    exact h
  · exact .inr h
end C1

/-! Circuits as drawn: the data, what stands of them, small rules. -/
namespace C1
open PySem PySem.Spec PyProof.Rows L2 SX
theorem dps_get {K : PySem.W.Frag} {H : Hp} : ∀ {vs : List V} {ds : List PyData} {i : Nat} {x : V}, DpAll K H vs ds → vs[i]? = some x → ∃ d, ds[i]? = some d ∧ Dp K H x d
  | _, _, _, _, .nil, h => by simp at h
  | _, _, 0, _, .cons a _, h => by
    have e := Option.some.inj h
    subst e
    exact ⟨_, rfl, a⟩
  | _, _, i + 1, _, .cons _ b, h => dps_get (i := i) b h
def LayAll (F : List PyData) : Prop := ∀ d ∈ F, PyData.canLay0 d = true ∧ PyData.depth d ≤ 5
theorem shaped_list : ∀ (F : List PyData), LayAll F → SeqAt.shaped (.list F) = true := by
  have h1 : ∀ F : List PyData, LayAll F → PyData.canLayAll0 F = true ∧ PyData.depthAll F ≤ 5 := by
    intro F
    induction F with
    | nil => exact fun _ => ⟨rfl, Nat.zero_le _⟩
    | cons d F ih =>
      intro h
      obtain ⟨a, b⟩ := ih fun x hx => h x (List.mem_cons_of_mem _ hx)
      obtain ⟨c, e⟩ := h d (List.mem_cons_self ..)
      refine ⟨?_, ?_⟩
      · show (PyData.canLay0 d && PyData.canLayAll0 F) = true
        rw [c, a]
        rfl
      · show max (PyData.depth d) (PyData.depthAll F) ≤ 5
        exact Nat.max_le.mpr ⟨e, b⟩
  intro F h
  obtain ⟨a, b⟩ := h1 F h
  unfold SeqAt.shaped
  rw [Bool.and_eq_true]
  refine ⟨a, decide_eq_true ?_⟩
  show PyData.depthAll F + 1 ≤ 64
  omega
/-! ### numbers -/
abbrev iV (k : Nat) : V := .int ((k : Nat) : Int)
abbrev iD (k : Nat) : PyData := .int ((k : Nat) : Int)
def pr (p : Nat × Nat) : PyData := .tuple [iD p.1, iD p.2]
inductive Row
  | lit (v w : Nat) | reg (i : Nat) | look (m a : Nat) | inv (a : Nat) | wide (a w : Nat) | part (a lo hi : Nat) | join (a b : Nat) | op (s : Str) (a b : Nat) | pick (t a b : Nat)
def Row.d : Row → PyData
  | .lit v w => .tuple [.str "lit", iD v, iD w]
  | .reg i => .tuple [.str "reg", iD i]
  | .look m a => .tuple [.str "look", iD m, iD a]
  | .inv a => .tuple [.str "not", iD a]
  | .wide a w => .tuple [.str "wide", iD a, iD w]
  | .part a lo hi => .tuple [.str "part", iD a, iD lo, iD hi]
  | .join a b => .tuple [.str "join", iD a, iD b]
  | .op s a b => .tuple [.str "op", .str s, iD a, iD b]
  | .pick t a b => .tuple [.str "pick", iD t, iD a, iD b]
def arithL : List Str := ["+", "-", "*", "&", "|", "^"]
def testL : List Str := ["==", "<"]
def shiftL : List Str := ["<<", ">>"]
/-- what the law draws: a row behind rows of these widths, and its width -/
inductive RowOk (regs mems : List (Nat × Nat)) (ws : List Nat) : Row → Nat → Prop
  | lit {v w : Nat} : v < 2 ^ w → RowOk regs mems ws (.lit v w) w
  | reg {i w f : Nat} : regs[i]? = some (w, f) → RowOk regs mems ws (.reg i) w
  | look {m a b w : Nat} : mems[m]? = some (b, w) → ws[a]? = some b → RowOk regs mems ws (.look m a) w
  | inv {a w : Nat} : ws[a]? = some w → RowOk regs mems ws (.inv a) w
  | wide {a x w : Nat} : ws[a]? = some x → RowOk regs mems ws (.wide a w) w
  | part {a x lo hi : Nat} : ws[a]? = some x → lo ≤ hi → hi < x → RowOk regs mems ws (.part a lo hi) (hi - lo + 1)
  | join {a b x y : Nat} : ws[a]? = some x → ws[b]? = some y → RowOk regs mems ws (.join a b) (x + y)
  | shift {s : Str} {a b x y : Nat} : s ∈ shiftL → ws[a]? = some x → ws[b]? = some y → RowOk regs mems ws (.op s a b) x
  | arith {s : Str} {a b x : Nat} : s ∈ arithL → ws[a]? = some x → ws[b]? = some x → RowOk regs mems ws (.op s a b) x
  | test {s : Str} {a b x : Nat} : s ∈ testL → ws[a]? = some x → ws[b]? = some x → RowOk regs mems ws (.op s a b) 1
  | pick {t a b x : Nat} : ws[t]? = some 1 → ws[a]? = some x → ws[b]? = some x → RowOk regs mems ws (.pick t a b) x
def RegsOk (regs : List (Nat × Nat)) : Prop := ∀ p ∈ regs, 1 ≤ p.1 ∧ p.1 ≤ 5 ∧ p.2 < 2 ^ p.1
def MemsOk (mems : List (Nat × Nat)) : Prop := ∀ p ∈ mems, 1 ≤ p.1 ∧ p.1 ≤ 2 ∧ 1 ≤ p.2 ∧ p.2 ≤ 4
def WsOk (ws : List Nat) : Prop := ∀ x ∈ ws, 1 ≤ x ∧ x ≤ 12
/-! ### rows that fit some test, by their places -/
def fits (ws : List Nat) (x : Nat) (n : Nat) : List Nat := (List.range n).filter fun k => decide (ws[k]? = some x)
theorem fits_zero (ws : List Nat) (x : Nat) : fits ws x 0 = [] := rfl
theorem fits_yes {ws : List Nat} {x i : Nat} (h : ws[i]? = some x) : fits ws x (i + 1) = fits ws x i ++ [i] := by
  unfold fits
  rw [List.range_succ, List.filter_append, List.filter_cons_of_pos (by simp [h])]
  rfl
theorem fits_no {ws : List Nat} {x i : Nat} (h : ¬ ws[i]? = some x) : fits ws x (i + 1) = fits ws x i := by
  unfold fits
  rw [List.range_succ, List.filter_append, List.filter_cons_of_neg (by simp [h])]
  simp
theorem fits_len (ws : List Nat) (x n : Nat) : (fits ws x n).length ≤ n := by
  unfold fits
  exact Nat.le_trans (List.length_filter_le _ _) (by rw [List.length_range]; exact Nat.le_refl n)
theorem fits_mem {ws : List Nat} {x n k : Nat} : k ∈ fits ws x n ↔ k < n ∧ ws[k]? = some x := by
  unfold fits
  rw [List.mem_filter, List.mem_range]
  simp
theorem fits_at {ws : List Nat} {x n r k : Nat} (h : (fits ws x n)[r]? = some k) : k < n ∧ ws[k]? = some x := fits_mem.mp (List.mem_of_getElem? h)
/-! ### data -/
theorem cL_int : ∀ ks : List Nat, LayAll (ks.map iD) := fun ks d h => by
  obtain ⟨k, _, e⟩ := List.mem_map.mp h
  subst e
  exact ⟨rfl, Nat.zero_le _⟩
theorem cL_pr : ∀ ps : List (Nat × Nat), LayAll (ps.map pr) := fun ps d h => by
  obtain ⟨⟨x, y⟩, _, e⟩ := List.mem_map.mp h
  subst e
  refine ⟨rfl, ?_⟩
  unfold pr
  simp [PyData.depth, PyData.depthAll]
theorem eqv_nil (xs : List PyData) : PyData.eqv (.list xs) (.list []) = xs.isEmpty := by
  cases xs with
  | nil => rfl
  | cons x r => rfl
theorem dps_ints {K : PySem.W.Frag} {H : Hp} : ∀ ks : List Nat, DpAll K H (ks.map iV) (ks.map iD)
  | [] => .nil
  | k :: ks => .cons (.int _) (dps_ints ks)
theorem dps_put {K : PySem.W.Frag} {H : Hp} : ∀ {vs : List V} {ds : List PyData} {i : Nat} {d : PyData}, DpAll K H vs ds → ds[i]? = some d → ∃ x, vs[i]? = some x ∧ Dp K H x d
  | _, _, _, _, .nil, h => by simp at h
  | _, _, 0, _, .cons a _, h => by
    have e := Option.some.inj h
    subst e
    exact ⟨_, rfl, a⟩
  | _, _, i + 1, _, .cons _ b, h => dps_put (i := i) b h
theorem pr_at {K : PySem.W.Frag} {H : Hp} {vs : List V} {ps : List (Nat × Nat)} {i : Nat} {p : Nat × Nat} (h : DpAll K H vs (ps.map pr)) (e : ps[i]? = some p) : ∃ b, vs[i]? = some (.ref b) ∧ SqT K H b [iV p.1, iV p.2] := by
  obtain ⟨x, hx, hd⟩ := dps_put h (show (ps.map pr)[i]? = some (pr p) by rw [List.getElem?_map, e]; rfl)
  unfold pr at hd
  cases hd with
  | tup s a =>
    cases a with
    | cons a1 a =>
      cases a with
      | cons a2 a =>
        cases a
        cases a1
        cases a2
        exact ⟨_, hx, s⟩
theorem noLs_pr : ∀ ps : List (Nat × Nat), noLs (ps.map pr) = true
  | [] => rfl
  | p :: ps => by
    show (noL (pr p) && noLs (ps.map pr)) = true
    rw [noLs_pr ps]
    rfl
theorem int_at {ks : List Nat} {i k : Nat} (h : ks[i]? = some k) : (ks.map iV)[i]? = some (iV k) := by
  rw [List.getElem?_map, h]
  rfl
/-- tuples stay where all but the dict at a stays -/
theorem kp_tup {K : PySem.W.Frag} {a : Addr} {H H' : Hp} {kvs : List (Key × V)} (e : H a = some (.dK kvs)) (k : Kp a H H') : ∀ b xs, SqT K H b xs → SqT K H' b xs := fun b xs h => by
  have ne : ∀ {o : HO}, H b = some o → (∀ k2, o ≠ .dK k2) → b ≠ a := fun h1 h2 z => by
    subst z
    rw [e] at h1
    cases h1
    exact h2 _ rfl
  rcases h with (h | ⟨u, h⟩) | h
  · exact .inl (.inl (k b _ (ne h (by intro _ z; cases z)) h))
  · exact .inl (.inr ⟨u, k b _ (ne h (by intro _ z; cases z)) h⟩)
  · exact .inr h
def cdL (rl ml : Addr) : List (Key × V) := [(.inr ("registers" : Str), .ref rl), (.inr ("memories" : Str), .ref ml)]
structure CD (K : PySem.W.Frag) (H : Hp) (c rl ml : Addr) (regs mems : List (Nat × Nat)) : Prop where
  c0 : H c = some (.dK (cdL rl ml))
  r0 : ∃ rvs, H rl = some (.lst rvs) ∧ DpAll K H rvs (regs.map pr)
  m0 : ∃ mvs, H ml = some (.lst mvs) ∧ DpAll K H mvs (mems.map pr)
theorem wd_ne {H : Hp} {a l c rl ml : Addr} {ds : List Int} (W : Wd H a l ds) (h : H c = some (.dK (cdL rl ml))) : c ≠ a := fun z => by
  obtain ⟨n, _, e⟩ := W.at'
  subst z
  rw [e] at h
  have h2 := Option.some.inj h
  unfold wdL cdL at h2
  injection h2 with h3
  injection h3 with h4 h5
  injection h4 with h6 h7
  injection h6 with h8
  revert h8
  decide
theorem wd_lne {H : Hp} {a l b : Addr} {ds : List Int} {xs : List V} (W : Wd H a l ds) (h : H b = some (.lst xs)) : b ≠ a := fun z => by
  obtain ⟨n, _, e⟩ := W.at'
  subst z
  rw [e] at h
  cases h
theorem CD.kp {K : PySem.W.Frag} {H H' : Hp} {a l c rl ml : Addr} {ds : List Int} {regs mems : List (Nat × Nat)} (C : CD K H c rl ml regs mems) (W : Wd H a l ds) (k : Kp a H H') : CD K H' c rl ml regs mems := by
  obtain ⟨n, _, e⟩ := W.at'
  obtain ⟨rvs, r1, r2⟩ := C.r0
  obtain ⟨mvs, m1, m2⟩ := C.m0
  exact ⟨k c _ (wd_ne W C.c0) C.c0, ⟨rvs, k rl _ (wd_lne W r1) r1, dps_stay (kp_tup e k) _ _ r2 (noLs_pr _)⟩, ⟨mvs, k ml _ (wd_lne W m1) m1, dps_stay (kp_tup e k) _ _ m2 (noLs_pr _)⟩⟩
theorem cd_regs {H : Hp} {c rl ml : Addr} (h : H c = some (.dK (cdL rl ml))) : DGet H c (.str "registers") (some (.ref rl)) := by
  have g := DGet.k (k := .inr "registers") h
  rw [show valV (cdL rl ml) (.inr "registers") = some (.ref rl) from valV_pos rfl] at g
  exact g
theorem cd_mems {H : Hp} {c rl ml : Addr} (h : H c = some (.dK (cdL rl ml))) : DGet H c (.str "memories") (some (.ref ml)) := by
  have g := DGet.k (k := .inr "memories") h
  rw [show valV (cdL rl ml) (.inr "memories") = some (.ref ml) from (valV_neg (show ¬ (Sum.inr ("registers" : Str) : Key) = Sum.inr ("memories" : Str) by decide)).trans (valV_pos rfl)] at g
  exact g
end C1

/-! The law's row. -/
namespace C1
open PySem PySem.Spec PyProof.Rows L2 SX
abbrev NR : List Str := ["w", "c", "widths", "turn", "width", "at", "a", "fitting", "low", "high", "b", "same_v", "tests", "sign", "m", "k"]
theorem scRow : FnScope NR ["w", "c", "widths"] (defScope sRow) := ⟨rfl, rfl, rfl, by decide +kernel, rfl, by decide +kernel, by decide +kernel⟩
section
variable {P : Program} {w : World} {K : PySem.W.Frag} {mg : Str → Option Value} {base : Heap}
def spRow (K : PySem.W.Frag) : Sp := fun vs H Q _ => ∃ (a l c rl ml wl : Addr) (ds : List Int) (regs mems : List (Nat × Nat)) (ws : List Nat), vs = [.ref a, .ref c, .ref wl] ∧ Wd H a l ds ∧ CD K H c rl ml regs mems ∧ H wl = some (.lst (ws.map iV)) ∧
  RegsOk regs ∧ MemsOk mems ∧ WsOk ws ∧ regs.length ≤ 10 ∧ mems.length ≤ 10 ∧ ws.length ≤ 100 ∧
  ∀ (H' : Hp) (p q : Addr) (row : Row) (wd : Nat), Kp a H H' → Wd H' a l ds → H' p = some (.tup [.ref q, iV wd]) → Dp K H' (.ref q) row.d → RowOk regs mems ws row wd → 1 ≤ wd → wd ≤ 12 → Q (.ref p) H'
theorem ok_row {f fN : Addr} {fd fdN : FuncData} (F : Fun K "_law_row" "_law_row" sRow f fd) (GN : FnOk P w K mg base CX0 1 fN fdN ["w", "many"] spNext) (kN : PySem.W.keepIn K (.ref fN) = true) (bN : Binds K fdN ["w", "many"] []) (gN : mg "_law_next" = some (.ref fN)) (B : Bl mg) :
    FnOk P w K mg base CX0 2 f fd ["w", "c", "widths"] (spRow K) := by
  refine F.ok scRow (fun vs H Q E h => ?_) (fun cdv A outer s H vs Q E hr h => ?_)
  · obtain ⟨a, l, c, rl, ml, wl, ds, regs, mems, ws, rfl, _⟩ := h
    rfl
  · obtain ⟨a, l, c, rl, ml, wl, ds, regs, mems, ws, rfl, W, C, hwl, hR, hM, hW, lr, lm, lw, q⟩ := h
    have nd := scRow.nd
    have hu := hr.units
    have hud := hu_of hr
    refine ⟨_, (pss_cons (ps_set (i := 3) nd rfl (.inl rfl) (pe_call GN hr (by rfl) gN kN bN .nil pass0 (pa_cons (pv 0) (pa_cons (pe_int) pa_nil))))
      (pss_cons (ps_if (PW.pt (pw_or (pt_cmpR (op_eqD hu) (pv 2) (pe_lst pa_nil) (nomark _)) (pw_or1 (pt_cmpR op_eq (pv 3) (pe_int) (nomark _))))) (pss_cons (ps_set (i := 4) nd rfl (.inl rfl) (pe_op op_add (pe_int) (pe_call GN hr (by rfl) gN kN bN .nil pass0 (pa_cons (pv 0) (pa_cons (pe_int) pa_nil)))))
      (pss_one (ps_ret (pe_tup (pa_cons (pe_tup (pa_cons (pe_str) (pa_cons (pe_op op_mod (pe_call GN hr (by rfl) gN kN bN .nil pass0 (pa_cons (pv 0) (pa_cons (pe_int) pa_nil))) (pe_op op_shl pe_int (pv 4))) (pa_cons (pv 4) pa_nil)))) (pa_cons (pv 4) pa_nil)))))) pss_nil)
      (C8.pss_cut (ps_if (PW.pt (pw_and (pt_cmpR op_lt (pv 3) (pe_int) (nomark _)) (pw_and1 (pt_cmpR (op_neD hu) (pe_dget hud (pv 1) pe_str (fun _ _ => rfl)) (pe_lst pa_nil) (nomark _))))) (pss_cons (ps_set (i := 5) nd rfl (.inl rfl) (pe_call GN hr (by rfl) gN kN bN .nil pass0 (pa_cons (pv 0) (pa_cons (pe_callB call_len_seq (by rfl) B.len PySem.boot_len (pa_cons (pe_dget hud (pv 1) pe_str (fun _ _ => rfl)) pa_nil)) pa_nil))))
      (pss_one (ps_ret (pe_tup (pa_cons (pe_tup (pa_cons (pe_str) (pa_cons (pv 5) pa_nil))) (pa_cons (pe_ix ix_tup (pe_ix ix_list (pe_dget hud (pv 1) pe_str (fun _ _ => rfl)) (pv 5) (fun _ _ => rfl)) (pe_int) (fun _ _ => rfl)) pa_nil)))))) pss_nil)
      (pss_cons (ps_set (i := 6) nd rfl (.inr rfl) (pe_call GN hr (by rfl) gN kN bN .nil pass0 (pa_cons (pv 0) (pa_cons (pe_callB call_len_seq (by rfl) B.len PySem.boot_len (pa_cons (pv 2) pa_nil)) pa_nil))))
      (C8.pss_cut (ps_if (pt_cmpR op_eq (pv 3) (pe_int) (nomark _)) (pss_cons (ps_setLc (i := 7) (own := [("m", 14)]) (g := gName 14) (tt := tTest (tOp rEq (tOp (rIxT K) (tOp (rIxL K) (tDGet (tVar 1) (tC (.str "memories"))) (tVar 14)) (tC (.int 0))) (tOp (rIxL K) (tVar 2) (tVar 6)))) rfl nd rfl rfl (sw_true rfl rfl rfl (by decide +kernel)) (pi_range1 (by rfl) B.range (pa_cons (pe_callB call_len_seq (by rfl) B.len PySem.boot_len (pa_cons (pe_dget hud (pv 1) pe_str (fun _ _ => rfl)) pa_nil)) pa_nil)) (blkOk_by (N := NR) (sc := defScope sRow) (by decide +kernel)) (fun _ _ _ _ _ => pg_name (i := 14) nd rfl (.inl rfl)) (fun _ _ _ _ _ => pts_one (pt_cmpR op_eq (pe_ix ix_tup (pe_ix ix_list (pe_dget hud (pv 1) pe_str (fun _ _ => rfl)) (pv 14) (fun _ _ => rfl)) (pe_int) (fun _ _ => rfl)) (pe_ix ix_list (pv 2) (pv 6) (fun _ _ => rfl)) (nomark _))) (fun _ _ _ _ _ => pv 14))
      (pss_one (ps_if (pt_cmpR (op_neD hu) (pv 7) (pe_lst pa_nil) (nomark _)) (pss_one (ps_ret (pe_tup (pa_cons (pe_tup (pa_cons (pe_str) (pa_cons (pe_ix ix_list (pv 7) (pe_int) (fun _ _ => rfl)) (pa_cons (pv 6) pa_nil)))) (pa_cons (pe_ix ix_tup (pe_ix ix_list (pe_dget hud (pv 1) pe_str (fun _ _ => rfl)) (pe_ix ix_list (pv 7) (pe_int) (fun _ _ => rfl)) (fun _ _ => rfl)) (pe_int) (fun _ _ => rfl)) pa_nil))))) pss_nil))) pss_nil)
      (pss_cons (ps_if (pt_cmpR op_eq (pv 3) (pe_int) (nomark _)) (pss_one (ps_ret (pe_tup (pa_cons (pe_tup (pa_cons (pe_str) (pa_cons (pv 6) pa_nil))) (pa_cons (pe_ix ix_list (pv 2) (pv 6) (fun _ _ => rfl)) pa_nil))))) pss_nil)
      (pss_cons (ps_if (pt_cmpR op_eq (pv 3) (pe_int) (nomark _)) (pss_cons (ps_set (i := 4) nd rfl (.inl rfl) (pe_op op_add (pe_int) (pe_call GN hr (by rfl) gN kN bN .nil pass0 (pa_cons (pv 0) (pa_cons (pe_int) pa_nil)))))
      (pss_one (ps_ret (pe_tup (pa_cons (pe_tup (pa_cons (pe_str) (pa_cons (pv 6) (pa_cons (pv 4) pa_nil)))) (pa_cons (pv 4) pa_nil)))))) pss_nil)
      (pss_cons (ps_if (pt_cmpR op_eq (pv 3) (pe_int) (nomark _)) (pss_cons (ps_set (i := 8) nd rfl (.inl rfl) (pe_call GN hr (by rfl) gN kN bN .nil pass0 (pa_cons (pv 0) (pa_cons (pe_ix ix_list (pv 2) (pv 6) (fun _ _ => rfl)) pa_nil))))
      (pss_cons (ps_set (i := 9) nd rfl (.inl rfl) (pe_op op_add (pv 8) (pe_call GN hr (by rfl) gN kN bN .nil pass0 (pa_cons (pv 0) (pa_cons (pe_op op_sub (pe_ix ix_list (pv 2) (pv 6) (fun _ _ => rfl)) (pv 8)) pa_nil)))))
      (pss_one (ps_ret (pe_tup (pa_cons (pe_tup (pa_cons (pe_str) (pa_cons (pv 6) (pa_cons (pv 8) (pa_cons (pv 9) pa_nil))))) (pa_cons (pe_op op_add (pe_op op_sub (pv 9) (pv 8)) (pe_int)) pa_nil))))))) pss_nil)
      (pss_cons (ps_set (i := 10) nd rfl (.inl rfl) (pe_call GN hr (by rfl) gN kN bN .nil pass0 (pa_cons (pv 0) (pa_cons (pe_callB call_len_seq (by rfl) B.len PySem.boot_len (pa_cons (pv 2) pa_nil)) pa_nil))))
      (C8.pss_cut (ps_if (PW.pt (pw_and (pt_cmpR op_eq (pv 3) (pe_int) (nomark _)) (pw_and1 (pt_cmpR op_lt (pe_op op_add (pe_ix ix_list (pv 2) (pv 6) (fun _ _ => rfl)) (pe_ix ix_list (pv 2) (pv 10) (fun _ _ => rfl))) (pe_int) (nomark _))))) (pss_one (ps_ret (pe_tup (pa_cons (pe_tup (pa_cons (pe_str) (pa_cons (pv 6) (pa_cons (pv 10) pa_nil)))) (pa_cons (pe_op op_add (pe_ix ix_list (pv 2) (pv 6) (fun _ _ => rfl)) (pe_ix ix_list (pv 2) (pv 10) (fun _ _ => rfl))) pa_nil))))) pss_nil)
      (pss_cons (ps_if (pt_cmpR op_eq (pv 3) (pe_int) (nomark _)) (pss_one (ps_ret (pe_tup (pa_cons (pe_tup (pa_cons (pe_str) (pa_cons (pe_ix ix_list (pe_lst (pa_cons (pe_str) (pa_cons (pe_str) pa_nil))) (pe_call GN hr (by rfl) gN kN bN .nil pass0 (pa_cons (pv 0) (pa_cons (pe_int) pa_nil))) (fun _ _ => rfl)) (pa_cons (pv 6) (pa_cons (pv 10) pa_nil))))) (pa_cons (pe_ix ix_list (pv 2) (pv 6) (fun _ _ => rfl)) pa_nil))))) pss_nil)
      (pss_cons (ps_setLc (i := 11) (own := [("k", 15)]) (g := gName 15) (tt := tTest (tOp rEq (tOp (rIxL K) (tVar 2) (tVar 15)) (tOp (rIxL K) (tVar 2) (tVar 6)))) rfl nd rfl rfl (sw_true rfl rfl rfl (by decide +kernel)) (pi_range1 (by rfl) B.range (pa_cons (pe_callB call_len_seq (by rfl) B.len PySem.boot_len (pa_cons (pv 2) pa_nil)) pa_nil)) (blkOk_by (N := NR) (sc := defScope sRow) (by decide +kernel)) (fun _ _ _ _ _ => pg_name (i := 15) nd rfl (.inl rfl)) (fun _ _ _ _ _ => pts_one (pt_cmpR op_eq (pe_ix ix_list (pv 2) (pv 15) (fun _ _ => rfl)) (pe_ix ix_list (pv 2) (pv 6) (fun _ _ => rfl)) (nomark _))) (fun _ _ _ _ _ => pv 15))
      (pss_cons (ps_set (i := 10) nd rfl (.inl rfl) (pe_ix ix_list (pv 11) (pe_call GN hr (by rfl) gN kN bN .nil pass0 (pa_cons (pv 0) (pa_cons (pe_callB call_len_seq (by rfl) B.len PySem.boot_len (pa_cons (pv 11) pa_nil)) pa_nil))) (fun _ _ => rfl)))
      (pss_cons (ps_setLc (i := 12) (own := [("k", 15)]) (g := gName 15) (tt := tTest (tOp rEq (tOp (rIxL K) (tVar 2) (tVar 15)) (tC (.int 1)))) rfl nd rfl rfl (sw_true rfl rfl rfl (by decide +kernel)) (pi_range1 (by rfl) B.range (pa_cons (pe_callB call_len_seq (by rfl) B.len PySem.boot_len (pa_cons (pv 2) pa_nil)) pa_nil)) (blkOk_by (N := NR) (sc := defScope sRow) (by decide +kernel)) (fun _ _ _ _ _ => pg_name (i := 15) nd rfl (.inl rfl)) (fun _ _ _ _ _ => pts_one (pt_cmpR op_eq (pe_ix ix_list (pv 2) (pv 15) (fun _ _ => rfl)) (pe_int) (nomark _))) (fun _ _ _ _ _ => pv 15))
      (C8.pss_cut (ps_if (PW.pt (pw_and (pt_cmpR op_eq (pv 3) (pe_int) (nomark _)) (pw_and1 (pt_cmpR (op_neD hu) (pv 12) (pe_lst pa_nil) (nomark _))))) (pss_one (ps_ret (pe_tup (pa_cons (pe_tup (pa_cons (pe_str) (pa_cons (pe_ix ix_list (pv 12) (pe_call GN hr (by rfl) gN kN bN .nil pass0 (pa_cons (pv 0) (pa_cons (pe_callB call_len_seq (by rfl) B.len PySem.boot_len (pa_cons (pv 12) pa_nil)) pa_nil))) (fun _ _ => rfl)) (pa_cons (pv 6) (pa_cons (pv 10) pa_nil))))) (pa_cons (pe_ix ix_list (pv 2) (pv 6) (fun _ _ => rfl)) pa_nil))))) pss_nil)
      (pss_cons (ps_set (i := 13) nd rfl (.inl rfl) (pe_ix ix_list (pe_lst (pa_cons (pe_str) (pa_cons (pe_str) (pa_cons (pe_str) (pa_cons (pe_str) (pa_cons (pe_str) (pa_cons (pe_str) (pa_cons (pe_str) (pa_cons (pe_str) pa_nil))))))))) (pe_call GN hr (by rfl) gN kN bN .nil pass0 (pa_cons (pv 0) (pa_cons (pe_int) pa_nil))) (fun _ _ => rfl)))
      (pss_one (ps_ret (pe_tup (pa_cons (pe_tup (pa_cons (pe_str) (pa_cons (pv 13) (pa_cons (pv 6) (pa_cons (pv 10) pa_nil))))) (pa_cons (pe_ifExp (pt_cmpR op_in_seq (pv 13) (pe_tup (pa_cons (pe_str) (pa_cons (pe_str) pa_nil))) (by rfl)) pe_int (pe_ix ix_list (pv 2) (pv 6) (fun _ _ => rfl))) pa_nil))))))))))))))))))))), ?_⟩
    have line : ∀ n : Nat, n ≤ 200 → n ≤ sizeLine := fun n h => by
      rw [sizeLine_eq]
      omega
    have lineS : ∀ n : Nat, n ≤ 200 → n < sizeLine := fun n h => by
      rw [sizeLine_eq]
      omega
    have cw : ∀ {H2 : Hp}, Kp a H H2 → CD K H2 c rl ml regs mems := fun k => C.kp W k
    have wk : ∀ {H2 : Hp}, Kp a H H2 → H2 wl = some (.lst (ws.map iV)) := fun k => k wl _ (wd_lne W hwl) hwl
    have fin : ∀ (H1 : Hp) (vs : List V) (es : List PyData) (row : Row) (wd : Nat), Kp a H H1 → Wd H1 a l ds → row.d = .tuple es → (∀ H', DpAll K H' vs es) → RowOk regs mems ws row wd → 1 ≤ wd → wd ≤ 12 → ∀ q', H1 q' = none → ∀ p', (upd H1 q' (.tup vs)) p' = none →
        Q (.ref p') (upd (upd H1 q' (.tup vs)) p' (.tup [.ref q', iV wd])) := fun H1 vs es row wd k1 W1 er hd ho h1 h2 q' nq p' np => by
      have ne : q' ≠ p' := fun z => by
        rw [← z, upd_same] at np
        cases np
      refine q _ p' q' row wd ((k1.trans (Kp.new nq)).trans (Kp.new np)) ((W1.new nq).new np) upd_same ?_ ho h1 h2
      rw [er]
      exact .tup (SqT.of (by rw [upd_ne ne]; exact upd_same)) (hd _)
    have fin2 : ∀ (H6 : Hp) (vs : List V) (es : List PyData) (row : Row) (wd : Nat) (q' : Addr), Kp a H H6 → Wd H6 a l ds → H6 q' = some (.tup vs) → row.d = .tuple es → (∀ H', DpAll K H' vs es) → RowOk regs mems ws row wd → 1 ≤ wd → wd ≤ 12 → ∀ p', H6 p' = none →
        Q (.ref p') (upd H6 p' (.tup [.ref q', iV wd])) := fun H6 vs es row wd q' k1 W1 eq' er hd ho h1 h2 p' np => by
      refine q _ p' q' row wd (k1.trans (Kp.new np)) (W1.new np) upd_same ?_ ho h1 h2
      rw [er]
      exact .tup (SqT.of (by rw [upd_ne (ne_of_none eq' np)]; exact eq')) (hd _)
    have two : ∀ n : Nat, (1 : Int) * 2 ^ (((n : Nat) : Int)).toNat = ((2 ^ n : Nat) : Int) := fun n => by
      rw [Int.toNat_natCast, Int.one_mul, Int.natCast_pow]
      rfl
    refine ⟨_, rfl, a, l, ds, 12, rfl, by decide, W, fun r H1 hr1 k1 _ W1 => ?_⟩
    refine ⟨_, rfl, Nat.zero_le _, fun z nz => ?_⟩
    have k2 := k1.trans (Kp.new (o := .lst []) nz)
    have W2 := W1.new (o := .lst []) nz
    refine ⟨.list (ws.map iD), .list [], .lst (SqL.of (wk k2)) (dps_ints ws), .lst (SqL.of upd_same) .nil, shaped_list _ (cL_int ws), shaped_list [] (fun d hd => by cases hd), _, rfl, ?_⟩
    rw [eqv_nil]
    refine (fun (g : _ ∨ _ → _) (r : _ → _ → _) => ite2 (fun h => g (.inl h)) (fun h => ⟨_, rfl, rfl, _, rfl, ite2 (fun h2 => g (.inr h2)) (fun h2 => r h h2)⟩)) ?_ ?_
    · intro _
      refine ⟨_, rfl, a, l, ds, 6, rfl, by decide, W2, fun r2 H3 hr2 k3 _ W3 => ⟨_, _, rfl, rfl, ?_⟩⟩
      obtain ⟨n, en⟩ : ∃ n : Nat, 1 + ((r2 : Nat) : Int) = ((n : Nat) : Int) := ⟨1 + r2, by omega⟩
      show gName 4 (V.int (1 + ((r2 : Nat) : Int))) _ _ _
      rw [en]
      have pos : 0 < 2 ^ n := Nat.pow_pos (by decide)
      refine ⟨_, rfl, a, l, ds, 997, rfl, by decide, W3, fun r3 H4 hr3 k4 _ W4 => ?_⟩
      refine ⟨_, rfl, _, _, rfl, rfl, ⟨by omega, by omega, by decide⟩, _, _, rfl, rfl, ?_, _, rfl, line 3 (by decide), fun q' nq => ⟨_, rfl, line 2 (by decide), fun p' np => ?_⟩⟩
      · show (0 : Int) < 1 * 2 ^ ((n : Nat) : Int).toNat
        rw [two]
        omega
      · have ev : ((r3 : Nat) : Int) % (1 * 2 ^ (((n : Nat) : Int)).toNat) = ((r3 % 2 ^ n : Nat) : Int) := by
          rw [two, ← Int.natCast_emod]
        exact fin H4 _ [.str "lit", .int (((r3 : Nat) : Int) % (1 * 2 ^ (((n : Nat) : Int)).toNat)), iD n] (.lit (r3 % 2 ^ n) n) n ((k2.trans k3).trans k4) W4 (by rw [ev]; rfl) (fun _ => .cons (.str _) (.cons (.int _) (.cons (.int _) .nil))) (.lit (Nat.mod_lt _ pos)) (by omega) (by omega) q' nq p' np
    intro hne hr0
    have hwl0 : 0 < ws.length := by
      cases ws with
      | nil => exact absurd rfl hne
      | cons _ _ => exact Nat.zero_lt_succ _
    refine ⟨fun σ H3 => ∃ y4 y5 : Option V, σ = [some (.ref a), some (.ref c), some (.ref wl), some (iV r), y4, y5, none, none, none, none, none, none, none, none, none, none] ∧ Kp a H H3 ∧ Wd H3 a l ds, ?_, ?_⟩
    · refine ⟨_, rfl, _, _, rfl, rfl, _, rfl, ite2 (fun a1 => ?_) (fun a1 => ⟨_, _, rfl, k2, W2⟩)⟩
      obtain ⟨rvs, hr1, hr2⟩ := (cw k2).r0
      refine ⟨_, rfl, c, _, rfl, cd_regs (cw k2).c0, Nat.zero_le _, fun z3 nz3 => ?_⟩
      have k3 := k2.trans (Kp.new (o := .lst []) nz3)
      have W3 := W2.new (o := .lst []) nz3
      obtain ⟨rvs, hr1, hr2⟩ := (cw k3).r0
      have lrv : rvs.length = regs.length := by
        have := dps_len hr2
        rw [List.length_map] at this
        exact this
      refine ⟨.list (regs.map pr), .list [], .lst (SqL.of hr1) hr2, .lst (SqL.of upd_same) .nil, shaped_list _ (cL_pr regs), shaped_list [] (fun d hd => by cases hd), _, rfl, ?_⟩
      rw [eqv_nil]
      refine ite2 (fun a2 => ?_) (fun a2 => ⟨_, _, rfl, k3, W3⟩)
      have hreg : 0 < regs.length := by
        cases regs with
        | nil => exact absurd a2 (by decide)
        | cons _ _ => exact Nat.zero_lt_succ _
      refine ⟨_, rfl, _, rfl, c, _, rfl, cd_regs (cw k3).c0, rl, _, rfl, .inl (SqL.of hr1), a, l, ds, _, rfl, by omega, W3, fun i H4 hi k4 _ W4 => ?_⟩
      have k5 := k3.trans k4
      have hi2 : i < regs.length := by omega
      obtain ⟨⟨rw0, rf0⟩, ep⟩ : ∃ p, regs[i]? = some p := ⟨_, List.getElem?_eq_getElem hi2⟩
      refine ⟨_, rfl, line 2 (by decide), fun q' nq => ?_⟩
      have k6 := k5.trans (Kp.new (o := .tup [.str "reg", iV i]) nq)
      obtain ⟨rvs6, hr16, hr26⟩ := (cw k6).r0
      obtain ⟨b, hb1, hb2⟩ := pr_at hr26 ep
      refine ⟨_, rfl, c, _, rfl, cd_regs (cw k6).c0, _, rfl, rl, _, _, _, rfl, rfl, SqL.of hr16, atI_nat (j := i) hb1, b, _, _, _, rfl, rfl, hb2, atI_nat (j := 0) rfl, line 2 (by decide), fun p' np => ?_⟩
      have bd := hR _ (List.mem_of_getElem? ep)
      exact fin H4 _ [.str "reg", iD i] (.reg i) rw0 k5 W4 rfl (fun _ => .cons (.str _) (.cons (.int _) .nil)) (.reg ep) bd.1 (by have := bd.2.1; omega) q' nq p' np
    rintro σ H3 ⟨y4, y5, rfl, k3, W3⟩
    refine ⟨_, rfl, _, rfl, wl, _, rfl, .inl (SqL.of (wk k3)), a, l, ds, _, rfl, by rw [List.length_map]; omega, W3, fun av H4 hav k4 _ W4 => ?_⟩
    rw [List.length_map] at hav
    have k5 := k3.trans k4
    have hav2 : av < ws.length := by omega
    obtain ⟨x, ex⟩ : ∃ x, ws[av]? = some x := ⟨_, List.getElem?_eq_getElem hav2⟩
    have bx := hW x (List.mem_of_getElem? ex)
    have at_ws : ∀ {H2 : Hp} {j v : Nat}, Kp a H H2 → ws[j]? = some v → SqL K H2 wl (ws.map iV) ∧ atI (ws.map iV) ((j : Nat) : Int) = some (iV v) := fun k e => ⟨SqL.of (wk k), atI_nat (int_at e)⟩
    refine ⟨fun σ H5 => ∃ y7 : Option V, σ = [some (.ref a), some (.ref c), some (.ref wl), some (iV r), y4, y5, some (iV av), y7, none, none, none, none, none, none, none, none] ∧ Kp a H H5 ∧ Wd H5 a l ds, ?_, ?_⟩
    · refine ⟨_, rfl, rfl, _, rfl, ite2 (fun a1 => ?_) (fun a1 => ⟨_, rfl, k5, W4⟩)⟩
      obtain ⟨mvs, hm1, hm2⟩ := (cw k5).m0
      have lmv : mvs.length = mems.length := by
        have := dps_len hm2
        rw [List.length_map] at this
        exact this
      refine ⟨_, rfl, c, _, rfl, cd_mems (cw k5).c0, ml, _, rfl, .inl (SqL.of hm1), ?_⟩
      rw [lmv]
      refine ⟨_, rfl, by omega, by omega, fun D nD => lc_range (n := mems.length) (fun i H' => H' = upd H4 D (.lst ((fits (mems.map Prod.fst) x i).map iV))) rfl (fun i H' hi h => ?_) (fun H' h => ?_)⟩
      · subst h
        rw [Int.zero_add]
        have kD := k5.trans (Kp.new (o := .lst ((fits (mems.map Prod.fst) x i).map iV)) nD)
        obtain ⟨mvs2, hm12, hm22⟩ := (cw kD).m0
        obtain ⟨p, ep⟩ : ∃ p, mems[i]? = some p := ⟨_, List.getElem?_eq_getElem hi⟩
        have ep1 : (mems.map Prod.fst)[i]? = some p.1 := by
          rw [List.getElem?_map, ep]
          rfl
        obtain ⟨b, hb1, hb2⟩ := pr_at hm22 ep
        refine ⟨rfl, _, rfl, c, _, rfl, cd_mems (cw kD).c0, _, rfl, ml, _, _, _, rfl, rfl, SqL.of hm12, atI_nat (j := i) hb1, b, _, _, _, rfl, rfl, hb2, atI_nat (j := 0) rfl, _, rfl, _, rfl, wl, _, _, _, rfl, rfl, (at_ws kD ex).1, (at_ws kD ex).2, rfl, _, rfl, ite2 (fun a2 => ?_) (fun a2 => ?_)⟩
        · have e2 : p.1 = x := Int.ofNat.inj (V.int.inj (of_decide_eq_true a2))
          refine ⟨_, rfl, _, upd_same, ?_, ?_⟩
          · rw [List.length_map]
            exact Nat.lt_of_le_of_lt (fits_len _ _ _) (lineS _ (by omega))
          · rw [upd_upd, fits_yes (by rw [ep1, e2]), List.map_append]
            rfl
        · rw [fits_no (by rw [ep1]; intro z; exact a2 (decide_eq_true (by rw [Option.some.inj z])))]
      · subst h
        have kD := k5.trans (Kp.new (o := .lst ((fits (mems.map Prod.fst) x mems.length).map iV)) nD)
        have WD := W4.new (o := .lst ((fits (mems.map Prod.fst) x mems.length).map iV)) nD
        refine ⟨_, rfl, Nat.zero_le _, fun z nz => ?_⟩
        have kz := kD.trans (Kp.new (o := .lst []) nz)
        have Wz := WD.new (o := .lst []) nz
        have hD : (upd (upd H4 D (.lst ((fits (mems.map Prod.fst) x mems.length).map iV))) z (.lst [])) D = some (.lst ((fits (mems.map Prod.fst) x mems.length).map iV)) := by
          rw [upd_ne (ne_of_none upd_same nz)]
          exact upd_same
        refine ⟨.list ((fits (mems.map Prod.fst) x mems.length).map iD), .list [], .lst (SqL.of hD) (dps_ints _), .lst (SqL.of upd_same) .nil, shaped_list _ (cL_int _), shaped_list [] (fun d hd => by cases hd), _, rfl, ?_⟩
        rw [eqv_nil]
        refine ite2 (fun a2 => ?_) (fun a2 => ⟨_, rfl, kz, Wz⟩)
        cases ef : fits (mems.map Prod.fst) x mems.length with
        | nil =>
          rw [ef] at a2
          cases a2
        | cons m0 mr =>
          have em : m0 < mems.length ∧ (mems.map Prod.fst)[m0]? = some x := fits_mem.mp (by rw [ef]; exact List.mem_cons_self ..)
          rw [ef] at hD kz Wz
          obtain ⟨p, ep⟩ : ∃ p, mems[m0]? = some p := ⟨_, List.getElem?_eq_getElem em.1⟩
          have e1 : p.1 = x := by
            have := em.2
            rw [List.getElem?_map, ep] at this
            exact Option.some.inj this
          refine ⟨_, rfl, D, _, _, _, rfl, rfl, SqL.of hD, atI_nat (j := 0) rfl, _, rfl, line 3 (by decide), fun q' nq => ?_⟩
          have k6 := kz.trans (Kp.new (o := .tup [.str "look", iV m0, iV av]) nq)
          obtain ⟨mvs6, hm16, hm26⟩ := (cw k6).m0
          obtain ⟨b, hb1, hb2⟩ := pr_at hm26 ep
          refine ⟨_, rfl, c, _, rfl, cd_mems (cw k6).c0, _, rfl, D, _, _, _, rfl, rfl, SqL.of (by rw [upd_ne (ne_of_none hD nq)]; exact hD), atI_nat (j := 0) rfl, ml, _, _, _, rfl, rfl, SqL.of hm16, atI_nat (j := m0) hb1, b, _, _, _, rfl, rfl, hb2, atI_nat (j := 1) rfl, line 2 (by decide), fun p' np => ?_⟩
          have bd := hM _ (List.mem_of_getElem? ep)
          exact fin _ _ [.str "look", iD m0, iD av] (.look m0 av) p.2 kz Wz rfl (fun _ => .cons (.str _) (.cons (.int _) (.cons (.int _) .nil))) (.look (by rw [ep, ← e1]) ex) bd.2.2.1 (by have := bd.2.2.2; omega) q' nq p' np
    rintro σ H5 ⟨y7, rfl, k6, W5⟩
    have three : ∀ {s : Str} {x y : Nat} (H' : Hp), DpAll K H' [.str s, iV x, iV y] [.str s, iD x, iD y] := fun H' => .cons (.str _) (.cons (.int _) (.cons (.int _) .nil))
    have four : ∀ {s : Str} {x y z : Nat} (H' : Hp), DpAll K H' [.str s, iV x, iV y, iV z] [.str s, iD x, iD y, iD z] := fun H' => .cons (.str _) (.cons (.int _) (.cons (.int _) (.cons (.int _) .nil)))
    have fourO : ∀ {s u : Str} {y z : Nat} (H' : Hp), DpAll K H' [.str s, .str u, iV y, iV z] [.str s, .str u, iD y, iD z] := fun H' => .cons (.str _) (.cons (.str _) (.cons (.int _) (.cons (.int _) .nil)))
    refine ⟨_, rfl, rfl, _, rfl, ite2 (fun _ => ?_) (fun _ => ?_)⟩
    · refine ⟨_, rfl, line 2 (by decide), fun q' nq => ⟨_, rfl, _, rfl, wl, _, _, _, rfl, rfl, (at_ws (k6.trans (Kp.new nq)) ex).1, (at_ws k6 ex).2, line 2 (by decide), fun p' np => ?_⟩⟩
      exact fin H5 _ [.str "not", iD av] (.inv av) x k6 W5 rfl (fun _ => .cons (.str _) (.cons (.int _) .nil)) (.inv ex) bx.1 bx.2 q' nq p' np
    refine ⟨_, rfl, rfl, _, rfl, ite2 (fun _ => ?_) (fun _ => ?_)⟩
    · refine ⟨_, rfl, a, l, ds, 8, rfl, by decide, W5, fun r2 H6 hr2 k7 _ W6 => ⟨_, _, rfl, rfl, ?_⟩⟩
      show gName 4 (V.int (1 + ((r2 : Nat) : Int))) _ _ _
      rw [show 1 + ((r2 : Nat) : Int) = ((1 + r2 : Nat) : Int) by omega]
      refine ⟨_, rfl, _, rfl, line 3 (by decide), fun q' nq => ⟨_, rfl, line 2 (by decide), fun p' np => ?_⟩⟩
      exact fin H6 _ [.str "wide", iD av, iD (1 + r2)] (.wide av (1 + r2)) (1 + r2) (k6.trans k7) W6 rfl three (.wide ex) (by omega) (by omega) q' nq p' np
    refine ⟨_, rfl, rfl, _, rfl, ite2 (fun _ => ?_) (fun _ => ?_)⟩
    · refine ⟨_, rfl, _, rfl, _, rfl, wl, _, _, _, rfl, rfl, (at_ws k6 ex).1, (at_ws k6 ex).2, a, l, ds, ((x : Nat) : Int), rfl, by omega, W5, fun lo H6 hlo k7 _ W6 => ?_⟩
      have k8 := k6.trans k7
      refine ⟨_, rfl, _, rfl, _, rfl, _, rfl, wl, _, _, _, rfl, rfl, (at_ws k8 ex).1, (at_ws k8 ex).2, _, rfl, _, _, rfl, rfl, a, l, ds, ((x : Nat) : Int) - ((lo : Nat) : Int), rfl, by omega, W6, fun r2 H7 hr2 k9 _ W7 => ⟨_, _, rfl, rfl, ?_⟩⟩
      show gName 9 (V.int (((lo : Nat) : Int) + ((r2 : Nat) : Int))) _ _ _
      rw [show ((lo : Nat) : Int) + ((r2 : Nat) : Int) = ((lo + r2 : Nat) : Int) by omega]
      refine ⟨_, rfl, _, rfl, _, rfl, line 4 (by decide), fun q' nq => ⟨_, rfl, _, rfl, _, _, rfl, rfl, _, _, rfl, rfl, line 2 (by decide), fun p' np => ?_⟩⟩
      have e5 : ((lo + r2 : Nat) : Int) - ((lo : Nat) : Int) + 1 = ((lo + r2 - lo + 1 : Nat) : Int) := by omega
      have h := fin H7 _ [.str "part", iD av, iD lo, iD (lo + r2)] (.part av lo (lo + r2)) (lo + r2 - lo + 1) (k8.trans k9) W7 rfl four (.part ex (by omega) (by omega)) (by omega) (by omega) q' nq p' np
      show Q (.ref p') (upd _ p' (.tup [.ref q', .int (((lo + r2 : Nat) : Int) - ((lo : Nat) : Int) + 1)]))
      rw [e5]
      exact h
    refine ⟨_, rfl, _, rfl, wl, _, rfl, .inl (SqL.of (wk k6)), a, l, ds, _, rfl, by rw [List.length_map]; omega, W5, fun bv H6 hbv k7 _ W6 => ?_⟩
    rw [List.length_map] at hbv
    have k8 := k6.trans k7
    obtain ⟨yb, ey⟩ : ∃ y, ws[bv]? = some y := ⟨_, List.getElem?_eq_getElem (show bv < ws.length by omega)⟩
    have by' := hW yb (List.mem_of_getElem? ey)
    refine ⟨fun σ H7 => σ = [some (.ref a), some (.ref c), some (.ref wl), some (iV r), y4, y5, some (iV av), y7, none, none, some (iV bv), none, none, none, none, none] ∧ Kp a H H7 ∧ Wd H7 a l ds, ?_, ?_⟩
    · refine ⟨_, rfl, rfl, _, rfl, ite2 (fun _ => ?_) (fun _ => ⟨rfl, k8, W6⟩)⟩
      refine ⟨_, rfl, _, rfl, wl, _, _, _, rfl, rfl, (at_ws k8 ex).1, (at_ws k8 ex).2, _, rfl, _, rfl, wl, _, _, _, rfl, rfl, (at_ws k8 ey).1, (at_ws k8 ey).2, _, _, rfl, rfl, _, _, rfl, rfl, _, rfl, ite2 (fun a2 => ?_) (fun _ => ⟨rfl, k8, W6⟩)⟩
      have hlt : ((x : Nat) : Int) + ((yb : Nat) : Int) < 12 := of_decide_eq_true a2
      refine ⟨_, rfl, _, rfl, line 3 (by decide), fun q' nq => ?_⟩
      have k9 := k8.trans (Kp.new (o := .tup [.str "join", iV av, iV bv]) nq)
      refine ⟨_, rfl, _, rfl, wl, _, _, _, rfl, rfl, (at_ws k9 ex).1, (at_ws k9 ex).2, _, rfl, _, rfl, wl, _, _, _, rfl, rfl, (at_ws k9 ey).1, (at_ws k9 ey).2, _, _, rfl, rfl, line 2 (by decide), fun p' np => ?_⟩
      have h := fin H6 _ [.str "join", iD av, iD bv] (.join av bv) (x + yb) k8 W6 rfl three (.join ex ey) (by omega) (by omega) q' nq p' np
      show Q (.ref p') (upd _ p' (.tup [.ref q', .int (((x : Nat) : Int) + ((yb : Nat) : Int))]))
      rw [show ((x : Nat) : Int) + ((yb : Nat) : Int) = ((x + yb : Nat) : Int) by omega]
      exact h
    rintro σ H7 ⟨rfl, k9, W7⟩
    refine ⟨_, rfl, rfl, _, rfl, ite2 (fun _ => ?_) (fun _ => ?_)⟩
    · refine ⟨line 2 (by decide), fun z nz => ?_⟩
      have kz := k9.trans (Kp.new (o := .lst (shiftL.map V.str)) nz)
      refine ⟨_, rfl, a, l, ds, 2, rfl, by decide, W7.new nz, fun r2 H8 hr2 k10 e10 W8 => ?_⟩
      have hz : H8 z = some (.lst (shiftL.map V.str)) := by
        rw [e10 z (W7.fresh nz)]
        exact upd_same
      have hlt : r2 < shiftL.length := by
        show r2 < 2
        omega
      have k11 := kz.trans k10
      refine ⟨z, _, _, _, rfl, rfl, SqL.of hz, atI_nat (j := r2) (show (shiftL.map V.str)[r2]? = some (.str shiftL[r2]) by rw [List.getElem?_map, List.getElem?_eq_getElem hlt]; rfl), _, rfl, _, rfl, line 4 (by decide), fun q' nq => ?_⟩
      have k12 := k11.trans (Kp.new (o := .tup [.str "op", .str shiftL[r2], iV av, iV bv]) nq)
      refine ⟨_, rfl, _, rfl, wl, _, _, _, rfl, rfl, (at_ws k12 ex).1, (at_ws k12 ex).2, line 2 (by decide), fun p' np => ?_⟩
      exact fin H8 _ [.str "op", .str shiftL[r2], iD av, iD bv] (.op shiftL[r2] av bv) x k11 W8 rfl fourO (.shift (List.getElem_mem hlt) ex ey) bx.1 bx.2 q' nq p' np
    -- the rows of the same width
    refine ⟨_, rfl, wl, _, rfl, .inl (SqL.of (wk k9)), ?_⟩
    rw [List.length_map]
    refine ⟨_, rfl, by omega, by omega, fun D nD => lc_range (n := ws.length) (fun i H' => H' = upd H7 D (.lst ((fits ws x i).map iV))) rfl (fun i H' hi h => ?_) (fun H' h => ?_)⟩
    · subst h
      rw [Int.zero_add]
      have kD := k9.trans (Kp.new (o := .lst ((fits ws x i).map iV)) nD)
      obtain ⟨v, ev⟩ : ∃ v, ws[i]? = some v := ⟨_, List.getElem?_eq_getElem hi⟩
      refine ⟨rfl, _, rfl, _, rfl, wl, _, _, _, rfl, rfl, (at_ws kD ev).1, (at_ws kD ev).2, _, rfl, _, rfl, wl, _, _, _, rfl, rfl, (at_ws kD ex).1, (at_ws kD ex).2, rfl, _, rfl, ite2 (fun a2 => ?_) (fun a2 => ?_)⟩
      · have e2 : v = x := Int.ofNat.inj (V.int.inj (of_decide_eq_true a2))
        refine ⟨_, rfl, _, upd_same, ?_, ?_⟩
        · rw [List.length_map]
          exact Nat.lt_of_le_of_lt (fits_len _ _ _) (lineS _ (by omega))
        · rw [upd_upd, fits_yes (by rw [ev, e2]), List.map_append]
          rfl
      · rw [fits_no (by rw [ev]; intro z; exact a2 (decide_eq_true (by rw [Option.some.inj z])))]
    subst h
    have kD := k9.trans (Kp.new (o := .lst ((fits ws x ws.length).map iV)) nD)
    have WD := W7.new (o := .lst ((fits ws x ws.length).map iV)) nD
    have hfl : 0 < (fits ws x ws.length).length := List.length_pos_of_mem (fits_mem.mpr ⟨hav2, ex⟩)
    refine ⟨_, rfl, _, rfl, _, rfl, D, _, rfl, .inl (SqL.of upd_same), a, l, ds, _, rfl, by rw [List.length_map]; omega, WD, fun r3 H8 hr3 k10 e10 W8 => ?_⟩
    rw [List.length_map] at hr3
    have hD8 : H8 D = some (.lst ((fits ws x ws.length).map iV)) := by
      rw [e10 D (W7.fresh nD)]
      exact upd_same
    have k11 := kD.trans k10
    obtain ⟨cv, ec⟩ : ∃ cv, (fits ws x ws.length)[r3]? = some cv := ⟨_, List.getElem?_eq_getElem (by omega)⟩
    have hcv := fits_at ec
    refine ⟨D, _, _, _, rfl, rfl, SqL.of hD8, atI_nat (int_at ec), ?_⟩
    -- the tests
    refine ⟨_, rfl, wl, _, rfl, .inl (SqL.of (wk k11)), ?_⟩
    rw [List.length_map]
    refine ⟨_, rfl, by omega, by omega, fun T nT => lc_range (n := ws.length) (fun i H' => H' = upd H8 T (.lst ((fits ws 1 i).map iV))) rfl (fun i H' hi h => ?_) (fun H' h => ?_)⟩
    · subst h
      rw [Int.zero_add]
      have kT := k11.trans (Kp.new (o := .lst ((fits ws 1 i).map iV)) nT)
      obtain ⟨v, ev⟩ : ∃ v, ws[i]? = some v := ⟨_, List.getElem?_eq_getElem hi⟩
      refine ⟨rfl, _, rfl, _, rfl, wl, _, _, _, rfl, rfl, (at_ws kT ev).1, (at_ws kT ev).2, rfl, _, rfl, ite2 (fun a2 => ?_) (fun a2 => ?_)⟩
      · have e2 : v = 1 := by
          have := V.int.inj (of_decide_eq_true a2)
          omega
        refine ⟨_, rfl, _, upd_same, ?_, ?_⟩
        · rw [List.length_map]
          exact Nat.lt_of_le_of_lt (fits_len _ _ _) (lineS _ (by omega))
        · rw [upd_upd, fits_yes (by rw [ev, e2]), List.map_append]
          rfl
      · rw [fits_no (by
          rw [ev]
          intro z
          refine a2 (decide_eq_true ?_)
          have := Option.some.inj z
          subst this
          rfl)]
    subst h
    have kT := k11.trans (Kp.new (o := .lst ((fits ws 1 ws.length).map iV)) nT)
    have WT := W8.new (o := .lst ((fits ws 1 ws.length).map iV)) nT
    refine ⟨fun σ H9 => σ = [some (.ref a), some (.ref c), some (.ref wl), some (iV r), y4, y5, some (iV av), y7, none, none, some (iV cv), some (.ref D), some (.ref T), none, none, none] ∧ Kp a H H9 ∧ Wd H9 a l ds, ?_, ?_⟩
    · refine ⟨_, rfl, rfl, _, rfl, ite2 (fun _ => ?_) (fun _ => ⟨rfl, kT, WT⟩)⟩
      refine ⟨_, rfl, Nat.zero_le _, fun z nz => ?_⟩
      have kz := kT.trans (Kp.new (o := .lst []) nz)
      have Wz := WT.new (o := .lst []) nz
      have hTz : (upd (upd H8 T (.lst ((fits ws 1 ws.length).map iV))) z (.lst [])) T = some (.lst ((fits ws 1 ws.length).map iV)) := by
        rw [upd_ne (ne_of_none upd_same nz)]
        exact upd_same
      refine ⟨.list ((fits ws 1 ws.length).map iD), .list [], .lst (SqL.of hTz) (dps_ints _), .lst (SqL.of upd_same) .nil, shaped_list _ (cL_int _), shaped_list [] (fun d hd => by cases hd), _, rfl, ?_⟩
      rw [eqv_nil]
      refine ite2 (fun a2 => ?_) (fun a2 => ⟨rfl, kz, Wz⟩)
      have hfl1 : 0 < (fits ws 1 ws.length).length := by
        cases e : fits ws 1 ws.length with
        | nil =>
          rw [e] at a2
          cases a2
        | cons _ _ => exact Nat.zero_lt_succ _
      refine ⟨_, rfl, _, rfl, _, rfl, T, _, rfl, .inl (SqL.of hTz), a, l, ds, _, rfl, by rw [List.length_map]; omega, Wz, fun r4 H9 hr4 k12 e12 W9 => ?_⟩
      rw [List.length_map] at hr4
      have hT9 : H9 T = some (.lst ((fits ws 1 ws.length).map iV)) := by
        rw [e12 T (W8.fresh nT)]
        exact hTz
      have k13 := kz.trans k12
      obtain ⟨tv, et⟩ : ∃ tv, (fits ws 1 ws.length)[r4]? = some tv := ⟨_, List.getElem?_eq_getElem (by omega)⟩
      have htv := fits_at et
      refine ⟨T, _, _, _, rfl, rfl, SqL.of hT9, atI_nat (int_at et), _, rfl, _, rfl, line 4 (by decide), fun q' nq => ?_⟩
      have k14 := k13.trans (Kp.new (o := .tup [.str "pick", iV tv, iV av, iV cv]) nq)
      refine ⟨_, rfl, _, rfl, wl, _, _, _, rfl, rfl, (at_ws k14 ex).1, (at_ws k14 ex).2, line 2 (by decide), fun p' np => ?_⟩
      exact fin H9 _ [.str "pick", iD tv, iD av, iD cv] (.pick tv av cv) x k13 W9 rfl four (.pick htv.2 ex hcv.2) bx.1 bx.2 q' nq p' np
    rintro σ H9 ⟨rfl, k12, W9⟩
    refine ⟨line 8 (by decide), fun z nz => ?_⟩
    have kz := k12.trans (Kp.new (o := .lst ((arithL ++ testL).map V.str)) nz)
    refine ⟨_, rfl, a, l, ds, 8, rfl, by decide, W9.new nz, fun r5 H10 hr5 k13 e13 W10 => ?_⟩
    have hz : H10 z = some (.lst ((arithL ++ testL).map V.str)) := by
      rw [e13 z (W9.fresh nz)]
      exact upd_same
    have hlt : r5 < (arithL ++ testL).length := by
      show r5 < 8
      omega
    have k14 := kz.trans k13
    obtain ⟨sg, esg⟩ : ∃ sg, (arithL ++ testL)[r5]? = some sg := ⟨_, List.getElem?_eq_getElem hlt⟩
    have hsg := List.mem_of_getElem? esg
    refine ⟨z, _, _, _, rfl, rfl, SqL.of hz, atI_nat (j := r5) (show ((arithL ++ testL).map V.str)[r5]? = some (.str sg) by rw [List.getElem?_map, esg]; rfl), ?_⟩
    refine ⟨_, rfl, _, rfl, _, rfl, line 4 (by decide), fun q' nq => ?_⟩
    have k15 := k14.trans (Kp.new (o := .tup [.str "op", .str sg, iV av, iV cv]) nq)
    have W11 := W10.new (o := .tup [.str "op", .str sg, iV av, iV cv]) nq
    refine ⟨_, rfl, line 2 (by decide), fun t nt => ?_⟩
    have k16 := k15.trans (Kp.new (o := .tup [.str "==", .str "<"]) nt)
    have W12 := W11.new (o := .tup [.str "==", .str "<"]) nt
    have hq6 : (upd (upd H10 q' (.tup [.str "op", .str sg, iV av, iV cv])) t (.tup [.str "==", .str "<"])) q' = some (.tup [.str "op", .str sg, iV av, iV cv]) := by
      rw [upd_ne (ne_of_none upd_same nt)]
      exact upd_same
    refine ⟨t, _, rfl, .inr (SqT.of upd_same), rfl, rfl, _, rfl, ?_⟩
    refine ite2 (fun a2 => ⟨line 2 (by decide), fun p' np => ?_⟩) (fun a2 => ⟨_, rfl, _, rfl, wl, _, _, _, rfl, rfl, (at_ws k16 ex).1, (at_ws k16 ex).2, line 2 (by decide), fun p' np => ?_⟩)
    · have ht : sg ∈ testL := (List.mem_append.mp hsg).resolve_left fun h => by
        have : ∀ s ∈ arithL, inV (.str s) [.str "==", .str "<"] = false := by decide +kernel
        rw [show (if false = true then !inV (.str sg) [.str "==", .str "<"] else inV (.str sg) [.str "==", .str "<"]) = inV (.str sg) [.str "==", .str "<"] from rfl, this sg h] at a2
        cases a2
      exact fin2 _ _ [.str "op", .str sg, iD av, iD cv] (.op sg av cv) 1 q' k16 W12 hq6 rfl fourO (.test ht ex hcv.2) (by decide) (by decide) p' np
    · have ht : sg ∈ arithL := (List.mem_append.mp hsg).resolve_right fun h => by
        have : ∀ s ∈ testL, inV (.str s) [.str "==", .str "<"] = true := by decide +kernel
        exact a2 (this sg h)
      exact fin2 _ _ [.str "op", .str sg, iD av, iD cv] (.op sg av cv) x q' k16 W12 hq6 rfl fourO (.arith ht ex hcv.2) bx.1 bx.2 p' np
end
end C1

/-! The law's circuit. -/
namespace C1
open PySem PySem.Spec PyProof.Rows L2 SX
abbrev NC : List Str := ["w", "most", "c", "k", "width", "rows", "widths", "row", "nexts", "first", "own", "stores", "m", "parts_v", "outs", "part"]
theorem scCircuit : FnScope NC ["w", "most"] (defScope sCircuit) := ⟨rfl, rfl, rfl, by decide +kernel, rfl, by decide +kernel, by decide +kernel⟩
def scW : Scope := { kind := .function, names := [(".0", .local), ("width", .cell), ("range", .globalImplicit), ("len", .globalImplicit), ("rows", .cell), ("widths", .cell)], isGenerator := false, isCoroutine := false }
abbrev rLen (K : PySem.W.Frag) : List V → Hp → VK → Prop := fun xs H Q => ∃ p ys, xs = [V.ref p] ∧ (SqL K H p ys ∨ SqT K H p ys) ∧ Q (V.int ys.length) H
section
variable {P : Program} {w : World} {K : PySem.W.Frag} {mg : Str → Option Value} {base : Heap}
structure Ckt where
  regs : List (Nat × Nat)
  mems : List (Nat × Nat)
  rows : List Row
  nexts : List Nat
  stores : List (Nat × Nat × Nat × Nat)
  outs : List Nat
def stD (s : Nat × Nat × Nat × Nat) : PyData := .tuple [iD s.1, iD s.2.1, iD s.2.2.1, iD s.2.2.2]
def Ckt.d (c : Ckt) : PyData := .tuple [.tuple (c.regs.map pr), .tuple (c.mems.map pr), .tuple (c.rows.map Row.d), .tuple (c.nexts.map iD), .tuple (c.stores.map stD), .tuple (c.outs.map iD)]
/-- rows and their widths, one behind the other -/
inductive RowsOk (regs mems : List (Nat × Nat)) : List Row → List Nat → Prop
  | nil : RowsOk regs mems [] []
  | snoc {rows : List Row} {ws : List Nat} {row : Row} {wd : Nat} : RowsOk regs mems rows ws → RowOk regs mems ws row wd → 1 ≤ wd → wd ≤ 12 → RowsOk regs mems (rows ++ [row]) (ws ++ [wd])
structure CktOk (c : Ckt) (ws : List Nat) : Prop where
  rg : RegsOk c.regs
  mm : MemsOk c.mems
  lr : c.regs.length ≤ 4
  lm : c.mems.length ≤ 2
  rw : RowsOk c.regs c.mems c.rows ws
  lw : ws.length ≤ 60
  nl : c.nexts.length = c.regs.length
  nx : ∀ (i : Nat) (p : Nat × Nat) (n : Nat), c.regs[i]? = some p → c.nexts[i]? = some n → ws[n]? = some p.1
  so : ∀ s ∈ c.stores, ∃ p : Nat × Nat, c.mems[s.1]? = some p ∧ ws[s.2.1]? = some p.1 ∧ ws[s.2.2.1]? = some p.2 ∧ ws[s.2.2.2]? = some 1
  sl : c.stores.length ≤ 2
  ol : c.outs.length ≤ 4
  oo : ∀ o ∈ c.outs, o < ws.length
theorem rows_len {regs mems : List (Nat × Nat)} {rows : List Row} {ws : List Nat} (h : RowsOk regs mems rows ws) : rows.length = ws.length := by
  induction h with
  | nil => rfl
  | snoc _ _ _ _ ih => rw [List.length_append, List.length_append, ih]; rfl
theorem rows_ws {regs mems : List (Nat × Nat)} {rows : List Row} {ws : List Nat} (h : RowsOk regs mems rows ws) : WsOk ws := by
  induction h with
  | nil => intro x hx; cases hx
  | snoc _ _ h1 h2 ih =>
    intro x hx
    rcases List.mem_append.mp hx with z | z
    · exact ih x z
    · rw [List.mem_singleton.mp z]
      exact ⟨h1, h2⟩
theorem Row.noL : ∀ r : Row, C1.noL r.d = true := fun r => by cases r <;> rfl
theorem noLs_rows : ∀ rs : List Row, noLs (rs.map Row.d) = true
  | [] => rfl
  | r :: rs => by
    show (C1.noL r.d && noLs (rs.map Row.d)) = true
    rw [Row.noL, noLs_rows rs]
    rfl
theorem noLs_st : ∀ rs : List (Nat × Nat × Nat × Nat), noLs (rs.map stD) = true
  | [] => rfl
  | r :: rs => by
    show (C1.noL (stD r) && noLs (rs.map stD)) = true
    rw [noLs_st rs]
    rfl
section
variable {a l r : Addr} {ds : List Int} {H H1 H2 : Hp}
theorem Kp.put {o : HO} (k : Kp a H H1) (n : H r = none) : Kp a H (upd H1 r o) := fun b u nb e => by
  rw [upd_ne (ne_of_none e n)]
  exact k b u nb e
theorem Wd.put {o : HO} (W : Wd H a l ds) (h1 : r ≠ a) (h2 : r ≠ l) : Wd (upd H r o) a l ds := by
  obtain ⟨k, k0, e⟩ := W.at'
  exact ⟨⟨k, k0, by rw [upd_ne h1.symm]; exact e⟩, by rw [upd_ne h2.symm]; exact W.dr, W.len⟩
theorem kp_none (k : Kp a H H1) (h : r ≠ a) (n : H1 r = none) : H r = none := by
  cases e : H r with
  | none => rfl
  | some o =>
    rw [k r o h e] at n
    cases n
theorem Wd.ne2 (W : Wd H a l ds) (n : H r = none) : r ≠ a ∧ r ≠ l := ⟨W.fresh n, fun z => by
  have := W.dr
  rw [← z, n] at this
  cases this⟩
theorem stay_dps {vs : List V} {es : List PyData} (W : Wd H a l ds) (k : Kp a H H1) (n : noLs es = true) (h : DpAll K H vs es) : DpAll K H1 vs es := by
  obtain ⟨_, _, e⟩ := W.at'
  exact dps_stay (kp_tup e k) _ _ h n
theorem push_dps {vs : List V} {es : List PyData} {v : V} {d : PyData} {o : HO} (e : H r = some (.lst vs)) (h : DpAll K H vs es) (n : noLs es = true) (hd : Dp K H v d) (nd : noL d = true) : DpAll K (upd H r o) (vs ++ [v]) (es ++ [d]) :=
  dps_app (dps_stay (tups_upd e) _ _ h n) (.cons (dp_stay (tups_upd e) _ _ hd nd) .nil)
end
theorem dpI {K : PySem.W.Frag} {H : Hp} {x y : Int} (e : x = y) : Dp K H (.int x) (.int y) := by
  subst e
  exact .int _
theorem cd_merge (rl ml : Addr) : mergeK [] (cdL rl ml) = cdL rl ml := by
  have h1 : ¬ (Sum.inr ("registers" : Str) : Key) = Sum.inr ("memories" : Str) := by decide
  unfold mergeK cdL
  simp [putK, h1]
def spCircuit (K : PySem.W.Frag) : Sp := fun vs H Q _ => ∃ (a l : Addr) (ds : List Int) (m : Nat), vs = [.ref a, iV m] ∧ 0 < m ∧ m ≤ 50 ∧ Wd H a l ds ∧
  ∀ (H' : Hp) (p : Addr) (c : Ckt) (ws : List Nat), Kp a H H' → Wd H' a l ds → Dp K H' (.ref p) c.d → CktOk c ws → Q (.ref p) H'
theorem ok_circuit {f fN fR : Addr} {fd fdN fdR : FuncData} (F : Fun K "_law_circuit" "_law_circuit" sCircuit f fd) (GN : FnOk P w K mg base CX0 1 fN fdN ["w", "many"] spNext) (kN : PySem.W.keepIn K (.ref fN) = true) (bN : Binds K fdN ["w", "many"] []) (gN : mg "_law_next" = some (.ref fN))
    (GR : FnOk P w K mg base CX0 2 fR fdR ["w", "c", "widths"] (spRow K)) (kR : PySem.W.keepIn K (.ref fR) = true) (bR : Binds K fdR ["w", "c", "widths"] []) (gR : mg "_law_row" = some (.ref fR)) (B : Bl mg) (mt : mg "tuple" = none) :
    FnOk P w K mg base CX0 3 f fd ["w", "most"] (spCircuit K) := by
  refine F.ok scCircuit (fun vs H Q E h => ?_) (fun cdv A outer s H vs Q E hr h => ?_)
  · obtain ⟨a, l, ds, m, rfl, _⟩ := h
    rfl
  · obtain ⟨a, l, ds, m, rfl, hm, hm2, W, q⟩ := h
    have nd := scCircuit.nd
    have hu := hr.units
    have hud := hu_of hr
    have hr1 : Room 1 _ := hr.mono (by decide)
    refine ⟨_, (pss_cons (ps_set (i := 2) nd rfl (.inl rfl) (pe_disp (pps_cons pe_str (pe_lst pa_nil) (pps_cons pe_str (pe_lst pa_nil) pps_nil)) rfl rfl (by intro z; cases z) (by decide)))
      (C8.pss_cut (ps_for PassesOwn.never rfl (pi_range1 (by rfl) B.range (pa_cons (pe_call GN hr1 (by rfl) gN kN bN .nil pass0 (pa_cons (pv 0) (pa_cons (pe_int) pa_nil))) pa_nil)) (pg_name (i := 3) nd rfl (.inl rfl)) (pss_cons (ps_set (i := 4) nd rfl (.inr rfl) (pe_op op_add (pe_int) (pe_call GN hr1 (by rfl) gN kN bN .nil pass0 (pa_cons (pv 0) (pa_cons (pe_int) pa_nil)))))
      (pss_one (ps_expr (pe_bm PySem.F.plainAttrs_list PySem.F.slot_list_append PySem.F.type_list_append mt_append (pe_dget hud (pv 2) pe_str (fun _ _ => rfl)) (pa_cons (pe_tup (pa_cons (pv 4) (pa_cons (pe_op op_mod (pe_call GN hr1 (by rfl) gN kN bN .nil pass0 (pa_cons (pv 0) (pa_cons (pe_int) pa_nil))) (pe_op op_shl pe_int (pv 4))) pa_nil))) pa_nil))))))
      (C8.pss_cut (ps_for PassesOwn.never rfl (pi_range1 (by rfl) B.range (pa_cons (pe_call GN hr1 (by rfl) gN kN bN .nil pass0 (pa_cons (pv 0) (pa_cons (pe_int) pa_nil))) pa_nil)) (pg_name (i := 3) nd rfl (.inl rfl)) (pss_one (ps_expr (pe_bm PySem.F.plainAttrs_list PySem.F.slot_list_append PySem.F.type_list_append mt_append (pe_dget hud (pv 2) pe_str (fun _ _ => rfl)) (pa_cons (pe_tup (pa_cons (pe_op op_add (pe_int) (pe_call GN hr1 (by rfl) gN kN bN .nil pass0 (pa_cons (pv 0) (pa_cons (pe_int) pa_nil)))) (pa_cons (pe_op op_add (pe_int) (pe_call GN hr1 (by rfl) gN kN bN .nil pass0 (pa_cons (pv 0) (pa_cons (pe_int) pa_nil)))) pa_nil))) pa_nil)))))
      (pss_cons (ps_asg (pe_tup (pa_cons (pe_lst pa_nil) (pa_cons (pe_lst pa_nil) pa_nil))) (pg_tup (by rfl) (pgs_cons (pg_name (i := 5) nd rfl (.inr rfl)) (pgs_cons (pg_name (i := 6) nd rfl (.inr rfl)) pgs_nil))))
      (C8.pss_cut (ps_for PassesOwn.never rfl (pi_range1 (by rfl) B.range (pa_cons (pe_op op_add (pe_int) (pe_call GN hr1 (by rfl) gN kN bN .nil pass0 (pa_cons (pv 0) (pa_cons (pv 1) pa_nil)))) pa_nil)) (pg_name (i := 3) nd rfl (.inl rfl)) (pss_cons (ps_asg (pe_call GR hr (by rfl) gR kR bR .nil pass0 (pa_cons (pv 0) (pa_cons (pv 2) (pa_cons (pv 6) pa_nil)))) (pg_tup (by rfl) (pgs_cons (pg_name (i := 7) nd rfl (.inl rfl)) (pgs_cons (pg_name (i := 4) nd rfl (.inr rfl)) pgs_nil))))
      (pss_cons (ps_expr (pe_bm PySem.F.plainAttrs_list PySem.F.slot_list_append PySem.F.type_list_append mt_append (pv 5) (pa_cons (pv 7) pa_nil)))
      (pss_one (ps_expr (pe_bm PySem.F.plainAttrs_list PySem.F.slot_list_append PySem.F.type_list_append mt_append (pv 6) (pa_cons (pv 4) pa_nil)))))))
      (pss_cons (ps_set (i := 8) nd rfl (.inl rfl) (pe_lst pa_nil))
      (C8.pss_cut (ps_for PassesOwn.never rfl (pi_list (pe_dget hud (pv 2) pe_str (fun _ _ => rfl))) (pg_tup (by rfl) (pgs_cons (pg_name (i := 4) nd rfl (.inr rfl)) (pgs_cons (pg_name (i := 9) nd rfl (.inl rfl)) pgs_nil))) (pss_cons (ps_setLc (i := 10) (own := [("k", 3)]) (g := gName 3) (tt := tTest (tOp rEq (tOp (rIxL K) (tVar 6) (tVar 3)) (tVar 4))) rfl nd rfl rfl (sw_true rfl rfl rfl (by decide +kernel)) (pi_range1 (by rfl) B.range (pa_cons (pe_callB call_len_seq (by rfl) B.len PySem.boot_len (pa_cons (pv 5) pa_nil)) pa_nil)) (blkOk_by (N := NC) (sc := defScope sCircuit) (by decide +kernel)) (fun _ _ _ _ _ => pg_name (i := 3) nd rfl (.inl rfl)) (fun _ _ _ _ _ => pts_one (pt_cmpR op_eq (pe_ix ix_list (pv 6) (pv 3) (fun _ _ => rfl)) (pv 4) (nomark _))) (fun _ _ _ _ _ => pv 3))
      (C8.pss_cut (ps_if (pt_cmpR (op_eqD hu) (pv 10) (pe_lst pa_nil) (nomark _)) (pss_cons (ps_expr (pe_bm PySem.F.plainAttrs_list PySem.F.slot_list_append PySem.F.type_list_append mt_append (pv 5) (pa_cons (pe_tup (pa_cons (pe_str) (pa_cons (pe_int) (pa_cons (pv 4) pa_nil)))) pa_nil)))
      (pss_cons (ps_expr (pe_bm PySem.F.plainAttrs_list PySem.F.slot_list_append PySem.F.type_list_append mt_append (pv 6) (pa_cons (pv 4) pa_nil)))
      (pss_one (ps_set (i := 10) nd rfl (.inl rfl) (pe_lst (pa_cons (pe_op op_sub (pe_callB call_len_seq (by rfl) B.len PySem.boot_len (pa_cons (pv 5) pa_nil)) (pe_int)) pa_nil)))))) pss_nil)
      (pss_one (ps_expr (pe_bm PySem.F.plainAttrs_list PySem.F.slot_list_append PySem.F.type_list_append mt_append (pv 8) (pa_cons (pe_ix ix_list (pv 10) (pe_call GN hr1 (by rfl) gN kN bN .nil pass0 (pa_cons (pv 0) (pa_cons (pe_callB call_len_seq (by rfl) B.len PySem.boot_len (pa_cons (pv 10) pa_nil)) pa_nil))) (fun _ _ => rfl)) pa_nil)))))))
      (pss_cons (ps_set (i := 11) nd rfl (.inl rfl) (pe_lst pa_nil))
      (C8.pss_cut (ps_for PassesOwn.never rfl (pi_range1 (by rfl) B.range (pa_cons (pe_callB call_len_seq (by rfl) B.len PySem.boot_len (pa_cons (pe_dget hud (pv 2) pe_str (fun _ _ => rfl)) pa_nil)) pa_nil)) (pg_name (i := 12) nd rfl (.inl rfl)) (pss_cons (ps_setLc (i := 13) (own := [("width", 4)]) (g := gName 4) (tt := tYes) (te := tLc (iRng1 (tCons (tCB (rLen K) (tCons (tVar 5) tNil)) tNil)) (gName 3) (tTest (tOp rEq (tOp (rIxL K) (tVar 6) (tVar 3)) (tVar 4))) (tVar 3) [3]) rfl nd rfl rfl (sw_true rfl rfl rfl (by decide +kernel)) (pi_tup (pe_op op_catT (pe_ix ix_list (pe_dget hud (pv 2) pe_str (fun _ _ => rfl)) (pv 12) (fun _ _ => rfl)) (pe_tup (pa_cons (pe_int) pa_nil)))) (blkOk_by (N := NC) (sc := defScope sCircuit) (by decide +kernel)) (fun _ _ _ _ _ => pg_name (i := 4) nd rfl (.inr rfl)) (fun _ _ _ _ _ => pts_nil) (fun _ _ _ _ _ => by exact (pe_lc (own := [("k", 3)]) (g := gName 3) (tt := tTest (tOp rEq (tOp (rIxL K) (tVar 6) (tVar 3)) (tVar 4))) (te := tVar 3) rfl nd (pi_range1 (by rfl) B.range (pa_cons (pe_callB call_len_seq (by rfl) B.len PySem.boot_len (pa_cons (pv 5) pa_nil)) pa_nil)) (blkOk_by (own := [("k", 3)]) (N := NC) (sc := scW) (by decide +kernel)) (fun _ _ _ _ _ => pg_name (i := 3) nd rfl (.inl rfl)) (fun _ _ _ _ _ => pts_one (pt_cmpR op_eq (pe_ix ix_list (pv 6) (pv 3) (fun _ _ => rfl)) (pv 4) (nomark _))) (fun _ _ _ _ _ => pv 3))))
      (pss_one (ps_if (PW.pt (pw_and (pt_cmpR (op_eqD hu) (pe_lc (own := [("part", 15)]) (g := gName 15) (tt := tTest (tOp (rEqD K) (tVar 15) (tLst tNil))) (te := tVar 15) rfl nd (pi_list (pv 13)) (blkOk_by (own := [("part", 15)]) (N := NC) (sc := defScope sCircuit) (by decide +kernel)) (fun _ _ _ _ _ => pg_name (i := 15) nd rfl (.inl rfl)) (fun _ _ _ _ _ => pts_one (pt_cmpR (op_eqD hu) (pv 15) (pe_lst pa_nil) (nomark _))) (fun _ _ _ _ _ => pv 15)) (pe_lst pa_nil) (nomark _)) (pw_and1 (pt_cmpR op_gt (pe_call GN hr1 (by rfl) gN kN bN .nil pass0 (pa_cons (pv 0) (pa_cons (pe_int) pa_nil))) (pe_int) (nomark _))))) (pss_one (ps_expr (pe_bm PySem.F.plainAttrs_list PySem.F.slot_list_append PySem.F.type_list_append mt_append (pv 11) (pa_cons (pe_op op_catT (pe_tup (pa_cons (pv 12) pa_nil)) (pe_callTy call_tuple_of (by rfl) mt (by decide +kernel) (pa_cons (pe_lc (own := [("part", 15)]) (g := gName 15) (tt := tYes) (te := tOp (rIxL K) (tVar 15) (tCall spNext [] E0 (tCons (tVar 0) (tCons (tCB (rLen K) (tCons (tVar 15) tNil)) tNil)))) rfl nd (pi_list (pv 13)) (blkOk_by (own := [("part", 15)]) (N := NC) (sc := defScope sCircuit) (by decide +kernel)) (fun _ _ _ _ _ => pg_name (i := 15) nd rfl (.inl rfl)) (fun _ _ _ _ _ => pts_nil) (fun _ _ _ _ _ => by exact (pe_ix ix_list (pv 15) (pe_call GN hr1 (by rfl) gN kN bN .nil pass0 (pa_cons (pv 0) (pa_cons (pe_callB call_len_seq (by rfl) B.len PySem.boot_len (pa_cons (pv 15) pa_nil)) pa_nil))) (fun _ _ => rfl)))) pa_nil))) pa_nil)))) pss_nil))))
      (pss_cons (ps_set (i := 14) nd rfl (.inl rfl) (pe_callTy call_tuple_of (by rfl) mt (by decide +kernel) (pa_cons (pe_lc (own := [("k", 3)]) (g := gName 3) (tt := tYes) (te := tCall spNext [] E0 (tCons (tVar 0) (tCons (tCB (rLen K) (tCons (tVar 5) tNil)) tNil))) rfl nd (pi_range1 (by rfl) B.range (pa_cons (pe_call GN hr1 (by rfl) gN kN bN .nil pass0 (pa_cons (pv 0) (pa_cons (pe_int) pa_nil))) pa_nil)) (blkOk_by (own := [("k", 3)]) (N := NC) (sc := defScope sCircuit) (by decide +kernel)) (fun _ _ _ _ _ => pg_name (i := 3) nd rfl (.inl rfl)) (fun _ _ _ _ _ => pts_nil) (fun _ _ _ _ _ => by exact (pe_call GN hr1 (by rfl) gN kN bN .nil pass0 (pa_cons (pv 0) (pa_cons (pe_callB call_len_seq (by rfl) B.len PySem.boot_len (pa_cons (pv 5) pa_nil)) pa_nil))))) pa_nil)))
      (pss_one (ps_ret (pe_tup (pa_cons (pe_callTy call_tuple_of (by rfl) mt (by decide +kernel) (pa_cons (pe_dget hud (pv 2) pe_str (fun _ _ => rfl)) pa_nil)) (pa_cons (pe_callTy call_tuple_of (by rfl) mt (by decide +kernel) (pa_cons (pe_dget hud (pv 2) pe_str (fun _ _ => rfl)) pa_nil)) (pa_cons (pe_callTy call_tuple_of (by rfl) mt (by decide +kernel) (pa_cons (pv 5) pa_nil)) (pa_cons (pe_callTy call_tuple_of (by rfl) mt (by decide +kernel) (pa_cons (pv 8) pa_nil)) (pa_cons (pe_callTy call_tuple_of (by rfl) mt (by decide +kernel) (pa_cons (pv 11) pa_nil)) (pa_cons (pv 14) pa_nil))))))))))))))))))), ?_⟩
    have line : ∀ n : Nat, n ≤ 200 → n ≤ sizeLine := fun n h => by
      rw [sizeLine_eq]
      omega
    have lineS : ∀ n : Nat, n ≤ 200 → n < sizeLine := fun n h => by
      rw [sizeLine_eq]
      omega
    have two : ∀ n : Nat, (1 : Int) * 2 ^ (((n : Nat) : Int)).toNat = ((2 ^ n : Nat) : Int) := fun n => by
      rw [Int.toNat_natCast, Int.one_mul, Int.natCast_pow]
      rfl
    refine fun c nc => ⟨Nat.zero_le _, fun rl nrl => ⟨Nat.zero_le _, fun ml nml => ?_⟩⟩
    have c1 : c ≠ rl := ne_of_none upd_same nrl
    have c2 : c ≠ ml := ne_of_none (by rw [upd_ne c1]; exact upd_same) nml
    have c3 : rl ≠ ml := ne_of_none upd_same nml
    have wrl : H rl = none := by
      rw [upd_ne c1.symm] at nrl
      exact nrl
    have wml : H ml = none := by
      rw [upd_ne c3.symm, upd_ne c2.symm] at nml
      exact nml
    refine ⟨by rw [upd_ne c2, upd_ne c1]; exact upd_same, cdL rl ml, rfl, (by show 2 ≤ 15; decide), ?_⟩
    rw [cd_merge]
    obtain ⟨H0, eH0⟩ : ∃ H0, H0 = upd (upd (upd (upd H c (.dK [])) rl (.lst [])) ml (.lst [])) c (.dK (cdL rl ml)) := ⟨_, rfl⟩
    have k0 : Kp a H H0 := by
      rw [eH0]
      exact (((Kp.refl H).put nc).put wrl |>.put wml).put nc
    have nel := W.ne2 nc
    have ner := W.ne2 wrl
    have nem := W.ne2 wml
    have W0 : Wd H0 a l ds := by
      rw [eH0]
      exact (((W.put nel.1 nel.2).put ner.1 ner.2).put nem.1 nem.2).put nel.1 nel.2
    have hc0 : H0 c = some (.dK (cdL rl ml)) := by
      rw [eH0]
      exact upd_same
    have hr0 : H0 rl = some (.lst []) := by
      rw [eH0, upd_ne c1.symm, upd_ne c3]
      exact upd_same
    have hm0 : H0 ml = some (.lst []) := by
      rw [eH0, upd_ne c2.symm]
      exact upd_same
    rw [← eH0]
    -- the registers
    let S1 : List (Nat × Nat) → Hp → Prop := fun regs H' => Kp a H H' ∧ Wd H' a l ds ∧ H' c = some (.dK (cdL rl ml)) ∧ (∃ rvs, H' rl = some (.lst rvs) ∧ DpAll K H' rvs (regs.map pr)) ∧ H' ml = some (.lst []) ∧ RegsOk regs
    refine ⟨fun σ H' => ∃ (y3 y4 : Option V) (regs : List (Nat × Nat)), σ = [some (.ref a), some (iV m), some (.ref c), y3, y4, none, none, none, none, none, none, none, none, none, none, none] ∧ S1 regs H' ∧ regs.length ≤ 4, ?_, ?_⟩
    · refine ⟨_, rfl, a, l, ds, 5, rfl, by decide, W0, fun n1 H1 hn1 k1 e1 W1 => ⟨_, rfl, by omega, by omega, for_range (n := n1) (fun i σ H' => ∃ (y3 y4 : Option V) (regs : List (Nat × Nat)), σ = [some (.ref a), some (iV m), some (.ref c), y3, y4, none, none, none, none, none, none, none, none, none, none, none] ∧ S1 regs H' ∧ regs.length ≤ i) ⟨_, _, [], rfl, ⟨k0.trans k1, W1, k1 c _ nel.1 hc0, ⟨[], k1 rl _ ner.1 hr0, .nil⟩, k1 ml _ nem.1 hm0, fun p hp => by cases hp⟩, Nat.zero_le _⟩ (fun i σ H' hi h => ?_) (fun σ H' h => ?_)⟩⟩
      · obtain ⟨y3, y4, regs, rfl, ⟨kk, WW, cc, ⟨rvs, r1, r2⟩, mm, ro⟩, rn⟩ := h
        refine ⟨_, rfl, a, l, ds, 5, rfl, by decide, WW, fun r2' H3 hr2 k3 _ W3 => ⟨_, _, rfl, rfl, ?_⟩⟩
        show gName 4 (V.int (1 + ((r2' : Nat) : Int))) _ _ _
        rw [show 1 + ((r2' : Nat) : Int) = ((1 + r2' : Nat) : Int) by omega]
        have pos : 0 < 2 ^ (1 + r2') := Nat.pow_pos (by decide)
        refine ⟨_, rfl, c, _, rfl, cd_regs (k3 c _ nel.1 cc), .inl ⟨rfl, _, SqL.of (k3 rl _ ner.1 r1)⟩, _, rfl, ?_⟩
        refine ⟨_, rfl, a, l, ds, 997, rfl, by decide, W3, fun rv H4 hrv k4 _ W4 => ?_⟩
        refine ⟨_, rfl, _, _, rfl, rfl, ⟨by omega, by omega, by decide⟩, _, _, rfl, rfl, ?_, line 2 (by decide), fun q' nq => ?_⟩
        · show (0 : Int) < 1 * 2 ^ ((1 + r2' : Nat) : Int).toNat
          rw [two]
          omega
        have ev : ((rv : Nat) : Int) % (1 * 2 ^ (((1 + r2' : Nat) : Int)).toNat) = ((rv % 2 ^ (1 + r2') : Nat) : Int) := by
          rw [two, ← Int.natCast_emod]
        have k34 := k3.trans k4
        have k5 := k34.trans (Kp.new (o := .tup [iV (1 + r2'), .int (((rv : Nat) : Int) % (1 * 2 ^ (((1 + r2' : Nat) : Int)).toNat))]) nq)
        have W5 := W4.new (o := .tup [iV (1 + r2'), .int (((rv : Nat) : Int) % (1 * 2 ^ (((1 + r2' : Nat) : Int)).toNat))]) nq
        have r15 := k5 rl _ ner.1 r1
        have lrv : rvs.length = regs.length := by
          have := dps_len r2
          rw [List.length_map] at this
          exact this
        refine ⟨rl, _, _, rfl, rfl, r15, by rw [lrv]; exact lineS _ (by omega), ?_⟩
        refine ⟨_, _, regs ++ [(1 + r2', rv % 2 ^ (1 + r2'))], rfl, ⟨(kk.trans k5).put wrl, W5.put ner.1 ner.2, by rw [upd_ne c1]; exact k5 c _ nel.1 cc, ⟨_, upd_same, ?_⟩, by rw [upd_ne c3.symm]; exact k5 ml _ nem.1 mm, ?_⟩, ?_⟩
        · rw [List.map_append]
          exact push_dps r15 (stay_dps WW k5 (noLs_pr _) r2) (noLs_pr _) (.tup (SqT.of upd_same) (.cons (.int _) (.cons (by show Dp K _ _ (.int ((rv % 2 ^ (1 + r2') : Nat) : Int)); rw [← ev]; exact .int _) .nil))) rfl
        · intro p hp
          rcases List.mem_append.mp hp with z | z
          · exact ro p z
          · rw [List.mem_singleton.mp z]
            exact ⟨by show 1 ≤ 1 + r2'; omega, by show 1 + r2' ≤ 5; omega, Nat.mod_lt _ pos⟩
        · rw [List.length_append]
          show regs.length + 1 ≤ i + 1
          omega
      · obtain ⟨y3, y4, regs, rfl, h1, h2⟩ := h
        exact ⟨_, _, regs, rfl, h1, by omega⟩
    rintro σ H1 ⟨y3, y4, regs, rfl, ⟨kk, WW, cc, ⟨rvs, r1, r2⟩, mm, ro⟩, rn⟩
    -- the memories
    have lrg : rvs.length = regs.length := by
      have := dps_len r2
      rw [List.length_map] at this
      exact this
    let S2 : List (Nat × Nat) → Hp → Prop := fun mems H' => Kp a H H' ∧ Wd H' a l ds ∧ H' c = some (.dK (cdL rl ml)) ∧ (∃ rvs, H' rl = some (.lst rvs) ∧ DpAll K H' rvs (regs.map pr)) ∧ (∃ mvs, H' ml = some (.lst mvs) ∧ DpAll K H' mvs (mems.map pr)) ∧ MemsOk mems
    refine ⟨fun σ H' => ∃ (y3 y4 : Option V) (mems : List (Nat × Nat)), σ = [some (.ref a), some (iV m), some (.ref c), y3, y4, none, none, none, none, none, none, none, none, none, none, none] ∧ S2 mems H' ∧ mems.length ≤ 2, ?_, ?_⟩
    · refine ⟨_, rfl, a, l, ds, 3, rfl, by decide, WW, fun n1 H1 hn1 k1 e1 W1 => ⟨_, rfl, by omega, by omega, for_range (n := n1) (fun i σ H' => ∃ (y3 y4 : Option V) (mems : List (Nat × Nat)), σ = [some (.ref a), some (iV m), some (.ref c), y3, y4, none, none, none, none, none, none, none, none, none, none, none] ∧ S2 mems H' ∧ mems.length ≤ i) ⟨_, _, [], rfl, ⟨kk.trans k1, W1, k1 c _ nel.1 cc, ⟨rvs, k1 rl _ ner.1 r1, stay_dps WW k1 (noLs_pr _) r2⟩, ⟨[], k1 ml _ nem.1 mm, .nil⟩, fun p hp => by cases hp⟩, Nat.zero_le _⟩ (fun i σ H' hi h => ?_) (fun σ H' h => ?_)⟩⟩
      · obtain ⟨y3, y4, mems, rfl, ⟨kk, WW, cc, ⟨rvs, r1, r2⟩, ⟨mvs, m1, m2⟩, mo⟩, rn⟩ := h
        refine ⟨_, rfl, c, _, rfl, cd_mems cc, .inl ⟨rfl, _, SqL.of m1⟩, ?_⟩
        refine ⟨_, rfl, a, l, ds, 2, rfl, by decide, WW, fun ra H3 hra k3 _ W3 => ⟨_, _, rfl, rfl, _, rfl, a, l, ds, 4, rfl, by decide, W3, fun rb H4 hrb k4 _ W4 => ⟨_, _, rfl, rfl, line 2 (by decide), fun q' nq => ?_⟩⟩⟩
        have k34 := k3.trans k4
        have k5 := k34.trans (Kp.new (o := .tup [.int (1 + ((ra : Nat) : Int)), .int (1 + ((rb : Nat) : Int))]) nq)
        have W5 := W4.new (o := .tup [.int (1 + ((ra : Nat) : Int)), .int (1 + ((rb : Nat) : Int))]) nq
        have m15 := k5 ml _ nem.1 m1
        have lmv : mvs.length = mems.length := by
          have := dps_len m2
          rw [List.length_map] at this
          exact this
        have r15 := k5 rl _ ner.1 r1
        refine ⟨ml, _, _, rfl, rfl, m15, by rw [lmv]; exact lineS _ (by omega), ?_⟩
        refine ⟨_, _, mems ++ [(1 + ra, 1 + rb)], rfl, ⟨(kk.trans k5).put wml, W5.put nem.1 nem.2, by rw [upd_ne c2]; exact k5 c _ nel.1 cc, ⟨rvs, by rw [upd_ne c3]; exact r15, ?_⟩, ⟨_, upd_same, ?_⟩, ?_⟩, ?_⟩
        · exact dps_stay (tups_upd m15) _ _ (stay_dps WW k5 (noLs_pr _) r2) (noLs_pr _)
        · rw [List.map_append]
          refine push_dps m15 (stay_dps WW k5 (noLs_pr _) m2) (noLs_pr _) (.tup (SqT.of upd_same) (.cons (dpI (y := ((1 + ra : Nat) : Int)) (by omega)) (.cons (dpI (y := ((1 + rb : Nat) : Int)) (by omega)) .nil))) rfl
        · intro p hp
          rcases List.mem_append.mp hp with z | z
          · exact mo p z
          · rw [List.mem_singleton.mp z]
            exact ⟨by show 1 ≤ 1 + ra; omega, by show 1 + ra ≤ 2; omega, by show 1 ≤ 1 + rb; omega, by show 1 + rb ≤ 4; omega⟩
        · rw [List.length_append]
          show mems.length + 1 ≤ i + 1
          omega
      · obtain ⟨y3, y4, mems, rfl, h1, h2⟩ := h
        exact ⟨_, _, mems, rfl, h1, by omega⟩
    clear kk WW cc r1 r2 mm
    rintro σ Hb ⟨y3, y4, mems, rfl, ⟨kk, WW, cc, ⟨rvs, r1, r2⟩, ⟨mvs, m1, m2⟩, mo⟩, mn⟩
    have lrv : rvs.length = regs.length := by
      have := dps_len r2
      rw [List.length_map] at this
      exact this
    have lmv : mvs.length = mems.length := by
      have := dps_len m2
      rw [List.length_map] at this
      exact this
    have CD0 : CD K Hb c rl ml regs mems := ⟨cc, ⟨rvs, r1, r2⟩, ⟨mvs, m1, m2⟩⟩
    -- rows, widths
    refine ⟨Nat.zero_le _, fun R nR => ⟨Nat.zero_le _, fun Wl nW => ⟨line 2 (by decide), fun t nt => ?_⟩⟩⟩
    have RW : R ≠ Wl := ne_of_none upd_same nW
    have nWb : Hb Wl = none := by
      rw [upd_ne RW.symm] at nW
      exact nW
    refine ⟨t, _, rfl, SqT.of upd_same, rfl, _, _, rfl, _, _, rfl, rfl, ?_⟩
    have hRt : R ≠ t := ne_of_none (by rw [upd_ne RW]; exact upd_same) nt
    have hWt : Wl ≠ t := ne_of_none upd_same nt
    have ntb : Hb t = none := by
      rw [upd_ne hWt.symm, upd_ne hRt.symm] at nt
      exact nt
    have neR := WW.ne2 nR
    have neW := WW.ne2 nWb
    have net := WW.ne2 ntb
    let Rw : List Row → List Nat → Hp → Prop := fun rows ws H' => Kp a Hb H' ∧ Wd H' a l ds ∧ (∃ vs, H' R = some (.lst vs) ∧ DpAll K H' vs (rows.map Row.d)) ∧ H' Wl = some (.lst (ws.map iV)) ∧ RowsOk regs mems rows ws
    have Rw0 : Rw [] [] (upd (upd (upd Hb R (.lst [])) Wl (.lst [])) t (.tup [.ref R, .ref Wl])) := ⟨(((Kp.refl Hb).put nR).put nWb).put ntb, ((WW.put neR.1 neR.2).put neW.1 neW.2).put net.1 net.2, ⟨[], by rw [upd_ne hRt, upd_ne RW]; exact upd_same, .nil⟩, by rw [upd_ne hWt]; exact upd_same, .nil⟩
    have RwPush : ∀ {rows ws H' q' row wd}, Rw rows ws H' → Dp K H' (.ref q') row.d → RowOk regs mems ws row wd → 1 ≤ wd → wd ≤ 12 → rows.length ≤ 100 → ∃ vs, H' R = some (.lst vs) ∧ vs.length < sizeLine ∧ (∀ o, (upd H' R o) Wl = some (.lst (ws.map iV))) ∧ (ws.map iV).length < sizeLine ∧ Rw (rows ++ [row]) (ws ++ [wd]) (upd (upd H' R (.lst (vs ++ [.ref q']))) Wl (.lst (ws.map iV ++ [iV wd]))) := by
      rintro rows ws H' q' row wd ⟨k, W', ⟨vs, v1, v2⟩, w1, ro⟩ hd ho h1 h2 hl
      have e1 := dps_len v2
      rw [List.length_map] at e1
      have e2 := rows_len ro
      refine ⟨vs, v1, lineS _ (by omega), fun o => by rw [upd_ne RW.symm]; exact w1, by rw [List.length_map]; exact lineS _ (by omega), (k.put nR).put nWb, (W'.put neR.1 neR.2).put neW.1 neW.2, ⟨_, by rw [upd_ne RW]; exact upd_same, ?_⟩, ?_, .snoc ro ho h1 h2⟩
      · have w2 : (upd H' R (.lst (vs ++ [.ref q']))) Wl = some (.lst (ws.map iV)) := by
          rw [upd_ne RW.symm]
          exact w1
        have h := dps_stay (tups_upd (o := .lst (ws.map iV ++ [iV wd])) w2) _ _ (push_dps (o := .lst (vs ++ [.ref q'])) v1 v2 (noLs_rows _) hd (Row.noL _)) (by rw [noLs_app, noLs_rows]; show (true && (noL row.d && true)) = true; rw [Row.noL]; rfl)
        rw [List.map_append]
        exact h
      · rw [List.map_append]
        exact upd_same
    refine ⟨fun σ H' => ∃ (y3 y4 y7 : Option V) (rows : List Row) (ws : List Nat), σ = [some (.ref a), some (iV m), some (.ref c), y3, y4, some (.ref R), some (.ref Wl), y7, none, none, none, none, none, none, none, none] ∧ Rw rows ws H' ∧ 0 < ws.length ∧ ws.length ≤ 53, ?_, ?_⟩
    · refine ⟨_, rfl, _, rfl, a, l, ds, _, rfl, by omega, Rw0.2.1, fun n1 H1 hn1 k1 e1 W1 => ⟨_, _, rfl, rfl, _, rfl, by omega, by omega, ?_⟩⟩
      refine for_range (n := (4 + ((n1 : Nat) : Int)).toNat) (fun i σ H' => ∃ (y3 y4 y7 : Option V) (rows : List Row) (ws : List Nat), σ = [some (.ref a), some (iV m), some (.ref c), y3, y4, some (.ref R), some (.ref Wl), y7, none, none, none, none, none, none, none, none] ∧ Rw rows ws H' ∧ ws.length = i) ⟨_, _, _, [], [], rfl, ⟨Rw0.1.trans k1, W1, ?_, k1 Wl _ neW.1 Rw0.2.2.2.1, .nil⟩, rfl⟩ (fun i σ H' hi h => ?_) (fun σ H' h => ?_)
      · obtain ⟨vs, v1, v2⟩ := Rw0.2.2.1
        exact ⟨vs, k1 R _ neR.1 v1, stay_dps Rw0.2.1 k1 rfl v2⟩
      · obtain ⟨y3, y4, y7, rows, ws, rfl, RR, wl⟩ := h
        have hil : i < 53 := by omega
        refine ⟨_, rfl, _, rfl, _, rfl, a, l, c, rl, ml, Wl, ds, regs, mems, ws, rfl, RR.2.1, CD0.kp WW RR.1, RR.2.2.2.1, ro, mo, rows_ws RR.2.2.2.2, by omega, by omega, by omega, fun H4 p q' row wd k4 W4 hp hq ho h1 h2 => ?_⟩
        refine ⟨p, _, rfl, SqT.of hp, rfl, _, _, rfl, _, _, rfl, rfl, ?_⟩
        have R4 : Rw rows ws H4 := ⟨RR.1.trans k4, W4, by
          obtain ⟨vs, v1, v2⟩ := RR.2.2.1
          exact ⟨vs, k4 R _ neR.1 v1, stay_dps RR.2.1 k4 (noLs_rows _) v2⟩, k4 Wl _ neW.1 RR.2.2.2.1, RR.2.2.2.2⟩
        have rl4 := rows_len R4.2.2.2.2
        obtain ⟨vs, v1, v2, w1, w2, RP⟩ := RwPush R4 hq ho h1 h2 (by omega)
        refine ⟨_, rfl, .inl ⟨rfl, _, SqL.of v1⟩, _, rfl, R, _, _, rfl, rfl, v1, v2, ?_⟩
        refine ⟨_, rfl, .inl ⟨rfl, _, SqL.of (w1 _)⟩, _, rfl, Wl, _, _, rfl, rfl, w1 _, w2, ?_⟩
        refine ⟨_, _, _, rows ++ [row], ws ++ [wd], rfl, RP, ?_⟩
        rw [List.length_append]
        show ws.length + 1 = i + 1
        omega
      · obtain ⟨y3, y4, y7, rows, ws, rfl, RR, wl⟩ := h
        exact ⟨_, _, _, rows, ws, rfl, RR, by omega, by omega⟩
    rintro σ H1 ⟨y3, y4, y7, rows, ws, rfl, RR, wpos, wlen⟩
    -- the nexts
    refine ⟨Nat.zero_le _, fun N nN => ?_⟩
    obtain ⟨kb, W1, ⟨rws, rw1, rw2⟩, wl1, rok⟩ := RR
    have NR' : R ≠ N := ne_of_none rw1 nN
    have NW' : Wl ≠ N := ne_of_none wl1 nN
    have nNb : Hb N = none := kp_none kb (W1.fresh nN) nN
    have neN := WW.ne2 nNb
    have RN : Rw rows ws (upd H1 N (.lst [])) := ⟨kb.put nNb, W1.put neN.1 neN.2, ⟨rws, by rw [upd_ne NR']; exact rw1, stay_dps W1 (Kp.new nN) (noLs_rows _) rw2⟩, by rw [upd_ne NW']; exact wl1, rok⟩
    let Nx : List Nat → List Nat → Prop := fun ws nexts => ∀ (j : Nat) (p : Nat × Nat) (n : Nat), regs[j]? = some p → nexts[j]? = some n → ws[n]? = some p.1
    refine ⟨fun σ H' => ∃ (y3 y4 y7 y9 y10 : Option V) (rows : List Row) (ws nexts : List Nat), σ = [some (.ref a), some (iV m), some (.ref c), y3, y4, some (.ref R), some (.ref Wl), y7, some (.ref N), y9, y10, none, none, none, none, none] ∧ Rw rows ws H' ∧ H' N = some (.lst (nexts.map iV)) ∧ nexts.length = regs.length ∧ Nx ws nexts ∧ 0 < ws.length ∧ ws.length ≤ 57, ?_, ?_⟩
    · have rlN : ∀ {H2 : Hp}, Kp a Hb H2 → H2 rl = some (.lst rvs) := fun k => k rl _ ner.1 r1
      refine ⟨_, rfl, c, _, rfl, cd_regs (CD0.kp WW RN.1).c0, rl, rfl, ⟨_, SqL.of (rlN RN.1)⟩, for_list (xs := rvs) (fun i σ H' => ∃ (y3 y4 y7 y9 y10 : Option V) (rows : List Row) (ws nexts : List Nat), σ = [some (.ref a), some (iV m), some (.ref c), y3, y4, some (.ref R), some (.ref Wl), y7, some (.ref N), y9, y10, none, none, none, none, none] ∧ Rw rows ws H' ∧ H' N = some (.lst (nexts.map iV)) ∧ nexts.length = i ∧ Nx ws nexts ∧ 0 < ws.length ∧ ws.length ≤ 53 + i) ⟨_, _, _, _, _, rows, ws, [], rfl, RN, upd_same, rfl, fun j p n _ h => by simp at h, wpos, wlen⟩ (fun i σ H' hi h => ?_) (fun i x σ H' hx h => ?_) (fun σ H' h => ?_)⟩
      · obtain ⟨_, _, _, _, _, rows, ws, nexts, _, RR, _⟩ := h
        exact SqL.of (rlN RR.1)
      · obtain ⟨y3, y4, y7, y9, y10, rows, ws, nexts, rfl, RR, hN, nl, nx, wp, wl⟩ := h
        have hi : i < regs.length := by
          rw [← lrv]
          exact (List.getElem?_eq_some_iff.mp hx).1
        obtain ⟨p, ep⟩ : ∃ p, regs[i]? = some p := ⟨_, List.getElem?_eq_getElem hi⟩
        have rbd := ro p (List.mem_of_getElem? ep)
        obtain ⟨b, hb1, hb2⟩ := pr_at (stay_dps WW RR.1 (noLs_pr _) r2) ep
        have exb : x = .ref b := Option.some.inj (hx.symm.trans hb1)
        subst exb
        obtain ⟨kb, W1, ⟨rws, rw1, rw2⟩, wl1, rok⟩ := RR
        have lrw : rws.length = ws.length := by
          have := dps_len rw2
          rw [List.length_map] at this
          rw [this, rows_len rok]
        refine ⟨b, _, rfl, hb2, rfl, _, _, rfl, _, _, rfl, rfl, ?_⟩
        refine ⟨_, rfl, R, _, rfl, .inl (SqL.of rw1), ?_⟩
        rw [lrw]
        have ROn : ∀ {O : Addr} {o : HO}, H' O = none → Rw rows ws (upd H' O o) ∧ O ≠ R ∧ O ≠ Wl ∧ O ≠ N ∧ (upd H' O o) N = some (.lst (nexts.map iV)) := fun {O o} nO => by
          have n1 : R ≠ O := ne_of_none rw1 nO
          have n2 : Wl ≠ O := ne_of_none wl1 nO
          have n3 : N ≠ O := ne_of_none hN nO
          exact ⟨⟨kb.trans (Kp.new nO), W1.new nO, ⟨rws, by rw [upd_ne n1]; exact rw1, stay_dps W1 (Kp.new nO) (noLs_rows _) rw2⟩, by rw [upd_ne n2]; exact wl1, rok⟩, n1.symm, n2.symm, n3.symm, by rw [upd_ne n3]; exact hN⟩
        refine ⟨_, rfl, by omega, by omega, fun O nO => lc_range (n := ws.length) (fun j H2 => H2 = upd H' O (.lst ((fits ws p.1 j).map iV))) rfl (fun j H2 hj h => ?_) (fun H2 h => ?_)⟩
        · subst h
          rw [Int.zero_add]
          have wlO := (ROn (o := .lst ((fits ws p.1 j).map iV)) nO).1.2.2.2.1
          obtain ⟨v, ev⟩ : ∃ v, ws[j]? = some v := ⟨_, List.getElem?_eq_getElem hj⟩
          refine ⟨rfl, _, rfl, _, rfl, Wl, _, _, _, rfl, rfl, SqL.of wlO, atI_nat (int_at ev), _, rfl, rfl, _, rfl, ite2 (fun a2 => ?_) (fun a2 => ?_)⟩
          · have e2 : v = p.1 := Int.ofNat.inj (V.int.inj (of_decide_eq_true a2))
            refine ⟨_, rfl, _, upd_same, ?_, ?_⟩
            · rw [List.length_map]
              exact Nat.lt_of_le_of_lt (fits_len _ _ _) (lineS _ (by omega))
            · rw [upd_upd, fits_yes (by rw [ev, e2]), List.map_append]
              rfl
          · rw [fits_no (by rw [ev]; intro z; exact a2 (decide_eq_true (by rw [Option.some.inj z])))]
        subst h
        obtain ⟨RO, o1, o2, o3, hNO⟩ := ROn (o := .lst ((fits ws p.1 ws.length).map iV)) nO
        have nOb : Hb O = none := kp_none kb (W1.fresh nO) nO
        have neO := WW.ne2 nOb
        refine ⟨fun σ H2 => ∃ (rows : List Row) (ws ks : List Nat) (O : Addr), σ = [some (.ref a), some (iV m), some (.ref c), y3, some (iV p.1), some (.ref R), some (.ref Wl), y7, some (.ref N), some (iV p.2), some (.ref O), none, none, none, none, none] ∧ Rw rows ws H2 ∧ H2 N = some (.lst (nexts.map iV)) ∧ H2 O = some (.lst (ks.map iV)) ∧ 0 < ks.length ∧ ks.length ≤ 100 ∧ (∀ k ∈ ks, ws[k]? = some p.1) ∧ Nx ws nexts ∧ 0 < ws.length ∧ ws.length ≤ 53 + (i + 1), ?_, ?_⟩
        · refine ⟨_, rfl, Nat.zero_le _, fun z nz => ?_⟩
          have wlz : (upd (upd H' O (.lst ((fits ws p.1 ws.length).map iV))) z (.lst [])) O = some (.lst ((fits ws p.1 ws.length).map iV)) := by
            rw [upd_ne (ne_of_none upd_same nz)]
            exact upd_same
          have n1 : R ≠ z := ne_of_none RO.2.2.1.choose_spec.1 nz
          have n2 : Wl ≠ z := ne_of_none RO.2.2.2.1 nz
          have n3 : N ≠ z := ne_of_none hNO nz
          have hNz : (upd (upd H' O (.lst ((fits ws p.1 ws.length).map iV))) z (.lst [])) N = some (.lst (nexts.map iV)) := by
            rw [upd_ne n3]
            exact hNO
          obtain ⟨kO, WO, ⟨rws2, rw12, rw22⟩, wl12, rok2⟩ := RO
          have Rz : Rw rows ws (upd (upd H' O (.lst ((fits ws p.1 ws.length).map iV))) z (.lst [])) := ⟨kO.trans (Kp.new nz), WO.new nz, ⟨rws2, by rw [upd_ne n1]; exact rw12, stay_dps WO (Kp.new nz) (noLs_rows _) rw22⟩, by rw [upd_ne n2]; exact wl12, rok2⟩
          refine ⟨.list ((fits ws p.1 ws.length).map iD), .list [], .lst (SqL.of wlz) (dps_ints _), .lst (SqL.of upd_same) .nil, shaped_list _ (cL_int _), shaped_list [] (fun d hd => by cases hd), _, rfl, ?_⟩
          rw [eqv_nil]
          refine ite2 (fun a2 => ?_) (fun a2 => ?_)
          · -- a row of the law's own
            obtain ⟨vz, vz1, _⟩ := Rz.2.2.1
            refine ⟨_, rfl, .inl ⟨rfl, _, SqL.of vz1⟩, _, rfl, line 3 (by decide), fun q' nq => ?_⟩
            have n4 : R ≠ q' := ne_of_none Rz.2.2.1.choose_spec.1 nq
            have n5 : Wl ≠ q' := ne_of_none Rz.2.2.2.1 nq
            have n6 : N ≠ q' := ne_of_none hNz nq
            obtain ⟨kz, Wz, ⟨rws3, rw13, rw23⟩, wl13, rok3⟩ := Rz
            have Rq : Rw rows ws (upd (upd (upd H' O (.lst ((fits ws p.1 ws.length).map iV))) z (.lst [])) q' (.tup [.str "lit", .int 1, iV p.1])) := ⟨kz.trans (Kp.new nq), Wz.new nq, ⟨rws3, by rw [upd_ne n4]; exact rw13, stay_dps Wz (Kp.new nq) (noLs_rows _) rw23⟩, by rw [upd_ne n5]; exact wl13, rok3⟩
            have h2p : 1 < 2 ^ p.1 := Nat.lt_of_lt_of_le (by decide : 1 < 2 ^ 1) (Nat.pow_le_pow_right (by decide) rbd.1)
            have rle := rows_len rok3
            obtain ⟨vs, v1, v2, w1, w2, RP⟩ := RwPush (q' := q') (row := .lit 1 p.1) (wd := p.1) Rq (.tup (SqT.of upd_same) (.cons (.str _) (.cons (.int _) (.cons (.int _) .nil)))) (.lit h2p) rbd.1 (by omega) (by omega)
            have hNq : (upd (upd (upd H' O (.lst ((fits ws p.1 ws.length).map iV))) z (.lst [])) q' (.tup [.str "lit", .int 1, iV p.1])) N = some (.lst (nexts.map iV)) := by
              rw [upd_ne n6]
              exact hNz
            refine ⟨R, _, _, rfl, rfl, v1, v2, ?_⟩
            refine ⟨_, rfl, .inl ⟨rfl, _, SqL.of (w1 _)⟩, _, rfl, Wl, _, _, rfl, rfl, w1 _, w2, ?_⟩
            obtain ⟨vs5, v5, d5⟩ := RP.2.2.1
            have l5 : vs5.length = ws.length + 1 := by
              have := dps_len d5
              rw [List.length_map, List.length_append] at this
              rw [this, rle]
              rfl
            refine ⟨_, rfl, R, _, rfl, .inl (SqL.of v5), _, _, rfl, rfl, line 1 (by decide), fun O2 nO2 => ?_⟩
            have n7 : R ≠ O2 := ne_of_none v5 nO2
            have n8 : Wl ≠ O2 := ne_of_none RP.2.2.2.1 nO2
            have hNP : (upd (upd (upd (upd (upd H' O (.lst ((fits ws p.1 ws.length).map iV))) z (.lst [])) q' (.tup [.str "lit", .int 1, iV p.1])) R (.lst (vs ++ [.ref q']))) Wl (.lst (ws.map iV ++ [iV p.1]))) N = some (.lst (nexts.map iV)) := by
              rw [upd_ne NW'.symm, upd_ne NR'.symm]
              exact hNq
            have n9 : N ≠ O2 := ne_of_none hNP nO2
            obtain ⟨k6, W6, ⟨rws6, rw16, rw26⟩, wl16, rok6⟩ := RP
            have e6 : (((vs5.length : Nat) : Int)) - 1 = ((ws.length : Nat) : Int) := by omega
            refine ⟨rows ++ [.lit 1 p.1], ws ++ [p.1], [ws.length], O2, rfl, ⟨k6.trans (Kp.new nO2), W6.new nO2, ⟨rws6, by rw [upd_ne n7]; exact rw16, stay_dps W6 (Kp.new nO2) (noLs_rows _) rw26⟩, by rw [upd_ne n8]; exact wl16, rok6⟩, by rw [upd_ne n9]; exact hNP, ?_, Nat.zero_lt_one, (by show 1 ≤ 100; decide), fun k hk => ?_, fun j pp n hj hn => ?_, ?_, ?_⟩
            · show _ = some (HO.lst [V.int ((ws.length : Nat) : Int)])
              rw [← e6]
              exact upd_same
            · rw [List.mem_singleton.mp hk, List.getElem?_append_right (Nat.le_refl _), Nat.sub_self]
              rfl
            · have := nx j pp n hj hn
              rw [List.getElem?_append_left (List.getElem?_eq_some_iff.mp this).1]
              exact this
            · rw [List.length_append]
              omega
            · rw [List.length_append]
              show ws.length + 1 ≤ 53 + (i + 1)
              omega
          · refine ⟨rows, ws, fits ws p.1 ws.length, O, rfl, Rz, hNz, wlz, ?_, Nat.le_trans (fits_len _ _ _) (by omega), fun k hk => (fits_mem.mp hk).2, nx, wp, by omega⟩
            cases e : fits ws p.1 ws.length with
            | nil =>
              rw [e] at a2
              exact absurd rfl a2
            | cons _ _ => exact Nat.zero_lt_succ _
        rintro σ H2 ⟨rows, ws, ks, O, rfl, R2, hN2, hO2, kp, kl, kall, nx2, wp2, wl2⟩
        refine ⟨_, rfl, .inl ⟨rfl, _, SqL.of hN2⟩, _, rfl, _, rfl, _, rfl, O, _, rfl, .inl (SqL.of hO2), a, l, ds, _, rfl, by rw [List.length_map]; omega, R2.2.1, fun r7 H3 hr7 k7 _ W7 => ?_⟩
        rw [List.length_map] at hr7
        obtain ⟨kv, ek⟩ : ∃ kv, ks[r7]? = some kv := ⟨_, List.getElem?_eq_getElem (by omega)⟩
        have neO2 : O ≠ a := fun z => by
          obtain ⟨_, _, e⟩ := R2.2.1.at'
          rw [z, e] at hO2
          cases hO2
        have hN3 := k7 N _ neN.1 hN2
        refine ⟨O, _, _, _, rfl, rfl, SqL.of (k7 O _ neO2 hO2), atI_nat (int_at ek), N, _, _, rfl, rfl, hN3, by rw [List.length_map]; exact lineS _ (by omega), ?_⟩
        obtain ⟨k6, W6, ⟨rws6, rw16, rw26⟩, wl16, rok6⟩ := R2
        refine ⟨_, _, _, _, _, rows, ws, nexts ++ [kv], rfl, ⟨(k6.trans k7).put nNb, W7.put neN.1 neN.2, ⟨rws6, by rw [upd_ne NR']; exact k7 R _ neR.1 rw16, ?_⟩, by rw [upd_ne NW']; exact k7 Wl _ neW.1 wl16, rok6⟩, ?_, ?_, ?_, wp2, wl2⟩
        · exact dps_stay (tups_upd hN3) _ _ (stay_dps W6 k7 (noLs_rows _) rw26) (noLs_rows _)
        · rw [List.map_append]
          exact upd_same
        · rw [List.length_append]
          show nexts.length + 1 = i + 1
          omega
        · intro j pp n hj hn
          by_cases hjl : j < nexts.length
          · rw [List.getElem?_append_left hjl] at hn
            exact nx2 j pp n hj hn
          · rw [List.getElem?_append_right (by omega)] at hn
            have : j - nexts.length = 0 := by
              have := (List.getElem?_eq_some_iff.mp hn).1
              simp at this
              omega
            rw [this] at hn
            have e1 : kv = n := Option.some.inj hn
            have e2 : j = i := by omega
            subst e1 e2
            rw [ep] at hj
            cases hj
            exact kall _ (List.mem_of_getElem? ek)
      · obtain ⟨y3, y4, y7, y9, y10, rows, ws, nexts, rfl, RR, hN, nl, nx, wp, wl⟩ := h
        exact ⟨_, _, _, _, _, rows, ws, nexts, rfl, RR, hN, by omega, nx, wp, by omega⟩
    rintro σ Hs ⟨y3, y4, y7, y9, y10, rows, ws, nexts, rfl, RR, hN, nl, nx, wp, wl⟩
    -- the stores
    refine ⟨Nat.zero_le _, fun St nS => ?_⟩
    obtain ⟨kb, Ws, ⟨rws, rw1, rw2⟩, wl1, rok⟩ := RR
    have lrw : rws.length = ws.length := by
      have := dps_len rw2
      rw [List.length_map] at this
      rw [this, rows_len rok]
    have neS := Ws.ne2 nS
    have kS : Kp a Hs (upd Hs St (.lst [])) := (Kp.refl Hs).put nS
    have WS : Wd (upd Hs St (.lst [])) a l ds := Ws.put neS.1 neS.2
    let SoOk : (Nat × Nat × Nat × Nat) → Prop := fun s => ∃ p : Nat × Nat, mems[s.1]? = some p ∧ ws[s.2.1]? = some p.1 ∧ ws[s.2.2.1]? = some p.2 ∧ ws[s.2.2.2]? = some 1
    let S5 : List (Nat × Nat × Nat × Nat) → Hp → Prop := fun stores H' => Kp a Hs H' ∧ Wd H' a l ds ∧ (∃ svs, H' St = some (.lst svs) ∧ DpAll K H' svs (stores.map stD)) ∧ ∀ s ∈ stores, SoOk s
    have CDs : CD K Hs c rl ml regs mems := CD0.kp WW kb
    refine ⟨fun σ H' => ∃ (y3 y4 y7 y9 y10 y12 y13 : Option V) (stores : List (Nat × Nat × Nat × Nat)), σ = [some (.ref a), some (iV m), some (.ref c), y3, y4, some (.ref R), some (.ref Wl), y7, some (.ref N), y9, y10, some (.ref St), y12, y13, none, none] ∧ S5 stores H' ∧ stores.length ≤ 2, ?_, ?_⟩
    · refine ⟨_, rfl, c, _, rfl, cd_mems (CDs.kp Ws kS).c0, ml, _, rfl, .inl (SqL.of (kS ml _ (wd_lne Ws (kb ml _ nem.1 m1)) (kb ml _ nem.1 m1))), ?_⟩
      rw [lmv]
      refine ⟨_, rfl, by omega, by omega, for_range (n := mems.length) (fun i σ H' => ∃ (y3 y4 y7 y9 y10 y12 y13 : Option V) (stores : List (Nat × Nat × Nat × Nat)), σ = [some (.ref a), some (iV m), some (.ref c), y3, y4, some (.ref R), some (.ref Wl), y7, some (.ref N), y9, y10, some (.ref St), y12, y13, none, none] ∧ S5 stores H' ∧ stores.length ≤ i) ⟨_, _, _, _, _, _, _, [], rfl, ⟨kS, WS, ⟨[], upd_same, .nil⟩, fun s hs => by cases hs⟩, Nat.zero_le _⟩ (fun i σ H' hi h => ?_) (fun σ H' h => ?_)⟩
      · obtain ⟨y3, y4, y7, y9, y10, y12, y13, stores, rfl, ⟨k5, W5, ⟨svs, s1, s2⟩, sok⟩, sl⟩ := h
        show gName 12 (V.int (0 + ((i : Nat) : Int))) _ _ _
        rw [Int.zero_add]
        obtain ⟨p, ep⟩ : ∃ p, mems[i]? = some p := ⟨_, List.getElem?_eq_getElem hi⟩
        have bd := mo p (List.mem_of_getElem? ep)
        have k5b := kb.trans k5
        obtain ⟨b, hb1, hb2⟩ := pr_at (stay_dps WW k5b (noLs_pr _) m2) ep
        -- the tuple of widths
        refine ⟨_, rfl, c, _, rfl, cd_mems (CDs.kp Ws k5).c0, _, rfl, ml, _, _, _, rfl, rfl, SqL.of (k5b ml _ nem.1 m1), atI_nat (j := i) hb1, line 1 (by decide), fun u nu => ?_⟩
        have ku := k5.trans (Kp.new (o := .tup [.int 1]) nu)
        have Wu := W5.new (o := .tup [.int 1]) nu
        have hbu : SqT K (upd H' u (.tup [.int 1])) b [iV p.1, iV p.2] := by
          obtain ⟨_, _, e⟩ := W5.at'
          exact kp_tup e (Kp.new nu) _ _ hb2
        refine ⟨b, u, _, _, rfl, rfl, hbu, SqT.of upd_same, (fun z => by cases z), line 3 (by decide), (fun z => by cases z), fun _ v nv => ?_⟩
        have kv := ku.trans (Kp.new (o := .tup [iV p.1, iV p.2, .int 1]) nv)
        have Wv := Wu.new (o := .tup [iV p.1, iV p.2, .int 1]) nv
        let Hv : Hp := upd (upd H' u (.tup [.int 1])) v (.tup [iV p.1, iV p.2, .int 1])
        have hv : Hv v = some (.tup [iV p.1, iV p.2, iV 1]) := upd_same
        have neV : v ≠ a := Wu.fresh nv
        have svHv : DpAll K Hv svs (stores.map stD) := stay_dps W5 ((Kp.new nu).trans (Kp.new nv)) (noLs_st _) s2
        have nSa : St ≠ a := neS.1
        have s1v : Hv St = some (.lst svs) := by
          show (upd (upd H' u (.tup [.int 1])) v (.tup [iV p.1, iV p.2, .int 1])) St = _
          rw [upd_ne (ne_of_none (by rw [upd_ne (ne_of_none s1 nu)]; exact s1) nv), upd_ne (ne_of_none s1 nu)]
          exact s1
        have atW : ∀ {H2 : Hp} {j x : Nat}, Kp a Hv H2 → ws[j]? = some x → SqL K H2 Wl (ws.map iV) ∧ atI (ws.map iV) ((j : Nat) : Int) = some (iV x) := fun k e => ⟨SqL.of ((kv.trans k) Wl _ neW.1 wl1), atI_nat (int_at e)⟩
        have atR : ∀ {H2 : Hp}, Kp a Hv H2 → SqL K H2 R rws := fun k => SqL.of ((kv.trans k) R _ neR.1 rw1)
        let wants : List Nat := [p.1, p.2, 1]
        refine ⟨v, rfl, ⟨_, SqT.of hv⟩, fun D nD => ?_⟩
        obtain ⟨PvO, ePO⟩ : ∃ PvO : Nat → Hp → Prop, PvO = fun j H2 => Kp a Hv H2 ∧ Wd H2 a l ds ∧ ∃ os : List Addr, os.length = j ∧ H2 D = some (.lst (os.map V.ref)) ∧ ∀ (k : Nat) (o : Addr), os[k]? = some o → o ≠ D ∧ ∃ x : Nat, wants[k]? = some x ∧ H2 o = some (.lst ((fits ws x ws.length).map iV)) := ⟨_, rfl⟩
        have neD : D ≠ a := Wv.fresh nD
        refine lc_tup (xs := wants.map iV) PvO ?_ (fun j H2 _ h => ?_) (fun j x H2 hx h => ?_) (fun H2 h => ?_)
        · rw [ePO]
          exact ⟨Kp.new nD, Wv.new nD, [], rfl, upd_same, fun k o h => by simp at h⟩
        · rw [ePO] at h
          exact SqT.of (h.1 v _ neV hv)
        · rw [ePO] at h
          obtain ⟨k2, W2, os, ol, hD, hos⟩ := h
          obtain ⟨xw, exw⟩ : ∃ xw, wants[j]? = some xw := by
            rw [List.getElem?_map] at hx
            cases e : wants[j]? with
            | none =>
              rw [e] at hx
              cases hx
            | some xw => exact ⟨xw, rfl⟩
          have ex : x = iV xw := by
            rw [List.getElem?_map, exw] at hx
            exact (Option.some.inj hx).symm
          subst ex
          refine ⟨rfl, ?_⟩
          refine ⟨_, rfl, R, _, rfl, .inl (atR k2), ?_⟩
          rw [lrw]
          refine ⟨_, rfl, by omega, by omega, fun O nO => lc_range (n := ws.length) (fun k H3 => H3 = upd H2 O (.lst ((fits ws xw k).map iV))) rfl (fun k H3 hk h => ?_) (fun H3 h => ?_)⟩
          · subst h
            rw [Int.zero_add]
            have k3 := k2.trans (Kp.new (o := .lst ((fits ws xw k).map iV)) nO)
            obtain ⟨x, ev⟩ : ∃ x, ws[k]? = some x := ⟨_, List.getElem?_eq_getElem hk⟩
            refine ⟨rfl, _, rfl, _, rfl, Wl, _, _, _, rfl, rfl, (atW k3 ev).1, (atW k3 ev).2, _, rfl, rfl, _, rfl, ite2 (fun a2 => ?_) (fun a2 => ?_)⟩
            · have e2 : x = xw := Int.ofNat.inj (V.int.inj (of_decide_eq_true a2))
              refine ⟨_, rfl, _, upd_same, ?_, ?_⟩
              · rw [List.length_map]
                exact Nat.lt_of_le_of_lt (fits_len _ _ _) (lineS _ (by omega))
              · rw [upd_upd, fits_yes (by rw [ev, e2]), List.map_append]
                rfl
            · rw [fits_no (by rw [ev]; intro z; exact a2 (decide_eq_true (by rw [Option.some.inj z])))]
          subst h
          have nDO : D ≠ O := ne_of_none hD nO
          have hj3 : j < 3 := (List.getElem?_eq_some_iff.mp exw).1
          refine ⟨os.map V.ref, by rw [upd_ne nDO]; exact hD, by rw [List.length_map, ol]; exact lineS _ (by omega), ?_⟩
          rw [ePO]
          have nDb : Hv D = none := nD
          refine ⟨(k2.trans (Kp.new nO)).put nDb, (W2.new nO).put neD (Wv.ne2 nD).2, os ++ [O], by rw [List.length_append, ol]; rfl, by rw [List.map_append]; exact upd_same, fun k o ho => ?_⟩
          by_cases hk : k < os.length
          · rw [List.getElem?_append_left hk] at ho
            obtain ⟨h1, x, h2, h3⟩ := hos k o ho
            refine ⟨h1, x, h2, ?_⟩
            rw [upd_ne h1, upd_ne (ne_of_none h3 nO)]
            exact h3
          · rw [List.getElem?_append_right (by omega)] at ho
            have e0 : k - os.length = 0 := by
              have := (List.getElem?_eq_some_iff.mp ho).1
              simp at this
              omega
            rw [e0] at ho
            cases ho
            have : k = j := by omega
            subst this
            refine ⟨nDO.symm, xw, exw, ?_⟩
            rw [upd_ne nDO.symm]
            exact upd_same
        rw [ePO] at h
        obtain ⟨k2, W2, os, ol, hD, hos⟩ := h
        have lneq : ∀ {H3 : Hp} {b : Addr} {xs : List V}, Wd H3 a l ds → H3 b = some (.lst xs) → b ≠ a := fun W h => wd_lne W h
        have S5of : ∀ {H3 : Hp}, Kp a Hv H3 → Wd H3 a l ds → S5 stores H3 := fun {H3} k W => ⟨kv.trans k, W, ⟨svs, k St _ nSa s1v, stay_dps Wv k (noLs_st _) svHv⟩, sok⟩
        have neE2 : ∀ {E : Addr}, H2 E = none → E ≠ a := fun n => W2.fresh n
        refine ⟨_, rfl, D, rfl, ⟨_, SqL.of hD⟩, fun E nE => ?_⟩
        obtain ⟨PvE, ePE⟩ : ∃ PvE : Nat → Hp → Prop, PvE = fun j H3 => Kp a H2 H3 ∧ Wd H3 a l ds ∧ ∃ acc : List Addr, H3 E = some (.lst (acc.map V.ref)) ∧ acc.length ≤ j ∧ (∀ o ∈ acc, o ≠ E ∧ H3 o = some (.lst [])) ∧ (acc = [] → ∀ (k x : Nat), k < j → wants[k]? = some x → fits ws x ws.length ≠ []) := ⟨_, rfl⟩
        refine lc_list (xs := os.map V.ref) PvE ?_ (fun j H3 _ h => ?_) (fun j x H3 hx h => ?_) (fun H3 h => ?_)
        · rw [ePE]
          exact ⟨Kp.new nE, W2.new nE, [], upd_same, Nat.le_refl 0, (fun o ho => by cases ho), (fun _ k x hk => by omega)⟩
        · rw [ePE] at h
          exact SqL.of (h.1 D _ neD hD)
        · rw [ePE] at h
          obtain ⟨k3, W3, acc, hE, al, hal, hemp⟩ := h
          have hx2 := hx
          rw [List.getElem?_map] at hx2
          obtain ⟨o, eo⟩ : ∃ o, os[j]? = some o := by
            cases e : os[j]? with
            | none =>
              rw [e] at hx2
              cases hx2
            | some o => exact ⟨o, rfl⟩
          rw [eo] at hx2
          have ex := (Option.some.inj hx2).symm
          subst ex
          obtain ⟨oD, xw, exw, ho2⟩ := hos j o eo
          have oa := lneq W2 ho2
          have ho3 := k3 o _ oa ho2
          have oE : o ≠ E := ne_of_none ho2 nE
          refine ⟨rfl, _, rfl, Nat.zero_le _, fun z nz => ?_⟩
          have zE : E ≠ z := ne_of_none hE nz
          have ho4 : (upd H3 z (.lst [])) o = some (.lst ((fits ws xw ws.length).map iV)) := by
            rw [upd_ne (ne_of_none ho3 nz)]
            exact ho3
          have hE4 : (upd H3 z (.lst [])) E = some (.lst (acc.map V.ref)) := by
            rw [upd_ne zE]
            exact hE
          refine ⟨.list ((fits ws xw ws.length).map iD), .list [], .lst (SqL.of ho4) (dps_ints _), .lst (SqL.of upd_same) .nil, shaped_list _ (cL_int _), shaped_list [] (fun d hd => by cases hd), _, rfl, ?_⟩
          rw [eqv_nil]
          have hj3 : j < 3 := by
            have := (List.getElem?_eq_some_iff.mp exw).1
            exact this
          refine ite2 (fun a2 => ?_) (fun a2 => ?_)
          · have ef : fits ws xw ws.length = [] := by
              cases e : fits ws xw ws.length with
              | nil => rfl
              | cons _ _ =>
                rw [e] at a2
                cases a2
            refine ⟨_, rfl, acc.map V.ref, hE4, by rw [List.length_map]; exact lineS _ (by omega), ?_⟩
            rw [ePE]
            refine ⟨(k3.trans (Kp.new nz)).put nE, (W3.new nz).put (neE2 nE) (W2.ne2 nE).2, acc ++ [o], by rw [List.map_append]; exact upd_same, by rw [List.length_append]; show acc.length + 1 ≤ j + 1; omega, fun o2 ho => ?_, fun e => by simp at e⟩
            rcases List.mem_append.mp ho with h | h
            · obtain ⟨h1, h2⟩ := hal o2 h
              exact ⟨h1, by rw [upd_ne h1, upd_ne (ne_of_none h2 nz)]; exact h2⟩
            · rw [List.mem_singleton.mp h]
              refine ⟨oE, ?_⟩
              rw [upd_ne oE]
              rw [ef] at ho4
              exact ho4
          · rw [ePE]
            refine ⟨k3.trans (Kp.new nz), W3.new nz, acc, hE4, by omega, fun o2 ho => ?_, fun e k x hk hw => ?_⟩
            · obtain ⟨h1, h2⟩ := hal o2 ho
              exact ⟨h1, by rw [upd_ne (ne_of_none h2 nz)]; exact h2⟩
            · by_cases hkj : k < j
              · exact hemp e k x hkj hw
              · have : k = j := by omega
                subst this
                rw [exw] at hw
                cases hw
                intro z2
                rw [z2] at a2
                exact a2 rfl
        rw [ePE] at h
        obtain ⟨k3, W3, acc, hE, al, hal, hemp⟩ := h
        have al3 : acc.length ≤ 3 := by
          rw [List.length_map, ol] at al
          exact al
        refine ⟨Nat.zero_le _, fun z nz => ?_⟩
        have hE4 : (upd H3 z (.lst [])) E = some (.lst (acc.map V.ref)) := by
          rw [upd_ne (ne_of_none hE nz)]
          exact hE
        have dpA : ∀ (L : List Addr) (H4 : Hp), (∀ o ∈ L, H4 o = some (.lst [])) → DpAll K H4 (L.map V.ref) (L.map fun _ => PyData.list []) := by
          intro L H4
          induction L with
          | nil => exact fun _ => .nil
          | cons o L ih => exact fun h => .cons (.lst (SqL.of (h o (List.mem_cons_self ..))) .nil) (ih fun o2 ho => h o2 (List.mem_cons_of_mem _ ho))
        refine ⟨.list (acc.map fun _ => PyData.list []), .list [], .lst (SqL.of hE4) (dpA acc _ fun o ho => by rw [upd_ne (ne_of_none (hal o ho).2 nz)]; exact (hal o ho).2), .lst (SqL.of upd_same) .nil, shaped_list _ (fun d hd => by
          obtain ⟨_, _, e⟩ := List.mem_map.mp hd
          subst e
          exact ⟨rfl, by decide⟩), shaped_list [] (fun d hd => by cases hd), _, rfl, ?_⟩
        rw [eqv_nil]
        have k4 : Kp a Hv (upd H3 z (.lst [])) := (k2.trans k3).trans (Kp.new nz)
        have W4 : Wd (upd H3 z (.lst [])) a l ds := W3.new nz
        refine ite2 (fun a2 => ?_) (fun a2 => ⟨_, _, _, _, _, _, _, stores, rfl, S5of k4 W4, by omega⟩)
        have ea : acc = [] := by
          cases acc with
          | nil => rfl
          | cons _ _ => cases a2
        refine ⟨_, rfl, a, l, ds, 4, rfl, by decide, W4, fun r8 H5 hr8 k8 _ W8 => ⟨_, _, rfl, rfl, _, rfl, ite2 (fun a3 => ?_) (fun a3 => ⟨_, _, _, _, _, _, _, stores, rfl, S5of (k4.trans k8) W8, by omega⟩)⟩⟩
        have k45 := k4.trans k8
        refine ⟨_, rfl, .inl ⟨rfl, _, SqL.of (k45 St _ nSa s1v)⟩, _, rfl, line 1 (by decide), fun u2 nu2 => ?_⟩
        have k28 : Kp a H2 H5 := ((k3.trans (Kp.new nz)).trans k8)
        have k2u := k28.trans (Kp.new (o := .tup [iV i]) nu2)
        have Wu2 := W8.new (o := .tup [iV i]) nu2
        have hu2 : (upd H5 u2 (.tup [iV i])) u2 = some (.tup [iV i]) := upd_same
        have u2a : u2 ≠ a := W8.fresh nu2
        refine ⟨_, rfl, D, rfl, ⟨_, SqL.of (k2u D _ neD hD)⟩, fun G nG => ?_⟩
        obtain ⟨PvG, ePG⟩ : ∃ PvG : Nat → Hp → Prop, PvG = fun j H6 => Kp a (upd H5 u2 (.tup [iV i])) H6 ∧ Wd H6 a l ds ∧ ∃ ks : List Nat, ks.length = j ∧ H6 G = some (.lst (ks.map iV)) ∧ ∀ (k n : Nat), ks[k]? = some n → ∃ x : Nat, wants[k]? = some x ∧ ws[n]? = some x := ⟨_, rfl⟩
        refine lc_list (xs := os.map V.ref) PvG ?_ (fun j H6 _ h => ?_) (fun j x H6 hx h => ?_) (fun H6 h => ?_)
        · rw [ePG]
          exact ⟨Kp.new nG, Wu2.new nG, [], rfl, upd_same, fun k n h => by simp at h⟩
        · rw [ePG] at h
          exact SqL.of ((k2u.trans h.1) D _ neD hD)
        · rw [ePG] at h
          obtain ⟨k6, W6, ks, kl, hG, hks⟩ := h
          have hx2 := hx
          rw [List.getElem?_map] at hx2
          obtain ⟨o, eo⟩ : ∃ o, os[j]? = some o := by
            cases e : os[j]? with
            | none =>
              rw [e] at hx2
              cases hx2
            | some o => exact ⟨o, rfl⟩
          rw [eo] at hx2
          have ex := (Option.some.inj hx2).symm
          subst ex
          obtain ⟨oD, xw, exw, ho2⟩ := hos j o eo
          have oa := lneq W2 ho2
          have ho6 := (k2u.trans k6) o _ oa ho2
          have jl : j < os.length := (List.getElem?_eq_some_iff.mp eo).1
          have hne := hemp ea j xw (by rw [List.length_map]; exact jl) exw
          have hpos : 0 < (fits ws xw ws.length).length := List.length_pos_iff.mpr hne
          have Ga : G ≠ a := Wu2.fresh nG
          refine ⟨rfl, _, rfl, _, rfl, _, rfl, o, _, rfl, .inl (SqL.of ho6), a, l, ds, _, rfl, by rw [List.length_map]; omega, W6, fun r9 H7 hr9 k9 _ W9 => ?_⟩
          rw [List.length_map] at hr9
          obtain ⟨kv9, ek⟩ : ∃ kv9, (fits ws xw ws.length)[r9]? = some kv9 := ⟨_, List.getElem?_eq_getElem (by omega)⟩
          refine ⟨o, _, _, _, rfl, rfl, SqL.of (k9 o _ oa ho6), atI_nat (int_at ek), ks.map iV, k9 G _ Ga hG, by rw [List.length_map]; exact lineS _ (by have : os.length = 3 := ol; omega), ?_⟩
          rw [ePG]
          refine ⟨(k6.trans k9).put nG, W9.put Ga (Wu2.ne2 nG).2, ks ++ [kv9], by rw [List.length_append, kl]; rfl, by rw [List.map_append]; exact upd_same, fun k n hn => ?_⟩
          by_cases hk : k < ks.length
          · rw [List.getElem?_append_left hk] at hn
            exact hks k n hn
          · rw [List.getElem?_append_right (by omega)] at hn
            have e0 : k - ks.length = 0 := by
              have := (List.getElem?_eq_some_iff.mp hn).1
              simp at this
              omega
            rw [e0] at hn
            cases hn
            have : k = j := by omega
            subst this
            exact ⟨xw, exw, (fits_at ek).2⟩
        rw [ePG, List.length_map, ol] at h
        obtain ⟨k6, W6, ks, kl, hG, hks⟩ := h
        refine ⟨G, _, rfl, .inl ⟨SqL.of hG, fun t3 nt3 => ?_⟩⟩
        have hu3 := k6 u2 _ u2a hu2
        have hu4 : (upd H6 t3 (.tup (ks.map iV))) u2 = some (.tup [iV i]) := by
          rw [upd_ne (ne_of_none hu3 nt3)]
          exact hu3
        have kne : ks.map iV ≠ [] := fun e => by
          have := congrArg List.length e
          rw [List.length_map, kl] at this
          cases this
        refine ⟨u2, t3, _, _, rfl, rfl, SqT.of hu4, SqT.of upd_same, (fun e => by cases e), by rw [List.length_map, kl]; exact line 4 (by decide), (fun e => absurd e kne), fun _ q4 nq4 => ?_⟩
        have kA : Kp a Hv (upd (upd H6 t3 (.tup (ks.map iV))) q4 (.tup ([iV i] ++ ks.map iV))) := (((((k2.trans k3).trans (Kp.new nz)).trans k8).trans (Kp.new nu2)).trans k6).trans ((Kp.new nt3).trans (Kp.new nq4))
        have WA : Wd (upd (upd H6 t3 (.tup (ks.map iV))) q4 (.tup ([iV i] ++ ks.map iV))) a l ds := (W6.new nt3).new nq4
        have hSA := kA St _ nSa s1v
        have lsv : svs.length = stores.length := by
          have := dps_len s2
          rw [List.length_map] at this
          exact this
        have bound : stores.length ≤ 2 := by omega
        refine ⟨St, _, _, rfl, rfl, hSA, by rw [lsv]; exact lineS _ (by omega), ?_⟩
        have nSHs : Hs St = none := nS
        obtain ⟨x0, x1, x2, eks⟩ : ∃ x0 x1 x2, ks = [x0, x1, x2] := by
          match ks, kl with
          | [x0, x1, x2], _ => exact ⟨x0, x1, x2, rfl⟩
        subst eks
        refine ⟨_, _, _, _, _, _, _, stores ++ [(i, x0, x1, x2)], rfl, ⟨(kv.trans kA).put nSHs, WA.put neS.1 neS.2, ⟨_, upd_same, ?_⟩, fun s hs => ?_⟩, by rw [List.length_append]; show stores.length + 1 ≤ i + 1; omega⟩
        · rw [List.map_append]
          exact push_dps hSA (stay_dps Wv kA (noLs_st _) svHv) (noLs_st _) (.tup (SqT.of upd_same) (.cons (.int _) (.cons (.int _) (.cons (.int _) (.cons (.int _) .nil))))) rfl
        · rcases List.mem_append.mp hs with h | h
          · exact sok s h
          · rw [List.mem_singleton.mp h]
            obtain ⟨w0, e0, f0⟩ := hks 0 x0 rfl
            obtain ⟨w1, e1, f1⟩ := hks 1 x1 rfl
            obtain ⟨w2, e2, f2⟩ := hks 2 x2 rfl
            cases e0
            cases e1
            cases e2
            exact ⟨p, ep, f0, f1, f2⟩
      · obtain ⟨y3, y4, y7, y9, y10, y12, y13, stores, rfl, h1, h2⟩ := h
        exact ⟨_, _, _, _, _, _, _, stores, rfl, h1, by omega⟩
    rintro σ H6 ⟨y3, y4, y7, y9, y10, y12, y13, stores, rfl, ⟨k5, W5, ⟨svs, s1, s2⟩, sok⟩, sl⟩
    -- what is told, and the whole
    refine ⟨_, rfl, a, l, ds, 5, rfl, by decide, W5, fun n6 H7 hn6 k7 _ W7 => ⟨_, rfl, by omega, by omega, fun D nD => ?_⟩⟩
    have neD := W7.ne2 nD
    have ks7 := k5.trans k7
    obtain ⟨Pv, ePv⟩ : ∃ Pv : Nat → Hp → Prop, Pv = fun j H8 => Kp a H7 H8 ∧ Wd H8 a l ds ∧ ∃ ks : List Nat, ks.length = j ∧ H8 D = some (.lst (ks.map iV)) ∧ ∀ k ∈ ks, k < ws.length := ⟨_, rfl⟩
    refine lc_range (n := n6) Pv ?_ (fun j H8 hj h => ?_) (fun H8 h => ?_)
    · rw [ePv]
      exact ⟨Kp.new nD, W7.new nD, [], rfl, upd_same, fun k hk => by cases hk⟩
    · rw [ePv] at h
      obtain ⟨k8, W8, ks, kl, hD, hks⟩ := h
      refine ⟨rfl, _, rfl, _, rfl, R, _, rfl, .inl (SqL.of ((ks7.trans k8) R _ neR.1 rw1)), a, l, ds, _, rfl, by omega, W8, fun r9 H9 hr9 k9 _ W9 => ?_⟩
      refine ⟨ks.map iV, k9 D _ neD.1 hD, by rw [List.length_map]; exact lineS _ (by omega), ?_⟩
      rw [ePv]
      refine ⟨(k8.trans k9).put nD, W9.put neD.1 neD.2, ks ++ [r9], by rw [List.length_append, kl]; rfl, by rw [List.map_append]; exact upd_same, fun k hk => ?_⟩
      rcases List.mem_append.mp hk with h | h
      · exact hks k h
      · rw [List.mem_singleton.mp h]
        omega
    rw [ePv] at h
    obtain ⟨k8, W8, os, ol, hD, hos⟩ := h
    have ks8 := ks7.trans k8
    refine ⟨D, _, rfl, .inl ⟨SqL.of hD, fun t0 n0 => ?_⟩⟩
    have g0 : Kp a H8 (upd H8 t0 (.tup (os.map iV))) := Kp.new n0
    have V0 : Wd (upd H8 t0 (.tup (os.map iV))) a l ds := W8.new n0
    have hb := kb.trans (ks8.trans g0)
    refine ⟨_, rfl, c, _, rfl, cd_regs (CD0.kp WW hb).c0, rl, _, rfl, .inl ⟨SqL.of (hb rl _ ner.1 r1), fun t1 n1 => ?_⟩⟩
    have g1 := g0.trans (Kp.new (o := .tup rvs) n1)
    have V1 := V0.new (o := .tup rvs) n1
    have hb1 := kb.trans (ks8.trans g1)
    refine ⟨_, rfl, c, _, rfl, cd_mems (CD0.kp WW hb1).c0, ml, _, rfl, .inl ⟨SqL.of (hb1 ml _ nem.1 m1), fun t2 n2 => ?_⟩⟩
    have g2 := g1.trans (Kp.new (o := .tup mvs) n2)
    have V2 := V1.new (o := .tup mvs) n2
    refine ⟨_, rfl, R, _, rfl, .inl ⟨SqL.of ((ks8.trans g2) R _ neR.1 rw1), fun t3 n3 => ?_⟩⟩
    have g3 := g2.trans (Kp.new (o := .tup rws) n3)
    have V3 := V2.new (o := .tup rws) n3
    refine ⟨_, rfl, N, _, rfl, .inl ⟨SqL.of ((ks8.trans g3) N _ neN.1 hN), fun t4 n4 => ?_⟩⟩
    have g4 := g3.trans (Kp.new (o := .tup (nexts.map iV)) n4)
    have V4 := V3.new (o := .tup (nexts.map iV)) n4
    refine ⟨_, rfl, St, _, rfl, .inl ⟨SqL.of (((k7.trans k8).trans g4) St _ neS.1 s1), fun t5 n5 => ?_⟩⟩
    have g5 := g4.trans (Kp.new (o := .tup svs) n5)
    have V5 := V4.new (o := .tup svs) n5
    refine ⟨_, rfl, line 6 (by decide), fun p np => ?_⟩
    have g6 := g5.trans (Kp.new (o := .tup [.ref t1, .ref t2, .ref t3, .ref t4, .ref t5, .ref t0]) np)
    have V6 := V5.new (o := .tup [.ref t1, .ref t2, .ref t3, .ref t4, .ref t5, .ref t0]) np
    have p6 : Kp a _ _ := Kp.new (a := a) (o := .tup [.ref t1, .ref t2, .ref t3, .ref t4, .ref t5, .ref t0]) np
    have p5 := (Kp.new (a := a) (o := .tup svs) n5).trans p6
    have p4 := (Kp.new (a := a) (o := .tup (nexts.map iV)) n4).trans p5
    have p3 := (Kp.new (a := a) (o := .tup rws) n3).trans p4
    have p2 := (Kp.new (a := a) (o := .tup mvs) n2).trans p3
    have p1 := (Kp.new (a := a) (o := .tup rvs) n1).trans p2
    have kf := kb.trans (ks8.trans g6)
    refine q _ p ⟨regs, mems, rows, nexts, stores, os⟩ ws (kk.trans kf) V6 (.tup (SqT.of upd_same) (.cons (.tup (SqT.of (p2 t1 _ (V0.fresh n1) upd_same)) ?_) (.cons (.tup (SqT.of (p3 t2 _ (V1.fresh n2) upd_same)) ?_) (.cons (.tup (SqT.of (p4 t3 _ (V2.fresh n3) upd_same)) ?_) (.cons (.tup (SqT.of (p5 t4 _ (V3.fresh n4) upd_same)) (dps_ints _)) (.cons (.tup (SqT.of (p6 t5 _ (V4.fresh n5) upd_same)) ?_) (.cons (.tup (SqT.of (p1 t0 _ (W8.fresh n0) upd_same)) (dps_ints _)) .nil))))))) ⟨ro, mo, rn, mn, rok, by omega, nl, nx, sok, sl, by show os.length ≤ 4; omega, hos⟩
    · exact stay_dps WW kf (noLs_pr _) r2
    · exact stay_dps WW kf (noLs_pr _) m2
    · exact stay_dps Ws (ks8.trans g6) (noLs_rows _) rw2
    · exact stay_dps W5 ((k7.trans k8).trans g6) (noLs_st _) s2
end
end C1

/-! The program's small tests. -/
namespace C1
open PySem PySem.Spec PyProof.Rows L2 SX
theorem scMask : FnScope ["width"] ["width"] (defScope sMask) := ⟨rfl, rfl, rfl, by decide +kernel, rfl, by decide +kernel, by decide +kernel⟩
theorem scIsTuple : FnScope ["thing", "many"] ["thing", "many"] (defScope sIsTuple) := ⟨rfl, rfl, rfl, by decide +kernel, rfl, by decide +kernel, by decide +kernel⟩
theorem scIsBelow : FnScope ["thing", "limit"] ["thing", "limit"] (defScope sIsBelow) := ⟨rfl, rfl, rfl, by decide +kernel, rfl, by decide +kernel, by decide +kernel⟩
theorem scIsWidth : FnScope ["thing"] ["thing"] (defScope sIsWidth) := ⟨rfl, rfl, rfl, by decide +kernel, rfl, by decide +kernel, by decide +kernel⟩
theorem scIsRegister : FnScope ["thing"] ["thing"] (defScope sIsRegister) := ⟨rfl, rfl, rfl, by decide +kernel, rfl, by decide +kernel, by decide +kernel⟩
theorem scIsMemory : FnScope ["thing"] ["thing"] (defScope sIsMemory) := ⟨rfl, rfl, rfl, by decide +kernel, rfl, by decide +kernel, by decide +kernel⟩
/-! ### what is asked, upon data -/
def tyD : PyData → String
  | .none => "NoneType"
  | .bool _ => "bool"
  | .int _ => "int"
  | .str _ => "str"
  | .list _ => "list"
  | .tuple _ => "tuple"
  | .dict _ => "dict"
theorem ty_of {K : PySem.W.Frag} {H : Hp} {v : V} {d : PyData} (h : Dp K H v d) : TyB K H v (tyD d) := by
  cases h with
  | non => exact .non
  | bl b => exact .bl b
  | int i => exact .int i
  | str x => exact .str x
  | lst s _ => exact .lst s
  | tup s _ => exact .tup s
theorem ty_int {d : PyData} (h : tyD d = "int") : ∃ i, d = .int i := by
  cases d <;> simp [tyD] at h
  exact ⟨_, rfl⟩
theorem ty_tup {d : PyData} (h : tyD d = "tuple") : ∃ i, d = .tuple i := by
  cases d <;> simp [tyD] at h
  exact ⟨_, rfl⟩
theorem ty_str {d : PyData} (h : tyD d = "str") : ∃ i, d = .str i := by
  cases d <;> simp [tyD] at h
  exact ⟨_, rfl⟩
/-- a whole number from lo on, below hi -/
def isI (d : PyData) (lo hi : Int) : Bool := match d with
  | .int i => decide (lo ≤ i) && decide (i < hi)
  | _ => false
def isT (d : PyData) (n : Nat) : Bool := match d with
  | .tuple xs => decide (xs.length = n)
  | _ => false
theorem isI_iff {d : PyData} {lo hi : Int} : isI d lo hi = true ↔ ∃ i, d = .int i ∧ lo ≤ i ∧ i < hi := by
  cases d <;> simp [isI]
theorem isT_iff {d : PyData} {n : Nat} : isT d n = true ↔ ∃ xs, d = .tuple xs ∧ xs.length = n := by
  cases d <;> simp [isT]
def regB (d : PyData) : Bool := match d with
  | .tuple [w, v] => match w with
    | .int i => isI (.int i) 1 33 && isI v 0 (2 ^ i.toNat)
    | _ => false
  | _ => false
def memB (d : PyData) : Bool := match d with
  | .tuple [b, w] => isI b 1 7 && isI w 1 33
  | _ => false
section
variable {P : Program} {w : World} {K : PySem.W.Frag} {mg : Str → Option Value} {base : Heap} {tw tb : Tok}
structure Gp (mg : Str → Option Value) (tw tb : Tok) : Prop where
  ty : mg "type" = none
  it : mg "int" = none
  tu : mg "tuple" = none
  st : mg "str" = none
  len : mg "len" = none
  all : mg "all" = none
  zip : mg "zip" = none
  mw : mg "MOST_WIDTH" = some (.int 32 tw)
  mb : mg "MOST_BITS" = some (.int 6 tb)
def spMask : Sp := fun vs H Q _ => ∃ n : Nat, vs = [.int ((n : Nat) : Int)] ∧ n ≤ 1000 ∧ Q (.int (2 ^ n - 1)) H
theorem ok_mask {f : Addr} {fd : FuncData} (F : Fun K "mask" "mask" sMask f fd) : FnOk P w K mg base CX0 1 f fd ["width"] spMask := by
  refine F.ok scMask (fun vs H Q E h => ?_) (fun cdv A outer s H vs Q E hr h => ?_)
  · obtain ⟨n, rfl, _⟩ := h
    rfl
  · obtain ⟨n, rfl, hn, q⟩ := h
    refine ⟨_, (pss_one (ps_ret (pe_op op_sub (pe_op op_shl pe_int (pv 0)) pe_int))), ?_⟩
    refine ⟨_, rfl, _, _, rfl, rfl, ⟨by omega, by omega, by decide⟩, _, _, rfl, rfl, ?_⟩
    have e : (1 : Int) * 2 ^ (((n : Nat) : Int)).toNat - 1 = 2 ^ n - 1 := by rw [Int.toNat_natCast, Int.one_mul]
    show Q (.int ((1 : Int) * 2 ^ (((n : Nat) : Int)).toNat - 1)) H
    rw [e]
    exact q
def spIsTuple (K : PySem.W.Frag) : Sp := fun vs H Q _ => ∃ (v : V) (d : PyData) (n : Nat), vs = [v, iV n] ∧ Dp K H v d ∧ Q (.bl (isT d n)) H
theorem ok_isTuple {f : Addr} {fd : FuncData} (F : Fun K "is_tuple" "is_tuple" sIsTuple f fd) (G : Gp mg tw tb) : FnOk P w K mg base CX0 1 f fd ["thing", "many"] (spIsTuple K) := by
  refine F.ok scIsTuple (fun vs H Q E h => ?_) (fun cdv A outer s H vs Q E hr h => ?_)
  · obtain ⟨v, d, n, rfl, _⟩ := h
    rfl
  · obtain ⟨v, d, n, rfl, hd, q⟩ := h
    refine ⟨_, (pss_one (ps_ret (pe_and (pe_cmpR op_isTyB (pe_callTy call_type1 (by rfl) G.ty (by decide +kernel) (pa_cons (pv 0) pa_nil)) (pe_bltn (v := .ty "tuple") (by rfl) G.tu (by decide +kernel) rfl) (nomark _)) (pe_one (pe_cmpR op_eq (pe_callB call_len_seq (by rfl) G.len PySem.boot_len (pa_cons (pv 0) pa_nil)) (pv 1) (nomark _)))))), ?_⟩
    refine ⟨_, rfl, _, _, rfl, ty_of hd, _, _, rfl, rfl, ?_⟩
    refine ⟨_, rfl, ite2 (fun a1 => ?_) (fun a1 => ?_)⟩
    · obtain ⟨ds, rfl⟩ := ty_tup (of_decide_eq_true a1)
      cases hd with
      | tup s a =>
        have l := dps_len a
        refine ⟨_, rfl, _, _, rfl, .inr s, _, rfl, rfl, ?_⟩
        rename_i xs
        have e2 : decide (V.int ((xs.length : Nat) : Int) = V.int ((n : Nat) : Int)) = isT (.tuple ds) n := by
          show _ = decide (ds.length = n)
          rw [l]
          refine decide_eq_decide.mpr ⟨fun h => ?_, fun h => by rw [h]⟩
          have := V.int.inj h
          omega
        rw [e2]
        exact q
    · have e : isT d n = false := by
        cases d with
        | tuple xs => exact absurd rfl a1
        | _ => rfl
      rw [e] at q
      exact q
def spIsBelow (K : PySem.W.Frag) : Sp := fun vs H Q _ => ∃ (v : V) (d : PyData) (n : Int), vs = [v, .int n] ∧ Dp K H v d ∧ Q (.bl (isI d 0 n)) H
theorem ok_isBelow {f : Addr} {fd : FuncData} (F : Fun K "is_below" "is_below" sIsBelow f fd) (G : Gp mg tw tb) : FnOk P w K mg base CX0 1 f fd ["thing", "limit"] (spIsBelow K) := by
  refine F.ok scIsBelow (fun vs H Q E h => ?_) (fun cdv A outer s H vs Q E hr h => ?_)
  · obtain ⟨v, d, n, rfl, _⟩ := h
    rfl
  · obtain ⟨v, d, n, rfl, hd, q⟩ := h
    refine ⟨_, (pss_one (ps_ret (pe_and (pe_cmpR op_isTyB (pe_callTy call_type1 (by rfl) G.ty (by decide +kernel) (pa_cons (pv 0) pa_nil)) (pe_bltn (v := .ty "int") (by rfl) G.it (by decide +kernel) rfl) (nomark _)) (pe_one (pe_chain op_le op_lt pe_int (pv 0) (pv 1)))))), ?_⟩
    refine ⟨_, rfl, _, _, rfl, ty_of hd, _, _, rfl, rfl, ?_⟩
    refine ⟨_, rfl, ite2 (fun a1 => ?_) (fun a1 => ?_)⟩
    · obtain ⟨i, rfl⟩ := ty_int (of_decide_eq_true a1)
      cases hd with
      | int i =>
        refine ⟨_, rfl, _, _, rfl, rfl, _, rfl, ite2 (fun a2 => ?_) (fun a2 => ?_)⟩
        · refine ⟨_, rfl, _, _, rfl, rfl, ?_⟩
          have e2 : isI (.int i) 0 n = decide (i < n) := by
            show (decide (0 ≤ i) && decide (i < n)) = _
            rw [a2]
            rfl
          rw [e2] at q
          exact q
        · have e2 : isI (.int i) 0 n = false := by
            show (decide (0 ≤ i) && decide (i < n)) = _
            rw [Bool.eq_false_iff.mpr a2]
            rfl
          rw [e2] at q
          exact q
    · have e : isI d 0 n = false := by
        cases d with
        | int xs => exact absurd rfl a1
        | _ => rfl
      rw [e] at q
      exact q
def spIsWidth (K : PySem.W.Frag) : Sp := fun vs H Q _ => ∃ (v : V) (d : PyData), vs = [v] ∧ Dp K H v d ∧ Q (.bl (isI d 1 33)) H
theorem ok_isWidth {f fB : Addr} {fd fdB : FuncData} (F : Fun K "is_width" "is_width" sIsWidth f fd) (G : Gp mg tw tb) (GB : FnOk P w K mg base CX0 1 fB fdB ["thing", "limit"] (spIsBelow K)) (kB : PySem.W.keepIn K (.ref fB) = true) (bB : Binds K fdB ["thing", "limit"] []) (gB : mg "is_below" = some (.ref fB)) :
    FnOk P w K mg base CX0 2 f fd ["thing"] (spIsWidth K) := by
  refine F.ok scIsWidth (fun vs H Q E h => ?_) (fun cdv A outer s H vs Q E hr h => ?_)
  · obtain ⟨v, d, rfl, _⟩ := h
    rfl
  · obtain ⟨v, d, rfl, hd, q⟩ := h
    have hr1 := hr
    refine ⟨_, (pss_one (ps_ret (pe_and (pe_call GB hr1 (by rfl) gB kB bB .nil pass0 (pa_cons (pv 0) (pa_cons (pe_op op_add (pe_glob (v := .int 32) (by rfl) G.mw ⟨_, rfl⟩) (pe_int)) pa_nil))) (pe_one (pe_cmpR op_gt (pv 0) (pe_int) (nomark _)))))), ?_⟩
    refine ⟨_, rfl, _, _, rfl, rfl, v, d, 33, rfl, hd, ?_⟩
    refine ⟨_, rfl, ite2 (fun a1 => ?_) (fun a1 => ?_)⟩
    · obtain ⟨i, rfl, h0, h1⟩ := isI_iff.mp a1
      cases hd
      refine ⟨_, rfl, _, _, rfl, rfl, ?_⟩
      have e2 : isI (.int i) 1 33 = decide (0 < i) := by
        show (decide (1 ≤ i) && decide (i < 33)) = _
        rw [decide_eq_true h1, Bool.and_true]
        exact decide_eq_decide.mpr ⟨fun h => by omega, fun h => by omega⟩
      rw [e2] at q
      exact q
    · have e : isI d 1 33 = false := by
        rw [Bool.eq_false_iff]
        intro h
        obtain ⟨i, rfl, h0, h1⟩ := isI_iff.mp h
        exact a1 (isI_iff.mpr ⟨i, rfl, by omega, h1⟩)
      rw [e] at q
      exact q
def spD (K : PySem.W.Frag) (b : PyData → Bool) : Sp := fun vs H Q _ => ∃ (v : V) (d : PyData), vs = [v] ∧ Dp K H v d ∧ Q (.bl (b d)) H
theorem ok_isRegister {f fB fT fW fM : Addr} {fd fdB fdT fdW fdM : FuncData} (F : Fun K "is_register" "is_register" sIsRegister f fd) (GB : FnOk P w K mg base CX0 1 fB fdB ["thing", "limit"] (spIsBelow K)) (kB : PySem.W.keepIn K (.ref fB) = true) (bB : Binds K fdB ["thing", "limit"] []) (gB : mg "is_below" = some (.ref fB))
    (GT : FnOk P w K mg base CX0 1 fT fdT ["thing", "many"] (spIsTuple K)) (kT : PySem.W.keepIn K (.ref fT) = true) (bT : Binds K fdT ["thing", "many"] []) (gT : mg "is_tuple" = some (.ref fT))
    (GW : FnOk P w K mg base CX0 2 fW fdW ["thing"] (spIsWidth K)) (kW : PySem.W.keepIn K (.ref fW) = true) (bW : Binds K fdW ["thing"] []) (gW : mg "is_width" = some (.ref fW))
    (GM : FnOk P w K mg base CX0 1 fM fdM ["width"] spMask) (kM : PySem.W.keepIn K (.ref fM) = true) (bM : Binds K fdM ["width"] []) (gM : mg "mask" = some (.ref fM)) :
    FnOk P w K mg base CX0 3 f fd ["thing"] (spD K regB) := by
  refine F.ok scIsRegister (fun vs H Q E h => ?_) (fun cdv A outer s H vs Q E hr h => ?_)
  · obtain ⟨v, d, rfl, _⟩ := h
    rfl
  · obtain ⟨v, d, rfl, hd, q⟩ := h
    have hr2 := hr
    have hr1 : Room 1 _ := hr.mono (by decide)
    refine ⟨_, (pss_one (ps_ret (pe_and (pe_call GT hr1 (by rfl) gT kT bT .nil pass0 (pa_cons (pv 0) (pa_cons (pe_int) pa_nil))) (pe_and (pe_call GW hr2 (by rfl) gW kW bW .nil pass0 (pa_cons (pe_ix ix_tup (pv 0) (pe_int) (fun _ _ => rfl)) pa_nil)) (pe_one (pe_call GB hr1 (by rfl) gB kB bB .nil pass0 (pa_cons (pe_ix ix_tup (pv 0) (pe_int) (fun _ _ => rfl)) (pa_cons (pe_op op_add (pe_call GM hr1 (by rfl) gM kM bM .nil pass0 (pa_cons (pe_ix ix_tup (pv 0) (pe_int) (fun _ _ => rfl)) pa_nil)) (pe_int)) pa_nil)))))))), ?_⟩
    refine ⟨_, rfl, v, d, 2, rfl, hd, ?_⟩
    refine ⟨_, rfl, ite2 (fun a1 => ?_) (fun a1 => ?_)⟩
    · obtain ⟨xs, rfl, hl⟩ := isT_iff.mp a1
      match xs, hl with
      | [w0, v0], _ =>
        cases hd with
        | tup s a =>
          cases a with
          | cons a1 a =>
            cases a with
            | cons a2 a =>
              cases a
              refine ⟨_, rfl, _, _, _, _, rfl, rfl, s, atI_nat (j := 0) rfl, _, w0, rfl, a1, ?_⟩
              refine ⟨_, rfl, ite2 (fun b1 => ?_) (fun b1 => ?_)⟩
              · obtain ⟨i, rfl, h0, h1⟩ := isI_iff.mp b1
                cases a1
                obtain ⟨n, rfl⟩ : ∃ n : Nat, i = ((n : Nat) : Int) := ⟨i.toNat, by omega⟩
                refine ⟨_, rfl, _, _, _, _, rfl, rfl, s, atI_nat (j := 1) rfl, _, rfl, _, _, _, _, rfl, rfl, s, atI_nat (j := 0) rfl, n, rfl, by omega, _, _, rfl, rfl, _, v0, _, rfl, a2, ?_⟩
                have e : regB (.tuple [.int ((n : Nat) : Int), v0]) = isI v0 0 (2 ^ n - 1 + 1) := by
                  show (isI (.int ((n : Nat) : Int)) 1 33 && isI v0 0 (2 ^ ((n : Nat) : Int).toNat)) = _
                  rw [b1, Bool.true_and, Int.toNat_natCast, Int.sub_add_cancel]
                rw [e] at q
                exact q
              · have e : regB (.tuple [w0, v0]) = false := by
                  unfold regB
                  cases w0 with
                  | int i =>
                    show (isI (.int i) 1 33 && _) = false
                    rw [Bool.eq_false_iff.mpr b1, Bool.false_and]
                  | _ => rfl
                rw [e] at q
                exact q
    · have e : regB d = false := by
        unfold regB
        split
        · exact absurd rfl a1
        · rfl
      rw [e] at q
      exact q
theorem ok_isMemory {f fB fT fW : Addr} {fd fdB fdT fdW : FuncData} (F : Fun K "is_memory" "is_memory" sIsMemory f fd) (G : Gp mg tw tb) (GB : FnOk P w K mg base CX0 1 fB fdB ["thing", "limit"] (spIsBelow K)) (kB : PySem.W.keepIn K (.ref fB) = true) (bB : Binds K fdB ["thing", "limit"] []) (gB : mg "is_below" = some (.ref fB))
    (GT : FnOk P w K mg base CX0 1 fT fdT ["thing", "many"] (spIsTuple K)) (kT : PySem.W.keepIn K (.ref fT) = true) (bT : Binds K fdT ["thing", "many"] []) (gT : mg "is_tuple" = some (.ref fT))
    (GW : FnOk P w K mg base CX0 2 fW fdW ["thing"] (spIsWidth K)) (kW : PySem.W.keepIn K (.ref fW) = true) (bW : Binds K fdW ["thing"] []) (gW : mg "is_width" = some (.ref fW)) :
    FnOk P w K mg base CX0 3 f fd ["thing"] (spD K memB) := by
  refine F.ok scIsMemory (fun vs H Q E h => ?_) (fun cdv A outer s H vs Q E hr h => ?_)
  · obtain ⟨v, d, rfl, _⟩ := h
    rfl
  · obtain ⟨v, d, rfl, hd, q⟩ := h
    have hr2 := hr
    have hr1 : Room 1 _ := hr.mono (by decide)
    refine ⟨_, (pss_one (ps_ret (pe_and (pe_call GT hr1 (by rfl) gT kT bT .nil pass0 (pa_cons (pv 0) (pa_cons (pe_int) pa_nil))) (pe_and (pe_call GB hr1 (by rfl) gB kB bB .nil pass0 (pa_cons (pe_ix ix_tup (pv 0) (pe_int) (fun _ _ => rfl)) (pa_cons (pe_op op_add (pe_glob (v := .int 6) (by rfl) G.mb ⟨_, rfl⟩) (pe_int)) pa_nil))) (pe_and (pe_cmpR op_gt (pe_ix ix_tup (pv 0) (pe_int) (fun _ _ => rfl)) (pe_int) (nomark _)) (pe_one (pe_call GW hr2 (by rfl) gW kW bW .nil pass0 (pa_cons (pe_ix ix_tup (pv 0) (pe_int) (fun _ _ => rfl)) pa_nil)))))))), ?_⟩
    refine ⟨_, rfl, v, d, 2, rfl, hd, ?_⟩
    refine ⟨_, rfl, ite2 (fun a1 => ?_) (fun a1 => ?_)⟩
    · obtain ⟨xs, rfl, hl⟩ := isT_iff.mp a1
      match xs, hl with
      | [b0, w0], _ =>
        cases hd with
        | tup s a =>
          cases a with
          | cons a1 a =>
            cases a with
            | cons a2 a =>
              cases a
              refine ⟨_, rfl, _, _, _, _, rfl, rfl, s, atI_nat (j := 0) rfl, _, _, rfl, rfl, _, b0, 7, rfl, a1, ?_⟩
              refine ⟨_, rfl, ite2 (fun b1 => ?_) (fun b1 => ?_)⟩
              · obtain ⟨i, rfl, h0, h1⟩ := isI_iff.mp b1
                cases a1
                refine ⟨_, rfl, _, _, _, _, rfl, rfl, s, atI_nat (j := 0) rfl, _, _, rfl, rfl, ?_⟩
                refine ⟨_, rfl, ite2 (fun b2 => ?_) (fun b2 => ?_)⟩
                · have hp := of_decide_eq_true b2
                  refine ⟨_, rfl, _, _, _, _, rfl, rfl, s, atI_nat (j := 1) rfl, _, w0, rfl, a2, ?_⟩
                  have e : memB (.tuple [.int i, w0]) = isI w0 1 33 := by
                    show (isI (.int i) 1 7 && isI w0 1 33) = _
                    rw [isI_iff.mpr ⟨i, rfl, by omega, h1⟩, Bool.true_and]
                  rw [e] at q
                  exact q
                · have e : memB (.tuple [.int i, w0]) = false := by
                    show (isI (.int i) 1 7 && isI w0 1 33) = _
                    rw [show isI (.int i) 1 7 = false from Bool.eq_false_iff.mpr (fun z => by
                      obtain ⟨j, ej, j0, j1⟩ := isI_iff.mp z
                      cases ej
                      exact b2 (decide_eq_true (by omega))), Bool.false_and]
                  rw [e] at q
                  exact q
              · have e : memB (.tuple [b0, w0]) = false := by
                  show (isI b0 1 7 && isI w0 1 33) = _
                  rw [show isI b0 1 7 = false from Bool.eq_false_iff.mpr (fun z => by
                    obtain ⟨j, ej, j0, j1⟩ := isI_iff.mp z
                    exact b1 (isI_iff.mpr ⟨j, ej, by omega, j1⟩)), Bool.false_and]
                rw [e] at q
                exact q
    · have e : memB d = false := by
        unfold memB
        split
        · exact absurd rfl a1
        · rfl
      rw [e] at q
      exact q
end
end C1

/-! Rules: in a tuple of any data, three comparisons in a row, get of a written dict; op_width, fitted_width, parts. -/
namespace C1
open PySem PySem.Spec PyProof.Rows L2 SX
section
variable {X : Cx}
def rInTD (K : PySem.W.Frag) : R2 := fun x y H Q => ∃ d ds, Dp K H x d ∧ Dp K H y (.tuple ds) ∧ SeqAt.shaped d = true ∧ SeqAt.shaped (.tuple ds) = true ∧ Q (.bl (ds.any fun z => PyData.eqv z d)) H
theorem op_inTD (hu : X.A.units + 65 < cLine) : OpR X (compareOp .In) (rInTD X.K) := by
  intro pins s σ H x y v u Q I rx ry h
  obtain ⟨d, ds, hd, he, sd, se, q⟩ := h
  obtain ⟨as, r1⟩ := Dp.reads I d x v hd rx
  obtain ⟨bs, r2⟩ := Dp.reads I (.tuple ds) y u he ry
  exact SeqAt.in_tuple_reads r2 r1 (SeqAt.canLay_of_shaped se) (SeqAt.canLay_of_shaped sd) (room_in_shaped sd hu) ⟨.bl _, H, I, rfl, q⟩
/-- a op1 b op2 c op3 d, a test -/
def tChain3 (r r' r'' : R2) (ta tb tc td : TE) : TT := fun σ H Q => ta σ H fun x H1 => tb σ H1 fun y H2 => r x y H2 fun z H3 => ∃ k, z = .bl k ∧
  (if k = true then tc σ H3 fun w' H4 => r' y w' H4 fun z2 H5 => ∃ k2, z2 = .bl k2 ∧ (if k2 = true then td σ H5 fun w2 H6 => r'' w' w2 H6 fun z3 H7 => ∃ k3, z3 = .bl k3 ∧ Q k3 H7 else Q false H5) else Q false H3)
theorem pt_chain3 {a b c d : Expr} {ta tb tc td : TE} {pos : Pos} {op op' op'' : CmpOp} {r r' r'' : R2} (ho : OpR X (compareOp op) r) (ho' : OpR X (compareOp op') r') (ho'' : OpR X (compareOp op'') r'') (ha : PE X a ta) (hb : PE X b tb) (hc : PE X c tc) (hd : PE X d td)
    (hm : lastMarks [op, op', op''] [b, c, d] = false := by with_unfolding_all rfl) : PT X (.Compare a [op, op', op''] [b, c, d] pos) (tChain3 r r' r'' ta tb tc td) := by
  refine ⟨fun pins s σ H Q I h => ?_⟩
  refine isTrue_chain (thn (ha.run pins s σ H _ I h) fun v s1 ⟨x, H1, I1, r1, q1⟩ => test_link (thn (hb.run pins s1 σ H1 _ I1 q1) fun u s2 ⟨y, H2, I2, r2, q2⟩ =>
    thn (ho pins s2 σ H2 x y v u _ I2 r1 r2 q2) fun d s3 ⟨z, H3, I3, r3, k, e, q3⟩ => ?_)) hm
  subst e
  cases r3
  refine wpAny_truthy_bool ?_
  cases k with
  | false => exact ite_ff ⟨H3, I3, q3⟩
  | true =>
    refine ite_tt (test_link (thn (hc.run pins s3 σ H3 _ I3 q3) fun w' s4 ⟨z', H4, I4, r4, q4⟩ => thn (ho' pins s4 σ H4 y z' u w' _ I4 r2 r4 q4) fun d' s5 ⟨z2, H5, I5, r5, k2, e2, q5⟩ => ?_))
    subst e2
    cases r5
    refine wpAny_truthy_bool ?_
    cases k2 with
    | false => exact ite_ff ⟨H5, I5, q5⟩
    | true =>
      refine ite_tt (test_last (thn (hd.run pins s5 σ H5 _ I5 q5) fun w3 s6 ⟨z3, H6, I6, r6, q6⟩ => thn (ho'' pins s6 σ H6 z' z3 w' w3 _ I6 r4 r6 q6) fun d7 s7 ⟨z7, H7, I7, r7, k7, e7, q7⟩ => ?_))
      subst e7
      cases r7
      exact wpAny_truthy_bool ⟨H7, I7, q7⟩
/-- d.get(key), d a written dict -/
def tKGet (K : PySem.W.Frag) (w : World) (td ty : TE) : TE := fun σ H Q => td σ H fun x H1 => ∃ p es n, x = .ref p ∧ KDict K w p es n ∧ ty σ H1 fun y H2 => ∃ (z : Str) (r : Option Value) (v : V), y = .str z ∧ PySem.W.nsIn K p z = some r ∧ RelV v (r.getD .none) ∧ Q v H2
theorem pe_kget {o e : Expr} {apos cpos : Pos} {td ty : TE} (ho : PE X o td) (he : PE X e ty) (m : M1 X o "get" apos e cpos) : PE X (.Call (.Attribute o "get" apos) [e] [] cpos) (tKGet X.K X.w td ty) := by
  refine ⟨fun pins s σ H Q I h => ?_⟩
  refine wpAny_Call_method m.base m.few m.line PySem.F.plainAttrs_dict PySem.F.slot_dict_get PySem.F.type_dict_get (thn (ho.run pins s σ H _ I h) fun u s1 ⟨x, H1, I1, rx, p, es, n, ex, D, q1⟩ => ?_)
  subst ex
  obtain rfl : u = Value.ref p := rx
  refine ⟨kd_type D I1, fun b q => ?_, ?_⟩
  · cases q
    exact ⟨_, I1.kIn _ _ D.at_, rfl⟩
  rw [m.trees]
  refine Calls.callWith_builtin rfl (Calls.evalArgs_plain (Calls.spliced_cons (thn (he.run pins s1 σ H1 _ I1 q1) fun iv s2 ⟨y, H2, I2, ry, z, r, v, ey, e1, rv, q2⟩ => Calls.spliced_nil ?_)))
  subst ey
  obtain ⟨t, rfl⟩ := (show ∃ t, iv = Value.str z t from ry)
  have hm := PySem.W.mapOf_K (prog := X.prog) (w := X.w) I2.kIn D.at_ D.lit
  refine call_meetsIn PySem.F.slot_dict_get hm.typeIs PySem.F.entry_dict_get (PySem.F.args_dict_get_2 _ _) (meets_dict_get (PySem.strKind X.prog X.w) p (PySem.strKind_is X.prog X.w z t) D.low) ⟨_, hm, ?_⟩
  rw [PySem.W.find_K D.at_ e1]
  exact ⟨v, H2, I2.tok _, rv, q2⟩
end
theorem hu65 {k : Nat} {A : Around} (hr : Room k A) : A.units + 65 < cLine := by
  have := hr.un
  omega
theorem scOpw : FnScope ["sign", "one", "other"] ["sign", "one", "other"] (defScope sOpw) := ⟨rfl, rfl, rfl, by decide +kernel, rfl, by decide +kernel, by decide +kernel⟩
theorem scFitted : FnScope ["node", "widths", "kind"] ["node", "widths"] (defScope sFitted) := ⟨rfl, rfl, rfl, by decide +kernel, rfl, by decide +kernel, by decide +kernel⟩
theorem scParts : FnScope ["tree", "at"] ["tree"] (defScope sParts) := ⟨rfl, rfl, rfl, by decide +kernel, rfl, by decide +kernel, by decide +kernel⟩
def opW (s : Str) (x y : Nat) : Nat := if s ∈ shiftL then x else if x = y then (if s ∈ testL then 1 else if s ∈ arithL then x else 0) else 0
def opD (d : PyData) (x y : Nat) : Nat := match d with
  | .str s => opW s x y
  | _ => 0
theorem any_str (L : List Str) (d : PyData) : ((L.map PyData.str).any fun z => PyData.eqv z d) = (match d with | .str s => decide (s ∈ L) | _ => false) := by
  induction L with
  | nil => cases d <;> simp
  | cons a L ih =>
    rw [List.map_cons, List.any_cons, ih]
    cases d with
    | str s =>
      show (a == s || decide (s ∈ L)) = decide (s ∈ a :: L)
      rw [show (a == s) = decide (s = a) from by
        by_cases h : s = a
        · subst h
          simp
        · rw [decide_eq_false h]
          exact beq_eq_false_iff_ne.mpr (fun z => h z.symm)]
      by_cases h1 : s = a <;> by_cases h2 : s ∈ L <;> simp [h1, h2]
    | _ => rfl
theorem sh_strs (L : List Str) (h : (L.all fun s => PyData.canLay0 (.str s)) = true) : SeqAt.shaped (.tuple (L.map PyData.str)) = true := by
  have h1 : ∀ L : List Str, (L.all fun s => PyData.canLay0 (.str s)) = true → PyData.canLayAll0 (L.map PyData.str) = true ∧ PyData.depthAll (L.map PyData.str) ≤ 5 := by
    intro L
    induction L with
    | nil => exact fun _ => ⟨rfl, Nat.zero_le _⟩
    | cons a L ih =>
      intro h
      rw [List.all_cons, Bool.and_eq_true] at h
      obtain ⟨i1, i2⟩ := ih h.2
      refine ⟨?_, ?_⟩
      · show (PyData.canLay0 (.str a) && PyData.canLayAll0 (L.map PyData.str)) = true
        rw [h.1, i1]
        rfl
      · show max (PyData.depth (.str a)) (PyData.depthAll (L.map PyData.str)) ≤ 5
        exact Nat.max_le.mpr ⟨Nat.zero_le _, i2⟩
  obtain ⟨a, b⟩ := h1 L h
  unfold SeqAt.shaped
  rw [Bool.and_eq_true]
  refine ⟨a, decide_eq_true ?_⟩
  show PyData.depthAll (L.map PyData.str) + 1 ≤ 64
  omega
theorem dps_strs {K : PySem.W.Frag} {H : Hp} : ∀ L : List Str, DpAll K H (L.map V.str) (L.map PyData.str)
  | [] => .nil
  | a :: L => .cons (.str _) (dps_strs L)
section
variable {P : Program} {w : World} {K : PySem.W.Frag} {mg : Str → Option Value} {base : Heap} {tw tb : Tok} {aS aT aA aP : Addr}
structure Gs (K : PySem.W.Frag) (mg : Str → Option Value) (aS aT aA : Addr) : Prop where
  sh : mg "SHIFTS" = some (.ref aS)
  te : mg "TESTS" = some (.ref aT)
  sa : mg "SAME_WIDTH" = some (.ref aA)
  kS : ∀ H, SqT K H aS (shiftL.map V.str)
  kT : ∀ H, SqT K H aT (testL.map V.str)
  kA : ∀ H, SqT K H aA (arithL.map V.str)
def spOpw (K : PySem.W.Frag) : Sp := fun vs H Q _ => ∃ (v : V) (d : PyData) (x y : Nat), vs = [v, iV x, iV y] ∧ Dp K H v d ∧ SeqAt.shaped d = true ∧ Q (iV (opD d x y)) H
theorem ok_opw {f : Addr} {fd : FuncData} (F : Fun K "op_width" "op_width" sOpw f fd) (G2 : Gs K mg aS aT aA) : FnOk P w K mg base CX0 1 f fd ["sign", "one", "other"] (spOpw K) := by
  refine F.ok scOpw (fun vs H Q E h => ?_) (fun cdv A outer s H vs Q E hr h => ?_)
  · obtain ⟨v, d, x, y, rfl, _⟩ := h
    rfl
  · obtain ⟨v, d, x, y, rfl, hd, sd, q⟩ := h
    have hu := hu65 hr
    refine ⟨_, (pss_cons (ps_if (pt_cmpR (op_inTD hu) (pv 0) (pe_glob (v := .ref aS) (by rfl) G2.sh rfl) (by rfl)) (pss_one (ps_ret (pv 1))) pss_nil)
      (pss_cons (ps_if (pt_cmpR op_ne (pv 1) (pv 2) (nomark _)) (pss_one (ps_ret (pe_int))) pss_nil)
      (pss_cons (ps_if (pt_cmpR (op_inTD hu) (pv 0) (pe_glob (v := .ref aT) (by rfl) G2.te rfl) (by rfl)) (pss_one (ps_ret (pe_int))) pss_nil)
      (pss_one (ps_ret (pe_ifExp (pt_cmpR (op_inTD hu) (pv 0) (pe_glob (v := .ref aA) (by rfl) G2.sa rfl) (by rfl)) (pv 1) pe_int)))))), ?_⟩
    refine ⟨_, rfl, d, shiftL.map PyData.str, hd, .tup (G2.kS _) (dps_strs _), sd, sh_strs _ (by decide +kernel), _, rfl, ?_⟩
    rw [any_str]
    refine ite2 (fun a1 => ?_) (fun a1 => ?_)
    · refine ⟨_, rfl, ?_⟩
      cases d with
      | str s =>
        have e : opD (.str s) x y = x := if_pos (of_decide_eq_true a1)
        rw [e] at q
        exact q
      | _ => cases a1
    refine ⟨_, rfl, _, rfl, rfl, _, rfl, ?_⟩
    by_cases hxy : x = y
    · subst hxy
      refine iteNS rfl ?_
      refine ⟨_, rfl, d, testL.map PyData.str, hd, .tup (G2.kT _) (dps_strs _), sd, sh_strs _ (by decide +kernel), _, rfl, ?_⟩
      rw [any_str]
      refine ite2 (fun a2 => ?_) (fun a2 => ?_)
      · cases d with
        | str s =>
          have e : opD (.str s) x x = 1 := by
            show opW s x x = 1
            unfold opW
            rw [if_neg (fun z => a1 (decide_eq_true z)), if_pos rfl, if_pos (of_decide_eq_true a2)]
          rw [e] at q
          exact q
        | _ => cases a2
      refine ⟨_, rfl, d, arithL.map PyData.str, hd, .tup (G2.kA _) (dps_strs _), sd, sh_strs _ (by decide +kernel), _, rfl, ?_⟩
      rw [any_str]
      refine ite2 (fun a3 => ?_) (fun a3 => ?_)
      · refine ⟨_, rfl, ?_⟩
        cases d with
        | str s =>
          have e : opD (.str s) x x = x := by
            show opW s x x = x
            unfold opW
            rw [if_neg (fun z => a1 (decide_eq_true z)), if_pos rfl, if_neg (fun z => a2 (decide_eq_true z)), if_pos (of_decide_eq_true a3)]
          rw [e] at q
          exact q
        | _ => cases a3
      · have e : opD d x x = 0 := by
          cases d with
          | str s =>
            show opW s x x = 0
            unfold opW
            rw [if_neg (fun z => a1 (decide_eq_true z)), if_pos rfl, if_neg (fun z => a2 (decide_eq_true z)), if_neg (fun z => a3 (decide_eq_true z))]
          | _ => rfl
        rw [e] at q
        exact q
    · have e : opD d x y = 0 := by
        cases d with
        | str s =>
          show opW s x y = 0
          unfold opW
          rw [if_neg (fun z => a1 (decide_eq_true z)), if_neg hxy]
        | _ => rfl
      rw [e] at q
      rw [show (!decide (V.int ((x : Nat) : Int) = V.int ((y : Nat) : Int))) = true from congrArg Bool.not (decide_eq_false (fun z => hxy (Int.ofNat.inj (V.int.inj z))))]
      exact iteT q
theorem sF {a b : Str} (h : a ≠ b) : decide (V.str a = V.str b) = false := decide_eq_false fun z => h (V.str.inj z)
theorem sT (a : Str) : decide (V.str a = V.str a) = true := decide_eq_true rfl
theorem dp_tup {H : Hp} {v : V} {ds : List PyData} (h : Dp K H v (.tuple ds)) : ∃ b xs, v = .ref b ∧ SqT K H b xs ∧ DpAll K H xs ds := by
  cases h with
  | tup s a => exact ⟨_, _, rfl, s, a⟩
inductive FitAt : Str → List PyData → List Nat → Nat → Prop
  | op {s a b : PyData} {x y : Nat} : SeqAt.shaped s = true → FitAt "op" [s, a, b] [x, y] (opD s x y)
  | pick {t a b : PyData} {x y z : Nat} : FitAt "pick" [t, a, b] [x, y, z] (if x = 1 ∧ y = z then y else 0)
  | inv {a : PyData} {x : Nat} : FitAt "not" [a] [x] x
  | wide {a : PyData} {w : Int} {x : Nat} : FitAt "wide" [a, .int w] [x] (if 1 ≤ w ∧ w ≤ 32 then w.toNat else 0)
  | part {a : PyData} {lo hi : Int} {x : Nat} : FitAt "part" [a, .int lo, .int hi] [x] (if 0 ≤ lo ∧ lo ≤ hi ∧ hi < x then (hi - lo + 1).toNat else 0)
  | join {a b : PyData} {x y : Nat} : FitAt "join" [a, b] [x, y] (if x + y ≤ 32 then x + y else 0)
def spFitted (K : PySem.W.Frag) : Sp := fun vs H Q _ => ∃ (v : V) (wl : Addr) (k : Str) (r : List PyData) (ks : List Nat) (z : Nat), vs = [v, .ref wl] ∧ Dp K H v (.tuple (.str k :: r)) ∧ SqL K H wl (ks.map iV) ∧ FitAt k r ks z ∧ Q (iV z) H
theorem ok_fitted {f fO : Addr} {fd fdO : FuncData} (F : Fun K "fitted_width" "fitted_width" sFitted f fd) (G : Gp mg tw tb) (GO : FnOk P w K mg base CX0 1 fO fdO ["sign", "one", "other"] (spOpw K)) (kO : PySem.W.keepIn K (.ref fO) = true) (bO : Binds K fdO ["sign", "one", "other"] []) (gO : mg "op_width" = some (.ref fO)) :
    FnOk P w K mg base CX0 2 f fd ["node", "widths"] (spFitted K) := by
  refine F.ok scFitted (fun vs H Q E h => ?_) (fun cdv A outer s H vs Q E hr h => ?_)
  · obtain ⟨v, wl, k, r, ks, z, rfl, _⟩ := h
    rfl
  · obtain ⟨v, wl, k, r, ks, z, rfl, hd, hw, hf, q⟩ := h
    have nd := scFitted.nd
    obtain ⟨b, xs, rfl, sb, da⟩ := dp_tup hd
    cases da with
    | cons d0 da =>
    cases d0
    rename_i xs
    refine ⟨_, (pss_cons (ps_set (i := 2) nd rfl (.inl rfl) (pe_ix ix_tup (pv 0) (pe_int) (fun _ _ => rfl)))
      (pss_cons (ps_if (pt_cmpR op_eq (pv 2) (pe_str) (nomark _)) (pss_one (ps_ret (pe_call GO hr (by rfl) gO kO bO .nil pass0 (pa_cons (pe_ix ix_tup (pv 0) (pe_int) (fun _ _ => rfl)) (pa_cons (pe_ix ix_list (pv 1) (pe_int) (fun _ _ => rfl)) (pa_cons (pe_ix ix_list (pv 1) (pe_int) (fun _ _ => rfl)) pa_nil)))))) pss_nil)
      (pss_cons (ps_if (pt_cmpR op_eq (pv 2) (pe_str) (nomark _)) (pss_one (ps_ret (pe_ifExp (PW.pt (pw_and (pt_cmpR op_eq (pe_ix ix_list (pv 1) (pe_int) (fun _ _ => rfl)) (pe_int) (nomark _)) (pw_and1 (pt_cmpR op_eq (pe_ix ix_list (pv 1) (pe_int) (fun _ _ => rfl)) (pe_ix ix_list (pv 1) (pe_int) (fun _ _ => rfl)) (nomark _))))) (pe_ix ix_list (pv 1) (pe_int) (fun _ _ => rfl)) pe_int))) pss_nil)
      (pss_cons (ps_if (pt_cmpR op_eq (pv 2) (pe_str) (nomark _)) (pss_one (ps_ret (pe_ix ix_list (pv 1) (pe_int) (fun _ _ => rfl)))) pss_nil)
      (pss_cons (ps_if (pt_cmpR op_eq (pv 2) (pe_str) (nomark _)) (pss_one (ps_ret (pe_ifExp (pt_chain op_le op_le (pe_int) (pe_ix ix_tup (pv 0) (pe_int) (fun _ _ => rfl)) (pe_glob (v := .int 32) (by rfl) G.mw ⟨_, rfl⟩)) (pe_ix ix_tup (pv 0) (pe_int) (fun _ _ => rfl)) pe_int))) pss_nil)
      (pss_cons (ps_if (pt_cmpR op_eq (pv 2) (pe_str) (nomark _)) (pss_one (ps_ret (pe_ifExp (pt_chain3 op_le op_le op_lt pe_int (pe_ix ix_tup (pv 0) (pe_int) (fun _ _ => rfl)) (pe_ix ix_tup (pv 0) (pe_int) (fun _ _ => rfl)) (pe_ix ix_list (pv 1) (pe_int) (fun _ _ => rfl))) (pe_op op_add (pe_op op_sub (pe_ix ix_tup (pv 0) (pe_int) (fun _ _ => rfl)) (pe_ix ix_tup (pv 0) (pe_int) (fun _ _ => rfl))) (pe_int)) pe_int))) pss_nil)
      (pss_one (ps_ret (pe_ifExp (pt_cmpR op_le (pe_op op_add (pe_ix ix_list (pv 1) (pe_int) (fun _ _ => rfl)) (pe_ix ix_list (pv 1) (pe_int) (fun _ _ => rfl))) (pe_glob (v := .int 32) (by rfl) G.mw ⟨_, rfl⟩) (nomark _)) (pe_op op_add (pe_ix ix_list (pv 1) (pe_int) (fun _ _ => rfl)) (pe_ix ix_list (pv 1) (pe_int) (fun _ _ => rfl))) pe_int))))))))), ?_⟩
    refine ⟨_, rfl, _, _, _, _, rfl, rfl, sb, atI_nat (j := 0) rfl, ?_⟩
    refine ⟨_, rfl, rfl, _, rfl, ?_⟩
    cases hf with
    | @op s a b2 x y sh =>
      cases da with
      | cons d1 da =>
      rw [sT]
      refine iteT ?_
      refine ⟨_, rfl, _, _, _, _, rfl, rfl, sb, atI_nat (j := 1) rfl, _, rfl, wl, _, _, _, rfl, rfl, hw, atI_nat (j := 0) rfl, _, rfl, wl, _, _, _, rfl, rfl, hw, atI_nat (j := 1) rfl, _, s, x, y, rfl, d1, sh, q⟩
    | @pick t a b2 x y z =>
      rw [sF (by decide +kernel)]
      refine iteF ⟨_, rfl, rfl, _, rfl, ?_⟩
      rw [sT]
      refine iteT ?_
      refine ⟨_, rfl, wl, _, _, _, rfl, rfl, hw, atI_nat (j := 0) rfl, rfl, _, rfl, ite2 (fun a1 => ?_) (fun a1 => ?_)⟩
      · have e1 : x = 1 := by
          have := V.int.inj (of_decide_eq_true a1)
          omega
        refine ⟨_, rfl, wl, _, _, _, rfl, rfl, hw, atI_nat (j := 1) rfl, _, rfl, wl, _, _, _, rfl, rfl, hw, atI_nat (j := 2) rfl, rfl, _, rfl, ite2 (fun a2 => ?_) (fun a2 => ?_)⟩
        · have e2 : y = z := Int.ofNat.inj (V.int.inj (of_decide_eq_true a2))
          rw [if_pos ⟨e1, e2⟩] at q
          exact ⟨_, rfl, wl, _, _, _, rfl, rfl, hw, atI_nat (j := 1) rfl, q⟩
        · rw [if_neg (fun h => a2 (decide_eq_true (by rw [h.2])))] at q
          exact q
      · rw [if_neg (fun h => a1 (decide_eq_true (by rw [h.1]; rfl)))] at q
        exact q
    | @inv a x =>
      rw [sF (by decide +kernel)]
      refine iteF ⟨_, rfl, rfl, _, rfl, ?_⟩
      rw [sF (by decide +kernel)]
      refine iteF ⟨_, rfl, rfl, _, rfl, ?_⟩
      rw [sT]
      exact iteT ⟨_, rfl, wl, _, _, _, rfl, rfl, hw, atI_nat (j := 0) rfl, q⟩
    | @wide a w0 x =>
      cases da with
      | cons d1 da =>
      cases da with
      | cons d2 da =>
      cases d2
      rw [sF (by decide +kernel)]
      refine iteF ⟨_, rfl, rfl, _, rfl, ?_⟩
      rw [sF (by decide +kernel)]
      refine iteF ⟨_, rfl, rfl, _, rfl, ?_⟩
      rw [sF (by decide +kernel)]
      refine iteF ⟨_, rfl, rfl, _, rfl, ?_⟩
      rw [sT]
      refine iteT ?_
      refine ⟨_, rfl, _, _, _, _, rfl, rfl, sb, atI_nat (j := 2) rfl, _, _, rfl, rfl, _, rfl, ite2 (fun a1 => ?_) (fun a1 => ?_)⟩
      · have h1 := of_decide_eq_true a1
        refine ⟨_, _, rfl, rfl, _, rfl, ite2 (fun a2 => ?_) (fun a2 => ?_)⟩
        · have h2 := of_decide_eq_true a2
          rw [if_pos ⟨h1, h2⟩] at q
          refine ⟨_, rfl, _, _, _, _, rfl, rfl, sb, atI_nat (j := 2) rfl, ?_⟩
          rw [show iV w0.toNat = V.int w0 from congrArg V.int (by omega)] at q
          exact q
        · rw [if_neg (fun h => a2 (decide_eq_true h.2))] at q
          exact q
      · refine ⟨_, rfl, ?_⟩
        rw [if_neg (fun h => a1 (decide_eq_true h.1))] at q
        exact q
    | @part a lo hi x =>
      cases da with
      | cons d1 da =>
      cases da with
      | cons d2 da =>
      cases da with
      | cons d3 da =>
      cases d2
      cases d3
      rw [sF (by decide +kernel)]
      refine iteF ⟨_, rfl, rfl, _, rfl, ?_⟩
      rw [sF (by decide +kernel)]
      refine iteF ⟨_, rfl, rfl, _, rfl, ?_⟩
      rw [sF (by decide +kernel)]
      refine iteF ⟨_, rfl, rfl, _, rfl, ?_⟩
      rw [sF (by decide +kernel)]
      refine iteF ⟨_, rfl, rfl, _, rfl, ?_⟩
      rw [sT]
      refine iteT ?_
      refine ⟨_, rfl, _, _, _, _, rfl, rfl, sb, atI_nat (j := 2) rfl, _, _, rfl, rfl, _, rfl, ite2 (fun a1 => ?_) (fun a1 => ?_)⟩
      · have h1 := of_decide_eq_true a1
        refine ⟨_, rfl, _, _, _, _, rfl, rfl, sb, atI_nat (j := 3) rfl, _, _, rfl, rfl, _, rfl, ite2 (fun a2 => ?_) (fun a2 => ?_)⟩
        · have h2 := of_decide_eq_true a2
          refine ⟨_, rfl, wl, _, _, _, rfl, rfl, hw, atI_nat (j := 0) rfl, _, _, rfl, rfl, _, rfl, ite2 (fun a3 => ?_) (fun a3 => ?_)⟩
          · have h3 := of_decide_eq_true a3
            rw [if_pos ⟨h1, h2, h3⟩] at q
            refine ⟨_, rfl, _, _, _, _, rfl, rfl, sb, atI_nat (j := 3) rfl, _, rfl, _, _, _, _, rfl, rfl, sb, atI_nat (j := 2) rfl, _, _, rfl, rfl, _, _, rfl, rfl, ?_⟩
            rw [show iV (hi - lo + 1).toNat = V.int (hi - lo + 1) from congrArg V.int (by omega)] at q
            exact q
          · rw [if_neg (fun h => a3 (decide_eq_true h.2.2))] at q
            exact q
        · rw [if_neg (fun h => a2 (decide_eq_true h.2.1))] at q
          exact q
      · rw [if_neg (fun h => a1 (decide_eq_true h.1))] at q
        exact q
    | @join a b2 x y =>
      rw [sF (by decide +kernel)]
      refine iteF ⟨_, rfl, rfl, _, rfl, ?_⟩
      rw [sF (by decide +kernel)]
      refine iteF ⟨_, rfl, rfl, _, rfl, ?_⟩
      rw [sF (by decide +kernel)]
      refine iteF ⟨_, rfl, rfl, _, rfl, ?_⟩
      rw [sF (by decide +kernel)]
      refine iteF ⟨_, rfl, rfl, _, rfl, ?_⟩
      rw [sF (by decide +kernel)]
      refine iteF ?_
      refine ⟨_, rfl, wl, _, _, _, rfl, rfl, hw, atI_nat (j := 0) rfl, _, rfl, wl, _, _, _, rfl, rfl, hw, atI_nat (j := 1) rfl, _, _, rfl, rfl, _, _, rfl, rfl, _, rfl, ite2 (fun a1 => ?_) (fun a1 => ?_)⟩
      · have h1 := of_decide_eq_true a1
        rw [if_pos (by omega)] at q
        refine ⟨_, rfl, wl, _, _, _, rfl, rfl, hw, atI_nat (j := 0) rfl, _, rfl, wl, _, _, _, rfl, rfl, hw, atI_nat (j := 1) rfl, _, _, rfl, rfl, ?_⟩
        rw [show iV (x + y) = V.int (((x : Nat) : Int) + ((y : Nat) : Int)) from congrArg V.int (by omega)] at q
        exact q
      · rw [if_neg (fun h => a1 (decide_eq_true (by omega)))] at q
        exact q
def spParts (K : PySem.W.Frag) (w : World) (aP : Addr) : Sp := fun vs H Q _ => ∃ (b t : Addr) (xs ys : List V) (k : Str) (is : List Nat), vs = [.ref b] ∧ SqT K H b xs ∧ xs[0]? = some (.str k) ∧ KDct K w aP k (.ref t) ∧ (∀ H, SqT K H t (is.map iV)) ∧ is.length ≤ 5 ∧ ys.length = is.length ∧ (∀ (j i : Nat), is[j]? = some i → xs[i]? = ys[j]?) ∧
  ∀ p, H p = none → Q (.ref p) (upd H p (.lst ys))
theorem ok_parts {f : Addr} {fd : FuncData} (F : Fun K "parts" "parts" sParts f fd) (gP : mg "PARTS" = some (.ref aP)) : FnOk P w K mg base CX0 1 f fd ["tree"] (spParts K w aP) := by
  refine F.ok scParts (fun vs H Q E h => ?_) (fun cdv A outer s H vs Q E hr h => ?_)
  · obtain ⟨b, t, xs, ys, k, is, rfl, _⟩ := h
    rfl
  · obtain ⟨b, t, xs, ys, k, is, rfl, sb, hk, hd, ht, hl5, hl, hy, q⟩ := h
    have nd := scParts.nd
    refine ⟨_, (pss_one (ps_ret (pe_lc (own := [("at", 1)]) (g := gName 1) (tt := tYes) (te := tOp (rIxT K) (tVar 0) (tVar 1)) rfl nd (pi_tup (pe_ix ix_kdict (pe_glob (v := .ref aP) (by rfl) gP rfl) (pe_ix ix_tup (pv 0) (pe_int) (fun _ _ => rfl)) (fun _ _ => rfl))) (blkOk_by (own := [("at", 1)]) (N := ["tree", "at"]) (sc := defScope sParts) (by decide +kernel)) (fun _ _ _ _ _ => pg_name (i := 1) nd rfl (.inl rfl)) (fun _ _ _ _ _ => pts_nil) (fun _ _ _ _ _ => by exact (pe_ix ix_tup (pv 0) (pv 1) (fun _ _ => rfl)))))), ?_⟩
    refine ⟨_, rfl, _, _, _, _, rfl, rfl, sb, atI_nat (j := 0) hk, _, _, _, rfl, rfl, hd, t, rfl, ⟨_, ht _⟩, fun D nD => ?_⟩
    have stay : ∀ {o : HO}, SqT K (upd H D o) b xs := fun {o} => by
      rcases sb with (h | ⟨u, h⟩) | h
      · exact .inl (.inl (by rw [upd_ne (ne_of_none h nD)]; exact h))
      · exact .inl (.inr ⟨u, by rw [upd_ne (ne_of_none h nD)]; exact h⟩)
      · exact .inr h
    refine lc_tup (xs := is.map iV) (fun j H' => H' = upd H D (.lst (ys.take j))) rfl (fun j H' _ h => ht _) (fun j x H' hx h => ?_) (fun H' h => ?_)
    · subst h
      obtain ⟨i, ei⟩ : ∃ i, is[j]? = some i := by
        rw [List.getElem?_map] at hx
        cases e : is[j]? with
        | none =>
          rw [e] at hx
          cases hx
        | some i => exact ⟨i, rfl⟩
      have ex : x = iV i := by
        rw [List.getElem?_map, ei] at hx
        exact (Option.some.inj hx).symm
      subst ex
      have hj : j < is.length := (List.getElem?_eq_some_iff.mp ei).1
      obtain ⟨y, ey⟩ : ∃ y, ys[j]? = some y := ⟨_, List.getElem?_eq_getElem (by omega)⟩
      have hxi : xs[i]? = some y := (hy j i ei).trans ey
      refine ⟨rfl, _, rfl, _, rfl, b, _, _, _, rfl, rfl, stay, atI_nat hxi, ys.take j, upd_same, Nat.lt_of_le_of_lt (List.length_take_le _ _) (by rw [sizeLine_eq]; omega), ?_⟩
      rw [upd_upd, List.take_add_one, ey]
      rfl
    · subst h
      rw [List.length_map, ← hl, List.take_length]
      exact q D nD
end
end C1

/-! known_row_width. -/
namespace C1
open PySem PySem.Spec PyProof.Rows L2 SX
abbrev NK : List Str := ["circuit", "widths", "row", "kind", "part"]
theorem scKnown : FnScope NK ["circuit", "widths", "row"] (defScope sKnown) := ⟨rfl, rfl, rfl, by decide +kernel, rfl, by decide +kernel, by decide +kernel⟩
def partIx (k : Str) : List Nat := if k = "op" then [2, 3] else if k = "pick" then [1, 2, 3] else if k = "join" then [1, 2] else if k = "look" then [2] else if k = "lit" then [] else if k = "reg" then [] else [1]
def kindsP : List Str := ["look", "not", "op", "pick", "wide", "part", "join"]
def kindsF : List Str := ["not", "op", "pick", "wide", "part", "join"]
theorem partIx_len (k : Str) : (partIx k).length ≤ 3 := by
  unfold partIx
  split
  · decide
  split
  · decide
  split
  · decide
  split
  · decide
  split
  · decide
  split
  · decide
  · decide
theorem same_tup {K : PySem.W.Frag} {H H' : Hp} (s : Same H H') : ∀ b xs, SqT K H b xs → SqT K H' b xs := fun b xs h => by
  rcases h with (h | ⟨u, h⟩) | h
  · exact .inl (.inl (s _ _ h))
  · exact .inl (.inr ⟨u, s _ _ h⟩)
  · exact .inr h
theorem Same.up {H : Hp} {p : Addr} {o : HO} (n : H p = none) : Same H (upd H p o) := same_new n
/-- a circuit whose registers and memories fit -/
structure CH (K : PySem.W.Frag) (H : Hp) (cA : Addr) (regs mems : List (Nat × Nat)) : Prop where
  ex : ∃ (r m : Addr) (rest rvs mvs : List V), SqT K H cA (.ref r :: .ref m :: rest) ∧ SqT K H r rvs ∧ DpAll K H rvs (regs.map pr) ∧ SqT K H m mvs ∧ DpAll K H mvs (mems.map pr)
theorem CH.same {K : PySem.W.Frag} {H H' : Hp} {cA : Addr} {regs mems : List (Nat × Nat)} (C : CH K H cA regs mems) (s : Same H H') : CH K H' cA regs mems := by
  obtain ⟨r, m, rest, rvs, mvs, h1, h2, h3, h4, h5⟩ := C.ex
  exact ⟨r, m, rest, rvs, mvs, same_tup s _ _ h1, same_tup s _ _ h2, dps_stay (same_tup s) _ _ h3 (noLs_pr _), same_tup s _ _ h4, dps_stay (same_tup s) _ _ h5 (noLs_pr _)⟩
/-- a row that is known to fit, and its width -/
inductive KnownAt (regs mems : List (Nat × Nat)) (ws : List Nat) : List PyData → Nat → Prop
  | lit {v : PyData} {w : Nat} : KnownAt regs mems ws [.str "lit", v, iD w] w
  | reg {i : Nat} {p : Nat × Nat} : regs[i]? = some p → KnownAt regs mems ws [.str "reg", iD i] p.1
  | look {m : Nat} {p : Nat × Nat} {a : PyData} : mems[m]? = some p → KnownAt regs mems ws [.str "look", iD m, a] p.2
  | fit {k : Str} {r : List PyData} {ns ks : List Nat} {z : Nat} : k ∈ kindsF → FitAt k r ks z → ns.length = (partIx k).length → (∀ (j i : Nat), (partIx k)[j]? = some i → (PyData.str k :: r)[i]? = (ns[j]?).map iD) → ks.length = ns.length → (∀ (j n : Nat), ns[j]? = some n → ws[n]? = ks[j]?) →
      KnownAt regs mems ws (.str k :: r) z
section
variable {P : Program} {w : World} {K : PySem.W.Frag} {mg : Str → Option Value} {base : Heap} {tw tb : Tok} {aS aT aA aP aL : Addr}
def PtOk (K : PySem.W.Frag) (w : World) (aP : Addr) : Prop := ∀ k ∈ kindsP, ∃ t, KDct K w aP k (.ref t) ∧ ∀ H, SqT K H t ((partIx k).map iV)
def spKnown (K : PySem.W.Frag) : Sp := fun vs H Q _ => ∃ (cA wl : Addr) (v : V) (regs mems : List (Nat × Nat)) (ws : List Nat) (es : List PyData) (z : Nat), vs = [.ref cA, .ref wl, v] ∧ CH K H cA regs mems ∧ H wl = some (.lst (ws.map iV)) ∧ Dp K H v (.tuple es) ∧ noLs es = true ∧ KnownAt regs mems ws es z ∧ ∀ H', Same H H' → Q (iV z) H'
theorem ok_known {f fP fF : Addr} {fd fdP fdF : FuncData} (F : Fun K "known_row_width" "known_row_width" sKnown f fd) (GPt : FnOk P w K mg base CX0 1 fP fdP ["tree"] (spParts K w aP)) (kPt : PySem.W.keepIn K (.ref fP) = true) (bPt : Binds K fdP ["tree"] []) (gPt : mg "parts" = some (.ref fP))
    (GF : FnOk P w K mg base CX0 2 fF fdF ["node", "widths"] (spFitted K)) (kF : PySem.W.keepIn K (.ref fF) = true) (bF : Binds K fdF ["node", "widths"] []) (gF : mg "fitted_width" = some (.ref fF)) (PT : PtOk K w aP) :
    FnOk P w K mg base CX0 3 f fd ["circuit", "widths", "row"] (spKnown K) := by
  refine F.ok scKnown (fun vs H Q E h => ?_) (fun cdv A outer s H vs Q E hr h => ?_)
  · obtain ⟨cA, wl, v, regs, mems, ws, es, z, rfl, _⟩ := h
    rfl
  · obtain ⟨cA, wl, v, regs, mems, ws, es, z, rfl, C, hw, hd, hn, hk, q⟩ := h
    have nd := scKnown.nd
    have hr1 : Room 1 _ := hr.mono (by decide)
    obtain ⟨b, xs, rfl, sb, da⟩ := dp_tup hd
    refine ⟨_, (pss_cons (ps_set (i := 3) nd rfl (.inl rfl) (pe_ix ix_tup (pv 2) (pe_int) (fun _ _ => rfl)))
      (pss_cons (ps_if (pt_cmpR op_eq (pv 3) (pe_str) (nomark _)) (pss_one (ps_ret (pe_ix ix_tup (pv 2) (pe_int) (fun _ _ => rfl)))) pss_nil)
      (pss_cons (ps_if (pt_cmpR op_eq (pv 3) (pe_str) (nomark _)) (pss_one (ps_ret (pe_ix ix_tup (pe_ix ix_tup (pe_ix ix_tup (pv 0) (pe_int) (fun _ _ => rfl)) (pe_ix ix_tup (pv 2) (pe_int) (fun _ _ => rfl)) (fun _ _ => rfl)) (pe_int) (fun _ _ => rfl)))) pss_nil)
      (pss_cons (ps_if (pt_cmpR op_eq (pv 3) (pe_str) (nomark _)) (pss_one (ps_ret (pe_ix ix_tup (pe_ix ix_tup (pe_ix ix_tup (pv 0) (pe_int) (fun _ _ => rfl)) (pe_ix ix_tup (pv 2) (pe_int) (fun _ _ => rfl)) (fun _ _ => rfl)) (pe_int) (fun _ _ => rfl)))) pss_nil)
      (pss_one (ps_ret (pe_call GF hr (by rfl) gF kF bF .nil pass0 (pa_cons (pv 2) (pa_cons (pe_lc (own := [("part", 4)]) (g := gName 4) (tt := tYes) (te := tOp (rIxL K) (tVar 1) (tVar 4)) rfl nd (pi_list (pe_call GPt hr1 (by rfl) gPt kPt bPt .nil pass0 (pa_cons (pv 2) pa_nil))) (blkOk_by (own := [("part", 4)]) (N := NK) (sc := defScope sKnown) (by decide +kernel)) (fun _ _ _ _ _ => pg_name (i := 4) nd rfl (.inl rfl)) (fun _ _ _ _ _ => pts_nil) (fun _ _ _ _ _ => by exact (pe_ix ix_list (pv 1) (pv 4) (fun _ _ => rfl)))) pa_nil))))))))), ?_⟩
    have hx0 : ∃ k, es[0]? = some (.str k) := by cases hk <;> exact ⟨_, rfl⟩
    obtain ⟨k, ek⟩ := hx0
    obtain ⟨x0, ex0, dx0⟩ := dps_put da ek
    cases dx0
    refine ⟨_, rfl, _, _, _, _, rfl, rfl, sb, atI_nat (j := 0) ex0, ?_⟩
    refine ⟨_, rfl, rfl, _, rfl, ?_⟩
    obtain ⟨ra, ma, rest, rvs, mvs, h1, h2, h3, h4, h5⟩ := C.ex
    cases hk with
    | @lit v0 w0 =>
      cases ek
      obtain ⟨x2, ex2, dx2⟩ := dps_put da (i := 2) rfl
      cases dx2
      rw [sT]
      exact iteT ⟨_, rfl, _, _, _, _, rfl, rfl, sb, atI_nat (j := 2) ex2, q H (Same.refl H)⟩
    | @reg i p ep =>
      cases ek
      obtain ⟨x1, ex1, dx1⟩ := dps_put da (i := 1) rfl
      cases dx1
      obtain ⟨b2, hb1, hb2⟩ := pr_at h3 ep
      rw [sF (by decide +kernel)]
      refine iteF ⟨_, rfl, rfl, _, rfl, ?_⟩
      rw [sT]
      exact iteT ⟨_, rfl, _, _, _, _, rfl, rfl, h1, atI_nat (j := 0) rfl, _, rfl, _, _, _, _, rfl, rfl, sb, atI_nat (j := 1) ex1, _, _, _, _, rfl, rfl, h2, atI_nat hb1, _, _, _, _, rfl, rfl, hb2, atI_nat (j := 0) rfl, q H (Same.refl H)⟩
    | @look m p a ep =>
      cases ek
      obtain ⟨x1, ex1, dx1⟩ := dps_put da (i := 1) rfl
      cases dx1
      obtain ⟨b2, hb1, hb2⟩ := pr_at h5 ep
      rw [sF (by decide +kernel)]
      refine iteF ⟨_, rfl, rfl, _, rfl, ?_⟩
      rw [sF (by decide +kernel)]
      refine iteF ⟨_, rfl, rfl, _, rfl, ?_⟩
      rw [sT]
      exact iteT ⟨_, rfl, _, _, _, _, rfl, rfl, h1, atI_nat (j := 1) rfl, _, rfl, _, _, _, _, rfl, rfl, sb, atI_nat (j := 1) ex1, _, _, _, _, rfl, rfl, h4, atI_nat hb1, _, _, _, _, rfl, rfl, hb2, atI_nat (j := 1) rfl, q H (Same.refl H)⟩
    | @fit k2 r ns ks z2 hkf hf hnl hns hkl hks =>
      cases ek
      have hkn : ∀ s : Str, s ∉ kindsF → k ≠ s := fun s h e => h (e ▸ hkf)
      rw [sF (hkn "lit" (by decide +kernel))]
      refine iteF ⟨_, rfl, rfl, _, rfl, ?_⟩
      rw [sF (hkn "reg" (by decide +kernel))]
      refine iteF ⟨_, rfl, rfl, _, rfl, ?_⟩
      rw [sF (hkn "look" (by decide +kernel))]
      refine iteF ?_
      have hkp : k ∈ kindsP := List.mem_cons_of_mem _ hkf
      obtain ⟨t, pt1, pt2⟩ := PT k hkp
      have pl := partIx_len k
      refine ⟨_, rfl, _, rfl, b, t, xs, ns.map iV, k, partIx k, rfl, sb, ex0, pt1, pt2, by omega, by rw [List.length_map]; exact hnl, fun j i hj => ?_, fun p np => ?_⟩
      · have hjl : j < (partIx k).length := (List.getElem?_eq_some_iff.mp hj).1
        obtain ⟨n, en⟩ : ∃ n, ns[j]? = some n := ⟨_, List.getElem?_eq_getElem (by omega)⟩
        have e1 := hns j i hj
        rw [en] at e1
        obtain ⟨x, ex, dx⟩ := dps_put da e1
        cases dx
        rw [ex, List.getElem?_map, en]
        rfl
      refine ⟨p, rfl, ⟨_, SqL.of upd_same⟩, fun D nD => ?_⟩
      have wp : (upd H p (.lst (ns.map iV))) wl = some (.lst (ws.map iV)) := by
        rw [upd_ne (ne_of_none hw np)]
        exact hw
      have pD : p ≠ D := ne_of_none upd_same nD
      refine lc_list (xs := ns.map iV) (fun j H' => H' = upd (upd H p (.lst (ns.map iV))) D (.lst ((ks.take j).map iV))) rfl (fun j H' _ h => ?_) (fun j x H' hx h => ?_) (fun H' h => ?_)
      · subst h
        exact SqL.of (by rw [upd_ne pD]; exact upd_same)
      · subst h
        rw [List.getElem?_map] at hx
        obtain ⟨n, en⟩ : ∃ n, ns[j]? = some n := by
          cases e : ns[j]? with
          | none =>
            rw [e] at hx
            cases hx
          | some n => exact ⟨n, rfl⟩
        rw [en] at hx
        have ex := (Option.some.inj hx).symm
        subst ex
        have hj : j < ns.length := (List.getElem?_eq_some_iff.mp en).1
        obtain ⟨kv, ekv⟩ : ∃ kv, ks[j]? = some kv := ⟨_, List.getElem?_eq_getElem (by omega)⟩
        have e2 := (hks j n en).trans ekv
        refine ⟨rfl, _, rfl, _, rfl, wl, _, _, _, rfl, rfl, SqL.of (by rw [upd_ne (ne_of_none wp nD)]; exact wp), atI_nat (int_at e2), (ks.take j).map iV, upd_same, by rw [List.length_map]; exact Nat.lt_of_le_of_lt (List.length_take_le _ _) (by rw [sizeLine_eq]; omega), ?_⟩
        rw [upd_upd, List.take_add_one, ekv, List.map_append]
        rfl
      · subst h
        rw [List.length_map, ← hkl, List.take_length]
        have sm : Same H (upd (upd H p (.lst (ns.map iV))) D (.lst (ks.map iV))) := (Same.up np).trans (Same.up nD)
        refine ⟨_, D, k, r, ks, z, rfl, dp_stay (same_tup sm) _ _ hd hn, SqL.of upd_same, hf, q _ sm⟩
end
end C1

/-! row_width. -/
namespace C1
open PySem PySem.Spec PyProof.Rows L2 SX
theorem scRowWidth : FnScope NK ["circuit", "widths", "row"] (defScope sRowWidth) := ⟨rfl, rfl, rfl, by decide +kernel, rfl, by decide +kernel, by decide +kernel⟩
def lenOf (k : Str) : Option Nat := if k = "lit" then some 3 else if k = "reg" then some 2 else if k = "look" then some 3 else if k = "not" then some 2 else if k = "op" then some 4 else if k = "pick" then some 4 else if k = "wide" then some 3 else if k = "part" then some 4 else if k = "join" then some 3 else none
/-! data that the law draws: its texts, not deep -/
def strsL : List Str := ["lit", "reg", "look", "not", "op", "pick", "wide", "part", "join", "+", "-", "*", "&", "|", "^", "==", "<", "<<", ">>", "none"]
def gd : Nat → PyData → Bool
  | _, .none => true
  | _, .bool _ => true
  | _, .int _ => true
  | _, .str s => decide (s ∈ strsL)
  | n + 1, .tuple ds => decide (ds.length ≤ 1000) && ds.all (gd n)
  | _, _ => false
theorem gd_ok : ∀ (n : Nat) (d : PyData), gd n d = true → noL d = true ∧ PyData.canLay0 d = true ∧ PyData.depth d ≤ n
  | _, .none, _ => ⟨rfl, rfl, Nat.zero_le _⟩
  | _, .bool _, _ => ⟨rfl, rfl, Nat.zero_le _⟩
  | _, .int _, _ => ⟨rfl, rfl, Nat.zero_le _⟩
  | n, .str s, h => by
    have h1 : s ∈ strsL := by
      cases n <;> exact of_decide_eq_true h
    have h2 : ∀ s ∈ strsL, PyData.canLay0 (.str s) = true := by decide +kernel
    exact ⟨rfl, h2 s h1, Nat.zero_le _⟩
  | 0, .tuple _, h => by cases h
  | n + 1, .tuple ds, h => by
    have h2 := (Bool.and_eq_true_iff.mp h).2
    have h3 : ∀ ds : List PyData, ds.all (gd n) = true → noLs ds = true ∧ PyData.canLayAll0 ds = true ∧ PyData.depthAll ds ≤ n := by
      intro ds
      induction ds with
      | nil => exact fun _ => ⟨rfl, rfl, Nat.zero_le _⟩
      | cons d ds ih =>
        intro h
        rw [List.all_cons, Bool.and_eq_true] at h
        obtain ⟨a1, a2, a3⟩ := gd_ok n d h.1
        obtain ⟨b1, b2, b3⟩ := ih h.2
        refine ⟨?_, ?_, ?_⟩
        · show (noL d && noLs ds) = true
          rw [a1, b1]
          rfl
        · show (PyData.canLay0 d && PyData.canLayAll0 ds) = true
          rw [a2, b2]
          rfl
        · show max (PyData.depth d) (PyData.depthAll ds) ≤ n
          exact Nat.max_le.mpr ⟨a3, b3⟩
    obtain ⟨a, b, c⟩ := h3 ds h2
    exact ⟨a, b, Nat.succ_le_succ c⟩
  | 0, .list _, h => by cases h
  | 0, .dict _, h => by cases h
  | _ + 1, .list _, h => by cases h
  | _ + 1, .dict _, h => by cases h
theorem gd_shaped {n : Nat} {d : PyData} (h : gd n d = true) (hn : n ≤ 60) : SeqAt.shaped d = true := by
  obtain ⟨_, b, c⟩ := gd_ok n d h
  unfold SeqAt.shaped
  rw [Bool.and_eq_true]
  exact ⟨b, decide_eq_true (by omega)⟩
theorem gd_mem {n : Nat} {ds : List PyData} (h : gd (n + 1) (.tuple ds) = true) {d : PyData} (hd : d ∈ ds) : gd n d = true := List.all_eq_true.mp (Bool.and_eq_true_iff.mp h).2 d hd
theorem gd_len {n : Nat} {ds : List PyData} (h : gd (n + 1) (.tuple ds) = true) : ds.length ≤ 1000 := of_decide_eq_true (Bool.and_eq_true_iff.mp h).1
def litB (r : List PyData) : Nat := match r with
  | [v, .int w] => if (isI (.int w) 1 33 && isI v 0 (2 ^ w.toNat)) = true then w.toNat else 0
  | _ => 0
def regW (regs : List (Nat × Nat)) (r : List PyData) : Nat := match r with
  | [.int i] => if 0 ≤ i then ((regs[i.toNat]?).map Prod.fst).getD 0 else 0
  | _ => 0
def lookB (mems : List (Nat × Nat)) (ws : List Nat) (r : List PyData) : Nat := match r with
  | [.int m, .int a] => if 0 ≤ m ∧ 0 ≤ a then (match mems[m.toNat]?, ws[a.toNat]? with | some p, some x => if x = p.1 then p.2 else 0 | _, _ => 0) else 0
  | _ => 0
def fitB (k : Str) (r : List PyData) (ks : List Nat) : Nat :=
  if k = "op" then (match r, ks with | s :: _, [x, y] => opD s x y | _, _ => 0)
  else if k = "pick" then (match ks with | [x, y, z] => if x = 1 ∧ y = z then y else 0 | _ => 0)
  else if k = "not" then ks.headD 0
  else if k = "wide" then (match r with | [_, .int w] => if 1 ≤ w ∧ w ≤ 32 then w.toNat else 0 | _ => 0)
  else if k = "part" then (match r, ks with | [_, .int lo, .int hi], [x] => if 0 ≤ lo ∧ lo ≤ hi ∧ hi < x then (hi - lo + 1).toNat else 0 | _, _ => 0)
  else (match ks with | [x, y] => if x + y ≤ 32 then x + y else 0 | _ => 0)
def natD : PyData → Nat
  | .int i => i.toNat
  | _ => 0
def partsD (k : Str) (es : List PyData) : List PyData := (partIx k).map fun i => es.getD i .none
def rowB (regs mems : List (Nat × Nat)) (ws : List Nat) (d : PyData) : Nat := match d with
  | .tuple (.str k :: r) =>
    if lenOf k = some (r.length + 1) then
      if k = "lit" then litB r else if k = "reg" then regW regs r
      else if ((partsD k (.str k :: r)).all fun p => isI p 0 (ws.length : Nat)) = true then
        (if k = "look" then lookB mems ws r else fitB k r ((partsD k (.str k :: r)).map fun p => ws.getD (natD p) 0))
      else 0
    else 0
  | _ => 0
theorem kinds_of {k : Str} {m : Nat} (h : lenOf k = some m) : k = "lit" ∨ k = "reg" ∨ k ∈ kindsP := by
  unfold lenOf at h
  by_cases h1 : k = "lit"
  · exact .inl h1
  by_cases h2 : k = "reg"
  · exact .inr (.inl h2)
  refine .inr (.inr ?_)
  rw [if_neg h1, if_neg h2] at h
  by_cases h3 : k = "look"
  · subst h3
    decide +kernel
  rw [if_neg h3] at h
  by_cases h4 : k = "not"
  · subst h4
    decide +kernel
  rw [if_neg h4] at h
  by_cases h5 : k = "op"
  · subst h5
    decide +kernel
  rw [if_neg h5] at h
  by_cases h6 : k = "pick"
  · subst h6
    decide +kernel
  rw [if_neg h6] at h
  by_cases h7 : k = "wide"
  · subst h7
    decide +kernel
  rw [if_neg h7] at h
  by_cases h8 : k = "part"
  · subst h8
    decide +kernel
  rw [if_neg h8] at h
  by_cases h9 : k = "join"
  · subst h9
    decide +kernel
  rw [if_neg h9] at h
  cases h
theorem part_lt : ∀ k ∈ kindsP, ∀ m, lenOf k = some m → ∀ i ∈ partIx k, i < m := by
  have h : ∀ k ∈ kindsP, ∀ i ∈ partIx k, i < (lenOf k).getD 0 := by decide +kernel
  intro k hk m hm i hi
  have := h k hk i hi
  rw [hm] at this
  exact this
theorem dps_pick {K : PySem.W.Frag} {H : Hp} {xs : List V} {es : List PyData} (h : DpAll K H xs es) : ∀ is : List Nat, (∀ i ∈ is, i < es.length) → ∃ ys : List V, ys.length = is.length ∧ (∀ (j i : Nat), is[j]? = some i → xs[i]? = ys[j]?) ∧ DpAll K H ys (is.map fun i => es.getD i .none)
  | [], _ => ⟨[], rfl, fun j i h => by simp at h, .nil⟩
  | i :: is, hi => by
    obtain ⟨ys, l, g, d⟩ := dps_pick h is fun i2 h2 => hi i2 (List.mem_cons_of_mem _ h2)
    have hil := hi i (List.mem_cons_self ..)
    obtain ⟨x, ex, dx⟩ := dps_put h (List.getElem?_eq_getElem hil)
    refine ⟨x :: ys, by rw [List.length_cons, List.length_cons, l], fun j i2 hj => ?_, .cons ?_ d⟩
    · cases j with
      | zero =>
        cases hj
        exact ex
      | succ j => exact g j i2 hj
    · show Dp K H x (es.getD i .none)
      rw [List.getD_eq_getElem?_getD, List.getElem?_eq_getElem hil]
      exact dx
theorem all_nat (ws : List Nat) : ∀ pd : List PyData, (pd.all fun p => isI p 0 (ws.length : Nat)) = true → ∃ ns ks : List Nat, pd = ns.map iD ∧ ks.length = ns.length ∧ (∀ (j n : Nat), ns[j]? = some n → ws[n]? = ks[j]?) ∧ (pd.map fun p => ws.getD (natD p) 0) = ks
  | [], _ => ⟨[], [], rfl, rfl, fun j n h => by simp at h, rfl⟩
  | p :: pd, h => by
    rw [List.all_cons, Bool.and_eq_true] at h
    obtain ⟨ns, ks, e1, e2, e3, e4⟩ := all_nat ws pd h.2
    obtain ⟨i, rfl, i0, i1⟩ := isI_iff.mp h.1
    obtain ⟨n, rfl⟩ : ∃ n : Nat, i = ((n : Nat) : Int) := ⟨i.toNat, by omega⟩
    have hn : n < ws.length := by omega
    refine ⟨n :: ns, ws[n] :: ks, by rw [List.map_cons, e1], by rw [List.length_cons, List.length_cons, e2], fun j m hj => ?_, ?_⟩
    · cases j with
      | zero =>
        cases hj
        exact List.getElem?_eq_getElem hn
      | succ j => exact e3 j m hj
    · rw [List.map_cons, e4]
      show ws.getD ((n : Nat) : Int).toNat 0 :: ks = _
      rw [Int.toNat_natCast, List.getD_eq_getElem?_getD, List.getElem?_eq_getElem hn]
      rfl
theorem len1 {α : Type} {l : List α} (h : l.length = 1) : ∃ a, l = [a] := by
  match l, h with
  | [a], _ => exact ⟨a, rfl⟩
theorem len2 {α : Type} {l : List α} (h : l.length = 2) : ∃ a b, l = [a, b] := by
  match l, h with
  | [a, b], _ => exact ⟨a, b, rfl⟩
theorem len3 {α : Type} {l : List α} (h : l.length = 3) : ∃ a b c, l = [a, b, c] := by
  match l, h with
  | [a, b, c], _ => exact ⟨a, b, c, rfl⟩
theorem fit_of {k : Str} {r : List PyData} {ks : List Nat} (hk : k ∈ kindsP) (hl : lenOf k = some (r.length + 1)) (hk2 : k ≠ "look") (hks : ks.length = (partIx k).length) (hs : ∀ d ∈ r, SeqAt.shaped d = true) (hw : k = "wide" → ∃ a w, r = [a, .int w]) (hp : k = "part" → ∃ a lo hi, r = [a, .int lo, .int hi]) :
    k ∈ kindsF ∧ FitAt k r ks (fitB k r ks) := by
  have hf : k ∈ kindsF := (List.mem_cons.mp hk).resolve_left hk2
  refine ⟨hf, ?_⟩
  have hc : k = "not" ∨ k = "op" ∨ k = "pick" ∨ k = "wide" ∨ k = "part" ∨ k = "join" := by
    unfold kindsF at hf
    simpa using hf
  rcases hc with h | h | h | h | h | h
  · subst h
    obtain ⟨a, rfl⟩ := len1 (l := r) (by have : some 2 = some (r.length + 1) := hl; have := Option.some.inj this; omega)
    obtain ⟨x, rfl⟩ := len1 (l := ks) hks
    exact .inv
  · subst h
    obtain ⟨s, a, b, rfl⟩ := len3 (l := r) (by have : some 4 = some (r.length + 1) := hl; have := Option.some.inj this; omega)
    obtain ⟨x, y, rfl⟩ := len2 (l := ks) hks
    exact .op (hs s (List.mem_cons_self ..))
  · subst h
    obtain ⟨s, a, b, rfl⟩ := len3 (l := r) (by have : some 4 = some (r.length + 1) := hl; have := Option.some.inj this; omega)
    obtain ⟨x, y, z, rfl⟩ := len3 (l := ks) hks
    exact .pick
  · obtain ⟨a, w, rfl⟩ := hw h
    subst h
    obtain ⟨x, rfl⟩ := len1 (l := ks) hks
    exact .wide
  · obtain ⟨a, lo, hi, rfl⟩ := hp h
    subst h
    obtain ⟨x, rfl⟩ := len1 (l := ks) hks
    exact .part
  · subst h
    obtain ⟨a, b, rfl⟩ := len2 (l := r) (by have : some 3 = some (r.length + 1) := hl; have := Option.some.inj this; omega)
    obtain ⟨x, y, rfl⟩ := len2 (l := ks) hks
    exact .join
theorem iteN {c A B : Prop} [Decidable c] (hc : ¬ c) (h : A) : if (!decide c) = true then A else B := by
  rw [decide_eq_false hc]
  exact iteT h
section
variable {P : Program} {w : World} {K : PySem.W.Frag} {mg : Str → Option Value} {base : Heap} {tw tb : Tok} {aS aT aA aP aL : Addr}
def LnOk (K : PySem.W.Frag) (w : World) (aL : Addr) : Prop := (∃ es n, KDict K w aL es n) ∧ ∀ z ∈ strsL, ∃ r v, PySem.W.nsIn K aL z = some r ∧ RelV v (r.getD .none) ∧ v = (match lenOf z with | some n => iV n | none => V.non)
def spRowWidth (K : PySem.W.Frag) : Sp := fun vs H Q _ => ∃ (cA wl : Addr) (v : V) (regs mems : List (Nat × Nat)) (ws : List Nat) (d : PyData) (n : Nat), vs = [.ref cA, .ref wl, v] ∧ CH K H cA regs mems ∧ H wl = some (.lst (ws.map iV)) ∧ Dp K H v d ∧ gd n d = true ∧ n ≤ 20 ∧ ws.length ≤ 1000 ∧ regs.length ≤ 1000 ∧ mems.length ≤ 1000 ∧ ∀ H', Same H H' → Q (iV (rowB regs mems ws d)) H'
theorem ok_rowWidth {f fP fB fW fM fK : Addr} {fd fdP fdB fdW fdM fdK : FuncData} (F : Fun K "row_width" "row_width" sRowWidth f fd) (G : Gp mg tw tb) (gL : mg "ROW_LENGTHS" = some (.ref aL)) (LN : LnOk K w aL) (PT : PtOk K w aP)
    (GPt : FnOk P w K mg base CX0 1 fP fdP ["tree"] (spParts K w aP)) (kPt : PySem.W.keepIn K (.ref fP) = true) (bPt : Binds K fdP ["tree"] []) (gPt : mg "parts" = some (.ref fP))
    (GB : FnOk P w K mg base CX0 1 fB fdB ["thing", "limit"] (spIsBelow K)) (kB : PySem.W.keepIn K (.ref fB) = true) (bB : Binds K fdB ["thing", "limit"] []) (gB : mg "is_below" = some (.ref fB))
    (GW : FnOk P w K mg base CX0 2 fW fdW ["thing"] (spIsWidth K)) (kW : PySem.W.keepIn K (.ref fW) = true) (bW : Binds K fdW ["thing"] []) (gW : mg "is_width" = some (.ref fW))
    (GM : FnOk P w K mg base CX0 1 fM fdM ["width"] spMask) (kM : PySem.W.keepIn K (.ref fM) = true) (bM : Binds K fdM ["width"] []) (gM : mg "mask" = some (.ref fM))
    (GK : FnOk P w K mg base CX0 3 fK fdK ["circuit", "widths", "row"] (spKnown K)) (kK : PySem.W.keepIn K (.ref fK) = true) (bK : Binds K fdK ["circuit", "widths", "row"] []) (gK : mg "known_row_width" = some (.ref fK)) :
    FnOk P w K mg base CX0 4 f fd ["circuit", "widths", "row"] (spRowWidth K) := by
  refine F.ok scRowWidth (fun vs H Q E h => ?_) (fun cdv A outer s H vs Q E hr h => ?_)
  · obtain ⟨cA, wl, v, regs, mems, ws, d, n, rfl, _⟩ := h
    rfl
  · obtain ⟨cA, wl, v, regs, mems, ws, d, n, rfl, C, hw, hd, hg, hn, lw, lr, lm, q⟩ := h
    have nd := scRowWidth.nd
    have hr1 : Room 1 _ := hr.mono (by decide)
    have hr2 : Room 2 _ := hr.mono (by decide)
    refine ⟨_, (pss_cons (ps_if (PW.pt (pw_or (pt_cmpR op_notTyB (pe_callTy call_type1 (by rfl) G.ty (by decide +kernel) (pa_cons (pv 2) pa_nil)) (pe_bltn (v := .ty "tuple") (by rfl) G.tu (by decide +kernel) rfl) (nomark _)) (pw_or (pt_not (pt_truth (pv 2) (by intro _; rfl))) (pw_or (pt_cmpR op_notTyB (pe_callTy call_type1 (by rfl) G.ty (by decide +kernel) (pa_cons (pe_ix ix_tup (pv 2) (pe_int) (fun _ _ => rfl)) pa_nil)) (pe_bltn (v := .ty "str") (by rfl) G.st (by decide +kernel) rfl) (nomark _)) (pw_or1 (pt_cmpR op_ne (pe_kget (pe_glob (v := .ref aL) (by rfl) gL rfl) (pe_ix ix_tup (pv 2) (pe_int) (fun _ _ => rfl)) ⟨rfl, rfl, rfl, rfl⟩) (pe_callB call_len_seq (by rfl) G.len PySem.boot_len (pa_cons (pv 2) pa_nil)) (nomark _))))))) (pss_one (ps_ret (pe_int))) pss_nil)
      (pss_cons (ps_set (i := 3) nd rfl (.inl rfl) (pe_ix ix_tup (pv 2) (pe_int) (fun _ _ => rfl)))
      (pss_cons (ps_if (pt_cmpR op_eq (pv 3) (pe_str) (nomark _)) (pss_one (ps_ret (pe_ifExp (PW.pt (pw_and (pt_val (pe_call GW hr2 (by rfl) gW kW bW .nil pass0 (pa_cons (pe_ix ix_tup (pv 2) (pe_int) (fun _ _ => rfl)) pa_nil))) (pw_and1 (pt_val (pe_call GB hr1 (by rfl) gB kB bB .nil pass0 (pa_cons (pe_ix ix_tup (pv 2) (pe_int) (fun _ _ => rfl)) (pa_cons (pe_op op_add (pe_call GM hr1 (by rfl) gM kM bM .nil pass0 (pa_cons (pe_ix ix_tup (pv 2) (pe_int) (fun _ _ => rfl)) pa_nil)) (pe_int)) pa_nil))))))) (pe_ix ix_tup (pv 2) (pe_int) (fun _ _ => rfl)) pe_int))) pss_nil)
      (pss_cons (ps_if (pt_cmpR op_eq (pv 3) (pe_str) (nomark _)) (pss_one (ps_ret (pe_ifExp (pt_val (pe_call GB hr1 (by rfl) gB kB bB .nil pass0 (pa_cons (pe_ix ix_tup (pv 2) (pe_int) (fun _ _ => rfl)) (pa_cons (pe_callB call_len_seq (by rfl) G.len PySem.boot_len (pa_cons (pe_ix ix_tup (pv 0) (pe_int) (fun _ _ => rfl)) pa_nil)) pa_nil)))) (pe_call GK hr (by rfl) gK kK bK .nil pass0 (pa_cons (pv 0) (pa_cons (pv 1) (pa_cons (pv 2) pa_nil)))) pe_int))) pss_nil)
      (C8.pss_cut (ps_if (pt_not (pt_val (pe_callB (cr_all rfl) (by rfl) G.all (by decide +kernel) (pa_cons (pe_lc (own := [("part", 4)]) (g := gName 4) (tt := tYes) (te := tCall (spIsBelow K) [] E0 (tCons (tVar 4) (tCons (tCB (rLen K) (tCons (tVar 1) tNil)) tNil))) rfl nd (pi_list (pe_call GPt hr1 (by rfl) gPt kPt bPt .nil pass0 (pa_cons (pv 2) pa_nil))) (blkOk_by (own := [("part", 4)]) (N := NK) (sc := defScope sRowWidth) (by decide +kernel)) (fun _ _ _ _ _ => pg_name (i := 4) nd rfl (.inl rfl)) (fun _ _ _ _ _ => pts_nil) (fun _ _ _ _ _ => by exact (pe_call GB hr1 (by rfl) gB kB bB .nil pass0 (pa_cons (pv 4) (pa_cons (pe_callB call_len_seq (by rfl) G.len PySem.boot_len (pa_cons (pv 1) pa_nil)) pa_nil))))) pa_nil)))) (pss_one (ps_ret (pe_int))) pss_nil)
      (C8.pss_cut (ps_if (pt_cmpR op_eq (pv 3) (pe_str) (nomark _)) (pss_one (ps_if (PW.pt (pw_or (pt_not (pt_val (pe_call GB hr1 (by rfl) gB kB bB .nil pass0 (pa_cons (pe_ix ix_tup (pv 2) (pe_int) (fun _ _ => rfl)) (pa_cons (pe_callB call_len_seq (by rfl) G.len PySem.boot_len (pa_cons (pe_ix ix_tup (pv 0) (pe_int) (fun _ _ => rfl)) pa_nil)) pa_nil))))) (pw_or1 (pt_cmpR op_ne (pe_ix ix_list (pv 1) (pe_ix ix_tup (pv 2) (pe_int) (fun _ _ => rfl)) (fun _ _ => rfl)) (pe_ix ix_tup (pe_ix ix_tup (pe_ix ix_tup (pv 0) (pe_int) (fun _ _ => rfl)) (pe_ix ix_tup (pv 2) (pe_int) (fun _ _ => rfl)) (fun _ _ => rfl)) (pe_int) (fun _ _ => rfl)) (nomark _))))) (pss_one (ps_ret (pe_int))) pss_nil)) pss_nil)
      (pss_cons (ps_if (PW.pt (pw_and (pt_cmpR op_in_seq (pv 3) (pe_tup (pa_cons (pe_str) (pa_cons (pe_str) pa_nil))) (by rfl)) (pw_and1 (pt_not (pt_val (pe_callB (cr_all rfl) (by rfl) G.all (by decide +kernel) (pa_cons (pe_lc (own := [("part", 4)]) (g := gName 4) (tt := tYes) (te := tOp (fun x y H Q => ∃ a b, x = .ty a ∧ y = .ty b ∧ Q (.bl (decide (a = b))) H) (tCB (rTyp K) (tCons (tVar 4) tNil)) (tC (.ty "int"))) rfl nd (pi_tup (pe_slice sl_tup (pv 2) (po_some pe_int) po_none)) (blkOk_by (own := [("part", 4)]) (N := NK) (sc := defScope sRowWidth) (by decide +kernel)) (fun _ _ _ _ _ => pg_name (i := 4) nd rfl (.inl rfl)) (fun _ _ _ _ _ => pts_nil) (fun _ _ _ _ _ => by exact (pe_cmpR op_isTyB (pe_callTy call_type1 (by rfl) G.ty (by decide +kernel) (pa_cons (pv 4) pa_nil)) (pe_bltn (v := .ty "int") (by rfl) G.it (by decide +kernel) rfl) (nomark _)))) pa_nil))))))) (pss_one (ps_ret (pe_int))) pss_nil)
      (pss_one (ps_ret (pe_call GK hr (by rfl) gK kK bK .nil pass0 (pa_cons (pv 0) (pa_cons (pv 1) (pa_cons (pv 2) pa_nil))))))))))))), ?_⟩
    have z0 : rowB regs mems ws d = 0 → ∀ {H'}, Same H H' → Q (.int 0) H' := fun e H' sm => by
      have := q H' sm
      rw [e] at this
      exact this
    have s0 := Same.refl H
    obtain ⟨⟨les, ln, KD⟩, hln⟩ := LN
    refine ⟨_, rfl, _, _, rfl, ty_of hd, _, _, rfl, rfl, _, rfl, ?_⟩
    cases d with
    | tuple es =>
      refine iteNS rfl ?_
      obtain ⟨b, xs, rfl, sb, da⟩ := dp_tup hd
      have hnn : noLs es = true := (gd_ok n _ hg).1
      obtain ⟨n, rfl⟩ : ∃ m, n = m + 1 := by
        cases n with
        | zero => cases hg
        | succ m => exact ⟨m, rfl⟩
      refine ⟨_, rfl, _, .inr (.inl ⟨xs, sb, rfl⟩), ?_⟩
      cases da with
      | nil => exact iteT (z0 rfl s0)
      | @cons x0 xs d0 r hd0 da =>
        refine iteF ?_
        refine ⟨_, rfl, _, _, _, _, rfl, rfl, sb, atI_nat (j := 0) rfl, _, _, rfl, ty_of hd0, _, _, rfl, rfl, _, rfl, ?_⟩
        cases d0 with
        | str k =>
          cases hd0
          refine iteNS rfl ?_
          have hkk : k ∈ strsL := by
            have := gd_mem hg (List.mem_cons_self ..)
            cases n <;> exact of_decide_eq_true this
          obtain ⟨rr, vv, e1, e2, e3⟩ := hln k hkk
          have lda := dps_len da
          refine ⟨aL, les, ln, rfl, KD, _, rfl, _, _, _, _, rfl, rfl, sb, atI_nat (j := 0) rfl, k, rr, vv, rfl, e1, e2, _, rfl, _, _, rfl, .inr sb, ?_⟩
          subst e3
          cases hl : lenOf k with
          | none =>
            have e : rowB regs mems ws (.tuple (.str k :: r)) = 0 := by
              unfold rowB
              exact if_neg (by rw [hl]; intro z; cases z)
            exact ⟨rfl, _, rfl, iteN (fun z => by cases z) (z0 e s0)⟩
          | some m =>
            by_cases hm : m = r.length + 1
            · subst hm
              refine ⟨rfl, _, rfl, iteNS (by
                show V.int ((r.length + 1 : Nat) : Int) = V.int (((V.str k :: xs).length : Nat) : Int)
                rw [List.length_cons, lda]) ?_⟩
              have hrow : rowB regs mems ws (.tuple (.str k :: r)) = (if k = "lit" then litB r else if k = "reg" then regW regs r
                  else if ((partsD k (.str k :: r)).all fun p => isI p 0 (ws.length : Nat)) = true then
                    (if k = "look" then lookB mems ws r else fitB k r ((partsD k (.str k :: r)).map fun p => ws.getD (natD p) 0)) else 0) := if_pos hl
              refine ⟨_, rfl, _, _, _, _, rfl, rfl, sb, atI_nat (j := 0) rfl, ?_⟩
              refine ⟨_, rfl, rfl, _, rfl, ?_⟩
              by_cases hlit : k = "lit"
              · subst hlit
                obtain ⟨v0, w0, rfl⟩ := len2 (l := r) (by have : some 3 = some (r.length + 1) := hl; have := Option.some.inj this; omega)
                rw [if_pos rfl] at hrow
                rw [sT]
                refine iteT ?_
                cases da with
                | cons dv da =>
                cases da with
                | cons dw da =>
                cases da
                refine ⟨_, rfl, _, _, _, _, rfl, rfl, sb, atI_nat (j := 2) rfl, _, w0, rfl, dw, _, rfl, ite2 (fun b1 => ?_) (fun b1 => ?_)⟩
                · obtain ⟨i, rfl, i0, i1⟩ := isI_iff.mp b1
                  cases dw
                  obtain ⟨nn, rfl⟩ : ∃ n : Nat, i = ((n : Nat) : Int) := ⟨i.toNat, by omega⟩
                  have el : litB [v0, .int ((nn : Nat) : Int)] = if isI v0 0 (2 ^ nn - 1 + 1) = true then nn else 0 := by
                    show (if (isI (.int ((nn : Nat) : Int)) 1 33 && isI v0 0 (2 ^ ((nn : Nat) : Int).toNat)) = true then ((nn : Nat) : Int).toNat else 0) = _
                    rw [b1, Bool.true_and, Int.toNat_natCast, Int.sub_add_cancel]
                  rw [el] at hrow
                  refine ⟨_, rfl, _, _, _, _, rfl, rfl, sb, atI_nat (j := 1) rfl, _, rfl, _, _, _, _, rfl, rfl, sb, atI_nat (j := 2) rfl, nn, rfl, by omega, _, _, rfl, rfl, _, v0, _, rfl, dv, _, rfl, ite2 (fun b2 => ?_) (fun b2 => ?_)⟩
                  · rw [if_pos b2] at hrow
                    have := q H s0
                    rw [hrow] at this
                    exact ⟨_, rfl, _, _, _, _, rfl, rfl, sb, atI_nat (j := 2) rfl, this⟩
                  · rw [if_neg b2] at hrow
                    exact z0 hrow s0
                · refine z0 (hrow.trans ?_) s0
                  cases w0 with
                  | int i =>
                    show (if (isI (.int i) 1 33 && _) = true then _ else 0) = 0
                    rw [Bool.eq_false_iff.mpr b1, Bool.false_and]
                    rfl
                  | _ => rfl
              rw [if_neg hlit] at hrow
              rw [sF hlit]
              refine iteF ⟨_, rfl, rfl, _, rfl, ?_⟩
              obtain ⟨ra, ma, rest, rvs, mvs, h1, h2, h3, h4, h5⟩ := C.ex
              have lrv : rvs.length = regs.length := by
                have := dps_len h3
                rw [List.length_map] at this
                exact this
              have lmv : mvs.length = mems.length := by
                have := dps_len h5
                rw [List.length_map] at this
                exact this
              have fin : ∀ {H' : Hp} {z : Nat}, Same H H' → KnownAt regs mems ws (.str k :: r) z → rowB regs mems ws (.tuple (.str k :: r)) = z → ∀ Q2 : VK, Q2 = Q → CH K H' cA regs mems ∧ H' wl = some (.lst (ws.map iV)) ∧ Dp K H' (.ref b) (.tuple (.str k :: r)) ∧ noLs (.str k :: r) = true ∧ KnownAt regs mems ws (.str k :: r) z ∧ ∀ H2, Same H' H2 → Q (iV z) H2 := fun {H' z} sm kn e _ _ => ⟨C.same sm, sm _ _ hw, dp_stay (same_tup sm) _ _ hd hnn, hnn, kn, fun H2 s2 => by rw [← e]; exact q H2 (sm.trans s2)⟩
              by_cases hreg : k = "reg"
              · subst hreg
                obtain ⟨i0, rfl⟩ := len1 (l := r) (by have : some 2 = some (r.length + 1) := hl; have := Option.some.inj this; omega)
                rw [if_pos rfl] at hrow
                rw [sT]
                refine iteT ?_
                cases da with
                | cons di da =>
                cases da
                refine ⟨_, rfl, _, _, _, _, rfl, rfl, sb, atI_nat (j := 1) rfl, _, rfl, _, _, _, _, rfl, rfl, h1, atI_nat (j := 0) rfl, _, _, rfl, .inr h2, _, i0, _, rfl, di, _, rfl, ite2 (fun b1 => ?_) (fun b1 => ?_)⟩
                · obtain ⟨i, rfl, i1, i2⟩ := isI_iff.mp b1
                  obtain ⟨nn, rfl⟩ : ∃ n : Nat, i = ((n : Nat) : Int) := ⟨i.toNat, by omega⟩
                  obtain ⟨p, ep⟩ : ∃ p, regs[nn]? = some p := ⟨_, List.getElem?_eq_getElem (by omega)⟩
                  have er : regW regs [.int ((nn : Nat) : Int)] = p.1 := by
                    show (if (0 : Int) ≤ ((nn : Nat) : Int) then _ else 0) = _
                    rw [if_pos i1, Int.toNat_natCast, ep]
                    rfl
                  obtain ⟨f1, f2, f3, f4, f5, f6⟩ := fin s0 (.reg ep) (hrow.trans er) _ rfl
                  exact ⟨_, rfl, _, rfl, _, rfl, cA, wl, _, regs, mems, ws, _, _, rfl, f1, f2, f3, f4, f5, f6⟩
                · refine z0 (hrow.trans ?_) s0
                  cases i0 with
                  | int i =>
                    show (if (0 : Int) ≤ i then ((regs[i.toNat]?).map Prod.fst).getD 0 else 0) = 0
                    by_cases hi : 0 ≤ i
                    · rw [if_pos hi, List.getElem?_eq_none]
                      · rfl
                      · have : ¬ i < ((rvs.length : Nat) : Int) := fun z => b1 (isI_iff.mpr ⟨i, rfl, hi, z⟩)
                        omega
                    · rw [if_neg hi]
                  | _ => rfl
              rw [if_neg hreg] at hrow
              rw [sF hreg]
              refine iteF ?_
              have hkp : k ∈ kindsP := ((kinds_of hl).resolve_left hlit).resolve_left hreg
              obtain ⟨t, pt1, pt2⟩ := PT k hkp
              have pl := partIx_len k
              obtain ⟨ys, yl, yg, yd⟩ := dps_pick (.cons (.str k) da) (partIx k) (fun i hi => part_lt k hkp _ hl i hi)
              have hpd : partsD k (.str k :: r) = (partIx k).map fun i => (PyData.str k :: r).getD i .none := rfl
              rw [← hpd] at yd
              refine ⟨fun σ H' => σ = [some (.ref cA), some (.ref wl), some (.ref b), some (.str k), none] ∧ Same H H' ∧ ((partsD k (.str k :: r)).all fun p => isI p 0 (ws.length : Nat)) = true, ?_, ?_⟩
              · refine ⟨_, rfl, b, t, V.str k :: xs, ys, k, partIx k, rfl, sb, rfl, pt1, pt2, by omega, yl, yg, fun p np => ⟨p, rfl, ⟨_, SqL.of upd_same⟩, fun D nD => ?_⟩⟩
                have pD : p ≠ D := ne_of_none upd_same nD
                have wp : (upd H p (.lst ys)) wl = some (.lst (ws.map iV)) := by
                  rw [upd_ne (ne_of_none hw np)]
                  exact hw
                have ylp : ys.length = (partsD k (.str k :: r)).length := dps_len yd
                refine lc_list (xs := ys) (fun j H' => H' = upd (upd H p (.lst ys)) D (.lst ((((partsD k (.str k :: r)).take j).map fun p => isI p 0 (ws.length : Nat)).map V.bl))) rfl (fun j H' _ h => ?_) (fun j x H' hx h => ?_) (fun H' h => ?_)
                · subst h
                  exact SqL.of (by rw [upd_ne pD]; exact upd_same)
                · subst h
                  obtain ⟨dj, hdj, dx⟩ := dps_get yd hx
                  have nlj : noL dj = true := by
                    have h1 : noLs (partsD k (.str k :: r)) = true := by
                      have h2 : ∀ is : List Nat, noLs (is.map fun i => (PyData.str k :: r).getD i .none) = true := by
                        intro is
                        induction is with
                        | nil => rfl
                        | cons i is ih =>
                          show (noL ((PyData.str k :: r).getD i .none) && noLs (is.map fun i => (PyData.str k :: r).getD i .none)) = true
                          rw [ih, Bool.and_true, List.getD_eq_getElem?_getD]
                          cases e : (PyData.str k :: r)[i]? with
                          | none => rfl
                          | some dd => exact (gd_ok n dd (gd_mem hg (List.mem_of_getElem? e))).1
                      exact h2 _
                    have h3 : ∀ L : List PyData, noLs L = true → ∀ d ∈ L, noL d = true := by
                      intro L
                      induction L with
                      | nil => intro _ d hd; cases hd
                      | cons a L ih =>
                        intro h d hd
                        have h' := Bool.and_eq_true_iff.mp (show (noL a && noLs L) = true from h)
                        rcases List.mem_cons.mp hd with rfl | hd
                        · exact h'.1
                        · exact ih h'.2 d hd
                    exact h3 _ h1 dj (List.mem_of_getElem? hdj)
                  have sm : Same H (upd (upd H p (.lst ys)) D (.lst ((((partsD k (.str k :: r)).take j).map fun p => isI p 0 (ws.length : Nat)).map V.bl))) := (Same.up np).trans (Same.up nD)
                  refine ⟨rfl, _, rfl, _, rfl, wl, _, rfl, .inl (SqL.of (by rw [upd_ne (ne_of_none wp nD)]; exact wp)), x, dj, _, rfl, dp_stay (same_tup sm) _ _ dx nlj, _, upd_same, ?_, ?_⟩
                  · rw [List.length_map, List.length_map]
                    refine Nat.lt_of_le_of_lt (List.length_take_le' _ _) ?_
                    rw [← ylp, yl, sizeLine_eq]
                    omega
                  · rw [upd_upd, List.take_add_one, hdj, List.map_append, List.map_append, List.length_map]
                    rfl
                · subst h
                  refine ⟨D, _, rfl, SqL.of upd_same, _, rfl, ?_⟩
                  rw [ylp, List.take_length]
                  have sm : Same H (upd (upd H p (.lst ys)) D (.lst (((partsD k (.str k :: r)).map fun p => isI p 0 (ws.length : Nat)).map V.bl))) := (Same.up np).trans (Same.up nD)
                  have ea : (((partsD k (.str k :: r)).map fun p => isI p 0 (ws.length : Nat)).all id) = ((partsD k (.str k :: r)).all fun p => isI p 0 (ws.length : Nat)) := by
                    rw [List.all_map]
                    rfl
                  rw [ea]
                  cases ha : ((partsD k (.str k :: r)).all fun p => isI p 0 (ws.length : Nat)) with
                  | true => exact iteF ⟨rfl, sm, rfl⟩
                  | false =>
                    rw [ha] at hrow
                    exact iteT (z0 hrow sm)
              rintro σ H3 ⟨rfl, s3, hall⟩
              rw [if_pos hall] at hrow
              obtain ⟨ns, ks, en1, en2, en3, en4⟩ := all_nat ws _ hall
              refine ⟨fun σ H' => σ = [some (.ref cA), some (.ref wl), some (.ref b), some (.str k), none] ∧ Same H H' ∧ (k = "look" → ∃ (m : Nat) (p : Nat × Nat) (a x : Nat), r = [iD m, iD a] ∧ mems[m]? = some p ∧ ws[a]? = some p.1), ?_, ?_⟩
              · refine ⟨_, rfl, rfl, _, rfl, ?_⟩
                by_cases hlk : k = "look"
                · subst hlk
                  rw [sT]
                  refine iteT ?_
                  obtain ⟨m0, a0, rfl⟩ := len2 (l := r) (by have : some 3 = some (r.length + 1) := hl; have := Option.some.inj this; omega)
                  cases da with
                  | cons dm da =>
                  cases da with
                  | cons da0 da =>
                  cases da
                  have nlm : noL m0 = true := (Bool.and_eq_true_iff.mp (show (noL m0 && noLs [a0]) = true from (Bool.and_eq_true_iff.mp (show (true && (noL m0 && noLs [a0])) = true from hnn)).2)).1
                  have ep : partsD "look" [.str "look", m0, a0] = [a0] := rfl
                  rw [ep] at en1
                  obtain ⟨a, rfl, ea0⟩ : ∃ a, ns = [a] ∧ a0 = iD a := by
                    match ns, en1 with
                    | [a], h => exact ⟨a, rfl, List.head_eq_of_cons_eq h⟩
                  subst ea0
                  obtain ⟨x, rfl⟩ := len1 (l := ks) en2
                  have eax : ws[a]? = some x := en3 0 a rfl
                  cases da0
                  rw [if_pos rfl] at hrow
                  have sb3 := same_tup s3 _ _ sb
                  refine ⟨_, rfl, _, _, _, _, rfl, rfl, sb3, atI_nat (j := 1) rfl, _, rfl, _, _, _, _, rfl, rfl, same_tup s3 _ _ h1, atI_nat (j := 1) rfl, _, _, rfl, .inr (same_tup s3 _ _ h4), _, m0, _, rfl, dp_stay (same_tup s3) _ _ dm nlm, _, rfl, ?_⟩
                  cases hi : isI m0 0 (mvs.length : Nat) with
                  | false =>
                    refine iteT (z0 (hrow.trans ?_) s3)
                    cases m0 with
                    | int i =>
                      show (if (0 : Int) ≤ i ∧ (0 : Int) ≤ ((a : Nat) : Int) then _ else 0) = 0
                      by_cases h0 : (0 : Int) ≤ i
                      · rw [if_pos ⟨h0, by omega⟩, List.getElem?_eq_none (l := mems)]
                        have : ¬ i < ((mvs.length : Nat) : Int) := fun z => by
                          rw [isI_iff.mpr ⟨i, rfl, h0, z⟩] at hi
                          cases hi
                        omega
                      · rw [if_neg (fun z => h0 z.1)]
                    | _ => rfl
                  | true =>
                    obtain ⟨i, rfl, i1, i2⟩ := isI_iff.mp hi
                    obtain ⟨mm, rfl⟩ : ∃ n : Nat, i = ((n : Nat) : Int) := ⟨i.toNat, by omega⟩
                    obtain ⟨p, epm⟩ : ∃ p, mems[mm]? = some p := ⟨_, List.getElem?_eq_getElem (by omega)⟩
                    cases dm
                    obtain ⟨b2, hb1, hb2⟩ := pr_at h5 epm
                    have elook : lookB mems ws [iD mm, iD a] = if x = p.1 then p.2 else 0 := by
                      show (if (0 : Int) ≤ ((mm : Nat) : Int) ∧ (0 : Int) ≤ ((a : Nat) : Int) then _ else 0) = _
                      rw [Int.toNat_natCast, Int.toNat_natCast, epm, eax]
                      exact if_pos ⟨by omega, by omega⟩
                    rw [elook] at hrow
                    refine iteF ?_
                    refine ⟨_, rfl, _, rfl, _, _, _, _, rfl, rfl, sb3, atI_nat (j := 2) rfl, wl, _, _, _, rfl, rfl, SqL.of (s3 _ _ hw), atI_nat (int_at eax), _, rfl, _, _, _, _, rfl, rfl, same_tup s3 _ _ h1, atI_nat (j := 1) rfl, _, rfl, _, _, _, _, rfl, rfl, sb3, atI_nat (j := 1) rfl, _, _, _, _, rfl, rfl, same_tup s3 _ _ h4, atI_nat hb1, _, _, _, _, rfl, rfl, same_tup s3 _ _ hb2, atI_nat (j := 0) rfl, rfl, _, rfl, ?_⟩
                    by_cases hx : x = p.1
                    · refine iteNS (by rw [hx]) ⟨rfl, s3, fun _ => ⟨mm, p, a, x, rfl, epm, by rw [eax, hx]⟩⟩
                    · rw [if_neg hx] at hrow
                      exact iteN (fun z => hx (Int.ofNat.inj (V.int.inj z))) (z0 hrow s3)
                · rw [sF hlk]
                  exact iteF ⟨rfl, s3, fun e => absurd e hlk⟩
              rintro σ H4 ⟨rfl, s4, hlook⟩
              have lenp : ns.length = (partIx k).length := by
                have := congrArg List.length en1
                rw [List.length_map] at this
                rw [← this, hpd, List.length_map]
              have known : (k = "wide" → ∃ a w, r = [a, .int w]) → (k = "part" → ∃ a lo hi, r = [a, .int lo, .int hi]) → ∃ z, KnownAt regs mems ws (.str k :: r) z ∧ rowB regs mems ws (.tuple (.str k :: r)) = z := fun hwd hpt => by
                by_cases hlk : k = "look"
                · obtain ⟨m, p, a, x, er, em, ea⟩ := hlook hlk
                  subst hlk er
                  refine ⟨_, .look em, ?_⟩
                  rw [if_pos rfl] at hrow
                  rw [hrow]
                  show (if (0 : Int) ≤ ((m : Nat) : Int) ∧ (0 : Int) ≤ ((a : Nat) : Int) then _ else 0) = _
                  rw [if_pos ⟨by omega, by omega⟩, Int.toNat_natCast, Int.toNat_natCast, em, ea]
                  exact if_pos rfl
                · obtain ⟨f1, f2⟩ := fit_of hkp hl hlk (ks := ks) (by rw [en2, lenp]) (fun d hd => gd_shaped (gd_mem hg (List.mem_cons_of_mem _ hd)) (by omega)) hwd hpt
                  refine ⟨_, .fit f1 f2 lenp (fun j i hj => ?_) en2 en3, ?_⟩
                  · have h1 : (partsD k (.str k :: r))[j]? = some ((PyData.str k :: r).getD i .none) := by
                      rw [hpd, List.getElem?_map, hj]
                      rfl
                    rw [en1, List.getElem?_map] at h1
                    have hi : i < (PyData.str k :: r).length := part_lt k hkp _ hl i (List.mem_of_getElem? hj)
                    rw [h1, List.getD_eq_getElem?_getD, List.getElem?_eq_getElem hi]
                    rfl
                  · rw [if_neg hlk, en4] at hrow
                    exact hrow
              have line2 : 2 ≤ sizeLine := by
                rw [sizeLine_eq]
                decide
              refine ⟨_, rfl, line2, fun t nt => ⟨t, _, rfl, .inr (SqT.of upd_same), rfl, rfl, _, rfl, ?_⟩⟩
              have s5 : Same H (upd H4 t (.tup [.str "wide", .str "part"])) := s4.trans (Same.up nt)
              by_cases hwp : k = "wide" ∨ k = "part"
              · have hin : inV (.str k) [.str "wide", .str "part"] = true := by
                  rcases hwp with h | h <;> subst h <;> decide +kernel
                have hlk : k ≠ "look" := by
                  rcases hwp with h | h <;> subst h <;> decide +kernel
                rw [if_neg hlk] at hrow
                rw [show (if false = true then !inV (V.str k) [.str "wide", .str "part"] else inV (V.str k) [.str "wide", .str "part"]) = true from hin]
                refine iteT ?_
                -- what stands behind the row's first part
                have hwhole : (∃ x0 x1 d0 d1, xs = [x0, x1] ∧ r = [d0, d1] ∧ k = "wide") ∨ (∃ x0 x1 x2 d0 d1 d2, xs = [x0, x1, x2] ∧ r = [d0, d1, d2] ∧ k = "part") := by
                  rcases hwp with h | h
                  · subst h
                    have hr2 : r.length = 2 := by have : some 3 = some (r.length + 1) := hl; have := Option.some.inj this; omega
                    obtain ⟨d0, d1, e⟩ := len2 hr2
                    obtain ⟨x0, x1, e'⟩ := len2 (lda.trans hr2)
                    exact .inl ⟨x0, x1, d0, d1, e', e, rfl⟩
                  · subst h
                    have hr2 : r.length = 3 := by have : some 4 = some (r.length + 1) := hl; have := Option.some.inj this; omega
                    obtain ⟨d0, d1, d2, e⟩ := len3 hr2
                    obtain ⟨x0, x1, x2, e'⟩ := len3 (lda.trans hr2)
                    exact .inr ⟨x0, x1, x2, d0, d1, d2, e', e, rfl⟩
                have hcut : ¬ (HT.sIx (V.str k :: xs).length 0 (some 2) = 0 ∧ HT.sIx (V.str k :: xs).length (V.str k :: xs).length none = (V.str k :: xs).length) ∧ cutV (V.str k :: xs) (some 2) none = xs.drop 1 := by
                  rcases hwhole with ⟨x0, x1, d0, d1, e, _, _⟩ | ⟨x0, x1, x2, d0, d1, d2, e, _, _⟩
                  · subst e
                    exact ⟨show ¬ (HT.sIx 3 0 (some 2) = 0 ∧ HT.sIx 3 3 none = 3) by decide, rfl⟩
                  · subst e
                    exact ⟨show ¬ (HT.sIx 4 0 (some 2) = 0 ∧ HT.sIx 4 4 none = 4) by decide, rfl⟩
                have hdr : DpAll K H (xs.drop 1) (r.drop 1) := by
                  cases da with
                  | nil => exact .nil
                  | cons _ a => exact a
                have hdn : noLs (r.drop 1) = true := by
                  have h1 : noLs r = true := (Bool.and_eq_true_iff.mp (show (true && noLs r) = true from hnn)).2
                  cases r with
                  | nil => rfl
                  | cons d r => exact (Bool.and_eq_true_iff.mp (show (noL d && noLs r) = true from h1)).2
                have hdl : (xs.drop 1).length ≤ 2 := by
                  rcases hwhole with ⟨x0, x1, d0, d1, e, _, _⟩ | ⟨x0, x1, x2, d0, d1, d2, e, _, _⟩
                  · rw [e]
                    show 1 ≤ 2
                    decide
                  · rw [e]
                    show 2 ≤ 2
                    decide
                refine ⟨_, rfl, _, rfl, b, _, rfl, same_tup s5 _ _ sb, hcut.1, fun p np => ?_⟩
                rw [hcut.2]
                refine ⟨p, rfl, ⟨_, SqT.of upd_same⟩, fun D nD => ?_⟩
                have pD : p ≠ D := ne_of_none upd_same nD
                have s6 : ∀ {o : HO}, Same H (upd (upd (upd H4 t (.tup [.str "wide", .str "part"])) p (.tup (xs.drop 1))) D o) := fun {o} => (s5.trans (Same.up np)).trans (Same.up nD)
                refine lc_tup (xs := xs.drop 1) (fun j H' => H' = upd (upd (upd H4 t (.tup [.str "wide", .str "part"])) p (.tup (xs.drop 1))) D (.lst ((((r.drop 1).take j).map fun d => decide (tyD d = "int")).map V.bl))) rfl (fun j H' _ h => ?_) (fun j x H' hx h => ?_) (fun H' h => ?_)
                · subst h
                  exact SqT.of (by rw [upd_ne pD]; exact upd_same)
                · subst h
                  obtain ⟨dj, hdj, dx⟩ := dps_get (dps_stay (same_tup s6) _ _ hdr hdn) hx
                  refine ⟨rfl, _, rfl, _, _, rfl, ty_of dx, _, _, rfl, rfl, _, upd_same, ?_, ?_⟩
                  · rw [List.length_map, List.length_map]
                    refine Nat.lt_of_le_of_lt (List.length_take_le' _ _) ?_
                    rw [← dps_len hdr, sizeLine_eq]
                    omega
                  · rw [upd_upd, List.take_add_one, hdj, List.map_append, List.map_append]
                    rfl
                · subst h
                  refine ⟨D, _, rfl, SqL.of upd_same, _, rfl, ?_⟩
                  rw [show (xs.drop 1).length = (r.drop 1).length from dps_len hdr, List.take_length]
                  have ea : (((r.drop 1).map fun d => decide (tyD d = "int")).all id) = ((r.drop 1).all fun d => decide (tyD d = "int")) := by
                    rw [List.all_map]
                    rfl
                  rw [ea]
                  cases ha : ((r.drop 1).all fun d => decide (tyD d = "int")) with
                  | true =>
                    have ai : ∀ d ∈ r.drop 1, ∃ i, d = .int i := fun d hd => ty_int (of_decide_eq_true (List.all_eq_true.mp ha d hd))
                    obtain ⟨z, kz, ez⟩ := known (fun e => by
                      rcases hwhole with ⟨x0, x1, d0, d1, _, er, _⟩ | ⟨x0, x1, x2, d0, d1, d2, _, _, e2⟩
                      · subst er
                        obtain ⟨i, rfl⟩ := ai d1 (List.mem_cons_self ..)
                        exact ⟨d0, i, rfl⟩
                      · rw [e] at e2
                        exact absurd e2 (by decide +kernel)) (fun e => by
                      rcases hwhole with ⟨x0, x1, d0, d1, _, _, e2⟩ | ⟨x0, x1, x2, d0, d1, d2, _, er, _⟩
                      · rw [e] at e2
                        exact absurd e2 (by decide +kernel)
                      · subst er
                        obtain ⟨i, rfl⟩ := ai d1 (List.mem_cons_self ..)
                        obtain ⟨i2, rfl⟩ := ai d2 (List.mem_cons_of_mem _ (List.mem_cons_self ..))
                        exact ⟨d0, i, i2, rfl⟩)
                    obtain ⟨f1, f2, f3, f4, f5, f6⟩ := fin (s6 (o := .lst (((r.drop 1).map fun d => decide (tyD d = "int")).map V.bl))) kz ez _ rfl
                    exact iteF ⟨_, rfl, _, rfl, _, rfl, cA, wl, _, regs, mems, ws, _, _, rfl, f1, f2, f3, f4, f5, f6⟩
                  | false =>
                    refine iteT (z0 (hrow.trans ?_) s6)
                    rcases hwhole with ⟨x0, x1, d0, d1, _, er, ek⟩ | ⟨x0, x1, x2, d0, d1, d2, _, er, ek⟩
                    · subst er ek
                      cases d1 with
                      | int i => cases ha
                      | _ => rfl
                    · subst er ek
                      cases d1 with
                      | int i =>
                        cases d2 with
                        | int i2 => cases ha
                        | _ => rfl
                      | _ => rfl
              · have hin : inV (.str k) [.str "wide", .str "part"] = false := by
                  have h1 : k ≠ "wide" := fun e => hwp (.inl e)
                  have h2 : k ≠ "part" := fun e => hwp (.inr e)
                  have h3 : ∀ k ∈ kindsP, k ≠ "wide" → k ≠ "part" → inV (.str k) [.str "wide", .str "part"] = false := by decide +kernel
                  exact h3 k hkp h1 h2
                obtain ⟨z, kz, ez⟩ := known (fun e => absurd (.inl e) hwp) (fun e => absurd (.inr e) hwp)
                obtain ⟨f1, f2, f3, f4, f5, f6⟩ := fin s5 kz ez _ rfl
                rw [show (if false = true then !inV (V.str k) [.str "wide", .str "part"] else inV (V.str k) [.str "wide", .str "part"]) = false from hin]
                exact iteF ⟨_, rfl, _, rfl, _, rfl, cA, wl, _, regs, mems, ws, _, _, rfl, f1, f2, f3, f4, f5, f6⟩
            · have e : rowB regs mems ws (.tuple (.str k :: r)) = 0 := by
                unfold rowB
                exact if_neg (by rw [hl]; intro z; exact hm (Option.some.inj z))
              refine ⟨rfl, _, rfl, iteN (fun z => ?_) (z0 e s0)⟩
              have := V.int.inj z
              rw [List.length_cons] at this
              omega
        | _ => exact iteN (fun e => by simp [tyD] at e) (z0 rfl s0)
    | _ => exact iteN (fun e => by simp [tyD] at e) (z0 rfl s0)
end
end C1

/-! are_nexts, is_store, are_ends. -/
namespace C1
open PySem PySem.Spec PyProof.Rows L2 SX
theorem scAreNexts : FnScope ["registers", "widths", "nexts", "width", "_", "row"] ["registers", "widths", "nexts"] (defScope sAreNexts) := ⟨rfl, rfl, rfl, by decide +kernel, rfl, by decide +kernel, by decide +kernel⟩
abbrev NS : List Str := ["memories", "widths", "thing", "bits", "width", "row"]
theorem scIsStore : FnScope NS ["memories", "widths", "thing"] (defScope sIsStore) := ⟨rfl, rfl, rfl, by decide +kernel, rfl, by decide +kernel, by decide +kernel⟩
abbrev NE : List Str := ["memories", "widths", "stores", "outs", "store", "row"]
theorem scAreEnds : FnScope NE ["memories", "widths", "stores", "outs"] (defScope sAreEnds) := ⟨rfl, rfl, rfl, by decide +kernel, rfl, by decide +kernel, by decide +kernel⟩
def nextsB (ws : List Nat) : List (Nat × Nat) → List PyData → Bool
  | [], [] => true
  | p :: ps, d :: ds => isI d 0 (ws.length : Nat) && (decide (ws.getD (natD d) 0 = p.1) && nextsB ws ps ds)
  | _, _ => false
theorem nextsB_len {ws : List Nat} : ∀ {ps : List (Nat × Nat)} {ds : List PyData}, ds.length ≠ ps.length → nextsB ws ps ds = false
  | [], [], h => absurd rfl h
  | [], _ :: _, _ => rfl
  | _ :: _, [], _ => rfl
  | p :: ps, d :: ds, h => by
    show (_ && (_ && nextsB ws ps ds)) = false
    rw [nextsB_len (ps := ps) (ds := ds) (fun e => h (by rw [List.length_cons, List.length_cons, e])), Bool.and_false, Bool.and_false]
theorem noLs_mem : ∀ {L : List PyData}, noLs L = true → ∀ d ∈ L, noL d = true
  | [], _, d, hd => by cases hd
  | a :: L, h, d, hd => by
    have h' := Bool.and_eq_true_iff.mp (show (noL a && noLs L) = true from h)
    rcases List.mem_cons.mp hd with rfl | hd
    · exact h'.1
    · exact noLs_mem h'.2 d hd
def nextOk (ws : List Nat) (p : Nat × Nat) (d : PyData) : Bool := isI d 0 (ws.length : Nat) && decide (ws.getD (natD d) 0 = p.1)
theorem nextsB_drop {ws : List Nat} : ∀ {ps : List (Nat × Nat)} {ds : List PyData} {i : Nat} {p : Nat × Nat} {d : PyData}, ps[i]? = some p → ds[i]? = some d → nextsB ws (ps.drop i) (ds.drop i) = (nextOk ws p d && nextsB ws (ps.drop (i + 1)) (ds.drop (i + 1)))
  | p :: ps, d :: ds, 0, _, _, h1, h2 => by
    cases h1
    cases h2
    show (_ && (_ && _)) = _
    unfold nextOk
    rw [Bool.and_assoc]
    rfl
  | p :: ps, d :: ds, i + 1, _, _, h1, h2 => nextsB_drop (ps := ps) (ds := ds) (i := i) h1 h2
def storeB (mems : List (Nat × Nat)) (ws : List Nat) (d : PyData) : Bool := match d with
  | .tuple [m, a, v, t] => isI m 0 (mems.length : Nat) && (([a, v, t].all fun r => isI r 0 (ws.length : Nat)) && decide ([a, v, t].map (fun r => ws.getD (natD r) 0) = [((mems[natD m]?).getD (0, 0)).1, ((mems[natD m]?).getD (0, 0)).2, 1]))
  | _ => false
section
variable {P : Program} {w : World} {K : PySem.W.Frag} {mg : Str → Option Value} {base : Heap} {tw tb : Tok}
def spAreNexts (K : PySem.W.Frag) : Sp := fun vs H Q _ => ∃ (r wl nA : Addr) (regs : List (Nat × Nat)) (ws : List Nat) (rvs nvs : List V) (nds : List PyData), vs = [.ref r, .ref wl, .ref nA] ∧ SqT K H r rvs ∧ DpAll K H rvs (regs.map pr) ∧ H wl = some (.lst (ws.map iV)) ∧ SqT K H nA nvs ∧ DpAll K H nvs nds ∧ noLs nds = true ∧ ∀ H', Same H H' → Q (.bl (nextsB ws regs nds)) H'
theorem ok_areNexts {f fB : Addr} {fd fdB : FuncData} (F : Fun K "are_nexts" "are_nexts" sAreNexts f fd) (G : Gp mg tw tb) (GB : FnOk P w K mg base CX0 1 fB fdB ["thing", "limit"] (spIsBelow K)) (kB : PySem.W.keepIn K (.ref fB) = true) (bB : Binds K fdB ["thing", "limit"] []) (gB : mg "is_below" = some (.ref fB)) :
    FnOk P w K mg base CX0 2 f fd ["registers", "widths", "nexts"] (spAreNexts K) := by
  refine F.ok scAreNexts (fun vs H Q E h => ?_) (fun cdv A outer s H vs Q E hr h => ?_)
  · obtain ⟨r, wl, nA, regs, ws, rvs, nvs, nds, rfl, _⟩ := h
    rfl
  · obtain ⟨r, wl, nA, regs, ws, rvs, nvs, nds, rfl, hr0, dr, hw, hn0, dn, nn, q⟩ := h
    have nd := scAreNexts.nd
    have hr1 := hr
    have lrv : rvs.length = regs.length := by
      have := dps_len dr
      rw [List.length_map] at this
      exact this
    have lnv := dps_len dn
    refine ⟨_, (pss_cons (ps_if (pt_cmpR op_ne (pe_callB call_len_seq (by rfl) G.len PySem.boot_len (pa_cons (pv 2) pa_nil)) (pe_callB call_len_seq (by rfl) G.len PySem.boot_len (pa_cons (pv 0) pa_nil)) (nomark _)) (pss_one (ps_ret (pe_bl))) pss_nil)
      (pss_cons (ps_for PassesOwn.never rfl (RZ.pi_zipA (by rfl) G.zip (pa_cons (pv 0) (pa_cons (pv 2) pa_nil))) (pg_tup (by rfl) (pgs_cons (pg_tup (by rfl) (pgs_cons (pg_name (i := 3) nd rfl (.inl rfl)) (pgs_cons (pg_name (i := 4) nd rfl (.inl rfl)) pgs_nil))) (pgs_cons (pg_name (i := 5) nd rfl (.inl rfl)) pgs_nil))) (pss_one (ps_if (PW.pt (pw_or (pt_not (pt_val (pe_call GB hr1 (by rfl) gB kB bB .nil pass0 (pa_cons (pv 5) (pa_cons (pe_callB call_len_seq (by rfl) G.len PySem.boot_len (pa_cons (pv 1) pa_nil)) pa_nil))))) (pw_or1 (pt_cmpR op_ne (pe_ix ix_list (pv 1) (pv 5) (fun _ _ => rfl)) (pv 3) (nomark _))))) (pss_one (ps_ret (pe_bl))) pss_nil)))
      (pss_one (ps_ret (pe_bl))))), ?_⟩
    refine ⟨_, rfl, _, _, rfl, .inr hn0, _, rfl, _, _, rfl, .inr hr0, rfl, _, rfl, ?_⟩
    by_cases hl : nvs.length = rvs.length
    · refine iteNS (by rw [hl]) ?_
      refine ⟨_, rfl, _, rfl, r, nA, rvs, nvs, rfl, .inr ⟨hr0, hn0, RZ.for_zipT hl.symm (fun i σ H' => ∃ y3 y4 y5 : Option V, σ = [some (.ref r), some (.ref wl), some (.ref nA), y3, y4, y5] ∧ Same H H' ∧ nextsB ws regs nds = nextsB ws (regs.drop i) (nds.drop i)) ⟨_, _, _, rfl, Same.refl H, rfl⟩ (fun i σ H' h => ?_) (fun i x y T σ H' hx hy h nT => ?_) (fun σ H' h => ?_)⟩⟩
      · obtain ⟨_, _, _, _, s1, _⟩ := h
        exact ⟨same_tup s1 _ _ hr0, same_tup s1 _ _ hn0⟩
      · obtain ⟨y3, y4, y5, rfl, s1, e1⟩ := h
        have s2 : Same H (upd H' T (.tup [x, y])) := s1.trans (Same.up nT)
        have hi : i < regs.length := by
          rw [← lrv]
          exact (List.getElem?_eq_some_iff.mp hx).1
        obtain ⟨p, ep⟩ : ∃ p, regs[i]? = some p := ⟨_, List.getElem?_eq_getElem hi⟩
        obtain ⟨b, hb1, hb2⟩ := pr_at dr ep
        have exb : x = .ref b := Option.some.inj (hx.symm.trans hb1)
        subst exb
        obtain ⟨dj, hdj, dx⟩ := dps_get dn hy
        have nlj : noL dj = true := by
          have h3 : ∀ L : List PyData, noLs L = true → ∀ d ∈ L, noL d = true := by
            intro L
            induction L with
            | nil => intro _ d hd; cases hd
            | cons a L ih =>
              intro h d hd
              have h' := Bool.and_eq_true_iff.mp (show (noL a && noLs L) = true from h)
              rcases List.mem_cons.mp hd with rfl | hd
              · exact h'.1
              · exact ih h'.2 d hd
          exact h3 _ nn dj (List.mem_of_getElem? hdj)
        have e2 := nextsB_drop (ws := ws) ep hdj
        refine ⟨T, _, rfl, SqT.of upd_same, rfl, _, _, rfl, b, _, rfl, same_tup s2 _ _ hb2, rfl, _, _, rfl, _, _, rfl, rfl, _, _, rfl, rfl, ?_⟩
        refine ⟨_, rfl, _, rfl, wl, _, rfl, .inl (SqL.of (s2 _ _ hw)), y, dj, _, rfl, dp_stay (same_tup s2) _ _ dx nlj, _, rfl, ?_⟩
        rw [List.length_map]
        cases hb : isI dj 0 (ws.length : Nat) with
        | false =>
          refine iteT ?_
          have ef : nextsB ws regs nds = false := by
            rw [e1, e2]
            unfold nextOk
            rw [hb]
            rfl
          have := q _ s2
          rw [ef] at this
          exact this
        | true =>
          refine iteF ?_
          obtain ⟨ii, rfl, i0, i1⟩ := isI_iff.mp hb
          obtain ⟨nn2, rfl⟩ : ∃ n : Nat, ii = ((n : Nat) : Int) := ⟨ii.toNat, by omega⟩
          cases dx
          obtain ⟨x, ex⟩ : ∃ x, ws[nn2]? = some x := ⟨_, List.getElem?_eq_getElem (by omega)⟩
          have eo : nextOk ws p (.int ((nn2 : Nat) : Int)) = decide (x = p.1) := by
            unfold nextOk
            rw [hb, Bool.true_and]
            show decide (ws.getD ((nn2 : Nat) : Int).toNat 0 = p.1) = _
            rw [Int.toNat_natCast, List.getD_eq_getElem?_getD, ex]
            rfl
          refine ⟨_, rfl, _, rfl, wl, _, _, _, rfl, rfl, SqL.of (s2 _ _ hw), atI_nat (int_at ex), _, rfl, rfl, _, rfl, ?_⟩
          by_cases hx2 : x = p.1
          · refine iteNS (by rw [hx2]) ⟨_, _, _, rfl, s2, ?_⟩
            rw [e1, e2, eo, decide_eq_true hx2, Bool.true_and]
          · refine iteN (fun z => hx2 (Int.ofNat.inj (V.int.inj z))) ?_
            have ef : nextsB ws regs nds = false := by
              rw [e1, e2, eo, decide_eq_false hx2, Bool.false_and]
            have := q _ s2
            rw [ef] at this
            exact this
      · obtain ⟨y3, y4, y5, rfl, s1, e1⟩ := h
        have ef : nextsB ws regs nds = true := by
          rw [e1, lrv, List.drop_length, show regs.length = nds.length by omega, List.drop_length]
          rfl
        have := q _ s1
        rw [ef] at this
        exact this
    · refine iteN (fun z => hl (Int.ofNat.inj (V.int.inj z))) ?_
      have := q _ (Same.refl H)
      rw [nextsB_len (by omega)] at this
      exact this
def spIsStore (K : PySem.W.Frag) : Sp := fun vs H Q _ => ∃ (m wl : Addr) (v : V) (mems : List (Nat × Nat)) (ws : List Nat) (mvs : List V) (d : PyData), vs = [.ref m, .ref wl, v] ∧ SqT K H m mvs ∧ DpAll K H mvs (mems.map pr) ∧ H wl = some (.lst (ws.map iV)) ∧ Dp K H v d ∧ noL d = true ∧ ∀ H', Same H H' → Q (.bl (storeB mems ws d)) H'
theorem ok_isStore {f fB fT : Addr} {fd fdB fdT : FuncData} (F : Fun K "is_store" "is_store" sIsStore f fd) (G : Gp mg tw tb) (GB : FnOk P w K mg base CX0 1 fB fdB ["thing", "limit"] (spIsBelow K)) (kB : PySem.W.keepIn K (.ref fB) = true) (bB : Binds K fdB ["thing", "limit"] []) (gB : mg "is_below" = some (.ref fB))
    (GT : FnOk P w K mg base CX0 1 fT fdT ["thing", "many"] (spIsTuple K)) (kT : PySem.W.keepIn K (.ref fT) = true) (bT : Binds K fdT ["thing", "many"] []) (gT : mg "is_tuple" = some (.ref fT)) :
    FnOk P w K mg base CX0 2 f fd ["memories", "widths", "thing"] (spIsStore K) := by
  refine F.ok scIsStore (fun vs H Q E h => ?_) (fun cdv A outer s H vs Q E hr h => ?_)
  · obtain ⟨m, wl, v, mems, ws, mvs, d, rfl, _⟩ := h
    rfl
  · obtain ⟨m, wl, v, mems, ws, mvs, d, rfl, hm0, dm0, hw, hd, hn, q⟩ := h
    have nd := scIsStore.nd
    have hr1 := hr
    have hu := hr.units
    have lmv : mvs.length = mems.length := by
      have := dps_len dm0
      rw [List.length_map] at this
      exact this
    have qf : storeB mems ws d = false → ∀ {H'}, Same H H' → Q (.bl false) H' := fun e H' sm => by
      have := q H' sm
      rw [e] at this
      exact this
    have line3 : 3 ≤ sizeLine := by
      rw [sizeLine_eq]
      decide
    refine ⟨_, (pss_cons (ps_if (PW.pt (pw_or (pt_not (pt_val (pe_call GT hr1 (by rfl) gT kT bT .nil pass0 (pa_cons (pv 2) (pa_cons (pe_int) pa_nil))))) (pw_or1 (pt_not (pt_val (pe_call GB hr1 (by rfl) gB kB bB .nil pass0 (pa_cons (pe_ix ix_tup (pv 2) (pe_int) (fun _ _ => rfl)) (pa_cons (pe_callB call_len_seq (by rfl) G.len PySem.boot_len (pa_cons (pv 0) pa_nil)) pa_nil)))))))) (pss_one (ps_ret (pe_bl))) pss_nil)
      (C8.pss_cut (ps_if (pt_not (pt_val (pe_callB (cr_all rfl) (by rfl) G.all (by decide +kernel) (pa_cons (pe_lc (own := [("row", 5)]) (g := gName 5) (tt := tYes) (te := tCall (spIsBelow K) [] E0 (tCons (tVar 5) (tCons (tCB (rLen K) (tCons (tVar 1) tNil)) tNil))) rfl nd (pi_tup (pe_slice sl_tup (pv 2) (po_some pe_int) po_none)) (blkOk_by (own := [("row", 5)]) (N := NS) (sc := defScope sIsStore) (by decide +kernel)) (fun _ _ _ _ _ => pg_name (i := 5) nd rfl (.inl rfl)) (fun _ _ _ _ _ => pts_nil) (fun _ _ _ _ _ => by exact (pe_call GB hr1 (by rfl) gB kB bB .nil pass0 (pa_cons (pv 5) (pa_cons (pe_callB call_len_seq (by rfl) G.len PySem.boot_len (pa_cons (pv 1) pa_nil)) pa_nil))))) pa_nil)))) (pss_one (ps_ret (pe_bl))) pss_nil)
      (pss_cons (ps_asg (pe_ix ix_tup (pv 0) (pe_ix ix_tup (pv 2) (pe_int) (fun _ _ => rfl)) (fun _ _ => rfl)) (pg_tup (by rfl) (pgs_cons (pg_name (i := 3) nd rfl (.inl rfl)) (pgs_cons (pg_name (i := 4) nd rfl (.inl rfl)) pgs_nil))))
      (pss_one (ps_ret (pe_cmpR (op_eqD hu) (pe_lc (own := [("row", 5)]) (g := gName 5) (tt := tYes) (te := tOp (rIxL K) (tVar 1) (tVar 5)) rfl nd (pi_tup (pe_slice sl_tup (pv 2) (po_some pe_int) po_none)) (blkOk_by (own := [("row", 5)]) (N := NS) (sc := defScope sIsStore) (by decide +kernel)) (fun _ _ _ _ _ => pg_name (i := 5) nd rfl (.inl rfl)) (fun _ _ _ _ _ => pts_nil) (fun _ _ _ _ _ => by exact (pe_ix ix_list (pv 1) (pv 5) (fun _ _ => rfl)))) (pe_lst (pa_cons (pv 3) (pa_cons (pv 4) (pa_cons (pe_int) pa_nil)))) (nomark _))))))), ?_⟩
    refine ⟨_, rfl, v, d, 4, rfl, hd, _, rfl, ?_⟩
    cases ht : isT d 4 with
    | false =>
      refine iteT (qf ?_ (Same.refl H))
      unfold storeB
      split
      · cases ht
      · rfl
    | true =>
      refine iteF ?_
      obtain ⟨ds, rfl, hl⟩ := isT_iff.mp ht
      match ds, hl with
      | [m0, a0, v0, t0], _ =>
        obtain ⟨b, xs, rfl, sb, da⟩ := dp_tup hd
        have hnn : noLs [m0, a0, v0, t0] = true := hn
        cases da with
        | cons d0 da =>
        rename_i xm xs
        have ldr := dps_len da
        have hst : storeB mems ws (.tuple [m0, a0, v0, t0]) = (isI m0 0 (mems.length : Nat) && (([a0, v0, t0].all fun r => isI r 0 (ws.length : Nat)) && decide ([a0, v0, t0].map (fun r => ws.getD (natD r) 0) = [((mems[natD m0]?).getD (0, 0)).1, ((mems[natD m0]?).getD (0, 0)).2, 1]))) := rfl
        refine ⟨_, rfl, _, _, _, _, rfl, rfl, sb, atI_nat (j := 0) rfl, _, rfl, _, _, rfl, .inr hm0, _, m0, _, rfl, d0, _, rfl, ?_⟩
        rw [lmv]
        cases hi : isI m0 0 (mems.length : Nat) with
        | false =>
          rw [hi, Bool.false_and] at hst
          exact iteT (qf hst (Same.refl H))
        | true =>
          refine iteF ?_
          rw [hi, Bool.true_and] at hst
          have hcut : ¬ (HT.sIx (xm :: xs).length 0 (some 1) = 0 ∧ HT.sIx (xm :: xs).length (xm :: xs).length none = (xm :: xs).length) ∧ cutV (xm :: xs) (some 1) none = xs := by
            obtain ⟨x0, x1, x2, e⟩ := len3 ldr
            subst e
            exact ⟨show ¬ (HT.sIx 4 0 (some 1) = 0 ∧ HT.sIx 4 4 none = 4) by decide, rfl⟩
          have hdn : noLs [a0, v0, t0] = true := (Bool.and_eq_true_iff.mp (show (noL m0 && noLs [a0, v0, t0]) = true from hnn)).2
          refine ⟨fun σ H' => σ = [some (.ref m), some (.ref wl), some (.ref b), none, none, none] ∧ Same H H' ∧ ([a0, v0, t0].all fun r => isI r 0 (ws.length : Nat)) = true, ?_, ?_⟩
          · refine ⟨_, rfl, _, rfl, b, _, rfl, sb, hcut.1, fun p np => ?_⟩
            rw [hcut.2]
            refine ⟨p, rfl, ⟨_, SqT.of upd_same⟩, fun D nD => ?_⟩
            have pD : p ≠ D := ne_of_none upd_same nD
            have s6 : ∀ {o : HO}, Same H (upd (upd H p (.tup xs)) D o) := fun {o} => (Same.up np).trans (Same.up nD)
            refine lc_tup (xs := xs) (fun j H' => H' = upd (upd H p (.tup xs)) D (.lst ((([a0, v0, t0].take j).map fun r => isI r 0 (ws.length : Nat)).map V.bl))) rfl (fun j H' _ h => ?_) (fun j x H' hx h => ?_) (fun H' h => ?_)
            · subst h
              exact SqT.of (by rw [upd_ne pD]; exact upd_same)
            · subst h
              obtain ⟨dj, hdj, dx⟩ := dps_get (dps_stay (same_tup s6) _ _ da hdn) hx
              refine ⟨rfl, _, rfl, _, rfl, wl, _, rfl, .inl (SqL.of (s6 _ _ hw)), x, dj, _, rfl, dx, _, upd_same, ?_, ?_⟩
              · rw [List.length_map, List.length_map]
                refine Nat.lt_of_le_of_lt (List.length_take_le' _ _) ?_
                show 3 < sizeLine
                rw [sizeLine_eq]
                decide
              · rw [upd_upd, List.take_add_one, hdj, List.map_append, List.map_append, List.length_map]
                rfl
            · subst h
              refine ⟨D, _, rfl, SqL.of upd_same, _, rfl, ?_⟩
              rw [ldr, List.take_length]
              have ea : (([a0, v0, t0].map fun r => isI r 0 (ws.length : Nat)).all id) = ([a0, v0, t0].all fun r => isI r 0 (ws.length : Nat)) := by
                rw [List.all_map]
                rfl
              rw [ea]
              cases ha : ([a0, v0, t0].all fun r => isI r 0 (ws.length : Nat)) with
              | true => exact iteF ⟨rfl, s6, rfl⟩
              | false =>
                rw [ha, Bool.false_and] at hst
                exact iteT (qf hst s6)
          rintro σ H3 ⟨rfl, s3, hall⟩
          rw [hall, Bool.true_and] at hst
          obtain ⟨ns, ks, en1, en2, en3, en4⟩ := all_nat ws _ hall
          obtain ⟨i, rfl, i0, i1⟩ := isI_iff.mp hi
          obtain ⟨mm, rfl⟩ : ∃ n : Nat, i = ((n : Nat) : Int) := ⟨i.toNat, by omega⟩
          cases d0
          obtain ⟨p, ep⟩ : ∃ p, mems[mm]? = some p := ⟨_, List.getElem?_eq_getElem (by omega)⟩
          obtain ⟨b2, hb1, hb2⟩ := pr_at dm0 ep
          have em : (mems[natD (.int ((mm : Nat) : Int))]?).getD (0, 0) = p := by
            show (mems[((mm : Nat) : Int).toNat]?).getD (0, 0) = p
            rw [Int.toNat_natCast, ep]
            rfl
          rw [em, en4] at hst
          have sb3 := same_tup s3 _ _ sb
          refine ⟨_, rfl, _, rfl, _, _, _, _, rfl, rfl, sb3, atI_nat (j := 0) rfl, _, _, _, _, rfl, rfl, same_tup s3 _ _ hm0, atI_nat hb1, b2, _, rfl, same_tup s3 _ _ hb2, rfl, _, _, rfl, _, _, rfl, rfl, ?_⟩
          refine ⟨_, rfl, _, rfl, b, _, rfl, sb3, hcut.1, fun p2 np2 => ?_⟩
          rw [hcut.2]
          refine ⟨p2, rfl, ⟨_, SqT.of upd_same⟩, fun D nD => ?_⟩
          have pD : p2 ≠ D := ne_of_none upd_same nD
          have s6 : ∀ {o : HO}, Same H (upd (upd H3 p2 (.tup xs)) D o) := fun {o} => (s3.trans (Same.up np2)).trans (Same.up nD)
          have lns : ns.length = 3 := by
            have := congrArg List.length en1
            rw [List.length_map] at this
            exact this.symm
          refine lc_tup (xs := xs) (fun j H' => H' = upd (upd H3 p2 (.tup xs)) D (.lst ((ks.take j).map iV))) rfl (fun j H' _ h => ?_) (fun j x H' hx h => ?_) (fun H' h => ?_)
          · subst h
            exact SqT.of (by rw [upd_ne pD]; exact upd_same)
          · subst h
            obtain ⟨dj, hdj, dx⟩ := dps_get da hx
            rw [en1, List.getElem?_map] at hdj
            obtain ⟨n, en⟩ : ∃ n, ns[j]? = some n := by
              cases e : ns[j]? with
              | none =>
                rw [e] at hdj
                cases hdj
              | some n => exact ⟨n, rfl⟩
            rw [en] at hdj
            cases hdj
            cases dx
            have hj : j < ns.length := (List.getElem?_eq_some_iff.mp en).1
            obtain ⟨kv, ekv⟩ : ∃ kv, ks[j]? = some kv := ⟨_, List.getElem?_eq_getElem (by omega)⟩
            have e2 := (en3 j n en).trans ekv
            refine ⟨rfl, _, rfl, _, rfl, wl, _, _, _, rfl, rfl, SqL.of (s6 _ _ hw), atI_nat (int_at e2), (ks.take j).map iV, upd_same, by rw [List.length_map]; exact Nat.lt_of_le_of_lt (List.length_take_le _ _) (by rw [sizeLine_eq]; omega), ?_⟩
            rw [upd_upd, List.take_add_one, ekv, List.map_append]
            rfl
          · subst h
            rw [show xs.length = ks.length by rw [ldr, en2, lns]; rfl, List.take_length]
            refine ⟨_, rfl, _, rfl, line3, fun z nz => ?_⟩
            have hz : (upd (upd (upd H3 p2 (.tup xs)) D (.lst (ks.map iV))) z (.lst [iV p.1, iV p.2, .int 1])) D = some (.lst (ks.map iV)) := by
              rw [upd_ne (ne_of_none upd_same nz)]
              exact upd_same
            refine ⟨.list (ks.map iD), .list ([p.1, p.2, 1].map iD), .lst (SqL.of hz) (dps_ints _), .lst (SqL.of upd_same) (dps_ints [p.1, p.2, 1]), shaped_list _ (cL_int _), shaped_list _ (cL_int _), ?_⟩
            have ee : ∀ a b : List Nat, PyData.eqv (.list (a.map iD)) (.list (b.map iD)) = decide (a = b) := by
              intro a
              induction a with
              | nil => intro b; cases b <;> simp [PyData.eqv, PyData.eqvAll]
              | cons x a ih =>
                intro b
                cases b with
                | nil => simp [PyData.eqv, PyData.eqvAll]
                | cons y b =>
                  have := ih b
                  simp only [PyData.eqv, PyData.eqvAll, List.map_cons] at this ⊢
                  rw [this]
                  by_cases h1 : x = y
                  · subst h1
                    by_cases h2 : a = b <;> simp [h2]
                  · have : ¬ ((x : Nat) : Int) = ((y : Nat) : Int) := fun z => h1 (by omega)
                    simp [h1, this]
            rw [ee, ← hst]
            exact q _ (s6.trans (Same.up nz))
def spAreEnds (K : PySem.W.Frag) : Sp := fun vs H Q _ => ∃ (m wl sA oA : Addr) (mems : List (Nat × Nat)) (ws : List Nat) (mvs svs ovs : List V) (sds ods : List PyData), vs = [.ref m, .ref wl, .ref sA, .ref oA] ∧ SqT K H m mvs ∧ DpAll K H mvs (mems.map pr) ∧ H wl = some (.lst (ws.map iV)) ∧ SqT K H sA svs ∧ DpAll K H svs sds ∧ noLs sds = true ∧ sds.length ≤ 1000 ∧ SqT K H oA ovs ∧ DpAll K H ovs ods ∧ noLs ods = true ∧ ods.length ≤ 1000 ∧
  ∀ H', Same H H' → Q (.bl (sds.all (storeB mems ws) && ods.all fun r => isI r 0 (ws.length : Nat))) H'
theorem ok_areEnds {f fB fS : Addr} {fd fdB fdS : FuncData} (F : Fun K "are_ends" "are_ends" sAreEnds f fd) (G : Gp mg tw tb) (GB : FnOk P w K mg base CX0 1 fB fdB ["thing", "limit"] (spIsBelow K)) (kB : PySem.W.keepIn K (.ref fB) = true) (bB : Binds K fdB ["thing", "limit"] []) (gB : mg "is_below" = some (.ref fB))
    (GS : FnOk P w K mg base CX0 2 fS fdS ["memories", "widths", "thing"] (spIsStore K)) (kS : PySem.W.keepIn K (.ref fS) = true) (bS : Binds K fdS ["memories", "widths", "thing"] []) (gS : mg "is_store" = some (.ref fS)) :
    FnOk P w K mg base CX0 3 f fd ["memories", "widths", "stores", "outs"] (spAreEnds K) := by
  refine F.ok scAreEnds (fun vs H Q E h => ?_) (fun cdv A outer s H vs Q E hr h => ?_)
  · obtain ⟨m, wl, sA, oA, mems, ws, mvs, svs, ovs, sds, ods, rfl, _⟩ := h
    rfl
  · obtain ⟨m, wl, sA, oA, mems, ws, mvs, svs, ovs, sds, ods, rfl, hm0, dm0, hw, hs0, dss, ns, ls, ho0, doo, no, lo, q⟩ := h
    have nd := scAreEnds.nd
    have hr2 := hr
    have hr1 : Room 1 _ := hr.mono (by decide)
    refine ⟨_, (pss_cons (ps_if (pt_not (pt_val (pe_callB (cr_all rfl) (by rfl) G.all (by decide +kernel) (pa_cons (pe_lc (own := [("store", 4)]) (g := gName 4) (tt := tYes) (te := tCall (spIsStore K) [] E0 (tCons (tVar 0) (tCons (tVar 1) (tCons (tVar 4) tNil)))) rfl nd (pi_tup (pv 2)) (blkOk_by (own := [("store", 4)]) (N := NE) (sc := defScope sAreEnds) (by decide +kernel)) (fun _ _ _ _ _ => pg_name (i := 4) nd rfl (.inl rfl)) (fun _ _ _ _ _ => pts_nil) (fun _ _ _ _ _ => by exact (pe_call GS hr2 (by rfl) gS kS bS .nil pass0 (pa_cons (pv 0) (pa_cons (pv 1) (pa_cons (pv 4) pa_nil)))))) pa_nil)))) (pss_one (ps_ret (pe_bl))) pss_nil)
      (pss_one (ps_ret (pe_callB (cr_all rfl) (by rfl) G.all (by decide +kernel) (pa_cons (pe_lc (own := [("row", 5)]) (g := gName 5) (tt := tYes) (te := tCall (spIsBelow K) [] E0 (tCons (tVar 5) (tCons (tCB (rLen K) (tCons (tVar 1) tNil)) tNil))) rfl nd (pi_tup (pv 3)) (blkOk_by (own := [("row", 5)]) (N := NE) (sc := defScope sAreEnds) (by decide +kernel)) (fun _ _ _ _ _ => pg_name (i := 5) nd rfl (.inl rfl)) (fun _ _ _ _ _ => pts_nil) (fun _ _ _ _ _ => by exact (pe_call GB hr1 (by rfl) gB kB bB .nil pass0 (pa_cons (pv 5) (pa_cons (pe_callB call_len_seq (by rfl) G.len PySem.boot_len (pa_cons (pv 1) pa_nil)) pa_nil))))) pa_nil))))), ?_⟩
    refine ⟨_, rfl, sA, rfl, ⟨_, hs0⟩, fun D nD => ?_⟩
    refine lc_tup (xs := svs) (fun j H' => Same H H' ∧ H' D = some (.lst (((sds.take j).map (storeB mems ws)).map V.bl))) ⟨Same.up nD, upd_same⟩ (fun j H' _ h => same_tup h.1 _ _ hs0) (fun j x H' hx h => ?_) (fun H' h => ?_)
    · obtain ⟨s1, hD⟩ := h
      obtain ⟨dj, hdj, dx⟩ := dps_get dss hx
      refine ⟨rfl, _, rfl, _, rfl, _, rfl, m, wl, x, mems, ws, mvs, dj, rfl, same_tup s1 _ _ hm0, dps_stay (same_tup s1) _ _ dm0 (noLs_pr _), s1 _ _ hw, dp_stay (same_tup s1) _ _ dx (noLs_mem ns dj (List.mem_of_getElem? hdj)), noLs_mem ns dj (List.mem_of_getElem? hdj), fun H2 s2 => ?_⟩
      refine ⟨_, s2 _ _ hD, ?_, ?_, ?_⟩
      · rw [List.length_map, List.length_map]
        refine Nat.lt_of_le_of_lt (List.length_take_le' _ _) ?_
        rw [sizeLine_eq]
        omega
      · exact fun b o e => by
          have nb : b ≠ D := ne_of_none e nD
          rw [upd_ne nb]
          exact s2 _ _ (s1 _ _ e)
      · rw [List.take_add_one, hdj, List.map_append, List.map_append]
        exact upd_same
    · obtain ⟨s1, hD⟩ := h
      rw [dps_len dss, List.take_length] at hD
      refine ⟨D, _, rfl, SqL.of hD, _, rfl, ?_⟩
      have ea : ((sds.map (storeB mems ws)).all id) = sds.all (storeB mems ws) := by
        rw [List.all_map]
        rfl
      rw [ea]
      cases ha : sds.all (storeB mems ws) with
      | false =>
        refine iteT ?_
        have := q _ s1
        rw [ha, Bool.false_and] at this
        exact this
      | true =>
        rw [ha] at q
        refine iteF ?_
        refine ⟨_, rfl, oA, rfl, ⟨_, same_tup s1 _ _ ho0⟩, fun D2 nD2 => ?_⟩
        have s6 : ∀ {o : HO}, Same H (upd H' D2 o) := fun {o} => s1.trans (Same.up nD2)
        refine lc_tup (xs := ovs) (fun j H2 => H2 = upd H' D2 (.lst (((ods.take j).map fun r => isI r 0 (ws.length : Nat)).map V.bl))) rfl (fun j H2 _ h => ?_) (fun j x H2 hx h => ?_) (fun H2 h => ?_)
        · subst h
          exact same_tup s6 _ _ ho0
        · subst h
          obtain ⟨dj, hdj, dx⟩ := dps_get (dps_stay (same_tup s6) _ _ doo no) hx
          refine ⟨rfl, _, rfl, _, rfl, wl, _, rfl, .inl (SqL.of (s6 _ _ hw)), x, dj, _, rfl, dx, _, upd_same, ?_, ?_⟩
          · rw [List.length_map, List.length_map]
            refine Nat.lt_of_le_of_lt (List.length_take_le' _ _) ?_
            rw [sizeLine_eq]
            omega
          · rw [upd_upd, List.take_add_one, hdj, List.map_append, List.map_append, List.length_map]
            rfl
        · subst h
          refine ⟨D2, _, rfl, SqL.of upd_same, ?_⟩
          rw [dps_len doo, List.take_length]
          have eo : ((ods.map fun r => isI r 0 (ws.length : Nat)).all id) = (ods.all fun r => isI r 0 (ws.length : Nat)) := by
            rw [List.all_map]
            rfl
          rw [eo]
          exact q _ s6
end
end C1

/-! is_circuit. -/
namespace C1
open PySem PySem.Spec PyProof.Rows L2 SX
abbrev NI : List Str := ["thing", "registers", "memories", "rows", "nexts", "stores", "outs", "widths", "row", "width", "part"]
theorem scIsCircuit : FnScope NI ["thing"] (defScope sIsCircuit) := ⟨rfl, rfl, rfl, by decide +kernel, rfl, by decide +kernel, by decide +kernel⟩
def toPr : PyData → Nat × Nat
  | .tuple [a, b] => (natD a, natD b)
  | _ => (0, 0)
theorem reg_pr {d : PyData} (h : regB d = true) : d = pr (toPr d) := by
  unfold regB at h
  split at h
  · split at h
    · obtain ⟨h1, h2⟩ := Bool.and_eq_true_iff.mp h
      obtain ⟨i, e1, i0, i1⟩ := isI_iff.mp h1
      cases e1
      obtain ⟨j, rfl, j0, j1⟩ := isI_iff.mp h2
      simp only [pr, toPr, natD, iD]
      rw [Int.toNat_of_nonneg (by omega), Int.toNat_of_nonneg j0]
    · cases h
  · cases h
theorem mem_pr {d : PyData} (h : memB d = true) : d = pr (toPr d) := by
  unfold memB at h
  split at h
  · rename_i b0 w0
    obtain ⟨h1, h2⟩ := Bool.and_eq_true_iff.mp h
    obtain ⟨ib, eb, ib0, ib1⟩ := isI_iff.mp h1
    obtain ⟨jw, ew, jw0, jw1⟩ := isI_iff.mp h2
    rw [eb, ew]
    show PyData.tuple [.int ib, .int jw] = .tuple [.int ((ib.toNat : Nat) : Int), .int ((jw.toNat : Nat) : Int)]
    rw [Int.toNat_of_nonneg (by omega), Int.toNat_of_nonneg (by omega)]
  · cases h
theorem all_pr {b : PyData → Bool} (hb : ∀ d, b d = true → d = pr (toPr d)) : ∀ ds : List PyData, ds.all b = true → ds = (ds.map toPr).map pr
  | [], _ => rfl
  | d :: ds, h => by
    rw [List.all_cons, Bool.and_eq_true] at h
    rw [List.map_cons, List.map_cons, ← hb d h.1, ← all_pr hb ds h.2]
def rowsW (regs mems : List (Nat × Nat)) : List PyData → List Nat → Option (List Nat)
  | [], ws => some ws
  | r :: rs, ws => if rowB regs mems ws r = 0 then none else rowsW regs mems rs (ws ++ [rowB regs mems ws r])
theorem rowsW_drop {regs mems : List (Nat × Nat)} {rows : List PyData} {i : Nat} {d : PyData} {ws : List Nat} (h : rows[i]? = some d) : rowsW regs mems (rows.drop i) ws = if rowB regs mems ws d = 0 then none else rowsW regs mems (rows.drop (i + 1)) (ws ++ [rowB regs mems ws d]) := by
  obtain ⟨hi, e⟩ := List.getElem?_eq_some_iff.mp h
  rw [List.drop_eq_getElem_cons hi, e]
  rfl
/-- the rules of 6.1 and 6.2, upon data -/
def circB (d : PyData) : Bool := match d with
  | .tuple [.tuple rd, .tuple md, .tuple rows, .tuple nx, .tuple st, .tuple ou] => rd.all regB && (md.all memB && (match rowsW (rd.map toPr) (md.map toPr) rows [] with
    | some ws => nextsB ws (rd.map toPr) nx && (st.all (storeB (md.map toPr) ws) && ou.all fun r => isI r 0 (ws.length : Nat))
    | none => false))
  | _ => false
theorem circB_six {ds : List PyData} (hl : ds.length = 6) (h : (ds.all fun d => decide (tyD d = "tuple")) = false) : circB (.tuple ds) = false := by
  unfold circB
  split
  · rename_i e
    cases e
    cases h
  · rfl
section
variable {P : Program} {w : World} {K : PySem.W.Frag} {mg : Str → Option Value} {base : Heap} {tw tb : Tok}
def spIsCircuit (K : PySem.W.Frag) : Sp := fun vs H Q _ => ∃ (v : V) (d : PyData) (n : Nat), vs = [v] ∧ Dp K H v d ∧ gd n d = true ∧ n ≤ 20 ∧ ∀ H', Same H H' → Q (.bl (circB d)) H'
theorem ok_isCircuit {f fT fR fM fW fN fE : Addr} {fd fdT fdR fdM fdW fdN fdE : FuncData} (F : Fun K "is_circuit" "is_circuit" sIsCircuit f fd) (G : Gp mg tw tb)
    (GT : FnOk P w K mg base CX0 1 fT fdT ["thing", "many"] (spIsTuple K)) (kT : PySem.W.keepIn K (.ref fT) = true) (bT : Binds K fdT ["thing", "many"] []) (gT : mg "is_tuple" = some (.ref fT))
    (GR : FnOk P w K mg base CX0 3 fR fdR ["thing"] (spD K regB)) (kR : PySem.W.keepIn K (.ref fR) = true) (bR : Binds K fdR ["thing"] []) (gR : mg "is_register" = some (.ref fR))
    (GM : FnOk P w K mg base CX0 3 fM fdM ["thing"] (spD K memB)) (kM : PySem.W.keepIn K (.ref fM) = true) (bM : Binds K fdM ["thing"] []) (gM : mg "is_memory" = some (.ref fM))
    (GRW : FnOk P w K mg base CX0 4 fW fdW ["circuit", "widths", "row"] (spRowWidth K)) (kRW : PySem.W.keepIn K (.ref fW) = true) (bRW : Binds K fdW ["circuit", "widths", "row"] []) (gRW : mg "row_width" = some (.ref fW))
    (GAN : FnOk P w K mg base CX0 2 fN fdN ["registers", "widths", "nexts"] (spAreNexts K)) (kAN : PySem.W.keepIn K (.ref fN) = true) (bAN : Binds K fdN ["registers", "widths", "nexts"] []) (gAN : mg "are_nexts" = some (.ref fN))
    (GAE : FnOk P w K mg base CX0 3 fE fdE ["memories", "widths", "stores", "outs"] (spAreEnds K)) (kAE : PySem.W.keepIn K (.ref fE) = true) (bAE : Binds K fdE ["memories", "widths", "stores", "outs"] []) (gAE : mg "are_ends" = some (.ref fE)) :
    FnOk P w K mg base CX0 5 f fd ["thing"] (spIsCircuit K) := by
  refine F.ok scIsCircuit (fun vs H Q E h => ?_) (fun cdv A outer s H vs Q E hr h => ?_)
  · obtain ⟨v, d, n, rfl, _⟩ := h
    rfl
  · obtain ⟨v, d, n, rfl, hd, hg, hn, q⟩ := h
    have nd := scIsCircuit.nd
    have hr4 := hr
    have hr3 : Room 3 _ := hr.mono (by decide)
    have hr2 : Room 2 _ := hr.mono (by decide)
    have hr1 : Room 1 _ := hr.mono (by decide)
    have qf : circB d = false → ∀ {H'}, Same H H' → Q (.bl false) H' := fun e H' sm => by
      have := q H' sm
      rw [e] at this
      exact this
    refine ⟨_, (C8.pss_cut (ps_if (PW.pt (pw_or (pt_not (pt_val (pe_call GT hr1 (by rfl) gT kT bT .nil pass0 (pa_cons (pv 0) (pa_cons (pe_int) pa_nil))))) (pw_or1 (pt_not (pt_val (pe_callB (cr_all rfl) (by rfl) G.all (by decide +kernel) (pa_cons (pe_lc (own := [("part", 10)]) (g := gName 10) (tt := tYes) (te := tOp (fun x y H Q => ∃ a b, x = .ty a ∧ y = .ty b ∧ Q (.bl (decide (a = b))) H) (tCB (rTyp K) (tCons (tVar 10) tNil)) (tC (.ty "tuple"))) rfl nd (pi_tup (pv 0)) (blkOk_by (own := [("part", 10)]) (N := NI) (sc := defScope sIsCircuit) (by decide +kernel)) (fun _ _ _ _ _ => pg_name (i := 10) nd rfl (.inl rfl)) (fun _ _ _ _ _ => pts_nil) (fun _ _ _ _ _ => by exact (pe_cmpR op_isTyB (pe_callTy call_type1 (by rfl) G.ty (by decide +kernel) (pa_cons (pv 10) pa_nil)) (pe_bltn (v := .ty "tuple") (by rfl) G.tu (by decide +kernel) rfl) (nomark _)))) pa_nil))))))) (pss_one (ps_ret (pe_bl))) pss_nil)
      (pss_cons (ps_asg (pv 0) (pg_tup (by rfl) (pgs_cons (pg_name (i := 1) nd rfl (.inl rfl)) (pgs_cons (pg_name (i := 2) nd rfl (.inl rfl)) (pgs_cons (pg_name (i := 3) nd rfl (.inl rfl)) (pgs_cons (pg_name (i := 4) nd rfl (.inl rfl)) (pgs_cons (pg_name (i := 5) nd rfl (.inl rfl)) (pgs_cons (pg_name (i := 6) nd rfl (.inl rfl)) pgs_nil))))))))
      (C8.pss_cut (ps_if (PW.pt (pw_or (pt_not (pt_val (pe_callB (cr_all rfl) (by rfl) G.all (by decide +kernel) (pa_cons (pe_lc (own := [("part", 10)]) (g := gName 10) (tt := tYes) (te := tCall (spD K regB) [] E0 (tCons (tVar 10) tNil)) rfl nd (pi_tup (pv 1)) (blkOk_by (own := [("part", 10)]) (N := NI) (sc := defScope sIsCircuit) (by decide +kernel)) (fun _ _ _ _ _ => pg_name (i := 10) nd rfl (.inl rfl)) (fun _ _ _ _ _ => pts_nil) (fun _ _ _ _ _ => by exact (pe_call GR hr3 (by rfl) gR kR bR .nil pass0 (pa_cons (pv 10) pa_nil)))) pa_nil)))) (pw_or1 (pt_not (pt_val (pe_callB (cr_all rfl) (by rfl) G.all (by decide +kernel) (pa_cons (pe_lc (own := [("part", 10)]) (g := gName 10) (tt := tYes) (te := tCall (spD K memB) [] E0 (tCons (tVar 10) tNil)) rfl nd (pi_tup (pv 2)) (blkOk_by (own := [("part", 10)]) (N := NI) (sc := defScope sIsCircuit) (by decide +kernel)) (fun _ _ _ _ _ => pg_name (i := 10) nd rfl (.inl rfl)) (fun _ _ _ _ _ => pts_nil) (fun _ _ _ _ _ => by exact (pe_call GM hr3 (by rfl) gM kM bM .nil pass0 (pa_cons (pv 10) pa_nil)))) pa_nil))))))) (pss_one (ps_ret (pe_bl))) pss_nil)
      (pss_cons (ps_set (i := 7) nd rfl (.inl rfl) (pe_lst pa_nil))
      (C8.pss_cut (ps_for PassesOwn.never rfl (pi_tup (pv 3)) (pg_name (i := 8) nd rfl (.inl rfl)) (pss_cons (ps_set (i := 9) nd rfl (.inl rfl) (pe_call GRW hr4 (by rfl) gRW kRW bRW .nil pass0 (pa_cons (pv 0) (pa_cons (pv 7) (pa_cons (pv 8) pa_nil)))))
      (pss_cons (ps_if (pt_cmpR op_eq (pv 9) (pe_int) (nomark _)) (pss_one (ps_ret (pe_bl))) pss_nil)
      (pss_one (ps_expr (pe_bm PySem.F.plainAttrs_list PySem.F.slot_list_append PySem.F.type_list_append mt_append (pv 7) (pa_cons (pv 9) pa_nil)))))))
      (pss_one (ps_ret (pe_and (pe_call GAN hr2 (by rfl) gAN kAN bAN .nil pass0 (pa_cons (pv 1) (pa_cons (pv 7) (pa_cons (pv 4) pa_nil)))) (pe_one (pe_call GAE hr3 (by rfl) gAE kAE bAE .nil pass0 (pa_cons (pv 2) (pa_cons (pv 7) (pa_cons (pv 5) (pa_cons (pv 6) pa_nil)))))))))))))), ?_⟩
    have lineL : ∀ {α : Type} (f : PyData → α) (L : List PyData) (j : Nat) (g : α → V), L.length ≤ 1000 → (((L.take j).map f).map g).length < sizeLine := fun f L j g h => by
      rw [List.length_map, List.length_map]
      refine Nat.lt_of_le_of_lt (List.length_take_le' _ _) ?_
      rw [sizeLine_eq]
      omega
    refine ⟨fun σ H' => σ = [some v, none, none, none, none, none, none, none, none, none, none] ∧ Same H H' ∧ ∃ ds : List PyData, d = .tuple ds ∧ ds.length = 6 ∧ (ds.all fun d => decide (tyD d = "tuple")) = true, ?_, ?_⟩
    · refine ⟨_, rfl, v, d, 6, rfl, hd, _, rfl, ?_⟩
      cases ht : isT d 6 with
      | false =>
        refine iteT (qf ?_ (Same.refl H))
        unfold circB
        split
        · cases ht
        · rfl
      | true =>
        refine iteF ?_
        obtain ⟨ds, rfl, hl⟩ := isT_iff.mp ht
        obtain ⟨b, xs, rfl, sb, da⟩ := dp_tup hd
        have hnn : noLs ds = true := (gd_ok n _ hg).1
        have lda := dps_len da
        refine ⟨_, rfl, b, rfl, ⟨_, sb⟩, fun D nD => ?_⟩
        have s6 : ∀ {o : HO}, Same H (upd H D o) := fun {o} => Same.up nD
        refine lc_tup (xs := xs) (fun j H' => H' = upd H D (.lst (((ds.take j).map fun d => decide (tyD d = "tuple")).map V.bl))) rfl (fun j H' _ h => ?_) (fun j x H' hx h => ?_) (fun H' h => ?_)
        · subst h
          exact same_tup s6 _ _ sb
        · subst h
          obtain ⟨dj, hdj, dx⟩ := dps_get (dps_stay (same_tup s6) _ _ da hnn) hx
          refine ⟨rfl, _, rfl, _, _, rfl, ty_of dx, _, _, rfl, rfl, _, upd_same, lineL _ _ _ _ (by omega), ?_⟩
          rw [upd_upd, List.take_add_one, hdj, List.map_append, List.map_append]
          rfl
        · subst h
          refine ⟨D, _, rfl, SqL.of upd_same, _, rfl, ?_⟩
          rw [lda, List.take_length]
          have ea : ((ds.map fun d => decide (tyD d = "tuple")).all id) = (ds.all fun d => decide (tyD d = "tuple")) := by
            rw [List.all_map]
            rfl
          rw [ea]
          cases ha : (ds.all fun d => decide (tyD d = "tuple")) with
          | false => exact iteT (qf (circB_six hl ha) s6)
          | true => exact iteF ⟨rfl, s6, ds, rfl, hl, ha⟩
    rintro σ H1 ⟨rfl, s1, ds, rfl, hl, hall⟩
    have hty : ∀ d ∈ ds, ∃ es, d = .tuple es := fun d hd => ty_tup (of_decide_eq_true (List.all_eq_true.mp hall d hd))
    match ds, hl with
    | [t0, t1, t2, t3, t4, t5], _ =>
      obtain ⟨rd, rfl⟩ := hty t0 (by simp)
      obtain ⟨md, rfl⟩ := hty t1 (by simp)
      obtain ⟨rows, rfl⟩ := hty t2 (by simp)
      obtain ⟨nx, rfl⟩ := hty t3 (by simp)
      obtain ⟨st, rfl⟩ := hty t4 (by simp)
      obtain ⟨ou, rfl⟩ := hty t5 (by simp)
      have hnn := (gd_ok n _ hg).1
      obtain ⟨n, rfl⟩ : ∃ m, n = m + 2 := by
        match n, hg with
        | 0, h => cases h
        | 1, h => cases gd_mem h (List.mem_cons_self ..)
        | m + 2, _ => exact ⟨m, rfl⟩
      have g0 := gd_mem hg (d := .tuple rd) (by simp)
      have g1 := gd_mem hg (d := .tuple md) (by simp)
      have g2 := gd_mem hg (d := .tuple rows) (by simp)
      have g3 := gd_mem hg (d := .tuple nx) (by simp)
      have g4 := gd_mem hg (d := .tuple st) (by simp)
      have g5 := gd_mem hg (d := .tuple ou) (by simp)
      have n0 : noLs rd = true := (gd_ok _ _ g0).1
      have n1 : noLs md = true := (gd_ok _ _ g1).1
      have n2 : noLs rows = true := (gd_ok _ _ g2).1
      have n3 : noLs nx = true := (gd_ok _ _ g3).1
      have n4 : noLs st = true := (gd_ok _ _ g4).1
      have n5 : noLs ou = true := (gd_ok _ _ g5).1
      have l0 := gd_len g0
      have l1 := gd_len g1
      have l2 := gd_len g2
      have l4 := gd_len g4
      have l5 := gd_len g5
      obtain ⟨b, xs, rfl, sb, da⟩ := dp_tup (dp_stay (same_tup s1) _ _ hd hnn)
      cases da with
      | cons e0 da =>
      cases da with
      | cons e1 da =>
      cases da with
      | cons e2 da =>
      cases da with
      | cons e3 da =>
      cases da with
      | cons e4 da =>
      cases da with
      | cons e5 da =>
      cases da
      obtain ⟨a0, rvs, rfl, q0, d0⟩ := dp_tup e0
      obtain ⟨a1, mvs, rfl, q1, d1⟩ := dp_tup e1
      obtain ⟨a2, wvs, rfl, q2, d2⟩ := dp_tup e2
      obtain ⟨a3, nvs, rfl, q3, d3⟩ := dp_tup e3
      obtain ⟨a4, svs, rfl, q4, d4⟩ := dp_tup e4
      obtain ⟨a5, ovs, rfl, q5, d5⟩ := dp_tup e5
      refine ⟨_, rfl, b, _, rfl, sb, rfl, _, _, rfl, _, _, rfl, _, _, rfl, _, _, rfl, _, _, rfl, _, _, rfl, rfl, ?_⟩
      have hcb : circB (.tuple [.tuple rd, .tuple md, .tuple rows, .tuple nx, .tuple st, .tuple ou]) = (rd.all regB && (md.all memB && (match rowsW (rd.map toPr) (md.map toPr) rows [] with
        | some ws => nextsB ws (rd.map toPr) nx && (st.all (storeB (md.map toPr) ws) && ou.all fun r => isI r 0 (ws.length : Nat))
        | none => false))) := rfl
      refine ⟨fun σ H' => σ = [some (.ref b), some (.ref a0), some (.ref a1), some (.ref a2), some (.ref a3), some (.ref a4), some (.ref a5), none, none, none, none] ∧ Same H1 H' ∧ rd.all regB = true ∧ md.all memB = true, ?_, ?_⟩
      · refine ⟨_, rfl, a0, rfl, ⟨_, q0⟩, fun D nD => ?_⟩
        have s6 : ∀ {o : HO}, Same H1 (upd H1 D o) := fun {o} => Same.up nD
        refine lc_tup (xs := rvs) (fun j H' => H' = upd H1 D (.lst (((rd.take j).map regB).map V.bl))) rfl (fun j H' _ h => ?_) (fun j x H' hx h => ?_) (fun H' h => ?_)
        · subst h
          exact same_tup s6 _ _ q0
        · subst h
          obtain ⟨dj, hdj, dx⟩ := dps_get (dps_stay (same_tup s6) _ _ d0 n0) hx
          refine ⟨rfl, _, rfl, x, dj, rfl, dx, _, upd_same, lineL _ _ _ _ l0, ?_⟩
          rw [upd_upd, List.take_add_one, hdj, List.map_append, List.map_append]
          rfl
        · subst h
          refine ⟨D, _, rfl, SqL.of upd_same, _, rfl, ?_⟩
          rw [dps_len d0, List.take_length]
          have ea : ((rd.map regB).all id) = rd.all regB := by
            rw [List.all_map]
            rfl
          rw [ea]
          cases ha : rd.all regB with
          | false =>
            rw [ha, Bool.false_and] at hcb
            exact iteT (qf hcb (s1.trans s6))
          | true =>
            rw [ha, Bool.true_and] at hcb
            refine iteF ?_
            refine ⟨_, rfl, a1, rfl, ⟨_, same_tup s6 _ _ q1⟩, fun D2 nD2 => ?_⟩
            have s7 : ∀ {o : HO}, Same H1 (upd (upd H1 D (.lst ((rd.map regB).map V.bl))) D2 o) := fun {o} => s6.trans (Same.up nD2)
            refine lc_tup (xs := mvs) (fun j H' => H' = upd (upd H1 D (.lst ((rd.map regB).map V.bl))) D2 (.lst (((md.take j).map memB).map V.bl))) rfl (fun j H' _ h => ?_) (fun j x H' hx h => ?_) (fun H' h => ?_)
            · subst h
              exact same_tup s7 _ _ q1
            · subst h
              obtain ⟨dj, hdj, dx⟩ := dps_get (dps_stay (same_tup s7) _ _ d1 n1) hx
              refine ⟨rfl, _, rfl, x, dj, rfl, dx, _, upd_same, lineL _ _ _ _ l1, ?_⟩
              rw [upd_upd, List.take_add_one, hdj, List.map_append, List.map_append]
              rfl
            · subst h
              refine ⟨D2, _, rfl, SqL.of upd_same, _, rfl, ?_⟩
              rw [dps_len d1, List.take_length]
              have eb : ((md.map memB).all id) = md.all memB := by
                rw [List.all_map]
                rfl
              rw [eb]
              cases hb : md.all memB with
              | false =>
                rw [hb, Bool.false_and] at hcb
                exact iteT (qf hcb (s1.trans s7))
              | true => exact iteF ⟨rfl, s7, rfl, rfl⟩
      rintro σ H2 ⟨rfl, s2, hra, hma⟩
      rw [hra, hma, Bool.true_and, Bool.true_and] at hcb
      have er : rd = (rd.map toPr).map pr := all_pr (fun d => reg_pr) rd hra
      have em : md = (md.map toPr).map pr := all_pr (fun d => mem_pr) md hma
      rw [er] at d0
      rw [em] at d1
      have t2 := s1.trans s2
      -- the rows
      refine ⟨Nat.zero_le _, fun Wl nW => ?_⟩
      have CC : ∀ {H'}, Same H2 H' → CH K H' b (rd.map toPr) (md.map toPr) := fun {H'} sm => (CH.mk ⟨a0, a1, _, rvs, mvs, same_tup s2 _ _ sb, same_tup s2 _ _ q0, dps_stay (same_tup s2) _ _ d0 (noLs_pr _), same_tup s2 _ _ q1, dps_stay (same_tup s2) _ _ d1 (noLs_pr _)⟩ : CH K H2 b (rd.map toPr) (md.map toPr)).same sm
      have Q2 := same_tup s2 _ _ q2
      have D2 := dps_stay (same_tup s2) _ _ d2 n2
      refine ⟨fun σ H' => ∃ (y8 y9 : Option V) (ws : List Nat), σ = [some (.ref b), some (.ref a0), some (.ref a1), some (.ref a2), some (.ref a3), some (.ref a4), some (.ref a5), some (.ref Wl), y8, y9, none] ∧ Same H2 H' ∧ H' Wl = some (.lst (ws.map iV)) ∧ rowsW (rd.map toPr) (md.map toPr) rows [] = some ws, ?_, ?_⟩
      · refine ⟨_, rfl, a2, rfl, ⟨_, same_tup (Same.up nW) _ _ Q2⟩, for_tup (xs := wvs) (fun i σ H' => ∃ (y8 y9 : Option V) (ws : List Nat), σ = [some (.ref b), some (.ref a0), some (.ref a1), some (.ref a2), some (.ref a3), some (.ref a4), some (.ref a5), some (.ref Wl), y8, y9, none] ∧ Same H2 H' ∧ H' Wl = some (.lst (ws.map iV)) ∧ rowsW (rd.map toPr) (md.map toPr) rows [] = rowsW (rd.map toPr) (md.map toPr) (rows.drop i) ws ∧ ws.length = i) ⟨_, _, [], rfl, Same.up nW, upd_same, rfl, rfl⟩ (fun i σ H' _ h => ?_) (fun i x σ H' hx h => ?_) (fun σ H' h => ?_)⟩
        · obtain ⟨_, _, _, _, s3, _⟩ := h
          exact same_tup s3 _ _ Q2
        · obtain ⟨y8, y9, ws, rfl, s3, hW, e1, lw⟩ := h
          obtain ⟨dj, hdj, dx⟩ := dps_get D2 hx
          have gj := gd_mem g2 (List.mem_of_getElem? hdj)
          have hi : i < rows.length := (List.getElem?_eq_some_iff.mp hdj).1
          have ed := rowsW_drop (regs := rd.map toPr) (mems := md.map toPr) (ws := ws) hdj
          refine ⟨_, rfl, _, rfl, _, rfl, b, Wl, x, rd.map toPr, md.map toPr, ws, dj, _, rfl, CC s3, hW, dp_stay (same_tup s3) _ _ dx (gd_ok _ _ gj).1, gj, by omega, by omega, by rw [List.length_map]; exact l0, by rw [List.length_map]; exact l1, fun H3 s4 => ?_⟩
          have s5 := s3.trans s4
          refine ⟨_, rfl, rfl, _, rfl, ?_⟩
          by_cases hz : rowB (rd.map toPr) (md.map toPr) ws dj = 0
          · rw [hz]
            refine iteT (qf ?_ (t2.trans s5))
            rw [hcb, e1, ed, if_pos hz]
          · refine ite2 (fun a => absurd (Int.ofNat.inj (V.int.inj (of_decide_eq_true a))) hz) (fun _ => ?_)
            have hW3 := s4 _ _ hW
            refine ⟨_, rfl, .inl ⟨rfl, _, SqL.of hW3⟩, _, rfl, Wl, _, _, rfl, rfl, hW3, by rw [List.length_map, sizeLine_eq]; omega, ?_⟩
            refine ⟨_, _, ws ++ [rowB (rd.map toPr) (md.map toPr) ws dj], rfl, fun c o e => ?_, ?_, ?_, ?_⟩
            · rw [upd_ne (ne_of_none e nW)]
              exact s5 _ _ e
            · rw [List.map_append]
              exact upd_same
            · rw [e1, ed, if_neg hz]
            · rw [List.length_append]
              show ws.length + 1 = i + 1
              omega
        · obtain ⟨y8, y9, ws, rfl, s3, hW, e1, lw⟩ := h
          refine ⟨_, _, ws, rfl, s3, hW, ?_⟩
          rw [e1, dps_len D2, List.drop_length]
          rfl
      rintro σ H3 ⟨y8, y9, ws, rfl, s3, hW, ew⟩
      rw [ew] at hcb
      have t3 := s2.trans s3
      have u3 := t2.trans s3
      refine ⟨_, rfl, _, rfl, _, rfl, a0, Wl, a3, rd.map toPr, ws, rvs, nvs, nx, rfl, same_tup t3 _ _ q0, dps_stay (same_tup t3) _ _ d0 (noLs_pr _), hW, same_tup t3 _ _ q3, dps_stay (same_tup t3) _ _ d3 n3, n3, fun H4 s4 => ?_⟩
      have t4 := t3.trans s4
      refine ⟨_, rfl, ?_⟩
      cases hx : nextsB ws (rd.map toPr) nx with
      | false =>
        dsimp only at hcb
        rw [hx, Bool.false_and] at hcb
        exact iteF (qf hcb (u3.trans s4))
      | true =>
        dsimp only at hcb
        rw [hx, Bool.true_and] at hcb
        refine iteT ?_
        refine ⟨_, rfl, _, rfl, _, rfl, _, rfl, a1, Wl, a4, a5, md.map toPr, ws, mvs, svs, ovs, st, ou, rfl, same_tup t4 _ _ q1, dps_stay (same_tup t4) _ _ d1 (noLs_pr _), s4 _ _ hW, same_tup t4 _ _ q4, dps_stay (same_tup t4) _ _ d4 n4, n4, l4, same_tup t4 _ _ q5, dps_stay (same_tup t4) _ _ d5 n5, n5, l5, fun H5 s5 => ?_⟩
        rw [← hcb]
        exact q _ ((u3.trans s4).trans s5)
end
end C1

/-! What the law draws is a circuit by the rules. -/
namespace C1
open PySem PySem.Spec PyProof.Rows L2 SX
theorem toPr_pr (ps : List (Nat × Nat)) : (ps.map pr).map toPr = ps := by
  rw [List.map_map]
  have : (toPr ∘ pr) = id := by
    funext ⟨x, y⟩
    rfl
  rw [this, List.map_id]
theorem isI_nat {k lo hi : Nat} (h1 : lo ≤ k) (h2 : k < hi) : isI (iD k) (lo : Nat) (hi : Nat) = true := isI_iff.mpr ⟨_, rfl, by omega, by omega⟩
theorem isI_ws {ws : List Nat} {a x : Nat} (h : ws[a]? = some x) : isI (iD a) 0 (ws.length : Nat) = true := isI_iff.mpr ⟨_, rfl, by omega, by have := (List.getElem?_eq_some_iff.mp h).1; omega⟩
theorem getD_ws {ws : List Nat} {a x : Nat} (h : ws[a]? = some x) : ws.getD (natD (iD a)) 0 = x := by
  show ws.getD ((a : Nat) : Int).toNat 0 = x
  rw [Int.toNat_natCast, List.getD_eq_getElem?_getD, h]
  rfl
section
variable {regs mems : List (Nat × Nat)} {ws : List Nat}
theorem row_ok {row : Row} {wd : Nat} (h : RowOk regs mems ws row wd) (hM : MemsOk mems) (h1 : 1 ≤ wd) (h2 : wd ≤ 12) (hw : WsOk ws) : rowB regs mems ws row.d = wd := by
  cases h with
  | @lit v w hv =>
    show (if (isI (iD wd) 1 33 && isI (iD v) 0 (2 ^ ((wd : Nat) : Int).toNat)) = true then ((wd : Nat) : Int).toNat else 0) = wd
    rw [if_pos, Int.toNat_natCast]
    rw [Bool.and_eq_true]
    refine ⟨isI_iff.mpr ⟨_, rfl, by omega, by omega⟩, isI_iff.mpr ⟨_, rfl, by omega, ?_⟩⟩
    rw [Int.toNat_natCast]
    have : ((2 ^ wd : Nat) : Int) = (2 : Int) ^ wd := Int.natCast_pow 2 wd
    rw [← this]
    omega
  | @reg i w f hr =>
    show (if (0 : Int) ≤ ((i : Nat) : Int) then ((regs[((i : Nat) : Int).toNat]?).map Prod.fst).getD 0 else 0) = wd
    rw [if_pos (by omega), Int.toNat_natCast, hr]
    rfl
  | @look m a b w hm ha =>
    show (if ([iD a].all fun p => isI p 0 (ws.length : Nat)) = true then lookB mems ws [iD m, iD a] else 0) = wd
    rw [if_pos (by rw [List.all_cons, isI_ws ha]; rfl)]
    show (if (0 : Int) ≤ ((m : Nat) : Int) ∧ (0 : Int) ≤ ((a : Nat) : Int) then _ else 0) = _
    rw [Int.toNat_natCast, Int.toNat_natCast, hm, ha, if_pos ⟨by omega, by omega⟩]
    exact if_pos rfl
  | @inv a w ha =>
    show (if ([iD a].all fun p => isI p 0 (ws.length : Nat)) = true then ws.getD (natD (iD a)) 0 else 0) = wd
    rw [if_pos (by rw [List.all_cons, isI_ws ha]; rfl), getD_ws ha]
  | @wide a x w ha =>
    show (if ([iD a].all fun p => isI p 0 (ws.length : Nat)) = true then (if 1 ≤ ((wd : Nat) : Int) ∧ ((wd : Nat) : Int) ≤ 32 then ((wd : Nat) : Int).toNat else 0) else 0) = wd
    rw [if_pos (by rw [List.all_cons, isI_ws ha]; rfl), if_pos ⟨by omega, by omega⟩, Int.toNat_natCast]
  | @part a x lo hi ha hl hh =>
    show (if ([iD a].all fun p => isI p 0 (ws.length : Nat)) = true then (if 0 ≤ ((lo : Nat) : Int) ∧ ((lo : Nat) : Int) ≤ ((hi : Nat) : Int) ∧ ((hi : Nat) : Int) < ((ws.getD (natD (iD a)) 0 : Nat) : Int) then (((hi : Nat) : Int) - ((lo : Nat) : Int) + 1).toNat else 0) else 0) = hi - lo + 1
    rw [if_pos (by rw [List.all_cons, isI_ws ha]; rfl), getD_ws ha, if_pos ⟨by omega, by omega, by omega⟩]
    omega
  | @join a b x y ha hb =>
    show (if ([iD a, iD b].all fun p => isI p 0 (ws.length : Nat)) = true then (if ws.getD (natD (iD a)) 0 + ws.getD (natD (iD b)) 0 ≤ 32 then ws.getD (natD (iD a)) 0 + ws.getD (natD (iD b)) 0 else 0) else 0) = x + y
    rw [if_pos (by rw [List.all_cons, List.all_cons, isI_ws ha, isI_ws hb]; rfl), getD_ws ha, getD_ws hb, if_pos (by omega)]
  | @shift s a b x y hs ha hb =>
    show (if ([iD a, iD b].all fun p => isI p 0 (ws.length : Nat)) = true then opW s (ws.getD (natD (iD a)) 0) (ws.getD (natD (iD b)) 0) else 0) = wd
    rw [if_pos (by rw [List.all_cons, List.all_cons, isI_ws ha, isI_ws hb]; rfl), getD_ws ha, getD_ws hb]
    exact if_pos hs
  | @arith s a b x hs ha hb =>
    show (if ([iD a, iD b].all fun p => isI p 0 (ws.length : Nat)) = true then opW s (ws.getD (natD (iD a)) 0) (ws.getD (natD (iD b)) 0) else 0) = wd
    rw [if_pos (by rw [List.all_cons, List.all_cons, isI_ws ha, isI_ws hb]; rfl), getD_ws ha, getD_ws hb]
    have h1 : ∀ s ∈ arithL, s ∉ shiftL ∧ s ∉ testL := by decide +kernel
    unfold opW
    rw [if_neg (h1 s hs).1, if_pos rfl, if_neg (h1 s hs).2, if_pos hs]
  | @test s a b x hs ha hb =>
    show (if ([iD a, iD b].all fun p => isI p 0 (ws.length : Nat)) = true then opW s (ws.getD (natD (iD a)) 0) (ws.getD (natD (iD b)) 0) else 0) = 1
    rw [if_pos (by rw [List.all_cons, List.all_cons, isI_ws ha, isI_ws hb]; rfl), getD_ws ha, getD_ws hb]
    have h1 : ∀ s ∈ testL, s ∉ shiftL := by decide +kernel
    unfold opW
    rw [if_neg (h1 s hs), if_pos rfl, if_pos hs]
  | @pick t a b x ht ha hb =>
    show (if ([iD t, iD a, iD b].all fun p => isI p 0 (ws.length : Nat)) = true then (if ws.getD (natD (iD t)) 0 = 1 ∧ ws.getD (natD (iD a)) 0 = ws.getD (natD (iD b)) 0 then ws.getD (natD (iD a)) 0 else 0) else 0) = wd
    rw [if_pos (by rw [List.all_cons, List.all_cons, List.all_cons, isI_ws ht, isI_ws ha, isI_ws hb]; rfl), getD_ws ht, getD_ws ha, getD_ws hb]
    exact if_pos ⟨rfl, rfl⟩
theorem rowsW_app {rs : List PyData} {r : PyData} : ∀ {ws ws2 : List Nat}, rowsW regs mems rs ws = some ws2 → rowB regs mems ws2 r ≠ 0 → rowsW regs mems (rs ++ [r]) ws = some (ws2 ++ [rowB regs mems ws2 r]) := by
  induction rs with
  | nil =>
    intro ws ws2 h hr
    cases h
    show (if rowB regs mems ws r = 0 then none else some (ws ++ [rowB regs mems ws r])) = _
    rw [if_neg hr]
  | cons a rs ih =>
    intro ws ws2 h hr
    have h1 : (if rowB regs mems ws a = 0 then none else rowsW regs mems rs (ws ++ [rowB regs mems ws a])) = some ws2 := h
    show (if rowB regs mems ws a = 0 then none else rowsW regs mems (rs ++ [r]) (ws ++ [rowB regs mems ws a])) = _
    by_cases hz : rowB regs mems ws a = 0
    · rw [if_pos hz] at h1
      cases h1
    · rw [if_neg hz] at h1 ⊢
      exact ih h1 hr
theorem rows_ok {rows : List Row} (hM : MemsOk mems) (h : RowsOk regs mems rows ws) : rowsW regs mems (rows.map Row.d) [] = some ws := by
  induction h with
  | nil => rfl
  | @snoc rows ws row wd hro ho h1 h2 ih =>
    have e := row_ok ho hM h1 h2 (rows_ws hro)
    rw [List.map_append]
    have := rowsW_app (r := row.d) ih (by rw [e]; omega)
    rw [e] at this
    exact this
theorem nexts_ok : ∀ {regs : List (Nat × Nat)} {nexts : List Nat}, nexts.length = regs.length → (∀ (i : Nat) (p : Nat × Nat) (n : Nat), regs[i]? = some p → nexts[i]? = some n → ws[n]? = some p.1) → nextsB ws regs (nexts.map iD) = true
  | [], [], _, _ => rfl
  | p :: ps, n :: ns, hl, h => by
    have h0 := h 0 p n rfl rfl
    show (isI (iD n) 0 (ws.length : Nat) && (decide (ws.getD (natD (iD n)) 0 = p.1) && nextsB ws ps (ns.map iD))) = true
    rw [isI_ws h0, getD_ws h0, nexts_ok (regs := ps) (nexts := ns) (by simpa using hl) (fun i p n h1 h2 => h (i + 1) p n h1 h2), decide_eq_true rfl]
    rfl
end
theorem ckt_circ {c : Ckt} {ws : List Nat} (h : CktOk c ws) : circB c.d = true := by
  show ((c.regs.map pr).all regB && ((c.mems.map pr).all memB && (match rowsW ((c.regs.map pr).map toPr) ((c.mems.map pr).map toPr) (c.rows.map Row.d) [] with
    | some ws => nextsB ws ((c.regs.map pr).map toPr) (c.nexts.map iD) && ((c.stores.map stD).all (storeB ((c.mems.map pr).map toPr) ws) && (c.outs.map iD).all fun r => isI r 0 (ws.length : Nat))
    | none => false))) = true
  rw [toPr_pr, toPr_pr, rows_ok h.mm h.rw]
  have hr : (c.regs.map pr).all regB = true := by
    rw [List.all_eq_true]
    intro d hd
    obtain ⟨p, hp, e⟩ := List.mem_map.mp hd
    subst e
    obtain ⟨p1, p2, p3⟩ := h.rg p hp
    show (isI (iD p.1) 1 33 && isI (iD p.2) 0 (2 ^ ((p.1 : Nat) : Int).toNat)) = true
    rw [Bool.and_eq_true]
    refine ⟨isI_iff.mpr ⟨_, rfl, by omega, by omega⟩, isI_iff.mpr ⟨_, rfl, by omega, ?_⟩⟩
    rw [Int.toNat_natCast]
    have : ((2 ^ p.1 : Nat) : Int) = (2 : Int) ^ p.1 := Int.natCast_pow 2 p.1
    rw [← this]
    omega
  have hm : (c.mems.map pr).all memB = true := by
    rw [List.all_eq_true]
    intro d hd
    obtain ⟨p, hp, e⟩ := List.mem_map.mp hd
    subst e
    obtain ⟨p1, p2, p3, p4⟩ := h.mm p hp
    show (isI (iD p.1) 1 7 && isI (iD p.2) 1 33) = true
    rw [Bool.and_eq_true]
    exact ⟨isI_iff.mpr ⟨_, rfl, by omega, by omega⟩, isI_iff.mpr ⟨_, rfl, by omega, by omega⟩⟩
  have hn := nexts_ok h.nl h.nx
  have hs : (c.stores.map stD).all (storeB c.mems ws) = true := by
    rw [List.all_eq_true]
    intro d hd
    obtain ⟨⟨m, a, v, t⟩, hp, e⟩ := List.mem_map.mp hd
    subst e
    obtain ⟨p, h0, h1, h2, h3⟩ := h.so _ hp
    dsimp only at h0 h1 h2 h3
    show (isI (iD m) 0 (c.mems.length : Nat) && (([iD a, iD v, iD t].all fun r => isI r 0 (ws.length : Nat)) && decide ([ws.getD (natD (iD a)) 0, ws.getD (natD (iD v)) 0, ws.getD (natD (iD t)) 0] = [((c.mems[((m : Nat) : Int).toNat]?).getD (0, 0)).1, ((c.mems[((m : Nat) : Int).toNat]?).getD (0, 0)).2, 1]))) = true
    rw [Int.toNat_natCast, h0, getD_ws h1, getD_ws h2, getD_ws h3, List.all_cons, List.all_cons, List.all_cons, isI_ws h1, isI_ws h2, isI_ws h3]
    rw [isI_iff.mpr ⟨_, rfl, by omega, by have := (List.getElem?_eq_some_iff.mp h0).1; omega⟩]
    show (true && ((true && (true && (true && true))) && decide ([p.1, p.2, 1] = [p.1, p.2, 1]))) = true
    rw [decide_eq_true rfl]
    rfl
  have ho : ((c.outs.map iD).all fun r => isI r 0 (ws.length : Nat)) = true := by
    rw [List.all_eq_true]
    intro d hd
    obtain ⟨o, hp, e⟩ := List.mem_map.mp hd
    subst e
    exact isI_iff.mpr ⟨_, rfl, by omega, by have := h.oo o hp; omega⟩
  rw [hr, hm]
  show (nextsB ws c.regs (c.nexts.map iD) && ((c.stores.map stD).all (storeB c.mems ws) && (c.outs.map iD).all fun r => isI r 0 (ws.length : Nat))) = true
  rw [hn, hs, ho]
  rfl
theorem gd_row {row : Row} {regs mems : List (Nat × Nat)} {ws : List Nat} {wd : Nat} (h : RowOk regs mems ws row wd) : gd 1 row.d = true := by
  have hs : ∀ s : Str, s ∈ shiftL ∨ s ∈ arithL ∨ s ∈ testL → decide (s ∈ strsL) = true := by
    have h1 : ∀ s ∈ shiftL ++ (arithL ++ testL), decide (s ∈ strsL) = true := by decide +kernel
    intro s hs
    refine h1 s ?_
    rw [List.mem_append, List.mem_append]
    exact hs
  have go : ∀ (s : Str) (a b : Nat), decide (s ∈ strsL) = true → gd 1 (Row.op s a b).d = true := fun s a b e => by
    show (decide (4 ≤ 1000) && (decide (("op" : Str) ∈ strsL) && (decide (s ∈ strsL) && (true && (true && true))))) = true
    rw [e]
    rfl
  cases h with
  | shift h => exact go _ _ _ (hs _ (.inl h))
  | arith h => exact go _ _ _ (hs _ (.inr (.inl h)))
  | test h => exact go _ _ _ (hs _ (.inr (.inr h)))
  | lit => rfl
  | reg => rfl
  | look => rfl
  | inv => rfl
  | wide => rfl
  | part => rfl
  | join => rfl
  | pick => rfl
theorem gd_rows {regs mems : List (Nat × Nat)} {rows : List Row} {ws : List Nat} (h : RowsOk regs mems rows ws) : ∀ r ∈ rows, gd 1 r.d = true := by
  induction h with
  | nil => exact fun r hr => by cases hr
  | snoc _ ho _ _ ih =>
    intro r hr
    rcases List.mem_append.mp hr with h | h
    · exact ih r h
    · rw [List.mem_singleton.mp h]
      exact gd_row ho
theorem gd_tup {n : Nat} {ds : List PyData} (hl : ds.length ≤ 1000) (h : ∀ d ∈ ds, gd n d = true) : gd (n + 1) (.tuple ds) = true := Bool.and_eq_true_iff.mpr ⟨decide_eq_true hl, List.all_eq_true.mpr h⟩
theorem gd_int {n : Nat} (k : Int) : gd n (.int k) = true := by cases n <;> rfl
theorem ckt_gd {c : Ckt} {ws : List Nat} (h : CktOk c ws) : gd 3 c.d = true := by
  have hi : ∀ (n : Nat) (ks : List Nat), ∀ d ∈ ks.map iD, gd n d = true := fun n ks d hd => by
    obtain ⟨k, _, e⟩ := List.mem_map.mp hd
    subst e
    exact gd_int _
  have hp : ∀ (ps : List (Nat × Nat)), ∀ d ∈ ps.map pr, gd 1 d = true := fun ps d hd => by
    obtain ⟨⟨x, y⟩, _, e⟩ := List.mem_map.mp hd
    subst e
    rfl
  have lw := h.lw
  have lrw := rows_len h.rw
  refine gd_tup (by show 6 ≤ 1000; decide) fun d hd => ?_
  have nlen := h.nl
  have h1 := h.lr
  have h2 := h.lm
  have h3 := h.sl
  have h4 := h.ol
  have hd' : d = .tuple (c.regs.map pr) ∨ d = .tuple (c.mems.map pr) ∨ d = .tuple (c.rows.map Row.d) ∨ d = .tuple (c.nexts.map iD) ∨ d = .tuple (c.stores.map stD) ∨ d = .tuple (c.outs.map iD) := by
    simpa using hd
  rcases hd' with e | e | e | e | e | e
  · subst e
    exact gd_tup (by rw [List.length_map]; omega) (hp _)
  · subst e
    exact gd_tup (by rw [List.length_map]; omega) (hp _)
  · subst e
    refine gd_tup (by rw [List.length_map]; omega) fun d hd => ?_
    obtain ⟨r, hr, e⟩ := List.mem_map.mp hd
    subst e
    exact gd_rows h.rw r hr
  · subst e
    exact gd_tup (by rw [List.length_map]; omega) (hi _ _)
  · subst e
    refine gd_tup (by rw [List.length_map]; omega) fun d hd => ?_
    obtain ⟨r, hr, e⟩ := List.mem_map.mp hd
    subst e
    rfl
  · subst e
    exact gd_tup (by rw [List.length_map]; omega) (hi _ _)
end C1

/-! What circuits do: the mathematics. -/
namespace C1
open PySem PySem.Spec PyProof.Rows L2 SX
def opV (s : Str) (a b w : Nat) : Nat :=
  if s = "+" then (a + b) % 2 ^ w else if s = "-" then (((a : Nat) : Int) - ((b : Nat) : Int)).emod (2 ^ w) |>.toNat
  else if s = "*" then a * b % 2 ^ w else if s = "&" then a &&& b else if s = "|" then a ||| b else if s = "^" then a ^^^ b
  else if s = "==" then (if a = b then 1 else 0) else if s = "<" then (if a < b then 1 else 0)
  else if s = "<<" then (if b < w then a * 2 ^ b % 2 ^ w else 0) else (if b < w then a / 2 ^ b else 0)
def signsL : List Str := arithL ++ testL ++ shiftL
/-- the value of a row, from registers, memories, the widths, the values of the rows ahead -/
def rowV (rs : List Nat) (ms : List (List Nat)) (ws vs : List Nat) : Row → Nat
  | .lit v _ => v
  | .reg i => rs.getD i 0
  | .look m a => (ms.getD m []).getD (vs.getD a 0) 0
  | .inv a => 2 ^ ws.getD a 0 - 1 - vs.getD a 0
  | .wide a w => vs.getD a 0 % 2 ^ w
  | .part a lo hi => vs.getD a 0 / 2 ^ lo % 2 ^ (hi - lo + 1)
  | .join a b => vs.getD a 0 * 2 ^ ws.getD b 0 + vs.getD b 0
  | .op s a b => opV s (vs.getD a 0) (vs.getD b 0) (ws.getD a 0)
  | .pick t a b => if vs.getD t 0 = 1 then vs.getD a 0 else vs.getD b 0
def rowsV (rs : List Nat) (ms : List (List Nat)) (ws : List Nat) (rows : List Row) : List Nat := rows.foldl (fun vs r => vs ++ [rowV rs ms ws vs r]) []
/-- values below the widths -/
def Bd (vs ws : List Nat) : Prop := ∀ (j v w : Nat), vs[j]? = some v → ws[j]? = some w → v < 2 ^ w
structure RgB (rs : List Nat) (regs : List (Nat × Nat)) : Prop where
  len : rs.length = regs.length
  lt : ∀ (i r : Nat) (p : Nat × Nat), rs[i]? = some r → regs[i]? = some p → r < 2 ^ p.1
structure MmB (ms : List (List Nat)) (mems : List (Nat × Nat)) : Prop where
  len : ms.length = mems.length
  lt : ∀ (i : Nat) (m : List Nat) (p : Nat × Nat), ms[i]? = some m → mems[i]? = some p → m.length = 2 ^ p.1 ∧ ∀ x ∈ m, x < 2 ^ p.2
theorem getD_some {l : List Nat} {i x : Nat} (h : l[i]? = some x) : l.getD i 0 = x := by
  rw [List.getD_eq_getElem?_getD, h]
  rfl
theorem getD_someL {l : List (List Nat)} {i : Nat} {x : List Nat} (h : l[i]? = some x) : l.getD i [] = x := by
  rw [List.getD_eq_getElem?_getD, h]
  rfl
theorem at_len {α β : Type} {xs : List α} {ys : List β} (hl : xs.length = ys.length) {i : Nat} {y : β} (h : ys[i]? = some y) : ∃ x, xs[i]? = some x :=
  ⟨_, List.getElem?_eq_getElem (by rw [hl]; exact (List.getElem?_eq_some_iff.mp h).1)⟩
theorem pow_mono {a b : Nat} (h : a ≤ b) : 2 ^ a ≤ 2 ^ b := Nat.pow_le_pow_right (by decide) h
theorem and_lt {a b w : Nat} (h : a < 2 ^ w) : a &&& b < 2 ^ w := Nat.lt_of_le_of_lt Nat.and_le_left h
theorem opV_arith {s : Str} {a b w : Nat} (hs : s ∈ arithL) (ha : a < 2 ^ w) (hb : b < 2 ^ w) : opV s a b w < 2 ^ w := by
  have hp : 0 < 2 ^ w := Nat.two_pow_pos w
  have hc : s = "+" ∨ s = "-" ∨ s = "*" ∨ s = "&" ∨ s = "|" ∨ s = "^" := by
    unfold arithL at hs
    simpa using hs
  rcases hc with rfl | rfl | rfl | rfl | rfl | rfl
  · exact Nat.mod_lt _ hp
  · show (Int.emod _ _).toNat < _
    have h2 : (0 : Int) < 2 ^ w := by
      have : ((2 ^ w : Nat) : Int) = (2 : Int) ^ w := by simp
      omega
    have h0 := Int.emod_nonneg (((a : Nat) : Int) - ((b : Nat) : Int)) (Int.ne_of_gt h2)
    have h1 := Int.emod_lt_of_pos (((a : Nat) : Int) - ((b : Nat) : Int)) h2
    have e : ((2 ^ w : Nat) : Int) = (2 : Int) ^ w := by simp
    rw [← e] at h1 h0
    show (Int.emod (((a : Nat) : Int) - ((b : Nat) : Int)) ((2 : Int) ^ w)).toNat < 2 ^ w
    rw [← e]
    show ((((a : Nat) : Int) - ((b : Nat) : Int)) % ((2 ^ w : Nat) : Int)).toNat < 2 ^ w
    omega
  · exact Nat.mod_lt _ hp
  · exact and_lt ha
  · exact Nat.or_lt_two_pow ha hb
  · exact Nat.xor_lt_two_pow ha hb
theorem opV_test {s : Str} {a b w : Nat} (hs : s ∈ testL) : opV s a b w < 2 := by
  have hc : s = "==" ∨ s = "<" := by
    unfold testL at hs
    simpa using hs
  rcases hc with rfl | rfl
  · show (if a = b then 1 else 0) < 2
    split <;> omega
  · show (if a < b then 1 else 0) < 2
    split <;> omega
theorem opV_shift {s : Str} {a b w : Nat} (hs : s ∈ shiftL) (ha : a < 2 ^ w) : opV s a b w < 2 ^ w := by
  have hp : 0 < 2 ^ w := Nat.two_pow_pos w
  have hc : s = "<<" ∨ s = ">>" := by
    unfold shiftL at hs
    simpa using hs
  rcases hc with rfl | rfl
  · show (if b < w then a * 2 ^ b % 2 ^ w else 0) < 2 ^ w
    split
    · exact Nat.mod_lt _ hp
    · exact hp
  · show (if b < w then a / 2 ^ b else 0) < 2 ^ w
    split
    · exact Nat.lt_of_le_of_lt (Nat.div_le_self _ _) ha
    · exact hp
theorem mem_getD {m : List Nat} {j B : Nat} (h : ∀ x ∈ m, x < B) (hj : j < m.length) : m.getD j 0 < B := by
  rw [List.getD_eq_getElem?_getD, List.getElem?_eq_getElem hj]
  exact h _ (List.getElem_mem hj)
section
variable {regs mems : List (Nat × Nat)} {ws vs rs : List Nat} {ms : List (List Nat)} {row : Row} {wd : Nat}
theorem rowV_lt (h : RowOk regs mems ws row wd) (hl : vs.length = ws.length) (hb : Bd vs ws) (hR : RgB rs regs) (hM : MmB ms mems) : rowV rs ms ws vs row < 2 ^ wd := by
  have val : ∀ {a x : Nat}, ws[a]? = some x → vs.getD a 0 < 2 ^ x := fun {a x} e => by
    obtain ⟨v, ev⟩ := at_len hl e
    rw [getD_some ev]
    exact hb _ _ _ ev e
  cases h with
  | lit h => exact h
  | @reg i w f h =>
    obtain ⟨r, er⟩ := at_len hR.len h
    show rs.getD i 0 < _
    rw [getD_some er]
    exact hR.lt _ _ _ er h
  | @look m a b w h h2 =>
    obtain ⟨mm, em⟩ := at_len hM.len h
    obtain ⟨l1, l2⟩ := hM.lt _ _ _ em h
    show (ms.getD m []).getD (vs.getD a 0) 0 < _
    rw [getD_someL em]
    exact mem_getD l2 (by rw [l1]; exact val h2)
  | @inv a w h =>
    show 2 ^ ws.getD a 0 - 1 - vs.getD a 0 < _
    rw [getD_some h]
    have := Nat.two_pow_pos wd
    omega
  | wide h => exact Nat.mod_lt _ (Nat.two_pow_pos _)
  | part h _ _ => exact Nat.mod_lt _ (Nat.two_pow_pos _)
  | @join a b x y h h2 =>
    show vs.getD a 0 * 2 ^ ws.getD b 0 + vs.getD b 0 < _
    rw [getD_some h2, Nat.pow_add]
    have h1 := val h
    have h3 := val h2
    have h4 : (vs.getD a 0 + 1) * 2 ^ y ≤ 2 ^ x * 2 ^ y := Nat.mul_le_mul_right _ h1
    rw [Nat.add_mul, Nat.one_mul] at h4
    omega
  | @shift s a b x y hs h h2 =>
    show opV s _ _ (ws.getD a 0) < _
    rw [getD_some h]
    exact opV_shift hs (val h)
  | @arith s a b x hs h h2 =>
    show opV s _ _ (ws.getD a 0) < _
    rw [getD_some h]
    exact opV_arith hs (val h) (val h2)
  | @test s a b x hs h h2 => exact opV_test hs
  | @pick t a b x h0 h h2 =>
    show (if vs.getD t 0 = 1 then vs.getD a 0 else vs.getD b 0) < _
    split
    · exact val h
    · exact val h2
theorem row_mono {ws2 : List Nat} (hx : ∀ (a x : Nat), ws[a]? = some x → ws2[a]? = some x) (h : RowOk regs mems ws row wd) : RowOk regs mems ws2 row wd := by
  cases h with
  | lit h => exact .lit h
  | reg h => exact .reg h
  | look h h2 => exact .look h (hx _ _ h2)
  | inv h => exact .inv (hx _ _ h)
  | wide h => exact .wide (hx _ _ h)
  | part h h2 h3 => exact .part (hx _ _ h) h2 h3
  | join h h2 => exact .join (hx _ _ h) (hx _ _ h2)
  | shift hs h h2 => exact .shift hs (hx _ _ h) (hx _ _ h2)
  | arith hs h h2 => exact .arith hs (hx _ _ h) (hx _ _ h2)
  | test hs h h2 => exact .test hs (hx _ _ h) (hx _ _ h2)
  | pick h0 h h2 => exact .pick (hx _ _ h0) (hx _ _ h) (hx _ _ h2)
/-- the value hangs on the widths and values of rows that are there -/
theorem rowV_take {ws2 : List Nat} (hx : ∀ (a x : Nat), ws[a]? = some x → ws2[a]? = some x) (h : RowOk regs mems ws row wd) : rowV rs ms ws vs row = rowV rs ms ws2 vs row := by
  have val : ∀ {a x : Nat}, ws[a]? = some x → ws.getD a 0 = ws2.getD a 0 := fun {a x} e => by
    rw [getD_some e, getD_some (hx _ _ e)]
  cases h with
  | lit h => rfl
  | reg h => rfl
  | look h h2 => rfl
  | inv h => show _ - 1 - _ = _ - 1 - _; rw [val h]
  | wide h => rfl
  | part h _ _ => rfl
  | join h h2 => show _ * 2 ^ _ + _ = _ * 2 ^ _ + _; rw [val h2]
  | shift hs h h2 => show opV _ _ _ _ = opV _ _ _ _; rw [val h]
  | arith hs h h2 => show opV _ _ _ _ = opV _ _ _ _; rw [val h]
  | test hs h h2 => show opV _ _ _ _ = opV _ _ _ _; rw [val h]
  | pick h0 h h2 => rfl
theorem rows_at {rows : List Row} (h : RowsOk regs mems rows ws) : ∀ (i : Nat) (row : Row), rows[i]? = some row → ∃ wd, ws[i]? = some wd ∧ RowOk regs mems (ws.take i) row wd ∧ 1 ≤ wd ∧ wd ≤ 12 := by
  induction h with
  | nil => intro i row e; simp at e
  | @snoc rows ws r wd h0 hr h1 h2 ih =>
    intro i row e
    have hl := rows_len h0
    by_cases hi : i < rows.length
    · rw [List.getElem?_append_left hi] at e
      obtain ⟨w, a, b, c, d⟩ := ih i row e
      have hi2 : i < ws.length := by omega
      refine ⟨w, by rw [List.getElem?_append_left hi2]; exact a, ?_, c, d⟩
      rw [List.take_append_of_le_length (by omega)]
      exact b
    · rw [List.getElem?_append_right (by omega)] at e
      have e0 : i - rows.length = 0 := by
        have := (List.getElem?_eq_some_iff.mp e).1
        simp at this
        omega
      rw [e0] at e
      have e1 : r = row := by simpa using e
      subst e1
      have ei : i = ws.length := by omega
      subst ei
      refine ⟨wd, by simp, ?_, h1, h2⟩
      rw [List.take_append_of_le_length (Nat.le_refl _), List.take_length]
      exact hr
end
theorem rowsV_snoc (rs : List Nat) (ms : List (List Nat)) (ws : List Nat) (rows : List Row) (r : Row) : rowsV rs ms ws (rows ++ [r]) = rowsV rs ms ws rows ++ [rowV rs ms ws (rowsV rs ms ws rows) r] := by
  unfold rowsV
  rw [List.foldl_append]
  rfl
theorem rowsV_len (rs : List Nat) (ms : List (List Nat)) (ws : List Nat) : ∀ (n : Nat) (rows : List Row), rows.length = n → (rowsV rs ms ws rows).length = n
  | 0, rows, h => by
    rw [List.length_eq_zero_iff.mp h]
    rfl
  | n + 1, rows, h => by
    have hne : rows ≠ [] := fun z => by rw [z] at h; cases h
    rw [← List.dropLast_concat_getLast hne, rowsV_snoc, List.length_append, rowsV_len rs ms ws n _ (by rw [List.length_dropLast]; omega)]
    rfl
theorem take_at {α : Type} {l : List α} {i j : Nat} {x : α} (h : (l.take i)[j]? = some x) : l[j]? = some x := by
  rw [List.getElem?_take] at h
  split at h
  · exact h
  · cases h
theorem take_snoc {α : Type} {l : List α} {i : Nat} {x : α} (h : l[i]? = some x) : l.take (i + 1) = l.take i ++ [x] := by
  rw [List.take_add_one, h]
  rfl
section
variable {regs mems : List (Nat × Nat)} {ws rs : List Nat} {ms : List (List Nat)} {rows : List Row}
theorem rowsV_bd (h : RowsOk regs mems rows ws) (hR : RgB rs regs) (hM : MmB ms mems) : ∀ n, n ≤ rows.length → Bd (rowsV rs ms ws (rows.take n)) (ws.take n)
  | 0, _ => by
    intro j v w e
    rw [List.take_zero] at e
    simp [rowsV] at e
  | n + 1, hn => by
    have ih := rowsV_bd h hR hM n (by omega)
    obtain ⟨row, er⟩ : ∃ row, rows[n]? = some row := ⟨_, List.getElem?_eq_getElem (by omega)⟩
    obtain ⟨wd, a, b, c, d⟩ := rows_at h n row er
    have hl := rows_len h
    have l1 : (rowsV rs ms ws (rows.take n)).length = n := rowsV_len _ _ _ _ _ (by rw [List.length_take]; omega)
    have l2 : (ws.take n).length = n := by rw [List.length_take]; omega
    rw [take_snoc er, take_snoc a, rowsV_snoc]
    intro j v w e f
    by_cases hj : j < n
    · rw [List.getElem?_append_left (by omega)] at e f
      exact ih _ _ _ e f
    · rw [List.getElem?_append_right (by omega)] at e f
      rw [l1] at e
      rw [l2] at f
      have e0 : j - n = 0 := by
        have := (List.getElem?_eq_some_iff.mp e).1
        simp at this
        omega
      rw [e0] at e f
      have e1 := Option.some.inj (show some _ = some v from e)
      have f1 := Option.some.inj (show some _ = some w from f)
      subst e1 f1
      have z := rowV_lt (vs := rowsV rs ms ws (rows.take n)) b (by omega) ih hR hM
      rw [rowV_take (fun _ _ => take_at) b] at z
      exact z
theorem rowsV_all (h : RowsOk regs mems rows ws) (hR : RgB rs regs) (hM : MmB ms mems) : Bd (rowsV rs ms ws rows) ws := by
  have z := rowsV_bd h hR hM rows.length (Nat.le_refl _)
  rw [List.take_length, rows_len h, List.take_length] at z
  exact z
end
/-! ### cycles -/
def storeM (vs : List Nat) (ms : List (List Nat)) (s : Nat × Nat × Nat × Nat) : List (List Nat) :=
  if vs.getD s.2.2.2 0 = 1 then ms.set s.1 ((ms.getD s.1 []).set (vs.getD s.2.1 0) (vs.getD s.2.2.1 0)) else ms
def storesM (vs : List Nat) (ms : List (List Nat)) (ss : List (Nat × Nat × Nat × Nat)) : List (List Nat) := ss.foldl (storeM vs) ms
def pickV (vs : List Nat) (is : List Nat) : List Nat := is.map fun i => vs.getD i 0
def runC (c : Ckt) (ws : List Nat) : Nat → List Nat → List (List Nat) → List (List Nat)
  | 0, _, _ => []
  | n + 1, rs, ms => let vs := rowsV rs ms ws c.rows; pickV vs c.outs :: runC c ws n (pickV vs c.nexts) (storesM vs ms c.stores)
/-- what is behind so many cycles -/
def behC (c : Ckt) (ws : List Nat) : Nat → List Nat → List (List Nat) → List Nat × List (List Nat)
  | 0, rs, ms => (rs, ms)
  | n + 1, rs, ms => behC c ws n (pickV (rowsV rs ms ws c.rows) c.nexts) (storesM (rowsV rs ms ws c.rows) ms c.stores)
theorem behC_succ (c : Ckt) (ws : List Nat) : ∀ (n : Nat) (rs : List Nat) (ms : List (List Nat)), behC c ws (n + 1) rs ms =
    (pickV (rowsV (behC c ws n rs ms).1 (behC c ws n rs ms).2 ws c.rows) c.nexts, storesM (rowsV (behC c ws n rs ms).1 (behC c ws n rs ms).2 ws c.rows) (behC c ws n rs ms).2 c.stores)
  | 0, rs, ms => rfl
  | n + 1, rs, ms => by
    show behC c ws (n + 1) _ _ = _
    rw [behC_succ c ws n]
    rfl
theorem runC_succ (c : Ckt) (ws : List Nat) : ∀ (n : Nat) (rs : List Nat) (ms : List (List Nat)), runC c ws (n + 1) rs ms = runC c ws n rs ms ++ [pickV (rowsV (behC c ws n rs ms).1 (behC c ws n rs ms).2 ws c.rows) c.outs]
  | 0, rs, ms => rfl
  | n + 1, rs, ms => by
    show _ :: runC c ws (n + 1) _ _ = _
    rw [runC_succ c ws n]
    rfl
theorem runC_len (c : Ckt) (ws : List Nat) : ∀ (n : Nat) (rs : List Nat) (ms : List (List Nat)), (runC c ws n rs ms).length = n
  | 0, _, _ => rfl
  | n + 1, rs, ms => by
    show (runC c ws n _ _).length + 1 = _
    rw [runC_len c ws n]
theorem pickV_len (vs is : List Nat) : (pickV vs is).length = is.length := List.length_map _
theorem pickV_at {vs is : List Nat} {j i : Nat} (h : is[j]? = some i) : (pickV vs is)[j]? = some (vs.getD i 0) := by
  unfold pickV
  rw [List.getElem?_map, h]
  rfl
theorem storeM_ok {vs ws : List Nat} {ms : List (List Nat)} {mems : List (Nat × Nat)} {s : Nat × Nat × Nat × Nat} (hb : Bd vs ws) (hl : vs.length = ws.length) (hM : MmB ms mems)
    (hs : ∃ p : Nat × Nat, mems[s.1]? = some p ∧ ws[s.2.1]? = some p.1 ∧ ws[s.2.2.1]? = some p.2 ∧ ws[s.2.2.2]? = some 1) : MmB (storeM vs ms s) mems := by
  unfold storeM
  split
  · obtain ⟨p, h1, h2, h3, h4⟩ := hs
    obtain ⟨m, em⟩ := at_len hM.len h1
    obtain ⟨va, ea⟩ := at_len hl h2
    obtain ⟨vv, ev⟩ := at_len hl h3
    obtain ⟨l1, l2⟩ := hM.lt _ _ _ em h1
    rw [getD_someL em, getD_some ea, getD_some ev]
    refine ⟨by rw [List.length_set]; exact hM.len, fun i m2 p2 e1 e2 => ?_⟩
    rw [List.getElem?_set] at e1
    split at e1
    · rename_i hi
      subst hi
      rw [h1] at e2
      cases e2
      split at e1
      · cases e1
        refine ⟨by rw [List.length_set]; exact l1, fun x hx => ?_⟩
        rcases List.mem_or_eq_of_mem_set hx with z | z
        · exact l2 x z
        · rw [z]
          exact hb _ _ _ ev h3
      · cases e1
    · exact hM.lt _ _ _ e1 e2
  · exact hM
theorem storesM_ok {vs ws : List Nat} {mems : List (Nat × Nat)} (hb : Bd vs ws) (hl : vs.length = ws.length) : ∀ {ss : List (Nat × Nat × Nat × Nat)} {ms : List (List Nat)}, MmB ms mems →
    (∀ s ∈ ss, ∃ p : Nat × Nat, mems[s.1]? = some p ∧ ws[s.2.1]? = some p.1 ∧ ws[s.2.2.1]? = some p.2 ∧ ws[s.2.2.2]? = some 1) → MmB (storesM vs ms ss) mems
  | [], _, hM, _ => hM
  | s :: ss, _, hM, h => storesM_ok (ss := ss) hb hl (storeM_ok hb hl hM (h s (List.mem_cons_self ..))) fun t ht => h t (List.mem_cons_of_mem _ ht)
/-- what running asks of a circuit -/
structure RunOk (c : Ckt) (ws : List Nat) : Prop where
  rw : RowsOk c.regs c.mems c.rows ws
  lw : ws.length ≤ 60
  lr : c.regs.length ≤ 10
  lm : c.mems.length ≤ 10
  nl : c.nexts.length = c.regs.length
  nx : ∀ (i : Nat) (p : Nat × Nat) (n : Nat), c.regs[i]? = some p → c.nexts[i]? = some n → ws[n]? = some p.1
  so : ∀ s ∈ c.stores, ∃ p : Nat × Nat, c.mems[s.1]? = some p ∧ ws[s.2.1]? = some p.1 ∧ ws[s.2.2.1]? = some p.2 ∧ ws[s.2.2.2]? = some 1
  oo : ∀ o ∈ c.outs, o < ws.length
  ol : c.outs.length ≤ 100
theorem CktOk.run {c : Ckt} {ws : List Nat} (h : CktOk c ws) : RunOk c ws := ⟨h.rw, h.lw, by have := h.lr; omega, by have := h.lm; omega, h.nl, h.nx, h.so, h.oo, by have := h.ol; omega⟩
theorem CktOk.probe {c : Ckt} {ws : List Nat} (h : CktOk c ws) : RunOk { c with outs := List.range c.rows.length } ws :=
  ⟨h.rw, h.lw, by have := h.lr; show c.regs.length ≤ 10; omega, by have := h.lm; show c.mems.length ≤ 10; omega, h.nl, h.nx, h.so, fun o ho => by have := List.mem_range.mp ho; rw [rows_len h.rw] at this; exact this, by show (List.range _).length ≤ 100; rw [List.length_range, rows_len h.rw]; have := h.lw; omega⟩
theorem nexts_ok2 {c : Ckt} {ws vs : List Nat} (h : RunOk c ws) (hb : Bd vs ws) (hl : vs.length = ws.length) : RgB (pickV vs c.nexts) c.regs := by
  refine ⟨by rw [pickV_len]; exact h.nl, fun i r p e1 e2 => ?_⟩
  obtain ⟨n, en⟩ := at_len h.nl e2
  rw [pickV_at en] at e1
  cases e1
  have z := h.nx _ _ _ e2 en
  obtain ⟨v, ev⟩ := at_len hl z
  rw [getD_some ev]
  exact hb _ _ _ ev z
theorem beh_ok {c : Ckt} {ws : List Nat} (h : RunOk c ws) : ∀ (n : Nat) {rs : List Nat} {ms : List (List Nat)}, RgB rs c.regs → MmB ms c.mems → RgB (behC c ws n rs ms).1 c.regs ∧ MmB (behC c ws n rs ms).2 c.mems
  | 0, _, _, hR, hM => ⟨hR, hM⟩
  | n + 1, rs, ms, hR, hM => by
    have hl : (rowsV rs ms ws c.rows).length = ws.length := by rw [rowsV_len _ _ _ _ _ rfl, rows_len h.rw]
    have hb := rowsV_all (rs := rs) (ms := ms) h.rw hR hM
    exact beh_ok h n (nexts_ok2 h hb hl) (storesM_ok hb hl hM h.so)
end C1

/-! The operations; worked. -/
namespace C1
open PySem PySem.Spec PyProof.Rows L2 SX
abbrev sAdded : Stmt := topS 10
abbrev sTaken : Stmt := topS 11
abbrev sMultiplied : Stmt := topS 12
abbrev sShiftedUp : Stmt := topS 18
abbrev sShiftedDown : Stmt := topS 19
abbrev sBothBits : Stmt := topS 13
abbrev sAnyBits : Stmt := topS 14
abbrev sOddBits : Stmt := topS 15
abbrev sSame : Stmt := topS 16
abbrev sBelow : Stmt := topS 17
abbrev sWorked : Stmt := topS 21
theorem scMask2 : True := trivial
theorem scAdded : FnScope ["one", "other", "width"] ["one", "other", "width"] (defScope sAdded) := ⟨rfl, rfl, rfl, by decide +kernel, rfl, by decide +kernel, by decide +kernel⟩
theorem scTaken : FnScope ["one", "other", "width"] ["one", "other", "width"] (defScope sTaken) := ⟨rfl, rfl, rfl, by decide +kernel, rfl, by decide +kernel, by decide +kernel⟩
theorem scMultiplied : FnScope ["one", "other", "width"] ["one", "other", "width"] (defScope sMultiplied) := ⟨rfl, rfl, rfl, by decide +kernel, rfl, by decide +kernel, by decide +kernel⟩
theorem scShiftedUp : FnScope ["one", "other", "width"] ["one", "other", "width"] (defScope sShiftedUp) := ⟨rfl, rfl, rfl, by decide +kernel, rfl, by decide +kernel, by decide +kernel⟩
theorem scShiftedDown : FnScope ["one", "other", "width"] ["one", "other", "width"] (defScope sShiftedDown) := ⟨rfl, rfl, rfl, by decide +kernel, rfl, by decide +kernel, by decide +kernel⟩
theorem scBothBits : FnScope ["one", "other", "_"] ["one", "other", "_"] (defScope sBothBits) := ⟨rfl, rfl, rfl, by decide +kernel, rfl, by decide +kernel, by decide +kernel⟩
theorem scAnyBits : FnScope ["one", "other", "_"] ["one", "other", "_"] (defScope sAnyBits) := ⟨rfl, rfl, rfl, by decide +kernel, rfl, by decide +kernel, by decide +kernel⟩
theorem scOddBits : FnScope ["one", "other", "_"] ["one", "other", "_"] (defScope sOddBits) := ⟨rfl, rfl, rfl, by decide +kernel, rfl, by decide +kernel, by decide +kernel⟩
theorem scSame : FnScope ["one", "other", "_"] ["one", "other", "_"] (defScope sSame) := ⟨rfl, rfl, rfl, by decide +kernel, rfl, by decide +kernel, by decide +kernel⟩
theorem scBelow : FnScope ["one", "other", "_"] ["one", "other", "_"] (defScope sBelow) := ⟨rfl, rfl, rfl, by decide +kernel, rfl, by decide +kernel, by decide +kernel⟩
theorem scWorked : FnScope ["node", "sides", "widths", "kind", "operation"] ["node", "sides", "widths"] (defScope sWorked) := ⟨rfl, rfl, rfl, by decide +kernel, rfl, by decide +kernel, by decide +kernel⟩
def OpArg (s : Str) (a b n : Nat) : Prop := n ≤ 32 ∧ a < 2 ^ n ∧ b < 2 ^ 32 ∧ (s ∈ arithL → b < 2 ^ n)
theorem OpArg.a32 {s : Str} {a b n : Nat} (h : OpArg s a b n) : a < 2 ^ 32 := Nat.lt_of_lt_of_le h.2.1 (Nat.pow_le_pow_right (by decide) h.1)
theorem cst (n : Nat) : (2 : Int) ^ n = ((2 ^ n : Nat) : Int) := by
  rw [Int.natCast_pow]
  rfl
theorem vI {x y : Int} (h : x = y) : V.int x = V.int y := by rw [h]
section
variable {P : Program} {w : World} {K : PySem.W.Frag} {mg : Str → Option Value} {base : Heap}
def spOpr (s : Str) : Sp := fun vs H Q _ => ∃ a b n : Nat, vs = [iV a, iV b, iV n] ∧ OpArg s a b n ∧ Q (iV (opV s a b n)) H
section
variable {f fM : Addr} {fd fdM : FuncData} (GM : FnOk P w K mg base CX0 1 fM fdM ["width"] spMask) (kM : PySem.W.keepIn K (.ref fM) = true) (bM : Binds K fdM ["width"] []) (gM : mg "mask" = some (.ref fM))
include GM kM bM gM in
theorem ok_added (F : Fun K "added" "added" sAdded f fd) : FnOk P w K mg base CX0 2 f fd ["one", "other", "width"] (spOpr "+") := by
  refine F.ok scAdded (fun vs H Q E h => ?_) (fun cdv A outer s H vs Q E hr h => ?_)
  · obtain ⟨a, b, n, rfl, _⟩ := h
    rfl
  · obtain ⟨a, b, n, rfl, ho, q⟩ := h
    have hr1 := hr
    refine ⟨_, (pss_one (ps_ret (pe_op op_andM (pe_op op_add (pv 0) (pv 1)) (pe_call GM hr1 (by rfl) gM kM bM .nil pass0 (pa_cons (pv 2) pa_nil))))), ?_⟩
    refine ⟨_, rfl, _, rfl, _, _, rfl, rfl, _, rfl, n, rfl, by have := ho.1; omega, _, n, rfl, rfl, ?_⟩
    have e : iV (opV "+" a b n) = V.int ((((a : Nat) : Int) + ((b : Nat) : Int)) % 2 ^ n) := vI (by
      rw [cst, ← Int.natCast_add, ← Int.natCast_emod]
      rfl)
    rw [e] at q
    exact q
include GM kM bM gM in
theorem ok_taken (F : Fun K "taken" "taken" sTaken f fd) : FnOk P w K mg base CX0 2 f fd ["one", "other", "width"] (spOpr "-") := by
  refine F.ok scTaken (fun vs H Q E h => ?_) (fun cdv A outer s H vs Q E hr h => ?_)
  · obtain ⟨a, b, n, rfl, _⟩ := h
    rfl
  · obtain ⟨a, b, n, rfl, ho, q⟩ := h
    have hr1 := hr
    refine ⟨_, (pss_one (ps_ret (pe_op op_andM (pe_op op_sub (pv 0) (pv 1)) (pe_call GM hr1 (by rfl) gM kM bM .nil pass0 (pa_cons (pv 2) pa_nil))))), ?_⟩
    refine ⟨_, rfl, _, rfl, _, _, rfl, rfl, _, rfl, n, rfl, by have := ho.1; omega, _, n, rfl, rfl, ?_⟩
    have e : iV (opV "-" a b n) = V.int ((((a : Nat) : Int) - ((b : Nat) : Int)) % 2 ^ n) := vI (by
      show ((((((a : Nat) : Int) - ((b : Nat) : Int)) % 2 ^ n).toNat : Nat) : Int) = _
      have h2 : (0 : Int) < 2 ^ n := by
        rw [cst]
        have := Nat.two_pow_pos n
        omega
      exact Int.toNat_of_nonneg (Int.emod_nonneg _ (Int.ne_of_gt h2)))
    rw [e] at q
    exact q
include GM kM bM gM in
theorem ok_multiplied (F : Fun K "multiplied" "multiplied" sMultiplied f fd) : FnOk P w K mg base CX0 2 f fd ["one", "other", "width"] (spOpr "*") := by
  refine F.ok scMultiplied (fun vs H Q E h => ?_) (fun cdv A outer s H vs Q E hr h => ?_)
  · obtain ⟨a, b, n, rfl, _⟩ := h
    rfl
  · obtain ⟨a, b, n, rfl, ho, q⟩ := h
    have hr1 := hr
    have ha := ho.a32
    refine ⟨_, (pss_one (ps_ret (pe_op op_andM (pe_op op_mul (pv 0) (pv 1)) (pe_call GM hr1 (by rfl) gM kM bM .nil pass0 (pa_cons (pv 2) pa_nil))))), ?_⟩
    refine ⟨_, rfl, _, rfl, _, _, rfl, rfl, .inl ⟨by omega, by omega⟩, _, rfl, n, rfl, by have := ho.1; omega, _, n, rfl, rfl, ?_⟩
    have e : iV (opV "*" a b n) = V.int ((((a : Nat) : Int) * ((b : Nat) : Int)) % 2 ^ n) := vI (by
      rw [cst, ← Int.natCast_mul, ← Int.natCast_emod]
      rfl)
    rw [e] at q
    exact q
include GM kM bM gM in
theorem ok_shiftedUp (F : Fun K "shifted_up" "shifted_up" sShiftedUp f fd) : FnOk P w K mg base CX0 2 f fd ["one", "other", "width"] (spOpr "<<") := by
  refine F.ok scShiftedUp (fun vs H Q E h => ?_) (fun cdv A outer s H vs Q E hr h => ?_)
  · obtain ⟨a, b, n, rfl, _⟩ := h
    rfl
  · obtain ⟨a, b, n, rfl, ho, q⟩ := h
    have hr1 := hr
    have ha := ho.a32
    have hn := ho.1
    refine ⟨_, (pss_one (ps_ret (pe_ifExp (pt_cmpR op_lt (pv 1) (pv 2) (nomark _)) (pe_op op_andM (pe_op op_shl (pv 0) (pv 1)) (pe_call GM hr1 (by rfl) gM kM bM .nil pass0 (pa_cons (pv 2) pa_nil))) (pe_int)))), ?_⟩
    refine ⟨_, rfl, _, rfl, _, _, rfl, rfl, _, rfl, ite2 (fun a1 => ?_) (fun a1 => ?_)⟩
    · have hb : b < n := by
        have := of_decide_eq_true a1
        omega
      refine ⟨_, rfl, _, rfl, _, _, rfl, rfl, ⟨by omega, by omega, by omega⟩, _, rfl, n, rfl, by omega, _, n, rfl, rfl, ?_⟩
      have e : iV (opV "<<" a b n) = V.int ((((a : Nat) : Int) * 2 ^ (((b : Nat) : Int)).toNat) % 2 ^ n) := vI (by
        show (((if b < n then a * 2 ^ b % 2 ^ n else 0 : Nat)) : Int) = _
        rw [if_pos hb, Int.toNat_natCast, cst, cst, ← Int.natCast_mul, ← Int.natCast_emod])
      rw [e] at q
      exact q
    · have hb : ¬ b < n := fun z => a1 (decide_eq_true (by omega))
      have e : iV (opV "<<" a b n) = V.int 0 := vI (by
        show (((if b < n then a * 2 ^ b % 2 ^ n else 0 : Nat)) : Int) = _
        rw [if_neg hb]
        rfl)
      rw [e] at q
      exact q
theorem ok_shiftedDown (F : Fun K "shifted_down" "shifted_down" sShiftedDown f fd) : FnOk P w K mg base CX0 1 f fd ["one", "other", "width"] (spOpr ">>") := by
  refine F.ok scShiftedDown (fun vs H Q E h => ?_) (fun cdv A outer s H vs Q E hr h => ?_)
  · obtain ⟨a, b, n, rfl, _⟩ := h
    rfl
  · obtain ⟨a, b, n, rfl, ho, q⟩ := h
    refine ⟨_, (pss_one (ps_ret (pe_ifExp (pt_cmpR op_lt (pv 1) (pv 2) (nomark _)) (pe_op op_shr (pv 0) (pv 1)) (pe_int)))), ?_⟩
    refine ⟨_, rfl, _, rfl, _, _, rfl, rfl, _, rfl, ite2 (fun a1 => ?_) (fun a1 => ?_)⟩
    · have hb : b < n := by
        have := of_decide_eq_true a1
        omega
      refine ⟨_, rfl, _, rfl, _, _, rfl, rfl, by omega, ?_⟩
      have e : iV (opV ">>" a b n) = V.int (((a : Nat) : Int) / 2 ^ (((b : Nat) : Int)).toNat) := vI (by
        show (((if b < n then a / 2 ^ b else 0 : Nat)) : Int) = _
        rw [if_pos hb, Int.toNat_natCast, cst, ← Int.natCast_ediv])
      rw [e] at q
      exact q
    · have hb : ¬ b < n := fun z => a1 (decide_eq_true (by omega))
      have e : iV (opV ">>" a b n) = V.int 0 := vI (by
        show (((if b < n then a / 2 ^ b else 0 : Nat)) : Int) = _
        rw [if_neg hb]
        rfl)
      rw [e] at q
      exact q
theorem ok_bothBits (F : Fun K "both_bits" "both_bits" sBothBits f fd) : FnOk P w K mg base CX0 1 f fd ["one", "other", "_"] (spOpr "&") := by
  refine F.ok scBothBits (fun vs H Q E h => ?_) (fun cdv A outer s H vs Q E hr h => ?_)
  · obtain ⟨a, b, n, rfl, _⟩ := h
    rfl
  · obtain ⟨a, b, n, rfl, ho, q⟩ := h
    refine ⟨_, (pss_one (ps_ret (pe_op op_and (pv 0) (pv 1)))), ?_⟩
    refine ⟨_, rfl, _, rfl, _, _, rfl, rfl, ?_⟩
    have e : iV (opV "&" a b n) = V.int (Builtin.bitAnd ((a : Nat) : Int) ((b : Nat) : Int)) := vI (by
      rw [bitAnd_pp (by omega) (by omega)]
      rfl)
    rw [e] at q
    exact q
theorem ok_anyBits (F : Fun K "any_bits" "any_bits" sAnyBits f fd) : FnOk P w K mg base CX0 1 f fd ["one", "other", "_"] (spOpr "|") := by
  refine F.ok scAnyBits (fun vs H Q E h => ?_) (fun cdv A outer s H vs Q E hr h => ?_)
  · obtain ⟨a, b, n, rfl, _⟩ := h
    rfl
  · obtain ⟨a, b, n, rfl, ho, q⟩ := h
    refine ⟨_, (pss_one (ps_ret (pe_op op_or (pv 0) (pv 1)))), ?_⟩
    refine ⟨_, rfl, _, rfl, _, _, rfl, rfl, ?_⟩
    have e : iV (opV "|" a b n) = V.int (Builtin.bitOr ((a : Nat) : Int) ((b : Nat) : Int)) := vI (by
      rw [Bits.bitOr_pp (by omega) (by omega)]
      rfl)
    rw [e] at q
    exact q
theorem ok_oddBits (F : Fun K "odd_bits" "odd_bits" sOddBits f fd) : FnOk P w K mg base CX0 1 f fd ["one", "other", "_"] (spOpr "^") := by
  refine F.ok scOddBits (fun vs H Q E h => ?_) (fun cdv A outer s H vs Q E hr h => ?_)
  · obtain ⟨a, b, n, rfl, _⟩ := h
    rfl
  · obtain ⟨a, b, n, rfl, ho, q⟩ := h
    refine ⟨_, (pss_one (ps_ret (pe_op op_xor (pv 0) (pv 1)))), ?_⟩
    refine ⟨_, rfl, _, rfl, _, _, rfl, rfl, ?_⟩
    have e : iV (opV "^" a b n) = V.int (Builtin.bitXor ((a : Nat) : Int) ((b : Nat) : Int)) := vI (by
      rw [Bits.bitXor_pp (by omega) (by omega)]
      rfl)
    rw [e] at q
    exact q
theorem ok_same (F : Fun K "same" "same" sSame f fd) (mi : mg "int" = none) : FnOk P w K mg base CX0 1 f fd ["one", "other", "_"] (spOpr "==") := by
  refine F.ok scSame (fun vs H Q E h => ?_) (fun cdv A outer s H vs Q E hr h => ?_)
  · obtain ⟨a, b, n, rfl, _⟩ := h
    rfl
  · obtain ⟨a, b, n, rfl, ho, q⟩ := h
    refine ⟨_, (pss_one (ps_ret (pe_callTy call_int1 (by rfl) mi (by decide +kernel) (pa_cons (pe_cmpR op_eq (pv 0) (pv 1) (nomark _)) pa_nil)))), ?_⟩
    refine ⟨_, rfl, _, rfl, rfl, .inr ⟨_, rfl, ?_⟩⟩
    have e : iV (opV "==" a b n) = V.int (if decide (V.int ((a : Nat) : Int) = V.int ((b : Nat) : Int)) = true then 1 else 0) := vI (by
      show (((if a = b then 1 else 0 : Nat)) : Int) = _
      by_cases h : a = b
      · rw [if_pos h, if_pos (decide_eq_true (by rw [h]))]
        rfl
      · rw [if_neg h, if_neg (c := decide (V.int ((a : Nat) : Int) = V.int ((b : Nat) : Int)) = true) (fun z => h (by have := V.int.inj (of_decide_eq_true z); omega))]
        rfl)
    rw [e] at q
    exact q
theorem ok_below (F : Fun K "below" "below" sBelow f fd) (mi : mg "int" = none) : FnOk P w K mg base CX0 1 f fd ["one", "other", "_"] (spOpr "<") := by
  refine F.ok scBelow (fun vs H Q E h => ?_) (fun cdv A outer s H vs Q E hr h => ?_)
  · obtain ⟨a, b, n, rfl, _⟩ := h
    rfl
  · obtain ⟨a, b, n, rfl, ho, q⟩ := h
    refine ⟨_, (pss_one (ps_ret (pe_callTy call_int1 (by rfl) mi (by decide +kernel) (pa_cons (pe_cmpR op_lt (pv 0) (pv 1) (nomark _)) pa_nil)))), ?_⟩
    refine ⟨_, rfl, _, rfl, _, _, rfl, rfl, .inr ⟨_, rfl, ?_⟩⟩
    have e : iV (opV "<" a b n) = V.int (if decide (((a : Nat) : Int) < ((b : Nat) : Int)) = true then 1 else 0) := vI (by
      show (((if a < b then 1 else 0 : Nat)) : Int) = _
      by_cases h : a < b
      · rw [if_pos h, if_pos (decide_eq_true (by omega))]
        rfl
      · rw [if_neg h, if_neg (fun z => h (by have := of_decide_eq_true z; omega))]
        rfl)
    rw [e] at q
    exact q
end
/-! ### the row's items -/
def Row.vs : Row → List V
  | .lit v w => [.str "lit", iV v, iV w]
  | .reg i => [.str "reg", iV i]
  | .look m a => [.str "look", iV m, iV a]
  | .inv a => [.str "not", iV a]
  | .wide a w => [.str "wide", iV a, iV w]
  | .part a lo hi => [.str "part", iV a, iV lo, iV hi]
  | .join a b => [.str "join", iV a, iV b]
  | .op s a b => [.str "op", .str s, iV a, iV b]
  | .pick t a b => [.str "pick", iV t, iV a, iV b]
def kindOf : Row → Str
  | .lit .. => "lit"
  | .reg .. => "reg"
  | .look .. => "look"
  | .inv .. => "not"
  | .wide .. => "wide"
  | .part .. => "part"
  | .join .. => "join"
  | .op .. => "op"
  | .pick .. => "pick"
theorem vs_kind (r : Row) : r.vs[0]? = some (.str (kindOf r)) := by cases r <;> rfl
def flD : PyData → Option V
  | .int i => some (.int i)
  | .str s => some (.str s)
  | _ => none
theorem dps_flat {H : Hp} : ∀ {vs : List V} {ds : List PyData} {us : List V}, DpAll K H vs ds → ds.map flD = us.map some → vs = us
  | _, _, us, .nil, h => by
    cases us with
    | nil => rfl
    | cons _ _ => cases h
  | _, _, us, .cons (d := d) a b, h => by
    cases us with
    | nil => cases h
    | cons u us =>
      rw [List.map_cons, List.map_cons] at h
      injection h with h1 h2
      rw [dps_flat b h2]
      cases d with
      | int i => cases a; cases h1; rfl
      | str i => cases a; cases h1; rfl
      | _ => cases h1
theorem row_flat (r : Row) : ∃ es, r.d = .tuple es ∧ es.map flD = r.vs.map some := by
  cases r <;> exact ⟨_, rfl, rfl⟩
theorem dp_row {H : Hp} {v : V} {r : Row} (h : Dp K H v r.d) : ∃ b, v = .ref b ∧ SqT K H b r.vs := by
  obtain ⟨es, e1, e2⟩ := row_flat r
  rw [e1] at h
  obtain ⟨b, xs, e, s, a⟩ := dp_tup h
  rw [dps_flat a e2] at s
  exact ⟨b, e, s⟩
theorem sN {a b : Str} (h : a ≠ b) : V.str a ≠ V.str b := fun z => h (V.str.inj z)
theorem kT {A B : Prop} {x y : V} {i : Decidable (x = y)} (h : x = y) (a : A) : if @decide (x = y) i = true then A else B := by
  rw [if_pos (decide_eq_true h)]
  exact a
theorem kF {A B : Prop} {x y : V} {i : Decidable (x = y)} (h : x ≠ y) (b : B) : if @decide (x = y) i = true then A else B := by
  rw [if_neg (fun z => h (of_decide_eq_true z))]
  exact b
inductive WorkAt : Row → List Nat → List Nat → Nat → Prop
  | inv {a x w : Nat} : x < 2 ^ w → w ≤ 32 → WorkAt (.inv a) [x] [w] (2 ^ w - 1 - x)
  | wide {a w x y : Nat} : w ≤ 32 → WorkAt (.wide a w) [x] [y] (x % 2 ^ w)
  | part {a lo hi x y : Nat} : lo ≤ hi → hi ≤ 32 → WorkAt (.part a lo hi) [x] [y] (x / 2 ^ lo % 2 ^ (hi - lo + 1))
  | join {a b x y w u : Nat} : y < 2 ^ u → u ≤ 32 → x < 2 ^ 32 → WorkAt (.join a b) [x, y] [w, u] (x * 2 ^ u + y)
  | op {s : Str} {a b x y w u : Nat} : s ∈ signsL → OpArg s x y w → WorkAt (.op s a b) [x, y] [w, u] (opV s x y w)
  | pick {t a b x y z u v w : Nat} : x ≤ 1 → WorkAt (.pick t a b) [x, y, z] [u, v, w] (if x = 1 then y else z)
def signOf : Row → Str
  | .op s _ _ => s
  | _ => "+"
theorem sign_in {r : Row} {vs ws : List Nat} {z : Nat} (h : WorkAt r vs ws z) : signOf r ∈ signsL := by
  cases h with
  | op h _ => exact h
  | _ => exact List.mem_cons_self ..
def OpsOk (P : Program) (w : World) (K : PySem.W.Frag) (mg : Str → Option Value) (base : Heap) (aO : Addr) : Prop := ∀ s ∈ signsL, ∃ (f : Addr) (fd : FuncData) (ps : List Str), KDct K w aO s (.ref f) ∧ FnOk P w K mg base CX0 2 f fd ps (spOpr s) ∧ PySem.W.keepIn K (.ref f) = true ∧ Binds K fd ps []
def spWorked (K : PySem.W.Frag) : Sp := fun vs H Q _ => ∃ (v : V) (sl wl : Addr) (r : Row) (xs ws : List Nat) (z : Nat), vs = [v, .ref sl, .ref wl] ∧ Dp K H v r.d ∧ SqL K H sl (xs.map iV) ∧ SqL K H wl (ws.map iV) ∧ WorkAt r xs ws z ∧ Q (iV z) H
theorem mask_i (n : Nat) : ((2 ^ n - 1 : Nat) : Int) = 2 ^ n - 1 := by
  rw [cst]
  have := Nat.two_pow_pos n
  omega
theorem ok_worked {f fM aO : Addr} {fd fdM : FuncData} (F : Fun K "worked" "worked" sWorked f fd) (GM : FnOk P w K mg base CX0 1 fM fdM ["width"] spMask) (kM : PySem.W.keepIn K (.ref fM) = true) (bM : Binds K fdM ["width"] []) (gM : mg "mask" = some (.ref fM))
    (gO : mg "OPERATIONS" = some (.ref aO)) (OO : OpsOk P w K mg base aO) : FnOk P w K mg base CX0 3 f fd ["node", "sides", "widths"] (spWorked K) := by
  refine F.ok scWorked (fun vs H Q E h => ?_) (fun cdv A outer s H vs Q E hr h => ?_)
  · obtain ⟨v, sl, wl, r, xs, ws, z, rfl, _⟩ := h
    rfl
  · obtain ⟨v, sl, wl, r, xs, ws, z, rfl, hd, hs, hw, hk, q⟩ := h
    have nd := scWorked.nd
    have hr2 := hr
    have hr1 : Room 1 _ := hr.mono (by decide)
    obtain ⟨f0, fd0, ps0, kd, G0, k0, b0⟩ := OO _ (sign_in hk)
    obtain ⟨b, rfl, sb⟩ := dp_row hd
    refine ⟨_, (pss_cons (ps_set (i := 3) nd rfl (.inl rfl) (pe_ix ix_tup (pv 0) (pe_int) (fun _ _ => rfl)))
      (pss_cons (ps_if (pt_cmpR op_eq (pv 3) (pe_str) (nomark _)) (pss_cons (ps_set (i := 4) nd rfl (.inl rfl) (pe_ix ix_kdict (pe_glob (v := .ref aO) (by rfl) gO rfl) (pe_ix ix_tup (pv 0) (pe_int) (fun _ _ => rfl)) (fun _ _ => rfl)))
      (pss_one (ps_ret (pe_callL (i := 4) G0 hr2 rfl (.inl rfl) k0 b0 .nil pass0 (pa_cons (pe_ix ix_list (pv 1) (pe_int) (fun _ _ => rfl)) (pa_cons (pe_ix ix_list (pv 1) (pe_int) (fun _ _ => rfl)) (pa_cons (pe_ix ix_list (pv 2) (pe_int) (fun _ _ => rfl)) pa_nil))))))) pss_nil)
      (pss_cons (ps_if (pt_cmpR op_eq (pv 3) (pe_str) (nomark _)) (pss_one (ps_ret (pe_ifExp (pt_truth (pe_ix ix_list (pv 1) (pe_int) (fun _ _ => rfl)) (by intro _; rfl)) (pe_ix ix_list (pv 1) (pe_int) (fun _ _ => rfl)) (pe_ix ix_list (pv 1) (pe_int) (fun _ _ => rfl))))) pss_nil)
      (pss_cons (ps_if (pt_cmpR op_eq (pv 3) (pe_str) (nomark _)) (pss_one (ps_ret (pe_op op_xor (pe_ix ix_list (pv 1) (pe_int) (fun _ _ => rfl)) (pe_call GM hr1 (by rfl) gM kM bM .nil pass0 (pa_cons (pe_ix ix_list (pv 2) (pe_int) (fun _ _ => rfl)) pa_nil))))) pss_nil)
      (pss_cons (ps_if (pt_cmpR op_eq (pv 3) (pe_str) (nomark _)) (pss_one (ps_ret (pe_op op_andM (pe_ix ix_list (pv 1) (pe_int) (fun _ _ => rfl)) (pe_call GM hr1 (by rfl) gM kM bM .nil pass0 (pa_cons (pe_ix ix_tup (pv 0) (pe_int) (fun _ _ => rfl)) pa_nil))))) pss_nil)
      (pss_cons (ps_if (pt_cmpR op_eq (pv 3) (pe_str) (nomark _)) (pss_one (ps_ret (pe_op op_andM (pe_op op_shr (pe_ix ix_list (pv 1) (pe_int) (fun _ _ => rfl)) (pe_ix ix_tup (pv 0) (pe_int) (fun _ _ => rfl))) (pe_call GM hr1 (by rfl) gM kM bM .nil pass0 (pa_cons (pe_op op_add (pe_op op_sub (pe_ix ix_tup (pv 0) (pe_int) (fun _ _ => rfl)) (pe_ix ix_tup (pv 0) (pe_int) (fun _ _ => rfl))) (pe_int)) pa_nil))))) pss_nil)
      (pss_one (ps_ret (pe_op op_orL (pe_op op_shl (pe_ix ix_list (pv 1) (pe_int) (fun _ _ => rfl)) (pe_ix ix_list (pv 2) (pe_int) (fun _ _ => rfl))) (pe_ix ix_list (pv 1) (pe_int) (fun _ _ => rfl))))))))))), ?_⟩
    have h0 := vs_kind r
    refine ⟨_, rfl, _, _, _, _, rfl, rfl, sb, atI_nat (j := 0) h0, ?_⟩
    refine ⟨_, rfl, rfl, _, rfl, ?_⟩
    cases hk with
    | @op s a b2 x y w u hs2 ho =>
      refine kT rfl ?_
      refine ⟨_, rfl, _, _, _, _, rfl, rfl, sb, atI_nat (j := 1) rfl, _, _, _, rfl, rfl, kd, ?_⟩
      exact ⟨rfl, _, rfl, sl, _, _, _, rfl, rfl, hs, atI_nat (j := 0) rfl, _, rfl, sl, _, _, _, rfl, rfl, hs, atI_nat (j := 1) rfl, _, rfl, wl, _, _, _, rfl, rfl, hw, atI_nat (j := 0) rfl, x, y, w, rfl, ho, q⟩
    | @pick t a b2 x y z u v w hx =>
      refine kF (sN (a := "pick") (b := "op") (by decide +kernel)) ⟨_, rfl, rfl, _, rfl, ?_⟩
      refine kT rfl ?_
      refine ⟨_, rfl, sl, _, _, _, rfl, rfl, hs, atI_nat (j := 0) rfl, _, rfl, ite2 (fun a1 => ?_) (fun a1 => ?_)⟩
      · have e : x = 1 := by
          have : ((x : Nat) : Int) ≠ 0 := by simpa using a1
          omega
        rw [if_pos e] at q
        exact ⟨_, rfl, sl, _, _, _, rfl, rfl, hs, atI_nat (j := 1) rfl, q⟩
      · have e : ¬ x = 1 := fun z => a1 (by subst z; rfl)
        rw [if_neg e] at q
        exact ⟨_, rfl, sl, _, _, _, rfl, rfl, hs, atI_nat (j := 2) rfl, q⟩
    | @inv a x w hx h32 =>
      refine kF (sN (a := "not") (b := "op") (by decide +kernel)) ⟨_, rfl, rfl, _, rfl, ?_⟩
      refine kF (sN (a := "not") (b := "pick") (by decide +kernel)) ⟨_, rfl, rfl, _, rfl, ?_⟩
      refine kT rfl ?_
      refine ⟨_, rfl, sl, _, _, _, rfl, rfl, hs, atI_nat (j := 0) rfl, _, rfl, wl, _, _, _, rfl, rfl, hw, atI_nat (j := 0) rfl, w, rfl, by omega, _, _, rfl, rfl, ?_⟩
      have e : iV (2 ^ w - 1 - x) = V.int (Builtin.bitXor ((x : Nat) : Int) (2 ^ w - 1)) := vI (by
        rw [bitXor_and, Bits.bitAnd_mask w (by omega), cst, ← Int.natCast_emod, Nat.mod_eq_of_lt hx]
        have := Nat.two_pow_pos w
        omega)
      rw [e] at q
      exact q
    | @wide a w x y h32 =>
      refine kF (sN (a := "wide") (b := "op") (by decide +kernel)) ⟨_, rfl, rfl, _, rfl, ?_⟩
      refine kF (sN (a := "wide") (b := "pick") (by decide +kernel)) ⟨_, rfl, rfl, _, rfl, ?_⟩
      refine kF (sN (a := "wide") (b := "not") (by decide +kernel)) ⟨_, rfl, rfl, _, rfl, ?_⟩
      refine kT rfl ?_
      refine ⟨_, rfl, sl, _, _, _, rfl, rfl, hs, atI_nat (j := 0) rfl, _, rfl, _, _, _, _, rfl, rfl, sb, atI_nat (j := 2) rfl, w, rfl, by omega, _, w, rfl, rfl, ?_⟩
      have e : iV (x % 2 ^ w) = V.int (((x : Nat) : Int) % 2 ^ w) := vI (by rw [cst, ← Int.natCast_emod])
      rw [e] at q
      exact q
    | @part a lo hi x y h1 h2 =>
      refine kF (sN (a := "part") (b := "op") (by decide +kernel)) ⟨_, rfl, rfl, _, rfl, ?_⟩
      refine kF (sN (a := "part") (b := "pick") (by decide +kernel)) ⟨_, rfl, rfl, _, rfl, ?_⟩
      refine kF (sN (a := "part") (b := "not") (by decide +kernel)) ⟨_, rfl, rfl, _, rfl, ?_⟩
      refine kF (sN (a := "part") (b := "wide") (by decide +kernel)) ⟨_, rfl, rfl, _, rfl, ?_⟩
      refine kT rfl ?_
      refine ⟨_, rfl, sl, _, _, _, rfl, rfl, hs, atI_nat (j := 0) rfl, _, rfl, _, _, _, _, rfl, rfl, sb, atI_nat (j := 2) rfl, _, _, rfl, rfl, by omega, _, rfl, _, _, _, _, rfl, rfl, sb, atI_nat (j := 3) rfl, _, rfl, _, _, _, _, rfl, rfl, sb, atI_nat (j := 2) rfl, _, _, rfl, rfl, _, _, rfl, rfl, hi - lo + 1, ?_, by omega, _, hi - lo + 1, rfl, rfl, ?_⟩
      · show [V.int (((hi : Nat) : Int) - ((lo : Nat) : Int) + 1)] = [V.int ((hi - lo + 1 : Nat) : Int)]
        rw [show ((hi : Nat) : Int) - ((lo : Nat) : Int) + 1 = ((hi - lo + 1 : Nat) : Int) by omega]
      have e : iV (x / 2 ^ lo % 2 ^ (hi - lo + 1)) = V.int ((((x : Nat) : Int) / 2 ^ (((lo : Nat) : Int)).toNat) % 2 ^ (hi - lo + 1)) := vI (by rw [Int.toNat_natCast, cst, cst, ← Int.natCast_ediv, ← Int.natCast_emod])
      rw [e] at q
      exact q
    | @join a b2 x y w u hy hu hx =>
      refine kF (sN (a := "join") (b := "op") (by decide +kernel)) ⟨_, rfl, rfl, _, rfl, ?_⟩
      refine kF (sN (a := "join") (b := "pick") (by decide +kernel)) ⟨_, rfl, rfl, _, rfl, ?_⟩
      refine kF (sN (a := "join") (b := "not") (by decide +kernel)) ⟨_, rfl, rfl, _, rfl, ?_⟩
      refine kF (sN (a := "join") (b := "wide") (by decide +kernel)) ⟨_, rfl, rfl, _, rfl, ?_⟩
      refine kF (sN (a := "join") (b := "part") (by decide +kernel)) ?_
      refine ⟨_, rfl, sl, _, _, _, rfl, rfl, hs, atI_nat (j := 0) rfl, _, rfl, wl, _, _, _, rfl, rfl, hw, atI_nat (j := 1) rfl, _, _, rfl, rfl, ⟨by omega, by omega, by omega⟩, _, rfl, sl, _, _, _, rfl, rfl, hs, atI_nat (j := 1) rfl, ((x : Nat) : Int), ((y : Nat) : Int), u, rfl, rfl, ⟨by omega, by omega, ?_⟩, ?_⟩
      · rw [cst]
        omega
      have e : iV (x * 2 ^ u + y) = V.int (((x : Nat) : Int) * 2 ^ u + ((y : Nat) : Int)) := vI (by rw [cst, Int.natCast_add, Int.natCast_mul])
      rw [e] at q
      exact q
end
end C1

/-! widths_of, row_values. -/
namespace C1
open PySem PySem.Spec PyProof.Rows L2 SX
abbrev sWidthsOf : Stmt := topS 27
theorem scWidthsOf : FnScope ["circuit", "widths", "row"] ["circuit"] (defScope sWidthsOf) := ⟨rfl, rfl, rfl, by decide +kernel, rfl, by decide +kernel, by decide +kernel⟩
def parV : Row → List Nat
  | .look _ a => [a]
  | .inv a => [a]
  | .wide a _ => [a]
  | .part a _ _ => [a]
  | .join a b => [a, b]
  | .op _ a b => [a, b]
  | .pick t a b => [t, a, b]
  | _ => []
theorem line200 {n : Nat} (h : n ≤ 1000) : n ≤ sizeLine := by
  rw [sizeLine_eq]
  omega
theorem lineS200 {n : Nat} (h : n ≤ 1000) : n < sizeLine := by
  rw [sizeLine_eq]
  omega
section
variable {K : PySem.W.Frag} {H H' : Hp}
/-- the circuit's parts -/
structure CP (K : PySem.W.Frag) (H : Hp) (cA : Addr) (c : Ckt) : Prop where
  ex : ∃ (r m t n s o : Addr) (rvs mvs tvs svs : List V), SqT K H cA [.ref r, .ref m, .ref t, .ref n, .ref s, .ref o] ∧ (SqT K H r rvs ∧ DpAll K H rvs (c.regs.map pr)) ∧ (SqT K H m mvs ∧ DpAll K H mvs (c.mems.map pr)) ∧ (SqT K H t tvs ∧ DpAll K H tvs (c.rows.map Row.d)) ∧
    SqT K H n (c.nexts.map iV) ∧ (SqT K H s svs ∧ DpAll K H svs (c.stores.map stD)) ∧ SqT K H o (c.outs.map iV)
theorem CP.same {cA : Addr} {c : Ckt} (C : CP K H cA c) (s : Same H H') : CP K H' cA c := by
  obtain ⟨r, m, t, n, ss, o, rvs, mvs, tvs, svs, h0, h1, h2, h3, h4, h5, h6⟩ := C.ex
  have st := same_tup (K := K) s
  exact ⟨r, m, t, n, ss, o, rvs, mvs, tvs, svs, st _ _ h0, ⟨st _ _ h1.1, dps_stay st _ _ h1.2 (noLs_pr _)⟩, ⟨st _ _ h2.1, dps_stay st _ _ h2.2 (noLs_pr _)⟩, ⟨st _ _ h3.1, dps_stay st _ _ h3.2 (noLs_rows _)⟩, st _ _ h4, ⟨st _ _ h5.1, dps_stay st _ _ h5.2 (noLs_st _)⟩, st _ _ h6⟩
theorem dps_ints_eq {vs : List V} {ks : List Nat} (h : DpAll K H vs (ks.map iD)) : vs = ks.map iV := dps_flat h (by rw [List.map_map, List.map_map]; rfl)
theorem CP.of {cA : Addr} {c : Ckt} (h : Dp K H (.ref cA) c.d) : CP K H cA c := by
  obtain ⟨b, xs, e, s, a⟩ := dp_tup h
  cases e
  cases a with
  | cons a1 a => cases a with
  | cons a2 a => cases a with
  | cons a3 a => cases a with
  | cons a4 a => cases a with
  | cons a5 a => cases a with
  | cons a6 a =>
  cases a
  obtain ⟨b1, x1, rfl, s1, d1⟩ := dp_tup a1
  obtain ⟨b2, x2, rfl, s2, d2⟩ := dp_tup a2
  obtain ⟨b3, x3, rfl, s3, d3⟩ := dp_tup a3
  obtain ⟨b4, x4, rfl, s4, d4⟩ := dp_tup a4
  obtain ⟨b5, x5, rfl, s5, d5⟩ := dp_tup a5
  obtain ⟨b6, x6, rfl, s6, d6⟩ := dp_tup a6
  rw [dps_ints_eq d4] at s4
  rw [dps_ints_eq d6] at s6
  exact ⟨b1, b2, b3, b4, b5, b6, x1, x2, x3, x5, s, ⟨s1, d1⟩, ⟨s2, d2⟩, ⟨s3, d3⟩, s4, ⟨s5, d5⟩, s6⟩
theorem CP.ch {cA : Addr} {c : Ckt} (C : CP K H cA c) : CH K H cA c.regs c.mems := by
  obtain ⟨r, m, t, n, ss, o, rvs, mvs, tvs, svs, h0, h1, h2, h3, h4, h5, h6⟩ := C.ex
  exact ⟨r, m, _, rvs, mvs, h0, h1.1, h1.2, h2.1, h2.2⟩
/-- lists of words, each at an address of its own -/
structure ML (H : Hp) (la : List Addr) (ms : List (List Nat)) : Prop where
  len : la.length = ms.length
  nd : la.Nodup
  at' : ∀ (i : Nat) (a : Addr) (m : List Nat), la[i]? = some a → ms[i]? = some m → H a = some (.lst (m.map iV))
theorem ML.same {la : List Addr} {ms : List (List Nat)} (M : ML H la ms) (s : Same H H') : ML H' la ms := ⟨M.len, M.nd, fun i a m h1 h2 => s _ _ (M.at' i a m h1 h2)⟩
/-- [L[i] for i in is] -/
theorem pick_turn {l D : Addr} {is vs : List Nat} {sa j i : Nat} {σ : L2.St} {H1 : Hp} {Nx : Hp → Prop} {i0 : Nat} (hv : SqL K H l (vs.map iV)) (nD : H D = none) (e1 : H1 = upd H D (.lst ((pickV vs (is.take i)).map iV))) (ei : is[i]? = some i0) (hb : i0 < vs.length) (hlen : is.length ≤ 1000)
    (h1 : σ[sa]? = some (some (.ref l))) (h2 : σ[j]? = some (some (iV i0))) (hN : Nx (upd H D (.lst ((pickV vs (is.take (i + 1))).map iV)))) :
    tOp (rIxL K) (tVar sa) (tVar j) σ H1 fun y H4 => ∃ acc, H4 D = some (.lst acc) ∧ acc.length < sizeLine ∧ Nx (upd H4 D (.lst (acc ++ [y]))) := by
  subst e1
  have ev : (vs.map iV)[i0]? = some (iV (vs.getD i0 0)) := by
    rw [List.getElem?_map, List.getElem?_eq_getElem hb, List.getD_eq_getElem?_getD, List.getElem?_eq_getElem hb]
    rfl
  have hl : SqL K (upd H D (.lst ((pickV vs (is.take i)).map iV))) l (vs.map iV) := (same_new nD).seq hv
  refine ⟨_, h1, _, h2, l, _, _, _, rfl, rfl, hl, atI_nat ev, _, upd_same, ?_, ?_⟩
  · rw [List.length_map, pickV_len]
    exact lineS200 (by rw [List.length_take]; omega)
  · rw [upd_upd]
    have e : (pickV vs (is.take i)).map iV ++ [iV (vs.getD i0 0)] = (pickV vs (is.take (i + 1))).map iV := by
      rw [take_snoc ei]
      unfold pickV
      rw [List.map_append, List.map_append]
      rfl
    rw [e]
    exact hN
theorem lc_pickL {a l D : Addr} {is vs : List Nat} {σ : L2.St} {Qd : Hp → Prop} {sa j : Nat} {wv : List Nat} (nD : H D = none) (hl : SqL K H a (is.map iV)) (hv : SqL K H l (vs.map iV)) (hb : ∀ i ∈ is, i < vs.length) (hlen : is.length ≤ 1000)
    (hσ : ∀ x, ((wipe σ wv).set j (some x))[sa]? = some (some (.ref l)) ∧ ((wipe σ wv).set j (some x))[j]? = some (some x) ∧ wipe ((wipe σ wv).set j (some x)) wv = wipe σ wv) (q : Qd (upd H D (.lst ((pickV vs is).map iV)))) :
    ∃ W : Nat → Nat → Hp → Prop, (∃ m, W 0 m (upd H D (.lst []))) ∧ ∀ i m H, W i m H →
      ((Itl K a).stop i H ∧ Qd H) ∨ ((Itl K a).go i H ∧ ∃ Nx : Hp → Prop, (∀ H', Nx H' → ∃ m', m' < m ∧ W (i + 1) m' H') ∧ ∀ x H', (Itl K a).yld i H x H' → gName j x (wipe σ wv) H' fun σ2 H2 => wipe σ2 wv = wipe σ wv ∧ tYes σ2 H2 fun b H3 =>
        if b = true then tOp (rIxL K) (tVar sa) (tVar j) σ2 H3 fun y H4 => ∃ acc, H4 D = some (.lst acc) ∧ acc.length < sizeLine ∧ Nx (upd H4 D (.lst (acc ++ [y]))) else Nx H3) := by
  refine lc_list (xs := is.map iV) (fun i H1 => H1 = upd H D (.lst ((pickV vs (is.take i)).map iV))) rfl (fun i H1 _ h => ?_) (fun i x H1 hx h => ?_) (fun H1 h => ?_)
  · subst h
    exact (same_new nD).seq hl
  · obtain ⟨i0, ei⟩ : ∃ i0, is[i]? = some i0 := by
      rw [List.getElem?_map] at hx
      cases e : is[i]? with
      | none => rw [e] at hx; cases hx
      | some i0 => exact ⟨i0, rfl⟩
    rw [List.getElem?_map, ei] at hx
    cases hx
    obtain ⟨a1, a2, a3⟩ := hσ (iV i0)
    refine ⟨a3, ?_⟩
    exact pick_turn (Nx := fun H2 => H2 = upd H D (.lst ((pickV vs (is.take (i + 1))).map iV))) hv nD h ei (hb _ (List.mem_of_getElem? ei)) hlen a1 a2 rfl
  · subst h
    rw [List.length_map, List.take_length]
    exact q
theorem lc_pickT {a l D : Addr} {is vs : List Nat} {σ : L2.St} {Qd : Hp → Prop} {sa j : Nat} {wv : List Nat} (nD : H D = none) (hl : SqT K H a (is.map iV)) (hv : SqL K H l (vs.map iV)) (hb : ∀ i ∈ is, i < vs.length) (hlen : is.length ≤ 1000)
    (hσ : ∀ x, ((wipe σ wv).set j (some x))[sa]? = some (some (.ref l)) ∧ ((wipe σ wv).set j (some x))[j]? = some (some x) ∧ wipe ((wipe σ wv).set j (some x)) wv = wipe σ wv) (q : Qd (upd H D (.lst ((pickV vs is).map iV)))) :
    ∃ W : Nat → Nat → Hp → Prop, (∃ m, W 0 m (upd H D (.lst []))) ∧ ∀ i m H, W i m H →
      ((Itt K a).stop i H ∧ Qd H) ∨ ((Itt K a).go i H ∧ ∃ Nx : Hp → Prop, (∀ H', Nx H' → ∃ m', m' < m ∧ W (i + 1) m' H') ∧ ∀ x H', (Itt K a).yld i H x H' → gName j x (wipe σ wv) H' fun σ2 H2 => wipe σ2 wv = wipe σ wv ∧ tYes σ2 H2 fun b H3 =>
        if b = true then tOp (rIxL K) (tVar sa) (tVar j) σ2 H3 fun y H4 => ∃ acc, H4 D = some (.lst acc) ∧ acc.length < sizeLine ∧ Nx (upd H4 D (.lst (acc ++ [y]))) else Nx H3) := by
  refine lc_tup (xs := is.map iV) (fun i H1 => H1 = upd H D (.lst ((pickV vs (is.take i)).map iV))) rfl (fun i H1 _ h => ?_) (fun i x H1 hx h => ?_) (fun H1 h => ?_)
  · subst h
    exact same_tup (same_new nD) _ _ hl
  · obtain ⟨i0, ei⟩ : ∃ i0, is[i]? = some i0 := by
      rw [List.getElem?_map] at hx
      cases e : is[i]? with
      | none => rw [e] at hx; cases hx
      | some i0 => exact ⟨i0, rfl⟩
    rw [List.getElem?_map, ei] at hx
    cases hx
    obtain ⟨a1, a2, a3⟩ := hσ (iV i0)
    refine ⟨a3, ?_⟩
    exact pick_turn (Nx := fun H2 => H2 = upd H D (.lst ((pickV vs (is.take (i + 1))).map iV))) hv nD h ei (hb _ (List.mem_of_getElem? ei)) hlen a1 a2 rfl
  · subst h
    rw [List.length_map, List.take_length]
    exact q
end
/-! ### rows -/
section
variable {regs mems : List (Nat × Nat)} {ws vs rs : List Nat} {ms : List (List Nat)} {row : Row} {wd : Nat}
theorem par_ix (hk : kindOf row ∈ kindsP) : ((parV row).map iV).length = (partIx (kindOf row)).length ∧ ∀ (j i : Nat), (partIx (kindOf row))[j]? = some i → row.vs[i]? = ((parV row).map iV)[j]? := by
  have go : ∀ {l : List Nat} {f : Nat → Option V} {g : Nat → Option V}, (∀ j < l.length, ∀ i, l[j]? = some i → f i = g j) → ∀ (j i : Nat), l[j]? = some i → f i = g j := fun h j i e => h j (List.getElem?_eq_some_iff.mp e).1 i e
  cases row with
  | lit => exact absurd hk (by show ("lit" : Str) ∉ kindsP; decide +kernel)
  | reg => exact absurd hk (by show ("reg" : Str) ∉ kindsP; decide +kernel)
  | look m a => exact ⟨rfl, fun j i e => match j, e with | 0, e => by cases e; rfl⟩
  | inv a => exact ⟨rfl, fun j i e => match j, e with | 0, e => by cases e; rfl⟩
  | wide a w => exact ⟨rfl, fun j i e => match j, e with | 0, e => by cases e; rfl⟩
  | part a lo hi => exact ⟨rfl, fun j i e => match j, e with | 0, e => by cases e; rfl⟩
  | join a b => exact ⟨rfl, fun j i e => match j, e with | 0, e => by cases e; rfl | 1, e => by cases e; rfl⟩
  | op s a b => exact ⟨rfl, fun j i e => match j, e with | 0, e => by cases e; rfl | 1, e => by cases e; rfl⟩
  | pick t a b => exact ⟨rfl, fun j i e => match j, e with | 0, e => by cases e; rfl | 1, e => by cases e; rfl | 2, e => by cases e; rfl⟩
theorem par_lt (h : RowOk regs mems ws row wd) : ∀ a ∈ parV row, a < ws.length := by
  have g : ∀ {a x : Nat}, ws[a]? = some x → a < ws.length := fun e => (List.getElem?_eq_some_iff.mp e).1
  have one : ∀ {b : Nat}, b < ws.length → ∀ a ∈ [b], a < ws.length := fun h a ha => by rw [List.mem_singleton.mp ha]; exact h
  have two : ∀ {b c : Nat}, b < ws.length → c < ws.length → ∀ a ∈ [b, c], a < ws.length := fun h1 h2 a ha => by
    rcases List.mem_cons.mp ha with e | e
    · rw [e]; exact h1
    · exact one h2 a e
  cases h with
  | lit h => intro a ha; cases ha
  | reg h => intro a ha; cases ha
  | look h h2 => exact one (g h2)
  | inv h => exact one (g h)
  | wide h => exact one (g h)
  | part h _ _ => exact one (g h)
  | join h h2 => exact two (g h) (g h2)
  | shift hs h h2 => exact two (g h) (g h2)
  | arith hs h h2 => exact two (g h) (g h2)
  | test hs h h2 => exact two (g h) (g h2)
  | pick h0 h h2 =>
    intro a ha
    rcases List.mem_cons.mp ha with e | e
    · rw [e]; exact g h0
    · exact two (g h) (g h2) a e
theorem p2 {w : Nat} (h : w ≤ 12) : 2 ^ w ≤ 4096 := Nat.pow_le_pow_right (by decide) h
theorem work_at (h : RowOk regs mems ws row wd) (hk : kindOf row ∈ kindsF) (hw : WsOk ws) (h2 : wd ≤ 12) (hl : vs.length = ws.length) (hb : Bd vs ws) : WorkAt row (pickV vs (parV row)) (pickV ws (parV row)) (rowV rs ms ws vs row) := by
  have val : ∀ {a x : Nat}, ws[a]? = some x → vs.getD a 0 < 2 ^ x ∧ x ≤ 12 ∧ vs.getD a 0 < 4096 := fun {a x} e => by
    obtain ⟨v, ev⟩ := at_len hl e
    rw [getD_some ev]
    have h1 := hb _ _ _ ev e
    have h2 := (hw x (List.mem_of_getElem? e)).2
    exact ⟨h1, h2, Nat.lt_of_lt_of_le h1 (p2 h2)⟩
  cases h with
  | lit h => exact absurd hk (by show ("lit" : Str) ∉ kindsF; decide +kernel)
  | reg h => exact absurd hk (by show ("reg" : Str) ∉ kindsF; decide +kernel)
  | look h h2 => exact absurd hk (by show ("look" : Str) ∉ kindsF; decide +kernel)
  | @inv a w h =>
    have z := val h
    show WorkAt _ [vs.getD a 0] [ws.getD a 0] (2 ^ ws.getD a 0 - 1 - vs.getD a 0)
    rw [getD_some h]
    exact .inv z.1 (by omega)
  | wide h => exact .wide (by omega)
  | @part a x lo hi h h3 h4 =>
    have z := val h
    exact .part h3 (by omega)
  | @join a b x y h h3 =>
    have z := val h
    have z2 := val h3
    show WorkAt _ [vs.getD a 0, vs.getD b 0] [ws.getD a 0, ws.getD b 0] (vs.getD a 0 * 2 ^ ws.getD b 0 + vs.getD b 0)
    rw [getD_some h3]
    exact .join z2.1 (by omega) (by omega)
  | @shift s a b x y hs h h3 =>
    have z := val h
    have z2 := val h3
    have hn : ∀ s ∈ shiftL, s ∉ arithL := by decide +kernel
    show WorkAt _ [vs.getD a 0, vs.getD b 0] [ws.getD a 0, ws.getD b 0] (opV s (vs.getD a 0) (vs.getD b 0) (ws.getD a 0))
    rw [getD_some h]
    exact .op (by unfold signsL; exact List.mem_append_right _ hs) ⟨by omega, z.1, by omega, fun q => absurd q (hn s hs)⟩
  | @arith s a b x hs h h3 =>
    have z := val h
    have z2 := val h3
    show WorkAt _ [vs.getD a 0, vs.getD b 0] [ws.getD a 0, ws.getD b 0] (opV s (vs.getD a 0) (vs.getD b 0) (ws.getD a 0))
    rw [getD_some h]
    exact .op (by unfold signsL; exact List.mem_append_left _ (List.mem_append_left _ hs)) ⟨by omega, z.1, by omega, fun _ => z2.1⟩
  | @test s a b x hs h h3 =>
    have z := val h
    have z2 := val h3
    show WorkAt _ [vs.getD a 0, vs.getD b 0] [ws.getD a 0, ws.getD b 0] (opV s (vs.getD a 0) (vs.getD b 0) (ws.getD a 0))
    rw [getD_some h]
    exact .op (by unfold signsL; exact List.mem_append_left _ (List.mem_append_right _ hs)) ⟨by omega, z.1, by omega, fun _ => z2.1⟩
  | @pick t a b x h0 h h3 =>
    have z := val h0
    exact .pick (show vs.getD t 0 ≤ 1 by have := z.1; omega)
theorem known_at (h : RowOk regs mems ws row wd) (h2 : wd ≤ 12) : ∃ es, row.d = .tuple es ∧ noLs es = true ∧ KnownAt regs mems ws es wd := by
  have par1 : ∀ {k : Str} {r : List PyData} {a : Nat}, partIx k = [1] → r[0]? = some (iD a) → ∀ (j i : Nat), (partIx k)[j]? = some i → (PyData.str k :: r)[i]? = (([a] : List Nat)[j]?).map iD := fun e hr j i hj => by
    rw [e] at hj
    match j, hj with
    | 0, hj => cases hj; exact hr
  have par2 : ∀ {k : Str} {r : List PyData} {p q a b : Nat}, partIx k = [p, q] → (PyData.str k :: r)[p]? = some (iD a) → (PyData.str k :: r)[q]? = some (iD b) → ∀ (j i : Nat), (partIx k)[j]? = some i → (PyData.str k :: r)[i]? = (([a, b] : List Nat)[j]?).map iD := fun e hp hq j i hj => by
    rw [e] at hj
    match j, hj with
    | 0, hj => cases hj; exact hp
    | 1, hj => cases hj; exact hq
  have w1 : ∀ {a x : Nat}, ws[a]? = some x → ∀ (j n : Nat), ([a] : List Nat)[j]? = some n → ws[n]? = ([x] : List Nat)[j]? := fun e j n hj => match j, hj with
    | 0, hj => by cases hj; exact e
  have w2 : ∀ {a b x y : Nat}, ws[a]? = some x → ws[b]? = some y → ∀ (j n : Nat), ([a, b] : List Nat)[j]? = some n → ws[n]? = ([x, y] : List Nat)[j]? := fun e f j n hj => match j, hj with
    | 0, hj => by cases hj; exact e
    | 1, hj => by cases hj; exact f
  have op2 : ∀ {s : Str} {a b x y z : Nat}, s ∈ strsL → opD (.str s) x y = z → ws[a]? = some x → ws[b]? = some y → KnownAt regs mems ws [.str "op", .str s, iD a, iD b] z := fun {s a b x y z} hsl e h1 h2 => by
    have f : FitAt "op" [.str s, iD a, iD b] [x, y] z := by
      rw [← e]
      exact .op (gd_shaped (n := 1) (d := .str s) (decide_eq_true hsl) (by decide))
    exact .fit (ns := [a, b]) (ks := [x, y]) (by decide +kernel) f rfl (par2 (p := 2) (q := 3) (by decide +kernel) rfl rfl) rfl (w2 h1 h2)
  cases h with
  | lit h => exact ⟨_, rfl, rfl, .lit⟩
  | reg h => exact ⟨_, rfl, rfl, .reg (p := (_, _)) h⟩
  | look h h2 => exact ⟨_, rfl, rfl, .look (p := (_, _)) h⟩
  | @inv a w h => exact ⟨_, rfl, rfl, .fit (ns := [a]) (ks := [wd]) (by decide +kernel) .inv rfl (par1 (by decide +kernel) rfl) rfl (w1 h)⟩
  | @wide a x w h =>
    by_cases h1 : 1 ≤ wd
    · have f : FitAt "wide" [iD a, .int ((wd : Nat) : Int)] [x] wd := by
        have g : FitAt "wide" [iD a, .int ((wd : Nat) : Int)] [x] (if 1 ≤ ((wd : Nat) : Int) ∧ ((wd : Nat) : Int) ≤ 32 then ((wd : Nat) : Int).toNat else 0) := .wide
        rw [if_pos ⟨by omega, by omega⟩, Int.toNat_natCast] at g
        exact g
      exact ⟨_, rfl, rfl, .fit (ns := [a]) (ks := [x]) (by decide +kernel) f rfl (par1 (by decide +kernel) rfl) rfl (w1 h)⟩
    · have e0 : wd = 0 := by omega
      subst e0
      have f : FitAt "wide" [iD a, .int ((0 : Nat) : Int)] [x] 0 := by
        have g : FitAt "wide" [iD a, .int ((0 : Nat) : Int)] [x] (if 1 ≤ ((0 : Nat) : Int) ∧ ((0 : Nat) : Int) ≤ 32 then ((0 : Nat) : Int).toNat else 0) := .wide
        rw [if_neg (by omega)] at g
        exact g
      exact ⟨_, rfl, rfl, .fit (ns := [a]) (ks := [x]) (by decide +kernel) f rfl (par1 (by decide +kernel) rfl) rfl (w1 h)⟩
  | @part a x lo hi h h3 h4 =>
    have f : FitAt "part" [iD a, .int ((lo : Nat) : Int), .int ((hi : Nat) : Int)] [x] (hi - lo + 1) := by
      have g : FitAt "part" [iD a, .int ((lo : Nat) : Int), .int ((hi : Nat) : Int)] [x] (if 0 ≤ ((lo : Nat) : Int) ∧ ((lo : Nat) : Int) ≤ ((hi : Nat) : Int) ∧ ((hi : Nat) : Int) < ((x : Nat) : Int) then (((hi : Nat) : Int) - ((lo : Nat) : Int) + 1).toNat else 0) := .part
      rw [if_pos ⟨by omega, by omega, by omega⟩, show (((hi : Nat) : Int) - ((lo : Nat) : Int) + 1).toNat = hi - lo + 1 by omega] at g
      exact g
    exact ⟨_, rfl, rfl, .fit (ns := [a]) (ks := [x]) (by decide +kernel) f rfl (par1 (by decide +kernel) rfl) rfl (w1 h)⟩
  | @join a b x y h h3 =>
    have f : FitAt "join" [iD a, iD b] [x, y] (x + y) := by
      have g : FitAt "join" [iD a, iD b] [x, y] (if x + y ≤ 32 then x + y else 0) := .join
      rw [if_pos (by omega)] at g
      exact g
    exact ⟨_, rfl, rfl, .fit (ns := [a, b]) (ks := [x, y]) (by decide +kernel) f rfl (par2 (p := 1) (q := 2) (by decide +kernel) rfl rfl) rfl (w2 h h3)⟩
  | @shift s a b x y hs h h3 =>
    exact ⟨_, rfl, rfl, op2 ((by decide +kernel : ∀ s ∈ shiftL, s ∈ strsL) s hs) (by show opW s wd y = wd; exact if_pos hs) h h3⟩
  | @arith s a b x hs h h3 =>
    have h1 : ∀ s ∈ arithL, s ∉ shiftL ∧ s ∉ testL := by decide +kernel
    exact ⟨_, rfl, rfl, op2 ((by decide +kernel : ∀ s ∈ arithL, s ∈ strsL) s hs) (by show opW s wd wd = wd; unfold opW; rw [if_neg (h1 s hs).1, if_pos rfl, if_neg (h1 s hs).2, if_pos hs]) h h3⟩
  | @test s a b x hs h h3 =>
    have h1 : ∀ s ∈ testL, s ∉ shiftL := by decide +kernel
    exact ⟨_, rfl, rfl, op2 ((by decide +kernel : ∀ s ∈ testL, s ∈ strsL) s hs) (by show opW s x x = 1; unfold opW; rw [if_neg (h1 s hs), if_pos rfl, if_pos hs]) h h3⟩
  | @pick t a b x h0 h h3 =>
    have f : FitAt "pick" [iD t, iD a, iD b] [1, wd, wd] wd := by
      have g : FitAt "pick" [iD t, iD a, iD b] [1, wd, wd] (if 1 = 1 ∧ wd = wd then wd else 0) := .pick
      rw [if_pos ⟨rfl, rfl⟩] at g
      exact g
    refine ⟨_, rfl, rfl, .fit (ns := [t, a, b]) (ks := [1, wd, wd]) (by decide +kernel) f rfl (fun j i hj => ?_) rfl (fun j n hj => ?_)⟩
    · have e : partIx "pick" = [1, 2, 3] := by decide +kernel
      rw [e] at hj
      match j, hj with
      | 0, hj => cases hj; rfl
      | 1, hj => cases hj; rfl
      | 2, hj => cases hj; rfl
    · match j, hj with
      | 0, hj => cases hj; exact h0
      | 1, hj => cases hj; exact h
      | 2, hj => cases hj; exact h3
end
section
variable {P : Program} {w : World} {K : PySem.W.Frag} {mg : Str → Option Value} {base : Heap} {aP : Addr}
def spWidthsOf (K : PySem.W.Frag) : Sp := fun vs H Q _ => ∃ (cA : Addr) (c : Ckt) (ws : List Nat), vs = [.ref cA] ∧ CP K H cA c ∧ RowsOk c.regs c.mems c.rows ws ∧ ws.length ≤ 60 ∧ ∀ H' p, Same H H' → H p = none → H' p = some (.lst (ws.map iV)) → Q (.ref p) H'
theorem ok_widthsOf {f fK : Addr} {fd fdK : FuncData} (F : Fun K "widths_of" "widths_of" sWidthsOf f fd) (GK : FnOk P w K mg base CX0 3 fK fdK ["circuit", "widths", "row"] (spKnown K)) (kK : PySem.W.keepIn K (.ref fK) = true) (bK : Binds K fdK ["circuit", "widths", "row"] []) (gK : mg "known_row_width" = some (.ref fK)) :
    FnOk P w K mg base CX0 4 f fd ["circuit"] (spWidthsOf K) := by
  refine F.ok scWidthsOf (fun vs H Q E h => ?_) (fun cdv A outer s H vs Q E hr h => ?_)
  · obtain ⟨cA, c, ws, rfl, _⟩ := h
    rfl
  · obtain ⟨cA, c, ws, rfl, C, hR, lw, q⟩ := h
    have nd := scWidthsOf.nd
    refine ⟨_, (pss_cons (ps_set (i := 1) nd rfl (.inl rfl) (pe_lst pa_nil))
      (C8.pss_cut (ps_for PassesOwn.never rfl (pi_tup (pe_ix ix_tup (pv 0) (pe_int) (fun _ _ => rfl))) (pg_name (i := 2) nd rfl (.inl rfl)) (pss_one (ps_expr (pe_bm PySem.F.plainAttrs_list PySem.F.slot_list_append PySem.F.type_list_append mt_append (pv 1) (pa_cons (pe_call GK hr (by rfl) gK kK bK .nil pass0 (pa_cons (pv 0) (pa_cons (pv 1) (pa_cons (pv 2) pa_nil)))) pa_nil)))))
      (pss_one (ps_ret (pv 1))))), ?_⟩
    refine ⟨Nat.zero_le _, fun L nL => ?_⟩
    have C1 := C.same (same_new (o := .lst []) nL)
    obtain ⟨r, m, t, n, ss, o, rvs, mvs, tvs, svs, h0, h1, h2, h3, h4, h5, h6⟩ := C1.ex
    have hl := rows_len hR
    have lt := dps_len h3.2
    rw [List.length_map] at lt
    refine ⟨fun σ H' => ∃ y2, σ = [some (.ref cA), some (.ref L), y2] ∧ Same H H' ∧ H' L = some (.lst (ws.map iV)), ?_, ?_⟩
    · refine ⟨_, rfl, _, _, _, _, rfl, rfl, h0, atI_nat (j := 2) rfl, t, rfl, ⟨_, h3.1⟩, ?_⟩
      refine for_tup (xs := tvs) (fun i σ H' => ∃ y2, σ = [some (.ref cA), some (.ref L), y2] ∧ Same H H' ∧ Same (upd H L (.lst [])) (upd H' L (.lst [])) ∧ H' L = some (.lst ((ws.take i).map iV))) ⟨none, rfl, same_new nL, by rw [upd_upd]; exact Same.refl _, upd_same⟩ (fun i σ H1 _ hh => ?_) (fun i x σ H1 hx hh => ?_) (fun σ H1 hh => ?_)
      · obtain ⟨y2, rfl, s1, s2, e⟩ := hh
        have : SqT K (upd H1 L (.lst [])) t tvs := same_tup s2 _ _ h3.1
        rcases this with (z | ⟨u, z⟩) | z
        · refine .inl (.inl ?_)
          rw [upd_ne (ne_of z upd_same (by intro q; cases q))] at z
          exact z
        · refine .inl (.inr ⟨u, ?_⟩)
          rw [upd_ne (ne_of z upd_same (by intro q; cases q))] at z
          exact z
        · exact .inr z
      · obtain ⟨y2, rfl, s1, s2, e⟩ := hh
        obtain ⟨row, er⟩ : ∃ row, c.rows[i]? = some row := at_len lt.symm hx
        have C2 := C.same s1
        obtain ⟨wd, ew, hro, b1, b2⟩ := rows_at hR i row er
        obtain ⟨es, e1, e2, e3⟩ := known_at hro b2
        have hdrow : Dp K H1 x (.tuple es) := by
          rw [← e1]
          obtain ⟨x', ex', dx'⟩ := dps_put (dps_stay (same_tup s2) _ _ h3.2 (noLs_rows _)) (show (c.rows.map Row.d)[i]? = some row.d by rw [List.getElem?_map, er]; rfl)
          rw [hx] at ex'
          cases ex'
          refine dp_stay (fun a xs h => ?_) _ _ dx' (Row.noL _)
          rcases h with (z | ⟨u, z⟩) | z
          · refine .inl (.inl ?_)
            rw [upd_ne (ne_of z upd_same (by intro q; cases q))] at z
            exact z
          · refine .inl (.inr ⟨u, ?_⟩)
            rw [upd_ne (ne_of z upd_same (by intro q; cases q))] at z
            exact z
          · exact .inr z
        refine ⟨_, rfl, .inl ⟨rfl, _, SqL.of e⟩, _, rfl, _, rfl, _, rfl, cA, L, x, c.regs, c.mems, ws.take i, es, wd, rfl, C2.ch, e, hdrow, e2, e3, fun H2 s3 => ?_⟩
        refine ⟨L, _, _, rfl, rfl, s3 _ _ e, by rw [List.length_map]; exact lineS200 (by rw [List.length_take]; omega), ?_⟩
        refine ⟨_, rfl, fun b o hb => ?_, fun b o hb => ?_, ?_⟩
        · rw [upd_ne (ne_of_none hb nL)]
          exact s3 _ _ (s1 _ _ hb)
        · by_cases hbL : b = L
          · subst hbL
            rw [upd_same] at hb ⊢
            exact hb
          · rw [upd_ne hbL] at hb
            rw [upd_ne hbL, upd_ne hbL]
            exact s3 _ _ (s1 _ _ hb)
        · rw [upd_same, take_snoc ew, List.map_append]
          rfl
      · obtain ⟨y2, rfl, s1, s2, e⟩ := hh
        refine ⟨y2, rfl, s1, ?_⟩
        rw [e, lt, hl, List.take_length]
    · rintro σ H1 ⟨y2, rfl, s1, e⟩
      exact ⟨_, rfl, q H1 L s1 nL e⟩
end
end C1

/-! row_values. -/
namespace C1
open PySem PySem.Spec PyProof.Rows L2 SX
abbrev sRowValues : Stmt := topS 40
theorem scRowValues : FnScope ["circuit", "widths", "regs", "memories", "worths", "row", "kind", "sides", "side"] ["circuit", "widths", "regs", "memories"] (defScope sRowValues) := ⟨rfl, rfl, rfl, by decide +kernel, rfl, by decide +kernel, by decide +kernel⟩
abbrev NRV : List Str := ["circuit", "widths", "regs", "memories", "worths", "row", "kind", "sides", "side"]
theorem parV_len (r : Row) : (parV r).length ≤ 3 := by cases r <;> simp [parV]
theorem pickV_take {ws : List Nat} {i : Nat} {is : List Nat} (h : ∀ a ∈ is, a < (ws.take i).length) : pickV (ws.take i) is = pickV ws is := by
  unfold pickV
  refine List.map_congr_left fun a ha => ?_
  have hl := h a ha
  have e : (ws.take i)[a]? = ws[a]? := by
    rw [List.getElem?_take, if_pos (by rw [List.length_take] at hl; omega)]
  rw [List.getD_eq_getElem?_getD, List.getD_eq_getElem?_getD, e]
section
variable {P : Program} {w : World} {K : PySem.W.Frag} {mg : Str → Option Value} {base : Heap} {aP : Addr}
theorem CP.row {H H' : Hp} {cA : Addr} {c : Ckt} (C : CP K H cA c) : ∃ (t : Addr) (r m : Addr) (rest : List V) (tvs : List V), SqT K H cA (.ref r :: .ref m :: .ref t :: rest) ∧ SqT K H t tvs ∧ tvs.length = c.rows.length ∧ ∀ (i : Nat) (row : Row), c.rows[i]? = some row → ∃ b, tvs[i]? = some (.ref b) ∧ SqT K H b row.vs := by
  obtain ⟨r, m, t, n, ss, o, rvs, mvs, tvs, svs, h0, h1, h2, h3, h4, h5, h6⟩ := C.ex
  have lt := dps_len h3.2
  rw [List.length_map] at lt
  refine ⟨t, r, m, _, tvs, h0, h3.1, lt, fun i row er => ?_⟩
  obtain ⟨x, ex, dx⟩ := dps_put h3.2 (show (c.rows.map Row.d)[i]? = some row.d by rw [List.getElem?_map, er]; rfl)
  obtain ⟨b, rfl, sb⟩ := dp_row dx
  exact ⟨b, ex, sb⟩
theorem CP.rowd {H : Hp} {cA : Addr} {c : Ckt} (C : CP K H cA c) : ∃ (t : Addr) (r m : Addr) (rest : List V) (tvs : List V), SqT K H cA (.ref r :: .ref m :: .ref t :: rest) ∧ SqT K H t tvs ∧ tvs.length = c.rows.length ∧ ∀ (i : Nat) (row : Row), c.rows[i]? = some row → ∃ b, tvs[i]? = some (.ref b) ∧ SqT K H b row.vs ∧ Dp K H (.ref b) row.d := by
  obtain ⟨r, m, t, n, ss, o, rvs, mvs, tvs, svs, h0, h1, h2, h3, h4, h5, h6⟩ := C.ex
  have lt := dps_len h3.2
  rw [List.length_map] at lt
  refine ⟨t, r, m, _, tvs, h0, h3.1, lt, fun i row er => ?_⟩
  obtain ⟨x, ex, dx⟩ := dps_put h3.2 (show (c.rows.map Row.d)[i]? = some row.d by rw [List.getElem?_map, er]; rfl)
  obtain ⟨b, rfl, sb⟩ := dp_row dx
  exact ⟨b, ex, sb, dx⟩
def spRowValues (K : PySem.W.Frag) : Sp := fun vs H Q _ => ∃ (cA wl rg mm : Addr) (c : Ckt) (ws rs : List Nat) (ms : List (List Nat)) (la : List Addr), vs = [.ref cA, .ref wl, .ref rg, .ref mm] ∧ CP K H cA c ∧ RunOk c ws ∧ SqL K H wl (ws.map iV) ∧ SqL K H rg (rs.map iV) ∧ SqL K H mm (la.map V.ref) ∧ ML H la ms ∧ RgB rs c.regs ∧ MmB ms c.mems ∧
  ∀ H' p, Same H H' → H p = none → H' p = some (.lst ((rowsV rs ms ws c.rows).map iV)) → Q (.ref p) H'
theorem ok_rowValues {f fP fW : Addr} {fd fdP fdW : FuncData} (F : Fun K "row_values" "row_values" sRowValues f fd) (GP : FnOk P w K mg base CX0 1 fP fdP ["tree"] (spParts K w aP)) (kP : PySem.W.keepIn K (.ref fP) = true) (bP : Binds K fdP ["tree"] []) (gP : mg "parts" = some (.ref fP))
    (GW : FnOk P w K mg base CX0 3 fW fdW ["node", "sides", "widths"] (spWorked K)) (kW : PySem.W.keepIn K (.ref fW) = true) (bW : Binds K fdW ["node", "sides", "widths"] []) (gW : mg "worked" = some (.ref fW)) (PT : PtOk K w aP) :
    FnOk P w K mg base CX0 4 f fd ["circuit", "widths", "regs", "memories"] (spRowValues K) := by
  refine F.ok scRowValues (fun vs H Q E h => ?_) (fun cdv A outer s H vs Q E hr h => ?_)
  · obtain ⟨cA, wl, rg, mm, c, ws, rs, ms, la, rfl, _⟩ := h
    rfl
  · obtain ⟨cA, wl, rg, mm, c, ws, rs, ms, la, rfl, C, R, hwl, hrg, hmm, M, bR, bM, q⟩ := h
    have nd := scRowValues.nd
    have hr3 := hr
    have hr1 : Room 1 _ := hr.mono (by decide)
    refine ⟨_, (pss_cons (ps_set (i := 4) nd rfl (.inr rfl) (pe_lst pa_nil))
      (C8.pss_cut (ps_for PassesOwn.never rfl (pi_tup (pe_ix ix_tup (pv 0) (pe_int) (fun _ _ => rfl))) (pg_name (i := 5) nd rfl (.inl rfl)) (pss_cons (ps_set (i := 6) nd rfl (.inl rfl) (pe_ix ix_tup (pv 5) (pe_int) (fun _ _ => rfl)))
      (pss_one (ps_if (pt_cmpR op_eq (pv 6) (pe_str) (nomark _)) (pss_one (ps_expr (pe_bm PySem.F.plainAttrs_list PySem.F.slot_list_append PySem.F.type_list_append mt_append (pv 4) (pa_cons (pe_ix ix_tup (pv 5) (pe_int) (fun _ _ => rfl)) pa_nil)))) (pss_one (ps_if (pt_cmpR op_eq (pv 6) (pe_str) (nomark _)) (pss_one (ps_expr (pe_bm PySem.F.plainAttrs_list PySem.F.slot_list_append PySem.F.type_list_append mt_append (pv 4) (pa_cons (pe_ix ix_list (pv 2) (pe_ix ix_tup (pv 5) (pe_int) (fun _ _ => rfl)) (fun _ _ => rfl)) pa_nil)))) (pss_one (ps_if (pt_cmpR op_eq (pv 6) (pe_str) (nomark _)) (pss_one (ps_expr (pe_bm PySem.F.plainAttrs_list PySem.F.slot_list_append PySem.F.type_list_append mt_append (pv 4) (pa_cons (pe_ix ix_list (pe_ix ix_list (pv 3) (pe_ix ix_tup (pv 5) (pe_int) (fun _ _ => rfl)) (fun _ _ => rfl)) (pe_ix ix_list (pv 4) (pe_ix ix_tup (pv 5) (pe_int) (fun _ _ => rfl)) (fun _ _ => rfl)) (fun _ _ => rfl)) pa_nil)))) (pss_cons (ps_set (i := 7) nd rfl (.inl rfl) (pe_call GP hr1 (by rfl) gP kP bP .nil pass0 (pa_cons (pv 5) pa_nil)))
      (pss_one (ps_expr (pe_bm PySem.F.plainAttrs_list PySem.F.slot_list_append PySem.F.type_list_append mt_append (pv 4) (pa_cons (pe_call GW hr3 (by rfl) gW kW bW .nil pass0 (pa_cons (pv 5) (pa_cons (pe_lc (own := [("side", 8)]) (g := gName 8) (tt := tYes) (te := tOp (rIxL K) (tVar 4) (tVar 8))  rfl nd (pi_list (pv 7)) (blkOk_by (own := [("side", 8)]) (N := NRV) (sc := defScope sRowValues) (by decide +kernel)) (fun _ _ _ _ _ => pg_name (i := 8) nd rfl (.inl rfl)) (fun _ _ _ _ _ => pts_nil) (fun _ _ _ _ _ => by exact (pe_ix ix_list (pv 4) (pv 8) (fun _ _ => rfl)))) (pa_cons (pe_lc (own := [("side", 8)]) (g := gName 8) (tt := tYes) (te := tOp (rIxL K) (tVar 1) (tVar 8))  rfl nd (pi_list (pv 7)) (blkOk_by (own := [("side", 8)]) (N := NRV) (sc := defScope sRowValues) (by decide +kernel)) (fun _ _ _ _ _ => pg_name (i := 8) nd rfl (.inl rfl)) (fun _ _ _ _ _ => pts_nil) (fun _ _ _ _ _ => by exact (pe_ix ix_list (pv 1) (pv 8) (fun _ _ => rfl)))) pa_nil)))) pa_nil)))))))))))))
      (pss_one (ps_ret (pv 4))))), ?_⟩
    refine ⟨Nat.zero_le _, fun L nL => ?_⟩
    obtain ⟨t, r0, m0, rest, tvs, h0, h3, lt, hrow⟩ := C.rowd
    have hl := rows_len R.rw
    have s0 : Same H (upd H L (.lst [])) := same_new nL
    have lw := R.lw
    refine ⟨fun σ H' => ∃ y5 y6 y7, σ = [some (.ref cA), some (.ref wl), some (.ref rg), some (.ref mm), some (.ref L), y5, y6, y7, none] ∧ Same H H' ∧ H' L = some (.lst ((rowsV rs ms ws c.rows).map iV)), ?_, ?_⟩
    · refine ⟨_, rfl, _, _, _, _, rfl, rfl, same_tup s0 _ _ h0, atI_nat (j := 2) rfl, t, rfl, ⟨_, same_tup s0 _ _ h3⟩, ?_⟩
      refine for_tup (xs := tvs) (fun i σ H' => ∃ y5 y6 y7, σ = [some (.ref cA), some (.ref wl), some (.ref rg), some (.ref mm), some (.ref L), y5, y6, y7, none] ∧ Same H H' ∧ H' L = some (.lst ((rowsV rs ms ws (c.rows.take i)).map iV))) ⟨none, none, none, rfl, s0, upd_same⟩ (fun i σ H1 _ hh => ?_) (fun i x σ H1 hx hh => ?_) (fun σ H1 hh => ?_)
      · obtain ⟨y5, y6, y7, rfl, s1, e⟩ := hh
        exact same_tup s1 _ _ h3
      · obtain ⟨y5, y6, y7, rfl, s1, e⟩ := hh
        obtain ⟨row, er⟩ : ∃ row, c.rows[i]? = some row := at_len lt.symm hx
        obtain ⟨b, eb, sb0, db0⟩ := hrow i row er
        rw [hx] at eb
        cases eb
        have hi : i < c.rows.length := (List.getElem?_eq_some_iff.mp er).1
        obtain ⟨wd, ew, hro, b1, b2⟩ := rows_at R.rw i row er
        obtain ⟨vals, evs⟩ : ∃ vals, vals = rowsV rs ms ws (c.rows.take i) := ⟨_, rfl⟩
        have hbd := rowsV_bd (rs := rs) (ms := ms) R.rw bR bM i (by omega)
        have lv : vals.length = i := by rw [evs]; exact rowsV_len _ _ _ _ _ (by rw [List.length_take]; omega)
        have lwt : (ws.take i).length = i := by rw [List.length_take]; omega
        rw [← evs] at e hbd
        have sb := same_tup s1 _ _ sb0
        have hrv : rowV rs ms (ws.take i) vals row = rowV rs ms ws vals row := rowV_take (fun _ _ => take_at) hro
        have fin : ∀ {H2 : Hp} {v : Nat} {y6 y7 : Option V}, Same H1 H2 → v = rowV rs ms ws vals row → ∃ l xs y, V.ref L = V.ref l ∧ [iV v] = [y] ∧ H2 l = some (.lst xs) ∧ xs.length < sizeLine ∧ (∃ z5 z6 z7, [some (V.ref cA), some (.ref wl), some (.ref rg), some (.ref mm), some (.ref L), some (.ref b), y6, y7, none] = [some (V.ref cA), some (.ref wl), some (.ref rg), some (.ref mm), some (.ref L), z5, z6, z7, none] ∧ Same H (upd H2 l (.lst (xs ++ [y]))) ∧ (upd H2 l (.lst (xs ++ [y]))) L = some (.lst ((rowsV rs ms ws (c.rows.take (i + 1))).map iV))) := fun {H2 v y6 y7} s2 ev => by
          refine ⟨L, _, _, rfl, rfl, s2 _ _ e, by rw [List.length_map]; exact lineS200 (by omega), _, _, _, rfl, same_put (s1.trans s2) nL, ?_⟩
          rw [upd_same, take_snoc er, rowsV_snoc, ← evs, List.map_append, ev]
          rfl
        refine ⟨_, rfl, _, _, _, _, rfl, rfl, sb, atI_nat (j := 0) (vs_kind row), ?_⟩
        refine ⟨_, rfl, rfl, _, rfl, ?_⟩
        by_cases hkf : kindOf row ∈ kindsF
        · have hkn : ∀ s : Str, s ∉ kindsF → kindOf row ≠ s := fun s h e => h (e ▸ hkf)
          refine kF (sN (hkn "lit" (by decide +kernel))) ⟨_, rfl, rfl, _, rfl, kF (sN (hkn "reg" (by decide +kernel))) ⟨_, rfl, rfl, _, rfl, kF (sN (hkn "look" (by decide +kernel))) ?_⟩⟩
          have hkp : kindOf row ∈ kindsP := (by decide +kernel : ∀ k ∈ kindsF, k ∈ kindsP) _ hkf
          obtain ⟨tt, kd, ht⟩ := PT _ hkp
          obtain ⟨p1, p2⟩ := par_ix (row := row) hkp
          have pl := par_lt hro
          rw [lwt] at pl
          have l3 := parV_len row
          refine ⟨_, rfl, b, tt, row.vs, (parV row).map iV, kindOf row, partIx (kindOf row), rfl, sb, vs_kind row, kd, ht, by have := partIx_len (kindOf row); omega, p1, p2, fun p np => ?_⟩
          have s2 : Same H1 (upd H1 p (.lst ((parV row).map iV))) := same_new np
          refine ⟨_, rfl, .inl ⟨rfl, _, SqL.of (s2 _ _ e)⟩, ?_⟩
          refine ⟨_, rfl, _, rfl, p, rfl, ⟨_, SqL.of upd_same⟩, fun D1 nD1 => ?_⟩
          refine lc_pickL (is := parV row) (vs := vals) (l := L) nD1 (SqL.of upd_same) (SqL.of (s2 _ _ e)) (fun a ha => by rw [lv]; exact pl a ha) (by omega) (fun x => ⟨rfl, rfl, rfl⟩) ?_
          have s3 : Same H1 (upd (upd H1 p (.lst ((parV row).map iV))) D1 (.lst ((pickV vals (parV row)).map iV))) := s2.trans (same_new nD1)
          have ep : (upd (upd H1 p (.lst ((parV row).map iV))) D1 (.lst ((pickV vals (parV row)).map iV))) p = some (.lst ((parV row).map iV)) := (same_new nD1) _ _ upd_same
          refine ⟨_, rfl, p, rfl, ⟨_, SqL.of ep⟩, fun D2 nD2 => ?_⟩
          refine lc_pickL (is := parV row) (vs := ws) (l := wl) nD2 (SqL.of ep) ((s1.trans s3).seq hwl) (fun a ha => by have := pl a ha; omega) (by omega) (fun x => ⟨rfl, rfl, rfl⟩) ?_
          have s4 := s3.trans (same_new (o := .lst ((pickV ws (parV row)).map iV)) nD2)
          have eD1 : (upd (upd (upd H1 p (.lst ((parV row).map iV))) D1 (.lst ((pickV vals (parV row)).map iV))) D2 (.lst ((pickV ws (parV row)).map iV))) D1 = some (.lst ((pickV vals (parV row)).map iV)) := (same_new nD2) _ _ upd_same
          have wk := work_at (rs := rs) (ms := ms) hro hkf (fun x hx => rows_ws R.rw x (List.mem_of_mem_take hx)) b2 (by rw [lv, lwt]) hbd
          rw [pickV_take (by rw [lwt]; exact pl), hrv] at wk
          refine ⟨.ref b, D1, D2, row, pickV vals (parV row), pickV ws (parV row), _, rfl, dp_stay (same_tup (s1.trans s4)) _ _ db0 (Row.noL _), SqL.of eD1, SqL.of upd_same, wk, ?_⟩
          exact fin s4 rfl
        · cases hro with
          | @lit v w hv =>
            refine kT rfl ⟨_, rfl, .inl ⟨rfl, _, SqL.of e⟩, _, rfl, _, _, _, _, rfl, rfl, sb, atI_nat (j := 1) rfl, ?_⟩
            exact fin (Same.refl _) rfl
          | @reg i0 w f0 hg =>
            refine kF (sN (a := "reg") (b := "lit") (by decide +kernel)) ⟨_, rfl, rfl, _, rfl, kT rfl ?_⟩
            obtain ⟨rv, erv⟩ := at_len bR.len hg
            refine ⟨_, rfl, .inl ⟨rfl, _, SqL.of e⟩, _, rfl, _, rfl, _, _, _, _, rfl, rfl, sb, atI_nat (j := 1) rfl, _, _, _, _, rfl, rfl, s1.seq hrg, atI_nat (int_at erv), ?_⟩
            exact fin (Same.refl _) (by show rv = rs.getD i0 0; rw [getD_some erv])
          | @look m a b0 w hg ha =>
            refine kF (sN (a := "look") (b := "lit") (by decide +kernel)) ⟨_, rfl, rfl, _, rfl, kF (sN (a := "look") (b := "reg") (by decide +kernel)) ⟨_, rfl, rfl, _, rfl, kT rfl ?_⟩⟩
            obtain ⟨mv, emv⟩ := at_len bM.len hg
            obtain ⟨lm, elm⟩ := at_len M.len emv
            obtain ⟨va, eva⟩ := at_len (show vals.length = (ws.take i).length by rw [lv, lwt]) ha
            have hva := hbd _ _ _ eva ha
            obtain ⟨ml, _⟩ := bM.lt _ _ _ emv hg
            obtain ⟨xv, hx2⟩ : ∃ xv, mv[va]? = some xv := ⟨_, List.getElem?_eq_getElem (show va < mv.length by rw [ml]; exact hva)⟩
            have e2 : H1 lm = some (.lst (mv.map iV)) := s1 _ _ (M.at' _ _ _ elm emv)
            refine ⟨_, rfl, .inl ⟨rfl, _, SqL.of e⟩, _, rfl, _, rfl, _, _, _, _, rfl, rfl, sb, atI_nat (j := 1) rfl, mm, _, _, _, rfl, rfl, s1.seq hmm, atI_nat (j := m) (show (la.map V.ref)[m]? = some (.ref lm) by rw [List.getElem?_map, elm]; rfl), _, rfl, _, rfl, _, _, _, _, rfl, rfl, sb, atI_nat (j := 2) rfl, L, _, _, _, rfl, rfl, SqL.of e, atI_nat (int_at eva), lm, _, _, _, rfl, rfl, SqL.of e2, atI_nat (int_at hx2), ?_⟩
            exact fin (Same.refl _) (by show xv = (ms.getD m []).getD (vals.getD a 0) 0; rw [getD_someL emv, getD_some eva, getD_some hx2])
          | inv h => exact absurd (by show ("not" : Str) ∈ kindsF; decide +kernel) hkf
          | wide h => exact absurd (by show ("wide" : Str) ∈ kindsF; decide +kernel) hkf
          | part h _ _ => exact absurd (by show ("part" : Str) ∈ kindsF; decide +kernel) hkf
          | join h h2 => exact absurd (by show ("join" : Str) ∈ kindsF; decide +kernel) hkf
          | shift hs h h2 => exact absurd (by show ("op" : Str) ∈ kindsF; decide +kernel) hkf
          | arith hs h h2 => exact absurd (by show ("op" : Str) ∈ kindsF; decide +kernel) hkf
          | test hs h h2 => exact absurd (by show ("op" : Str) ∈ kindsF; decide +kernel) hkf
          | pick h0 h h2 => exact absurd (by show ("pick" : Str) ∈ kindsF; decide +kernel) hkf
      · obtain ⟨y5, y6, y7, rfl, s1, e⟩ := hh
        refine ⟨y5, y6, y7, rfl, s1, ?_⟩
        rw [e, lt, List.take_length]
    · rintro σ H1 ⟨y5, y6, y7, rfl, s1, e⟩
      exact ⟨_, rfl, q H1 L s1 nL e⟩
end
end C1

/-! run_circuit. -/
namespace C1
open PySem PySem.Spec PyProof.Rows L2 SX
abbrev sRunCircuit : Stmt := topS 39
theorem scRunCircuit : FnScope ["circuit", "contents", "cycles", "widths", "regs", "memories", "told", "_", "worths", "memory", "address", "worth", "test", "first", "words", "row"] ["circuit", "contents", "cycles"] (defScope sRunCircuit) := ⟨rfl, rfl, rfl, by decide +kernel, rfl, by decide +kernel, by decide +kernel⟩
abbrev NRC : List Str := ["circuit", "contents", "cycles", "widths", "regs", "memories", "told", "_", "worths", "memory", "address", "worth", "test", "first", "words", "row"]
abbrev rListOf (K : PySem.W.Frag) : List V → Hp → VK → Prop := fun xs H Q => ∃ p ys, xs = [V.ref p] ∧ (SqL K H p ys ∨ SqT K H p ys) ∧ ∀ l, H l = none → Q (.ref l) (upd H l (.lst ys))
theorem ixN_nat2 {n j : Nat} (hj : j < n) : ixN n (j : Int) = some j := by
  unfold ixN
  rw [if_pos (by omega), if_pos (by omega)]
  simp
def memD (m : List Nat) : PyData := .tuple (m.map iD)
def toldD (rows : List (List Nat)) : PyData := .tuple (rows.map memD)
theorem noLs_mem2 : ∀ ms : List (List Nat), noLs (ms.map memD) = true
  | [] => rfl
  | m :: ms => by
    show (noL (memD m) && noLs (ms.map memD)) = true
    rw [noLs_mem2 ms, Bool.and_true]
    show noLs (m.map iD) = true
    induction m with
    | nil => rfl
    | cons x r ih => exact ih
section
variable {K : PySem.W.Frag} {H H' : Hp}
/-- all but what stands at these addresses stays -/
def Fx (ex : List Addr) (H H' : Hp) : Prop := ∀ b o, b ∉ ex → H b = some o → H' b = some o
theorem fx_tup {ex : List Addr} (hx : ∀ b ∈ ex, ∃ xs, H b = some (.lst xs)) (f : Fx ex H H') : ∀ a ys, SqT K H a ys → SqT K H' a ys := fun a ys h => by
  have ne : ∀ {o : HO}, H a = some o → (∀ xs, o ≠ .lst xs) → a ∉ ex := fun h1 h2 z => by
    obtain ⟨xs, e⟩ := hx a z
    rw [e] at h1
    exact h2 xs (Option.some.inj h1).symm
  rcases h with (h | ⟨u, h⟩) | h
  · exact .inl (.inl (f a _ (ne h (by intro _ z; cases z)) h))
  · exact .inl (.inr ⟨u, f a _ (ne h (by intro _ z; cases z)) h⟩)
  · exact .inr h
theorem ML.store {la : List Addr} {ms : List (List Nat)} (M : ML H la ms) {i : Nat} {a : Addr} {m : List Nat} (ea : la[i]? = some a) (hi : i < ms.length) : ML (upd H a (.lst (m.map iV))) la (ms.set i m) := by
  refine ⟨by rw [List.length_set]; exact M.len, M.nd, fun j b m2 h1 h2 => ?_⟩
  rw [List.getElem?_set] at h2
  split at h2
  · rename_i hij
    subst hij
    rw [ea] at h1
    cases h1
    cases h2
    exact upd_same
  · rename_i hij
    have ne : b ≠ a := fun z => by
      subst z
      obtain ⟨h3, h3e⟩ := List.getElem?_eq_some_iff.mp ea
      obtain ⟨h4, h4e⟩ := List.getElem?_eq_some_iff.mp h1
      have pw := List.pairwise_iff_getElem.mp M.nd
      rcases Nat.lt_or_gt_of_ne hij with lt | lt
      · exact pw _ _ h3 h4 lt (by rw [h3e, h4e])
      · exact pw _ _ h4 h3 lt (by rw [h3e, h4e])
    rw [upd_ne ne]
    exact M.at' _ _ _ h1 h2
theorem ML.other {la : List Addr} {ms : List (List Nat)} (M : ML H la ms) {p : Addr} {o : HO} (h : p ∉ la) : ML (upd H p o) la ms :=
  ⟨M.len, M.nd, fun j b m2 h1 h2 => by
    have ne : b ≠ p := fun z => h (by rw [← z]; exact List.mem_of_getElem? h1)
    rw [upd_ne ne]
    exact M.at' _ _ _ h1 h2⟩
theorem ML.lst {la : List Addr} {ms : List (List Nat)} (M : ML H la ms) : ∀ b ∈ la, ∃ xs, H b = some (.lst xs) := fun b hb => by
  obtain ⟨i, ei⟩ := List.getElem?_of_mem hb
  obtain ⟨m, em⟩ : ∃ m, ms[i]? = some m := at_len M.len.symm ei
  exact ⟨_, M.at' _ _ _ ei em⟩
theorem new_notin {p : Addr} (n : H p = none) {ex : List Addr} (hx : ∀ b ∈ ex, ∃ xs, H b = some (.lst xs)) : p ∉ ex := fun z => by
  obtain ⟨xs, e⟩ := hx p z
  rw [n] at e
  cases e
theorem st_vals {v : V} {s : Nat × Nat × Nat × Nat} (h : Dp K H v (stD s)) : ∃ b, v = .ref b ∧ SqT K H b [iV s.1, iV s.2.1, iV s.2.2.1, iV s.2.2.2] := by
  obtain ⟨b, xs, e, s1, a⟩ := dp_tup h
  rw [dps_flat a (us := [iV s.1, iV s.2.1, iV s.2.2.1, iV s.2.2.2]) rfl] at s1
  exact ⟨b, e, s1⟩
theorem mem_vals {v : V} {m : List Nat} (h : Dp K H v (memD m)) : ∃ b, v = .ref b ∧ SqT K H b (m.map iV) := by
  obtain ⟨b, xs, e, s1, a⟩ := dp_tup h
  rw [dps_ints_eq a] at s1
  exact ⟨b, e, s1⟩
end
section
variable {P : Program} {w : World} {K : PySem.W.Frag} {mg : Str → Option Value} {base : Heap} {aP : Addr}
def spRun (K : PySem.W.Frag) : Sp := fun vs H Q _ => ∃ (cA ct : Addr) (n : Nat) (c : Ckt) (ws : List Nat) (ms : List (List Nat)) (cvs : List V), vs = [.ref cA, .ref ct, iV n] ∧ n ≤ 500 ∧ CP K H cA c ∧ RunOk c ws ∧ SqT K H ct cvs ∧ DpAll K H cvs (ms.map memD) ∧ MmB ms c.mems ∧ RgB (c.regs.map (·.2)) c.regs ∧
  ∀ H' p, Same H H' → Dp K H' (.ref p) (toldD (runC c ws n (c.regs.map (·.2)) ms)) → Q (.ref p) H'
theorem ok_run {f fW fR : Addr} {fd fdW fdR : FuncData} (F : Fun K "run_circuit" "run_circuit" sRunCircuit f fd) (GW : FnOk P w K mg base CX0 4 fW fdW ["circuit"] (spWidthsOf K)) (kW : PySem.W.keepIn K (.ref fW) = true) (bW : Binds K fdW ["circuit"] []) (gW : mg "widths_of" = some (.ref fW))
    (GR : FnOk P w K mg base CX0 4 fR fdR ["circuit", "widths", "regs", "memories"] (spRowValues K)) (kR : PySem.W.keepIn K (.ref fR) = true) (bR : Binds K fdR ["circuit", "widths", "regs", "memories"] []) (gR : mg "row_values" = some (.ref fR)) (B : Bl mg) (mt : mg "tuple" = none) (ml : mg "list" = none) :
    FnOk P w K mg base CX0 5 f fd ["circuit", "contents", "cycles"] (spRun K) := by
  refine F.ok scRunCircuit (fun vs H Q E h => ?_) (fun cdv A outer s H vs Q E hr h => ?_)
  · obtain ⟨cA, ct, n, c, ws, ms, cvs, rfl, _⟩ := h
    rfl
  · obtain ⟨cA, ct, n, c, ws, ms, cvs, rfl, hn, C, R, hct, dct, bM, bR0, q⟩ := h
    have nd := scRunCircuit.nd
    refine ⟨_, (pss_cons (ps_set (i := 3) nd rfl (.inl rfl) (pe_call GW hr (by rfl) gW kW bW .nil pass0 (pa_cons (pv 0) pa_nil)))
      (pss_cons (ps_setLc (i := 4) (own := [("_", 7), ("first", 13)]) (g := gTup K 2 (gCons (gName 7) (gCons (gName 13) (gNil)))) (tt := tYes) (te := tVar 13)  rfl nd rfl rfl (sw_true rfl rfl rfl (by decide +kernel)) (pi_tup (pe_ix ix_tup (pv 0) (pe_int) (fun _ _ => rfl))) (blkOk_by (own := [("_", 7), ("first", 13)]) (N := NRC) (sc := defScope sRunCircuit) (by decide +kernel)) (fun _ _ _ _ _ => pg_tup (by rfl) (pgs_cons (pg_name (i := 7) nd rfl (.inl rfl)) (pgs_cons (pg_name (i := 13) nd rfl (.inl rfl)) pgs_nil))) (fun _ _ _ _ _ => pts_nil) (fun _ _ _ _ _ => by exact (pv 13)))
      (pss_cons (ps_setLc (i := 5) (own := [("words", 14)]) (g := gName 14) (tt := tYes) (te := tCB (rListOf K) (tCons (tVar 14) tNil))  rfl nd rfl rfl (sw_true rfl rfl rfl (by decide +kernel)) (pi_tup (pv 1)) (blkOk_by (own := [("words", 14)]) (N := NRC) (sc := defScope sRunCircuit) (by decide +kernel)) (fun _ _ _ _ _ => pg_name (i := 14) nd rfl (.inl rfl)) (fun _ _ _ _ _ => pts_nil) (fun _ _ _ _ _ => by exact (pe_callTy call_list_of (by rfl) ml (by decide +kernel) (pa_cons (pv 14) pa_nil))))
      (pss_cons (ps_set (i := 6) nd rfl (.inl rfl) (pe_lst pa_nil))
      (C8.pss_cut (ps_for PassesOwn.never rfl (pi_range1 (by rfl) B.range (pa_cons (pv 2) pa_nil)) (pg_name (i := 7) nd rfl (.inl rfl)) (pss_cons (ps_set (i := 8) nd rfl (.inr rfl) (pe_call GR hr (by rfl) gR kR bR .nil pass0 (pa_cons (pv 0) (pa_cons (pv 3) (pa_cons (pv 4) (pa_cons (pv 5) pa_nil))))))
      (pss_cons (ps_expr (pe_bm PySem.F.plainAttrs_list PySem.F.slot_list_append PySem.F.type_list_append mt_append (pv 6) (pa_cons (pe_callTy call_tuple_of (by rfl) mt (by decide +kernel) (pa_cons (pe_lc (own := [("row", 15)]) (g := gName 15) (tt := tYes) (te := tOp (rIxL K) (tVar 8) (tVar 15))  rfl nd (pi_tup (pe_ix ix_tup (pv 0) (pe_int) (fun _ _ => rfl))) (blkOk_by (own := [("row", 15)]) (N := NRC) (sc := defScope sRunCircuit) (by decide +kernel)) (fun _ _ _ _ _ => pg_name (i := 15) nd rfl (.inl rfl)) (fun _ _ _ _ _ => pts_nil) (fun _ _ _ _ _ => by exact (pe_ix ix_list (pv 8) (pv 15) (fun _ _ => rfl)))) pa_nil)) pa_nil)))
      (C8.pss_cut (ps_for PassesOwn.never rfl (pi_tup (pe_ix ix_tup (pv 0) (pe_int) (fun _ _ => rfl))) (pg_tup (by rfl) (pgs_cons (pg_name (i := 9) nd rfl (.inl rfl)) (pgs_cons (pg_name (i := 10) nd rfl (.inl rfl)) (pgs_cons (pg_name (i := 11) nd rfl (.inl rfl)) (pgs_cons (pg_name (i := 12) nd rfl (.inl rfl)) pgs_nil))))) (pss_one (ps_if (pt_truth (pe_ix ix_list (pv 8) (pv 12) (fun _ _ => rfl)) (by intro _; rfl)) (pss_one (ps_asg (pe_ix ix_list (pv 8) (pv 11) (fun _ _ => rfl)) (pg_sub (pe_ix ix_list (pv 5) (pv 9) (fun _ _ => rfl)) (pe_ix ix_list (pv 8) (pv 10) (fun _ _ => rfl)) set_list))) pss_nil)))
      (pss_one (ps_setLc (i := 4) (own := [("row", 15)]) (g := gName 15) (tt := tYes) (te := tOp (rIxL K) (tVar 8) (tVar 15))  rfl nd rfl rfl (sw_true rfl rfl rfl (by decide +kernel)) (pi_tup (pe_ix ix_tup (pv 0) (pe_int) (fun _ _ => rfl))) (blkOk_by (own := [("row", 15)]) (N := NRC) (sc := defScope sRunCircuit) (by decide +kernel)) (fun _ _ _ _ _ => pg_name (i := 15) nd rfl (.inl rfl)) (fun _ _ _ _ _ => pts_nil) (fun _ _ _ _ _ => by exact (pe_ix ix_list (pv 8) (pv 15) (fun _ _ => rfl)))))))))
      (pss_one (ps_ret (pe_callTy call_tuple_of (by rfl) mt (by decide +kernel) (pa_cons (pv 6) pa_nil))))))))), ?_⟩
    obtain ⟨r, m, t, nx, ss, o, rvs, mvs, tvs, svs, h0, h1, h2, h3, h4, h5, h6⟩ := C.ex
    have lw := R.lw
    have lr := R.lr
    have lmm := R.lm
    have hlr := rows_len R.rw
    -- widths
    refine ⟨_, rfl, cA, c, ws, rfl, C, R.rw, R.lw, fun H1 wl s1 nwl ewl => ?_⟩
    -- regs
    have lrv := dps_len h1.2
    rw [List.length_map] at lrv
    refine ⟨_, rfl, _, _, _, _, rfl, rfl, same_tup s1 _ _ h0, atI_nat (j := 0) rfl, r, rfl, ⟨_, same_tup s1 _ _ h1.1⟩, fun rg nrg => ?_⟩
    have s2 : ∀ {o : HO}, Same H (upd H1 rg o) := fun {o} => s1.trans (same_new nrg)
    refine lc_tup (xs := rvs) (fun i H' => H' = upd H1 rg (.lst (((c.regs.take i).map (·.2)).map iV))) rfl (fun i H' _ hh => ?_) (fun i x H' hx hh => ?_) (fun H' hh => ?_)
    · subst hh
      exact same_tup s2 _ _ h1.1
    · subst hh
      obtain ⟨p, ep⟩ : ∃ p, c.regs[i]? = some p := at_len lrv.symm hx
      obtain ⟨b, eb, sb⟩ := pr_at h1.2 ep
      rw [hx] at eb
      cases eb
      refine ⟨b, _, rfl, same_tup s2 _ _ sb, rfl, _, _, rfl, _, _, rfl, rfl, rfl, ?_⟩
      refine ⟨_, rfl, _, upd_same, ?_, ?_⟩
      · rw [List.length_map, List.length_map]
        exact lineS200 (by rw [List.length_take]; omega)
      · rw [upd_upd, take_snoc ep, List.map_append, List.map_append]
        rfl
    subst hh
    rw [lrv, List.take_length]
    have hs2 : Same H (upd H1 rg (.lst ((c.regs.map (·.2)).map iV))) := s2
    have ewl2 : (upd H1 rg (.lst ((c.regs.map (·.2)).map iV))) wl = some (.lst (ws.map iV)) := (same_new nrg) _ _ ewl
    have erg2 : (upd H1 rg (.lst ((c.regs.map (·.2)).map iV))) rg = some (.lst ((c.regs.map (·.2)).map iV)) := upd_same
    have nrw : rg ≠ wl := fun z => by rw [z, ewl] at nrg; cases nrg
    generalize upd H1 rg (.lst ((c.regs.map (·.2)).map iV)) = H2 at hs2 ewl2 erg2
    -- memories
    have lcv := dps_len dct
    rw [List.length_map] at lcv
    have lms := bM.len
    refine ⟨_, rfl, ct, rfl, ⟨_, same_tup hs2 _ _ hct⟩, fun mm nmm => ?_⟩
    refine lc_tup (xs := cvs) (fun i H' => Same H2 H' ∧ H2 mm = none ∧ ∃ la : List Addr, H' mm = some (.lst (la.map V.ref)) ∧ ML H' la (ms.take i) ∧ mm ∉ la ∧ ∀ a ∈ la, H2 a = none) ⟨same_new nmm, nmm, [], upd_same, ⟨rfl, List.nodup_nil, fun i a m h => by simp at h⟩, (by simp), (by intro a ha; cases ha)⟩ (fun i H' _ hh => ?_) (fun i x H' hx hh => ?_) (fun H' hh => ?_)
    · exact same_tup (hs2.trans hh.1) _ _ hct
    · obtain ⟨s3, _, la, e1, M, nm, fr⟩ := hh
      obtain ⟨mv, emv⟩ : ∃ mv, ms[i]? = some mv := at_len lcv.symm hx
      obtain ⟨x', ex', dx'⟩ := dps_put dct (show (ms.map memD)[i]? = some (memD mv) by rw [List.getElem?_map, emv]; rfl)
      rw [hx] at ex'
      cases ex'
      obtain ⟨b, rfl, sb⟩ := mem_vals dx'
      have l1 := M.len
      rw [List.length_take] at l1
      refine ⟨rfl, _, rfl, b, _, rfl, .inr (same_tup (hs2.trans s3) _ _ sb), fun l nl => ?_⟩
      have nlm : l ≠ mm := fun z => by rw [z, e1] at nl; cases nl
      have nla : l ∉ la := new_notin nl M.lst
      refine ⟨la.map V.ref, (same_new nl) _ _ e1, ?_, ?_⟩
      · rw [List.length_map]
        exact lineS200 (by omega)
      · have n2 : H2 l = none := s3.free nl
        refine ⟨same_put (s3.trans (same_new nl)) nmm, nmm, la ++ [l], by rw [List.map_append]; exact upd_same, ?_, ?_, ?_⟩
        · rw [take_snoc emv]
          refine ⟨by rw [List.length_append, List.length_append, M.len]; rfl, List.nodup_append.mpr ⟨M.nd, by simp, fun a ha b hb z => nla (by rw [List.mem_singleton.mp hb] at z; exact z ▸ ha)⟩, fun j a m2 g1 g2 => ?_⟩
          by_cases hj : j < la.length
          · rw [List.getElem?_append_left hj] at g1
            rw [List.getElem?_append_left (by rw [← M.len]; exact hj)] at g2
            have z := (same_new (o := .lst (mv.map iV)) nl) _ _ (M.at' _ _ _ g1 g2)
            have ne : a ≠ mm := fun z2 => nm (by rw [← z2]; exact List.mem_of_getElem? g1)
            rw [upd_ne ne]
            exact z
          · rw [List.getElem?_append_right (by omega)] at g1
            rw [List.getElem?_append_right (by rw [← M.len]; omega), ← M.len] at g2
            have e0 : j - la.length = 0 := by
              have := (List.getElem?_eq_some_iff.mp g1).1
              simp at this
              omega
            rw [e0] at g1 g2
            cases g1
            cases g2
            rw [upd_ne nlm]
            exact upd_same
        · intro z
          rcases List.mem_append.mp z with z | z
          · exact nm z
          · exact nlm (List.mem_singleton.mp z).symm
        · intro a ha
          rcases List.mem_append.mp ha with z | z
          · exact fr a z
          · rw [List.mem_singleton.mp z]
            exact n2
    obtain ⟨s3, _, la, emm, M, nmla, fr⟩ := hh
    rw [lcv, List.take_length] at M
    have hs3 : Same H H' := hs2.trans s3
    -- told
    refine ⟨Nat.zero_le _, fun T nT => ?_⟩
    have s4 : Same H' (upd H' T (.lst [])) := same_new nT
    have wln : wl ∉ la := fun z => by
      have := fr wl z
      rw [ewl2] at this
      cases this
    have rgn : rg ∉ la := fun z => by
      have := fr rg z
      rw [erg2] at this
      cases this
    have Tn : T ∉ la := new_notin nT M.lst
    have Twl : T ≠ wl := fun z => by rw [z, s3 _ _ ewl2] at nT; cases nT
    have Tmm : T ≠ mm := fun z => by rw [z, emm] at nT; cases nT
    have Trg : T ≠ rg := fun z => by rw [z, s3 _ _ erg2] at nT; cases nT
    have hnla : ∀ a ∈ la, H a = none := fun a ha => hs2.free (fr a ha)
    have hnT : H T = none := hs3.free nT
    let rs0 := c.regs.map (·.2)
    let It : Nat → L2.St → Hp → Prop := fun i σ H5 => ∃ (rgA : Addr) (y7 y8 y9 y10 y11 y12 : Option V) (tl : List V), σ = [some (.ref cA), some (.ref ct), some (iV n), some (.ref wl), some (.ref rgA), some (.ref mm), some (.ref T), y7, y8, y9, y10, y11, y12, none, none, none] ∧ Same H H5 ∧
      H5 wl = some (.lst (ws.map iV)) ∧ H5 rgA = some (.lst ((behC c ws i rs0 ms).1.map iV)) ∧ H5 mm = some (.lst (la.map V.ref)) ∧ ML H5 la (behC c ws i rs0 ms).2 ∧ H5 T = some (.lst tl) ∧ DpAll K H5 tl ((runC c ws i rs0 ms).map memD) ∧ rgA ∉ la ∧ rgA ≠ T
    refine ⟨fun σ H5 => It n σ H5, ?_, ?_⟩
    · refine ⟨_, rfl, _, rfl, by omega, by omega, for_range It ?_ (fun i σ H5 hi hh => ?_) (fun σ H5 hh => ?_)⟩
      · exact ⟨rg, none, none, none, none, none, none, [], rfl, hs3.trans s4, s4 _ _ (s3 _ _ ewl2), s4 _ _ (s3 _ _ erg2), s4 _ _ emm, M.same s4, upd_same, .nil, rgn, Trg.symm⟩
      · obtain ⟨rgA, y7, y8, y9, y10, y11, y12, tl, rfl, s5, ew, er, em, M5, eT, dT, nr1, nr2⟩ := hh
        rw [Int.zero_add]
        obtain ⟨bR5, bM5⟩ := beh_ok R i bR0 bM
        have rsucc := runC_succ c ws i rs0 ms
        have bsucc := behC_succ c ws i rs0 ms
        have dlen := dps_len dT
        rw [List.length_map, runC_len] at dlen
        generalize behC c ws i rs0 ms = st at er M5 bR5 bM5 rsucc bsucc
        obtain ⟨rs, m5⟩ := st
        have bd := rowsV_all (rs := rs) (ms := m5) R.rw bR5 bM5
        have lvs : (rowsV rs m5 ws c.rows).length = ws.length := by rw [rowsV_len _ _ _ _ _ rfl, hlr]
        obtain ⟨vals, evs⟩ : ∃ vals, vals = rowsV rs m5 ws c.rows := ⟨_, rfl⟩
        dsimp only at er M5 bR5 bM5 rsucc bsucc
        rw [← evs] at bd lvs rsucc bsucc
        -- worths
        refine ⟨_, rfl, _, rfl, _, rfl, _, rfl, cA, wl, rgA, mm, c, ws, rs, m5, la, rfl, C.same s5, R, SqL.of ew, SqL.of er, SqL.of em, M5, bR5, bM5, fun H6 W s6 nW eW => ?_⟩
        rw [← evs] at eW
        have s56 := s5.trans s6
        have nWT : W ≠ T := fun z => by rw [z, eT] at nW; cases nW
        have nWla : W ∉ la := new_notin nW M5.lst
        -- told.append
        refine ⟨_, rfl, .inl ⟨rfl, _, SqL.of (s6 _ _ eT)⟩, ?_⟩
        refine ⟨_, rfl, _, _, _, _, rfl, rfl, same_tup s56 _ _ h0, atI_nat (j := 5) rfl, o, rfl, ⟨_, same_tup s56 _ _ h6⟩, fun D nD => ?_⟩
        refine lc_pickT (is := c.outs) (vs := vals) (l := W) nD (same_tup s56 _ _ h6) (SqL.of eW) (fun a ha => by rw [lvs]; exact R.oo a ha) (by have := R.ol; omega) (fun x => ⟨rfl, rfl, rfl⟩) ?_
        refine ⟨D, _, rfl, .inl ⟨SqL.of upd_same, fun t0 nt0 => ?_⟩⟩
        have s7 : Same H6 (upd (upd H6 D (.lst ((pickV vals c.outs).map iV))) t0 (.tup ((pickV vals c.outs).map iV))) := (same_new nD).trans (same_new nt0)
        refine ⟨T, _, _, rfl, rfl, s7 _ _ (s6 _ _ eT), lineS200 (by omega), ?_⟩
        have et0 : (upd (upd H6 D (.lst ((pickV vals c.outs).map iV))) t0 (.tup ((pickV vals c.outs).map iV))) t0 = some (.tup ((pickV vals c.outs).map iV)) := upd_same
        generalize upd (upd H6 D (.lst ((pickV vals c.outs).map iV))) t0 (.tup ((pickV vals c.outs).map iV)) = H7 at s7 et0
        have s67 := s6.trans s7
        have eT7 := s67 _ _ eT
        have dT8 : DpAll K (upd H7 T (.lst (tl ++ [.ref t0]))) (tl ++ [.ref t0]) ((runC c ws (i + 1) rs0 ms).map memD) := by
          rw [rsucc, List.map_append]
          exact push_dps eT7 (dps_stay (same_tup s67) _ _ dT (noLs_mem2 _)) (noLs_mem2 _) (.tup (SqT.of et0) (dps_ints _)) (by have := noLs_mem2 [pickV vals c.outs]; exact (Bool.and_eq_true_iff.mp this).1)
        have nT' : H T = none := hnT
        have s8 : Same H (upd H7 T (.lst (tl ++ [.ref t0]))) := same_put (s5.trans s67) hnT
        have M8 : ML (upd H7 T (.lst (tl ++ [.ref t0]))) la m5 := (M5.same s67).other Tn
        have ew8 : (upd H7 T (.lst (tl ++ [.ref t0]))) wl = some (.lst (ws.map iV)) := by rw [upd_ne Twl.symm]; exact s67 _ _ ew
        have em8 : (upd H7 T (.lst (tl ++ [.ref t0]))) mm = some (.lst (la.map V.ref)) := by rw [upd_ne Tmm.symm]; exact s67 _ _ em
        have eW8 : (upd H7 T (.lst (tl ++ [.ref t0]))) W = some (.lst (vals.map iV)) := by rw [upd_ne nWT]; exact s7 _ _ eW
        have eT8 : (upd H7 T (.lst (tl ++ [.ref t0]))) T = some (.lst (tl ++ [.ref t0])) := upd_same
        generalize upd H7 T (.lst (tl ++ [.ref t0])) = H8 at dT8 s8 M8 ew8 em8 eW8 eT8
        -- the stores
        have lsv := dps_len h5.2
        rw [List.length_map] at lsv
        refine ⟨fun σ H9 => ∃ (y9 y10 y11 y12 : Option V), σ = [some (.ref cA), some (.ref ct), some (iV n), some (.ref wl), some (.ref rgA), some (.ref mm), some (.ref T), some (iV i), some (.ref W), y9, y10, y11, y12, none, none, none] ∧ Same H H9 ∧ Fx la H8 H9 ∧ ML H9 la (storesM vals m5 c.stores), ?_, ?_⟩
        · refine ⟨_, rfl, _, _, _, _, rfl, rfl, same_tup s8 _ _ h0, atI_nat (j := 4) rfl, ss, rfl, ⟨_, same_tup s8 _ _ h5.1⟩, ?_⟩
          refine for_tup (xs := svs) (fun j σ H9 => ∃ (y9 y10 y11 y12 : Option V), σ = [some (.ref cA), some (.ref ct), some (iV n), some (.ref wl), some (.ref rgA), some (.ref mm), some (.ref T), some (iV i), some (.ref W), y9, y10, y11, y12, none, none, none] ∧ Same H H9 ∧ Fx la H8 H9 ∧ ML H9 la (storesM vals m5 (c.stores.take j)) ∧ MmB (storesM vals m5 (c.stores.take j)) c.mems) ⟨_, _, _, _, rfl, s8, fun b o _ e => e, M8, bM5⟩ (fun j σ H9 _ hj => ?_) (fun j x σ H9 hx hj => ?_) (fun σ H9 hj => ?_)
          · obtain ⟨_, _, _, _, rfl, s9, _⟩ := hj
            exact same_tup s9 _ _ h5.1
          · obtain ⟨y9, y10, y11, y12, rfl, s9, f9, M9, b9⟩ := hj
            obtain ⟨sv, es⟩ : ∃ sv, c.stores[j]? = some sv := at_len lsv.symm hx
            obtain ⟨x', ex', dx'⟩ := dps_put h5.2 (show (c.stores.map stD)[j]? = some (stD sv) by rw [List.getElem?_map, es]; rfl)
            rw [hx] at ex'
            cases ex'
            obtain ⟨b, rfl, sb⟩ := st_vals dx'
            obtain ⟨p, g1, g2, g3, g4⟩ := R.so sv (List.mem_of_getElem? es)
            obtain ⟨va, ea⟩ := at_len lvs g2
            obtain ⟨vv, ev⟩ := at_len lvs g3
            obtain ⟨vt, et⟩ := at_len lvs g4
            have hst : storesM vals m5 (c.stores.take (j + 1)) = storeM vals (storesM vals m5 (c.stores.take j)) sv := by
              rw [take_snoc es]
              unfold storesM
              rw [List.foldl_append]
              rfl
            have eW9 := f9 _ _ nWla eW8
            have em9 := f9 _ _ nmla em8
            have hb2 := storeM_ok bd lvs b9 (R.so sv (List.mem_of_getElem? es))
            rw [← hst] at hb2
            refine ⟨b, _, rfl, same_tup s9 _ _ sb, rfl, _, _, rfl, _, _, rfl, _, _, rfl, _, _, rfl, rfl, ?_⟩
            refine ⟨_, rfl, _, rfl, W, _, _, _, rfl, rfl, SqL.of eW9, atI_nat (int_at et), _, rfl, ite2 (fun a1 => ?_) (fun a1 => ?_)⟩
            · have h1 : vals.getD sv.2.2.2 0 = 1 := by
                have z := bd _ _ _ et g4
                have z2 : ((vt : Nat) : Int) ≠ 0 := by simpa using a1
                rw [getD_some et]
                omega
              obtain ⟨mv, emv⟩ := at_len b9.len g1
              obtain ⟨lm, elm⟩ := at_len M9.len emv
              have hml := (b9.lt _ _ _ emv g1).1
              have hva := bd _ _ _ ea g2
              refine ⟨_, rfl, _, rfl, W, _, _, _, rfl, rfl, SqL.of eW9, atI_nat (int_at ev), ?_⟩
              refine ⟨_, rfl, _, rfl, mm, _, _, _, rfl, rfl, SqL.of em9, atI_nat (j := sv.1) (show (la.map V.ref)[sv.1]? = some (.ref lm) by rw [List.getElem?_map, elm]; rfl), _, rfl, _, rfl, W, _, _, _, rfl, rfl, SqL.of eW9, atI_nat (int_at ea), ?_⟩
              refine ⟨lm, _, _, va, rfl, rfl, M9.at' _ _ _ elm emv, ixN_nat2 (by rw [List.length_map, hml]; exact hva), ?_⟩
              have est : storesM vals m5 (c.stores.take (j + 1)) = (storesM vals m5 (c.stores.take j)).set sv.1 (mv.set va vv) := by
                rw [hst]
                unfold storeM
                rw [if_pos h1, getD_someL emv, getD_some ea, getD_some ev]
              have el : (mv.map iV).set va (iV vv) = (mv.set va vv).map iV := List.map_set.symm
              rw [el]
              refine ⟨_, _, _, _, rfl, same_put s9 (hnla _ (List.mem_of_getElem? elm)), fun b2 o2 hb e2 => ?_, ?_, hb2⟩
              · have ne : b2 ≠ lm := fun z => hb (by rw [z]; exact List.mem_of_getElem? elm)
                rw [upd_ne ne]
                exact f9 _ _ hb e2
              · rw [est]
                exact M9.store elm (List.getElem?_eq_some_iff.mp emv).1
            · have h1 : ¬ vals.getD sv.2.2.2 0 = 1 := fun z => a1 (by
                rw [getD_some et] at z
                subst z
                rfl)
              have est : storesM vals m5 (c.stores.take (j + 1)) = storesM vals m5 (c.stores.take j) := by
                rw [hst]
                unfold storeM
                rw [if_neg h1]
              rw [est] at hb2
              refine ⟨_, _, _, _, rfl, s9, f9, ?_, ?_⟩
              · rw [est]
                exact M9
              · rw [est]
                exact b9
          · obtain ⟨y9, y10, y11, y12, rfl, s9, f9, M9, b9⟩ := hj
            rw [lsv, List.take_length] at M9
            exact ⟨y9, y10, y11, y12, rfl, s9, f9, M9⟩
        · rintro σ H9 ⟨y9, y10, y11, y12, rfl, s9, f9, M9⟩
          have eW9 := f9 _ _ nWla eW8
          refine ⟨_, rfl, _, _, _, _, rfl, rfl, same_tup s9 _ _ h0, atI_nat (j := 3) rfl, nx, rfl, ⟨_, same_tup s9 _ _ h4⟩, fun D2 nD2 => ?_⟩
          refine lc_pickT (is := c.nexts) (vs := vals) (l := W) nD2 (same_tup s9 _ _ h4) (SqL.of eW9) (fun a ha => ?_) (by rw [R.nl]; omega) (fun x => ⟨rfl, rfl, rfl⟩) ?_
          · obtain ⟨k, ek⟩ := List.getElem?_of_mem ha
            obtain ⟨p, ep⟩ := at_len R.nl.symm ek
            rw [lvs]
            exact (List.getElem?_eq_some_iff.mp (R.nx _ _ _ ep ek)).1
          have s10 : Same H9 (upd H9 D2 (.lst ((pickV vals c.nexts).map iV))) := same_new nD2
          have D2la : D2 ∉ la := new_notin nD2 M9.lst
          have eT9 := f9 _ _ Tn eT8
          have dT9 := dps_stay (fx_tup M8.lst f9) _ _ dT8 (noLs_mem2 _)
          refine ⟨D2, _, _, _, _, _, _, _, rfl, s9.trans s10, s10 _ _ (f9 _ _ wln ew8), ?_, s10 _ _ (f9 _ _ nmla em8), ?_, s10 _ _ eT9, dps_stay (same_tup s10) _ _ dT9 (noLs_mem2 _), D2la, fun z => by rw [z, eT9] at nD2; cases nD2⟩
          · rw [bsucc]
            exact upd_same
          · rw [bsucc]
            exact M9.same s10
      · exact hh
    · rintro σ H5 ⟨rgA, y7, y8, y9, y10, y11, y12, tl, rfl, s5, ew, er, em, M5, eT, dT, nr1, nr2⟩
      refine ⟨_, rfl, T, _, rfl, .inl ⟨SqL.of eT, fun t0 nt0 => ?_⟩⟩
      exact q _ t0 (s5.trans (same_new nt0)) (.tup (SqT.of upd_same) (dps_stay (same_tup (same_new nt0)) _ _ dT (noLs_mem2 _)))
end
end C1

/-! The law's contents and operations. -/
namespace C1
open PySem PySem.Spec PyProof.Rows L2 SX
abbrev sLawContents : Stmt := topS 47
theorem scLawContents : FnScope ["w", "circuit", "bits", "width", "k"] ["w", "circuit"] (defScope sLawContents) := ⟨rfl, rfl, rfl, by decide +kernel, rfl, by decide +kernel, by decide +kernel⟩
abbrev NCT : List Str := ["w", "circuit", "bits", "width", "k"]
abbrev NLO : List Str := ["sign", "a", "b", "width", "bits", "table", "k"]
def scCt : Scope := { kind := .function, names := [(".0", .local), ("bits", .local), ("width", .cell), ("tuple", .globalImplicit), ("range", .globalImplicit), ("w", .cell)], isGenerator := false, isCoroutine := false }
abbrev rTupleOf (K : PySem.W.Frag) : List V → Hp → VK → Prop := fun xs H Q => ∃ p ys, xs = [V.ref p] ∧ ((SqL K H p ys ∧ ∀ l, H l = none → Q (.ref l) (upd H l (.tup ys))) ∨ (SqT K H p ys ∧ Q (.ref p) H))
abbrev rOneShlN : R2 := fun x y H Q => ∃ k : Nat, x = .int 1 ∧ y = iV k ∧ k ≤ 1000 ∧ Q (iV (2 ^ k)) H
abbrev rModNN : R2 := fun x y H Q => ∃ n m : Nat, x = iV n ∧ y = iV m ∧ 0 < m ∧ Q (iV (n % m)) H
abbrev rAddN : R2 := fun x y H Q => ∃ n m : Nat, x = .int (n : Int) ∧ y = .int (m : Int) ∧ Q (.int ((n + m : Nat) : Int)) H
abbrev rMulN : R2 := fun x y H Q => ∃ n m : Nat, x = .int (n : Int) ∧ y = .int (m : Int) ∧ n ≤ 4294967296 ∧ Q (.int ((n * m : Nat) : Int)) H
abbrev rFdivN : R2 := fun x y H Q => ∃ n m : Nat, x = .int (n : Int) ∧ y = .int (m : Int) ∧ (1 ≤ m ∧ m < 1073741824) ∧ Q (.int ((n / m : Nat) : Int)) H
section
variable {X : Cx}
theorem op_oneShlN : OpR X (binaryOp .LShift) rOneShlN := by
  intro pins s σ H x y v u Q I rx ry h
  obtain ⟨k, rfl, rfl, hk, q⟩ := h
  exact op_oneShl pins s σ H _ _ v u Q I rx ry ⟨k, rfl, rfl, by omega, by rw [cst]; exact q⟩
theorem op_modNN : OpR X (binaryOp .Mod) rModNN := by
  intro pins s σ H x y v u Q I rx ry h
  obtain ⟨n, m, rfl, rfl, hm, q⟩ := h
  refine op_mod pins s σ H _ _ v u Q I rx ry ⟨_, _, rfl, rfl, show (0 : Int) < ((m : Nat) : Int) by omega, ?_⟩
  show Q (.int (((n : Nat) : Int) % ((m : Nat) : Int))) H
  rw [← Int.natCast_emod]
  exact q
end
theorem CP.stay {K : PySem.W.Frag} {H H' : Hp} {cA : Addr} {c : Ckt} (C : CP K H cA c) (st : ∀ a xs, SqT K H a xs → SqT K H' a xs) : CP K H' cA c := by
  obtain ⟨r, m, t, n, ss, o, rvs, mvs, tvs, svs, h0, h1, h2, h3, h4, h5, h6⟩ := C.ex
  exact ⟨r, m, t, n, ss, o, rvs, mvs, tvs, svs, st _ _ h0, ⟨st _ _ h1.1, dps_stay st _ _ h1.2 (noLs_pr _)⟩, ⟨st _ _ h2.1, dps_stay st _ _ h2.2 (noLs_pr _)⟩, ⟨st _ _ h3.1, dps_stay st _ _ h3.2 (noLs_rows _)⟩, st _ _ h4, ⟨st _ _ h5.1, dps_stay st _ _ h5.2 (noLs_st _)⟩, st _ _ h6⟩
theorem Wd.tup {K : PySem.W.Frag} {H H' : Hp} {a l : Addr} {ds : List Int} (W : Wd H a l ds) (k : Kp a H H') : ∀ b xs, SqT K H b xs → SqT K H' b xs := by
  obtain ⟨n, _, e⟩ := W.at'
  exact kp_tup e k
section
variable {P : Program} {w : World} {K : PySem.W.Frag} {mg : Str → Option Value} {base : Heap}
def spContents (K : PySem.W.Frag) : Sp := fun vs H Q _ => ∃ (a l cA : Addr) (ds : List Int) (c : Ckt), vs = [.ref a, .ref cA] ∧ Wd H a l ds ∧ CP K H cA c ∧ MemsOk c.mems ∧ c.mems.length ≤ 10 ∧
  ∀ (H' : Hp) (p : Addr) (ms : List (List Nat)), Kp a H H' → Wd H' a l ds → Dp K H' (.ref p) (toldD ms) → MmB ms c.mems → Q (.ref p) H'
theorem ok_contents {f fN : Addr} {fd fdN : FuncData} (F : Fun K "_law_contents" "_law_contents" sLawContents f fd) (GN : FnOk P w K mg base CX0 1 fN fdN ["w", "many"] spNext) (kN : PySem.W.keepIn K (.ref fN) = true) (bN : Binds K fdN ["w", "many"] []) (gN : mg "_law_next" = some (.ref fN)) (B : Bl mg) (mt : mg "tuple" = none) :
    FnOk P w K mg base CX0 2 f fd ["w", "circuit"] (spContents K) := by
  refine F.ok scLawContents (fun vs H Q E h => ?_) (fun cdv A outer s H vs Q E hr h => ?_)
  · obtain ⟨a, l, cA, ds, c, rfl, _⟩ := h
    rfl
  · obtain ⟨a, l, cA, ds, c, rfl, W, C, hM, lm, q⟩ := h
    have nd := scLawContents.nd
    have hr1 := hr
    refine ⟨_, (pss_one (ps_ret (pe_callTy call_tuple_of (by rfl) mt (by decide +kernel) (pa_cons (pe_lc (own := [("bits", 2), ("width", 3)]) (g := gTup K 2 (gCons (gName 2) (gCons (gName 3) (gNil)))) (tt := tYes) (te := tCB (rTupleOf K) (tCons (tLc (iRng1 (tCons (tOp rOneShlN (tC (.int 1)) (tVar 2)) tNil)) (gName 4) (tYes) (tOp rModNN (tCall spNext [] E0 (tCons (tVar 0) (tCons (tC (.int 997)) tNil))) (tOp rOneShlN (tC (.int 1)) (tVar 3))) [4]) tNil))  rfl nd (pi_tup (pe_ix ix_tup (pv 1) (pe_int) (fun _ _ => rfl))) (blkOk_by (own := [("bits", 2), ("width", 3)]) (N := NCT) (sc := defScope sLawContents) (by decide +kernel)) (fun _ _ _ _ _ => pg_tup (by rfl) (pgs_cons (pg_name (i := 2) nd rfl (.inl rfl)) (pgs_cons (pg_name (i := 3) nd rfl (.inr rfl)) pgs_nil))) (fun _ _ _ _ _ => pts_nil) (fun _ _ _ _ _ => by exact (pe_callTy call_tuple_of (by rfl) mt (by decide +kernel) (pa_cons (pe_lc (own := [("k", 4)]) (g := gName 4) (tt := tYes) (te := tOp rModNN (tCall spNext [] E0 (tCons (tVar 0) (tCons (tC (.int 997)) tNil))) (tOp rOneShlN (tC (.int 1)) (tVar 3)))  rfl nd (pi_range1 (by rfl) B.range (pa_cons (pe_op op_oneShlN (pe_int) (pv 2)) pa_nil)) (blkOk_by (own := [("k", 4)]) (N := NCT) (sc := scCt) (by decide +kernel)) (fun _ _ _ _ _ => pg_name (i := 4) nd rfl (.inl rfl)) (fun _ _ _ _ _ => pts_nil) (fun _ _ _ _ _ => by exact (pe_op op_modNN (pe_call GN hr1 (by rfl) gN kN bN .nil pass0 (pa_cons (pv 0) (pa_cons (pe_int) pa_nil))) (pe_op op_oneShlN (pe_int) (pv 3))))) pa_nil)))) pa_nil)))), ?_⟩
    obtain ⟨r, m, t, nx, ss, o, rvs, mvs, tvs, svs, h0, h1, h2, h3, h4, h5, h6⟩ := C.ex
    have lmv := dps_len h2.2
    rw [List.length_map] at lmv
    refine ⟨_, rfl, _, _, _, _, rfl, rfl, h0, atI_nat (j := 1) rfl, m, rfl, ⟨_, h2.1⟩, fun D nD => ?_⟩
    have neD := W.ne2 nD
    obtain ⟨Pv, ePv⟩ : ∃ Pv : Nat → Hp → Prop, Pv = fun i H1 => Kp a H H1 ∧ Wd H1 a l ds ∧ ∃ (ms : List (List Nat)) (xs : List V), H1 D = some (.lst xs) ∧ DpAll K H1 xs (ms.map memD) ∧ MmB ms (c.mems.take i) := ⟨_, rfl⟩
    refine lc_tup (xs := mvs) Pv ?_ (fun i H1 _ hh => ?_) (fun i x H1 hx hh => ?_) (fun H1 hh => ?_)
    · rw [ePv]
      exact ⟨Kp.new nD, W.new nD, [], [], upd_same, .nil, ⟨rfl, fun i m p e => by simp at e⟩⟩
    · rw [ePv] at hh
      exact W.tup hh.1 _ _ h2.1
    · rw [ePv] at hh
      obtain ⟨k1, W1, ms, xs, eD, dx, b1⟩ := hh
      obtain ⟨p, ep⟩ : ∃ p, c.mems[i]? = some p := at_len lmv.symm hx
      obtain ⟨b, eb, sb⟩ := pr_at h2.2 ep
      rw [hx] at eb
      cases eb
      have hp := hM p (List.mem_of_getElem? ep)
      have l1 := b1.len
      rw [List.length_take] at l1
      have p4 : 2 ^ p.1 ≤ 4 := Nat.pow_le_pow_right (by decide) hp.2.1
      refine ⟨b, _, rfl, W.tup k1 _ _ sb, rfl, _, _, rfl, _, _, rfl, rfl, rfl, ?_⟩
      refine ⟨_, rfl, p.1, rfl, rfl, by omega, _, rfl, Int.le_trans (by decide) (Int.natCast_nonneg (2 ^ p.1)), Int.lt_of_le_of_lt (Int.ofNat_le.mpr p4) (by decide), fun D2 nD2 => ?_⟩
      have neD2 := W1.ne2 nD2
      refine lc_range (n := 2 ^ p.1) (fun j H2 => Kp a H1 H2 ∧ Wd H2 a l ds ∧ ∃ m : List Nat, H2 D2 = some (.lst (m.map iV)) ∧ m.length = j ∧ ∀ x ∈ m, x < 2 ^ p.2) ⟨Kp.new nD2, W1.new nD2, [], upd_same, rfl, fun x hx => by cases hx⟩ (fun j H2 hj hh => ?_) (fun H2 hh => ?_)
      · obtain ⟨k2, W2, m2, e2, l2, lt2⟩ := hh
        refine ⟨rfl, _, rfl, a, l, ds, 997, rfl, by decide, W2, fun r2 H3 hr2 k3 _ W3 => ?_⟩
        refine ⟨_, rfl, p.2, rfl, rfl, by omega, r2, 2 ^ p.2, rfl, rfl, Nat.two_pow_pos _, ?_⟩
        refine ⟨m2.map iV, k3 D2 _ neD2.1 e2, by rw [List.length_map]; exact lineS200 (by omega), (k2.trans k3).put nD2, W3.put neD2.1 neD2.2, m2 ++ [r2 % 2 ^ p.2], by rw [List.map_append]; exact upd_same, by rw [List.length_append, l2]; rfl, fun x hx => ?_⟩
        rcases List.mem_append.mp hx with z | z
        · exact lt2 x z
        · rw [List.mem_singleton.mp z]
          exact Nat.mod_lt _ (Nat.two_pow_pos _)
      · obtain ⟨k2, W2, m2, e2, l2, lt2⟩ := hh
        refine ⟨D2, _, rfl, .inl ⟨SqL.of e2, fun t2 nt2 => ?_⟩⟩
        have k3 := k2.trans (Kp.new (o := .tup (m2.map iV)) nt2)
        have eD3 := k3 D _ neD.1 eD
        have eD2' : (upd H2 t2 (.tup (m2.map iV))) D = some (.lst xs) := eD3
        have lx := dps_len dx
        rw [List.length_map] at lx
        refine ⟨xs, eD3, lineS200 (by omega), ?_⟩
        rw [ePv]
        refine ⟨(k1.trans k3).put nD, (W2.new nt2).put neD.1 neD.2, ms ++ [m2], _, upd_same, ?_, ?_⟩
        · rw [List.map_append]
          exact push_dps eD3 (stay_dps W1 k3 (noLs_mem2 _) dx) (noLs_mem2 _) (.tup (SqT.of upd_same) (dps_ints _)) (by have := noLs_mem2 [m2]; exact (Bool.and_eq_true_iff.mp this).1)
        · rw [take_snoc ep]
          refine ⟨by rw [List.length_append, List.length_append, b1.len]; rfl, fun j m3 p3 g1 g2 => ?_⟩
          by_cases hj : j < ms.length
          · rw [List.getElem?_append_left hj] at g1
            rw [List.getElem?_append_left (by rw [← b1.len]; exact hj)] at g2
            exact b1.lt _ _ _ g1 g2
          · rw [List.getElem?_append_right (by omega)] at g1
            rw [List.getElem?_append_right (by rw [← b1.len]; omega), ← b1.len] at g2
            have e0 : j - ms.length = 0 := by
              have := (List.getElem?_eq_some_iff.mp g1).1
              simp at this
              omega
            rw [e0] at g1 g2
            cases g1
            cases g2
            exact ⟨l2, lt2⟩
    rw [ePv, lmv] at hh
    obtain ⟨k1, W1, ms, xs, eD, dx, b1⟩ := hh
    rw [List.take_length] at b1
    refine ⟨D, _, rfl, .inl ⟨SqL.of eD, fun t2 nt2 => ?_⟩⟩
    exact q _ t2 ms (k1.trans (Kp.new nt2)) (W1.new nt2) (.tup (SqT.of upd_same) (stay_dps W1 (Kp.new nt2) (noLs_mem2 _) dx)) b1
end
end C1

/-! The law's operations. -/
namespace C1
open PySem PySem.Spec PyProof.Rows L2 SX
abbrev sLawOp : Stmt := topS 48
theorem scLawOp : FnScope ["sign", "a", "b", "width", "bits", "table", "k"] ["sign", "a", "b", "width"] (defScope sLawOp) := ⟨rfl, rfl, rfl, by decide +kernel, rfl, by decide +kernel, by decide +kernel⟩
theorem sw_cell {elt : Expr} {gs : List Comprehension} {scope : Scope} {pos py : Pos} {y : Str} {l : Nat} {env : Env} (hk : env.scope.kind = .function) (hy : env.scope.names.lookup y = some .cell) : swapsWith (.ListComp elt gs scope pos) (some (.Name y py)) l env = pure false := by
  have ky : env.kindOf y = some .cell := hy
  have hb : env.blockKind = .function := by unfold Env.blockKind; rw [hk]; rfl
  unfold swapsWith
  simp only [hb, ky]
  rfl
/-! ### bits -/
theorem bits_sum (x : Nat) : ∀ w : Nat, ((List.range w).map fun k => x / 2 ^ k % 2 * 2 ^ k).sum = x % 2 ^ w
  | 0 => by
    rw [Nat.pow_zero, Nat.mod_one]
    rfl
  | w + 1 => by
    rw [List.range_succ, List.map_append, List.sum_append, bits_sum x w, Nat.mod_pow_succ]
    show _ + (x / 2 ^ w % 2 * 2 ^ w + 0) = _
    rw [Nat.add_zero, Nat.mul_comm]
def tblV (s : Str) : List Nat := if s = "&" then [0, 0, 0, 1] else if s = "|" then [0, 1, 1, 1] else [0, 1, 1, 0]
def bitL : List Str := ["&", "|", "^"]
theorem bit2 (x k : Nat) : x / 2 ^ k % 2 = 0 ∨ x / 2 ^ k % 2 = 1 := by
  have : x / 2 ^ k % 2 < 2 := Nat.mod_lt _ (by decide)
  omega
theorem tb_ok {s : Str} (hs : s ∈ bitL) (a b w k : Nat) : (tblV s)[2 * (a / 2 ^ k % 2) + b / 2 ^ k % 2]? = some (opV s a b w / 2 ^ k % 2) := by
  have hc : s = "&" ∨ s = "|" ∨ s = "^" := by
    unfold bitL at hs
    simpa using hs
  have go : ∀ (x : Nat) (f : Bool → Bool → Bool) (t : List Nat), x.testBit k = f (a.testBit k) (b.testBit k) → (∀ p q : Bool, t[2 * p.toNat + q.toNat]? = some (f p q).toNat) → t[2 * (a / 2 ^ k % 2) + b / 2 ^ k % 2]? = some (x / 2 ^ k % 2) := fun x f t h1 h2 => by
    have e : ∀ y : Nat, y / 2 ^ k % 2 = (y.testBit k).toNat := fun y => by
      rw [Nat.testBit_eq_decide_div_mod_eq]
      rcases bit2 y k with h | h <;> rw [h] <;> rfl
    rw [e a, e b, e x, h1]
    exact h2 _ _
  rcases hc with rfl | rfl | rfl
  · exact go (a &&& b) (fun p q => p && q) [0, 0, 0, 1] (Nat.testBit_and ..) (by decide)
  · exact go (a ||| b) (fun p q => p || q) [0, 1, 1, 1] (Nat.testBit_or ..) (by decide)
  · exact go (a ^^^ b) (fun p q => p ^^ q) [0, 1, 1, 0] (Nat.testBit_xor ..) (by decide)
theorem iV_ints (l : List Nat) : l.map iV = (l.map fun k => ((k : Nat) : Int)).map V.int := by
  rw [List.map_map]
  rfl
theorem sum_cast : ∀ l : List Nat, (l.map fun k => ((k : Nat) : Int)).sum = ((l.sum : Nat) : Int)
  | [] => rfl
  | x :: l => by
    rw [List.map_cons, List.sum_cons, List.sum_cons, sum_cast l, Int.natCast_add]
theorem val3 {x y z : V} {k1 k2 k3 s : Str} (h12 : k1 ≠ k2) (h13 : k1 ≠ k3) (h23 : k2 ≠ k3) (hs : s = k1 ∨ s = k2 ∨ s = k3) : valV (mergeK [] [(.inr k1, x), (.inr k2, y), (.inr k3, z)]) (.inr s) = some (if s = k1 then x else if s = k2 then y else z) := by
  have e : mergeK [] [((.inr k1 : Key), x), (.inr k2, y), (.inr k3, z)] = [(.inr k1, x), (.inr k2, y), (.inr k3, z)] := by
    have h1 : ¬ (Sum.inr k1 : Key) = Sum.inr k2 := fun e => h12 (Sum.inr.inj e)
    have h2 : ¬ (Sum.inr k1 : Key) = Sum.inr k3 := fun e => h13 (Sum.inr.inj e)
    have h3 : ¬ (Sum.inr k2 : Key) = Sum.inr k3 := fun e => h23 (Sum.inr.inj e)
    unfold mergeK
    simp [putK, h1, h2, h3, h12, h13, h23]
  rw [e]
  rcases hs with rfl | rfl | rfl
  · rw [if_pos rfl]
    exact valV_pos rfl
  · rw [if_neg (fun e => h12 e.symm), if_pos rfl]
    exact (valV_neg (fun e => h12 (Sum.inr.inj e))).trans (valV_pos rfl)
  · rw [if_neg (fun e => h13 e.symm), if_neg (fun e => h23 e.symm)]
    exact ((valV_neg (fun e => h13 (Sum.inr.inj e))).trans (valV_neg (fun e => h23 (Sum.inr.inj e)))).trans (valV_pos rfl)
section
variable {P : Program} {w : World} {K : PySem.W.Frag} {mg : Str → Option Value} {base : Heap}
def spLop : Sp := fun vs H Q _ => ∃ (s : Str) (a b n : Nat), vs = [.str s, iV a, iV b, iV n] ∧ s ∈ signsL ∧ OpArg s a b n ∧ n ≤ 12 ∧ ∀ H', Same H H' → Q (iV (opV s a b n)) H'
theorem ok_lop {f : Addr} {fd : FuncData} (F : Fun K "_law_op" "_law_op" sLawOp f fd) (B : Bl mg) (ms : mg "sum" = none) : FnOk P w K mg base CX0 1 f fd ["sign", "a", "b", "width"] spLop := by
  refine F.ok scLawOp (fun vs H Q E h => ?_) (fun cdv A outer s H vs Q E hr h => ?_)
  · obtain ⟨s, a, b, n, rfl, _⟩ := h
    rfl
  · obtain ⟨s, a, b, n, rfl, hs, ho, hn, q⟩ := h
    have nd := scLawOp.nd
    have hud := hu_of hr
    have p12 : ∀ {k : Nat}, k ≤ 12 → 2 ^ k ≤ 4096 := fun h => Nat.pow_le_pow_right (by decide) h
    have a4 : a < 4096 := Nat.lt_of_lt_of_le ho.2.1 (p12 hn)
    refine ⟨_, (pss_cons (ps_if (pt_cmpR op_in_seq (pv 0) (pe_tup (pa_cons (pe_str) (pa_cons (pe_str) (pa_cons (pe_str) pa_nil)))) (by rfl)) (pss_cons (ps_set (i := 4) nd rfl (.inr rfl) (pe_lc (own := [("k", 6)]) (g := gName 6) (tt := tYes) (te := tTup (tCons (tOp rModNN (tOp rFdivN (tVar 1) (tOp rOneShlN (tC (.int 1)) (tVar 6))) (tC (.int 2))) (tCons (tOp rModNN (tOp rFdivN (tVar 2) (tOp rOneShlN (tC (.int 1)) (tVar 6))) (tC (.int 2))) tNil)))  rfl nd (pi_range1 (by rfl) B.range (pa_cons (pv 3) pa_nil)) (blkOk_by (own := [("k", 6)]) (N := NLO) (sc := defScope sLawOp) (by decide +kernel)) (fun _ _ _ _ _ => pg_name (i := 6) nd rfl (.inl rfl)) (fun _ _ _ _ _ => pts_nil) (fun _ _ _ _ _ => by exact (pe_tup (pa_cons (pe_op op_modNN (pe_op op_fdivNN (pv 1) (pe_op op_oneShlN (pe_int) (pv 6))) (pe_int)) (pa_cons (pe_op op_modNN (pe_op op_fdivNN (pv 2) (pe_op op_oneShlN (pe_int) (pv 6))) (pe_int)) pa_nil))))) (sw_cell rfl rfl))
      (pss_cons (ps_set (i := 5) nd rfl (.inr rfl) (pe_dget hud (pe_disp (pps_cons (pe_str) (pe_lst (pa_cons (pe_int) (pa_cons (pe_int) (pa_cons (pe_int) (pa_cons (pe_int) pa_nil))))) (pps_cons (pe_str) (pe_lst (pa_cons (pe_int) (pa_cons (pe_int) (pa_cons (pe_int) (pa_cons (pe_int) pa_nil))))) (pps_cons (pe_str) (pe_lst (pa_cons (pe_int) (pa_cons (pe_int) (pa_cons (pe_int) (pa_cons (pe_int) pa_nil))))) pps_nil))) rfl rfl (by intro z; cases z) (by decide)) (pv 0) (fun _ _ => rfl)))
      (pss_one (ps_ret (pe_callB (cr_sum rfl) (by rfl) ms (by decide +kernel) (pa_cons (pe_lc (own := [("k", 6)]) (g := gName 6) (tt := tYes) (te := tOp rMulN (tOp (rIxL K) (tVar 5) (tOp rAddN (tOp rMulN (tC (.int 2)) (tOp (rIxT K) (tOp (rIxL K) (tVar 4) (tVar 6)) (tC (.int 0)))) (tOp (rIxT K) (tOp (rIxL K) (tVar 4) (tVar 6)) (tC (.int 1))))) (tOp rOneShlN (tC (.int 1)) (tVar 6)))  rfl nd (pi_range1 (by rfl) B.range (pa_cons (pv 3) pa_nil)) (blkOk_by (own := [("k", 6)]) (N := NLO) (sc := defScope sLawOp) (by decide +kernel)) (fun _ _ _ _ _ => pg_name (i := 6) nd rfl (.inl rfl)) (fun _ _ _ _ _ => pts_nil) (fun _ _ _ _ _ => by exact (pe_op op_mulN (pe_ix ix_list (pv 5) (pe_op op_addN (pe_op op_mulN (pe_int) (pe_ix ix_tup (pe_ix ix_list (pv 4) (pv 6) (fun _ _ => rfl)) (pe_int) (fun _ _ => rfl))) (pe_ix ix_tup (pe_ix ix_list (pv 4) (pv 6) (fun _ _ => rfl)) (pe_int) (fun _ _ => rfl))) (fun _ _ => rfl)) (pe_op op_oneShlN (pe_int) (pv 6))))) pa_nil)))))) pss_nil)
      (C8.pss_cut (ps_if (PW.pt (pw_or (pt_cmpR op_eq (pv 0) (pe_str) (nomark _)) (pw_or1 (pt_cmpR op_eq (pv 0) (pe_str) (nomark _))))) (pss_one (ps_ret (pe_ifExp (pt_cmpR op_eq (pv 0) (pe_str) (nomark _)) (pe_callTy call_int1 (by rfl) B.int (by decide +kernel) (pa_cons (pe_cmpR op_eq (pv 1) (pv 2) (nomark _)) pa_nil)) (pe_callTy call_int1 (by rfl) B.int (by decide +kernel) (pa_cons (pe_cmpR op_lt (pv 1) (pv 2) (nomark _)) pa_nil))))) pss_nil)
      (pss_cons (ps_if (pt_cmpR op_eq (pv 0) (pe_str) (nomark _)) (pss_one (ps_ret (pe_ifExp (pt_cmpR op_ge (pv 2) (pv 3) (nomark _)) (pe_int) (pe_op op_modNN (pe_op op_mulN (pv 1) (pe_op op_oneShlN (pe_int) (pv 2))) (pe_op op_oneShlN (pe_int) (pv 3)))))) pss_nil)
      (pss_cons (ps_if (pt_cmpR op_eq (pv 0) (pe_str) (nomark _)) (pss_one (ps_ret (pe_ifExp (pt_cmpR op_ge (pv 2) (pv 3) (nomark _)) (pe_int) (pe_op op_fdivNN (pv 1) (pe_op op_oneShlN (pe_int) (pv 2)))))) pss_nil)
      (pss_one (ps_ret (pe_op op_mod (pe_dget hud (pe_disp (pps_cons (pe_str) (pe_op op_addN (pv 1) (pv 2)) (pps_cons (pe_str) (pe_op op_sub (pv 1) (pv 2)) (pps_cons (pe_str) (pe_op op_mulN (pv 1) (pv 2)) pps_nil))) rfl rfl (by intro z; cases z) (by decide)) (pv 0) (fun _ _ => rfl)) (pe_op op_oneShlN (pe_int) (pv 3))))))))), ?_⟩
    refine ⟨_, rfl, line200 (by decide), fun t nt => ⟨t, _, rfl, .inr (SqT.of upd_same), rfl, rfl, _, rfl, ?_⟩⟩
    have st : Same H (upd H t (.tup [.str "&", .str "|", .str "^"])) := same_new nt
    have inb : (inV (.str s) [.str "&", .str "|", .str "^"]) = decide (s ∈ bitL) := by
      have : ∀ s ∈ signsL, (inV (.str s) [.str "&", .str "|", .str "^"]) = decide (s ∈ bitL) := by decide +kernel
      exact this s hs
    refine ite2 (fun a1 => ?_) (fun a1 => ?_)
    · have hb : s ∈ bitL := of_decide_eq_true (by rw [← inb]; exact a1)
      have har : s ∈ arithL := (by decide +kernel : ∀ s ∈ bitL, s ∈ arithL) s hb
      have hbn := ho.2.2.2 har
      generalize upd H t (.tup [.str "&", .str "|", .str "^"]) = H1 at st
      refine ⟨_, rfl, _, rfl, by omega, by omega, fun D nD => ?_⟩
      refine lc_range (n := n) (fun i H2 => Same H1 H2 ∧ ∃ ts : List Addr, ts.length = i ∧ H2 D = some (.lst (ts.map V.ref)) ∧ ∀ (j : Nat) (tj : Addr), ts[j]? = some tj → H2 tj = some (.tup [iV (a / 2 ^ j % 2), iV (b / 2 ^ j % 2)])) ⟨same_new nD, [], rfl, upd_same, fun j tj h => by simp at h⟩ (fun i H2 hi hh => ?_) (fun H2 hh => ?_)
      · obtain ⟨s2, ts, l2, e2, h2⟩ := hh
        rw [Int.zero_add]
        have dv : ∀ x : Nat, 1 ≤ 2 ^ i ∧ 2 ^ i < 1073741824 := fun _ => ⟨Nat.two_pow_pos i, by have := p12 (show i ≤ 12 by omega); omega⟩
        refine ⟨rfl, _, rfl, _, rfl, i, rfl, rfl, by omega, a, 2 ^ i, rfl, rfl, dv 0, _, 2, rfl, rfl, by decide, _, rfl, _, rfl, i, rfl, rfl, by omega, b, 2 ^ i, rfl, rfl, dv 0, _, 2, rfl, rfl, by decide, line200 (show 2 ≤ 1000 by decide), fun tp ntp => ?_⟩
        have nDt : D ≠ tp := fun z => by rw [z, ntp] at e2; cases e2
        refine ⟨ts.map V.ref, (same_new ntp) _ _ e2, by rw [List.length_map]; exact lineS200 (by omega), same_put (s2.trans (same_new ntp)) nD, ts ++ [tp], by rw [List.length_append, l2]; rfl, by rw [List.map_append]; exact upd_same, fun j tj hj => ?_⟩
        by_cases hjl : j < ts.length
        · rw [List.getElem?_append_left hjl] at hj
          have z := h2 _ _ hj
          have ne : tj ≠ D := fun z2 => by rw [z2, e2] at z; cases z
          rw [upd_ne ne]
          exact (same_new ntp) _ _ z
        · rw [List.getElem?_append_right (by omega)] at hj
          have e0 : j - ts.length = 0 := by
            have := (List.getElem?_eq_some_iff.mp hj).1
            simp at this
            omega
          rw [e0] at hj
          cases hj
          have ej : j = i := by
            omega
          subst ej
          rw [upd_ne nDt.symm]
          exact upd_same
      obtain ⟨s2, ts, l2, e2, h2⟩ := hh
      have s2' := st.trans s2
      -- the table
      refine fun p np => ⟨line200 (show 4 ≤ 1000 by decide), fun l1 n1 => ⟨line200 (show 4 ≤ 1000 by decide), fun l2' n2 => ⟨line200 (show 4 ≤ 1000 by decide), fun l3 n3 => ⟨?_, [(.inr "&", .ref l1), (.inr "|", .ref l2'), (.inr "^", .ref l3)], rfl, (show 3 ≤ 15 by decide), _, rfl, p, (if s = "&" then .ref l1 else if s = "|" then .ref l2' else .ref l3), rfl, ?_, ?_⟩⟩⟩⟩
      · have e1 := (same_new (o := .lst [V.int 0, V.int 0, V.int 0, V.int 1]) n1) _ _ (upd_same (H := H2) (a := p) (o := .dK []))
        exact (same_new n3) _ _ ((same_new n2) _ _ e1)
      · have hc : s = "&" ∨ s = "|" ∨ s = "^" := by
          unfold bitL at hb
          simpa using hb
        have g := DGet.k (H := upd (upd (upd (upd (upd H2 p (.dK [])) l1 (.lst [V.int 0, V.int 0, V.int 0, V.int 1])) l2' (.lst [V.int 0, V.int 1, V.int 1, V.int 1])) l3 (.lst [V.int 0, V.int 1, V.int 1, V.int 0])) p (.dK (mergeK [] [((.inr "&" : Key), V.ref l1), (.inr "|", .ref l2'), (.inr "^", .ref l3)]))) (a := p) (k := .inr s) upd_same
        rw [val3 (by decide +kernel) (by decide +kernel) (by decide +kernel) hc] at g
        exact g
      have nlp1 : l1 ≠ p := fun z => by rw [z, upd_same] at n1; cases n1
      have nl21 : l2' ≠ l1 := fun z => by rw [z, upd_same] at n2; cases n2
      have nl2p : l2' ≠ p := fun z => by rw [z, upd_ne nlp1.symm, upd_same] at n2; cases n2
      have nl32 : l3 ≠ l2' := fun z => by rw [z, upd_same] at n3; cases n3
      have nl31 : l3 ≠ l1 := fun z => by rw [z, upd_ne nl21.symm, upd_same] at n3; cases n3
      have nl3p : l3 ≠ p := fun z => by rw [z, upd_ne nl2p.symm, upd_ne nlp1.symm, upd_same] at n3; cases n3
      have s5 : Same H2 (upd (upd (upd (upd (upd H2 p (.dK [])) l1 (.lst [V.int 0, V.int 0, V.int 0, V.int 1])) l2' (.lst [V.int 0, V.int 1, V.int 1, V.int 1])) l3 (.lst [V.int 0, V.int 1, V.int 1, V.int 0])) p (.dK (mergeK [] [((.inr "&" : Key), V.ref l1), (.inr "|", .ref l2'), (.inr "^", .ref l3)]))) := same_put ((((same_new np).trans (same_new n1)).trans (same_new n2)).trans (same_new n3)) np
      obtain ⟨lt, elt, hlt⟩ : ∃ lt, (if s = "&" then V.ref l1 else if s = "|" then .ref l2' else .ref l3) = .ref lt ∧ (upd (upd (upd (upd (upd H2 p (.dK [])) l1 (.lst [V.int 0, V.int 0, V.int 0, V.int 1])) l2' (.lst [V.int 0, V.int 1, V.int 1, V.int 1])) l3 (.lst [V.int 0, V.int 1, V.int 1, V.int 0])) p (.dK (mergeK [] [((.inr "&" : Key), V.ref l1), (.inr "|", .ref l2'), (.inr "^", .ref l3)]))) lt = some (.lst ((tblV s).map iV)) := by
        have hc : s = "&" ∨ s = "|" ∨ s = "^" := by
          unfold bitL at hb
          simpa using hb
        rcases hc with rfl | rfl | rfl
        · exact ⟨l1, if_pos rfl, by rw [upd_ne nlp1, upd_ne nl31.symm, upd_ne nl21.symm, upd_same]; rfl⟩
        · exact ⟨l2', by rw [if_neg (by decide +kernel), if_pos rfl], by rw [upd_ne nl2p, upd_ne nl32.symm, upd_same]; rfl⟩
        · exact ⟨l3, by rw [if_neg (by decide +kernel), if_neg (by decide +kernel)], by rw [upd_ne nl3p, upd_same]; rfl⟩
      rw [elt]
      generalize upd (upd (upd (upd (upd H2 p (.dK [])) l1 (.lst [V.int 0, V.int 0, V.int 0, V.int 1])) l2' (.lst [V.int 0, V.int 1, V.int 1, V.int 1])) l3 (.lst [V.int 0, V.int 1, V.int 1, V.int 0])) p (.dK (mergeK [] [((.inr "&" : Key), V.ref l1), (.inr "|", .ref l2'), (.inr "^", .ref l3)])) = H3 at s5 hlt
      obtain ⟨z, ez⟩ : ∃ z, z = opV s a b n := ⟨_, rfl⟩
      refine ⟨_, rfl, _, rfl, by omega, by omega, fun D2 nD2 => ?_⟩
      refine lc_range (n := n) (fun i H4 => H4 = upd H3 D2 (.lst (((List.range i).map fun k => z / 2 ^ k % 2 * 2 ^ k).map iV))) rfl (fun i H4 hi hh => ?_) (fun H4 hh => ?_)
      · subst hh
        rw [Int.zero_add]
        have sD : Same H3 (upd H3 D2 (.lst (((List.range i).map fun k => z / 2 ^ k % 2 * 2 ^ k).map iV))) := same_new nD2
        obtain ⟨tj, etj⟩ : ∃ tj, ts[i]? = some tj := ⟨_, List.getElem?_eq_getElem (by omega)⟩
        have eD := sD _ _ (s5 _ _ e2)
        have et := sD _ _ (s5 _ _ (h2 _ _ etj))
        have eb := tb_ok hb a b n i
        rw [← ez] at eb
        have hz2 := bit2 z i
        refine ⟨rfl, _, rfl, _, rfl, _, rfl, D, _, _, _, rfl, rfl, SqL.of eD, atI_nat (j := i) (show (ts.map V.ref)[i]? = some (.ref tj) by rw [List.getElem?_map, etj]; rfl), tj, _, _, _, rfl, rfl, SqT.of et, atI_nat (j := 0) rfl, 2, _, rfl, rfl, by decide, _, rfl, _, rfl, D, _, _, _, rfl, rfl, SqL.of eD, atI_nat (j := i) (show (ts.map V.ref)[i]? = some (.ref tj) by rw [List.getElem?_map, etj]; rfl), tj, _, _, _, rfl, rfl, SqT.of et, atI_nat (j := 1) rfl, _, _, rfl, rfl, lt, _, _, _, rfl, rfl, SqL.of (sD _ _ hlt), atI_nat (int_at eb), _, rfl, i, rfl, rfl, by omega, _, 2 ^ i, rfl, rfl, by omega, _, upd_same, ?_, ?_⟩
        · rw [List.length_map, List.length_map, List.length_range]
          exact lineS200 (by omega)
        · rw [upd_upd, List.range_succ, List.map_append, List.map_append]
          rfl
      · subst hh
        have hlt2 := opV_arith har ho.2.1 hbn
        refine ⟨D2, (((List.range n).map fun k => z / 2 ^ k % 2 * 2 ^ k).map fun k => ((k : Nat) : Int)), rfl, SqL.of (by rw [upd_same, iV_ints]), ?_⟩
        rw [sum_cast, bits_sum, ez, Nat.mod_eq_of_lt hlt2]
        exact q _ ((s2'.trans s5).trans (same_new nD2))
    · have hnb : s ∉ bitL := fun h => a1 (by
        show (inV (.str s) [.str "&", .str "|", .str "^"]) = true
        rw [inb]
        exact decide_eq_true h)
      have hc : s = "+" ∨ s = "-" ∨ s = "*" ∨ s = "==" ∨ s = "<" ∨ s = "<<" ∨ s = ">>" := by
        have : ∀ s ∈ signsL, s ∉ bitL → s = "+" ∨ s = "-" ∨ s = "*" ∨ s = "==" ∨ s = "<" ∨ s = "<<" ∨ s = ">>" := by decide +kernel
        exact this s hs hnb
      generalize upd H t (.tup [.str "&", .str "|", .str "^"]) = H1 at st
      have sk : ∀ {A B C D2 E2 F2 : Prop}, True := fun {_ _ _ _ _ _} => trivial
      by_cases htst : s = "==" ∨ s = "<"
      · refine ⟨fun _ _ => False, ?_, fun _ _ z => z.elim⟩
        rcases htst with rfl | rfl
        · refine ⟨_, rfl, rfl, _, rfl, kT rfl (iteT ⟨_, rfl, rfl, _, rfl, kT rfl ⟨_, rfl, _, rfl, rfl, .inr ⟨_, rfl, ?_⟩⟩⟩)⟩
          have e : iV (opV "==" a b n) = V.int (if decide (V.int ((a : Nat) : Int) = V.int ((b : Nat) : Int)) = true then 1 else 0) := vI (by
            show (((if a = b then 1 else 0 : Nat)) : Int) = _
            by_cases h : a = b
            · rw [if_pos h, if_pos (decide_eq_true (by rw [h]))]
              rfl
            · rw [if_neg h, if_neg (c := decide (V.int ((a : Nat) : Int) = V.int ((b : Nat) : Int)) = true) (fun z => h (by have := V.int.inj (of_decide_eq_true z); omega))]
              rfl)
          have q2 := q _ st
          rw [e] at q2
          exact q2
        · refine ⟨_, rfl, rfl, _, rfl, kF (sN (by decide +kernel)) ⟨_, rfl, rfl, _, rfl, kT rfl ⟨_, rfl, rfl, _, rfl, kF (sN (by decide +kernel)) ⟨_, rfl, _, rfl, _, _, rfl, rfl, .inr ⟨_, rfl, ?_⟩⟩⟩⟩⟩
          have e : iV (opV "<" a b n) = V.int (if decide (((a : Nat) : Int) < ((b : Nat) : Int)) = true then 1 else 0) := vI (by
            show (((if a < b then 1 else 0 : Nat)) : Int) = _
            by_cases h : a < b
            · rw [if_pos h, if_pos (decide_eq_true (by omega))]
              rfl
            · rw [if_neg h, if_neg (fun z => h (by have := of_decide_eq_true z; omega))]
              rfl)
          have q2 := q _ st
          rw [e] at q2
          exact q2
      · have h1 : s ≠ "==" := fun e => htst (.inl e)
        have h2 : s ≠ "<" := fun e => htst (.inr e)
        refine ⟨fun σ H2 => σ = [some (.str s), some (iV a), some (iV b), some (iV n), none, none, none] ∧ H2 = H1, ?_, ?_⟩
        · exact ⟨_, rfl, rfl, _, rfl, kF (sN h1) ⟨_, rfl, rfl, _, rfl, kF (sN h2) ⟨rfl, rfl⟩⟩⟩
        · rintro σ H2 ⟨rfl, rfl⟩
          have hc2 : s = "+" ∨ s = "-" ∨ s = "*" ∨ s = "<<" ∨ s = ">>" := by
            rcases hc with h | h | h | h | h | h | h
            · exact .inl h
            · exact .inr (.inl h)
            · exact .inr (.inr (.inl h))
            · exact absurd h h1
            · exact absurd h h2
            · exact .inr (.inr (.inr (.inl h)))
            · exact .inr (.inr (.inr (.inr h)))
          by_cases e3 : s = "<<"
          · subst e3
            refine ⟨_, rfl, rfl, _, rfl, kT rfl ⟨_, rfl, _, rfl, _, _, rfl, rfl, _, rfl, ite2 (fun b1 => ?_) (fun b1 => ?_)⟩⟩
            · have hb : ¬ b < n := by have := of_decide_eq_true b1; omega
              have e : opV "<<" a b n = 0 := if_neg hb
              have q2 := q _ st
              rw [e] at q2
              exact q2
            · have hb : b < n := Nat.lt_of_not_le fun z => b1 (decide_eq_true (by omega))
              have e : opV "<<" a b n = a * 2 ^ b % 2 ^ n := if_pos hb
              have q2 := q _ st
              rw [e] at q2
              exact ⟨_, rfl, _, rfl, b, rfl, rfl, by omega, a, 2 ^ b, rfl, rfl, by omega, _, rfl, n, rfl, rfl, by omega, _, 2 ^ n, rfl, rfl, Nat.two_pow_pos n, q2⟩
          by_cases e4 : s = ">>"
          · subst e4
            refine ⟨_, rfl, rfl, _, rfl, kF (sN (by decide +kernel)) ⟨_, rfl, rfl, _, rfl, kT rfl ⟨_, rfl, _, rfl, _, _, rfl, rfl, _, rfl, ite2 (fun b1 => ?_) (fun b1 => ?_)⟩⟩⟩
            · have hb : ¬ b < n := by have := of_decide_eq_true b1; omega
              have e : opV ">>" a b n = 0 := if_neg hb
              have q2 := q _ st
              rw [e] at q2
              exact q2
            · have hb : b < n := Nat.lt_of_not_le fun z => b1 (decide_eq_true (by omega))
              have e : opV ">>" a b n = a / 2 ^ b := if_pos hb
              have q2 := q _ st
              rw [e] at q2
              exact ⟨_, rfl, _, rfl, b, rfl, rfl, by omega, a, 2 ^ b, rfl, rfl, ⟨Nat.two_pow_pos b, by have := p12 (show b ≤ 12 by omega); omega⟩, q2⟩
          · have hc3 : s = "+" ∨ s = "-" ∨ s = "*" := by
              rcases hc2 with h | h | h | h | h
              · exact .inl h
              · exact .inr (.inl h)
              · exact .inr (.inr h)
              · exact absurd h e3
              · exact absurd h e4
            refine ⟨_, rfl, rfl, _, rfl, kF (sN e3) ⟨_, rfl, rfl, _, rfl, kF (sN e4) ?_⟩⟩
            refine fun p np => ⟨_, rfl, _, rfl, _, _, rfl, rfl, _, rfl, _, rfl, _, _, rfl, rfl, _, rfl, _, rfl, a, b, rfl, rfl, by omega, upd_same, [(.inr "+", .int ((a + b : Nat) : Int)), (.inr "-", .int (((a : Nat) : Int) - ((b : Nat) : Int))), (.inr "*", .int ((a * b : Nat) : Int))], rfl, (show 3 ≤ 15 by decide), _, rfl, p, (if s = "+" then .int ((a + b : Nat) : Int) else if s = "-" then .int (((a : Nat) : Int) - ((b : Nat) : Int)) else .int ((a * b : Nat) : Int)), rfl, ?_, ?_⟩
            · have g := DGet.k (H := upd (upd H2 p (.dK [])) p (.dK (mergeK [] [((.inr "+" : Key), .int ((a + b : Nat) : Int)), (.inr "-", .int (((a : Nat) : Int) - ((b : Nat) : Int))), (.inr "*", .int ((a * b : Nat) : Int))]))) (a := p) (k := .inr s) upd_same
              rw [val3 (by decide +kernel) (by decide +kernel) (by decide +kernel) hc3] at g
              exact g
            have q2 := q _ (st.trans (show Same H2 (upd (upd H2 p (.dK [])) p (.dK (mergeK [] [((.inr "+" : Key), .int ((a + b : Nat) : Int)), (.inr "-", .int (((a : Nat) : Int) - ((b : Nat) : Int))), (.inr "*", .int ((a * b : Nat) : Int))]))) from same_put (same_new np) np))
            have h2n : (0 : Int) < ((2 ^ n : Nat) : Int) := by have := Nat.two_pow_pos n; omega
            rcases hc3 with rfl | rfl | rfl
            · refine ⟨_, rfl, n, rfl, rfl, by omega, ((a + b : Nat) : Int), ((2 ^ n : Nat) : Int), rfl, rfl, h2n, ?_⟩
              rw [show iV (opV "+" a b n) = V.int (((a + b : Nat) : Int) % ((2 ^ n : Nat) : Int)) from vI (by rw [← Int.natCast_emod]; rfl)] at q2
              exact q2
            · refine ⟨_, rfl, n, rfl, rfl, by omega, ((a : Nat) : Int) - ((b : Nat) : Int), ((2 ^ n : Nat) : Int), rfl, rfl, h2n, ?_⟩
              rw [show iV (opV "-" a b n) = V.int ((((a : Nat) : Int) - ((b : Nat) : Int)) % ((2 ^ n : Nat) : Int)) from vI (by
                show ((((((a : Nat) : Int) - ((b : Nat) : Int)) % 2 ^ n).toNat : Nat) : Int) = _
                rw [cst]
                exact Int.toNat_of_nonneg (Int.emod_nonneg _ (Int.ne_of_gt h2n)))] at q2
              exact q2
            · refine ⟨_, rfl, n, rfl, rfl, by omega, ((a * b : Nat) : Int), ((2 ^ n : Nat) : Int), rfl, rfl, h2n, ?_⟩
              rw [show iV (opV "*" a b n) = V.int (((a * b : Nat) : Int) % ((2 ^ n : Nat) : Int)) from vI (by rw [← Int.natCast_emod]; rfl)] at q2
              exact q2
end
end C1

/-! The law's value of a row. -/
namespace C1
open PySem PySem.Spec PyProof.Rows L2 SX
abbrev sLawFound : Stmt := topS 49
theorem scLawFound : FnScope ["row", "found", "widths", "regs", "mems", "word", "value", "width"] ["row", "found", "widths", "regs", "mems"] (defScope sLawFound) := ⟨rfl, rfl, rfl, by decide +kernel, rfl, by decide +kernel, by decide +kernel⟩
theorem op_parts {regs mems : List (Nat × Nat)} {ws vs : List Nat} {s : Str} {a b wd : Nat} (h : RowOk regs mems ws (.op s a b) wd) (hw : WsOk ws) (hl : vs.length = ws.length) (hb : Bd vs ws) :
    ∃ x y va vb : Nat, ws[a]? = some x ∧ ws[b]? = some y ∧ vs[a]? = some va ∧ vs[b]? = some vb ∧ s ∈ signsL ∧ OpArg s va vb x ∧ x ≤ 12 ∧ wd = (if s ∈ testL then 1 else x) := by
  have val : ∀ {a x : Nat}, ws[a]? = some x → ∃ v, vs[a]? = some v ∧ v < 2 ^ x ∧ x ≤ 12 ∧ v < 4096 := fun {a x} e => by
    obtain ⟨v, ev⟩ := at_len hl e
    have h1 := hb _ _ _ ev e
    have h2 := (hw x (List.mem_of_getElem? e)).2
    exact ⟨v, ev, h1, h2, Nat.lt_of_lt_of_le h1 (p2 h2)⟩
  cases h with
  | @shift s a b x y hs h h3 =>
    obtain ⟨va, e1, z1, z2, z3⟩ := val h
    obtain ⟨vb, e2, y1, y2, y3⟩ := val h3
    have hn : ∀ s ∈ shiftL, s ∉ arithL ∧ s ∉ testL := by decide +kernel
    exact ⟨_, _, va, vb, h, h3, e1, e2, by unfold signsL; exact List.mem_append_right _ hs, ⟨by omega, z1, by omega, fun q => absurd q (hn s hs).1⟩, z2, by rw [if_neg (hn s hs).2]⟩
  | @arith s a b x hs h h3 =>
    obtain ⟨va, e1, z1, z2, z3⟩ := val h
    obtain ⟨vb, e2, y1, y2, y3⟩ := val h3
    have hn : ∀ s ∈ arithL, s ∉ testL := by decide +kernel
    exact ⟨_, _, va, vb, h, h3, e1, e2, by unfold signsL; exact List.mem_append_left _ (List.mem_append_left _ hs), ⟨by omega, z1, by omega, fun _ => y1⟩, z2, by rw [if_neg (hn s hs)]⟩
  | @test s a b x hs h h3 =>
    obtain ⟨va, e1, z1, z2, z3⟩ := val h
    obtain ⟨vb, e2, y1, y2, y3⟩ := val h3
    exact ⟨_, _, va, vb, h, h3, e1, e2, by unfold signsL; exact List.mem_append_left _ (List.mem_append_right _ hs), ⟨by omega, z1, by omega, fun _ => y1⟩, z2, by rw [if_pos hs]⟩
section
variable {P : Program} {w : World} {K : PySem.W.Frag} {mg : Str → Option Value} {base : Heap}
structure LSt (K : PySem.W.Frag) (H : Hp) (rg mm : Addr) (la : List Addr) (rs : List Nat) (ms : List (List Nat)) (regs mems : List (Nat × Nat)) : Prop where
  rg : ∃ ra : List Addr, SqL K H rg (ra.map V.ref) ∧ ra.length = regs.length ∧ ∀ (i : Nat) (a : Addr) (r : Nat) (p : Nat × Nat), ra[i]? = some a → rs[i]? = some r → regs[i]? = some p → SqT K H a [iV r, iV p.1]
  mm : ∃ ta : List Addr, SqL K H mm (ta.map V.ref) ∧ ta.length = mems.length ∧ ∀ (i : Nat) (t a : Addr) (p : Nat × Nat), ta[i]? = some t → la[i]? = some a → mems[i]? = some p → SqT K H t [.ref a, iV p.2]
  ml : ML H la ms
theorem LSt.same {H H' : Hp} {rg mm : Addr} {la : List Addr} {rs : List Nat} {ms : List (List Nat)} {regs mems : List (Nat × Nat)} (L : LSt K H rg mm la rs ms regs mems) (s : Same H H') : LSt K H' rg mm la rs ms regs mems := by
  obtain ⟨ra, h1, h2, h3⟩ := L.rg
  obtain ⟨ta, h4, h5, h6⟩ := L.mm
  exact ⟨⟨ra, s.seq h1, h2, fun i a r p e1 e2 e3 => same_tup s _ _ (h3 i a r p e1 e2 e3)⟩, ⟨ta, s.seq h4, h5, fun i t a p e1 e2 e3 => same_tup s _ _ (h6 i t a p e1 e2 e3)⟩, L.ml.same s⟩
def spLfound (K : PySem.W.Frag) : Sp := fun vs H Q _ => ∃ (v : V) (fl wl rg mm : Addr) (row : Row) (vals ws rs : List Nat) (ms : List (List Nat)) (la : List Addr) (regs mems : List (Nat × Nat)) (wd : Nat), vs = [v, .ref fl, .ref wl, .ref rg, .ref mm] ∧ Dp K H v row.d ∧ SqL K H fl (vals.map iV) ∧ SqL K H wl (ws.map iV) ∧
  LSt K H rg mm la rs ms regs mems ∧ RowOk regs mems ws row wd ∧ wd ≤ 12 ∧ WsOk ws ∧ vals.length = ws.length ∧ Bd vals ws ∧ RgB rs regs ∧ MmB ms mems ∧ ∀ H' p, Same H H' → SqT K H' p [iV (rowV rs ms ws vals row), iV wd] → Q (.ref p) H'
theorem ok_lfound {f fO : Addr} {fd fdO : FuncData} (F : Fun K "_law_found" "_law_found" sLawFound f fd) (GO : FnOk P w K mg base CX0 1 fO fdO ["sign", "a", "b", "width"] spLop) (kO : PySem.W.keepIn K (.ref fO) = true) (bO : Binds K fdO ["sign", "a", "b", "width"] []) (gO : mg "_law_op" = some (.ref fO)) :
    FnOk P w K mg base CX0 2 f fd ["row", "found", "widths", "regs", "mems"] (spLfound K) := by
  refine F.ok scLawFound (fun vs H Q E h => ?_) (fun cdv A outer s H vs Q E hr h => ?_)
  · obtain ⟨v, fl, wl, rg, mm, row, vals, ws, rs, ms, la, regs, mems, wd, rfl, _⟩ := h
    rfl
  · obtain ⟨v, fl, wl, rg, mm, row, vals, ws, rs, ms, la, regs, mems, wd, rfl, hd, hfl, hwl, L, hro, h12, hw, hl, hb, bR, bM, q⟩ := h
    have nd := scLawFound.nd
    have hr1 := hr
    obtain ⟨b, rfl, sb⟩ := dp_row hd
    have val : ∀ {a x : Nat}, ws[a]? = some x → ∃ v, vals[a]? = some v ∧ v < 2 ^ x ∧ x ≤ 12 ∧ v < 4096 := fun {a x} e => by
      obtain ⟨v, ev⟩ := at_len hl e
      have h1 := hb _ _ _ ev e
      have h2 := (hw x (List.mem_of_getElem? e)).2
      exact ⟨v, ev, h1, h2, Nat.lt_of_lt_of_le h1 (p2 h2)⟩
    have fin : ∀ {H2 : Hp} {x y : V}, Same H H2 → x = iV (rowV rs ms ws vals row) → y = iV wd → ([x, y] : List V).length ≤ sizeLine ∧ ∀ p, H2 p = none → Q (.ref p) (upd H2 p (.tup [x, y])) := fun {H2 x y} s2 ex ey => ⟨line200 (show 2 ≤ 1000 by decide), fun p np => q _ p (s2.trans (same_new np)) (by rw [ex, ey]; exact SqT.of upd_same)⟩
    have hkk := vs_kind row
    refine ⟨_, (pss_cons (ps_set (i := 5) nd rfl (.inl rfl) (pe_ix ix_tup (pv 0) (pe_int) (fun _ _ => rfl)))
      (pss_cons (ps_if (pt_cmpR op_eq (pv 5) (pe_str) (nomark _)) (pss_one (ps_ret (pe_tup (pa_cons (pe_ix ix_tup (pv 0) (pe_int) (fun _ _ => rfl)) (pa_cons (pe_ix ix_tup (pv 0) (pe_int) (fun _ _ => rfl)) pa_nil))))) pss_nil)
      (pss_cons (ps_if (pt_cmpR op_eq (pv 5) (pe_str) (nomark _)) (pss_one (ps_ret (pe_ix ix_list (pv 3) (pe_ix ix_tup (pv 0) (pe_int) (fun _ _ => rfl)) (fun _ _ => rfl)))) pss_nil)
      (pss_cons (ps_if (pt_cmpR op_eq (pv 5) (pe_str) (nomark _)) (pss_one (ps_ret (pe_tup (pa_cons (pe_ix ix_list (pe_ix ix_tup (pe_ix ix_list (pv 4) (pe_ix ix_tup (pv 0) (pe_int) (fun _ _ => rfl)) (fun _ _ => rfl)) (pe_int) (fun _ _ => rfl)) (pe_ix ix_list (pv 1) (pe_ix ix_tup (pv 0) (pe_int) (fun _ _ => rfl)) (fun _ _ => rfl)) (fun _ _ => rfl)) (pa_cons (pe_ix ix_tup (pe_ix ix_list (pv 4) (pe_ix ix_tup (pv 0) (pe_int) (fun _ _ => rfl)) (fun _ _ => rfl)) (pe_int) (fun _ _ => rfl)) pa_nil))))) pss_nil)
      (pss_cons (ps_if (pt_cmpR op_eq (pv 5) (pe_str) (nomark _)) (pss_cons (ps_set (i := 6) nd rfl (.inl rfl) (pe_call GO hr1 (by rfl) gO kO bO .nil pass0 (pa_cons (pe_ix ix_tup (pv 0) (pe_int) (fun _ _ => rfl)) (pa_cons (pe_ix ix_list (pv 1) (pe_ix ix_tup (pv 0) (pe_int) (fun _ _ => rfl)) (fun _ _ => rfl)) (pa_cons (pe_ix ix_list (pv 1) (pe_ix ix_tup (pv 0) (pe_int) (fun _ _ => rfl)) (fun _ _ => rfl)) (pa_cons (pe_ix ix_list (pv 2) (pe_ix ix_tup (pv 0) (pe_int) (fun _ _ => rfl)) (fun _ _ => rfl)) pa_nil))))))
      (pss_one (ps_ret (pe_tup (pa_cons (pv 6) (pa_cons (pe_ifExp (pt_cmpR op_in_seq (pe_ix ix_tup (pv 0) (pe_int) (fun _ _ => rfl)) (pe_tup (pa_cons (pe_str) (pa_cons (pe_str) pa_nil))) (by rfl)) (pe_int) (pe_ix ix_list (pv 2) (pe_ix ix_tup (pv 0) (pe_int) (fun _ _ => rfl)) (fun _ _ => rfl))) pa_nil)))))) pss_nil)
      (pss_cons (ps_if (pt_cmpR op_eq (pv 5) (pe_str) (nomark _)) (pss_one (ps_ret (pe_tup (pa_cons (pe_ix ix_list (pv 1) (pe_ifExp (pt_cmpR op_eq (pe_ix ix_list (pv 1) (pe_ix ix_tup (pv 0) (pe_int) (fun _ _ => rfl)) (fun _ _ => rfl)) (pe_int) (nomark _)) (pe_ix ix_tup (pv 0) (pe_int) (fun _ _ => rfl)) (pe_ix ix_tup (pv 0) (pe_int) (fun _ _ => rfl))) (fun _ _ => rfl)) (pa_cons (pe_ix ix_list (pv 2) (pe_ix ix_tup (pv 0) (pe_int) (fun _ _ => rfl)) (fun _ _ => rfl)) pa_nil))))) pss_nil)
      (pss_cons (ps_if (pt_cmpR op_eq (pv 5) (pe_str) (nomark _)) (pss_one (ps_ret (pe_tup (pa_cons (pe_op op_add (pe_op op_mulN (pe_ix ix_list (pv 1) (pe_ix ix_tup (pv 0) (pe_int) (fun _ _ => rfl)) (fun _ _ => rfl)) (pe_op op_oneShlN (pe_int) (pe_ix ix_list (pv 2) (pe_ix ix_tup (pv 0) (pe_int) (fun _ _ => rfl)) (fun _ _ => rfl)))) (pe_ix ix_list (pv 1) (pe_ix ix_tup (pv 0) (pe_int) (fun _ _ => rfl)) (fun _ _ => rfl))) (pa_cons (pe_op op_add (pe_ix ix_list (pv 2) (pe_ix ix_tup (pv 0) (pe_int) (fun _ _ => rfl)) (fun _ _ => rfl)) (pe_ix ix_list (pv 2) (pe_ix ix_tup (pv 0) (pe_int) (fun _ _ => rfl)) (fun _ _ => rfl))) pa_nil))))) pss_nil)
      (pss_cons (ps_if (pt_cmpR op_eq (pv 5) (pe_str) (nomark _)) (pss_one (ps_ret (pe_tup (pa_cons (pe_op op_sub (pe_op op_sub (pe_op op_oneShlN (pe_int) (pe_ix ix_list (pv 2) (pe_ix ix_tup (pv 0) (pe_int) (fun _ _ => rfl)) (fun _ _ => rfl))) (pe_int)) (pe_ix ix_list (pv 1) (pe_ix ix_tup (pv 0) (pe_int) (fun _ _ => rfl)) (fun _ _ => rfl))) (pa_cons (pe_ix ix_list (pv 2) (pe_ix ix_tup (pv 0) (pe_int) (fun _ _ => rfl)) (fun _ _ => rfl)) pa_nil))))) pss_nil)
      (pss_cons (ps_if (pt_cmpR op_eq (pv 5) (pe_str) (nomark _)) (pss_one (ps_ret (pe_tup (pa_cons (pe_op op_modNN (pe_ix ix_list (pv 1) (pe_ix ix_tup (pv 0) (pe_int) (fun _ _ => rfl)) (fun _ _ => rfl)) (pe_op op_oneShlN (pe_int) (pe_ix ix_tup (pv 0) (pe_int) (fun _ _ => rfl)))) (pa_cons (pe_ix ix_tup (pv 0) (pe_int) (fun _ _ => rfl)) pa_nil))))) pss_nil)
      (pss_cons (ps_set (i := 7) nd rfl (.inl rfl) (pe_op op_add (pe_op op_sub (pe_ix ix_tup (pv 0) (pe_int) (fun _ _ => rfl)) (pe_ix ix_tup (pv 0) (pe_int) (fun _ _ => rfl))) (pe_int)))
      (pss_one (ps_ret (pe_tup (pa_cons (pe_op op_modNN (pe_op op_fdivNN (pe_ix ix_list (pv 1) (pe_ix ix_tup (pv 0) (pe_int) (fun _ _ => rfl)) (fun _ _ => rfl)) (pe_op op_oneShlN (pe_int) (pe_ix ix_tup (pv 0) (pe_int) (fun _ _ => rfl)))) (pe_op op_oneShlN (pe_int) (pv 7))) (pa_cons (pv 7) pa_nil))))))))))))))), ?_⟩
    refine ⟨_, rfl, _, _, _, _, rfl, rfl, sb, atI_nat (j := 0) hkk, ?_⟩
    refine ⟨_, rfl, rfl, _, rfl, ?_⟩
    by_cases hop : ∃ s a b, row = .op s a b
    · obtain ⟨s, a, b2, rfl⟩ := hop
      obtain ⟨x, y, va, vb, e1, e2, e3, e4, hs, ho, hx, ew⟩ := op_parts hro hw hl hb
      refine kF (sN (a := "op") (b := "lit") (by decide +kernel)) ⟨_, rfl, rfl, _, rfl, kF (sN (a := "op") (b := "reg") (by decide +kernel)) ⟨_, rfl, rfl, _, rfl, kF (sN (a := "op") (b := "look") (by decide +kernel)) ⟨_, rfl, rfl, _, rfl, kT rfl ?_⟩⟩⟩
      refine ⟨_, rfl, _, _, _, _, rfl, rfl, sb, atI_nat (j := 1) rfl, _, rfl, _, rfl, _, _, _, _, rfl, rfl, sb, atI_nat (j := 2) rfl, fl, _, _, _, rfl, rfl, hfl, atI_nat (int_at e3), _, rfl, _, rfl, _, _, _, _, rfl, rfl, sb, atI_nat (j := 3) rfl, fl, _, _, _, rfl, rfl, hfl, atI_nat (int_at e4), _, rfl, _, rfl, _, _, _, _, rfl, rfl, sb, atI_nat (j := 2) rfl, wl, _, _, _, rfl, rfl, hwl, atI_nat (int_at e1), s, va, vb, x, rfl, hs, ho, hx, fun H2 s2 => ?_⟩
      have sb2 := same_tup s2 _ _ sb
      have rv : iV (opV s va vb x) = iV (rowV rs ms ws vals (.op s a b2)) := by
        show _ = iV (opV s (vals.getD a 0) (vals.getD b2 0) (ws.getD a 0))
        rw [getD_some e1, getD_some e3, getD_some e4]
      refine ⟨_, rfl, _, rfl, _, _, _, _, rfl, rfl, sb2, atI_nat (j := 1) rfl, line200 (show 2 ≤ 1000 by decide), fun t nt => ⟨t, _, rfl, .inr (SqT.of upd_same), rfl, rfl, _, rfl, ?_⟩⟩
      have s3 := s2.trans (same_new (o := .tup [.str "==", .str "<"]) nt)
      have inb : (inV (.str s) [.str "==", .str "<"]) = decide (s ∈ testL) := by
        have : ∀ s ∈ signsL, (inV (.str s) [.str "==", .str "<"]) = decide (s ∈ testL) := by decide +kernel
        exact this s hs
      refine ite2 (fun a1 => ?_) (fun a1 => ?_)
      · have ht : s ∈ testL := of_decide_eq_true (by rw [← inb]; exact a1)
        rw [if_pos ht] at ew
        exact fin s3 rv (by rw [ew]; rfl)
      · have ht : s ∉ testL := fun h => a1 (by
          show (inV (.str s) [.str "==", .str "<"]) = true
          rw [inb]
          exact decide_eq_true h)
        rw [if_neg ht] at ew
        exact ⟨_, rfl, _, rfl, _, _, _, _, rfl, rfl, same_tup s3 _ _ sb, atI_nat (j := 2) rfl, wl, _, _, _, rfl, rfl, s3.seq hwl, atI_nat (int_at e1), fin s3 rv (by rw [ew])⟩
    cases hro with
    | @lit v0 w0 hv =>
      exact kT rfl ⟨_, rfl, _, _, _, _, rfl, rfl, sb, atI_nat (j := 1) rfl, _, rfl, _, _, _, _, rfl, rfl, sb, atI_nat (j := 2) rfl, fin (Same.refl H) rfl rfl⟩
    | @reg i w0 f0 hg =>
      refine kF (sN (a := "reg") (b := "lit") (by decide +kernel)) ⟨_, rfl, rfl, _, rfl, kT rfl ?_⟩
      obtain ⟨ra, h1, h2, h3⟩ := L.rg
      obtain ⟨r, er⟩ := at_len bR.len hg
      obtain ⟨ri, eri⟩ := at_len h2 hg
      have ht := h3 _ _ _ _ eri er hg
      refine ⟨_, rfl, _, rfl, _, _, _, _, rfl, rfl, sb, atI_nat (j := 1) rfl, rg, _, _, _, rfl, rfl, h1, atI_nat (j := i) (show (ra.map V.ref)[i]? = some (.ref ri) by rw [List.getElem?_map, eri]; rfl), ?_⟩
      refine q H ri (Same.refl H) ?_
      show SqT K H ri [iV (rs.getD i 0), iV wd]
      rw [getD_some er]
      exact ht
    | @look m a b0 w0 hg ha =>
      refine kF (sN (a := "look") (b := "lit") (by decide +kernel)) ⟨_, rfl, rfl, _, rfl, kF (sN (a := "look") (b := "reg") (by decide +kernel)) ⟨_, rfl, rfl, _, rfl, kT rfl ?_⟩⟩
      obtain ⟨ta, h1, h2, h3⟩ := L.mm
      obtain ⟨mv, emv⟩ := at_len bM.len hg
      obtain ⟨lm, elm⟩ := at_len L.ml.len emv
      obtain ⟨ti, eti⟩ := at_len h2 hg
      have ht := h3 _ _ _ _ eti elm hg
      obtain ⟨va, eva, hva, _, _⟩ := val ha
      obtain ⟨ml, _⟩ := bM.lt _ _ _ emv hg
      obtain ⟨xv, hx2⟩ : ∃ xv, mv[va]? = some xv := ⟨_, List.getElem?_eq_getElem (show va < mv.length by rw [ml]; exact hva)⟩
      have em := L.ml.at' _ _ _ elm emv
      have et : (ta.map V.ref)[m]? = some (.ref ti) := by rw [List.getElem?_map, eti]; rfl
      refine ⟨_, rfl, _, rfl, _, _, _, _, rfl, rfl, sb, atI_nat (j := 1) rfl, mm, _, _, _, rfl, rfl, h1, atI_nat (j := m) et, ti, _, _, _, rfl, rfl, ht, atI_nat (j := 0) rfl, _, rfl, _, rfl, _, _, _, _, rfl, rfl, sb, atI_nat (j := 2) rfl, fl, _, _, _, rfl, rfl, hfl, atI_nat (int_at eva), lm, _, _, _, rfl, rfl, SqL.of em, atI_nat (int_at hx2), _, rfl, _, rfl, _, _, _, _, rfl, rfl, sb, atI_nat (j := 1) rfl, mm, _, _, _, rfl, rfl, h1, atI_nat (j := m) et, ti, _, _, _, rfl, rfl, ht, atI_nat (j := 1) rfl, ?_⟩
      exact fin (Same.refl H) (by show iV xv = iV ((ms.getD m []).getD (vals.getD a 0) 0); rw [getD_someL emv, getD_some eva, getD_some hx2]) rfl
    | shift hs h h2 => exact absurd ⟨_, _, _, rfl⟩ hop
    | arith hs h h2 => exact absurd ⟨_, _, _, rfl⟩ hop
    | test hs h h2 => exact absurd ⟨_, _, _, rfl⟩ hop
    | @pick t a b2 x h0 h h3 =>
      refine kF (sN (a := "pick") (b := "lit") (by decide +kernel)) ⟨_, rfl, rfl, _, rfl, kF (sN (a := "pick") (b := "reg") (by decide +kernel)) ⟨_, rfl, rfl, _, rfl, kF (sN (a := "pick") (b := "look") (by decide +kernel)) ⟨_, rfl, rfl, _, rfl, kF (sN (a := "pick") (b := "op") (by decide +kernel)) ⟨_, rfl, rfl, _, rfl, kT rfl ?_⟩⟩⟩⟩
      obtain ⟨vt, et, ht, _, _⟩ := val h0
      obtain ⟨va, ea, _, _, _⟩ := val h
      obtain ⟨vb, eb, _, _, _⟩ := val h3
      have wf : ∀ (H2 : Hp), Same H H2 → iV wd = iV wd := fun _ _ => rfl
      refine ⟨_, rfl, _, rfl, _, rfl, _, _, _, _, rfl, rfl, sb, atI_nat (j := 1) rfl, fl, _, _, _, rfl, rfl, hfl, atI_nat (int_at et), rfl, _, rfl, ite2 (fun a1 => ?_) (fun a1 => ?_)⟩
      · have e1 : vt = 1 := by
          have := V.int.inj (of_decide_eq_true a1)
          omega
        refine ⟨_, rfl, _, _, _, _, rfl, rfl, sb, atI_nat (j := 2) rfl, fl, _, _, _, rfl, rfl, hfl, atI_nat (int_at ea), _, rfl, _, rfl, _, _, _, _, rfl, rfl, sb, atI_nat (j := 2) rfl, wl, _, _, _, rfl, rfl, hwl, atI_nat (int_at h), ?_⟩
        exact fin (Same.refl H) (by show iV va = iV (if vals.getD t 0 = 1 then vals.getD a 0 else vals.getD b2 0); rw [getD_some et, if_pos e1, getD_some ea]) rfl
      · have e1 : ¬ vt = 1 := fun z => a1 (by subst z; rfl)
        refine ⟨_, rfl, _, _, _, _, rfl, rfl, sb, atI_nat (j := 3) rfl, fl, _, _, _, rfl, rfl, hfl, atI_nat (int_at eb), _, rfl, _, rfl, _, _, _, _, rfl, rfl, sb, atI_nat (j := 2) rfl, wl, _, _, _, rfl, rfl, hwl, atI_nat (int_at h), ?_⟩
        exact fin (Same.refl H) (by show iV vb = iV (if vals.getD t 0 = 1 then vals.getD a 0 else vals.getD b2 0); rw [getD_some et, if_neg e1, getD_some eb]) rfl
    | @join a b2 x y h h3 =>
      refine kF (sN (a := "join") (b := "lit") (by decide +kernel)) ⟨_, rfl, rfl, _, rfl, kF (sN (a := "join") (b := "reg") (by decide +kernel)) ⟨_, rfl, rfl, _, rfl, kF (sN (a := "join") (b := "look") (by decide +kernel)) ⟨_, rfl, rfl, _, rfl, kF (sN (a := "join") (b := "op") (by decide +kernel)) ⟨_, rfl, rfl, _, rfl, kF (sN (a := "join") (b := "pick") (by decide +kernel)) ⟨_, rfl, rfl, _, rfl, kT rfl ?_⟩⟩⟩⟩⟩
      obtain ⟨va, ea, _, _, v4⟩ := val h
      obtain ⟨vb, eb, _, y12, _⟩ := val h3
      refine ⟨_, rfl, _, rfl, _, _, _, _, rfl, rfl, sb, atI_nat (j := 1) rfl, fl, _, _, _, rfl, rfl, hfl, atI_nat (int_at ea), _, rfl, _, rfl, _, _, _, _, rfl, rfl, sb, atI_nat (j := 2) rfl, wl, _, _, _, rfl, rfl, hwl, atI_nat (int_at h3), y, rfl, rfl, by omega, va, 2 ^ y, rfl, rfl, by omega, _, rfl, _, rfl, _, _, _, _, rfl, rfl, sb, atI_nat (j := 2) rfl, fl, _, _, _, rfl, rfl, hfl, atI_nat (int_at eb), _, _, rfl, rfl, ?_⟩
      refine ⟨_, rfl, _, rfl, _, _, _, _, rfl, rfl, sb, atI_nat (j := 1) rfl, wl, _, _, _, rfl, rfl, hwl, atI_nat (int_at h), _, rfl, _, rfl, _, _, _, _, rfl, rfl, sb, atI_nat (j := 2) rfl, wl, _, _, _, rfl, rfl, hwl, atI_nat (int_at h3), _, _, rfl, rfl, ?_⟩
      exact fin (Same.refl H) (by show V.int (((va * 2 ^ y : Nat) : Int) + ((vb : Nat) : Int)) = iV (vals.getD a 0 * 2 ^ ws.getD b2 0 + vals.getD b2 0); rw [getD_some ea, getD_some eb, getD_some h3]; exact vI (Int.natCast_add _ _).symm) (vI (Int.natCast_add _ _).symm)
    | @inv a w0 h =>
      refine kF (sN (a := "not") (b := "lit") (by decide +kernel)) ⟨_, rfl, rfl, _, rfl, kF (sN (a := "not") (b := "reg") (by decide +kernel)) ⟨_, rfl, rfl, _, rfl, kF (sN (a := "not") (b := "look") (by decide +kernel)) ⟨_, rfl, rfl, _, rfl, kF (sN (a := "not") (b := "op") (by decide +kernel)) ⟨_, rfl, rfl, _, rfl, kF (sN (a := "not") (b := "pick") (by decide +kernel)) ⟨_, rfl, rfl, _, rfl, kF (sN (a := "not") (b := "join") (by decide +kernel)) ⟨_, rfl, rfl, _, rfl, kT rfl ?_⟩⟩⟩⟩⟩⟩
      obtain ⟨va, ea, v1, v2, v4⟩ := val h
      refine ⟨_, rfl, _, rfl, _, _, _, _, rfl, rfl, sb, atI_nat (j := 1) rfl, wl, _, _, _, rfl, rfl, hwl, atI_nat (int_at h), wd, rfl, rfl, by omega, _, _, rfl, rfl, _, rfl, _, rfl, _, _, _, _, rfl, rfl, sb, atI_nat (j := 1) rfl, fl, _, _, _, rfl, rfl, hfl, atI_nat (int_at ea), _, _, rfl, rfl, ?_⟩
      refine ⟨_, rfl, _, rfl, _, _, _, _, rfl, rfl, sb, atI_nat (j := 1) rfl, wl, _, _, _, rfl, rfl, hwl, atI_nat (int_at h), ?_⟩
      exact fin (Same.refl H) (by
        show V.int (((2 ^ wd : Nat) : Int) - 1 - ((va : Nat) : Int)) = iV (2 ^ ws.getD a 0 - 1 - vals.getD a 0)
        rw [getD_some ea, getD_some h]
        exact vI (by omega)) rfl
    | @wide a x w0 h =>
      refine kF (sN (a := "wide") (b := "lit") (by decide +kernel)) ⟨_, rfl, rfl, _, rfl, kF (sN (a := "wide") (b := "reg") (by decide +kernel)) ⟨_, rfl, rfl, _, rfl, kF (sN (a := "wide") (b := "look") (by decide +kernel)) ⟨_, rfl, rfl, _, rfl, kF (sN (a := "wide") (b := "op") (by decide +kernel)) ⟨_, rfl, rfl, _, rfl, kF (sN (a := "wide") (b := "pick") (by decide +kernel)) ⟨_, rfl, rfl, _, rfl, kF (sN (a := "wide") (b := "join") (by decide +kernel)) ⟨_, rfl, rfl, _, rfl, kF (sN (a := "wide") (b := "not") (by decide +kernel)) ⟨_, rfl, rfl, _, rfl, kT rfl ?_⟩⟩⟩⟩⟩⟩⟩
      obtain ⟨va, ea, v1, v2, v4⟩ := val h
      refine ⟨_, rfl, _, rfl, _, _, _, _, rfl, rfl, sb, atI_nat (j := 1) rfl, fl, _, _, _, rfl, rfl, hfl, atI_nat (int_at ea), _, rfl, _, _, _, _, rfl, rfl, sb, atI_nat (j := 2) rfl, wd, rfl, rfl, by omega, va, 2 ^ wd, rfl, rfl, Nat.two_pow_pos _, ?_⟩
      refine ⟨_, rfl, _, _, _, _, rfl, rfl, sb, atI_nat (j := 2) rfl, ?_⟩
      exact fin (Same.refl H) (by show iV (va % 2 ^ wd) = iV (vals.getD a 0 % 2 ^ wd); rw [getD_some ea]) rfl
    | @part a x lo hi h h3 h4 =>
      refine kF (sN (a := "part") (b := "lit") (by decide +kernel)) ⟨_, rfl, rfl, _, rfl, kF (sN (a := "part") (b := "reg") (by decide +kernel)) ⟨_, rfl, rfl, _, rfl, kF (sN (a := "part") (b := "look") (by decide +kernel)) ⟨_, rfl, rfl, _, rfl, kF (sN (a := "part") (b := "op") (by decide +kernel)) ⟨_, rfl, rfl, _, rfl, kF (sN (a := "part") (b := "pick") (by decide +kernel)) ⟨_, rfl, rfl, _, rfl, kF (sN (a := "part") (b := "join") (by decide +kernel)) ⟨_, rfl, rfl, _, rfl, kF (sN (a := "part") (b := "not") (by decide +kernel)) ⟨_, rfl, rfl, _, rfl, kF (sN (a := "part") (b := "wide") (by decide +kernel)) ?_⟩⟩⟩⟩⟩⟩⟩
      obtain ⟨va, ea, v1, v2, v4⟩ := val h
      have p12 : 2 ^ lo ≤ 4096 := p2 (show lo ≤ 12 by omega)
      refine ⟨_, rfl, _, _, _, _, rfl, rfl, sb, atI_nat (j := 3) rfl, _, rfl, _, _, _, _, rfl, rfl, sb, atI_nat (j := 2) rfl, _, _, rfl, rfl, _, _, rfl, rfl, ?_⟩
      show gName 7 (V.int (((hi : Nat) : Int) - ((lo : Nat) : Int) + 1)) _ _ _
      rw [show ((hi : Nat) : Int) - ((lo : Nat) : Int) + 1 = ((hi - lo + 1 : Nat) : Int) by omega]
      refine ⟨_, rfl, _, rfl, _, _, _, _, rfl, rfl, sb, atI_nat (j := 1) rfl, fl, _, _, _, rfl, rfl, hfl, atI_nat (int_at ea), _, rfl, _, _, _, _, rfl, rfl, sb, atI_nat (j := 2) rfl, lo, rfl, rfl, by omega, va, 2 ^ lo, rfl, rfl, ⟨Nat.two_pow_pos _, by omega⟩, _, rfl, hi - lo + 1, rfl, rfl, by omega, _, 2 ^ (hi - lo + 1), rfl, rfl, Nat.two_pow_pos _, _, rfl, ?_⟩
      exact fin (Same.refl H) (by show iV (va / 2 ^ lo % 2 ^ (hi - lo + 1)) = iV (vals.getD a 0 / 2 ^ lo % 2 ^ (hi - lo + 1)); rw [getD_some ea]) rfl
end
end C1

/-! The law's running. -/
namespace C1
open PySem PySem.Spec PyProof.Rows L2 SX
abbrev sLawDue : Stmt := topS 50
theorem scLawDue : FnScope ["circuit", "contents", "cycles", "registers", "memories", "rows", "nexts", "stores", "outs", "regs", "mems", "told", "k", "found", "widths", "row", "value", "width", "m", "place", "test", "first", "at"] ["circuit", "contents", "cycles"] (defScope sLawDue) := ⟨rfl, rfl, rfl, by decide +kernel, rfl, by decide +kernel, by decide +kernel⟩
abbrev NLD : List Str := ["circuit", "contents", "cycles", "registers", "memories", "rows", "nexts", "stores", "outs", "regs", "mems", "told", "k", "found", "widths", "row", "value", "width", "m", "place", "test", "first", "at"]
section
variable {K : PySem.W.Frag} {H H' : Hp}
theorem fx_seq {ex : List Addr} (f : Fx ex H H') {a : Addr} {xs : List V} (h : a ∉ ex) (s : SqL K H a xs) : SqL K H' a xs := by
  rcases s with (s | ⟨u, s⟩) | s
  · exact .inl (.inl (f _ _ h s))
  · exact .inl (.inr ⟨u, f _ _ h s⟩)
  · exact .inr s
theorem LSt.fx {ex : List Addr} {rg mm : Addr} {la : List Addr} {rs : List Nat} {ms ms' : List (List Nat)} {regs mems : List (Nat × Nat)} (L : LSt K H rg mm la rs ms regs mems) (f : Fx ex H H') (hx : ∀ b ∈ ex, ∃ xs, H b = some (.lst xs)) (h1 : rg ∉ ex) (h2 : mm ∉ ex) (M : ML H' la ms') : LSt K H' rg mm la rs ms' regs mems := by
  obtain ⟨ra, g1, g2, g3⟩ := L.rg
  obtain ⟨ta, g4, g5, g6⟩ := L.mm
  have st := fx_tup (K := K) hx f
  exact ⟨⟨ra, fx_seq f h1 g1, g2, fun i a r p e1 e2 e3 => st _ _ (g3 i a r p e1 e2 e3)⟩, ⟨ta, fx_seq f h2 g4, g5, fun i t a p e1 e2 e3 => st _ _ (g6 i t a p e1 e2 e3)⟩, M⟩
theorem fx_put {p : Addr} {o : HO} : Fx [p] H (upd H p o) := fun b u hb e => by
  have ne : b ≠ p := fun z => hb (by rw [z]; exact List.mem_singleton.mpr rfl)
  rw [upd_ne ne]
  exact e
theorem snoc_cases {α : Type} {l : List α} {x y : α} {j : Nat} (h : (l ++ [x])[j]? = some y) : (j < l.length ∧ l[j]? = some y) ∨ (j = l.length ∧ x = y) := by
  by_cases hj : j < l.length
  · rw [List.getElem?_append_left hj] at h
    exact .inl ⟨hj, h⟩
  · rw [List.getElem?_append_right (by omega)] at h
    have e0 : j - l.length = 0 := by
      have := (List.getElem?_eq_some_iff.mp h).1
      simp at this
      omega
    rw [e0] at h
    cases h
    exact .inr ⟨by omega, rfl⟩
end
section
variable {P : Program} {w : World} {K : PySem.W.Frag} {mg : Str → Option Value} {base : Heap}
theorem ok_due {f fL : Addr} {fd fdL : FuncData} (F : Fun K "_law_due" "_law_due" sLawDue f fd) (GL : FnOk P w K mg base CX0 2 fL fdL ["row", "found", "widths", "regs", "mems"] (spLfound K)) (kL : PySem.W.keepIn K (.ref fL) = true) (bL : Binds K fdL ["row", "found", "widths", "regs", "mems"] []) (gL : mg "_law_found" = some (.ref fL)) (B : Bl mg) (mt : mg "tuple" = none) (ml : mg "list" = none) :
    FnOk P w K mg base CX0 3 f fd ["circuit", "contents", "cycles"] (spRun K) := by
  refine F.ok scLawDue (fun vs H Q E h => ?_) (fun cdv A outer s H vs Q E hr h => ?_)
  · obtain ⟨cA, ct, n, c, ws, ms, cvs, rfl, _⟩ := h
    rfl
  · obtain ⟨cA, ct, n, c, ws, ms, cvs, rfl, hn, C, R, hct, dct, bM, bR0, q⟩ := h
    have nd := scLawDue.nd
    have hr2 := hr
    refine ⟨_, (pss_cons (ps_asg (pv 0) (pg_tup (by rfl) (pgs_cons (pg_name (i := 3) nd rfl (.inl rfl)) (pgs_cons (pg_name (i := 4) nd rfl (.inr rfl)) (pgs_cons (pg_name (i := 5) nd rfl (.inl rfl)) (pgs_cons (pg_name (i := 6) nd rfl (.inr rfl)) (pgs_cons (pg_name (i := 7) nd rfl (.inl rfl)) (pgs_cons (pg_name (i := 8) nd rfl (.inl rfl)) pgs_nil))))))))
      (pss_cons (ps_set (i := 9) nd rfl (.inr rfl) (pe_lc (own := [("width", 17), ("first", 21)]) (g := gTup K 2 (gCons (gName 17) (gCons (gName 21) (gNil)))) (tt := tYes) (te := tTup (tCons (tVar 21) (tCons (tVar 17) tNil)))  rfl nd (pi_tup (pv 3)) (blkOk_by (own := [("width", 17), ("first", 21)]) (N := NLD) (sc := defScope sLawDue) (by decide +kernel)) (fun _ _ _ _ _ => pg_tup (by rfl) (pgs_cons (pg_name (i := 17) nd rfl (.inl rfl)) (pgs_cons (pg_name (i := 21) nd rfl (.inl rfl)) pgs_nil))) (fun _ _ _ _ _ => pts_nil) (fun _ _ _ _ _ => by exact (pe_tup (pa_cons (pv 21) (pa_cons (pv 17) pa_nil))))) (sw_cell rfl rfl))
      (pss_cons (ps_setLc (i := 10) (own := [("m", 18)]) (g := gName 18) (tt := tYes) (te := tTup (tCons (tCB (rListOf K) (tCons (tOp (rIxT K) (tVar 1) (tVar 18)) tNil)) (tCons (tOp (rIxT K) (tOp (rIxT K) (tVar 4) (tVar 18)) (tC (.int 1))) tNil)))  rfl nd rfl rfl (sw_true rfl rfl rfl (by decide +kernel)) (pi_range1 (by rfl) B.range (pa_cons (pe_callB call_len_seq (by rfl) B.len PySem.boot_len (pa_cons (pv 4) pa_nil)) pa_nil)) (blkOk_by (own := [("m", 18)]) (N := NLD) (sc := defScope sLawDue) (by decide +kernel)) (fun _ _ _ _ _ => pg_name (i := 18) nd rfl (.inl rfl)) (fun _ _ _ _ _ => pts_nil) (fun _ _ _ _ _ => by exact (pe_tup (pa_cons (pe_callTy call_list_of (by rfl) ml (by decide +kernel) (pa_cons (pe_ix ix_tup (pv 1) (pv 18) (fun _ _ => rfl)) pa_nil)) (pa_cons (pe_ix ix_tup (pe_ix ix_tup (pv 4) (pv 18) (fun _ _ => rfl)) (pe_int) (fun _ _ => rfl)) pa_nil)))))
      (pss_cons (ps_set (i := 11) nd rfl (.inl rfl) (pe_lst pa_nil))
      (C8.pss_cut (ps_for PassesOwn.never rfl (pi_range1 (by rfl) B.range (pa_cons (pv 2) pa_nil)) (pg_name (i := 12) nd rfl (.inl rfl)) (pss_cons (ps_asg (pe_tup (pa_cons (pe_lst pa_nil) (pa_cons (pe_lst pa_nil) pa_nil))) (pg_tup (by rfl) (pgs_cons (pg_name (i := 13) nd rfl (.inr rfl)) (pgs_cons (pg_name (i := 14) nd rfl (.inl rfl)) pgs_nil))))
      (C8.pss_cut (ps_for PassesOwn.never rfl (pi_tup (pv 5)) (pg_name (i := 15) nd rfl (.inl rfl)) (pss_cons (ps_asg (pe_call GL hr2 (by rfl) gL kL bL .nil pass0 (pa_cons (pv 15) (pa_cons (pv 13) (pa_cons (pv 14) (pa_cons (pv 9) (pa_cons (pv 10) pa_nil)))))) (pg_tup (by rfl) (pgs_cons (pg_name (i := 16) nd rfl (.inl rfl)) (pgs_cons (pg_name (i := 17) nd rfl (.inl rfl)) pgs_nil))))
      (pss_cons (ps_expr (pe_bm PySem.F.plainAttrs_list PySem.F.slot_list_append PySem.F.type_list_append mt_append (pv 13) (pa_cons (pv 16) pa_nil)))
      (pss_one (ps_expr (pe_bm PySem.F.plainAttrs_list PySem.F.slot_list_append PySem.F.type_list_append mt_append (pv 14) (pa_cons (pv 17) pa_nil)))))))
      (pss_cons (ps_expr (pe_bm PySem.F.plainAttrs_list PySem.F.slot_list_append PySem.F.type_list_append mt_append (pv 11) (pa_cons (pe_callTy call_tuple_of (by rfl) mt (by decide +kernel) (pa_cons (pe_lc (own := [("at", 22)]) (g := gName 22) (tt := tYes) (te := tOp (rIxL K) (tVar 13) (tVar 22))  rfl nd (pi_tup (pv 8)) (blkOk_by (own := [("at", 22)]) (N := NLD) (sc := defScope sLawDue) (by decide +kernel)) (fun _ _ _ _ _ => pg_name (i := 22) nd rfl (.inl rfl)) (fun _ _ _ _ _ => pts_nil) (fun _ _ _ _ _ => by exact (pe_ix ix_list (pv 13) (pv 22) (fun _ _ => rfl)))) pa_nil)) pa_nil)))
      (pss_cons (ps_set (i := 9) nd rfl (.inr rfl) (pe_lc (own := [("at", 22)]) (g := gName 22) (tt := tYes) (te := tTup (tCons (tOp (rIxL K) (tVar 13) (tOp (rIxT K) (tVar 6) (tVar 22))) (tCons (tOp (rIxT K) (tOp (rIxL K) (tVar 9) (tVar 22)) (tC (.int 1))) tNil)))  rfl nd (pi_range1 (by rfl) B.range (pa_cons (pe_callB call_len_seq (by rfl) B.len PySem.boot_len (pa_cons (pv 9) pa_nil)) pa_nil)) (blkOk_by (own := [("at", 22)]) (N := NLD) (sc := defScope sLawDue) (by decide +kernel)) (fun _ _ _ _ _ => pg_name (i := 22) nd rfl (.inl rfl)) (fun _ _ _ _ _ => pts_nil) (fun _ _ _ _ _ => by exact (pe_tup (pa_cons (pe_ix ix_list (pv 13) (pe_ix ix_tup (pv 6) (pv 22) (fun _ _ => rfl)) (fun _ _ => rfl)) (pa_cons (pe_ix ix_tup (pe_ix ix_list (pv 9) (pv 22) (fun _ _ => rfl)) (pe_int) (fun _ _ => rfl)) pa_nil))))) (sw_cell rfl rfl))
      (pss_one (ps_for PassesOwn.never rfl (pi_tup (pv 7)) (pg_tup (by rfl) (pgs_cons (pg_name (i := 18) nd rfl (.inl rfl)) (pgs_cons (pg_name (i := 19) nd rfl (.inl rfl)) (pgs_cons (pg_name (i := 16) nd rfl (.inl rfl)) (pgs_cons (pg_name (i := 20) nd rfl (.inl rfl)) pgs_nil))))) (pss_one (ps_if (pt_cmpR op_eq (pe_ix ix_list (pv 13) (pv 20) (fun _ _ => rfl)) (pe_int) (nomark _)) (pss_one (ps_asg (pe_ix ix_list (pv 13) (pv 16) (fun _ _ => rfl)) (pg_sub (pe_ix ix_tup (pe_ix ix_list (pv 10) (pv 18) (fun _ _ => rfl)) (pe_int) (fun _ _ => rfl)) (pe_ix ix_list (pv 13) (pv 19) (fun _ _ => rfl)) set_list))) pss_nil)))))))))
      (pss_one (ps_ret (pe_callTy call_tuple_of (by rfl) mt (by decide +kernel) (pa_cons (pv 11) pa_nil))))))))), ?_⟩
    obtain ⟨r, m, t, nx, ss, o, rvs, mvs, tvs, svs, h0, h1, h2, h3, h4, h5, h6⟩ := C.ex
    obtain ⟨t', r', m', rest', tvs', g0, g3, lt, hrow⟩ := C.rowd
    have lw := R.lw
    have lr := R.lr
    have lmm := R.lm
    have hlr := rows_len R.rw
    have hws := rows_ws R.rw
    refine ⟨_, rfl, cA, _, rfl, h0, rfl, _, _, rfl, _, _, rfl, _, _, rfl, _, _, rfl, _, _, rfl, _, _, rfl, rfl, ?_⟩
    -- regs
    have lrv := dps_len h1.2
    rw [List.length_map] at lrv
    refine ⟨_, rfl, r, rfl, ⟨_, h1.1⟩, fun rg nrg => ?_⟩
    refine lc_tup (xs := rvs) (fun i H' => Same H H' ∧ ∃ ra : List Addr, ra.length = i ∧ H' rg = some (.lst (ra.map V.ref)) ∧ ∀ (j : Nat) (a : Addr) (p : Nat × Nat), ra[j]? = some a → c.regs[j]? = some p → H' a = some (.tup [iV p.2, iV p.1])) ⟨same_new nrg, [], rfl, upd_same, fun j a p e => by simp at e⟩ (fun i H' _ hh => same_tup hh.1 _ _ h1.1) (fun i x H' hx hh => ?_) (fun H1 hh => ?_)
    · obtain ⟨s1, ra, l1, e1, f1⟩ := hh
      obtain ⟨p, ep⟩ : ∃ p, c.regs[i]? = some p := at_len lrv.symm hx
      obtain ⟨b, eb, sb⟩ := pr_at h1.2 ep
      rw [hx] at eb
      cases eb
      refine ⟨b, _, rfl, same_tup s1 _ _ sb, rfl, _, _, rfl, _, _, rfl, rfl, rfl, _, rfl, _, rfl, line200 (show 2 ≤ 1000 by decide), fun tp ntp => ?_⟩
      have ne : rg ≠ tp := fun z => by rw [z, ntp] at e1; cases e1
      have li : i < c.regs.length := (List.getElem?_eq_some_iff.mp ep).1
      refine ⟨ra.map V.ref, (same_new ntp) _ _ e1, by rw [List.length_map]; exact lineS200 (by omega), same_put (s1.trans (same_new ntp)) nrg, ra ++ [tp], by rw [List.length_append, l1]; rfl, by rw [List.map_append]; exact upd_same, fun j a p2 ej ep2 => ?_⟩
      rcases snoc_cases ej with ⟨hj, ej⟩ | ⟨hj, ej⟩
      · have z := f1 _ _ _ ej ep2
        have ne2 : a ≠ rg := fun z2 => by rw [z2, e1] at z; cases z
        rw [upd_ne ne2]
        exact (same_new ntp) _ _ z
      · subst ej
        have : j = i := by omega
        subst this
        rw [ep] at ep2
        cases ep2
        rw [upd_ne ne.symm]
        exact upd_same
    obtain ⟨s1, ra, lra, era, fra⟩ := hh
    rw [lrv] at lra
    have fra2 : ∀ (j : Nat) (a : Addr) (p : Nat × Nat), ra[j]? = some a → c.regs[j]? = some p → H1 a = some (.tup [iV p.2, iV p.1]) := fra
    -- mems
    have lcv := dps_len dct
    rw [List.length_map] at lcv
    have lmv := dps_len h2.2
    rw [List.length_map] at lmv
    have lms := bM.len
    refine ⟨_, rfl, m, _, rfl, .inr (same_tup s1 _ _ h2.1), ?_⟩
    rw [lmv]
    refine ⟨_, rfl, by omega, by omega, fun mm nmm => ?_⟩
    refine lc_range (n := c.mems.length) (fun i H' => Same H1 H' ∧ H1 mm = none ∧ ∃ la ta : List Addr, H' mm = some (.lst (ta.map V.ref)) ∧ ta.length = i ∧ la.length = i ∧ la.Nodup ∧ mm ∉ la ∧ (∀ a ∈ la, H1 a = none) ∧ (∀ (j : Nat) (a : Addr) (mv : List Nat), la[j]? = some a → ms[j]? = some mv → H' a = some (.lst (mv.map iV))) ∧
        ∀ (j : Nat) (t a : Addr) (p : Nat × Nat), ta[j]? = some t → la[j]? = some a → c.mems[j]? = some p → H' t = some (.tup [.ref a, iV p.2])) ⟨same_new nmm, nmm, [], [], upd_same, rfl, rfl, List.nodup_nil, by simp, (by intro a ha; cases ha), fun j a mv e => by simp at e, fun j t a p e => by simp at e⟩ (fun i H' hi hh => ?_) (fun H2 hh => ?_)
    · obtain ⟨s2, _, la, ta, e1, l1, l2, nd1, nm, fr, f1, f2⟩ := hh
      rw [Int.zero_add]
      obtain ⟨p, ep⟩ : ∃ p, c.mems[i]? = some p := ⟨_, List.getElem?_eq_getElem hi⟩
      obtain ⟨mv, emv⟩ := at_len bM.len ep
      obtain ⟨x', ex', dx'⟩ := dps_put dct (show (ms.map memD)[i]? = some (memD mv) by rw [List.getElem?_map, emv]; rfl)
      obtain ⟨b, rfl, sb⟩ := mem_vals dx'
      obtain ⟨b2, eb2, sb2⟩ := pr_at h2.2 ep
      have s12 := s1.trans s2
      refine ⟨rfl, _, rfl, _, rfl, ct, _, _, _, rfl, rfl, same_tup s12 _ _ hct, atI_nat ex', b, _, rfl, .inr (same_tup s12 _ _ sb), fun l nl => ?_⟩
      have s3 : Same H' (upd H' l (.lst (mv.map iV))) := same_new nl
      refine ⟨_, rfl, _, rfl, m, _, _, _, rfl, rfl, same_tup (s12.trans s3) _ _ h2.1, atI_nat eb2, b2, _, _, _, rfl, rfl, same_tup (s12.trans s3) _ _ sb2, atI_nat (j := 1) rfl, line200 (show 2 ≤ 1000 by decide), fun tp ntp => ?_⟩
      have s4 := s3.trans (same_new (o := .tup [.ref l, iV p.2]) ntp)
      have nlm : l ≠ mm := fun z => by rw [z, e1] at nl; cases nl
      have ntm : tp ≠ mm := fun z => by rw [z, s3 _ _ e1] at ntp; cases ntp
      have nla : l ∉ la := fun z => by
        obtain ⟨j, ej⟩ := List.getElem?_of_mem z
        obtain ⟨mj, emj⟩ : ∃ mj, ms[j]? = some mj := ⟨_, List.getElem?_eq_getElem (by have := (List.getElem?_eq_some_iff.mp ej).1; omega)⟩
        rw [f1 _ _ _ ej emj] at nl
        cases nl
      refine ⟨ta.map V.ref, s4 _ _ e1, by rw [List.length_map]; exact lineS200 (by omega), same_put (s2.trans s4) nmm, nmm, la ++ [l], ta ++ [tp], by rw [List.map_append]; exact upd_same, by rw [List.length_append, l1]; rfl, by rw [List.length_append, l2]; rfl, ?_, ?_, ?_, ?_, ?_⟩
      · exact List.nodup_append.mpr ⟨nd1, by simp, fun a ha b hb z => nla (by rw [List.mem_singleton.mp hb] at z; rw [← z]; exact ha)⟩
      · intro z
        rcases List.mem_append.mp z with z | z
        · exact nm z
        · exact nlm (List.mem_singleton.mp z).symm
      · intro a ha
        rcases List.mem_append.mp ha with z | z
        · exact fr a z
        · rw [List.mem_singleton.mp z]
          exact s2.free nl
      · intro j a mj ej emj
        rcases snoc_cases ej with ⟨hj, ej⟩ | ⟨hj, ej⟩
        · have ne : a ≠ mm := fun z => nm (by rw [← z]; exact List.mem_of_getElem? ej)
          rw [upd_ne ne]
          exact s4 _ _ (f1 _ _ _ ej emj)
        · subst ej
          have : j = i := by omega
          subst this
          rw [emv] at emj
          cases emj
          rw [upd_ne nlm]
          exact (same_new ntp) _ _ upd_same
      · intro j t2 a p2 ej ea ep2
        rcases snoc_cases ej with ⟨hj, ej⟩ | ⟨hj, ej⟩
        · rcases snoc_cases ea with ⟨hj2, ea⟩ | ⟨hj2, ea⟩
          · have z := f2 _ _ _ _ ej ea ep2
            have ne : t2 ≠ mm := fun z2 => by rw [z2, e1] at z; cases z
            rw [upd_ne ne]
            exact s4 _ _ z
          · omega
        · rcases snoc_cases ea with ⟨hj2, ea⟩ | ⟨hj2, ea⟩
          · omega
          · subst ej ea
            have : j = i := by omega
            subst this
            rw [ep] at ep2
            cases ep2
            rw [upd_ne ntm]
            exact upd_same
    obtain ⟨s2, _, la, ta, emm, lta, lla, nd1, nmla, fr, f1, f2⟩ := hh
    have s12 : Same H H2 := s1.trans s2
    have M2 : ML H2 la ms := ⟨by omega, nd1, f1⟩
    have LL2 : LSt K H2 rg mm la (c.regs.map (·.2)) ms c.regs c.mems := ⟨⟨ra, SqL.of (s2 _ _ era), lra, fun i a r p e1 e2 e3 => by
      rw [List.getElem?_map, e3] at e2
      cases e2
      exact SqT.of (s2 _ _ (fra2 _ _ _ e1 e3))⟩, ⟨ta, SqL.of emm, lta, fun i t a p e1 e2 e3 => SqT.of (f2 _ _ _ _ e1 e2 e3)⟩, M2⟩
    -- told
    refine ⟨Nat.zero_le _, fun T nT => ?_⟩
    have s4 : Same H2 (upd H2 T (.lst [])) := same_new nT
    have rgn : rg ∉ la := fun z => by
      have := fr rg z
      rw [era] at this
      cases this
    have Tn : T ∉ la := new_notin nT M2.lst
    have Tmm : T ≠ mm := fun z => by rw [z, emm] at nT; cases nT
    have Trg : T ≠ rg := fun z => by rw [z, s2 _ _ era] at nT; cases nT
    have hnla : ∀ a ∈ la, H a = none := fun a ha => s1.free (fr a ha)
    have hnT : H T = none := s12.free nT
    let rs0 := c.regs.map (·.2)
    let It : Nat → L2.St → Hp → Prop := fun i σ H5 => ∃ (rgA : Addr) (y12 y13 y14 y15 y16 y17 y18 y19 y20 : Option V) (tl : List V), σ = [some (.ref cA), some (.ref ct), some (iV n), some (.ref r), some (.ref m), some (.ref t), some (.ref nx), some (.ref ss), some (.ref o), some (.ref rgA), some (.ref mm), some (.ref T), y12, y13, y14, y15, y16, y17, y18, y19, y20, none, none] ∧ Same H H5 ∧
      LSt K H5 rgA mm la (behC c ws i rs0 ms).1 (behC c ws i rs0 ms).2 c.regs c.mems ∧ H5 T = some (.lst tl) ∧ DpAll K H5 tl ((runC c ws i rs0 ms).map memD) ∧ rgA ∉ la ∧ rgA ≠ T ∧ (∃ xs, H5 rgA = some (.lst xs)) ∧ ∃ xs, H5 mm = some (.lst xs)
    refine ⟨fun σ H5 => It n σ H5, ?_, ?_⟩
    · refine ⟨_, rfl, _, rfl, by omega, by omega, for_range It ?_ (fun i σ H5 hi hh => ?_) (fun σ H5 hh => hh)⟩
      · exact ⟨rg, none, none, none, none, none, none, none, none, none, [], rfl, s12.trans s4, LL2.same s4, upd_same, .nil, rgn, Trg.symm, ⟨_, s4 _ _ (s2 _ _ era)⟩, ⟨_, s4 _ _ emm⟩⟩
      · obtain ⟨rgA, y12, y13, y14, y15, y16, y17, y18, y19, y20, tl, rfl, s5, L5, eT, dT, nr1, nr2, ⟨xrg, erg⟩, ⟨xmm, emm5⟩⟩ := hh
        rw [Int.zero_add]
        obtain ⟨bR5, bM5⟩ := beh_ok R i bR0 bM
        have rsucc := runC_succ c ws i rs0 ms
        have bsucc := behC_succ c ws i rs0 ms
        have dlen := dps_len dT
        rw [List.length_map, runC_len] at dlen
        generalize behC c ws i rs0 ms = st at L5 bR5 bM5 rsucc bsucc
        obtain ⟨rs, m5⟩ := st
        have bd := rowsV_all (rs := rs) (ms := m5) R.rw bR5 bM5
        have lvs : (rowsV rs m5 ws c.rows).length = ws.length := by rw [rowsV_len _ _ _ _ _ rfl, hlr]
        dsimp only at L5 bR5 bM5 rsucc bsucc
        -- found, widths
        refine ⟨Nat.zero_le _, fun Fa nFa => ⟨Nat.zero_le _, fun Wa nWa => ⟨line200 (show 2 ≤ 1000 by decide), fun tp ntp => ?_⟩⟩⟩
        have nFW : Wa ≠ Fa := fun z => by rw [z, upd_same] at nWa; cases nWa
        have nWa5 : H5 Wa = none := (same_new nFa).free nWa
        have sA : Same H5 (upd (upd (upd H5 Fa (.lst [])) Wa (.lst [])) tp (.tup [.ref Fa, .ref Wa])) := ((same_new nFa).trans (same_new nWa)).trans (same_new ntp)
        refine ⟨tp, _, rfl, SqT.of upd_same, rfl, _, _, rfl, _, _, rfl, rfl, ?_⟩
        have eFa : (upd (upd (upd H5 Fa (.lst [])) Wa (.lst [])) tp (.tup [.ref Fa, .ref Wa])) Fa = some (.lst []) := (same_new ntp) _ _ ((same_new nWa) _ _ upd_same)
        have eWa : (upd (upd (upd H5 Fa (.lst [])) Wa (.lst [])) tp (.tup [.ref Fa, .ref Wa])) Wa = some (.lst []) := (same_new ntp) _ _ upd_same
        generalize upd (upd (upd H5 Fa (.lst [])) Wa (.lst [])) tp (.tup [.ref Fa, .ref Wa]) = H6 at sA eFa eWa
        refine ⟨fun σ H7 => ∃ y15 y16 y17, σ = [some (.ref cA), some (.ref ct), some (iV n), some (.ref r), some (.ref m), some (.ref t), some (.ref nx), some (.ref ss), some (.ref o), some (.ref rgA), some (.ref mm), some (.ref T), some (iV i), some (.ref Fa), some (.ref Wa), y15, y16, y17, y18, y19, y20, none, none] ∧ Same H5 H7 ∧ H7 Fa = some (.lst ((rowsV rs m5 ws c.rows).map iV)), ?_, ?_⟩
        · refine ⟨_, rfl, t, rfl, ⟨_, same_tup (s5.trans sA) _ _ h3.1⟩, ?_⟩
          refine for_tup (xs := tvs) (fun j σ H7 => ∃ y15 y16 y17, σ = [some (.ref cA), some (.ref ct), some (iV n), some (.ref r), some (.ref m), some (.ref t), some (.ref nx), some (.ref ss), some (.ref o), some (.ref rgA), some (.ref mm), some (.ref T), some (iV i), some (.ref Fa), some (.ref Wa), y15, y16, y17, y18, y19, y20, none, none] ∧ Same H5 H7 ∧ H7 Fa = some (.lst ((rowsV rs m5 ws (c.rows.take j)).map iV)) ∧ H7 Wa = some (.lst ((ws.take j).map iV))) ⟨_, _, _, rfl, sA, eFa, eWa⟩ (fun j σ H7 _ hj => ?_) (fun j x σ H7 hx hj => ?_) (fun σ H7 hj => ?_)
          · obtain ⟨_, _, _, rfl, s7, _⟩ := hj
            exact same_tup (s5.trans s7) _ _ h3.1
          · obtain ⟨y15, y16, y17, rfl, s7, eF, eW⟩ := hj
            have ltv := dps_len h3.2
            rw [List.length_map] at ltv
            obtain ⟨row, er⟩ : ∃ row, c.rows[j]? = some row := at_len ltv.symm hx
            obtain ⟨x', ex', dx'⟩ := dps_put h3.2 (show (c.rows.map Row.d)[j]? = some row.d by rw [List.getElem?_map, er]; rfl)
            rw [hx] at ex'
            cases ex'
            have hj : j < c.rows.length := (List.getElem?_eq_some_iff.mp er).1
            obtain ⟨wd, ew, hro, b1, b2⟩ := rows_at R.rw j row er
            obtain ⟨vals, evs⟩ : ∃ vals, vals = rowsV rs m5 ws (c.rows.take j) := ⟨_, rfl⟩
            have hbd := rowsV_bd (rs := rs) (ms := m5) R.rw bR5 bM5 j (by omega)
            have lv : vals.length = j := by rw [evs]; exact rowsV_len _ _ _ _ _ (by rw [List.length_take]; omega)
            have lwt : (ws.take j).length = j := by rw [List.length_take]; omega
            have hrv : rowV rs m5 (ws.take j) vals row = rowV rs m5 ws vals row := rowV_take (fun _ _ => take_at) hro
            rw [← evs] at eF hbd
            refine ⟨_, rfl, _, rfl, _, rfl, _, rfl, _, rfl, x, Fa, Wa, rgA, mm, row, vals, ws.take j, rs, m5, la, c.regs, c.mems, wd, rfl, dp_stay (same_tup (s5.trans s7)) _ _ dx' (Row.noL _), SqL.of eF, SqL.of eW, L5.same s7, hro, b2, (fun x hx => hws x (List.mem_of_mem_take hx)), by omega, hbd, bR5, bM5, fun H8 p s8 sp => ?_⟩
            refine ⟨p, _, rfl, sp, rfl, _, _, rfl, _, _, rfl, rfl, ?_⟩
            have eF8 := s8 _ _ eF
            have eW8 := s8 _ _ eW
            refine ⟨_, rfl, .inl ⟨rfl, _, SqL.of eF8⟩, _, rfl, Fa, _, _, rfl, rfl, eF8, by rw [List.length_map]; exact lineS200 (by omega), ?_⟩
            have eW9 : (upd H8 Fa (.lst (vals.map iV ++ [iV (rowV rs m5 (ws.take j) vals row)]))) Wa = some (.lst ((ws.take j).map iV)) := by rw [upd_ne nFW]; exact eW8
            refine ⟨_, rfl, .inl ⟨rfl, _, SqL.of eW9⟩, _, rfl, Wa, _, _, rfl, rfl, eW9, by rw [List.length_map]; exact lineS200 (by omega), ?_⟩
            refine ⟨_, _, _, rfl, same_put (same_put (s7.trans s8) nFa) nWa5, ?_, ?_⟩
            · rw [upd_ne nFW.symm, upd_same, take_snoc er, rowsV_snoc, ← evs, List.map_append, hrv]
              rfl
            · rw [upd_same, take_snoc ew, List.map_append]
              rfl
          · obtain ⟨y15, y16, y17, rfl, s7, eF, eW⟩ := hj
            have ltv := dps_len h3.2
            rw [List.length_map] at ltv
            refine ⟨_, _, _, rfl, s7, ?_⟩
            rw [eF, ltv, List.take_length]
        rintro σ H7 ⟨y15, y16, y17, rfl, s7, eF⟩
        obtain ⟨vals, evs⟩ : ∃ vals, vals = rowsV rs m5 ws c.rows := ⟨_, rfl⟩
        rw [← evs] at bd lvs rsucc bsucc eF
        have s57 := s5.trans s7
        have nFT : Fa ≠ T := fun z => by rw [z, eT] at nFa; cases nFa
        have nFla : Fa ∉ la := new_notin nFa L5.ml.lst
        -- told.append
        refine ⟨_, rfl, .inl ⟨rfl, _, SqL.of (s7 _ _ eT)⟩, ?_⟩
        refine ⟨_, rfl, o, rfl, ⟨_, same_tup s57 _ _ h6⟩, fun D nD => ?_⟩
        refine lc_pickT (is := c.outs) (vs := vals) (l := Fa) nD (same_tup s57 _ _ h6) (SqL.of eF) (fun a ha => by rw [lvs]; exact R.oo a ha) (by have := R.ol; omega) (fun x => ⟨rfl, rfl, rfl⟩) ?_
        refine ⟨D, _, rfl, .inl ⟨SqL.of upd_same, fun t0 nt0 => ?_⟩⟩
        have sB : Same H7 (upd (upd H7 D (.lst ((pickV vals c.outs).map iV))) t0 (.tup ((pickV vals c.outs).map iV))) := (same_new nD).trans (same_new nt0)
        refine ⟨T, _, _, rfl, rfl, sB _ _ (s7 _ _ eT), lineS200 (by omega), ?_⟩
        have et0 : (upd (upd H7 D (.lst ((pickV vals c.outs).map iV))) t0 (.tup ((pickV vals c.outs).map iV))) t0 = some (.tup ((pickV vals c.outs).map iV)) := upd_same
        generalize upd (upd H7 D (.lst ((pickV vals c.outs).map iV))) t0 (.tup ((pickV vals c.outs).map iV)) = H8 at sB et0
        have s78 := s7.trans sB
        have eT8 := s78 _ _ eT
        have dT9 : DpAll K (upd H8 T (.lst (tl ++ [.ref t0]))) (tl ++ [.ref t0]) ((runC c ws (i + 1) rs0 ms).map memD) := by
          rw [rsucc, List.map_append]
          exact push_dps eT8 (dps_stay (same_tup s78) _ _ dT (noLs_mem2 _)) (noLs_mem2 _) (.tup (SqT.of et0) (dps_ints _)) (by have := noLs_mem2 [pickV vals c.outs]; exact (Bool.and_eq_true_iff.mp this).1)
        have s9 : Same H (upd H8 T (.lst (tl ++ [.ref t0]))) := same_put (s5.trans s78) hnT
        have hxT : ∀ b ∈ [T], ∃ xs, H8 b = some (.lst xs) := fun b hb => by rw [List.mem_singleton.mp hb]; exact ⟨_, eT8⟩
        have L9 : LSt K (upd H8 T (.lst (tl ++ [.ref t0]))) rgA mm la rs m5 c.regs c.mems := (L5.same s78).fx fx_put hxT (fun z => nr2 (List.mem_singleton.mp z)) (fun z => Tmm (List.mem_singleton.mp z).symm) ((L5.ml.same s78).other Tn)
        have eF9 : (upd H8 T (.lst (tl ++ [.ref t0]))) Fa = some (.lst (vals.map iV)) := by rw [upd_ne nFT]; exact sB _ _ eF
        have eT9 : (upd H8 T (.lst (tl ++ [.ref t0]))) T = some (.lst (tl ++ [.ref t0])) := upd_same
        have emm9 : (upd H8 T (.lst (tl ++ [.ref t0]))) mm = some (.lst xmm) := by rw [upd_ne Tmm.symm]; exact s78 _ _ emm5
        generalize upd H8 T (.lst (tl ++ [.ref t0])) = H9 at dT9 s9 L9 eF9 eT9 emm9
        -- regs
        obtain ⟨ra9, g1, g2, g3r⟩ := L9.rg
        refine ⟨_, rfl, rgA, _, rfl, .inl g1, ?_⟩
        rw [List.length_map]
        refine ⟨_, rfl, by omega, by omega, fun D2 nD2 => ?_⟩
        refine lc_range (n := ra9.length) (fun j H10 => Same H9 H10 ∧ ∃ rb : List Addr, rb.length = j ∧ H10 D2 = some (.lst (rb.map V.ref)) ∧ ∀ (k : Nat) (a : Addr) (rv : Nat) (p : Nat × Nat), rb[k]? = some a → (pickV vals c.nexts)[k]? = some rv → c.regs[k]? = some p → H10 a = some (.tup [iV rv, iV p.1])) ⟨same_new nD2, [], rfl, upd_same, fun k a rv p e => by simp at e⟩ (fun j H10 hj hh => ?_) (fun H10 hh => ?_)
        · obtain ⟨s10, rb, lb, eb, fb⟩ := hh
          rw [Int.zero_add]
          obtain ⟨p, ep⟩ : ∃ p, c.regs[j]? = some p := ⟨_, List.getElem?_eq_getElem (by omega)⟩
          obtain ⟨nj, enj⟩ := at_len R.nl ep
          have hwn := R.nx _ _ _ ep enj
          obtain ⟨vn, evn⟩ := at_len lvs hwn
          obtain ⟨rj, erj⟩ : ∃ rj, ra9[j]? = some rj := ⟨_, List.getElem?_eq_getElem hj⟩
          obtain ⟨rv0, erv0⟩ := at_len bR5.len ep
          have htp := g3r _ _ _ _ erj erv0 ep
          refine ⟨rfl, _, rfl, _, rfl, _, rfl, nx, _, _, _, rfl, rfl, same_tup (s9.trans s10) _ _ h4, atI_nat (int_at enj), Fa, _, _, _, rfl, rfl, SqL.of (s10 _ _ eF9), atI_nat (int_at evn), _, rfl, _, rfl, rgA, _, _, _, rfl, rfl, s10.seq g1, atI_nat (j := j) (show (ra9.map V.ref)[j]? = some (.ref rj) by rw [List.getElem?_map, erj]; rfl), rj, _, _, _, rfl, rfl, same_tup s10 _ _ htp, atI_nat (j := 1) rfl, line200 (show 2 ≤ 1000 by decide), fun tp2 ntp2 => ?_⟩
          have ne : D2 ≠ tp2 := fun z => by rw [z, ntp2] at eb; cases eb
          refine ⟨rb.map V.ref, (same_new ntp2) _ _ eb, by rw [List.length_map]; exact lineS200 (by omega), same_put (s10.trans (same_new ntp2)) nD2, rb ++ [tp2], by rw [List.length_append, lb]; rfl, by rw [List.map_append]; exact upd_same, fun k a rv p2 ek erv ep2 => ?_⟩
          rcases snoc_cases ek with ⟨hk, ek⟩ | ⟨hk, ek⟩
          · have z := fb _ _ _ _ ek erv ep2
            have ne2 : a ≠ D2 := fun z2 => by rw [z2, eb] at z; cases z
            rw [upd_ne ne2]
            exact (same_new ntp2) _ _ z
          · subst ek
            have : k = j := by omega
            subst this
            rw [ep] at ep2
            cases ep2
            rw [pickV_at enj] at erv
            cases erv
            rw [upd_ne ne.symm, getD_some evn]
            exact upd_same
        obtain ⟨s10, rb, lb, eb, fb⟩ := hh
        rw [g2] at lb
        have D2la : D2 ∉ la := new_notin nD2 L9.ml.lst
        have D2T : D2 ≠ T := fun z => by rw [z, eT9] at nD2; cases nD2
        have L10 : LSt K H10 D2 mm la (pickV vals c.nexts) m5 c.regs c.mems := ⟨⟨rb, SqL.of eb, lb, fun k a rv p e1 e2 e3 => SqT.of (fb _ _ _ _ e1 e2 e3)⟩, (L9.same s10).mm, L9.ml.same s10⟩
        have s10H := s9.trans s10
        have eF10 := s10 _ _ eF9
        have eT10 := s10 _ _ eT9
        have emm10 := s10 _ _ emm9
        have dT10 := dps_stay (same_tup s10) _ _ dT9 (noLs_mem2 _)
        -- the stores
        have lsv := dps_len h5.2
        rw [List.length_map] at lsv
        refine ⟨_, rfl, ss, rfl, ⟨_, same_tup s10H _ _ h5.1⟩, ?_⟩
        refine for_tup (xs := svs) (fun j σ H11 => ∃ (z16 z18 z19 z20 : Option V), σ = [some (.ref cA), some (.ref ct), some (iV n), some (.ref r), some (.ref m), some (.ref t), some (.ref nx), some (.ref ss), some (.ref o), some (.ref D2), some (.ref mm), some (.ref T), some (iV i), some (.ref Fa), some (.ref Wa), y15, z16, y17, z18, z19, z20, none, none] ∧ Same H H11 ∧ Fx la H10 H11 ∧ LSt K H11 D2 mm la (pickV vals c.nexts) (storesM vals m5 (c.stores.take j)) c.regs c.mems ∧ MmB (storesM vals m5 (c.stores.take j)) c.mems) ⟨_, _, _, _, rfl, s10H, fun b o _ e => e, L10, bM5⟩ (fun j σ H11 _ hj => ?_) (fun j x σ H11 hx hj => ?_) (fun σ H11 hj => ?_)
        · obtain ⟨_, _, _, _, rfl, s11, _⟩ := hj
          exact same_tup s11 _ _ h5.1
        · obtain ⟨z16, z18, z19, z20, rfl, s11, f11, L11, b11⟩ := hj
          obtain ⟨sv, es⟩ : ∃ sv, c.stores[j]? = some sv := at_len lsv.symm hx
          obtain ⟨x', ex', dx'⟩ := dps_put h5.2 (show (c.stores.map stD)[j]? = some (stD sv) by rw [List.getElem?_map, es]; rfl)
          rw [hx] at ex'
          cases ex'
          obtain ⟨b, rfl, sb⟩ := st_vals dx'
          obtain ⟨p, k1, k2, k3, k4⟩ := R.so sv (List.mem_of_getElem? es)
          obtain ⟨va, ea⟩ := at_len lvs k2
          obtain ⟨vv, ev⟩ := at_len lvs k3
          obtain ⟨vt, et⟩ := at_len lvs k4
          have hst : storesM vals m5 (c.stores.take (j + 1)) = storeM vals (storesM vals m5 (c.stores.take j)) sv := by
            rw [take_snoc es]
            unfold storesM
            rw [List.foldl_append]
            rfl
          have eF11 := f11 _ _ nFla eF10
          have hb2 := storeM_ok bd lvs b11 (R.so sv (List.mem_of_getElem? es))
          rw [← hst] at hb2
          refine ⟨b, _, rfl, same_tup s11 _ _ sb, rfl, _, _, rfl, _, _, rfl, _, _, rfl, _, _, rfl, rfl, ?_⟩
          refine ⟨_, rfl, _, rfl, Fa, _, _, _, rfl, rfl, SqL.of eF11, atI_nat (int_at et), rfl, _, rfl, ite2 (fun a1 => ?_) (fun a1 => ?_)⟩
          · have h1 : vals.getD sv.2.2.2 0 = 1 := by
              rw [getD_some et]
              have := V.int.inj (of_decide_eq_true a1)
              omega
            obtain ⟨mv, emv⟩ := at_len b11.len k1
            obtain ⟨lm, elm⟩ := at_len L11.ml.len emv
            obtain ⟨ta, q1, q2, q3⟩ := L11.mm
            obtain ⟨ti, eti⟩ := at_len q2 k1
            have htp := q3 _ _ _ _ eti elm k1
            have hml := (b11.lt _ _ _ emv k1).1
            have hva := bd _ _ _ ea k2
            refine ⟨_, rfl, _, rfl, Fa, _, _, _, rfl, rfl, SqL.of eF11, atI_nat (int_at ev), ?_⟩
            refine ⟨_, rfl, _, rfl, mm, _, _, _, rfl, rfl, q1, atI_nat (j := sv.1) (show (ta.map V.ref)[sv.1]? = some (.ref ti) by rw [List.getElem?_map, eti]; rfl), ti, _, _, _, rfl, rfl, htp, atI_nat (j := 0) rfl, _, rfl, _, rfl, Fa, _, _, _, rfl, rfl, SqL.of eF11, atI_nat (int_at ea), ?_⟩
            refine ⟨lm, _, _, va, rfl, rfl, L11.ml.at' _ _ _ elm emv, ixN_nat2 (by rw [List.length_map, hml]; exact hva), ?_⟩
            have est : storesM vals m5 (c.stores.take (j + 1)) = (storesM vals m5 (c.stores.take j)).set sv.1 (mv.set va vv) := by
              rw [hst]
              unfold storeM
              rw [if_pos h1, getD_someL emv, getD_some ea, getD_some ev]
            have el : (mv.map iV).set va (iV vv) = (mv.set va vv).map iV := List.map_set.symm
            rw [el]
            have hlm := List.mem_of_getElem? elm
            have fs : Fx la H11 (upd H11 lm (.lst ((mv.set va vv).map iV))) := fun b2 o2 hb e2 => by
              have ne : b2 ≠ lm := fun z => hb (by rw [z]; exact hlm)
              rw [upd_ne ne]
              exact e2
            refine ⟨_, _, _, _, rfl, same_put s11 (hnla _ hlm), fun b2 o2 hb e2 => fs _ _ hb (f11 _ _ hb e2), ?_, hb2⟩
            rw [est]
            exact L11.fx fs L11.ml.lst D2la nmla (L11.ml.store elm (List.getElem?_eq_some_iff.mp emv).1)
          · have h1 : ¬ vals.getD sv.2.2.2 0 = 1 := fun z => a1 (by
              rw [getD_some et] at z
              subst z
              rfl)
            have est : storesM vals m5 (c.stores.take (j + 1)) = storesM vals m5 (c.stores.take j) := by
              rw [hst]
              unfold storeM
              rw [if_neg h1]
            refine ⟨_, _, _, _, rfl, s11, f11, ?_, ?_⟩
            · rw [est]
              exact L11
            · rw [est]
              exact b11
        · obtain ⟨z16, z18, z19, z20, rfl, s11, f11, L11, b11⟩ := hj
          rw [lsv, List.take_length] at L11
          refine ⟨D2, _, _, _, _, _, _, _, _, _, _, rfl, s11, ?_, f11 _ _ Tn eT10, dps_stay (fx_tup L10.ml.lst f11) _ _ dT10 (noLs_mem2 _), D2la, D2T, ⟨_, f11 _ _ D2la eb⟩, ⟨_, f11 _ _ nmla emm10⟩⟩
          rw [bsucc]
          exact L11
    · rintro σ H5 ⟨rgA, y12, y13, y14, y15, y16, y17, y18, y19, y20, tl, rfl, s5, L5, eT, dT, nr1, nr2, _, _⟩
      refine ⟨_, rfl, T, _, rfl, .inl ⟨SqL.of eT, fun t0 nt0 => ?_⟩⟩
      exact q _ t0 (s5.trans (same_new nt0)) (.tup (SqT.of upd_same) (dps_stay (same_tup (same_new nt0)) _ _ dT (noLs_mem2 _)))
end
end C1

/-! The law's test of whole numbers; the law. -/
namespace C1
open PySem PySem.Spec PyProof.Rows L2 SX
abbrev sLawInts : Stmt := topS 51
theorem scLawInts : FnScope ["thing", "one"] ["thing"] (defScope sLawInts) := ⟨rfl, rfl, rfl, by decide +kernel, rfl, by decide +kernel, by decide +kernel⟩
abbrev NLI : List Str := ["thing", "one"]
def intD : Nat → PyData → Bool
  | _, .int _ => true
  | n + 1, .tuple ds => decide (ds.length ≤ 1000) && ds.all (intD n)
  | n + 1, .list ds => decide (ds.length ≤ 1000) && ds.all (intD n)
  | _, _ => false
section
variable {K : PySem.W.Frag} {H : Hp}
theorem tyx_tup {a : Addr} {xs : List V} (s : SqT K H a xs) : TyX K H (.ref a) (.type "tuple") := by
  rcases s with (s | ⟨u, s⟩) | ⟨o, its, k, s, c, _⟩
  · exact .base (.tup s)
  · exact .fTuple s
  · exact .kTuple s c
theorem tyx_lst {a : Addr} {xs : List V} (s : SqL K H a xs) : TyX K H (.ref a) (.type "list") := by
  rcases s with (s | ⟨u, s⟩) | ⟨o, its, k, s, c, _⟩
  · exact .base (.lst s)
  · exact .base (.frz s)
  · exact .kList s c
end
section
variable {P : Program} {w : World} {K : PySem.W.Frag} {mg : Str → Option Value} {base : Heap}
structure Bi (mg : Str → Option Value) : Prop where
  isi : mg "isinstance" = none
  tu : mg "tuple" = none
  li : mg "list" = none
  it : mg "int" = none
  bo : mg "bool" = none
def spInts (K : PySem.W.Frag) (n : Nat) : Sp := fun vs H Q _ => ∃ (v : V) (d : PyData), vs = [v] ∧ Dp K H v d ∧ intD n d = true ∧ noLs [d] = true ∧ ∀ H', Same H H' → Q (.bl true) H'
def spIntsL (K : PySem.W.Frag) : Sp := fun vs H Q _ => ∃ (a : Addr) (ks : List Nat), vs = [.ref a] ∧ SqL K H a (ks.map iV) ∧ ks.length ≤ 1000 ∧ ∀ H', Same H H' → Q (.bl true) H'
section
variable {f : Addr} {fd : FuncData} (F : Fun K "_law_ints" "_law_ints" sLawInts f fd) (B : Bi mg)
include F B in
theorem ok_ints0 : FnOk P w K mg base CX0 1 f fd ["thing"] (spInts K 0) := by
  refine F.ok scLawInts (fun vs H Q E h => ?_) (fun cdv A outer s H vs Q E hr h => ?_)
  · obtain ⟨v, d, rfl, _⟩ := h
    rfl
  · obtain ⟨v, d, rfl, hd, hi, hn, q⟩ := h
    obtain ⟨i, rfl⟩ : ∃ i, d = .int i := by
      cases d with
      | int i => exact ⟨i, rfl⟩
      | _ => cases hi
    cases hd
    have nd := scLawInts.nd
    refine ⟨_, (pss_cons (ps_if (PW.pt (pw_or (pt_val (pe_callB call_isi (by rfl) B.isi (by decide +kernel) (pa_cons (pv 0) (pa_cons (pe_bltn (v := .ty "tuple") (by rfl) B.tu (by decide +kernel) rfl) pa_nil)))) (pw_or1 (pt_val (pe_callB call_isi (by rfl) B.isi (by decide +kernel) (pa_cons (pv 0) (pa_cons (pe_bltn (v := .ty "list") (by rfl) B.li (by decide +kernel) rfl) pa_nil))))))) (pss_one ps_never) pss_nil)
      (pss_one (ps_ret (pe_or (pe_cmpR op_isN (pv 0) (pe_non) (nomark _)) (pe_one (pe_and (pe_callB call_isi (by rfl) B.isi (by decide +kernel) (pa_cons (pv 0) (pa_cons (pe_bltn (v := .ty "int") (by rfl) B.it (by decide +kernel) rfl) pa_nil))) (pe_one (pe_not (pe_callB call_isi (by rfl) B.isi (by decide +kernel) (pa_cons (pv 0) (pa_cons (pe_bltn (v := .ty "bool") (by rfl) B.bo (by decide +kernel) rfl) pa_nil))))))))))), ?_⟩
    refine ⟨_, rfl, .int i, _, _, _, _, rfl, .ty "tuple", .base (.int i), kit_ty (show kitB "int" "tuple" = some false by decide +kernel), _, rfl, ?_⟩
    refine iteF ⟨_, rfl, .int i, _, _, _, _, rfl, .ty "list", .base (.int i), kit_ty (show kitB "int" "list" = some false by decide +kernel), _, rfl, iteF ?_⟩
    refine ⟨_, rfl, rfl, _, rfl, ?_⟩
    refine iteF ⟨_, rfl, .int i, _, _, _, _, rfl, .ty "int", .base (.int i), kit_ty (show kitB "int" "int" = some true by decide +kernel), _, rfl, iteT ⟨_, rfl, .int i, _, _, _, _, rfl, .ty "bool", .base (.int i), kit_ty (show kitB "int" "bool" = some false by decide +kernel), _, rfl, q H (Same.refl H)⟩⟩
include F B in
theorem ok_intsS (n : Nat) (GR : FnOk P w K mg base CX0 (n + 1) f fd ["thing"] (spInts K n)) (kR : PySem.W.keepIn K (.ref f) = true) (bR : Binds K fd ["thing"] []) (gR : mg "_law_ints" = some (.ref f)) : FnOk P w K mg base CX0 (n + 2) f fd ["thing"] (spInts K (n + 1)) := by
  refine F.ok scLawInts (fun vs H Q E h => ?_) (fun cdv A outer s H vs Q E hr h => ?_)
  · obtain ⟨v, d, rfl, _⟩ := h
    rfl
  · obtain ⟨v, d, rfl, hd, hi, hn, q⟩ := h
    have nd := scLawInts.nd
    have hu := hr.units
    cases d with
    | int i =>
      cases hd
      refine ⟨_, (pss_cons (ps_if (PW.pt (pw_or (pt_val (pe_callB call_isi (by rfl) B.isi (by decide +kernel) (pa_cons (pv 0) (pa_cons (pe_bltn (v := .ty "tuple") (by rfl) B.tu (by decide +kernel) rfl) pa_nil)))) (pw_or1 (pt_val (pe_callB call_isi (by rfl) B.isi (by decide +kernel) (pa_cons (pv 0) (pa_cons (pe_bltn (v := .ty "list") (by rfl) B.li (by decide +kernel) rfl) pa_nil))))))) (pss_one ps_never) pss_nil)
      (pss_one (ps_ret (pe_or (pe_cmpR op_isN (pv 0) (pe_non) (nomark _)) (pe_one (pe_and (pe_callB call_isi (by rfl) B.isi (by decide +kernel) (pa_cons (pv 0) (pa_cons (pe_bltn (v := .ty "int") (by rfl) B.it (by decide +kernel) rfl) pa_nil))) (pe_one (pe_not (pe_callB call_isi (by rfl) B.isi (by decide +kernel) (pa_cons (pv 0) (pa_cons (pe_bltn (v := .ty "bool") (by rfl) B.bo (by decide +kernel) rfl) pa_nil))))))))))), ?_⟩
      refine ⟨_, rfl, .int i, _, _, _, _, rfl, .ty "tuple", .base (.int i), kit_ty (show kitB "int" "tuple" = some false by decide +kernel), _, rfl, ?_⟩
      refine iteF ⟨_, rfl, .int i, _, _, _, _, rfl, .ty "list", .base (.int i), kit_ty (show kitB "int" "list" = some false by decide +kernel), _, rfl, iteF ?_⟩
      refine ⟨_, rfl, rfl, _, rfl, ?_⟩
      refine iteF ⟨_, rfl, .int i, _, _, _, _, rfl, .ty "int", .base (.int i), kit_ty (show kitB "int" "int" = some true by decide +kernel), _, rfl, iteT ⟨_, rfl, .int i, _, _, _, _, rfl, .ty "bool", .base (.int i), kit_ty (show kitB "int" "bool" = some false by decide +kernel), _, rfl, q H (Same.refl H)⟩⟩
    | tuple ds =>
      obtain ⟨h1, h2⟩ := Bool.and_eq_true_iff.mp hi
      obtain ⟨b, xs, rfl, sb, da⟩ := dp_tup hd
      have hnl : noLs ds = true := by
        have : (noL (.tuple ds) && noLs []) = true := hn
        exact (Bool.and_eq_true_iff.mp this).1
      refine ⟨_, (pss_cons (ps_if (PW.pt (pw_or (pt_val (pe_callB call_isi (by rfl) B.isi (by decide +kernel) (pa_cons (pv 0) (pa_cons (pe_bltn (v := .ty "tuple") (by rfl) B.tu (by decide +kernel) rfl) pa_nil)))) (pw_or1 (pt_val (pe_callB call_isi (by rfl) B.isi (by decide +kernel) (pa_cons (pv 0) (pa_cons (pe_bltn (v := .ty "list") (by rfl) B.li (by decide +kernel) rfl) pa_nil))))))) (pss_one (ps_ret (pe_cmpR (op_eqD hu) (pe_lc (own := [("one", 1)]) (g := gName 1) (tt := tNot (tB (tCall (spInts K n) [] E0 (tCons (tVar 1) tNil)))) (te := tVar 1)  rfl nd (pi_tup (pv 0)) (blkOk_by (own := [("one", 1)]) (N := NLI) (sc := defScope sLawInts) (by decide +kernel)) (fun _ _ _ _ _ => pg_name (i := 1) nd rfl (.inl rfl)) (fun _ _ _ _ _ => pts_one (pt_not (pt_val (pe_call GR hr (by rfl) gR kR bR .nil pass0 (pa_cons (pv 1) pa_nil))))) (fun _ _ _ _ _ => by exact (pv 1))) (pe_lst pa_nil) (nomark _)))) pss_nil)
      (pss_one (ps_ret (pe_or (pe_cmpR op_isN (pv 0) (pe_non) (nomark _)) (pe_one (pe_and (pe_callB call_isi (by rfl) B.isi (by decide +kernel) (pa_cons (pv 0) (pa_cons (pe_bltn (v := .ty "int") (by rfl) B.it (by decide +kernel) rfl) pa_nil))) (pe_one (pe_not (pe_callB call_isi (by rfl) B.isi (by decide +kernel) (pa_cons (pv 0) (pa_cons (pe_bltn (v := .ty "bool") (by rfl) B.bo (by decide +kernel) rfl) pa_nil))))))))))), ?_⟩
      refine ⟨_, rfl, .ref b, _, _, _, _, rfl, .ty "tuple", tyx_tup sb, kit_ty (show kitB "tuple" "tuple" = some true by decide +kernel), _, rfl, ?_⟩
      refine iteT (iteT ?_)
      refine ⟨_, rfl, b, rfl, ⟨_, sb⟩, fun D nD => ?_⟩
      refine lc_tup (xs := xs) (fun i H' => Same H H' ∧ H' D = some (.lst [])) ⟨same_new nD, upd_same⟩ (fun i H' _ h => same_tup h.1 _ _ sb) (fun i x H' hx h => ?_) (fun H' h => ?_)
      · obtain ⟨di, edi, ddi⟩ := dps_get (dps_stay (same_tup h.1) _ _ da hnl) hx
        have hm := List.mem_of_getElem? edi
        refine ⟨rfl, _, rfl, x, di, rfl, ddi, List.all_eq_true.mp h2 di hm, by have := noLs_mem hnl di hm; show (noL di && true) = true; rw [this]; rfl, fun H2 s2 => ⟨_, rfl, ?_⟩⟩
        exact ⟨h.1.trans s2, s2 _ _ h.2⟩
      · refine ⟨Nat.zero_le _, fun z nz => ?_⟩
        refine ⟨.list [], .list [], .lst (SqL.of ((same_new nz) _ _ h.2)) .nil, .lst (SqL.of upd_same) .nil, shaped_list [] (fun d hd => by cases hd), shaped_list [] (fun d hd => by cases hd), ?_⟩
        rw [eqv_nil]
        exact q _ (h.1.trans (same_new nz))
    | list ds =>
      have : (noL (.list ds) && noLs []) = true := hn
      cases this
    | none => cases hi
    | bool b => cases hi
    | str b => cases hi
    | dict b => cases hi
include F B in
theorem ok_intsL (GR : FnOk P w K mg base CX0 1 f fd ["thing"] (spInts K 0)) (kR : PySem.W.keepIn K (.ref f) = true) (bR : Binds K fd ["thing"] []) (gR : mg "_law_ints" = some (.ref f)) : FnOk P w K mg base CX0 2 f fd ["thing"] (spIntsL K) := by
  refine F.ok scLawInts (fun vs H Q E h => ?_) (fun cdv A outer s H vs Q E hr h => ?_)
  · obtain ⟨a, ks, rfl, _⟩ := h
    rfl
  · obtain ⟨a, ks, rfl, hs, hl, q⟩ := h
    have nd := scLawInts.nd
    have hu := hr.units
    have n := 0
    refine ⟨_, (pss_cons (ps_if (PW.pt (pw_or (pt_val (pe_callB call_isi (by rfl) B.isi (by decide +kernel) (pa_cons (pv 0) (pa_cons (pe_bltn (v := .ty "tuple") (by rfl) B.tu (by decide +kernel) rfl) pa_nil)))) (pw_or1 (pt_val (pe_callB call_isi (by rfl) B.isi (by decide +kernel) (pa_cons (pv 0) (pa_cons (pe_bltn (v := .ty "list") (by rfl) B.li (by decide +kernel) rfl) pa_nil))))))) (pss_one (ps_ret (pe_cmpR (op_eqD hu) (pe_lc (own := [("one", 1)]) (g := gName 1) (tt := tNot (tB (tCall (spInts K 0) [] E0 (tCons (tVar 1) tNil)))) (te := tVar 1)  rfl nd (pi_list (pv 0)) (blkOk_by (own := [("one", 1)]) (N := NLI) (sc := defScope sLawInts) (by decide +kernel)) (fun _ _ _ _ _ => pg_name (i := 1) nd rfl (.inl rfl)) (fun _ _ _ _ _ => pts_one (pt_not (pt_val (pe_call GR hr (by rfl) gR kR bR .nil pass0 (pa_cons (pv 1) pa_nil))))) (fun _ _ _ _ _ => by exact (pv 1))) (pe_lst pa_nil) (nomark _)))) pss_nil)
      (pss_one (ps_ret (pe_or (pe_cmpR op_isN (pv 0) (pe_non) (nomark _)) (pe_one (pe_and (pe_callB call_isi (by rfl) B.isi (by decide +kernel) (pa_cons (pv 0) (pa_cons (pe_bltn (v := .ty "int") (by rfl) B.it (by decide +kernel) rfl) pa_nil))) (pe_one (pe_not (pe_callB call_isi (by rfl) B.isi (by decide +kernel) (pa_cons (pv 0) (pa_cons (pe_bltn (v := .ty "bool") (by rfl) B.bo (by decide +kernel) rfl) pa_nil))))))))))), ?_⟩
    refine ⟨_, rfl, .ref a, _, _, _, _, rfl, .ty "tuple", tyx_lst hs, kit_ty (show kitB "list" "tuple" = some false by decide +kernel), _, rfl, ?_⟩
    refine iteF ⟨_, rfl, .ref a, _, _, _, _, rfl, .ty "list", tyx_lst hs, kit_ty (show kitB "list" "list" = some true by decide +kernel), _, rfl, iteT ?_⟩
    refine ⟨_, rfl, a, rfl, ⟨_, hs⟩, fun D nD => ?_⟩
    refine lc_list (xs := ks.map iV) (fun i H' => Same H H' ∧ H' D = some (.lst [])) ⟨same_new nD, upd_same⟩ (fun i H' _ h => h.1.seq hs) (fun i x H' hx h => ?_) (fun H' h => ?_)
    · obtain ⟨k0, e0⟩ : ∃ k0, x = iV k0 := by
        obtain ⟨k0, _, e⟩ := List.mem_map.mp (List.mem_of_getElem? hx)
        exact ⟨k0, e.symm⟩
      subst e0
      exact ⟨rfl, _, rfl, iV k0, iD k0, rfl, .int _, rfl, rfl, fun H2 s2 => ⟨_, rfl, h.1.trans s2, s2 _ _ h.2⟩⟩
    · refine ⟨Nat.zero_le _, fun z nz => ?_⟩
      refine ⟨.list [], .list [], .lst (SqL.of ((same_new nz) _ _ h.2)) .nil, .lst (SqL.of upd_same) .nil, shaped_list [] (fun d hd => by cases hd), shaped_list [] (fun d hd => by cases hd), ?_⟩
      rw [eqv_nil]
      exact q _ (h.1.trans (same_new nz))
end
end
end C1

/-! The law. -/
namespace C1
open PySem PySem.Spec PyProof.Rows L2 SX
theorem scLaw : FnScope ["script", "w", "turn", "circuit", "contents", "cycles", "told", "probe", "found", "widths", "regs", "mems", "row", "value", "width", "first", "m"] ["script"] (defScope sLaw) := ⟨rfl, rfl, rfl, by decide +kernel, rfl, by decide +kernel, by decide +kernel⟩
abbrev NLW : List Str := ["script", "w", "turn", "circuit", "contents", "cycles", "told", "probe", "found", "widths", "regs", "mems", "row", "value", "width", "first", "m"]
theorem wd_merge (l : Addr) (n : Int) : mergeK [] [(.inr ("draws" : Str), .ref l), (.inr ("at" : Str), .int n)] = wdL l n := by
  have h1 : ¬ (Sum.inr ("draws" : Str) : Key) = Sum.inr ("at" : Str) := by decide
  unfold mergeK wdL
  simp [putK, h1]
theorem Wd.same {H H' : Hp} {a l : Addr} {ds : List Int} (W : Wd H a l ds) (s : Same H H') : Wd H' a l ds := by
  obtain ⟨n, n0, e⟩ := W.at'
  exact ⟨⟨n, n0, s _ _ e⟩, s _ _ W.dr, W.len⟩
theorem regs_first {regs : List (Nat × Nat)} (h : RegsOk regs) : RgB (regs.map (·.2)) regs := by
  refine ⟨List.length_map _, fun i r p e1 e2 => ?_⟩
  rw [List.getElem?_map, e2] at e1
  cases e1
  exact (h p (List.mem_of_getElem? e2)).2.2
theorem cut_take (xs : List V) (k : Nat) (h : k < xs.length) : cutV xs none (some ((k : Nat) : Int)) = xs.take k := by
  unfold cutV
  rw [HT.sIx_none, HT.sIx_nat, Nat.sub_zero, List.drop_zero, Nat.min_eq_left (by omega)]
theorem runC_row (c : Ckt) (ws : List Nat) : ∀ (n : Nat) (rs : List Nat) (ms : List (List Nat)), ∀ r ∈ runC c ws n rs ms, r.length = c.outs.length
  | 0, _, _, r, h => by cases h
  | n + 1, rs, ms, r, h => by
    rcases List.mem_cons.mp h with e | e
    · rw [e]
      exact pickV_len _ _
    · exact runC_row c ws n _ _ r e
theorem told_gd {rows : List (List Nat)} (h1 : rows.length ≤ 1000) (h2 : ∀ r ∈ rows, r.length ≤ 1000) : gd 2 (toldD rows) = true := by
  refine Bool.and_eq_true_iff.mpr ⟨decide_eq_true (by rw [List.length_map]; exact h1), List.all_eq_true.mpr fun d hd => ?_⟩
  obtain ⟨r, hr, e⟩ := List.mem_map.mp hd
  subst e
  refine Bool.and_eq_true_iff.mpr ⟨decide_eq_true (by rw [List.length_map]; exact h2 r hr), List.all_eq_true.mpr fun d hd => ?_⟩
  obtain ⟨k, _, e⟩ := List.mem_map.mp hd
  subst e
  rfl
theorem told_int {rows : List (List Nat)} (h1 : rows.length ≤ 1000) (h2 : ∀ r ∈ rows, r.length ≤ 1000) : intD 2 (toldD rows) = true := by
  refine Bool.and_eq_true_iff.mpr ⟨decide_eq_true (by rw [List.length_map]; exact h1), List.all_eq_true.mpr fun d hd => ?_⟩
  obtain ⟨r, hr, e⟩ := List.mem_map.mp hd
  subst e
  refine Bool.and_eq_true_iff.mpr ⟨decide_eq_true (by rw [List.length_map]; exact h2 r hr), List.all_eq_true.mpr fun d hd => ?_⟩
  obtain ⟨k, _, e⟩ := List.mem_map.mp hd
  subst e
  rfl
theorem told_refl {d : PyData} {n : Nat} (h : gd n d = true) : PyData.eqv d d = true := by
  rw [SeqAt.eqv_refl]
  exact (gd_ok n d h).2.1
theorem pick_range (vs : List Nat) : pickV vs (List.range vs.length) = vs := by
  refine List.ext_getElem? fun i => ?_
  unfold pickV
  rw [List.getElem?_map]
  by_cases h : i < vs.length
  · rw [List.getElem?_range h, List.getElem?_eq_getElem h]
    show some (vs.getD i 0) = _
    rw [List.getD_eq_getElem?_getD, List.getElem?_eq_getElem h]
    rfl
  · rw [List.getElem?_eq_none (by rw [List.length_range]; omega), List.getElem?_eq_none (by omega)]
    rfl
theorem rgV_nat (n : Nat) : rgV 0 ((n : Nat) : Int) = (List.range n).map iV := by
  unfold rgV
  rw [Int.sub_zero, Int.toNat_natCast]
  refine List.map_congr_left fun i _ => ?_
  rw [Int.zero_add]
section
variable {P : Program} {w : World} {K : PySem.W.Frag} {mg : Str → Option Value} {base : Heap}
def spLaw (K : PySem.W.Frag) : Sp := fun vs H Q _ => ∃ (a : Addr) (ns : List Int), vs = [.ref a] ∧ SqL K H a (ns.map V.int) ∧ ns.length ≤ 63 ∧ ∀ H', Q (.bl true) H'
theorem ok_law {f fD fC fCt fN fR fI fDu fT fW fF : Addr} {fd fdD fdC fdCt fdN fdR fdI fdDu fdT fdW fdF : FuncData} (F : Fun K "law" "law" sLaw f fd) (B0 : Bl mg) (BI : Bi mg) (mt : mg "tuple" = none) (ml : mg "list" = none)
    (GD : FnOk P w K mg base CX0 1 fD fdD ["script", "many"] (spDraws K)) (kD : PySem.W.keepIn K (.ref fD) = true) (bD : Binds K fdD ["script", "many"] []) (gD : mg "_law_draws" = some (.ref fD))
    (GC : FnOk P w K mg base CX0 3 fC fdC ["w", "most"] (spCircuit K)) (kC : PySem.W.keepIn K (.ref fC) = true) (bC : Binds K fdC ["w", "most"] []) (gC : mg "_law_circuit" = some (.ref fC))
    (GCt : FnOk P w K mg base CX0 2 fCt fdCt ["w", "circuit"] (spContents K)) (kCt : PySem.W.keepIn K (.ref fCt) = true) (bCt : Binds K fdCt ["w", "circuit"] []) (gCt : mg "_law_contents" = some (.ref fCt))
    (GN : FnOk P w K mg base CX0 1 fN fdN ["w", "many"] spNext) (kN : PySem.W.keepIn K (.ref fN) = true) (bN : Binds K fdN ["w", "many"] []) (gN : mg "_law_next" = some (.ref fN))
    (GR : FnOk P w K mg base CX0 5 fR fdR ["circuit", "contents", "cycles"] (spRun K)) (kR : PySem.W.keepIn K (.ref fR) = true) (bR : Binds K fdR ["circuit", "contents", "cycles"] []) (gR : mg "run_circuit" = some (.ref fR))
    (GI : FnOk P w K mg base CX0 5 fI fdI ["thing"] (spIsCircuit K)) (kI : PySem.W.keepIn K (.ref fI) = true) (bI : Binds K fdI ["thing"] []) (gI : mg "is_circuit" = some (.ref fI))
    (GDu : FnOk P w K mg base CX0 3 fDu fdDu ["circuit", "contents", "cycles"] (spRun K)) (kDu : PySem.W.keepIn K (.ref fDu) = true) (bDu : Binds K fdDu ["circuit", "contents", "cycles"] []) (gDu : mg "_law_due" = some (.ref fDu))
    (GT : FnOk P w K mg base CX0 3 fT fdT ["thing"] (spInts K 2)) (GTL : FnOk P w K mg base CX0 2 fT fdT ["thing"] (spIntsL K)) (kT : PySem.W.keepIn K (.ref fT) = true) (bT : Binds K fdT ["thing"] []) (gT : mg "_law_ints" = some (.ref fT))
    (GW : FnOk P w K mg base CX0 4 fW fdW ["circuit"] (spWidthsOf K)) (kW : PySem.W.keepIn K (.ref fW) = true) (bW : Binds K fdW ["circuit"] []) (gW : mg "widths_of" = some (.ref fW))
    (GF : FnOk P w K mg base CX0 2 fF fdF ["row", "found", "widths", "regs", "mems"] (spLfound K)) (kF : PySem.W.keepIn K (.ref fF) = true) (bF : Binds K fdF ["row", "found", "widths", "regs", "mems"] []) (gF : mg "_law_found" = some (.ref fF)) :
    FnOk P w K mg base CX0 6 f fd ["script"] (spLaw K) := by
  refine F.ok scLaw (fun vs H Q E h => ?_) (fun cdv A outer s H vs Q E hr h => ?_)
  · obtain ⟨a, ns, rfl, _⟩ := h
    rfl
  · obtain ⟨a, ns, rfl, hS, hlen, q⟩ := h
    have nd := scLaw.nd
    have hr5 := hr
    have hr4 : Room 4 _ := hr.mono (by decide)
    have hr3 : Room 3 _ := hr.mono (by decide)
    have hr2 : Room 2 _ := hr.mono (by decide)
    have hr1 : Room 1 _ := hr.mono (by decide)
    have hu := hr.units
    refine ⟨_, (pss_cons (ps_set (i := 1) nd rfl (.inl rfl) (pe_disp (pps_cons (pe_str) (pe_call GD hr1 (by rfl) gD kD bD .nil pass0 (pa_cons (pv 0) (pa_cons (pe_int) pa_nil))) (pps_cons (pe_str) (pe_int) pps_nil)) rfl rfl (by intro z; cases z) (by decide)))
      (C8.pss_cut (ps_for PassesOwn.never rfl (pi_range1 (by rfl) B0.range (pa_cons (pe_int) pa_nil)) (pg_name (i := 2) nd rfl (.inl rfl)) (pss_cons (ps_set (i := 3) nd rfl (.inr rfl) (pe_call GC hr3 (by rfl) gC kC bC .nil pass0 (pa_cons (pv 1) (pa_cons (pe_int) pa_nil))))
      (pss_cons (ps_set (i := 4) nd rfl (.inr rfl) (pe_call GCt hr2 (by rfl) gCt kCt bCt .nil pass0 (pa_cons (pv 1) (pa_cons (pv 3) pa_nil))))
      (pss_cons (ps_set (i := 5) nd rfl (.inl rfl) (pe_call GN hr1 (by rfl) gN kN bN .nil pass0 (pa_cons (pv 1) (pa_cons (pe_int) pa_nil))))
      (pss_cons (ps_set (i := 6) nd rfl (.inl rfl) (pe_call GR hr5 (by rfl) gR kR bR .nil pass0 (pa_cons (pv 3) (pa_cons (pv 4) (pa_cons (pv 5) pa_nil)))))
      (C8.pss_cut (ps_if (PW.pt (pw_or (pt_cmpR op_isnot_bl (pe_call GI hr5 (by rfl) gI kI bI .nil pass0 (pa_cons (pv 3) pa_nil)) (pe_bl) (nomark _)) (pw_or (pt_cmpR (op_neD hu) (pv 6) (pe_call GDu hr3 (by rfl) gDu kDu bDu .nil pass0 (pa_cons (pv 3) (pa_cons (pv 4) (pa_cons (pv 5) pa_nil)))) (nomark _)) (pw_or1 (pt_not (pt_val (pe_call GT hr3 (by rfl) gT kT bT .nil pass0 (pa_cons (pv 6) pa_nil)))))))) (pss_one (ps_ret (pe_bl))) pss_nil)
      (pss_cons (ps_set (i := 7) nd rfl (.inl rfl) (pe_op op_catT (pe_slice sl_tup (pv 3) po_none (po_some (pe_int))) (pe_tup (pa_cons (pe_tupRg rfl (by rfl) mt (prg_1 (by rfl) B0.range (pe_callB call_len_seq (by rfl) B0.len PySem.boot_len (pa_cons (pe_ix ix_tup (pv 3) (pe_int) (fun _ _ => rfl)) pa_nil)))) pa_nil))))
      (pss_cons (ps_par (i := 8) (j := 9) (by rfl) nd rfl rfl (by decide) rfl rfl (pa_cons (pe_lst pa_nil) (pa_cons (pe_lst pa_nil) pa_nil)) (by rfl))
      (pss_cons (ps_setLc (i := 10) (own := [("width", 14), ("first", 15)]) (g := gTup K 2 (gCons (gName 14) (gCons (gName 15) (gNil)))) (tt := tYes) (te := tTup (tCons (tVar 15) (tCons (tVar 14) tNil)))  rfl nd rfl rfl (sw_true rfl rfl rfl (by decide +kernel)) (pi_tup (pe_ix ix_tup (pv 3) (pe_int) (fun _ _ => rfl))) (blkOk_by (own := [("width", 14), ("first", 15)]) (N := NLW) (sc := defScope sLaw) (by decide +kernel)) (fun _ _ _ _ _ => pg_tup (by rfl) (pgs_cons (pg_name (i := 14) nd rfl (.inl rfl)) (pgs_cons (pg_name (i := 15) nd rfl (.inl rfl)) pgs_nil))) (fun _ _ _ _ _ => pts_nil) (fun _ _ _ _ _ => by exact (pe_tup (pa_cons (pv 15) (pa_cons (pv 14) pa_nil)))))
      (pss_cons (ps_setLc (i := 11) (own := [("m", 16)]) (g := gName 16) (tt := tYes) (te := tTup (tCons (tCB (rListOf K) (tCons (tOp (rIxT K) (tVar 4) (tVar 16)) tNil)) (tCons (tOp (rIxT K) (tOp (rIxT K) (tOp (rIxT K) (tVar 3) (tC (.int 1))) (tVar 16)) (tC (.int 1))) tNil)))  rfl nd rfl rfl (sw_true rfl rfl rfl (by decide +kernel)) (pi_range1 (by rfl) B0.range (pa_cons (pe_callB call_len_seq (by rfl) B0.len PySem.boot_len (pa_cons (pv 4) pa_nil)) pa_nil)) (blkOk_by (own := [("m", 16)]) (N := NLW) (sc := defScope sLaw) (by decide +kernel)) (fun _ _ _ _ _ => pg_name (i := 16) nd rfl (.inl rfl)) (fun _ _ _ _ _ => pts_nil) (fun _ _ _ _ _ => by exact (pe_tup (pa_cons (pe_callTy call_list_of (by rfl) ml (by decide +kernel) (pa_cons (pe_ix ix_tup (pv 4) (pv 16) (fun _ _ => rfl)) pa_nil)) (pa_cons (pe_ix ix_tup (pe_ix ix_tup (pe_ix ix_tup (pv 3) (pe_int) (fun _ _ => rfl)) (pv 16) (fun _ _ => rfl)) (pe_int) (fun _ _ => rfl)) pa_nil)))))
      (C8.pss_cut (ps_for PassesOwn.never rfl (pi_tup (pe_ix ix_tup (pv 3) (pe_int) (fun _ _ => rfl))) (pg_name (i := 12) nd rfl (.inl rfl)) (pss_cons (ps_asg (pe_call GF hr2 (by rfl) gF kF bF .nil pass0 (pa_cons (pv 12) (pa_cons (pv 8) (pa_cons (pv 9) (pa_cons (pv 10) (pa_cons (pv 11) pa_nil)))))) (pg_tup (by rfl) (pgs_cons (pg_name (i := 13) nd rfl (.inl rfl)) (pgs_cons (pg_name (i := 14) nd rfl (.inl rfl)) pgs_nil))))
      (pss_cons (ps_expr (pe_bm PySem.F.plainAttrs_list PySem.F.slot_list_append PySem.F.type_list_append mt_append (pv 8) (pa_cons (pv 13) pa_nil)))
      (pss_one (ps_expr (pe_bm PySem.F.plainAttrs_list PySem.F.slot_list_append PySem.F.type_list_append mt_append (pv 9) (pa_cons (pv 14) pa_nil)))))))
      (pss_cons (ps_set (i := 6) nd rfl (.inl rfl) (pe_call GW hr4 (by rfl) gW kW bW .nil pass0 (pa_cons (pv 3) pa_nil)))
      (pss_one (ps_if (PW.pt (pw_or (pt_not (pt_val (pe_callB call_isi (by rfl) BI.isi (by decide +kernel) (pa_cons (pv 6) (pa_cons (pe_bltn (v := .ty "list") (by rfl) BI.li (by decide +kernel) rfl) pa_nil))))) (pw_or (pt_not (pt_val (pe_call GTL hr2 (by rfl) gT kT bT .nil pass0 (pa_cons (pv 6) pa_nil)))) (pw_or (pt_cmpR (op_neD hu) (pv 6) (pv 9) (nomark _)) (pw_or1 (pt_cmpR (op_neD hu) (pe_call GR hr5 (by rfl) gR kR bR .nil pass0 (pa_cons (pv 7) (pa_cons (pv 4) (pa_cons (pe_int) pa_nil)))) (pe_tup (pa_cons (pe_callTy call_tuple_of (by rfl) mt (by decide +kernel) (pa_cons (pv 8) pa_nil)) pa_nil)) (nomark _))))))) (pss_one (ps_ret (pe_bl))) pss_nil))))))))))))))
      (pss_one (ps_ret (pe_bl))))), ?_⟩
    refine fun wa nwa => ?_
    refine ⟨_, rfl, a, ns, 420, rfl, (same_new nwa).seq hS, hlen, by decide, fun H1 l ds s1 nl el lds => ?_⟩
    have hwa1 : H1 wa = some (.dK []) := s1 _ _ upd_same
    refine ⟨hwa1, [(.inr ("draws" : Str), .ref l), (.inr ("at" : Str), .int 0)], rfl, (by show 2 ≤ 15; decide), ?_⟩
    rw [wd_merge]
    have nlw : l ≠ wa := fun z => by
      rw [z, upd_same] at nl
      cases nl
    have W : Wd (upd H1 wa (.dK (wdL l 0))) wa l ds := ⟨⟨0, Int.le_refl 0, upd_same⟩, by rw [upd_ne nlw]; exact el, lds⟩
    refine ⟨fun _ _ => True, ?_, fun σ' H' _ => q H'⟩
    refine ⟨_, rfl, by decide, by decide, for_range (n := 2) (fun i σ H' => ∃ y2 y3 y4 y5 y6 y7 y8 y9 y10 y11 y12 y13 y14 : Option V, σ = [some (.ref a), some (.ref wa), y2, y3, y4, y5, y6, y7, y8, y9, y10, y11, y12, y13, y14, none, none] ∧ Wd H' wa l ds) ⟨_, _, _, _, _, _, _, _, _, _, _, _, _, rfl, W⟩ (fun i σ H' hi h => ?_) (fun σ H' h => trivial)⟩
    obtain ⟨y2, y3, y4, y5, y6, y7, y8, y9, y10, y11, y12, y13, y14, rfl, W'⟩ := h
    refine ⟨_, rfl, wa, l, ds, 27, rfl, by decide, by decide, W', fun H2 p c ws k2 W2 hp hc => ?_⟩
    have hcirc := ckt_circ hc
    have hgd := ckt_gd hc
    have hnl := (gd_ok 3 _ hgd).1
    have hM := hc.mm
    have hlm := hc.lm
    refine ⟨_, rfl, _, rfl, wa, l, p, ds, c, rfl, W2, CP.of hp, hM, by omega, fun H3 ct ms k3 W3 dct bM => ?_⟩
    have hp3 := dp_stay (W2.tup k3) _ _ hp hnl
    have hnc : noL (toldD ms) = true := noLs_mem2 ms
    refine ⟨_, rfl, wa, l, ds, 10, rfl, by decide, W3, fun r H4 hr4' k4 _ W4 => ?_⟩
    have hp4 := dp_stay (W3.tup k4) _ _ hp3 hnl
    have dct4 := dp_stay (W3.tup k4) _ _ dct hnc
    obtain ⟨ctb, cvs, ectb, sct, dcv⟩ := dp_tup dct4
    cases ectb
    have bR0 := regs_first hc.rg
    have hrun := hc.run
    have r10 : r ≤ 500 := by omega
    refine ⟨_, rfl, _, rfl, _, rfl, p, ct, r, c, ws, ms, cvs, rfl, r10, CP.of hp4, hrun, sct, dcv, bM, bR0, fun H5 t1 s5 dt1 => ?_⟩
    have hp5 := dp_stay (same_tup s5) _ _ hp4 hnl
    have W5 := C1.Wd.same W4 s5
    have sct5 := same_tup s5 _ _ sct
    have dcv5 := dps_stay (same_tup s5) _ _ dcv (noLs_mem2 _)
    have lrow : ∀ x ∈ runC c ws r (c.regs.map (·.2)) ms, x.length ≤ 1000 := fun x hx => by
      rw [runC_row c ws r _ _ x hx]
      have := hrun.ol
      omega
    have ltold : (runC c ws r (c.regs.map (·.2)) ms).length ≤ 1000 := by rw [runC_len]; omega
    have tgd := told_gd ltold lrow
    have tsh := gd_shaped tgd (by decide)
    have tin := told_int ltold lrow
    have hlr := rows_len hc.rw
    have hws := rows_ws hc.rw
    have lw := hrun.lw
    have lr := hrun.lr
    have lmm := hrun.lm
    -- the first test
    refine ⟨fun σ H8 => σ = [some (.ref a), some (.ref wa), some (.int (0 + ((i : Nat) : Int))), some (.ref p), some (.ref ct), some (iV r), some (.ref t1), y7, y8, y9, y10, y11, y12, y13, y14, none, none] ∧ Same H5 H8, ?_, ?_⟩
    · refine ⟨_, rfl, .ref p, c.d, 3, rfl, hp5, hgd, by decide, fun H6 s6 => ⟨_, _, rfl, rfl, _, rfl, ?_⟩⟩
      rw [hcirc]
      refine iteNS rfl ?_
      refine ⟨_, rfl, _, rfl, _, rfl, _, rfl, p, ct, r, c, ws, ms, cvs, rfl, r10, CP.of (dp_stay (same_tup s6) _ _ hp5 hnl), hrun, same_tup s6 _ _ sct5, dps_stay (same_tup s6) _ _ dcv5 (noLs_mem2 _), bM, bR0, fun H7 t2 s7 dt2 => ?_⟩
      have dt17 := dp_stay (same_tup (s6.trans s7)) _ _ dt1 (noLs_mem2 _)
      refine ⟨_, _, dt17, dt2, tsh, tsh, _, rfl, ?_⟩
      rw [told_refl tgd]
      refine iteF ?_
      refine ⟨_, rfl, .ref t1, _, rfl, dt17, tin, by show (noL (toldD _) && true) = true; rw [show noL (toldD (runC c ws r (c.regs.map (·.2)) ms)) = true from noLs_mem2 _]; rfl, fun H8 s8 => ⟨_, rfl, iteF ⟨rfl, (s6.trans s7).trans s8⟩⟩⟩
    rintro σ H8 ⟨rfl, s8⟩
    have hp8 := dp_stay (same_tup s8) _ _ hp5 hnl
    have sct8 := same_tup s8 _ _ sct5
    have dcv8 := dps_stay (same_tup s8) _ _ dcv5 (noLs_mem2 _)
    have W8 := C1.Wd.same W5 s8
    have C8' := CP.of hp8
    obtain ⟨rA, m, t, nx, ss, o, rvs, mvs, tvs, svs, h0, h1, h2, h3, h4, h5, h6⟩ := C8'.ex
    have ltv := dps_len h3.2
    rw [List.length_map] at ltv
    -- probe
    refine ⟨_, rfl, 5, rfl, p, _, rfl, h0, (by show ¬ (HT.sIx 6 0 none = 0 ∧ HT.sIx 6 6 (some 5) = 6); decide), fun sl nsl => ?_⟩
    have sS : ∀ {ob : HO}, Same H8 (upd H8 sl ob) := fun {ob} => same_new nsl
    refine ⟨_, rfl, _, _, _, _, rfl, rfl, same_tup sS _ _ h0, atI_nat (j := 2) rfl, t, _, rfl, .inr (same_tup sS _ _ h3.1), _, rfl, RgOk.of_le (by decide) (by omega) (by decide) (by omega), fun tr ntr => ⟨line200 (show 1 ≤ 1000 by decide), fun tt ntt => ?_⟩⟩
    have etr0 : rgV 0 ((tvs.length : Nat) : Int) = (List.range c.rows.length).map iV := by rw [ltv]; exact rgV_nat _
    rw [etr0] at ntt
    rw [etr0]
    obtain ⟨Hs, eHs⟩ : ∃ Hs, Hs = upd H8 sl (.tup (cutV [V.ref rA, .ref m, .ref t, .ref nx, .ref ss, .ref o] none (some 5))) := ⟨_, rfl⟩
    rw [← eHs] at ntr ntt
    rw [← eHs]
    have esl : Hs sl = some (.tup [V.ref rA, .ref m, .ref t, .ref nx, .ref ss]) := by
      rw [eHs, upd_same]
      rfl
    have sP : Same H8 Hs := by rw [eHs]; exact same_new nsl
    have s9 : Same Hs (upd (upd Hs tr (.tup ((List.range c.rows.length).map iV))) tt (.tup [.ref tr])) := (same_new ntr).trans (same_new ntt)
    have etr : (upd (upd Hs tr (.tup ((List.range c.rows.length).map iV))) tt (.tup [.ref tr])) tr = some (.tup ((List.range c.rows.length).map iV)) := (same_new ntt) _ _ upd_same
    have ett : (upd (upd Hs tr (.tup ((List.range c.rows.length).map iV))) tt (.tup [.ref tr])) tt = some (.tup [.ref tr]) := upd_same
    generalize upd (upd Hs tr (.tup ((List.range c.rows.length).map iV))) tt (.tup [.ref tr]) = H9 at s9 etr ett
    refine ⟨sl, tt, _, _, rfl, rfl, SqT.of (s9 _ _ esl), SqT.of ett, (fun e => by cases e), line200 (show 6 ≤ 1000 by decide), (fun e => by cases e), fun _ pb npb => ?_⟩
    have s10 : Same H8 (upd H9 pb (.tup ([V.ref rA, .ref m, .ref t, .ref nx, .ref ss] ++ [.ref tr]))) := (sP.trans s9).trans (same_new npb)
    have cp : CP K (upd H9 pb (.tup ([V.ref rA, .ref m, .ref t, .ref nx, .ref ss] ++ [.ref tr]))) pb { c with outs := List.range c.rows.length } := by
      have st := same_tup (K := K) s10
      exact ⟨rA, m, t, nx, ss, tr, rvs, mvs, tvs, svs, SqT.of upd_same, ⟨st _ _ h1.1, dps_stay st _ _ h1.2 (noLs_pr _)⟩, ⟨st _ _ h2.1, dps_stay st _ _ h2.2 (noLs_pr _)⟩, ⟨st _ _ h3.1, dps_stay st _ _ h3.2 (noLs_rows _)⟩, st _ _ h4, ⟨st _ _ h5.1, dps_stay st _ _ h5.2 (noLs_st _)⟩, SqT.of ((same_new npb) _ _ etr)⟩
    generalize upd H9 pb (.tup ([V.ref rA, .ref m, .ref t, .ref nx, .ref ss] ++ [.ref tr])) = H10 at s10 cp
    -- found, widths
    refine ⟨Nat.zero_le _, fun Fa nFa => ⟨Nat.zero_le _, fun Wa nWa => ⟨_, _, rfl, ?_⟩⟩⟩
    have nFW : Wa ≠ Fa := fun z => by rw [z, upd_same] at nWa; cases nWa
    have nWa10 : H10 Wa = none := (same_new nFa).free nWa
    have sA : Same H10 (upd (upd H10 Fa (.lst [])) Wa (.lst [])) := (same_new nFa).trans (same_new nWa)
    have eFa : (upd (upd H10 Fa (.lst [])) Wa (.lst [])) Fa = some (.lst []) := (same_new nWa) _ _ upd_same
    have eWa : (upd (upd H10 Fa (.lst [])) Wa (.lst [])) Wa = some (.lst []) := upd_same
    have s11 : Same H8 (upd (upd H10 Fa (.lst [])) Wa (.lst [])) := s10.trans sA
    obtain ⟨H11, eH11⟩ : ∃ H11, H11 = upd (upd H10 Fa (.lst [])) Wa (.lst []) := ⟨_, rfl⟩
    rw [← eH11] at sA eFa eWa s11
    rw [← eH11]
    -- regs
    have lrv := dps_len h1.2
    rw [List.length_map] at lrv
    refine ⟨_, rfl, _, _, _, _, rfl, rfl, same_tup s11 _ _ h0, atI_nat (j := 0) rfl, rA, rfl, ⟨_, same_tup s11 _ _ h1.1⟩, fun rg nrg => ?_⟩
    refine lc_tup (xs := rvs) (fun i H' => Same H11 H' ∧ ∃ ra : List Addr, ra.length = i ∧ H' rg = some (.lst (ra.map V.ref)) ∧ ∀ (j : Nat) (a : Addr) (p : Nat × Nat), ra[j]? = some a → c.regs[j]? = some p → H' a = some (.tup [iV p.2, iV p.1])) ⟨same_new nrg, [], rfl, upd_same, fun j a p e => by simp at e⟩ (fun i H' _ hh => same_tup (s11.trans hh.1) _ _ h1.1) (fun i x H' hx hh => ?_) (fun H12 hh => ?_)
    · obtain ⟨s1, ra, l1, e1, f1⟩ := hh
      obtain ⟨p, ep⟩ : ∃ p, c.regs[i]? = some p := at_len lrv.symm hx
      obtain ⟨b, eb, sb⟩ := pr_at h1.2 ep
      rw [hx] at eb
      cases eb
      refine ⟨b, _, rfl, same_tup (s11.trans s1) _ _ sb, rfl, _, _, rfl, _, _, rfl, rfl, rfl, _, rfl, _, rfl, line200 (show 2 ≤ 1000 by decide), fun tp ntp => ?_⟩
      have ne : rg ≠ tp := fun z => by rw [z, ntp] at e1; cases e1
      have li : i < c.regs.length := (List.getElem?_eq_some_iff.mp ep).1
      refine ⟨ra.map V.ref, (same_new ntp) _ _ e1, by rw [List.length_map]; exact lineS200 (by omega), same_put (s1.trans (same_new ntp)) nrg, ra ++ [tp], by rw [List.length_append, l1]; rfl, by rw [List.map_append]; exact upd_same, fun j a p2 ej ep2 => ?_⟩
      rcases snoc_cases ej with ⟨hj, ej⟩ | ⟨hj, ej⟩
      · have z := f1 _ _ _ ej ep2
        have ne2 : a ≠ rg := fun z2 => by rw [z2, e1] at z; cases z
        rw [upd_ne ne2]
        exact (same_new ntp) _ _ z
      · subst ej
        have : j = i := by omega
        subst this
        rw [ep] at ep2
        cases ep2
        rw [upd_ne ne.symm]
        exact upd_same
    obtain ⟨s12, ra, lra, era, fra⟩ := hh
    rw [lrv] at lra
    -- mems
    have lcv := dps_len dcv
    rw [List.length_map] at lcv
    have lms := bM.len
    have s8x := s11.trans s12
    refine ⟨_, rfl, ct, _, rfl, .inr (same_tup s8x _ _ sct8), ?_⟩
    rw [lcv]
    refine ⟨_, rfl, by omega, by omega, fun mm nmm => ?_⟩
    refine lc_range (n := ms.length) (fun i H' => Same H12 H' ∧ H12 mm = none ∧ ∃ la ta : List Addr, H' mm = some (.lst (ta.map V.ref)) ∧ ta.length = i ∧ la.length = i ∧ la.Nodup ∧ mm ∉ la ∧ (∀ (j : Nat) (a : Addr) (mv : List Nat), la[j]? = some a → ms[j]? = some mv → H' a = some (.lst (mv.map iV))) ∧
        ∀ (j : Nat) (t a : Addr) (p : Nat × Nat), ta[j]? = some t → la[j]? = some a → c.mems[j]? = some p → H' t = some (.tup [.ref a, iV p.2])) ⟨same_new nmm, nmm, [], [], upd_same, rfl, rfl, List.nodup_nil, by simp, fun j a mv e => by simp at e, fun j t a p e => by simp at e⟩ (fun i H' hi hh => ?_) (fun H13 hh => ?_)
    · obtain ⟨s2, _, la, ta, e1, l1, l2, nd1, nm, f1, f2⟩ := hh
      rw [Int.zero_add]
      obtain ⟨mv, emv⟩ : ∃ mv, ms[i]? = some mv := ⟨_, List.getElem?_eq_getElem hi⟩
      obtain ⟨p, ep⟩ := at_len bM.len.symm emv
      obtain ⟨x', ex', dx'⟩ := dps_put dcv8 (show (ms.map memD)[i]? = some (memD mv) by rw [List.getElem?_map, emv]; rfl)
      obtain ⟨b, rfl, sb⟩ := mem_vals dx'
      obtain ⟨b2, eb2, sb2⟩ := pr_at h2.2 ep
      have sx := s8x.trans s2
      refine ⟨rfl, _, rfl, _, rfl, ct, _, _, _, rfl, rfl, same_tup sx _ _ sct8, atI_nat ex', b, _, rfl, .inr (same_tup sx _ _ sb), fun l nl => ?_⟩
      have s3 : Same H' (upd H' l (.lst (mv.map iV))) := same_new nl
      refine ⟨_, rfl, _, _, _, _, rfl, rfl, same_tup (sx.trans s3) _ _ h0, atI_nat (j := 1) rfl, _, rfl, m, _, _, _, rfl, rfl, same_tup (sx.trans s3) _ _ h2.1, atI_nat eb2, b2, _, _, _, rfl, rfl, same_tup (sx.trans s3) _ _ sb2, atI_nat (j := 1) rfl, line200 (show 2 ≤ 1000 by decide), fun tp ntp => ?_⟩
      have s4 := s3.trans (same_new (o := .tup [.ref l, iV p.2]) ntp)
      have nlm : l ≠ mm := fun z => by rw [z, e1] at nl; cases nl
      have ntm : tp ≠ mm := fun z => by rw [z, s3 _ _ e1] at ntp; cases ntp
      have nla : l ∉ la := fun z => by
        obtain ⟨j, ej⟩ := List.getElem?_of_mem z
        obtain ⟨mj, emj⟩ : ∃ mj, ms[j]? = some mj := ⟨_, List.getElem?_eq_getElem (by have := (List.getElem?_eq_some_iff.mp ej).1; omega)⟩
        rw [f1 _ _ _ ej emj] at nl
        cases nl
      refine ⟨ta.map V.ref, s4 _ _ e1, by rw [List.length_map]; exact lineS200 (by omega), same_put (s2.trans s4) nmm, nmm, la ++ [l], ta ++ [tp], by rw [List.map_append]; exact upd_same, by rw [List.length_append, l1]; rfl, by rw [List.length_append, l2]; rfl, ?_, ?_, ?_, ?_⟩
      · exact List.nodup_append.mpr ⟨nd1, by simp, fun a ha b hb z => nla (by rw [List.mem_singleton.mp hb] at z; rw [← z]; exact ha)⟩
      · intro z
        rcases List.mem_append.mp z with z | z
        · exact nm z
        · exact nlm (List.mem_singleton.mp z).symm
      · intro j a mj ej emj
        rcases snoc_cases ej with ⟨hj, ej⟩ | ⟨hj, ej⟩
        · have ne : a ≠ mm := fun z => nm (by rw [← z]; exact List.mem_of_getElem? ej)
          rw [upd_ne ne]
          exact s4 _ _ (f1 _ _ _ ej emj)
        · subst ej
          have : j = i := by omega
          subst this
          rw [emv] at emj
          cases emj
          rw [upd_ne nlm]
          exact (same_new ntp) _ _ upd_same
      · intro j t2 a p2 ej ea ep2
        rcases snoc_cases ej with ⟨hj, ej⟩ | ⟨hj, ej⟩
        · rcases snoc_cases ea with ⟨hj2, ea⟩ | ⟨hj2, ea⟩
          · have z := f2 _ _ _ _ ej ea ep2
            have ne : t2 ≠ mm := fun z2 => by rw [z2, e1] at z; cases z
            rw [upd_ne ne]
            exact s4 _ _ z
          · omega
        · rcases snoc_cases ea with ⟨hj2, ea⟩ | ⟨hj2, ea⟩
          · omega
          · subst ej ea
            have : j = i := by omega
            subst this
            rw [ep] at ep2
            cases ep2
            rw [upd_ne ntm]
            exact upd_same
    obtain ⟨s13, _, la, ta, emm, lta, lla, nd1, nmla, f1, f2⟩ := hh
    have s8y := s8x.trans s13
    have LL : LSt K H13 rg mm la (c.regs.map (·.2)) ms c.regs c.mems := ⟨⟨ra, SqL.of (s13 _ _ era), lra, fun i a r p e1 e2 e3 => by
      rw [List.getElem?_map, e3] at e2
      cases e2
      exact SqT.of (s13 _ _ (fra _ _ _ e1 e3))⟩, ⟨ta, SqL.of emm, by omega, fun i t a p e1 e2 e3 => SqT.of (f2 _ _ _ _ e1 e2 e3)⟩, ⟨by omega, nd1, f1⟩⟩
    have bd := rowsV_all (rs := c.regs.map (·.2)) (ms := ms) hc.rw bR0 bM
    have lvs : (rowsV (c.regs.map (·.2)) ms ws c.rows).length = ws.length := by rw [rowsV_len _ _ _ _ _ rfl, hlr]
    have eF13 := s13 _ _ (s12 _ _ eFa)
    have eW13 := s13 _ _ (s12 _ _ eWa)
    have s10y : Same H10 H13 := (sA.trans s12).trans s13
    have s8z := s8y
    -- the rows
    refine ⟨fun σ H14 => ∃ y12 y13 y14, σ = [some (.ref a), some (.ref wa), some (.int (0 + ((i : Nat) : Int))), some (.ref p), some (.ref ct), some (iV r), some (.ref t1), some (.ref pb), some (.ref Fa), some (.ref Wa), some (.ref rg), some (.ref mm), y12, y13, y14, none, none] ∧ Same H10 H14 ∧ H14 Fa = some (.lst ((rowsV (c.regs.map (·.2)) ms ws c.rows).map iV)) ∧ H14 Wa = some (.lst (ws.map iV)), ?_, ?_⟩
    · refine ⟨_, rfl, _, _, _, _, rfl, rfl, same_tup s8y _ _ h0, atI_nat (j := 2) rfl, t, rfl, ⟨_, same_tup s8y _ _ h3.1⟩, ?_⟩
      refine for_tup (xs := tvs) (fun j σ H14 => ∃ y12 y13 y14, σ = [some (.ref a), some (.ref wa), some (.int (0 + ((i : Nat) : Int))), some (.ref p), some (.ref ct), some (iV r), some (.ref t1), some (.ref pb), some (.ref Fa), some (.ref Wa), some (.ref rg), some (.ref mm), y12, y13, y14, none, none] ∧ Same H10 H14 ∧ LSt K H14 rg mm la (c.regs.map (·.2)) ms c.regs c.mems ∧ H14 Fa = some (.lst ((rowsV (c.regs.map (·.2)) ms ws (c.rows.take j)).map iV)) ∧ H14 Wa = some (.lst ((ws.take j).map iV))) ⟨_, _, _, rfl, s10y, LL, eF13, eW13⟩ (fun j σ H14 _ hj => ?_) (fun j x σ H14 hx hj => ?_) (fun σ H14 hj => ?_)
      · obtain ⟨_, _, _, rfl, s14, _⟩ := hj
        exact same_tup (s10.trans s14) _ _ h3.1
      · obtain ⟨y12, y13, y14, rfl, s14, L14, eF, eW⟩ := hj
        obtain ⟨row, er⟩ : ∃ row, c.rows[j]? = some row := at_len ltv.symm hx
        obtain ⟨x', ex', dx'⟩ := dps_put h3.2 (show (c.rows.map Row.d)[j]? = some row.d by rw [List.getElem?_map, er]; rfl)
        rw [hx] at ex'
        cases ex'
        have hj : j < c.rows.length := (List.getElem?_eq_some_iff.mp er).1
        obtain ⟨wd, ew, hro, b1, b2⟩ := rows_at hc.rw j row er
        obtain ⟨vals, evs⟩ : ∃ vals, vals = rowsV (c.regs.map (·.2)) ms ws (c.rows.take j) := ⟨_, rfl⟩
        have hbd := rowsV_bd (rs := c.regs.map (·.2)) (ms := ms) hc.rw bR0 bM j (by omega)
        have lv : vals.length = j := by rw [evs]; exact rowsV_len _ _ _ _ _ (by rw [List.length_take]; omega)
        have lwt : (ws.take j).length = j := by rw [List.length_take]; omega
        have hrv : rowV (c.regs.map (·.2)) ms (ws.take j) vals row = rowV (c.regs.map (·.2)) ms ws vals row := rowV_take (fun _ _ => take_at) hro
        rw [← evs] at eF hbd
        refine ⟨_, rfl, _, rfl, _, rfl, _, rfl, _, rfl, x, Fa, Wa, rg, mm, row, vals, ws.take j, c.regs.map (·.2), ms, la, c.regs, c.mems, wd, rfl, dp_stay (same_tup (s10.trans s14)) _ _ dx' (Row.noL _), SqL.of eF, SqL.of eW, L14, hro, b2, (fun x hx => hws x (List.mem_of_mem_take hx)), by omega, hbd, bR0, bM, fun H15 pt s15 sp => ?_⟩
        refine ⟨pt, _, rfl, sp, rfl, _, _, rfl, _, _, rfl, rfl, ?_⟩
        have eF8 := s15 _ _ eF
        have eW8 := s15 _ _ eW
        refine ⟨_, rfl, .inl ⟨rfl, _, SqL.of eF8⟩, _, rfl, Fa, _, _, rfl, rfl, eF8, by rw [List.length_map]; exact lineS200 (by omega), ?_⟩
        have eW9 : (upd H15 Fa (.lst (vals.map iV ++ [iV (rowV (c.regs.map (·.2)) ms (ws.take j) vals row)]))) Wa = some (.lst ((ws.take j).map iV)) := by rw [upd_ne nFW]; exact eW8
        refine ⟨_, rfl, .inl ⟨rfl, _, SqL.of eW9⟩, _, rfl, Wa, _, _, rfl, rfl, eW9, by rw [List.length_map]; exact lineS200 (by omega), ?_⟩
        have L15 := L14.same s15
        obtain ⟨xrg, erg⟩ : ∃ xs, H13 rg = some (.lst xs) := ⟨_, s13 _ _ era⟩
        have rgF : rg ≠ Fa := fun z => by rw [← z] at eFa; rw [eFa] at nrg; cases nrg
        have rgW : rg ≠ Wa := fun z => by rw [← z] at eWa; rw [eWa] at nrg; cases nrg
        have mmF : mm ≠ Fa := fun z => by rw [← z] at eFa; rw [s12 _ _ eFa] at nmm; cases nmm
        have mmW : mm ≠ Wa := fun z => by rw [← z] at eWa; rw [s12 _ _ eWa] at nmm; cases nmm
        have laF : Fa ∉ la := fun z => by
          obtain ⟨k, ek⟩ := List.getElem?_of_mem z
          obtain ⟨mk, emk⟩ := at_len L15.ml.len.symm ek
          have z1 := f1 _ _ _ ek emk
          have z2 := LL.ml.at' _ _ _ ek emk
          rw [eF13] at z2
          cases mk with
          | nil =>
            have z3 := L15.ml.at' _ _ _ ek emk
            rw [eF8] at z3
            have e0 := (bM.lt _ _ _ emk (show c.mems[k]? = some (c.mems[k]'(by rw [← bM.len]; exact (List.getElem?_eq_some_iff.mp emk).1)) from List.getElem?_eq_getElem _)).1
            have := Nat.two_pow_pos (c.mems[k]'(by rw [← bM.len]; exact (List.getElem?_eq_some_iff.mp emk).1)).1
            rw [← e0] at this
            exact absurd this (by decide)
          | cons _ _ => cases z2
        have laW : Wa ∉ la := fun z => by
          obtain ⟨k, ek⟩ := List.getElem?_of_mem z
          obtain ⟨mk, emk⟩ := at_len L15.ml.len.symm ek
          have z2 := LL.ml.at' _ _ _ ek emk
          rw [eW13] at z2
          cases mk with
          | nil =>
            have e0 := (bM.lt _ _ _ emk (show c.mems[k]? = some (c.mems[k]'(by rw [← bM.len]; exact (List.getElem?_eq_some_iff.mp emk).1)) from List.getElem?_eq_getElem _)).1
            have := Nat.two_pow_pos (c.mems[k]'(by rw [← bM.len]; exact (List.getElem?_eq_some_iff.mp emk).1)).1
            rw [← e0] at this
            exact absurd this (by decide)
          | cons _ _ => cases z2
        have L16 := L15.fx (fx_put (o := .lst (vals.map iV ++ [iV (rowV (c.regs.map (·.2)) ms (ws.take j) vals row)]))) (fun b hb => by rw [List.mem_singleton.mp hb]; exact ⟨_, eF8⟩) (fun z => rgF (List.mem_singleton.mp z)) (fun z => mmF (List.mem_singleton.mp z)) (L15.ml.other laF)
        have L17 := L16.fx (fx_put (o := .lst ((ws.take j).map iV ++ [iV wd]))) (fun b hb => by rw [List.mem_singleton.mp hb]; exact ⟨_, eW9⟩) (fun z => rgW (List.mem_singleton.mp z)) (fun z => mmW (List.mem_singleton.mp z)) (L16.ml.other laW)
        refine ⟨_, _, _, rfl, same_put (same_put (s14.trans s15) nFa) nWa10, L17, ?_, ?_⟩
        · rw [upd_ne nFW.symm, upd_same, take_snoc er, rowsV_snoc, ← evs, List.map_append, hrv]
          rfl
        · rw [upd_same, take_snoc ew, List.map_append]
          rfl
      · obtain ⟨y12, y13, y14, rfl, s14, L14, eF, eW⟩ := hj
        refine ⟨_, _, _, rfl, s14, ?_, ?_⟩
        · rw [eF, ltv, List.take_length]
        · rw [eW, ltv, hlr, List.take_length]
    rintro σ H14 ⟨y12, y13, y14, rfl, s14, eF, eW⟩
    have s8t := s10.trans s14
    have hp14 := dp_stay (same_tup s8t) _ _ hp8 hnl
    refine ⟨_, rfl, p, c, ws, rfl, CP.of hp14, hc.rw, lw, fun H15 wl2 s15 nwl ewl => ?_⟩
    refine ⟨_, rfl, .ref wl2, _, _, _, _, rfl, .ty "list", tyx_lst (SqL.of ewl), kit_ty (show kitB "list" "list" = some true by decide +kernel), _, rfl, ?_⟩
    refine iteF ⟨_, rfl, wl2, ws, rfl, SqL.of ewl, by omega, fun H16 s16 => ⟨_, rfl, iteF ?_⟩⟩
    have ewl16 := s16 _ _ ewl
    have eW16 := s16 _ _ (s15 _ _ eW)
    have ws32 : PyData.eqv (.list (ws.map iD)) (.list (ws.map iD)) = true := by
      rw [SeqAt.eqv_refl]
      have := shaped_list _ (cL_int ws)
      unfold SeqAt.shaped at this
      exact (Bool.and_eq_true_iff.mp this).1
    refine ⟨_, rfl, _, rfl, .list (ws.map iD), .list (ws.map iD), .lst (SqL.of ewl16) (dps_ints ws), .lst (SqL.of eW16) (dps_ints ws), shaped_list _ (cL_int ws), shaped_list _ (cL_int ws), _, rfl, ?_⟩
    rw [ws32]
    refine iteF ?_
    have s8u := (s8t.trans s15).trans s16
    have cp16 := (cp.same s14).same (s15.trans s16)
    refine ⟨_, rfl, _, rfl, pb, ct, 1, { c with outs := List.range c.rows.length }, ws, ms, cvs, rfl, by decide, cp16, hc.probe, same_tup s8u _ _ sct8, dps_stay (same_tup s8u) _ _ dcv8 (noLs_mem2 _), bM, bR0, fun H17 t3 s17 dt3 => ?_⟩
    have eF17 := s17 _ _ (s16 _ _ (s15 _ _ eF))
    refine ⟨_, rfl, Fa, _, rfl, .inl ⟨SqL.of eF17, fun t4 nt4 => ⟨line200 (show 1 ≤ 1000 by decide), fun t5 nt5 => ?_⟩⟩⟩
    have ev : runC { c with outs := List.range c.rows.length } ws 1 (c.regs.map (·.2)) ms = [rowsV (c.regs.map (·.2)) ms ws c.rows] := by
      show [pickV (rowsV (c.regs.map (·.2)) ms ws c.rows) (List.range c.rows.length)] = _
      rw [show c.rows.length = (rowsV (c.regs.map (·.2)) ms ws c.rows).length by rw [lvs, hlr], pick_range]
    rw [ev] at dt3
    have vgd : gd 2 (toldD [rowsV (c.regs.map (·.2)) ms ws c.rows]) = true := told_gd (by show 1 ≤ 1000; decide) (fun r hr => by rw [List.mem_singleton.mp hr, lvs]; omega)
    have vsh := gd_shaped vgd (by decide)
    have e4 : (upd (upd H17 t4 (.tup ((rowsV (c.regs.map (·.2)) ms ws c.rows).map iV))) t5 (.tup [.ref t4])) t4 = some (.tup ((rowsV (c.regs.map (·.2)) ms ws c.rows).map iV)) := (same_new nt5) _ _ upd_same
    refine ⟨_, _, dp_stay (same_tup ((same_new nt4).trans (same_new nt5))) _ _ dt3 (noLs_mem2 _), .tup (SqT.of upd_same) (.cons (.tup (SqT.of e4) (dps_ints _)) .nil), vsh, vsh, _, rfl, ?_⟩
    rw [show PyData.eqv (toldD [rowsV (c.regs.map (·.2)) ms ws c.rows]) (.tuple [.tuple ((rowsV (c.regs.map (·.2)) ms ws c.rows).map iD)]) = true from told_refl vgd]
    refine iteF ⟨_, _, _, _, _, _, _, _, _, _, _, _, _, rfl, C1.Wd.same (C1.Wd.same (C1.Wd.same W8 s8u) s17) ((same_new nt4).trans (same_new nt5))⟩
end
end C1

/-! What the top leaves, and the end. -/
namespace C1
open PySem PySem.Spec PyProof.Rows L2 SX
theorem all_mk {l : PySem.W.OpenLaw} {w : World} {K : PySem.W.Frag} {h : Heap} {mg : Str → Option Value} {fa : Addr} (X : K.In h) (G : h.Ns mainGlobals mg) (hfa : mg "law" = some (.ref fa))
    {f0 : Addr} {od0 an0 : Option Addr} {sl0 : Array (Option Value)} {oc0 kV0 dc0 pm0 cd0 ct0 : Value}
    {f1 : Addr} {od1 an1 : Option Addr} {sl1 : Array (Option Value)} {oc1 kV1 dc1 pm1 cd1 ct1 : Value}
    {f2 : Addr} {od2 an2 : Option Addr} {sl2 : Array (Option Value)} {oc2 kV2 dc2 pm2 cd2 ct2 : Value}
    {f3 : Addr} {od3 an3 : Option Addr} {sl3 : Array (Option Value)} {oc3 kV3 dc3 pm3 cd3 ct3 : Value}
    {f4 : Addr} {od4 an4 : Option Addr} {sl4 : Array (Option Value)} {oc4 kV4 dc4 pm4 cd4 ct4 : Value}
    {f5 : Addr} {od5 an5 : Option Addr} {sl5 : Array (Option Value)} {oc5 kV5 dc5 pm5 cd5 ct5 : Value}
    {f6 : Addr} {od6 an6 : Option Addr} {sl6 : Array (Option Value)} {oc6 kV6 dc6 pm6 cd6 ct6 : Value}
    {f7 : Addr} {od7 an7 : Option Addr} {sl7 : Array (Option Value)} {oc7 kV7 dc7 pm7 cd7 ct7 : Value}
    {f8 : Addr} {od8 an8 : Option Addr} {sl8 : Array (Option Value)} {oc8 kV8 dc8 pm8 cd8 ct8 : Value}
    {f9 : Addr} {od9 an9 : Option Addr} {sl9 : Array (Option Value)} {oc9 kV9 dc9 pm9 cd9 ct9 : Value}
    {f10 : Addr} {od10 an10 : Option Addr} {sl10 : Array (Option Value)} {oc10 kV10 dc10 pm10 cd10 ct10 : Value}
    {f11 : Addr} {od11 an11 : Option Addr} {sl11 : Array (Option Value)} {oc11 kV11 dc11 pm11 cd11 ct11 : Value}
    {f12 : Addr} {od12 an12 : Option Addr} {sl12 : Array (Option Value)} {oc12 kV12 dc12 pm12 cd12 ct12 : Value}
    {f13 : Addr} {od13 an13 : Option Addr} {sl13 : Array (Option Value)} {oc13 kV13 dc13 pm13 cd13 ct13 : Value}
    {f14 : Addr} {od14 an14 : Option Addr} {sl14 : Array (Option Value)} {oc14 kV14 dc14 pm14 cd14 ct14 : Value}
    {f15 : Addr} {od15 an15 : Option Addr} {sl15 : Array (Option Value)} {oc15 kV15 dc15 pm15 cd15 ct15 : Value}
    {f16 : Addr} {od16 an16 : Option Addr} {sl16 : Array (Option Value)} {oc16 kV16 dc16 pm16 cd16 ct16 : Value}
    {f17 : Addr} {od17 an17 : Option Addr} {sl17 : Array (Option Value)} {oc17 kV17 dc17 pm17 cd17 ct17 : Value}
    {f18 : Addr} {od18 an18 : Option Addr} {sl18 : Array (Option Value)} {oc18 kV18 dc18 pm18 cd18 ct18 : Value}
    {f19 : Addr} {od19 an19 : Option Addr} {sl19 : Array (Option Value)} {oc19 kV19 dc19 pm19 cd19 ct19 : Value}
    {f20 : Addr} {od20 an20 : Option Addr} {sl20 : Array (Option Value)} {oc20 kV20 dc20 pm20 cd20 ct20 : Value}
    {f21 : Addr} {od21 an21 : Option Addr} {sl21 : Array (Option Value)} {oc21 kV21 dc21 pm21 cd21 ct21 : Value}
    {f22 : Addr} {od22 an22 : Option Addr} {sl22 : Array (Option Value)} {oc22 kV22 dc22 pm22 cd22 ct22 : Value}
    {f23 : Addr} {od23 an23 : Option Addr} {sl23 : Array (Option Value)} {oc23 kV23 dc23 pm23 cd23 ct23 : Value}
    {f24 : Addr} {od24 an24 : Option Addr} {sl24 : Array (Option Value)} {oc24 kV24 dc24 pm24 cd24 ct24 : Value}
    {f25 : Addr} {od25 an25 : Option Addr} {sl25 : Array (Option Value)} {oc25 kV25 dc25 pm25 cd25 ct25 : Value}
    {f26 : Addr} {od26 an26 : Option Addr} {sl26 : Array (Option Value)} {oc26 kV26 dc26 pm26 cd26 ct26 : Value}
    {f27 : Addr} {od27 an27 : Option Addr} {sl27 : Array (Option Value)} {oc27 kV27 dc27 pm27 cd27 ct27 : Value}
    {f28 : Addr} {od28 an28 : Option Addr} {sl28 : Array (Option Value)} {oc28 kV28 dc28 pm28 cd28 ct28 : Value}
    {f29 : Addr} {od29 an29 : Option Addr} {sl29 : Array (Option Value)} {oc29 kV29 dc29 pm29 cd29 ct29 : Value}
    {f30 : Addr} {od30 an30 : Option Addr} {sl30 : Array (Option Value)} {oc30 kV30 dc30 pm30 cd30 ct30 : Value}
    {f31 : Addr} {od31 an31 : Option Addr} {sl31 : Array (Option Value)} {oc31 kV31 dc31 pm31 cd31 ct31 : Value}
    {f32 : Addr} {od32 an32 : Option Addr} {sl32 : Array (Option Value)} {oc32 kV32 dc32 pm32 cd32 ct32 : Value}
    {f33 : Addr} {od33 an33 : Option Addr} {sl33 : Array (Option Value)} {oc33 kV33 dc33 pm33 cd33 ct33 : Value}
    {f34 : Addr} {od34 an34 : Option Addr} {sl34 : Array (Option Value)} {oc34 kV34 dc34 pm34 cd34 ct34 : Value}
    {f35 : Addr} {od35 an35 : Option Addr} {sl35 : Array (Option Value)} {oc35 kV35 dc35 pm35 cd35 ct35 : Value}
    {f36 : Addr} {od36 an36 : Option Addr} {sl36 : Array (Option Value)} {oc36 kV36 dc36 pm36 cd36 ct36 : Value}
    {f37 : Addr} {od37 an37 : Option Addr} {sl37 : Array (Option Value)} {oc37 kV37 dc37 pm37 cd37 ct37 : Value}
    {f38 : Addr} {od38 an38 : Option Addr} {sl38 : Array (Option Value)} {oc38 kV38 dc38 pm38 cd38 ct38 : Value}
    {tw tb : Tok} {aS aT aA aP aL aO : Addr} {ddS ddT ddA : Option Addr} {nS nT nA nP nL nO : Nat} {slS slT slA : Array (Option Value)} {esP esL esO : Array DictEntry} {u0 u1 u2 u3 u4 u5 u6 u7 u8 u9 : Tok}
    {t_look : Addr} {d_look : Option Addr} {n_look : Nat} {s_look : Array (Option Value)} {v_look0 : Tok} {t_not : Addr} {d_not : Option Addr} {n_not : Nat} {s_not : Array (Option Value)} {v_not0 : Tok} {t_op : Addr} {d_op : Option Addr} {n_op : Nat} {s_op : Array (Option Value)} {v_op0 v_op1 : Tok} {t_pick : Addr} {d_pick : Option Addr} {n_pick : Nat} {s_pick : Array (Option Value)} {v_pick0 v_pick1 v_pick2 : Tok} {t_wide : Addr} {d_wide : Option Addr} {n_wide : Nat} {s_wide : Array (Option Value)} {v_wide0 : Tok} {t_part : Addr} {d_part : Option Addr} {n_part : Nat} {s_part : Array (Option Value)} {v_part0 : Tok} {t_join : Addr} {d_join : Option Addr} {n_join : Nat} {s_join : Array (Option Value)} {v_join0 v_join1 : Tok} {w_lit w_reg w_look w_not w_op w_pick w_wide w_part w_join : Tok}
    (a0 : PySem.W.nsIn K mainGlobals "parts" = some (some (.ref f0)))
    (l0 : K.lookup f0 = some ⟨oc0, od0, .func (PySem.W.fnOf "parts" "parts" (defArgs sParts) (defBody sParts) (defScope sParts) .none kV0 dc0 pm0 an0 cd0 ct0), sl0⟩)
    (c0 : PySem.W.codeIn K cd0 "parts" = true)
    (k0 : PySem.W.keepIn K (.ref f0) = true)
    (a1 : PySem.W.nsIn K mainGlobals "mask" = some (some (.ref f1)))
    (l1 : K.lookup f1 = some ⟨oc1, od1, .func (PySem.W.fnOf "mask" "mask" (defArgs sMask) (defBody sMask) (defScope sMask) .none kV1 dc1 pm1 an1 cd1 ct1), sl1⟩)
    (c1 : PySem.W.codeIn K cd1 "mask" = true)
    (k1 : PySem.W.keepIn K (.ref f1) = true)
    (a2 : PySem.W.nsIn K mainGlobals "added" = some (some (.ref f2)))
    (l2 : K.lookup f2 = some ⟨oc2, od2, .func (PySem.W.fnOf "added" "added" (defArgs sAdded) (defBody sAdded) (defScope sAdded) .none kV2 dc2 pm2 an2 cd2 ct2), sl2⟩)
    (c2 : PySem.W.codeIn K cd2 "added" = true)
    (k2 : PySem.W.keepIn K (.ref f2) = true)
    (a3 : PySem.W.nsIn K mainGlobals "taken" = some (some (.ref f3)))
    (l3 : K.lookup f3 = some ⟨oc3, od3, .func (PySem.W.fnOf "taken" "taken" (defArgs sTaken) (defBody sTaken) (defScope sTaken) .none kV3 dc3 pm3 an3 cd3 ct3), sl3⟩)
    (c3 : PySem.W.codeIn K cd3 "taken" = true)
    (k3 : PySem.W.keepIn K (.ref f3) = true)
    (a4 : PySem.W.nsIn K mainGlobals "multiplied" = some (some (.ref f4)))
    (l4 : K.lookup f4 = some ⟨oc4, od4, .func (PySem.W.fnOf "multiplied" "multiplied" (defArgs sMultiplied) (defBody sMultiplied) (defScope sMultiplied) .none kV4 dc4 pm4 an4 cd4 ct4), sl4⟩)
    (c4 : PySem.W.codeIn K cd4 "multiplied" = true)
    (k4 : PySem.W.keepIn K (.ref f4) = true)
    (a5 : PySem.W.nsIn K mainGlobals "both_bits" = some (some (.ref f5)))
    (l5 : K.lookup f5 = some ⟨oc5, od5, .func (PySem.W.fnOf "both_bits" "both_bits" (defArgs sBothBits) (defBody sBothBits) (defScope sBothBits) .none kV5 dc5 pm5 an5 cd5 ct5), sl5⟩)
    (c5 : PySem.W.codeIn K cd5 "both_bits" = true)
    (k5 : PySem.W.keepIn K (.ref f5) = true)
    (a6 : PySem.W.nsIn K mainGlobals "any_bits" = some (some (.ref f6)))
    (l6 : K.lookup f6 = some ⟨oc6, od6, .func (PySem.W.fnOf "any_bits" "any_bits" (defArgs sAnyBits) (defBody sAnyBits) (defScope sAnyBits) .none kV6 dc6 pm6 an6 cd6 ct6), sl6⟩)
    (c6 : PySem.W.codeIn K cd6 "any_bits" = true)
    (k6 : PySem.W.keepIn K (.ref f6) = true)
    (a7 : PySem.W.nsIn K mainGlobals "odd_bits" = some (some (.ref f7)))
    (l7 : K.lookup f7 = some ⟨oc7, od7, .func (PySem.W.fnOf "odd_bits" "odd_bits" (defArgs sOddBits) (defBody sOddBits) (defScope sOddBits) .none kV7 dc7 pm7 an7 cd7 ct7), sl7⟩)
    (c7 : PySem.W.codeIn K cd7 "odd_bits" = true)
    (k7 : PySem.W.keepIn K (.ref f7) = true)
    (a8 : PySem.W.nsIn K mainGlobals "same" = some (some (.ref f8)))
    (l8 : K.lookup f8 = some ⟨oc8, od8, .func (PySem.W.fnOf "same" "same" (defArgs sSame) (defBody sSame) (defScope sSame) .none kV8 dc8 pm8 an8 cd8 ct8), sl8⟩)
    (c8 : PySem.W.codeIn K cd8 "same" = true)
    (k8 : PySem.W.keepIn K (.ref f8) = true)
    (a9 : PySem.W.nsIn K mainGlobals "below" = some (some (.ref f9)))
    (l9 : K.lookup f9 = some ⟨oc9, od9, .func (PySem.W.fnOf "below" "below" (defArgs sBelow) (defBody sBelow) (defScope sBelow) .none kV9 dc9 pm9 an9 cd9 ct9), sl9⟩)
    (c9 : PySem.W.codeIn K cd9 "below" = true)
    (k9 : PySem.W.keepIn K (.ref f9) = true)
    (a10 : PySem.W.nsIn K mainGlobals "shifted_up" = some (some (.ref f10)))
    (l10 : K.lookup f10 = some ⟨oc10, od10, .func (PySem.W.fnOf "shifted_up" "shifted_up" (defArgs sShiftedUp) (defBody sShiftedUp) (defScope sShiftedUp) .none kV10 dc10 pm10 an10 cd10 ct10), sl10⟩)
    (c10 : PySem.W.codeIn K cd10 "shifted_up" = true)
    (k10 : PySem.W.keepIn K (.ref f10) = true)
    (a11 : PySem.W.nsIn K mainGlobals "shifted_down" = some (some (.ref f11)))
    (l11 : K.lookup f11 = some ⟨oc11, od11, .func (PySem.W.fnOf "shifted_down" "shifted_down" (defArgs sShiftedDown) (defBody sShiftedDown) (defScope sShiftedDown) .none kV11 dc11 pm11 an11 cd11 ct11), sl11⟩)
    (c11 : PySem.W.codeIn K cd11 "shifted_down" = true)
    (k11 : PySem.W.keepIn K (.ref f11) = true)
    (a12 : PySem.W.nsIn K mainGlobals "worked" = some (some (.ref f12)))
    (l12 : K.lookup f12 = some ⟨oc12, od12, .func (PySem.W.fnOf "worked" "worked" (defArgs sWorked) (defBody sWorked) (defScope sWorked) .none kV12 dc12 pm12 an12 cd12 ct12), sl12⟩)
    (c12 : PySem.W.codeIn K cd12 "worked" = true)
    (k12 : PySem.W.keepIn K (.ref f12) = true)
    (a13 : PySem.W.nsIn K mainGlobals "fitted_width" = some (some (.ref f13)))
    (l13 : K.lookup f13 = some ⟨oc13, od13, .func (PySem.W.fnOf "fitted_width" "fitted_width" (defArgs sFitted) (defBody sFitted) (defScope sFitted) .none kV13 dc13 pm13 an13 cd13 ct13), sl13⟩)
    (c13 : PySem.W.codeIn K cd13 "fitted_width" = true)
    (k13 : PySem.W.keepIn K (.ref f13) = true)
    (a14 : PySem.W.nsIn K mainGlobals "op_width" = some (some (.ref f14)))
    (l14 : K.lookup f14 = some ⟨oc14, od14, .func (PySem.W.fnOf "op_width" "op_width" (defArgs sOpw) (defBody sOpw) (defScope sOpw) .none kV14 dc14 pm14 an14 cd14 ct14), sl14⟩)
    (c14 : PySem.W.codeIn K cd14 "op_width" = true)
    (k14 : PySem.W.keepIn K (.ref f14) = true)
    (a15 : PySem.W.nsIn K mainGlobals "is_circuit" = some (some (.ref f15)))
    (l15 : K.lookup f15 = some ⟨oc15, od15, .func (PySem.W.fnOf "is_circuit" "is_circuit" (defArgs sIsCircuit) (defBody sIsCircuit) (defScope sIsCircuit) .none kV15 dc15 pm15 an15 cd15 ct15), sl15⟩)
    (c15 : PySem.W.codeIn K cd15 "is_circuit" = true)
    (k15 : PySem.W.keepIn K (.ref f15) = true)
    (a16 : PySem.W.nsIn K mainGlobals "widths_of" = some (some (.ref f16)))
    (l16 : K.lookup f16 = some ⟨oc16, od16, .func (PySem.W.fnOf "widths_of" "widths_of" (defArgs sWidthsOf) (defBody sWidthsOf) (defScope sWidthsOf) .none kV16 dc16 pm16 an16 cd16 ct16), sl16⟩)
    (c16 : PySem.W.codeIn K cd16 "widths_of" = true)
    (k16 : PySem.W.keepIn K (.ref f16) = true)
    (a17 : PySem.W.nsIn K mainGlobals "is_tuple" = some (some (.ref f17)))
    (l17 : K.lookup f17 = some ⟨oc17, od17, .func (PySem.W.fnOf "is_tuple" "is_tuple" (defArgs sIsTuple) (defBody sIsTuple) (defScope sIsTuple) .none kV17 dc17 pm17 an17 cd17 ct17), sl17⟩)
    (c17 : PySem.W.codeIn K cd17 "is_tuple" = true)
    (k17 : PySem.W.keepIn K (.ref f17) = true)
    (a18 : PySem.W.nsIn K mainGlobals "is_below" = some (some (.ref f18)))
    (l18 : K.lookup f18 = some ⟨oc18, od18, .func (PySem.W.fnOf "is_below" "is_below" (defArgs sIsBelow) (defBody sIsBelow) (defScope sIsBelow) .none kV18 dc18 pm18 an18 cd18 ct18), sl18⟩)
    (c18 : PySem.W.codeIn K cd18 "is_below" = true)
    (k18 : PySem.W.keepIn K (.ref f18) = true)
    (a19 : PySem.W.nsIn K mainGlobals "is_width" = some (some (.ref f19)))
    (l19 : K.lookup f19 = some ⟨oc19, od19, .func (PySem.W.fnOf "is_width" "is_width" (defArgs sIsWidth) (defBody sIsWidth) (defScope sIsWidth) .none kV19 dc19 pm19 an19 cd19 ct19), sl19⟩)
    (c19 : PySem.W.codeIn K cd19 "is_width" = true)
    (k19 : PySem.W.keepIn K (.ref f19) = true)
    (a20 : PySem.W.nsIn K mainGlobals "is_register" = some (some (.ref f20)))
    (l20 : K.lookup f20 = some ⟨oc20, od20, .func (PySem.W.fnOf "is_register" "is_register" (defArgs sIsRegister) (defBody sIsRegister) (defScope sIsRegister) .none kV20 dc20 pm20 an20 cd20 ct20), sl20⟩)
    (c20 : PySem.W.codeIn K cd20 "is_register" = true)
    (k20 : PySem.W.keepIn K (.ref f20) = true)
    (a21 : PySem.W.nsIn K mainGlobals "is_memory" = some (some (.ref f21)))
    (l21 : K.lookup f21 = some ⟨oc21, od21, .func (PySem.W.fnOf "is_memory" "is_memory" (defArgs sIsMemory) (defBody sIsMemory) (defScope sIsMemory) .none kV21 dc21 pm21 an21 cd21 ct21), sl21⟩)
    (c21 : PySem.W.codeIn K cd21 "is_memory" = true)
    (k21 : PySem.W.keepIn K (.ref f21) = true)
    (a22 : PySem.W.nsIn K mainGlobals "row_width" = some (some (.ref f22)))
    (l22 : K.lookup f22 = some ⟨oc22, od22, .func (PySem.W.fnOf "row_width" "row_width" (defArgs sRowWidth) (defBody sRowWidth) (defScope sRowWidth) .none kV22 dc22 pm22 an22 cd22 ct22), sl22⟩)
    (c22 : PySem.W.codeIn K cd22 "row_width" = true)
    (k22 : PySem.W.keepIn K (.ref f22) = true)
    (a23 : PySem.W.nsIn K mainGlobals "known_row_width" = some (some (.ref f23)))
    (l23 : K.lookup f23 = some ⟨oc23, od23, .func (PySem.W.fnOf "known_row_width" "known_row_width" (defArgs sKnown) (defBody sKnown) (defScope sKnown) .none kV23 dc23 pm23 an23 cd23 ct23), sl23⟩)
    (c23 : PySem.W.codeIn K cd23 "known_row_width" = true)
    (k23 : PySem.W.keepIn K (.ref f23) = true)
    (a24 : PySem.W.nsIn K mainGlobals "are_nexts" = some (some (.ref f24)))
    (l24 : K.lookup f24 = some ⟨oc24, od24, .func (PySem.W.fnOf "are_nexts" "are_nexts" (defArgs sAreNexts) (defBody sAreNexts) (defScope sAreNexts) .none kV24 dc24 pm24 an24 cd24 ct24), sl24⟩)
    (c24 : PySem.W.codeIn K cd24 "are_nexts" = true)
    (k24 : PySem.W.keepIn K (.ref f24) = true)
    (a25 : PySem.W.nsIn K mainGlobals "are_ends" = some (some (.ref f25)))
    (l25 : K.lookup f25 = some ⟨oc25, od25, .func (PySem.W.fnOf "are_ends" "are_ends" (defArgs sAreEnds) (defBody sAreEnds) (defScope sAreEnds) .none kV25 dc25 pm25 an25 cd25 ct25), sl25⟩)
    (c25 : PySem.W.codeIn K cd25 "are_ends" = true)
    (k25 : PySem.W.keepIn K (.ref f25) = true)
    (a26 : PySem.W.nsIn K mainGlobals "is_store" = some (some (.ref f26)))
    (l26 : K.lookup f26 = some ⟨oc26, od26, .func (PySem.W.fnOf "is_store" "is_store" (defArgs sIsStore) (defBody sIsStore) (defScope sIsStore) .none kV26 dc26 pm26 an26 cd26 ct26), sl26⟩)
    (c26 : PySem.W.codeIn K cd26 "is_store" = true)
    (k26 : PySem.W.keepIn K (.ref f26) = true)
    (a27 : PySem.W.nsIn K mainGlobals "run_circuit" = some (some (.ref f27)))
    (l27 : K.lookup f27 = some ⟨oc27, od27, .func (PySem.W.fnOf "run_circuit" "run_circuit" (defArgs sRunCircuit) (defBody sRunCircuit) (defScope sRunCircuit) .none kV27 dc27 pm27 an27 cd27 ct27), sl27⟩)
    (c27 : PySem.W.codeIn K cd27 "run_circuit" = true)
    (k27 : PySem.W.keepIn K (.ref f27) = true)
    (a28 : PySem.W.nsIn K mainGlobals "row_values" = some (some (.ref f28)))
    (l28 : K.lookup f28 = some ⟨oc28, od28, .func (PySem.W.fnOf "row_values" "row_values" (defArgs sRowValues) (defBody sRowValues) (defScope sRowValues) .none kV28 dc28 pm28 an28 cd28 ct28), sl28⟩)
    (c28 : PySem.W.codeIn K cd28 "row_values" = true)
    (k28 : PySem.W.keepIn K (.ref f28) = true)
    (a29 : PySem.W.nsIn K mainGlobals "_law_draws" = some (some (.ref f29)))
    (l29 : K.lookup f29 = some ⟨oc29, od29, .func (PySem.W.fnOf "_law_draws" "_law_draws" (defArgs sDraws) (defBody sDraws) (defScope sDraws) .none kV29 dc29 pm29 an29 cd29 ct29), sl29⟩)
    (c29 : PySem.W.codeIn K cd29 "_law_draws" = true)
    (k29 : PySem.W.keepIn K (.ref f29) = true)
    (a30 : PySem.W.nsIn K mainGlobals "_law_next" = some (some (.ref f30)))
    (l30 : K.lookup f30 = some ⟨oc30, od30, .func (PySem.W.fnOf "_law_next" "_law_next" (defArgs sNext) (defBody sNext) (defScope sNext) .none kV30 dc30 pm30 an30 cd30 ct30), sl30⟩)
    (c30 : PySem.W.codeIn K cd30 "_law_next" = true)
    (k30 : PySem.W.keepIn K (.ref f30) = true)
    (a31 : PySem.W.nsIn K mainGlobals "_law_row" = some (some (.ref f31)))
    (l31 : K.lookup f31 = some ⟨oc31, od31, .func (PySem.W.fnOf "_law_row" "_law_row" (defArgs sRow) (defBody sRow) (defScope sRow) .none kV31 dc31 pm31 an31 cd31 ct31), sl31⟩)
    (c31 : PySem.W.codeIn K cd31 "_law_row" = true)
    (k31 : PySem.W.keepIn K (.ref f31) = true)
    (a32 : PySem.W.nsIn K mainGlobals "_law_circuit" = some (some (.ref f32)))
    (l32 : K.lookup f32 = some ⟨oc32, od32, .func (PySem.W.fnOf "_law_circuit" "_law_circuit" (defArgs sCircuit) (defBody sCircuit) (defScope sCircuit) .none kV32 dc32 pm32 an32 cd32 ct32), sl32⟩)
    (c32 : PySem.W.codeIn K cd32 "_law_circuit" = true)
    (k32 : PySem.W.keepIn K (.ref f32) = true)
    (a33 : PySem.W.nsIn K mainGlobals "_law_contents" = some (some (.ref f33)))
    (l33 : K.lookup f33 = some ⟨oc33, od33, .func (PySem.W.fnOf "_law_contents" "_law_contents" (defArgs sLawContents) (defBody sLawContents) (defScope sLawContents) .none kV33 dc33 pm33 an33 cd33 ct33), sl33⟩)
    (c33 : PySem.W.codeIn K cd33 "_law_contents" = true)
    (k33 : PySem.W.keepIn K (.ref f33) = true)
    (a34 : PySem.W.nsIn K mainGlobals "_law_op" = some (some (.ref f34)))
    (l34 : K.lookup f34 = some ⟨oc34, od34, .func (PySem.W.fnOf "_law_op" "_law_op" (defArgs sLawOp) (defBody sLawOp) (defScope sLawOp) .none kV34 dc34 pm34 an34 cd34 ct34), sl34⟩)
    (c34 : PySem.W.codeIn K cd34 "_law_op" = true)
    (k34 : PySem.W.keepIn K (.ref f34) = true)
    (a35 : PySem.W.nsIn K mainGlobals "_law_found" = some (some (.ref f35)))
    (l35 : K.lookup f35 = some ⟨oc35, od35, .func (PySem.W.fnOf "_law_found" "_law_found" (defArgs sLawFound) (defBody sLawFound) (defScope sLawFound) .none kV35 dc35 pm35 an35 cd35 ct35), sl35⟩)
    (c35 : PySem.W.codeIn K cd35 "_law_found" = true)
    (k35 : PySem.W.keepIn K (.ref f35) = true)
    (a36 : PySem.W.nsIn K mainGlobals "_law_due" = some (some (.ref f36)))
    (l36 : K.lookup f36 = some ⟨oc36, od36, .func (PySem.W.fnOf "_law_due" "_law_due" (defArgs sLawDue) (defBody sLawDue) (defScope sLawDue) .none kV36 dc36 pm36 an36 cd36 ct36), sl36⟩)
    (c36 : PySem.W.codeIn K cd36 "_law_due" = true)
    (k36 : PySem.W.keepIn K (.ref f36) = true)
    (a37 : PySem.W.nsIn K mainGlobals "_law_ints" = some (some (.ref f37)))
    (l37 : K.lookup f37 = some ⟨oc37, od37, .func (PySem.W.fnOf "_law_ints" "_law_ints" (defArgs sLawInts) (defBody sLawInts) (defScope sLawInts) .none kV37 dc37 pm37 an37 cd37 ct37), sl37⟩)
    (c37 : PySem.W.codeIn K cd37 "_law_ints" = true)
    (k37 : PySem.W.keepIn K (.ref f37) = true)
    (a38 : PySem.W.nsIn K mainGlobals "law" = some (some (.ref f38)))
    (l38 : K.lookup f38 = some ⟨oc38, od38, .func (PySem.W.fnOf "law" "law" (defArgs sLaw) (defBody sLaw) (defScope sLaw) .none kV38 dc38 pm38 an38 cd38 ct38), sl38⟩)
    (c38 : PySem.W.codeIn K cd38 "law" = true)
    (k38 : PySem.W.keepIn K (.ref f38) = true)
    (tw' : PySem.W.nsIn K mainGlobals "MOST_WIDTH" = some (some (.int 32 tw)))
    (tb' : PySem.W.nsIn K mainGlobals "MOST_BITS" = some (some (.int 6 tb)))
    (gaS : PySem.W.nsIn K mainGlobals "SHIFTS" = some (some (.ref aS)))
    (gaT : PySem.W.nsIn K mainGlobals "TESTS" = some (some (.ref aT)))
    (gaA : PySem.W.nsIn K mainGlobals "SAME_WIDTH" = some (some (.ref aA)))
    (gaP : PySem.W.nsIn K mainGlobals "PARTS" = some (some (.ref aP)))
    (gaL : PySem.W.nsIn K mainGlobals "ROW_LENGTHS" = some (some (.ref aL)))
    (gaO : PySem.W.nsIn K mainGlobals "OPERATIONS" = some (some (.ref aO)))
    (oS : K.lookup aS = some ⟨.type "tuple", ddS, .seq #[.str "<<" u0, .str ">>" u1] nS, slS⟩)
    (oT : K.lookup aT = some ⟨.type "tuple", ddT, .seq #[.str "==" u2, .str "<" u3] nT, slT⟩)
    (oA : K.lookup aA = some ⟨.type "tuple", ddA, .seq #[.str "+" u4, .str "-" u5, .str "*" u6, .str "&" u7, .str "|" u8, .str "^" u9] nA, slA⟩)
    (oP : K.lookup aP = some ⟨.type "dict", none, .dict esP nP, #[]⟩)
    (oL : K.lookup aL = some ⟨.type "dict", none, .dict esL nL, #[]⟩)
    (oO : K.lookup aO = some ⟨.type "dict", none, .dict esO nO, #[]⟩)
    (lP : PySem.W.KeysLit w.params esP.toList)
    (lL : PySem.W.KeysLit w.params esL.toList)
    (lO : PySem.W.KeysLit w.params esO.toList)
    (sL : (aL == sysModules) = false)
    (p_look : PySem.W.nsIn K aP "look" = some (some (.ref t_look)))
    (q_look : K.lookup t_look = some ⟨.type "tuple", d_look, .seq #[.int 2 v_look0] n_look, s_look⟩)
    (p_not : PySem.W.nsIn K aP "not" = some (some (.ref t_not)))
    (q_not : K.lookup t_not = some ⟨.type "tuple", d_not, .seq #[.int 1 v_not0] n_not, s_not⟩)
    (p_op : PySem.W.nsIn K aP "op" = some (some (.ref t_op)))
    (q_op : K.lookup t_op = some ⟨.type "tuple", d_op, .seq #[.int 2 v_op0, .int 3 v_op1] n_op, s_op⟩)
    (p_pick : PySem.W.nsIn K aP "pick" = some (some (.ref t_pick)))
    (q_pick : K.lookup t_pick = some ⟨.type "tuple", d_pick, .seq #[.int 1 v_pick0, .int 2 v_pick1, .int 3 v_pick2] n_pick, s_pick⟩)
    (p_wide : PySem.W.nsIn K aP "wide" = some (some (.ref t_wide)))
    (q_wide : K.lookup t_wide = some ⟨.type "tuple", d_wide, .seq #[.int 1 v_wide0] n_wide, s_wide⟩)
    (p_part : PySem.W.nsIn K aP "part" = some (some (.ref t_part)))
    (q_part : K.lookup t_part = some ⟨.type "tuple", d_part, .seq #[.int 1 v_part0] n_part, s_part⟩)
    (p_join : PySem.W.nsIn K aP "join" = some (some (.ref t_join)))
    (q_join : K.lookup t_join = some ⟨.type "tuple", d_join, .seq #[.int 1 v_join0, .int 2 v_join1] n_join, s_join⟩)
    (x0 : PySem.W.nsIn K aO "+" = some (some (.ref f2)))
    (x1 : PySem.W.nsIn K aO "-" = some (some (.ref f3)))
    (x2 : PySem.W.nsIn K aO "*" = some (some (.ref f4)))
    (x3 : PySem.W.nsIn K aO "&" = some (some (.ref f5)))
    (x4 : PySem.W.nsIn K aO "|" = some (some (.ref f6)))
    (x5 : PySem.W.nsIn K aO "^" = some (some (.ref f7)))
    (x6 : PySem.W.nsIn K aO "==" = some (some (.ref f8)))
    (x7 : PySem.W.nsIn K aO "<" = some (some (.ref f9)))
    (x8 : PySem.W.nsIn K aO "<<" = some (some (.ref f10)))
    (x9 : PySem.W.nsIn K aO ">>" = some (some (.ref f11)))
    (r00 : PySem.W.nsIn K aL "lit" = some (some (.int 3 w_lit)))
    (r01 : PySem.W.nsIn K aL "reg" = some (some (.int 2 w_reg)))
    (r02 : PySem.W.nsIn K aL "look" = some (some (.int 3 w_look)))
    (r03 : PySem.W.nsIn K aL "not" = some (some (.int 2 w_not)))
    (r04 : PySem.W.nsIn K aL "op" = some (some (.int 4 w_op)))
    (r05 : PySem.W.nsIn K aL "pick" = some (some (.int 4 w_pick)))
    (r06 : PySem.W.nsIn K aL "wide" = some (some (.int 3 w_wide)))
    (r07 : PySem.W.nsIn K aL "part" = some (some (.int 4 w_part)))
    (r08 : PySem.W.nsIn K aL "join" = some (some (.int 3 w_join)))
    (r09 : PySem.W.nsIn K aL "+" = some none)
    (r10 : PySem.W.nsIn K aL "-" = some none)
    (r11 : PySem.W.nsIn K aL "*" = some none)
    (r12 : PySem.W.nsIn K aL "&" = some none)
    (r13 : PySem.W.nsIn K aL "|" = some none)
    (r14 : PySem.W.nsIn K aL "^" = some none)
    (r15 : PySem.W.nsIn K aL "==" = some none)
    (r16 : PySem.W.nsIn K aL "<" = some none)
    (r17 : PySem.W.nsIn K aL "<<" = some none)
    (r18 : PySem.W.nsIn K aL ">>" = some none)
    (r19 : PySem.W.nsIn K aL "none" = some none)
    (z_type : PySem.W.nsIn K mainGlobals "type" = some none)
    (z_int : PySem.W.nsIn K mainGlobals "int" = some none)
    (z_tuple : PySem.W.nsIn K mainGlobals "tuple" = some none)
    (z_str : PySem.W.nsIn K mainGlobals "str" = some none)
    (z_len : PySem.W.nsIn K mainGlobals "len" = some none)
    (z_all : PySem.W.nsIn K mainGlobals "all" = some none)
    (z_zip : PySem.W.nsIn K mainGlobals "zip" = some none)
    (z_range : PySem.W.nsIn K mainGlobals "range" = some none)
    (z_abs : PySem.W.nsIn K mainGlobals "abs" = some none)
    (z_isinstance : PySem.W.nsIn K mainGlobals "isinstance" = some none)
    (z_bool : PySem.W.nsIn K mainGlobals "bool" = some none)
    (z_sum : PySem.W.nsIn K mainGlobals "sum" = some none)
    (z_list : PySem.W.nsIn K mainGlobals "list" = some none) :
    ∃ fd : FuncData, (∀ (s : Shared) (v : Value), BindsTo s fd ⟨[v], []⟩ [("script", v)]) ∧ ∀ base : Heap, K.In base → base.Ns mainGlobals mg → FnOk l.prog w K mg base CX0 6 fa fd ["script"] (spLaw K) := by
  have M := fun {x : Str} {v : Value} (e : PySem.W.nsIn K mainGlobals x = some (some v)) => PySem.W.mg_of X G e
  have Z := fun {x : Str} (e : PySem.W.nsIn K mainGlobals x = some none) => PySem.W.mg_none_of X G e
  have e := hfa.symm.trans (M a38)
  cases e
  have line : ∀ n : Nat, n ≤ 100 → n ≤ sizeLine := fun n h => by
    rw [sizeLine_eq]
    omega
  have F0 := fun_mk (st := sParts) l0 c0 k0
  have B0 := F0.binds (ps := ["tree"]) fun _ _ _ _ _ _ us hl => match us, hl with | [_], _ => rfl
  have F1 := fun_mk (st := sMask) l1 c1 k1
  have B1 := F1.binds (ps := ["width"]) fun _ _ _ _ _ _ us hl => match us, hl with | [_], _ => rfl
  have F2 := fun_mk (st := sAdded) l2 c2 k2
  have B2 := F2.binds (ps := ["one", "other", "width"]) fun _ _ _ _ _ _ us hl => match us, hl with | [_, _, _], _ => rfl
  have F3 := fun_mk (st := sTaken) l3 c3 k3
  have B3 := F3.binds (ps := ["one", "other", "width"]) fun _ _ _ _ _ _ us hl => match us, hl with | [_, _, _], _ => rfl
  have F4 := fun_mk (st := sMultiplied) l4 c4 k4
  have B4 := F4.binds (ps := ["one", "other", "width"]) fun _ _ _ _ _ _ us hl => match us, hl with | [_, _, _], _ => rfl
  have F5 := fun_mk (st := sBothBits) l5 c5 k5
  have B5 := F5.binds (ps := ["one", "other", "_"]) fun _ _ _ _ _ _ us hl => match us, hl with | [_, _, _], _ => rfl
  have F6 := fun_mk (st := sAnyBits) l6 c6 k6
  have B6 := F6.binds (ps := ["one", "other", "_"]) fun _ _ _ _ _ _ us hl => match us, hl with | [_, _, _], _ => rfl
  have F7 := fun_mk (st := sOddBits) l7 c7 k7
  have B7 := F7.binds (ps := ["one", "other", "_"]) fun _ _ _ _ _ _ us hl => match us, hl with | [_, _, _], _ => rfl
  have F8 := fun_mk (st := sSame) l8 c8 k8
  have B8 := F8.binds (ps := ["one", "other", "_"]) fun _ _ _ _ _ _ us hl => match us, hl with | [_, _, _], _ => rfl
  have F9 := fun_mk (st := sBelow) l9 c9 k9
  have B9 := F9.binds (ps := ["one", "other", "_"]) fun _ _ _ _ _ _ us hl => match us, hl with | [_, _, _], _ => rfl
  have F10 := fun_mk (st := sShiftedUp) l10 c10 k10
  have B10 := F10.binds (ps := ["one", "other", "width"]) fun _ _ _ _ _ _ us hl => match us, hl with | [_, _, _], _ => rfl
  have F11 := fun_mk (st := sShiftedDown) l11 c11 k11
  have B11 := F11.binds (ps := ["one", "other", "width"]) fun _ _ _ _ _ _ us hl => match us, hl with | [_, _, _], _ => rfl
  have F12 := fun_mk (st := sWorked) l12 c12 k12
  have B12 := F12.binds (ps := ["node", "sides", "widths"]) fun _ _ _ _ _ _ us hl => match us, hl with | [_, _, _], _ => rfl
  have F13 := fun_mk (st := sFitted) l13 c13 k13
  have B13 := F13.binds (ps := ["node", "widths"]) fun _ _ _ _ _ _ us hl => match us, hl with | [_, _], _ => rfl
  have F14 := fun_mk (st := sOpw) l14 c14 k14
  have B14 := F14.binds (ps := ["sign", "one", "other"]) fun _ _ _ _ _ _ us hl => match us, hl with | [_, _, _], _ => rfl
  have F15 := fun_mk (st := sIsCircuit) l15 c15 k15
  have B15 := F15.binds (ps := ["thing"]) fun _ _ _ _ _ _ us hl => match us, hl with | [_], _ => rfl
  have F16 := fun_mk (st := sWidthsOf) l16 c16 k16
  have B16 := F16.binds (ps := ["circuit"]) fun _ _ _ _ _ _ us hl => match us, hl with | [_], _ => rfl
  have F17 := fun_mk (st := sIsTuple) l17 c17 k17
  have B17 := F17.binds (ps := ["thing", "many"]) fun _ _ _ _ _ _ us hl => match us, hl with | [_, _], _ => rfl
  have F18 := fun_mk (st := sIsBelow) l18 c18 k18
  have B18 := F18.binds (ps := ["thing", "limit"]) fun _ _ _ _ _ _ us hl => match us, hl with | [_, _], _ => rfl
  have F19 := fun_mk (st := sIsWidth) l19 c19 k19
  have B19 := F19.binds (ps := ["thing"]) fun _ _ _ _ _ _ us hl => match us, hl with | [_], _ => rfl
  have F20 := fun_mk (st := sIsRegister) l20 c20 k20
  have B20 := F20.binds (ps := ["thing"]) fun _ _ _ _ _ _ us hl => match us, hl with | [_], _ => rfl
  have F21 := fun_mk (st := sIsMemory) l21 c21 k21
  have B21 := F21.binds (ps := ["thing"]) fun _ _ _ _ _ _ us hl => match us, hl with | [_], _ => rfl
  have F22 := fun_mk (st := sRowWidth) l22 c22 k22
  have B22 := F22.binds (ps := ["circuit", "widths", "row"]) fun _ _ _ _ _ _ us hl => match us, hl with | [_, _, _], _ => rfl
  have F23 := fun_mk (st := sKnown) l23 c23 k23
  have B23 := F23.binds (ps := ["circuit", "widths", "row"]) fun _ _ _ _ _ _ us hl => match us, hl with | [_, _, _], _ => rfl
  have F24 := fun_mk (st := sAreNexts) l24 c24 k24
  have B24 := F24.binds (ps := ["registers", "widths", "nexts"]) fun _ _ _ _ _ _ us hl => match us, hl with | [_, _, _], _ => rfl
  have F25 := fun_mk (st := sAreEnds) l25 c25 k25
  have B25 := F25.binds (ps := ["memories", "widths", "stores", "outs"]) fun _ _ _ _ _ _ us hl => match us, hl with | [_, _, _, _], _ => rfl
  have F26 := fun_mk (st := sIsStore) l26 c26 k26
  have B26 := F26.binds (ps := ["memories", "widths", "thing"]) fun _ _ _ _ _ _ us hl => match us, hl with | [_, _, _], _ => rfl
  have F27 := fun_mk (st := sRunCircuit) l27 c27 k27
  have B27 := F27.binds (ps := ["circuit", "contents", "cycles"]) fun _ _ _ _ _ _ us hl => match us, hl with | [_, _, _], _ => rfl
  have F28 := fun_mk (st := sRowValues) l28 c28 k28
  have B28 := F28.binds (ps := ["circuit", "widths", "regs", "memories"]) fun _ _ _ _ _ _ us hl => match us, hl with | [_, _, _, _], _ => rfl
  have F29 := fun_mk (st := sDraws) l29 c29 k29
  have B29 := F29.binds (ps := ["script", "many"]) fun _ _ _ _ _ _ us hl => match us, hl with | [_, _], _ => rfl
  have F30 := fun_mk (st := sNext) l30 c30 k30
  have B30 := F30.binds (ps := ["w", "many"]) fun _ _ _ _ _ _ us hl => match us, hl with | [_, _], _ => rfl
  have F31 := fun_mk (st := sRow) l31 c31 k31
  have B31 := F31.binds (ps := ["w", "c", "widths"]) fun _ _ _ _ _ _ us hl => match us, hl with | [_, _, _], _ => rfl
  have F32 := fun_mk (st := sCircuit) l32 c32 k32
  have B32 := F32.binds (ps := ["w", "most"]) fun _ _ _ _ _ _ us hl => match us, hl with | [_, _], _ => rfl
  have F33 := fun_mk (st := sLawContents) l33 c33 k33
  have B33 := F33.binds (ps := ["w", "circuit"]) fun _ _ _ _ _ _ us hl => match us, hl with | [_, _], _ => rfl
  have F34 := fun_mk (st := sLawOp) l34 c34 k34
  have B34 := F34.binds (ps := ["sign", "a", "b", "width"]) fun _ _ _ _ _ _ us hl => match us, hl with | [_, _, _, _], _ => rfl
  have F35 := fun_mk (st := sLawFound) l35 c35 k35
  have B35 := F35.binds (ps := ["row", "found", "widths", "regs", "mems"]) fun _ _ _ _ _ _ us hl => match us, hl with | [_, _, _, _, _], _ => rfl
  have F36 := fun_mk (st := sLawDue) l36 c36 k36
  have B36 := F36.binds (ps := ["circuit", "contents", "cycles"]) fun _ _ _ _ _ _ us hl => match us, hl with | [_, _, _], _ => rfl
  have F37 := fun_mk (st := sLawInts) l37 c37 k37
  have B37 := F37.binds (ps := ["thing"]) fun _ _ _ _ _ _ us hl => match us, hl with | [_], _ => rfl
  have F38 := fun_mk (st := sLaw) l38 c38 k38
  have B38 := F38.binds (ps := ["script"]) fun _ _ _ _ _ _ us hl => match us, hl with | [_], _ => rfl
  have GP : Gp mg tw tb := ⟨Z z_type, Z z_int, Z z_tuple, Z z_str, Z z_len, Z z_all, Z z_zip, M tw', M tb'⟩
  have GSs : Gs K mg aS aT aA := ⟨M gaS, M gaT, M gaA, fun H => .inr ⟨_, _, _, oS, rfl, rfl, line 2 (by decide), .cons ⟨_, rfl⟩ (.cons ⟨_, rfl⟩ .nil)⟩, fun H => .inr ⟨_, _, _, oT, rfl, rfl, line 2 (by decide), .cons ⟨_, rfl⟩ (.cons ⟨_, rfl⟩ .nil)⟩, fun H => .inr ⟨_, _, _, oA, rfl, rfl, line 6 (by decide), .cons ⟨_, rfl⟩ (.cons ⟨_, rfl⟩ (.cons ⟨_, rfl⟩ (.cons ⟨_, rfl⟩ (.cons ⟨_, rfl⟩ (.cons ⟨_, rfl⟩ .nil)))))⟩⟩
  have BL : Bl mg := ⟨Z z_len, Z z_range, Z z_abs, Z z_int, Z z_str⟩
  have BI : Bi mg := ⟨Z z_isinstance, Z z_tuple, Z z_list, Z z_int, Z z_bool⟩
  have PT : PtOk K w aP := by
    intro k hk
    have hc : k = "look" ∨ k = "not" ∨ k = "op" ∨ k = "pick" ∨ k = "wide" ∨ k = "part" ∨ k = "join" := by
      unfold kindsP at hk
      simpa using hk
    rcases hc with rfl | rfl | rfl | rfl | rfl | rfl | rfl
    · exact ⟨t_look, ⟨_, _, _, oP, lP, p_look, rfl⟩, fun H => .inr ⟨_, _, _, q_look, rfl, rfl, line 1 (by decide), .cons ⟨_, rfl⟩ .nil⟩⟩
    · exact ⟨t_not, ⟨_, _, _, oP, lP, p_not, rfl⟩, fun H => .inr ⟨_, _, _, q_not, rfl, rfl, line 1 (by decide), .cons ⟨_, rfl⟩ .nil⟩⟩
    · exact ⟨t_op, ⟨_, _, _, oP, lP, p_op, rfl⟩, fun H => .inr ⟨_, _, _, q_op, rfl, rfl, line 2 (by decide), .cons ⟨_, rfl⟩ (.cons ⟨_, rfl⟩ .nil)⟩⟩
    · exact ⟨t_pick, ⟨_, _, _, oP, lP, p_pick, rfl⟩, fun H => .inr ⟨_, _, _, q_pick, rfl, rfl, line 3 (by decide), .cons ⟨_, rfl⟩ (.cons ⟨_, rfl⟩ (.cons ⟨_, rfl⟩ .nil))⟩⟩
    · exact ⟨t_wide, ⟨_, _, _, oP, lP, p_wide, rfl⟩, fun H => .inr ⟨_, _, _, q_wide, rfl, rfl, line 1 (by decide), .cons ⟨_, rfl⟩ .nil⟩⟩
    · exact ⟨t_part, ⟨_, _, _, oP, lP, p_part, rfl⟩, fun H => .inr ⟨_, _, _, q_part, rfl, rfl, line 1 (by decide), .cons ⟨_, rfl⟩ .nil⟩⟩
    · exact ⟨t_join, ⟨_, _, _, oP, lP, p_join, rfl⟩, fun H => .inr ⟨_, _, _, q_join, rfl, rfl, line 2 (by decide), .cons ⟨_, rfl⟩ (.cons ⟨_, rfl⟩ .nil)⟩⟩
  have LN : LnOk K w aL := by
    refine ⟨⟨_, _, oL, lL, sL⟩, fun k hk => ?_⟩
    have hc : k = "lit" ∨ k = "reg" ∨ k = "look" ∨ k = "not" ∨ k = "op" ∨ k = "pick" ∨ k = "wide" ∨ k = "part" ∨ k = "join" ∨ k = "+" ∨ k = "-" ∨ k = "*" ∨ k = "&" ∨ k = "|" ∨ k = "^" ∨ k = "==" ∨ k = "<" ∨ k = "<<" ∨ k = ">>" ∨ k = "none" := by
      unfold strsL at hk
      simpa using hk
    rcases hc with rfl | rfl | rfl | rfl | rfl | rfl | rfl | rfl | rfl | rfl | rfl | rfl | rfl | rfl | rfl | rfl | rfl | rfl | rfl | rfl
    · exact ⟨_, .int 3, r00, ⟨_, rfl⟩, by decide +kernel⟩
    · exact ⟨_, .int 2, r01, ⟨_, rfl⟩, by decide +kernel⟩
    · exact ⟨_, .int 3, r02, ⟨_, rfl⟩, by decide +kernel⟩
    · exact ⟨_, .int 2, r03, ⟨_, rfl⟩, by decide +kernel⟩
    · exact ⟨_, .int 4, r04, ⟨_, rfl⟩, by decide +kernel⟩
    · exact ⟨_, .int 4, r05, ⟨_, rfl⟩, by decide +kernel⟩
    · exact ⟨_, .int 3, r06, ⟨_, rfl⟩, by decide +kernel⟩
    · exact ⟨_, .int 4, r07, ⟨_, rfl⟩, by decide +kernel⟩
    · exact ⟨_, .int 3, r08, ⟨_, rfl⟩, by decide +kernel⟩
    · exact ⟨_, .non, r09, rfl, by decide +kernel⟩
    · exact ⟨_, .non, r10, rfl, by decide +kernel⟩
    · exact ⟨_, .non, r11, rfl, by decide +kernel⟩
    · exact ⟨_, .non, r12, rfl, by decide +kernel⟩
    · exact ⟨_, .non, r13, rfl, by decide +kernel⟩
    · exact ⟨_, .non, r14, rfl, by decide +kernel⟩
    · exact ⟨_, .non, r15, rfl, by decide +kernel⟩
    · exact ⟨_, .non, r16, rfl, by decide +kernel⟩
    · exact ⟨_, .non, r17, rfl, by decide +kernel⟩
    · exact ⟨_, .non, r18, rfl, by decide +kernel⟩
    · exact ⟨_, .non, r19, rfl, by decide +kernel⟩
  refine ⟨PySem.W.fnOf "law" "law" (defArgs sLaw) (defBody sLaw) (defScope sLaw) .none kV38 dc38 pm38 an38 cd38 ct38, fun s v => .of_eq rfl, fun base _ _ => ?_⟩
  have G1 : FnOk l.prog w K mg base CX0 1 f1 _ ["width"] spMask := ok_mask F1
  have G2 : FnOk l.prog w K mg base CX0 2 f2 _ ["one", "other", "width"] (spOpr "+") := ok_added G1 k1 B1 (M a1) F2
  have G3 : FnOk l.prog w K mg base CX0 2 f3 _ ["one", "other", "width"] (spOpr "-") := ok_taken G1 k1 B1 (M a1) F3
  have G4 : FnOk l.prog w K mg base CX0 2 f4 _ ["one", "other", "width"] (spOpr "*") := ok_multiplied G1 k1 B1 (M a1) F4
  have G5 : FnOk l.prog w K mg base CX0 2 f5 _ ["one", "other", "_"] (spOpr "&") := (ok_bothBits F5).mono (by decide)
  have G6 : FnOk l.prog w K mg base CX0 2 f6 _ ["one", "other", "_"] (spOpr "|") := (ok_anyBits F6).mono (by decide)
  have G7 : FnOk l.prog w K mg base CX0 2 f7 _ ["one", "other", "_"] (spOpr "^") := (ok_oddBits F7).mono (by decide)
  have G8 : FnOk l.prog w K mg base CX0 2 f8 _ ["one", "other", "_"] (spOpr "==") := (ok_same F8 (Z z_int)).mono (by decide)
  have G9 : FnOk l.prog w K mg base CX0 2 f9 _ ["one", "other", "_"] (spOpr "<") := (ok_below F9 (Z z_int)).mono (by decide)
  have G10 : FnOk l.prog w K mg base CX0 2 f10 _ ["one", "other", "width"] (spOpr "<<") := ok_shiftedUp G1 k1 B1 (M a1) F10
  have G11 : FnOk l.prog w K mg base CX0 2 f11 _ ["one", "other", "width"] (spOpr ">>") := (ok_shiftedDown F11).mono (by decide)
  have OO : OpsOk l.prog w K mg base aO := by
    intro k hk
    have hc : k = "+" ∨ k = "-" ∨ k = "*" ∨ k = "&" ∨ k = "|" ∨ k = "^" ∨ k = "==" ∨ k = "<" ∨ k = "<<" ∨ k = ">>" := by
      unfold signsL arithL testL shiftL at hk
      simpa using hk
    rcases hc with rfl | rfl | rfl | rfl | rfl | rfl | rfl | rfl | rfl | rfl
    · exact ⟨f2, _, _, ⟨_, _, _, oO, lO, x0, rfl⟩, G2, k2, B2⟩
    · exact ⟨f3, _, _, ⟨_, _, _, oO, lO, x1, rfl⟩, G3, k3, B3⟩
    · exact ⟨f4, _, _, ⟨_, _, _, oO, lO, x2, rfl⟩, G4, k4, B4⟩
    · exact ⟨f5, _, _, ⟨_, _, _, oO, lO, x3, rfl⟩, G5, k5, B5⟩
    · exact ⟨f6, _, _, ⟨_, _, _, oO, lO, x4, rfl⟩, G6, k6, B6⟩
    · exact ⟨f7, _, _, ⟨_, _, _, oO, lO, x5, rfl⟩, G7, k7, B7⟩
    · exact ⟨f8, _, _, ⟨_, _, _, oO, lO, x6, rfl⟩, G8, k8, B8⟩
    · exact ⟨f9, _, _, ⟨_, _, _, oO, lO, x7, rfl⟩, G9, k9, B9⟩
    · exact ⟨f10, _, _, ⟨_, _, _, oO, lO, x8, rfl⟩, G10, k10, B10⟩
    · exact ⟨f11, _, _, ⟨_, _, _, oO, lO, x9, rfl⟩, G11, k11, B11⟩
  have G12 : FnOk l.prog w K mg base CX0 3 f12 _ ["node", "sides", "widths"] (spWorked K) := ok_worked F12 G1 k1 B1 (M a1) (M gaO) OO
  have G17 : FnOk l.prog w K mg base CX0 1 f17 _ ["thing", "many"] (spIsTuple K) := ok_isTuple F17 GP
  have G18 : FnOk l.prog w K mg base CX0 1 f18 _ ["thing", "limit"] (spIsBelow K) := ok_isBelow F18 GP
  have G19 : FnOk l.prog w K mg base CX0 2 f19 _ ["thing"] (spIsWidth K) := ok_isWidth F19 GP G18 k18 B18 (M a18)
  have G20 : FnOk l.prog w K mg base CX0 3 f20 _ ["thing"] (spD K regB) := ok_isRegister F20 G18 k18 B18 (M a18) G17 k17 B17 (M a17) G19 k19 B19 (M a19) G1 k1 B1 (M a1)
  have G21 : FnOk l.prog w K mg base CX0 3 f21 _ ["thing"] (spD K memB) := ok_isMemory F21 GP G18 k18 B18 (M a18) G17 k17 B17 (M a17) G19 k19 B19 (M a19)
  have G14 : FnOk l.prog w K mg base CX0 1 f14 _ ["sign", "one", "other"] (spOpw K) := ok_opw F14 GSs
  have G13 : FnOk l.prog w K mg base CX0 2 f13 _ ["node", "widths"] (spFitted K) := ok_fitted F13 GP G14 k14 B14 (M a14)
  have G0 : FnOk l.prog w K mg base CX0 1 f0 _ ["tree"] (spParts K w aP) := ok_parts F0 (M gaP)
  have G23 : FnOk l.prog w K mg base CX0 3 f23 _ ["circuit", "widths", "row"] (spKnown K) := ok_known F23 G0 k0 B0 (M a0) G13 k13 B13 (M a13) PT
  have G22 : FnOk l.prog w K mg base CX0 4 f22 _ ["circuit", "widths", "row"] (spRowWidth K) := ok_rowWidth F22 GP (M gaL) LN PT G0 k0 B0 (M a0) G18 k18 B18 (M a18) G19 k19 B19 (M a19) G1 k1 B1 (M a1) G23 k23 B23 (M a23)
  have G24 : FnOk l.prog w K mg base CX0 2 f24 _ ["registers", "widths", "nexts"] (spAreNexts K) := ok_areNexts F24 GP G18 k18 B18 (M a18)
  have G26 : FnOk l.prog w K mg base CX0 2 f26 _ ["memories", "widths", "thing"] (spIsStore K) := ok_isStore F26 GP G18 k18 B18 (M a18) G17 k17 B17 (M a17)
  have G25 : FnOk l.prog w K mg base CX0 3 f25 _ ["memories", "widths", "stores", "outs"] (spAreEnds K) := ok_areEnds F25 GP G18 k18 B18 (M a18) G26 k26 B26 (M a26)
  have G15 : FnOk l.prog w K mg base CX0 5 f15 _ ["thing"] (spIsCircuit K) := ok_isCircuit F15 GP G17 k17 B17 (M a17) G20 k20 B20 (M a20) G21 k21 B21 (M a21) G22 k22 B22 (M a22) G24 k24 B24 (M a24) G25 k25 B25 (M a25)
  have G16 : FnOk l.prog w K mg base CX0 4 f16 _ ["circuit"] (spWidthsOf K) := ok_widthsOf F16 G23 k23 B23 (M a23)
  have G28 : FnOk l.prog w K mg base CX0 4 f28 _ ["circuit", "widths", "regs", "memories"] (spRowValues K) := ok_rowValues F28 G0 k0 B0 (M a0) G12 k12 B12 (M a12) PT
  have G27 : FnOk l.prog w K mg base CX0 5 f27 _ ["circuit", "contents", "cycles"] (spRun K) := ok_run F27 G16 k16 B16 (M a16) G28 k28 B28 (M a28) BL (Z z_tuple) (Z z_list)
  have G29 : FnOk l.prog w K mg base CX0 1 f29 _ ["script", "many"] (spDraws K) := ok_draws F29 BL
  have G30 : FnOk l.prog w K mg base CX0 1 f30 _ ["w", "many"] spNext := ok_next F30 BL
  have G31 : FnOk l.prog w K mg base CX0 2 f31 _ ["w", "c", "widths"] (spRow K) := ok_row F31 G30 k30 B30 (M a30) BL
  have G32 : FnOk l.prog w K mg base CX0 3 f32 _ ["w", "most"] (spCircuit K) := ok_circuit F32 G30 k30 B30 (M a30) G31 k31 B31 (M a31) BL (Z z_tuple)
  have G33 : FnOk l.prog w K mg base CX0 2 f33 _ ["w", "circuit"] (spContents K) := ok_contents F33 G30 k30 B30 (M a30) BL (Z z_tuple)
  have G34 : FnOk l.prog w K mg base CX0 1 f34 _ ["sign", "a", "b", "width"] spLop := ok_lop F34 BL (Z z_sum)
  have G35 : FnOk l.prog w K mg base CX0 2 f35 _ ["row", "found", "widths", "regs", "mems"] (spLfound K) := ok_lfound F35 G34 k34 B34 (M a34)
  have G36 : FnOk l.prog w K mg base CX0 3 f36 _ ["circuit", "contents", "cycles"] (spRun K) := ok_due F36 G35 k35 B35 (M a35) BL (Z z_tuple) (Z z_list)
  have Gi0 : FnOk l.prog w K mg base CX0 1 f37 _ ["thing"] (spInts K 0) := ok_ints0 F37 BI
  have Gi1 : FnOk l.prog w K mg base CX0 2 f37 _ ["thing"] (spInts K 1) := ok_intsS F37 BI 0 Gi0 k37 B37 (M a37)
  have Gi2 : FnOk l.prog w K mg base CX0 3 f37 _ ["thing"] (spInts K 2) := ok_intsS F37 BI 1 Gi1 k37 B37 (M a37)
  have GiL : FnOk l.prog w K mg base CX0 2 f37 _ ["thing"] (spIntsL K) := ok_intsL F37 BI Gi0 k37 B37 (M a37)
  exact ok_law F38 BL BI (Z z_tuple) (Z z_list) G29 k29 B29 (M a29) G32 k32 B32 (M a32) G33 k33 B33 (M a33) G30 k30 B30 (M a30) G27 k27 B27 (M a27) G15 k15 B15 (M a15) G36 k36 B36 (M a36) Gi2 GiL k37 B37 (M a37) G16 k16 B16 (M a16) G35 k35 B35 (M a35)
end C1

open PySem PySem.W PyProof.Rows
set_option maxRecDepth 100000 in
set_option maxHeartbeats 0 in
theorem PySem.Challenge.cw_stagecut_k10_circuits_that_run_holds : PySem.Challenge.rw_stagecut_k10_circuits_that_run.Holds := by
  w_on; o_law; k_head; (case hw => w_witness2)
  k_fill
  refine L2.walk_of (l := PySem.Challenge.rw_stagecut_k10_circuits_that_run) (n := 63) (k := 6) (x := "script") (CX := fun _ => L2.CX0) (sp := fun w => C1.spLaw _) rfl (by decide) rfl ⟨rfl, by decide, by decide⟩ (fun w h Y => PySem.W.kIn_of Y) ?F (fun _ _ a ns hl _ hS => ⟨a, ns, rfl, hS, hl, fun _ => rfl⟩) (fun _ _ _ _ _ h => h)
  case F =>
    intro w mg fa h KX G hmg
    refine' C1.all_mk KX G hmg ?a0 ?l0 ?c0 ?k0 ?a1 ?l1 ?c1 ?k1 ?a2 ?l2 ?c2 ?k2 ?a3 ?l3 ?c3 ?k3 ?a4 ?l4 ?c4 ?k4 ?a5 ?l5 ?c5 ?k5 ?a6 ?l6 ?c6 ?k6 ?a7 ?l7 ?c7 ?k7 ?a8 ?l8 ?c8 ?k8 ?a9 ?l9 ?c9 ?k9 ?a10 ?l10 ?c10 ?k10 ?a11 ?l11 ?c11 ?k11 ?a12 ?l12 ?c12 ?k12 ?a13 ?l13 ?c13 ?k13 ?a14 ?l14 ?c14 ?k14 ?a15 ?l15 ?c15 ?k15 ?a16 ?l16 ?c16 ?k16 ?a17 ?l17 ?c17 ?k17 ?a18 ?l18 ?c18 ?k18 ?a19 ?l19 ?c19 ?k19 ?a20 ?l20 ?c20 ?k20 ?a21 ?l21 ?c21 ?k21 ?a22 ?l22 ?c22 ?k22 ?a23 ?l23 ?c23 ?k23 ?a24 ?l24 ?c24 ?k24 ?a25 ?l25 ?c25 ?k25 ?a26 ?l26 ?c26 ?k26 ?a27 ?l27 ?c27 ?k27 ?a28 ?l28 ?c28 ?k28 ?a29 ?l29 ?c29 ?k29 ?a30 ?l30 ?c30 ?k30 ?a31 ?l31 ?c31 ?k31 ?a32 ?l32 ?c32 ?k32 ?a33 ?l33 ?c33 ?k33 ?a34 ?l34 ?c34 ?k34 ?a35 ?l35 ?c35 ?k35 ?a36 ?l36 ?c36 ?k36 ?a37 ?l37 ?c37 ?k37 ?a38 ?l38 ?c38 ?k38 ?tw' ?tb' ?gaS ?gaT ?gaA ?gaP ?gaL ?gaO ?oS ?oT ?oA ?oP ?oL ?oO ?lP ?lL ?lO ?sL ?p_look ?q_look ?p_not ?q_not ?p_op ?q_op ?p_pick ?q_pick ?p_wide ?q_wide ?p_part ?q_part ?p_join ?q_join ?x0 ?x1 ?x2 ?x3 ?x4 ?x5 ?x6 ?x7 ?x8 ?x9 ?r00 ?r01 ?r02 ?r03 ?r04 ?r05 ?r06 ?r07 ?r08 ?r09 ?r10 ?r11 ?r12 ?r13 ?r14 ?r15 ?r16 ?r17 ?r18 ?r19 ?z_type ?z_int ?z_tuple ?z_str ?z_len ?z_all ?z_zip ?z_range ?z_abs ?z_isinstance ?z_bool ?z_sum ?z_list
    (case a0 => k_is)
    (case l0 => k_is)
    (case c0 => k_is)
    (case k0 => k_is)
    (case a1 => k_is)
    (case l1 => k_is)
    (case c1 => k_is)
    (case k1 => k_is)
    (case a2 => k_is)
    (case l2 => k_is)
    (case c2 => k_is)
    (case k2 => k_is)
    (case a3 => k_is)
    (case l3 => k_is)
    (case c3 => k_is)
    (case k3 => k_is)
    (case a4 => k_is)
    (case l4 => k_is)
    (case c4 => k_is)
    (case k4 => k_is)
    (case a5 => k_is)
    (case l5 => k_is)
    (case c5 => k_is)
    (case k5 => k_is)
    (case a6 => k_is)
    (case l6 => k_is)
    (case c6 => k_is)
    (case k6 => k_is)
    (case a7 => k_is)
    (case l7 => k_is)
    (case c7 => k_is)
    (case k7 => k_is)
    (case a8 => k_is)
    (case l8 => k_is)
    (case c8 => k_is)
    (case k8 => k_is)
    (case a9 => k_is)
    (case l9 => k_is)
    (case c9 => k_is)
    (case k9 => k_is)
    (case a10 => k_is)
    (case l10 => k_is)
    (case c10 => k_is)
    (case k10 => k_is)
    (case a11 => k_is)
    (case l11 => k_is)
    (case c11 => k_is)
    (case k11 => k_is)
    (case a12 => k_is)
    (case l12 => k_is)
    (case c12 => k_is)
    (case k12 => k_is)
    (case a13 => k_is)
    (case l13 => k_is)
    (case c13 => k_is)
    (case k13 => k_is)
    (case a14 => k_is)
    (case l14 => k_is)
    (case c14 => k_is)
    (case k14 => k_is)
    (case a15 => k_is)
    (case l15 => k_is)
    (case c15 => k_is)
    (case k15 => k_is)
    (case a16 => k_is)
    (case l16 => k_is)
    (case c16 => k_is)
    (case k16 => k_is)
    (case a17 => k_is)
    (case l17 => k_is)
    (case c17 => k_is)
    (case k17 => k_is)
    (case a18 => k_is)
    (case l18 => k_is)
    (case c18 => k_is)
    (case k18 => k_is)
    (case a19 => k_is)
    (case l19 => k_is)
    (case c19 => k_is)
    (case k19 => k_is)
    (case a20 => k_is)
    (case l20 => k_is)
    (case c20 => k_is)
    (case k20 => k_is)
    (case a21 => k_is)
    (case l21 => k_is)
    (case c21 => k_is)
    (case k21 => k_is)
    (case a22 => k_is)
    (case l22 => k_is)
    (case c22 => k_is)
    (case k22 => k_is)
    (case a23 => k_is)
    (case l23 => k_is)
    (case c23 => k_is)
    (case k23 => k_is)
    (case a24 => k_is)
    (case l24 => k_is)
    (case c24 => k_is)
    (case k24 => k_is)
    (case a25 => k_is)
    (case l25 => k_is)
    (case c25 => k_is)
    (case k25 => k_is)
    (case a26 => k_is)
    (case l26 => k_is)
    (case c26 => k_is)
    (case k26 => k_is)
    (case a27 => k_is)
    (case l27 => k_is)
    (case c27 => k_is)
    (case k27 => k_is)
    (case a28 => k_is)
    (case l28 => k_is)
    (case c28 => k_is)
    (case k28 => k_is)
    (case a29 => k_is)
    (case l29 => k_is)
    (case c29 => k_is)
    (case k29 => k_is)
    (case a30 => k_is)
    (case l30 => k_is)
    (case c30 => k_is)
    (case k30 => k_is)
    (case a31 => k_is)
    (case l31 => k_is)
    (case c31 => k_is)
    (case k31 => k_is)
    (case a32 => k_is)
    (case l32 => k_is)
    (case c32 => k_is)
    (case k32 => k_is)
    (case a33 => k_is)
    (case l33 => k_is)
    (case c33 => k_is)
    (case k33 => k_is)
    (case a34 => k_is)
    (case l34 => k_is)
    (case c34 => k_is)
    (case k34 => k_is)
    (case a35 => k_is)
    (case l35 => k_is)
    (case c35 => k_is)
    (case k35 => k_is)
    (case a36 => k_is)
    (case l36 => k_is)
    (case c36 => k_is)
    (case k36 => k_is)
    (case a37 => k_is)
    (case l37 => k_is)
    (case c37 => k_is)
    (case k37 => k_is)
    (case a38 => k_is)
    (case l38 => k_is)
    (case c38 => k_is)
    (case k38 => k_is)
    (case tw' => k_is)
    (case tb' => k_is)
    (case gaS => k_is)
    (case gaT => k_is)
    (case gaA => k_is)
    (case gaP => k_is)
    (case gaL => k_is)
    (case gaO => k_is)
    (case oS => k_is)
    (case oT => k_is)
    (case oA => k_is)
    (case oP => k_is)
    (case oL => k_is)
    (case oO => k_is)
    (case lP => (show PySem.W.KeysLit _ _); (repeat' (first | exact trivial | refine ⟨⟨_, _, rfl, rfl⟩, ?_⟩)))
    (case lL => (show PySem.W.KeysLit _ _); (repeat' (first | exact trivial | refine ⟨⟨_, _, rfl, rfl⟩, ?_⟩)))
    (case lO => (show PySem.W.KeysLit _ _); (repeat' (first | exact trivial | refine ⟨⟨_, _, rfl, rfl⟩, ?_⟩)))
    (case sL => rfl)
    (case p_look => k_is)
    (case q_look => k_is)
    (case p_not => k_is)
    (case q_not => k_is)
    (case p_op => k_is)
    (case q_op => k_is)
    (case p_pick => k_is)
    (case q_pick => k_is)
    (case p_wide => k_is)
    (case q_wide => k_is)
    (case p_part => k_is)
    (case q_part => k_is)
    (case p_join => k_is)
    (case q_join => k_is)
    (case x0 => k_is)
    (case x1 => k_is)
    (case x2 => k_is)
    (case x3 => k_is)
    (case x4 => k_is)
    (case x5 => k_is)
    (case x6 => k_is)
    (case x7 => k_is)
    (case x8 => k_is)
    (case x9 => k_is)
    (case r00 => k_is)
    (case r01 => k_is)
    (case r02 => k_is)
    (case r03 => k_is)
    (case r04 => k_is)
    (case r05 => k_is)
    (case r06 => k_is)
    (case r07 => k_is)
    (case r08 => k_is)
    (case r09 => k_is)
    (case r10 => k_is)
    (case r11 => k_is)
    (case r12 => k_is)
    (case r13 => k_is)
    (case r14 => k_is)
    (case r15 => k_is)
    (case r16 => k_is)
    (case r17 => k_is)
    (case r18 => k_is)
    (case r19 => k_is)
    (case z_type => k_is)
    (case z_int => k_is)
    (case z_tuple => k_is)
    (case z_str => k_is)
    (case z_len => k_is)
    (case z_all => k_is)
    (case z_zip => k_is)
    (case z_range => k_is)
    (case z_abs => k_is)
    (case z_isinstance => k_is)
    (case z_bool => k_is)
    (case z_sum => k_is)
    (case z_list => k_is)

