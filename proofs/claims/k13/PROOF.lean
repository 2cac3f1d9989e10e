import PyProof.Rows.All
import Wide.All
import OpenK.AllK
import Wide.FinOn
import PySem.Challenge.RW_stagecut_k13_texts_of_circuits
import HandS.ForMost
import HandS.ForExc
import HandS.Codes
import HandS.StrMore
import HandS.IsInst
import HandS.More
import HandS.Zip
import HandS.Deep
import HandS.WrittenGet
import HandS.AnyAll
import HandS.TupLe
import HandS.TupAny
import HandS.Star
import HandS.NoneIn
import PyProof.SeqIndex
import HandS.ExcInit
import HandS.ExcField
import HandS.ExcIs
import KE.KExcIs
import HandS.FStr
import PyProof.Rows.StrSplitCount
import HandS.DictComp
import PyProof.Rows.StrSplitAre
import PyProof.StrLawsTight
import PyProof.StrLawsChain
import HandS.RaiseMore
import HandS.EndTab
set_option Elab.async false
set_option linter.all false
set_option maxRecDepth 100000
set_option maxHeartbeats 8000000
set_option pp.maxSteps 500

/-! The law's draws, data without lists. -/
namespace C1
open PySem PySem.Spec PyProof.Rows L2 SX
def topS (i : Nat) : Stmt := PySem.Challenge.pw_stagecut_k13_texts_of_circuits.main.body.getD i (.Pass ⟨0, 0, 0, 0⟩)
abbrev sParts : Stmt := topS 2
abbrev sMask : Stmt := topS 10
abbrev sFitted : Stmt := topS 11
abbrev sOpw : Stmt := topS 12
abbrev sIsCircuit : Stmt := topS 15
abbrev sIsTuple : Stmt := topS 16
abbrev sIsBelow : Stmt := topS 17
abbrev sIsWidth : Stmt := topS 18
abbrev sIsRegister : Stmt := topS 19
abbrev sIsMemory : Stmt := topS 20
abbrev sRowWidth : Stmt := topS 21
abbrev sKnown : Stmt := topS 22
abbrev sAreNexts : Stmt := topS 23
abbrev sAreEnds : Stmt := topS 24
abbrev sIsStore : Stmt := topS 25
abbrev sDraws : Stmt := topS 48
abbrev sNext : Stmt := topS 49
abbrev sRow : Stmt := topS 51
abbrev sCircuit : Stmt := topS 52
theorem scDraws : FnScope ["script", "many", "draws", "mixed", "k", "cell", "rest", "turn"] ["script", "many"] (defScope sDraws) := ⟨rfl, rfl, rfl, by decide +kernel, rfl, by decide +kernel, by decide +kernel⟩
theorem scNext : FnScope ["w", "many"] ["w", "many"] (defScope sNext) := ⟨rfl, rfl, rfl, by decide +kernel, rfl, by decide +kernel, by decide +kernel⟩
theorem cut_ints (ds : List Int) (lo hi : Option Int) : ∃ es : List Int, cutV (ds.map V.int) lo hi = es.map V.int ∧ es.length ≤ ds.length := by
  refine ⟨(ds.drop (HT.sIx ds.length 0 lo)).take (HT.sIx ds.length ds.length hi - HT.sIx ds.length 0 lo), ?_, ?_⟩
  · unfold cutV
    rw [List.length_map, List.map_take, List.map_drop]
  · rw [List.length_take, List.length_drop]
    omega
theorem ap_int (ds : List Int) (z : Int) : ds.map V.int ++ [V.int z] = (ds ++ [z]).map V.int := by
  rw [List.map_append]
  rfl
theorem same_new {H : Hp} {p : Addr} {o : HO} (n : H p = none) : Same H (upd H p o) := fun b x e => by
  rw [upd_ne (ne_of_none e n)]
  exact e
theorem same_put {H H1 : Hp} {l : Addr} {o : HO} (g : Same H H1) (n : H l = none) : Same H (upd H1 l o) := fun b x e => by
  rw [upd_ne (ne_of_none e n)]
  exact g b x e
section
variable {P : Program} {w : World} {K : PySem.W.Frag} {mg : Str → Option Value} {base : Heap}
/-- the built-ins that the law calls -/
structure Bl (mg : Str → Option Value) : Prop where
  len : mg "len" = none
  range : mg "range" = none
  abs : mg "abs" = none
  int : mg "int" = none
  str : mg "str" = none
def spDraws (K : PySem.W.Frag) : Sp := fun vs H Q _ => ∃ (a : Addr) (ns : List Int) (m : Nat), vs = [.ref a, .int ((m : Nat) : Int)] ∧ SqL K H a (ns.map V.int) ∧ ns.length ≤ 63 ∧ m ≤ 1000 ∧
  ∀ (H' : Hp) (p : Addr) (ds : List Int), Same H H' → H p = none → H' p = some (.lst (ds.map V.int)) → ds.length ≤ 10000 → Q (.ref p) H'
theorem ok_draws {f : Addr} {fd : FuncData} (F : Fun K "_law_draws" "_law_draws" sDraws f fd) (B : Bl mg) : FnOk P w K mg base CX0 1 f fd ["script", "many"] (spDraws K) := by
  refine F.ok scDraws (fun vs H Q E h => ?_) (fun cdv A outer s H vs Q E hr h => ?_)
  · obtain ⟨a, ns, m, rfl, _⟩ := h
    rfl
  · obtain ⟨a, ns, m, rfl, hS, hlen, hm, q⟩ := h
    have nd := scDraws.nd
    refine ⟨_, (pss_cons (ps_set (i := 2) nd rfl (.inl rfl) (pe_lst pa_nil))
      (pss_cons (ps_set (i := 3) nd rfl (.inl rfl) (pe_int))
      (pss_cons (ps_for PassesOwn.never rfl (pi_range1 (by rfl) B.range (pa_cons (pe_callB call_len_seq (by rfl) B.len PySem.boot_len (pa_cons (pv 0) pa_nil)) pa_nil)) (pg_name (i := 4) nd rfl (.inl rfl)) (pss_cons (ps_set (i := 5) nd rfl (.inl rfl) (pe_callB call_abs (by rfl) B.abs (by decide +kernel) (pa_cons (pe_callTy call_int1 (by rfl) B.int (by decide +kernel) (pa_cons (pe_ix ix_list (pv 0) (pv 4) (fun _ _ => rfl)) pa_nil)) pa_nil)))
      (pss_cons (ps_set (i := 3) nd rfl (.inl rfl) (pe_op op_mod (pe_callTy call_int1 (by rfl) B.int (by decide +kernel) (pa_cons (pe_op op_add (pe_op op_add (pe_op op_mul (pv 3) (pe_int)) (pe_op op_mod (pv 5) (pe_int))) (pv 4)) pa_nil)) (pe_int)))
      (pss_cons (ps_set (i := 6) nd rfl (.inl rfl) (pe_int))
      (C8.pss_cut (ps_if (pt_cmpR op_ge (pv 5) (pe_op op_pow pe_int pe_int) (nomark _)) (pss_one (ps_set (i := 6) nd rfl (.inl rfl) (pv 5)))
      (pss_cons (ps_expr (pe_bm PySem.F.plainAttrs_list PySem.F.slot_list_append PySem.F.type_list_append mt_append (pv 2) (pa_cons (pe_op op_mod (pe_callTy call_int1 (by rfl) B.int (by decide +kernel) (pa_cons (pv 5) pa_nil)) (pe_int)) pa_nil)))
      (pss_one (ps_expr (pe_bm PySem.F.plainAttrs_list PySem.F.slot_list_append PySem.F.type_list_append mt_append (pv 2) (pa_cons (pe_op op_mod (pe_op op_mod (pe_callTy call_int1 (by rfl) B.int (by decide +kernel) (pa_cons (pe_op op_add (pe_op op_mul (pv 3) (pe_int)) (pe_int)) pa_nil)) (pe_int)) (pe_int)) pa_nil))))))
      (pss_one (ps_for PassesOwn.never rfl (pi_range1 (by rfl) B.range (pa_cons (pe_int) pa_nil)) (pg_name (i := 7) nd rfl (.inl rfl)) (pss_one (ps_if (pt_cmpR op_gt (pv 6) pe_int (nomark _)) (pss_cons (ps_expr (pe_bm PySem.F.plainAttrs_list PySem.F.slot_list_append PySem.F.type_list_append mt_append (pv 2) (pa_cons (pe_op op_mod (pe_callTy call_int1 (by rfl) B.int (by decide +kernel) (pa_cons (pv 6) pa_nil)) (pe_int)) pa_nil)))
      (pss_one (ps_set (i := 6) nd rfl (.inl rfl) (pe_op op_fdiv (pv 6) (pe_int))))) pss_nil)))))))))
      (pss_cons (ps_for PassesOwn.never rfl (pi_range1 (by rfl) B.range (pa_cons (pv 1) pa_nil)) (pg_name (i := 4) nd rfl (.inl rfl)) (pss_cons (ps_set (i := 3) nd rfl (.inl rfl) (pe_op op_mod (pe_callTy call_int1 (by rfl) B.int (by decide +kernel) (pa_cons (pe_op op_add (pe_op op_add (pe_op op_mul (pv 3) (pe_int)) (pv 4)) (pe_int)) pa_nil)) (pe_int)))
      (pss_one (ps_expr (pe_bm PySem.F.plainAttrs_list PySem.F.slot_list_append PySem.F.type_list_append mt_append (pv 2) (pa_cons (pe_op op_mod (pe_callTy call_int1 (by rfl) B.int (by decide +kernel) (pa_cons (pv 3) pa_nil)) (pe_int)) pa_nil))))))
      (pss_one (ps_ret (pe_slice sl_list (pv 2) po_none (po_some (pv 1))))))))), ?_⟩
    refine ⟨Nat.zero_le _, fun l nl => ?_⟩
    have big : 100000 ≤ sizeLine := by
      rw [sizeLine_eq]
      decide
    let Iv : Nat → L2.St → Hp → Prop := fun n σ H' => ∃ (mixed : Int) (ds : List Int) (y4 y5 y6 y7 : Option V), σ = [some (.ref a), some (.int ((m : Nat) : Int)), some (.ref l), some (.int mixed), y4, y5, y6, y7] ∧ Same H H' ∧ H' l = some (.lst (ds.map V.int)) ∧ ds.length ≤ n ∧ 0 ≤ mixed ∧ mixed < 65537
    have h65 : ∀ x : Int, 0 ≤ x % 65537 ∧ x % 65537 < 65537 := fun x => ⟨Int.emod_nonneg x (by decide), Int.emod_lt_of_pos x (by decide)⟩
    refine ⟨_, rfl, a, ns.map V.int, rfl, .inl ((same_new nl).seq hS), ?_⟩
    rw [List.length_map]
    refine ⟨_, rfl, by omega, by omega, for_range (fun i σ H' => Iv (62 * i) σ H') ⟨7, [], none, none, none, none, rfl, same_new nl, upd_same, Nat.le_refl 0, by decide, by decide⟩ (fun i σ H1 hi h1 => ?_) (fun σ H1 h1 => ?_)⟩
    · obtain ⟨mixed, ds, y4, y5, y6, y7, rfl, g, el, dl, m0, m1⟩ := h1
      have hi2 : i < ns.length := by omega
      have hg : (ns.map V.int)[i]? = some (.int ns[i]) := by
        rw [List.getElem?_map, List.getElem?_eq_getElem hi2]
        rfl
      rw [Int.zero_add]
      refine ⟨_, rfl, _, rfl, a, _, _, _, rfl, rfl, g.seq hS, atI_nat (j := i) hg, .inl ⟨_, rfl, _, rfl, ?_⟩⟩
      generalize (if ns[i] < 0 then -ns[i] else ns[i]) = c
      refine ⟨_, rfl, _, _, rfl, rfl, .inl ⟨by omega, by omega⟩, _, rfl, _, _, rfl, rfl, (show (0 : Int) < 1000003 by decide), _, _, rfl, rfl, _, rfl, _, _, rfl, rfl, .inl ⟨_, rfl, _, _, rfl, rfl, (show (0 : Int) < 65537 by decide), ?_⟩⟩
      have mx := h65 (mixed * 48271 + c % 1000003 + ((i : Nat) : Int))
      -- behind the if: what the loop over 60 turns asks
      refine ⟨fun σ H2 => ∃ (ds : List Int) (rest : Int) (y7 : Option V), σ = [some (.ref a), some (.int ((m : Nat) : Int)), some (.ref l), some (.int ((mixed * 48271 + c % 1000003 + ((i : Nat) : Int)) % 65537)), some (.int ((i : Nat) : Int)), some (.int c), some (.int rest), y7] ∧ Same H H2 ∧ H2 l = some (.lst (ds.map V.int)) ∧ ds.length ≤ 62 * i + 2, ?_, ?_⟩
      · refine ⟨_, rfl, _, _, rfl, rfl, ⟨by decide, by decide, by decide⟩, _, _, rfl, rfl, _, rfl, ite2 (fun a1 => ?_) (fun a1 => ?_)⟩
        · exact ⟨_, rfl, ds, c, _, rfl, g, el, by omega⟩
        · refine ⟨_, rfl, .inl ⟨rfl, _, SqL.of el⟩, _, rfl, .inl ⟨_, rfl, _, _, rfl, rfl, (show (0 : Int) < 997 by decide), l, _, _, rfl, rfl, el, ?_, ?_⟩⟩
          · rw [List.length_map]
            omega
          · rw [ap_int]
            refine ⟨_, rfl, .inl ⟨rfl, _, SqL.of upd_same⟩, _, rfl, _, _, rfl, rfl, .inl ⟨by omega, by omega⟩, _, _, rfl, rfl, .inl ⟨_, rfl, _, _, rfl, rfl, (show (0 : Int) < 65521 by decide), _, _, rfl, rfl, (show (0 : Int) < 997 by decide), l, _, _, rfl, rfl, upd_same, ?_, ?_⟩⟩
            · rw [List.length_map, List.length_append]
              show ds.length + 1 < sizeLine
              omega
            · rw [ap_int]
              refine ⟨_, 0, _, rfl, same_put (same_put g nl) nl, upd_same, ?_⟩
              rw [List.length_append, List.length_append]
              show ds.length + 1 + 1 ≤ _
              omega
      · rintro σ H2 ⟨ds, rest, y7, rfl, g, el, dl⟩
        refine ⟨_, rfl, by decide, by decide, for_range (fun j σ H3 => ∃ (ds : List Int) (rest : Int) (y7 : Option V), σ = [some (.ref a), some (.int ((m : Nat) : Int)), some (.ref l), some (.int ((mixed * 48271 + c % 1000003 + ((i : Nat) : Int)) % 65537)), some (.int ((i : Nat) : Int)), some (.int c), some (.int rest), y7] ∧ Same H H3 ∧ H3 l = some (.lst (ds.map V.int)) ∧ ds.length ≤ 62 * i + 2 + j)
          ⟨ds, rest, y7, rfl, g, el, dl⟩ (fun j σ H3 hj h3 => ?_) (fun σ H3 h3 => ?_)⟩
        · obtain ⟨ds, rest, y7, rfl, g, el, dl⟩ := h3
          have hj2 : j < 60 := hj
          refine ⟨_, rfl, _, _, rfl, rfl, _, rfl, ite2 (fun a1 => ?_) (fun a1 => ?_)⟩
          · refine ⟨_, rfl, .inl ⟨rfl, _, SqL.of el⟩, _, rfl, .inl ⟨_, rfl, _, _, rfl, rfl, (show (0 : Int) < 997 by decide), l, _, _, rfl, rfl, el, ?_, ?_⟩⟩
            · rw [List.length_map]
              omega
            · rw [ap_int]
              refine ⟨_, rfl, _, _, rfl, rfl, ⟨by decide, by decide⟩, _, _, _, rfl, same_put g nl, upd_same, ?_⟩
              rw [List.length_append]
              show ds.length + 1 ≤ _
              omega
          · exact ⟨ds, rest, _, rfl, g, el, by omega⟩
        · obtain ⟨ds, rest, y7, rfl, g, el, dl⟩ := h3
          have dl2 : ds.length ≤ 62 * i + 2 + 60 := dl
          exact ⟨_, ds, _, _, _, _, rfl, g, el, by omega, mx.1, mx.2⟩
    · obtain ⟨mixed, ds, y4, y5, y6, y7, rfl, g, el, dl, m0, m1⟩ := h1
      have dl2 : ds.length ≤ 4000 := by omega
      refine ⟨_, rfl, _, rfl, by omega, by omega, for_range (fun j σ H2 => Iv (4000 + j) σ H2) ⟨mixed, ds, y4, y5, y6, y7, rfl, g, el, by omega, m0, m1⟩ (fun j σ H2 hj h2 => ?_) (fun σ H2 h2 => ?_)⟩
      · obtain ⟨mixed, ds, y4, y5, y6, y7, rfl, g, el, dl, m0, m1⟩ := h2
        have hj2 : j < m := by omega
        refine ⟨_, rfl, _, _, rfl, rfl, .inl ⟨by omega, by omega⟩, _, rfl, _, _, rfl, rfl, _, _, rfl, rfl, .inl ⟨_, rfl, _, _, rfl, rfl, (show (0 : Int) < 65537 by decide), ?_⟩⟩
        have mx := h65 (mixed * 16807 + (0 + ((j : Nat) : Int)) + 1)
        refine ⟨_, rfl, .inl ⟨rfl, _, SqL.of el⟩, _, rfl, .inl ⟨_, rfl, _, _, rfl, rfl, (show (0 : Int) < 997 by decide), l, _, _, rfl, rfl, el, ?_, ?_⟩⟩
        · rw [List.length_map]
          omega
        · rw [ap_int]
          refine ⟨_, _, _, _, _, _, rfl, same_put g nl, upd_same, ?_, mx.1, mx.2⟩
          rw [List.length_append]
          show ds.length + 1 ≤ _
          omega
      · obtain ⟨mixed, ds, y4, y5, y6, y7, rfl, g, el, dl, m0, m1⟩ := h2
        have dl3 : ds.length ≤ 5000 := by omega
        refine ⟨_, rfl, _, rfl, _, rfl, l, _, rfl, SqL.of el, fun p np => ?_⟩
        obtain ⟨es, e1, e2⟩ := cut_ints ds none (some ((m : Nat) : Int))
        rw [e1]
        exact q _ p es (fun b o e => same_new np b o (g b o e)) (g.free np) upd_same (by omega)
end
/-- the law's world: its draws and how many are taken -/
def wdL (l : Addr) (n : Int) : List (Key × V) := [(.inr ("draws" : Str), .ref l), (.inr ("at" : Str), .int n)]
theorem wd_draws (l : Addr) (n : Int) : valV (wdL l n) (.inr "draws") = some (.ref l) := valV_pos rfl
theorem wd_at (l : Addr) (n : Int) : valV (wdL l n) (.inr "at") = some (.int n) := (valV_neg (show ¬ (Sum.inr ("draws" : Str) : Key) = Sum.inr ("at" : Str) by decide)).trans (valV_pos rfl)
theorem wd_put (l : Addr) (n k : Int) : putK (wdL l n) (.inr ("at" : Str)) (.int k) = wdL l k := by
  have h1 : ¬ (Sum.inr ("draws" : Str) : Key) = Sum.inr ("at" : Str) := by decide
  unfold putK wdL
  simp [h1]
theorem get_draws {H : Hp} {a l : Addr} {n : Int} (h : H a = some (.dK (wdL l n))) : DGet H a (.str "draws") (some (.ref l)) := by
  have g := DGet.k (k := .inr "draws") h
  rw [wd_draws] at g
  exact g
theorem get_at {H : Hp} {a l : Addr} {n : Int} (h : H a = some (.dK (wdL l n))) : DGet H a (.str "at") (some (.int n)) := by
  have g := DGet.k (k := .inr "at") h
  rw [wd_at] at g
  exact g
theorem put_at {H : Hp} {a l : Addr} {n k : Int} (h : H a = some (.dK (wdL l n))) : DPut H a (.str "at") (.int k) (upd H a (.dK (wdL l k))) := by
  have g := DPut.k (k := .inr "at") (v := .int k) h (by rw [sizeLine_eq]; exact (by decide : 2 < 16777216))
  rw [wd_put] at g
  exact g
structure Wd (H : Hp) (a l : Addr) (ds : List Int) : Prop where
  at' : ∃ n : Int, 0 ≤ n ∧ H a = some (.dK (wdL l n))
  dr : H l = some (.lst (ds.map V.int))
  len : ds.length ≤ 10000
/-- all but the world at a is as it was -/
def Kp (a : Addr) (H H' : Hp) : Prop := ∀ b o, b ≠ a → H b = some o → H' b = some o
section
variable {a l : Addr} {ds : List Int} {H H1 H2 : Hp}
theorem Kp.refl (H : Hp) : Kp a H H := fun _ _ _ e => e
theorem Kp.trans (x : Kp a H H1) (y : Kp a H1 H2) : Kp a H H2 := fun b o n e => y b o n (x b o n e)
theorem Wd.ne (W : Wd H a l ds) : l ≠ a := by
  obtain ⟨n, _, e⟩ := W.at'
  exact ne_of W.dr e (by intro z; cases z)
theorem Kp.new {p : Addr} {o : HO} (n : H p = none) : Kp a H (upd H p o) := fun b u _ e => by
  rw [upd_ne (ne_of_none e n)]
  exact e
theorem Wd.new (W : Wd H a l ds) {p : Addr} {o : HO} (n : H p = none) : Wd (upd H p o) a l ds := by
  obtain ⟨k, k0, e⟩ := W.at'
  refine ⟨⟨k, k0, ?_⟩, ?_, W.len⟩
  · rw [upd_ne (ne_of_none e n)]
    exact e
  · rw [upd_ne (ne_of_none W.dr n)]
    exact W.dr
theorem Kp.step {o : HO} : Kp a H (upd H a o) := fun b u n e => by
  rw [upd_ne n]
  exact e
theorem Wd.step (W : Wd H a l ds) {n : Int} (h : 0 ≤ n) : Wd (upd H a (.dK (wdL l n))) a l ds := by
  refine ⟨⟨n, h, upd_same⟩, ?_, W.len⟩
  rw [upd_ne W.ne]
  exact W.dr
theorem Wd.fresh (W : Wd H a l ds) {p : Addr} (n : H p = none) : p ≠ a := fun z => by
  obtain ⟨k, _, e⟩ := W.at'
  rw [z, e] at n
  cases n
end
section
variable {P : Program} {w : World} {K : PySem.W.Frag} {mg : Str → Option Value} {base : Heap}
def spNext : Sp := fun vs H Q _ => ∃ (a l : Addr) (ds : List Int) (m : Int), vs = [.ref a, .int m] ∧ 0 < m ∧ Wd H a l ds ∧ ∀ (r : Nat) H', ((r : Nat) : Int) < m → Kp a H H' → (∀ b, b ≠ a → H' b = H b) → Wd H' a l ds → Q (.int ((r : Nat) : Int)) H'
theorem ok_next {f : Addr} {fd : FuncData} (F : Fun K "_law_next" "_law_next" sNext f fd) (B : Bl mg) : FnOk P w K mg base CX0 1 f fd ["w", "many"] spNext := by
  refine F.ok scNext (fun vs H Q E h => ?_) (fun cdv A outer s H vs Q E hr h => ?_)
  · obtain ⟨a, l, ds, m, rfl, _⟩ := h
    rfl
  · obtain ⟨a, l, ds, m, rfl, hm, W, q⟩ := h
    have hu := hu_of hr
    refine ⟨_, pss_cons (ps_daug hu (pv 0) pe_str pe_int in_add (fun _ _ _ => rfl))
      (pss_cons (ps_if (pt_cmpR op_gt (pe_dget hu (pv 0) pe_str (fun _ _ => rfl)) (pe_callB call_len_seq (by rfl) B.len PySem.boot_len (pa_cons (pe_dget hu (pv 0) pe_str (fun _ _ => rfl)) pa_nil)) (nomark _)) (pss_one (ps_ret pe_int)) pss_nil)
      (pss_one (ps_ret (pe_op op_mod (pe_callTy call_int1 (by rfl) B.int (by decide +kernel) (pa_cons (pe_ix ix_list (pe_dget hu (pv 0) pe_str (fun _ _ => rfl)) (pe_op op_sub (pe_dget hu (pv 0) pe_str (fun _ _ => rfl)) pe_int) (fun _ _ => rfl)) pa_nil)) (pv 1))))), ?_⟩
    obtain ⟨n, n0, e⟩ := W.at'
    refine ⟨_, rfl, a, _, rfl, get_at e, _, _, rfl, rfl, _, put_at e, ?_⟩
    have W1 : Wd (upd H a (.dK (wdL l (n + 1)))) a l ds := W.step (by omega)
    have e1 : (upd H a (.dK (wdL l (n + 1)))) a = some (.dK (wdL l (n + 1))) := upd_same
    refine ⟨_, rfl, a, _, rfl, get_at e1, _, rfl, a, _, rfl, get_draws e1, l, _, rfl, .inl (SqL.of W1.dr), _, _, rfl, rfl, _, rfl, ite2 (fun a1 => ?_) (fun a1 => ?_)⟩
    · exact q 0 _ hm Kp.step (fun b hb => upd_ne hb) W1
    · have b1 : ¬ ((ds.map V.int).length : Int) < n + 1 := fun z => a1 (decide_eq_true z)
      rw [List.length_map] at b1
      obtain ⟨j, ej⟩ : ∃ j : Nat, n + 1 - 1 = ((j : Nat) : Int) := ⟨n.toNat, by omega⟩
      have hj : j < ds.length := by omega
      have hg : (ds.map V.int)[j]? = some (.int ds[j]) := by
        rw [List.getElem?_map, List.getElem?_eq_getElem hj]
        rfl
      refine ⟨_, rfl, a, _, rfl, get_draws e1, _, rfl, a, _, rfl, get_at e1, _, _, rfl, rfl, l, _, _, .int ds[j], rfl, rfl, SqL.of W1.dr, ?_, .inl ⟨_, rfl, _, rfl, _, _, rfl, rfl, hm, ?_⟩⟩
      · rw [ej]
        exact atI_nat (j := j) hg
      · have z0 := Int.emod_nonneg ds[j] (show m ≠ 0 by omega)
        have z1 := Int.emod_lt_of_pos ds[j] hm
        obtain ⟨r, er⟩ : ∃ r : Nat, ds[j] % m = ((r : Nat) : Int) := ⟨(ds[j] % m).toNat, by omega⟩
        show Q (.int (ds[j] % m)) _
        rw [er]
        exact q r _ (by omega) Kp.step (fun b hb => upd_ne hb) W1
end
/-! data without lists: it stays where tuples stay -/
mutual
def noL : PyData → Bool
  | .list _ => false
  | .dict _ => false
  | .tuple ds => noLs ds
  | _ => true
def noLs : List PyData → Bool
  | [] => true
  | d :: ds => noL d && noLs ds
end
mutual
theorem dp_stay {K : PySem.W.Frag} {H H' : Hp} (st : ∀ a xs, SqT K H a xs → SqT K H' a xs) : ∀ (d : PyData) (v : V), Dp K H v d → noL d = true → Dp K H' v d
  | .none, _, h, _ => by cases h; exact .non
  | .bool _, _, h, _ => by cases h; exact .bl _
  | .int _, _, h, _ => by cases h; exact .int _
  | .str _, _, h, _ => by cases h; exact .str _
  | .list _, _, _, n => by cases n
  | .dict _, _, _, n => by cases n
  | .tuple ds, _, h, n => by
    cases h with
    | tup s a => exact .tup (st _ _ s) (dps_stay st ds _ a n)
theorem dps_stay {K : PySem.W.Frag} {H H' : Hp} (st : ∀ a xs, SqT K H a xs → SqT K H' a xs) : ∀ (ds : List PyData) (vs : List V), DpAll K H vs ds → noLs ds = true → DpAll K H' vs ds
  | [], _, h, _ => by cases h; exact .nil
  | d :: ds, _, h, n => by
    cases h with
    | cons a b =>
      have n2 : (noL d && noLs ds) = true := n
      rw [Bool.and_eq_true] at n2
      exact .cons (dp_stay st d _ a n2.1) (dps_stay st ds _ b n2.2)
end
theorem noLs_app : ∀ (a b : List PyData), noLs (a ++ b) = (noLs a && noLs b)
  | [], b => rfl
  | d :: a, b => by
    show (noL d && noLs (a ++ b)) = ((noL d && noLs a) && noLs b)
    rw [noLs_app a b, Bool.and_assoc]
theorem dps_app {K : PySem.W.Frag} {H : Hp} : ∀ {vs : List V} {ds : List PyData} {us : List V} {es : List PyData}, DpAll K H vs ds → DpAll K H us es → DpAll K H (vs ++ us) (ds ++ es)
  | _, _, _, _, .nil, h => h
  | _, _, _, _, .cons a b, h => .cons a (dps_app b h)
theorem dps_len {K : PySem.W.Frag} {H : Hp} : ∀ {vs : List V} {ds : List PyData}, DpAll K H vs ds → vs.length = ds.length
  | _, _, .nil => rfl
  | _, _, .cons _ b => by rw [List.length_cons, List.length_cons, dps_len b]
/-- a new object at p, the list at l grown: tuples stay -/
theorem tups_upd {K : PySem.W.Frag} {H : Hp} {l : Addr} {xs : List V} {o : HO} (e : H l = some (.lst xs)) : ∀ a ys, SqT K H a ys → SqT K (upd H l o) a ys := fun a ys h => by
  rcases h with (h | ⟨u, h⟩) | h
  · refine .inl (.inl ?_)
    rw [upd_ne (ne_of h e (by intro z; cases z))]
    exact h
  · refine .inl (.inr ⟨u, ?_⟩)
    rw [upd_ne (ne_of h e (by intro z; cases z))]
    exact h
  · exact .inr h
end C1

/-! Circuits as drawn: the data, what stands of them, small rules. -/
namespace C1
open PySem PySem.Spec PyProof.Rows L2 SX
theorem dps_get {K : PySem.W.Frag} {H : Hp} : ∀ {vs : List V} {ds : List PyData} {i : Nat} {x : V}, DpAll K H vs ds → vs[i]? = some x → ∃ d, ds[i]? = some d ∧ Dp K H x d
  | _, _, _, _, .nil, h => by simp at h
  | _, _, 0, _, .cons a _, h => by
    have e := Option.some.inj h
    subst e
    exact ⟨_, rfl, a⟩
  | _, _, i + 1, _, .cons _ b, h => dps_get (i := i) b h
def LayAll (F : List PyData) : Prop := ∀ d ∈ F, PyData.canLay0 d = true ∧ PyData.depth d ≤ 5
theorem shaped_list : ∀ (F : List PyData), LayAll F → SeqAt.shaped (.list F) = true := by
  have h1 : ∀ F : List PyData, LayAll F → PyData.canLayAll0 F = true ∧ PyData.depthAll F ≤ 5 := by
    intro F
    induction F with
    | nil => exact fun _ => ⟨rfl, Nat.zero_le _⟩
    | cons d F ih =>
      intro h
      obtain ⟨a, b⟩ := ih fun x hx => h x (List.mem_cons_of_mem _ hx)
      obtain ⟨c, e⟩ := h d (List.mem_cons_self ..)
      refine ⟨?_, ?_⟩
      · show (PyData.canLay0 d && PyData.canLayAll0 F) = true
        rw [c, a]
        rfl
      · show max (PyData.depth d) (PyData.depthAll F) ≤ 5
        exact Nat.max_le.mpr ⟨e, b⟩
  intro F h
  obtain ⟨a, b⟩ := h1 F h
  unfold SeqAt.shaped
  rw [Bool.and_eq_true]
  refine ⟨a, decide_eq_true ?_⟩
  show PyData.depthAll F + 1 ≤ 64
  omega
/-! ### numbers -/
abbrev iV (k : Nat) : V := .int ((k : Nat) : Int)
abbrev iD (k : Nat) : PyData := .int ((k : Nat) : Int)
def pr (p : Nat × Nat) : PyData := .tuple [iD p.1, iD p.2]
inductive Row
  | lit (v w : Nat) | reg (i : Nat) | look (m a : Nat) | inv (a : Nat) | wide (a w : Nat) | part (a lo hi : Nat) | join (a b : Nat) | op (s : Str) (a b : Nat) | pick (t a b : Nat)
def Row.d : Row → PyData
  | .lit v w => .tuple [.str "lit", iD v, iD w]
  | .reg i => .tuple [.str "reg", iD i]
  | .look m a => .tuple [.str "look", iD m, iD a]
  | .inv a => .tuple [.str "not", iD a]
  | .wide a w => .tuple [.str "wide", iD a, iD w]
  | .part a lo hi => .tuple [.str "part", iD a, iD lo, iD hi]
  | .join a b => .tuple [.str "join", iD a, iD b]
  | .op s a b => .tuple [.str "op", .str s, iD a, iD b]
  | .pick t a b => .tuple [.str "pick", iD t, iD a, iD b]
def arithL : List Str := ["+", "-", "*", "&", "|", "^"]
def testL : List Str := ["==", "<"]
def shiftL : List Str := ["<<", ">>"]
/-- what the law draws: a row behind rows of these widths, and its width -/
inductive RowOk (regs mems : List (Nat × Nat)) (ws : List Nat) : Row → Nat → Prop
  | lit {v w : Nat} : v < 2 ^ w → RowOk regs mems ws (.lit v w) w
  | reg {i w f : Nat} : regs[i]? = some (w, f) → RowOk regs mems ws (.reg i) w
  | look {m a b w : Nat} : mems[m]? = some (b, w) → ws[a]? = some b → RowOk regs mems ws (.look m a) w
  | inv {a w : Nat} : ws[a]? = some w → RowOk regs mems ws (.inv a) w
  | wide {a x w : Nat} : ws[a]? = some x → RowOk regs mems ws (.wide a w) w
  | part {a x lo hi : Nat} : ws[a]? = some x → lo ≤ hi → hi < x → RowOk regs mems ws (.part a lo hi) (hi - lo + 1)
  | join {a b x y : Nat} : ws[a]? = some x → ws[b]? = some y → RowOk regs mems ws (.join a b) (x + y)
  | shift {s : Str} {a b x y : Nat} : s ∈ shiftL → ws[a]? = some x → ws[b]? = some y → RowOk regs mems ws (.op s a b) x
  | arith {s : Str} {a b x : Nat} : s ∈ arithL → ws[a]? = some x → ws[b]? = some x → RowOk regs mems ws (.op s a b) x
  | test {s : Str} {a b x : Nat} : s ∈ testL → ws[a]? = some x → ws[b]? = some x → RowOk regs mems ws (.op s a b) 1
  | pick {t a b x : Nat} : ws[t]? = some 1 → ws[a]? = some x → ws[b]? = some x → RowOk regs mems ws (.pick t a b) x
def RegsOk (regs : List (Nat × Nat)) : Prop := ∀ p ∈ regs, 1 ≤ p.1 ∧ p.1 ≤ 5 ∧ p.2 < 2 ^ p.1
def MemsOk (mems : List (Nat × Nat)) : Prop := ∀ p ∈ mems, 1 ≤ p.1 ∧ p.1 ≤ 2 ∧ 1 ≤ p.2 ∧ p.2 ≤ 4
def WsOk (ws : List Nat) : Prop := ∀ x ∈ ws, 1 ≤ x ∧ x ≤ 12
/-! ### rows that fit some test, by their places -/
def fits (ws : List Nat) (x : Nat) (n : Nat) : List Nat := (List.range n).filter fun k => decide (ws[k]? = some x)
theorem fits_zero (ws : List Nat) (x : Nat) : fits ws x 0 = [] := rfl
theorem fits_yes {ws : List Nat} {x i : Nat} (h : ws[i]? = some x) : fits ws x (i + 1) = fits ws x i ++ [i] := by
  unfold fits
  rw [List.range_succ, List.filter_append, List.filter_cons_of_pos (by simp [h])]
  rfl
theorem fits_no {ws : List Nat} {x i : Nat} (h : ¬ ws[i]? = some x) : fits ws x (i + 1) = fits ws x i := by
  unfold fits
  rw [List.range_succ, List.filter_append, List.filter_cons_of_neg (by simp [h])]
  simp
theorem fits_len (ws : List Nat) (x n : Nat) : (fits ws x n).length ≤ n := by
  unfold fits
  exact Nat.le_trans (List.length_filter_le _ _) (by rw [List.length_range]; exact Nat.le_refl n)
theorem fits_mem {ws : List Nat} {x n k : Nat} : k ∈ fits ws x n ↔ k < n ∧ ws[k]? = some x := by
  unfold fits
  rw [List.mem_filter, List.mem_range]
  simp
theorem fits_at {ws : List Nat} {x n r k : Nat} (h : (fits ws x n)[r]? = some k) : k < n ∧ ws[k]? = some x := fits_mem.mp (List.mem_of_getElem? h)
/-! ### data -/
theorem cL_int : ∀ ks : List Nat, LayAll (ks.map iD) := fun ks d h => by
  obtain ⟨k, _, e⟩ := List.mem_map.mp h
  subst e
  exact ⟨rfl, Nat.zero_le _⟩
theorem cL_pr : ∀ ps : List (Nat × Nat), LayAll (ps.map pr) := fun ps d h => by
  obtain ⟨⟨x, y⟩, _, e⟩ := List.mem_map.mp h
  subst e
  refine ⟨rfl, ?_⟩
  unfold pr
  simp [PyData.depth, PyData.depthAll]
theorem eqv_nil (xs : List PyData) : PyData.eqv (.list xs) (.list []) = xs.isEmpty := by
  cases xs with
  | nil => rfl
  | cons x r => rfl
theorem dps_ints {K : PySem.W.Frag} {H : Hp} : ∀ ks : List Nat, DpAll K H (ks.map iV) (ks.map iD)
  | [] => .nil
  | k :: ks => .cons (.int _) (dps_ints ks)
theorem dps_put {K : PySem.W.Frag} {H : Hp} : ∀ {vs : List V} {ds : List PyData} {i : Nat} {d : PyData}, DpAll K H vs ds → ds[i]? = some d → ∃ x, vs[i]? = some x ∧ Dp K H x d
  | _, _, _, _, .nil, h => by simp at h
  | _, _, 0, _, .cons a _, h => by
    have e := Option.some.inj h
    subst e
    exact ⟨_, rfl, a⟩
  | _, _, i + 1, _, .cons _ b, h => dps_put (i := i) b h
theorem pr_at {K : PySem.W.Frag} {H : Hp} {vs : List V} {ps : List (Nat × Nat)} {i : Nat} {p : Nat × Nat} (h : DpAll K H vs (ps.map pr)) (e : ps[i]? = some p) : ∃ b, vs[i]? = some (.ref b) ∧ SqT K H b [iV p.1, iV p.2] := by
  obtain ⟨x, hx, hd⟩ := dps_put h (show (ps.map pr)[i]? = some (pr p) by rw [List.getElem?_map, e]; rfl)
  unfold pr at hd
  cases hd with
  | tup s a =>
    cases a with
    | cons a1 a =>
      cases a with
      | cons a2 a =>
        cases a
        cases a1
        cases a2
        exact ⟨_, hx, s⟩
theorem noLs_pr : ∀ ps : List (Nat × Nat), noLs (ps.map pr) = true
  | [] => rfl
  | p :: ps => by
    show (noL (pr p) && noLs (ps.map pr)) = true
    rw [noLs_pr ps]
    rfl
theorem int_at {ks : List Nat} {i k : Nat} (h : ks[i]? = some k) : (ks.map iV)[i]? = some (iV k) := by
  rw [List.getElem?_map, h]
  rfl
/-- tuples stay where all but the dict at a stays -/
theorem kp_tup {K : PySem.W.Frag} {a : Addr} {H H' : Hp} {kvs : List (Key × V)} (e : H a = some (.dK kvs)) (k : Kp a H H') : ∀ b xs, SqT K H b xs → SqT K H' b xs := fun b xs h => by
  have ne : ∀ {o : HO}, H b = some o → (∀ k2, o ≠ .dK k2) → b ≠ a := fun h1 h2 z => by
    subst z
    rw [e] at h1
    cases h1
    exact h2 _ rfl
  rcases h with (h | ⟨u, h⟩) | h
  · exact .inl (.inl (k b _ (ne h (by intro _ z; cases z)) h))
  · exact .inl (.inr ⟨u, k b _ (ne h (by intro _ z; cases z)) h⟩)
  · exact .inr h
def cdL (rl ml : Addr) : List (Key × V) := [(.inr ("registers" : Str), .ref rl), (.inr ("memories" : Str), .ref ml)]
structure CD (K : PySem.W.Frag) (H : Hp) (c rl ml : Addr) (regs mems : List (Nat × Nat)) : Prop where
  c0 : H c = some (.dK (cdL rl ml))
  r0 : ∃ rvs, H rl = some (.lst rvs) ∧ DpAll K H rvs (regs.map pr)
  m0 : ∃ mvs, H ml = some (.lst mvs) ∧ DpAll K H mvs (mems.map pr)
theorem wd_ne {H : Hp} {a l c rl ml : Addr} {ds : List Int} (W : Wd H a l ds) (h : H c = some (.dK (cdL rl ml))) : c ≠ a := fun z => by
  obtain ⟨n, _, e⟩ := W.at'
  subst z
  rw [e] at h
  have h2 := Option.some.inj h
  unfold wdL cdL at h2
  injection h2 with h3
  injection h3 with h4 h5
  injection h4 with h6 h7
  injection h6 with h8
  revert h8
  decide
theorem wd_lne {H : Hp} {a l b : Addr} {ds : List Int} {xs : List V} (W : Wd H a l ds) (h : H b = some (.lst xs)) : b ≠ a := fun z => by
  obtain ⟨n, _, e⟩ := W.at'
  subst z
  rw [e] at h
  cases h
theorem CD.kp {K : PySem.W.Frag} {H H' : Hp} {a l c rl ml : Addr} {ds : List Int} {regs mems : List (Nat × Nat)} (C : CD K H c rl ml regs mems) (W : Wd H a l ds) (k : Kp a H H') : CD K H' c rl ml regs mems := by
  obtain ⟨n, _, e⟩ := W.at'
  obtain ⟨rvs, r1, r2⟩ := C.r0
  obtain ⟨mvs, m1, m2⟩ := C.m0
  exact ⟨k c _ (wd_ne W C.c0) C.c0, ⟨rvs, k rl _ (wd_lne W r1) r1, dps_stay (kp_tup e k) _ _ r2 (noLs_pr _)⟩, ⟨mvs, k ml _ (wd_lne W m1) m1, dps_stay (kp_tup e k) _ _ m2 (noLs_pr _)⟩⟩
theorem cd_regs {H : Hp} {c rl ml : Addr} (h : H c = some (.dK (cdL rl ml))) : DGet H c (.str "registers") (some (.ref rl)) := by
  have g := DGet.k (k := .inr "registers") h
  rw [show valV (cdL rl ml) (.inr "registers") = some (.ref rl) from valV_pos rfl] at g
  exact g
theorem cd_mems {H : Hp} {c rl ml : Addr} (h : H c = some (.dK (cdL rl ml))) : DGet H c (.str "memories") (some (.ref ml)) := by
  have g := DGet.k (k := .inr "memories") h
  rw [show valV (cdL rl ml) (.inr "memories") = some (.ref ml) from (valV_neg (show ¬ (Sum.inr ("registers" : Str) : Key) = Sum.inr ("memories" : Str) by decide)).trans (valV_pos rfl)] at g
  exact g
end C1

/-! The law's row. -/
namespace C1
open PySem PySem.Spec PyProof.Rows L2 SX
abbrev NR : List Str := ["w", "c", "widths", "turn", "width", "at", "a", "fitting", "low", "high", "b", "same", "tests", "sign", "m", "k"]
theorem scRow : FnScope NR ["w", "c", "widths"] (defScope sRow) := ⟨rfl, rfl, rfl, by decide +kernel, rfl, by decide +kernel, by decide +kernel⟩
section
variable {P : Program} {w : World} {K : PySem.W.Frag} {mg : Str → Option Value} {base : Heap}
def spRow (K : PySem.W.Frag) : Sp := fun vs H Q _ => ∃ (a l c rl ml wl : Addr) (ds : List Int) (regs mems : List (Nat × Nat)) (ws : List Nat), vs = [.ref a, .ref c, .ref wl] ∧ Wd H a l ds ∧ CD K H c rl ml regs mems ∧ H wl = some (.lst (ws.map iV)) ∧
  RegsOk regs ∧ MemsOk mems ∧ WsOk ws ∧ regs.length ≤ 10 ∧ mems.length ≤ 10 ∧ ws.length ≤ 100 ∧
  ∀ (H' : Hp) (p q : Addr) (row : Row) (wd : Nat), Kp a H H' → Wd H' a l ds → H' p = some (.tup [.ref q, iV wd]) → Dp K H' (.ref q) row.d → RowOk regs mems ws row wd → 1 ≤ wd → wd ≤ 12 → Q (.ref p) H'
theorem ok_row {f fN : Addr} {fd fdN : FuncData} (F : Fun K "_law_row" "_law_row" sRow f fd) (GN : FnOk P w K mg base CX0 1 fN fdN ["w", "many"] spNext) (kN : PySem.W.keepIn K (.ref fN) = true) (bN : Binds K fdN ["w", "many"] []) (gN : mg "_law_next" = some (.ref fN)) (B : Bl mg) :
    FnOk P w K mg base CX0 2 f fd ["w", "c", "widths"] (spRow K) := by
  refine F.ok scRow (fun vs H Q E h => ?_) (fun cdv A outer s H vs Q E hr h => ?_)
  · obtain ⟨a, l, c, rl, ml, wl, ds, regs, mems, ws, rfl, _⟩ := h
    rfl
  · obtain ⟨a, l, c, rl, ml, wl, ds, regs, mems, ws, rfl, W, C, hwl, hR, hM, hW, lr, lm, lw, q⟩ := h
    have nd := scRow.nd
    have hu := hr.units
    have hud := hu_of hr
    refine ⟨_, (pss_cons (ps_set (i := 3) nd rfl (.inl rfl) (pe_call GN hr (by rfl) gN kN bN .nil pass0 (pa_cons (pv 0) (pa_cons (pe_int) pa_nil))))
      (pss_cons (ps_if (PW.pt (pw_or (pt_cmpR (op_eqD hu) (pv 2) (pe_lst pa_nil) (nomark _)) (pw_or1 (pt_cmpR op_eq (pv 3) (pe_int) (nomark _))))) (pss_cons (ps_set (i := 4) nd rfl (.inl rfl) (pe_op op_add (pe_int) (pe_call GN hr (by rfl) gN kN bN .nil pass0 (pa_cons (pv 0) (pa_cons (pe_int) pa_nil)))))
      (pss_one (ps_ret (pe_tup (pa_cons (pe_tup (pa_cons (pe_str) (pa_cons (pe_op op_mod (pe_call GN hr (by rfl) gN kN bN .nil pass0 (pa_cons (pv 0) (pa_cons (pe_int) pa_nil))) (pe_op op_shl pe_int (pv 4))) (pa_cons (pv 4) pa_nil)))) (pa_cons (pv 4) pa_nil)))))) pss_nil)
      (C8.pss_cut (ps_if (PW.pt (pw_and (pt_cmpR op_lt (pv 3) (pe_int) (nomark _)) (pw_and1 (pt_cmpR (op_neD hu) (pe_dget hud (pv 1) pe_str (fun _ _ => rfl)) (pe_lst pa_nil) (nomark _))))) (pss_cons (ps_set (i := 5) nd rfl (.inl rfl) (pe_call GN hr (by rfl) gN kN bN .nil pass0 (pa_cons (pv 0) (pa_cons (pe_callB call_len_seq (by rfl) B.len PySem.boot_len (pa_cons (pe_dget hud (pv 1) pe_str (fun _ _ => rfl)) pa_nil)) pa_nil))))
      (pss_one (ps_ret (pe_tup (pa_cons (pe_tup (pa_cons (pe_str) (pa_cons (pv 5) pa_nil))) (pa_cons (pe_ix ix_tup (pe_ix ix_list (pe_dget hud (pv 1) pe_str (fun _ _ => rfl)) (pv 5) (fun _ _ => rfl)) (pe_int) (fun _ _ => rfl)) pa_nil)))))) pss_nil)
      (pss_cons (ps_set (i := 6) nd rfl (.inr rfl) (pe_call GN hr (by rfl) gN kN bN .nil pass0 (pa_cons (pv 0) (pa_cons (pe_callB call_len_seq (by rfl) B.len PySem.boot_len (pa_cons (pv 2) pa_nil)) pa_nil))))
      (C8.pss_cut (ps_if (pt_cmpR op_eq (pv 3) (pe_int) (nomark _)) (pss_cons (ps_setLc (i := 7) (own := [("m", 14)]) (g := gName 14) (tt := tTest (tOp rEq (tOp (rIxT K) (tOp (rIxL K) (tDGet (tVar 1) (tC (.str "memories"))) (tVar 14)) (tC (.int 0))) (tOp (rIxL K) (tVar 2) (tVar 6)))) rfl nd rfl rfl (sw_true rfl rfl rfl (by decide +kernel)) (pi_range1 (by rfl) B.range (pa_cons (pe_callB call_len_seq (by rfl) B.len PySem.boot_len (pa_cons (pe_dget hud (pv 1) pe_str (fun _ _ => rfl)) pa_nil)) pa_nil)) (blkOk_by (N := NR) (sc := defScope sRow) (by decide +kernel)) (fun _ _ _ _ _ => pg_name (i := 14) nd rfl (.inl rfl)) (fun _ _ _ _ _ => pts_one (pt_cmpR op_eq (pe_ix ix_tup (pe_ix ix_list (pe_dget hud (pv 1) pe_str (fun _ _ => rfl)) (pv 14) (fun _ _ => rfl)) (pe_int) (fun _ _ => rfl)) (pe_ix ix_list (pv 2) (pv 6) (fun _ _ => rfl)) (nomark _))) (fun _ _ _ _ _ => pv 14))
      (pss_one (ps_if (pt_cmpR (op_neD hu) (pv 7) (pe_lst pa_nil) (nomark _)) (pss_one (ps_ret (pe_tup (pa_cons (pe_tup (pa_cons (pe_str) (pa_cons (pe_ix ix_list (pv 7) (pe_int) (fun _ _ => rfl)) (pa_cons (pv 6) pa_nil)))) (pa_cons (pe_ix ix_tup (pe_ix ix_list (pe_dget hud (pv 1) pe_str (fun _ _ => rfl)) (pe_ix ix_list (pv 7) (pe_int) (fun _ _ => rfl)) (fun _ _ => rfl)) (pe_int) (fun _ _ => rfl)) pa_nil))))) pss_nil))) pss_nil)
      (pss_cons (ps_if (pt_cmpR op_eq (pv 3) (pe_int) (nomark _)) (pss_one (ps_ret (pe_tup (pa_cons (pe_tup (pa_cons (pe_str) (pa_cons (pv 6) pa_nil))) (pa_cons (pe_ix ix_list (pv 2) (pv 6) (fun _ _ => rfl)) pa_nil))))) pss_nil)
      (pss_cons (ps_if (pt_cmpR op_eq (pv 3) (pe_int) (nomark _)) (pss_cons (ps_set (i := 4) nd rfl (.inl rfl) (pe_op op_add (pe_int) (pe_call GN hr (by rfl) gN kN bN .nil pass0 (pa_cons (pv 0) (pa_cons (pe_int) pa_nil)))))
      (pss_one (ps_ret (pe_tup (pa_cons (pe_tup (pa_cons (pe_str) (pa_cons (pv 6) (pa_cons (pv 4) pa_nil)))) (pa_cons (pv 4) pa_nil)))))) pss_nil)
      (pss_cons (ps_if (pt_cmpR op_eq (pv 3) (pe_int) (nomark _)) (pss_cons (ps_set (i := 8) nd rfl (.inl rfl) (pe_call GN hr (by rfl) gN kN bN .nil pass0 (pa_cons (pv 0) (pa_cons (pe_ix ix_list (pv 2) (pv 6) (fun _ _ => rfl)) pa_nil))))
      (pss_cons (ps_set (i := 9) nd rfl (.inl rfl) (pe_op op_add (pv 8) (pe_call GN hr (by rfl) gN kN bN .nil pass0 (pa_cons (pv 0) (pa_cons (pe_op op_sub (pe_ix ix_list (pv 2) (pv 6) (fun _ _ => rfl)) (pv 8)) pa_nil)))))
      (pss_one (ps_ret (pe_tup (pa_cons (pe_tup (pa_cons (pe_str) (pa_cons (pv 6) (pa_cons (pv 8) (pa_cons (pv 9) pa_nil))))) (pa_cons (pe_op op_add (pe_op op_sub (pv 9) (pv 8)) (pe_int)) pa_nil))))))) pss_nil)
      (pss_cons (ps_set (i := 10) nd rfl (.inl rfl) (pe_call GN hr (by rfl) gN kN bN .nil pass0 (pa_cons (pv 0) (pa_cons (pe_callB call_len_seq (by rfl) B.len PySem.boot_len (pa_cons (pv 2) pa_nil)) pa_nil))))
      (C8.pss_cut (ps_if (PW.pt (pw_and (pt_cmpR op_eq (pv 3) (pe_int) (nomark _)) (pw_and1 (pt_cmpR op_lt (pe_op op_add (pe_ix ix_list (pv 2) (pv 6) (fun _ _ => rfl)) (pe_ix ix_list (pv 2) (pv 10) (fun _ _ => rfl))) (pe_int) (nomark _))))) (pss_one (ps_ret (pe_tup (pa_cons (pe_tup (pa_cons (pe_str) (pa_cons (pv 6) (pa_cons (pv 10) pa_nil)))) (pa_cons (pe_op op_add (pe_ix ix_list (pv 2) (pv 6) (fun _ _ => rfl)) (pe_ix ix_list (pv 2) (pv 10) (fun _ _ => rfl))) pa_nil))))) pss_nil)
      (pss_cons (ps_if (pt_cmpR op_eq (pv 3) (pe_int) (nomark _)) (pss_one (ps_ret (pe_tup (pa_cons (pe_tup (pa_cons (pe_str) (pa_cons (pe_ix ix_list (pe_lst (pa_cons (pe_str) (pa_cons (pe_str) pa_nil))) (pe_call GN hr (by rfl) gN kN bN .nil pass0 (pa_cons (pv 0) (pa_cons (pe_int) pa_nil))) (fun _ _ => rfl)) (pa_cons (pv 6) (pa_cons (pv 10) pa_nil))))) (pa_cons (pe_ix ix_list (pv 2) (pv 6) (fun _ _ => rfl)) pa_nil))))) pss_nil)
      (pss_cons (ps_setLc (i := 11) (own := [("k", 15)]) (g := gName 15) (tt := tTest (tOp rEq (tOp (rIxL K) (tVar 2) (tVar 15)) (tOp (rIxL K) (tVar 2) (tVar 6)))) rfl nd rfl rfl (sw_true rfl rfl rfl (by decide +kernel)) (pi_range1 (by rfl) B.range (pa_cons (pe_callB call_len_seq (by rfl) B.len PySem.boot_len (pa_cons (pv 2) pa_nil)) pa_nil)) (blkOk_by (N := NR) (sc := defScope sRow) (by decide +kernel)) (fun _ _ _ _ _ => pg_name (i := 15) nd rfl (.inl rfl)) (fun _ _ _ _ _ => pts_one (pt_cmpR op_eq (pe_ix ix_list (pv 2) (pv 15) (fun _ _ => rfl)) (pe_ix ix_list (pv 2) (pv 6) (fun _ _ => rfl)) (nomark _))) (fun _ _ _ _ _ => pv 15))
      (pss_cons (ps_set (i := 10) nd rfl (.inl rfl) (pe_ix ix_list (pv 11) (pe_call GN hr (by rfl) gN kN bN .nil pass0 (pa_cons (pv 0) (pa_cons (pe_callB call_len_seq (by rfl) B.len PySem.boot_len (pa_cons (pv 11) pa_nil)) pa_nil))) (fun _ _ => rfl)))
      (pss_cons (ps_setLc (i := 12) (own := [("k", 15)]) (g := gName 15) (tt := tTest (tOp rEq (tOp (rIxL K) (tVar 2) (tVar 15)) (tC (.int 1)))) rfl nd rfl rfl (sw_true rfl rfl rfl (by decide +kernel)) (pi_range1 (by rfl) B.range (pa_cons (pe_callB call_len_seq (by rfl) B.len PySem.boot_len (pa_cons (pv 2) pa_nil)) pa_nil)) (blkOk_by (N := NR) (sc := defScope sRow) (by decide +kernel)) (fun _ _ _ _ _ => pg_name (i := 15) nd rfl (.inl rfl)) (fun _ _ _ _ _ => pts_one (pt_cmpR op_eq (pe_ix ix_list (pv 2) (pv 15) (fun _ _ => rfl)) (pe_int) (nomark _))) (fun _ _ _ _ _ => pv 15))
      (C8.pss_cut (ps_if (PW.pt (pw_and (pt_cmpR op_eq (pv 3) (pe_int) (nomark _)) (pw_and1 (pt_cmpR (op_neD hu) (pv 12) (pe_lst pa_nil) (nomark _))))) (pss_one (ps_ret (pe_tup (pa_cons (pe_tup (pa_cons (pe_str) (pa_cons (pe_ix ix_list (pv 12) (pe_call GN hr (by rfl) gN kN bN .nil pass0 (pa_cons (pv 0) (pa_cons (pe_callB call_len_seq (by rfl) B.len PySem.boot_len (pa_cons (pv 12) pa_nil)) pa_nil))) (fun _ _ => rfl)) (pa_cons (pv 6) (pa_cons (pv 10) pa_nil))))) (pa_cons (pe_ix ix_list (pv 2) (pv 6) (fun _ _ => rfl)) pa_nil))))) pss_nil)
      (pss_cons (ps_set (i := 13) nd rfl (.inl rfl) (pe_ix ix_list (pe_lst (pa_cons (pe_str) (pa_cons (pe_str) (pa_cons (pe_str) (pa_cons (pe_str) (pa_cons (pe_str) (pa_cons (pe_str) (pa_cons (pe_str) (pa_cons (pe_str) pa_nil))))))))) (pe_call GN hr (by rfl) gN kN bN .nil pass0 (pa_cons (pv 0) (pa_cons (pe_int) pa_nil))) (fun _ _ => rfl)))
      (pss_one (ps_ret (pe_tup (pa_cons (pe_tup (pa_cons (pe_str) (pa_cons (pv 13) (pa_cons (pv 6) (pa_cons (pv 10) pa_nil))))) (pa_cons (pe_ifExp (pt_cmpR op_in_seq (pv 13) (pe_tup (pa_cons (pe_str) (pa_cons (pe_str) pa_nil))) (by rfl)) pe_int (pe_ix ix_list (pv 2) (pv 6) (fun _ _ => rfl))) pa_nil))))))))))))))))))))), ?_⟩
    have line : ∀ n : Nat, n ≤ 200 → n ≤ sizeLine := fun n h => by
      rw [sizeLine_eq]
      omega
    have lineS : ∀ n : Nat, n ≤ 200 → n < sizeLine := fun n h => by
      rw [sizeLine_eq]
      omega
    have cw : ∀ {H2 : Hp}, Kp a H H2 → CD K H2 c rl ml regs mems := fun k => C.kp W k
    have wk : ∀ {H2 : Hp}, Kp a H H2 → H2 wl = some (.lst (ws.map iV)) := fun k => k wl _ (wd_lne W hwl) hwl
    have fin : ∀ (H1 : Hp) (vs : List V) (es : List PyData) (row : Row) (wd : Nat), Kp a H H1 → Wd H1 a l ds → row.d = .tuple es → (∀ H', DpAll K H' vs es) → RowOk regs mems ws row wd → 1 ≤ wd → wd ≤ 12 → ∀ q', H1 q' = none → ∀ p', (upd H1 q' (.tup vs)) p' = none →
        Q (.ref p') (upd (upd H1 q' (.tup vs)) p' (.tup [.ref q', iV wd])) := fun H1 vs es row wd k1 W1 er hd ho h1 h2 q' nq p' np => by
      have ne : q' ≠ p' := fun z => by
        rw [← z, upd_same] at np
        cases np
      refine q _ p' q' row wd ((k1.trans (Kp.new nq)).trans (Kp.new np)) ((W1.new nq).new np) upd_same ?_ ho h1 h2
      rw [er]
      exact .tup (SqT.of (by rw [upd_ne ne]; exact upd_same)) (hd _)
    have fin2 : ∀ (H6 : Hp) (vs : List V) (es : List PyData) (row : Row) (wd : Nat) (q' : Addr), Kp a H H6 → Wd H6 a l ds → H6 q' = some (.tup vs) → row.d = .tuple es → (∀ H', DpAll K H' vs es) → RowOk regs mems ws row wd → 1 ≤ wd → wd ≤ 12 → ∀ p', H6 p' = none →
        Q (.ref p') (upd H6 p' (.tup [.ref q', iV wd])) := fun H6 vs es row wd q' k1 W1 eq' er hd ho h1 h2 p' np => by
      refine q _ p' q' row wd (k1.trans (Kp.new np)) (W1.new np) upd_same ?_ ho h1 h2
      rw [er]
      exact .tup (SqT.of (by rw [upd_ne (ne_of_none eq' np)]; exact eq')) (hd _)
    have two : ∀ n : Nat, (1 : Int) * 2 ^ (((n : Nat) : Int)).toNat = ((2 ^ n : Nat) : Int) := fun n => by
      rw [Int.toNat_natCast, Int.one_mul, Int.natCast_pow]
      rfl
    refine ⟨_, rfl, a, l, ds, 12, rfl, by decide, W, fun r H1 hr1 k1 _ W1 => ?_⟩
    refine ⟨_, rfl, Nat.zero_le _, fun z nz => ?_⟩
    have k2 := k1.trans (Kp.new (o := .lst []) nz)
    have W2 := W1.new (o := .lst []) nz
    refine ⟨.list (ws.map iD), .list [], .lst (SqL.of (wk k2)) (dps_ints ws), .lst (SqL.of upd_same) .nil, shaped_list _ (cL_int ws), shaped_list [] (fun d hd => by cases hd), _, rfl, ?_⟩
    rw [eqv_nil]
    refine (fun (g : _ ∨ _ → _) (r : _ → _ → _) => ite2 (fun h => g (.inl h)) (fun h => ⟨_, rfl, rfl, _, rfl, ite2 (fun h2 => g (.inr h2)) (fun h2 => r h h2)⟩)) ?_ ?_
    · intro _
      refine ⟨_, rfl, a, l, ds, 6, rfl, by decide, W2, fun r2 H3 hr2 k3 _ W3 => ⟨_, _, rfl, rfl, ?_⟩⟩
      obtain ⟨n, en⟩ : ∃ n : Nat, 1 + ((r2 : Nat) : Int) = ((n : Nat) : Int) := ⟨1 + r2, by omega⟩
      show gName 4 (V.int (1 + ((r2 : Nat) : Int))) _ _ _
      rw [en]
      have pos : 0 < 2 ^ n := Nat.pow_pos (by decide)
      refine ⟨_, rfl, a, l, ds, 997, rfl, by decide, W3, fun r3 H4 hr3 k4 _ W4 => ?_⟩
      refine ⟨_, rfl, _, _, rfl, rfl, ⟨by omega, by omega, by decide⟩, _, _, rfl, rfl, ?_, _, rfl, line 3 (by decide), fun q' nq => ⟨_, rfl, line 2 (by decide), fun p' np => ?_⟩⟩
      · show (0 : Int) < 1 * 2 ^ ((n : Nat) : Int).toNat
        rw [two]
        omega
      · have ev : ((r3 : Nat) : Int) % (1 * 2 ^ (((n : Nat) : Int)).toNat) = ((r3 % 2 ^ n : Nat) : Int) := by
          rw [two, ← Int.natCast_emod]
        exact fin H4 _ [.str "lit", .int (((r3 : Nat) : Int) % (1 * 2 ^ (((n : Nat) : Int)).toNat)), iD n] (.lit (r3 % 2 ^ n) n) n ((k2.trans k3).trans k4) W4 (by rw [ev]; rfl) (fun _ => .cons (.str _) (.cons (.int _) (.cons (.int _) .nil))) (.lit (Nat.mod_lt _ pos)) (by omega) (by omega) q' nq p' np
    intro hne hr0
    have hwl0 : 0 < ws.length := by
      cases ws with
      | nil => exact absurd rfl hne
      | cons _ _ => exact Nat.zero_lt_succ _
    refine ⟨fun σ H3 => ∃ y4 y5 : Option V, σ = [some (.ref a), some (.ref c), some (.ref wl), some (iV r), y4, y5, none, none, none, none, none, none, none, none, none, none] ∧ Kp a H H3 ∧ Wd H3 a l ds, ?_, ?_⟩
    · refine ⟨_, rfl, _, _, rfl, rfl, _, rfl, ite2 (fun a1 => ?_) (fun a1 => ⟨_, _, rfl, k2, W2⟩)⟩
      obtain ⟨rvs, hr1, hr2⟩ := (cw k2).r0
      refine ⟨_, rfl, c, _, rfl, cd_regs (cw k2).c0, Nat.zero_le _, fun z3 nz3 => ?_⟩
      have k3 := k2.trans (Kp.new (o := .lst []) nz3)
      have W3 := W2.new (o := .lst []) nz3
      obtain ⟨rvs, hr1, hr2⟩ := (cw k3).r0
      have lrv : rvs.length = regs.length := by
        have := dps_len hr2
        rw [List.length_map] at this
        exact this
      refine ⟨.list (regs.map pr), .list [], .lst (SqL.of hr1) hr2, .lst (SqL.of upd_same) .nil, shaped_list _ (cL_pr regs), shaped_list [] (fun d hd => by cases hd), _, rfl, ?_⟩
      rw [eqv_nil]
      refine ite2 (fun a2 => ?_) (fun a2 => ⟨_, _, rfl, k3, W3⟩)
      have hreg : 0 < regs.length := by
        cases regs with
        | nil => exact absurd a2 (by decide)
        | cons _ _ => exact Nat.zero_lt_succ _
      refine ⟨_, rfl, _, rfl, c, _, rfl, cd_regs (cw k3).c0, rl, _, rfl, .inl (SqL.of hr1), a, l, ds, _, rfl, by omega, W3, fun i H4 hi k4 _ W4 => ?_⟩
      have k5 := k3.trans k4
      have hi2 : i < regs.length := by omega
      obtain ⟨⟨rw0, rf0⟩, ep⟩ : ∃ p, regs[i]? = some p := ⟨_, List.getElem?_eq_getElem hi2⟩
      refine ⟨_, rfl, line 2 (by decide), fun q' nq => ?_⟩
      have k6 := k5.trans (Kp.new (o := .tup [.str "reg", iV i]) nq)
      obtain ⟨rvs6, hr16, hr26⟩ := (cw k6).r0
      obtain ⟨b, hb1, hb2⟩ := pr_at hr26 ep
      refine ⟨_, rfl, c, _, rfl, cd_regs (cw k6).c0, _, rfl, rl, _, _, _, rfl, rfl, SqL.of hr16, atI_nat (j := i) hb1, b, _, _, _, rfl, rfl, hb2, atI_nat (j := 0) rfl, line 2 (by decide), fun p' np => ?_⟩
      have bd := hR _ (List.mem_of_getElem? ep)
      exact fin H4 _ [.str "reg", iD i] (.reg i) rw0 k5 W4 rfl (fun _ => .cons (.str _) (.cons (.int _) .nil)) (.reg ep) bd.1 (by have := bd.2.1; omega) q' nq p' np
    rintro σ H3 ⟨y4, y5, rfl, k3, W3⟩
    refine ⟨_, rfl, _, rfl, wl, _, rfl, .inl (SqL.of (wk k3)), a, l, ds, _, rfl, by rw [List.length_map]; omega, W3, fun av H4 hav k4 _ W4 => ?_⟩
    rw [List.length_map] at hav
    have k5 := k3.trans k4
    have hav2 : av < ws.length := by omega
    obtain ⟨x, ex⟩ : ∃ x, ws[av]? = some x := ⟨_, List.getElem?_eq_getElem hav2⟩
    have bx := hW x (List.mem_of_getElem? ex)
    have at_ws : ∀ {H2 : Hp} {j v : Nat}, Kp a H H2 → ws[j]? = some v → SqL K H2 wl (ws.map iV) ∧ atI (ws.map iV) ((j : Nat) : Int) = some (iV v) := fun k e => ⟨SqL.of (wk k), atI_nat (int_at e)⟩
    refine ⟨fun σ H5 => ∃ y7 : Option V, σ = [some (.ref a), some (.ref c), some (.ref wl), some (iV r), y4, y5, some (iV av), y7, none, none, none, none, none, none, none, none] ∧ Kp a H H5 ∧ Wd H5 a l ds, ?_, ?_⟩
    · refine ⟨_, rfl, rfl, _, rfl, ite2 (fun a1 => ?_) (fun a1 => ⟨_, rfl, k5, W4⟩)⟩
      obtain ⟨mvs, hm1, hm2⟩ := (cw k5).m0
      have lmv : mvs.length = mems.length := by
        have := dps_len hm2
        rw [List.length_map] at this
        exact this
      refine ⟨_, rfl, c, _, rfl, cd_mems (cw k5).c0, ml, _, rfl, .inl (SqL.of hm1), ?_⟩
      rw [lmv]
      refine ⟨_, rfl, by omega, by omega, fun D nD => lc_range (n := mems.length) (fun i H' => H' = upd H4 D (.lst ((fits (mems.map Prod.fst) x i).map iV))) rfl (fun i H' hi h => ?_) (fun H' h => ?_)⟩
      · subst h
        rw [Int.zero_add]
        have kD := k5.trans (Kp.new (o := .lst ((fits (mems.map Prod.fst) x i).map iV)) nD)
        obtain ⟨mvs2, hm12, hm22⟩ := (cw kD).m0
        obtain ⟨p, ep⟩ : ∃ p, mems[i]? = some p := ⟨_, List.getElem?_eq_getElem hi⟩
        have ep1 : (mems.map Prod.fst)[i]? = some p.1 := by
          rw [List.getElem?_map, ep]
          rfl
        obtain ⟨b, hb1, hb2⟩ := pr_at hm22 ep
        refine ⟨rfl, _, rfl, c, _, rfl, cd_mems (cw kD).c0, _, rfl, ml, _, _, _, rfl, rfl, SqL.of hm12, atI_nat (j := i) hb1, b, _, _, _, rfl, rfl, hb2, atI_nat (j := 0) rfl, _, rfl, _, rfl, wl, _, _, _, rfl, rfl, (at_ws kD ex).1, (at_ws kD ex).2, rfl, _, rfl, ite2 (fun a2 => ?_) (fun a2 => ?_)⟩
        · have e2 : p.1 = x := Int.ofNat.inj (V.int.inj (of_decide_eq_true a2))
          refine ⟨_, rfl, _, upd_same, ?_, ?_⟩
          · rw [List.length_map]
            exact Nat.lt_of_le_of_lt (fits_len _ _ _) (lineS _ (by omega))
          · rw [upd_upd, fits_yes (by rw [ep1, e2]), List.map_append]
            rfl
        · rw [fits_no (by rw [ep1]; intro z; exact a2 (decide_eq_true (by rw [Option.some.inj z])))]
      · subst h
        have kD := k5.trans (Kp.new (o := .lst ((fits (mems.map Prod.fst) x mems.length).map iV)) nD)
        have WD := W4.new (o := .lst ((fits (mems.map Prod.fst) x mems.length).map iV)) nD
        refine ⟨_, rfl, Nat.zero_le _, fun z nz => ?_⟩
        have kz := kD.trans (Kp.new (o := .lst []) nz)
        have Wz := WD.new (o := .lst []) nz
        have hD : (upd (upd H4 D (.lst ((fits (mems.map Prod.fst) x mems.length).map iV))) z (.lst [])) D = some (.lst ((fits (mems.map Prod.fst) x mems.length).map iV)) := by
          rw [upd_ne (ne_of_none upd_same nz)]
          exact upd_same
        refine ⟨.list ((fits (mems.map Prod.fst) x mems.length).map iD), .list [], .lst (SqL.of hD) (dps_ints _), .lst (SqL.of upd_same) .nil, shaped_list _ (cL_int _), shaped_list [] (fun d hd => by cases hd), _, rfl, ?_⟩
        rw [eqv_nil]
        refine ite2 (fun a2 => ?_) (fun a2 => ⟨_, rfl, kz, Wz⟩)
        cases ef : fits (mems.map Prod.fst) x mems.length with
        | nil =>
          rw [ef] at a2
          cases a2
        | cons m0 mr =>
          have em : m0 < mems.length ∧ (mems.map Prod.fst)[m0]? = some x := fits_mem.mp (by rw [ef]; exact List.mem_cons_self ..)
          rw [ef] at hD kz Wz
          obtain ⟨p, ep⟩ : ∃ p, mems[m0]? = some p := ⟨_, List.getElem?_eq_getElem em.1⟩
          have e1 : p.1 = x := by
            have := em.2
            rw [List.getElem?_map, ep] at this
            exact Option.some.inj this
          refine ⟨_, rfl, D, _, _, _, rfl, rfl, SqL.of hD, atI_nat (j := 0) rfl, _, rfl, line 3 (by decide), fun q' nq => ?_⟩
          have k6 := kz.trans (Kp.new (o := .tup [.str "look", iV m0, iV av]) nq)
          obtain ⟨mvs6, hm16, hm26⟩ := (cw k6).m0
          obtain ⟨b, hb1, hb2⟩ := pr_at hm26 ep
          refine ⟨_, rfl, c, _, rfl, cd_mems (cw k6).c0, _, rfl, D, _, _, _, rfl, rfl, SqL.of (by rw [upd_ne (ne_of_none hD nq)]; exact hD), atI_nat (j := 0) rfl, ml, _, _, _, rfl, rfl, SqL.of hm16, atI_nat (j := m0) hb1, b, _, _, _, rfl, rfl, hb2, atI_nat (j := 1) rfl, line 2 (by decide), fun p' np => ?_⟩
          have bd := hM _ (List.mem_of_getElem? ep)
          exact fin _ _ [.str "look", iD m0, iD av] (.look m0 av) p.2 kz Wz rfl (fun _ => .cons (.str _) (.cons (.int _) (.cons (.int _) .nil))) (.look (by rw [ep, ← e1]) ex) bd.2.2.1 (by have := bd.2.2.2; omega) q' nq p' np
    rintro σ H5 ⟨y7, rfl, k6, W5⟩
    have three : ∀ {s : Str} {x y : Nat} (H' : Hp), DpAll K H' [.str s, iV x, iV y] [.str s, iD x, iD y] := fun H' => .cons (.str _) (.cons (.int _) (.cons (.int _) .nil))
    have four : ∀ {s : Str} {x y z : Nat} (H' : Hp), DpAll K H' [.str s, iV x, iV y, iV z] [.str s, iD x, iD y, iD z] := fun H' => .cons (.str _) (.cons (.int _) (.cons (.int _) (.cons (.int _) .nil)))
    have fourO : ∀ {s u : Str} {y z : Nat} (H' : Hp), DpAll K H' [.str s, .str u, iV y, iV z] [.str s, .str u, iD y, iD z] := fun H' => .cons (.str _) (.cons (.str _) (.cons (.int _) (.cons (.int _) .nil)))
    refine ⟨_, rfl, rfl, _, rfl, ite2 (fun _ => ?_) (fun _ => ?_)⟩
    · refine ⟨_, rfl, line 2 (by decide), fun q' nq => ⟨_, rfl, _, rfl, wl, _, _, _, rfl, rfl, (at_ws (k6.trans (Kp.new nq)) ex).1, (at_ws k6 ex).2, line 2 (by decide), fun p' np => ?_⟩⟩
      exact fin H5 _ [.str "not", iD av] (.inv av) x k6 W5 rfl (fun _ => .cons (.str _) (.cons (.int _) .nil)) (.inv ex) bx.1 bx.2 q' nq p' np
    refine ⟨_, rfl, rfl, _, rfl, ite2 (fun _ => ?_) (fun _ => ?_)⟩
    · refine ⟨_, rfl, a, l, ds, 8, rfl, by decide, W5, fun r2 H6 hr2 k7 _ W6 => ⟨_, _, rfl, rfl, ?_⟩⟩
      show gName 4 (V.int (1 + ((r2 : Nat) : Int))) _ _ _
      rw [show 1 + ((r2 : Nat) : Int) = ((1 + r2 : Nat) : Int) by omega]
      refine ⟨_, rfl, _, rfl, line 3 (by decide), fun q' nq => ⟨_, rfl, line 2 (by decide), fun p' np => ?_⟩⟩
      exact fin H6 _ [.str "wide", iD av, iD (1 + r2)] (.wide av (1 + r2)) (1 + r2) (k6.trans k7) W6 rfl three (.wide ex) (by omega) (by omega) q' nq p' np
    refine ⟨_, rfl, rfl, _, rfl, ite2 (fun _ => ?_) (fun _ => ?_)⟩
    · refine ⟨_, rfl, _, rfl, _, rfl, wl, _, _, _, rfl, rfl, (at_ws k6 ex).1, (at_ws k6 ex).2, a, l, ds, ((x : Nat) : Int), rfl, by omega, W5, fun lo H6 hlo k7 _ W6 => ?_⟩
      have k8 := k6.trans k7
      refine ⟨_, rfl, _, rfl, _, rfl, _, rfl, wl, _, _, _, rfl, rfl, (at_ws k8 ex).1, (at_ws k8 ex).2, _, rfl, _, _, rfl, rfl, a, l, ds, ((x : Nat) : Int) - ((lo : Nat) : Int), rfl, by omega, W6, fun r2 H7 hr2 k9 _ W7 => ⟨_, _, rfl, rfl, ?_⟩⟩
      show gName 9 (V.int (((lo : Nat) : Int) + ((r2 : Nat) : Int))) _ _ _
      rw [show ((lo : Nat) : Int) + ((r2 : Nat) : Int) = ((lo + r2 : Nat) : Int) by omega]
      refine ⟨_, rfl, _, rfl, _, rfl, line 4 (by decide), fun q' nq => ⟨_, rfl, _, rfl, _, _, rfl, rfl, _, _, rfl, rfl, line 2 (by decide), fun p' np => ?_⟩⟩
      have e5 : ((lo + r2 : Nat) : Int) - ((lo : Nat) : Int) + 1 = ((lo + r2 - lo + 1 : Nat) : Int) := by omega
      have h := fin H7 _ [.str "part", iD av, iD lo, iD (lo + r2)] (.part av lo (lo + r2)) (lo + r2 - lo + 1) (k8.trans k9) W7 rfl four (.part ex (by omega) (by omega)) (by omega) (by omega) q' nq p' np
      show Q (.ref p') (upd _ p' (.tup [.ref q', .int (((lo + r2 : Nat) : Int) - ((lo : Nat) : Int) + 1)]))
      rw [e5]
      exact h
    refine ⟨_, rfl, _, rfl, wl, _, rfl, .inl (SqL.of (wk k6)), a, l, ds, _, rfl, by rw [List.length_map]; omega, W5, fun bv H6 hbv k7 _ W6 => ?_⟩
    rw [List.length_map] at hbv
    have k8 := k6.trans k7
    obtain ⟨yb, ey⟩ : ∃ y, ws[bv]? = some y := ⟨_, List.getElem?_eq_getElem (show bv < ws.length by omega)⟩
    have by' := hW yb (List.mem_of_getElem? ey)
    refine ⟨fun σ H7 => σ = [some (.ref a), some (.ref c), some (.ref wl), some (iV r), y4, y5, some (iV av), y7, none, none, some (iV bv), none, none, none, none, none] ∧ Kp a H H7 ∧ Wd H7 a l ds, ?_, ?_⟩
    · refine ⟨_, rfl, rfl, _, rfl, ite2 (fun _ => ?_) (fun _ => ⟨rfl, k8, W6⟩)⟩
      refine ⟨_, rfl, _, rfl, wl, _, _, _, rfl, rfl, (at_ws k8 ex).1, (at_ws k8 ex).2, _, rfl, _, rfl, wl, _, _, _, rfl, rfl, (at_ws k8 ey).1, (at_ws k8 ey).2, _, _, rfl, rfl, _, _, rfl, rfl, _, rfl, ite2 (fun a2 => ?_) (fun _ => ⟨rfl, k8, W6⟩)⟩
      have hlt : ((x : Nat) : Int) + ((yb : Nat) : Int) < 12 := of_decide_eq_true a2
      refine ⟨_, rfl, _, rfl, line 3 (by decide), fun q' nq => ?_⟩
      have k9 := k8.trans (Kp.new (o := .tup [.str "join", iV av, iV bv]) nq)
      refine ⟨_, rfl, _, rfl, wl, _, _, _, rfl, rfl, (at_ws k9 ex).1, (at_ws k9 ex).2, _, rfl, _, rfl, wl, _, _, _, rfl, rfl, (at_ws k9 ey).1, (at_ws k9 ey).2, _, _, rfl, rfl, line 2 (by decide), fun p' np => ?_⟩
      have h := fin H6 _ [.str "join", iD av, iD bv] (.join av bv) (x + yb) k8 W6 rfl three (.join ex ey) (by omega) (by omega) q' nq p' np
      show Q (.ref p') (upd _ p' (.tup [.ref q', .int (((x : Nat) : Int) + ((yb : Nat) : Int))]))
      rw [show ((x : Nat) : Int) + ((yb : Nat) : Int) = ((x + yb : Nat) : Int) by omega]
      exact h
    rintro σ H7 ⟨rfl, k9, W7⟩
    refine ⟨_, rfl, rfl, _, rfl, ite2 (fun _ => ?_) (fun _ => ?_)⟩
    · refine ⟨line 2 (by decide), fun z nz => ?_⟩
      have kz := k9.trans (Kp.new (o := .lst (shiftL.map V.str)) nz)
      refine ⟨_, rfl, a, l, ds, 2, rfl, by decide, W7.new nz, fun r2 H8 hr2 k10 e10 W8 => ?_⟩
      have hz : H8 z = some (.lst (shiftL.map V.str)) := by
        rw [e10 z (W7.fresh nz)]
        exact upd_same
      have hlt : r2 < shiftL.length := by
        show r2 < 2
        omega
      have k11 := kz.trans k10
      refine ⟨z, _, _, _, rfl, rfl, SqL.of hz, atI_nat (j := r2) (show (shiftL.map V.str)[r2]? = some (.str shiftL[r2]) by rw [List.getElem?_map, List.getElem?_eq_getElem hlt]; rfl), _, rfl, _, rfl, line 4 (by decide), fun q' nq => ?_⟩
      have k12 := k11.trans (Kp.new (o := .tup [.str "op", .str shiftL[r2], iV av, iV bv]) nq)
      refine ⟨_, rfl, _, rfl, wl, _, _, _, rfl, rfl, (at_ws k12 ex).1, (at_ws k12 ex).2, line 2 (by decide), fun p' np => ?_⟩
      exact fin H8 _ [.str "op", .str shiftL[r2], iD av, iD bv] (.op shiftL[r2] av bv) x k11 W8 rfl fourO (.shift (List.getElem_mem hlt) ex ey) bx.1 bx.2 q' nq p' np
    -- the rows of the same width
    refine ⟨_, rfl, wl, _, rfl, .inl (SqL.of (wk k9)), ?_⟩
    rw [List.length_map]
    refine ⟨_, rfl, by omega, by omega, fun D nD => lc_range (n := ws.length) (fun i H' => H' = upd H7 D (.lst ((fits ws x i).map iV))) rfl (fun i H' hi h => ?_) (fun H' h => ?_)⟩
    · subst h
      rw [Int.zero_add]
      have kD := k9.trans (Kp.new (o := .lst ((fits ws x i).map iV)) nD)
      obtain ⟨v, ev⟩ : ∃ v, ws[i]? = some v := ⟨_, List.getElem?_eq_getElem hi⟩
      refine ⟨rfl, _, rfl, _, rfl, wl, _, _, _, rfl, rfl, (at_ws kD ev).1, (at_ws kD ev).2, _, rfl, _, rfl, wl, _, _, _, rfl, rfl, (at_ws kD ex).1, (at_ws kD ex).2, rfl, _, rfl, ite2 (fun a2 => ?_) (fun a2 => ?_)⟩
      · have e2 : v = x := Int.ofNat.inj (V.int.inj (of_decide_eq_true a2))
        refine ⟨_, rfl, _, upd_same, ?_, ?_⟩
        · rw [List.length_map]
          exact Nat.lt_of_le_of_lt (fits_len _ _ _) (lineS _ (by omega))
        · rw [upd_upd, fits_yes (by rw [ev, e2]), List.map_append]
          rfl
      · rw [fits_no (by rw [ev]; intro z; exact a2 (decide_eq_true (by rw [Option.some.inj z])))]
    subst h
    have kD := k9.trans (Kp.new (o := .lst ((fits ws x ws.length).map iV)) nD)
    have WD := W7.new (o := .lst ((fits ws x ws.length).map iV)) nD
    have hfl : 0 < (fits ws x ws.length).length := List.length_pos_of_mem (fits_mem.mpr ⟨hav2, ex⟩)
    refine ⟨_, rfl, _, rfl, _, rfl, D, _, rfl, .inl (SqL.of upd_same), a, l, ds, _, rfl, by rw [List.length_map]; omega, WD, fun r3 H8 hr3 k10 e10 W8 => ?_⟩
    rw [List.length_map] at hr3
    have hD8 : H8 D = some (.lst ((fits ws x ws.length).map iV)) := by
      rw [e10 D (W7.fresh nD)]
      exact upd_same
    have k11 := kD.trans k10
    obtain ⟨cv, ec⟩ : ∃ cv, (fits ws x ws.length)[r3]? = some cv := ⟨_, List.getElem?_eq_getElem (by omega)⟩
    have hcv := fits_at ec
    refine ⟨D, _, _, _, rfl, rfl, SqL.of hD8, atI_nat (int_at ec), ?_⟩
    -- the tests
    refine ⟨_, rfl, wl, _, rfl, .inl (SqL.of (wk k11)), ?_⟩
    rw [List.length_map]
    refine ⟨_, rfl, by omega, by omega, fun T nT => lc_range (n := ws.length) (fun i H' => H' = upd H8 T (.lst ((fits ws 1 i).map iV))) rfl (fun i H' hi h => ?_) (fun H' h => ?_)⟩
    · subst h
      rw [Int.zero_add]
      have kT := k11.trans (Kp.new (o := .lst ((fits ws 1 i).map iV)) nT)
      obtain ⟨v, ev⟩ : ∃ v, ws[i]? = some v := ⟨_, List.getElem?_eq_getElem hi⟩
      refine ⟨rfl, _, rfl, _, rfl, wl, _, _, _, rfl, rfl, (at_ws kT ev).1, (at_ws kT ev).2, rfl, _, rfl, ite2 (fun a2 => ?_) (fun a2 => ?_)⟩
      · have e2 : v = 1 := by
          have := V.int.inj (of_decide_eq_true a2)
          omega
        refine ⟨_, rfl, _, upd_same, ?_, ?_⟩
        · rw [List.length_map]
          exact Nat.lt_of_le_of_lt (fits_len _ _ _) (lineS _ (by omega))
        · rw [upd_upd, fits_yes (by rw [ev, e2]), List.map_append]
          rfl
      · rw [fits_no (by
          rw [ev]
          intro z
          refine a2 (decide_eq_true ?_)
          have := Option.some.inj z
          subst this
          rfl)]
    subst h
    have kT := k11.trans (Kp.new (o := .lst ((fits ws 1 ws.length).map iV)) nT)
    have WT := W8.new (o := .lst ((fits ws 1 ws.length).map iV)) nT
    refine ⟨fun σ H9 => σ = [some (.ref a), some (.ref c), some (.ref wl), some (iV r), y4, y5, some (iV av), y7, none, none, some (iV cv), some (.ref D), some (.ref T), none, none, none] ∧ Kp a H H9 ∧ Wd H9 a l ds, ?_, ?_⟩
    · refine ⟨_, rfl, rfl, _, rfl, ite2 (fun _ => ?_) (fun _ => ⟨rfl, kT, WT⟩)⟩
      refine ⟨_, rfl, Nat.zero_le _, fun z nz => ?_⟩
      have kz := kT.trans (Kp.new (o := .lst []) nz)
      have Wz := WT.new (o := .lst []) nz
      have hTz : (upd (upd H8 T (.lst ((fits ws 1 ws.length).map iV))) z (.lst [])) T = some (.lst ((fits ws 1 ws.length).map iV)) := by
        rw [upd_ne (ne_of_none upd_same nz)]
        exact upd_same
      refine ⟨.list ((fits ws 1 ws.length).map iD), .list [], .lst (SqL.of hTz) (dps_ints _), .lst (SqL.of upd_same) .nil, shaped_list _ (cL_int _), shaped_list [] (fun d hd => by cases hd), _, rfl, ?_⟩
      rw [eqv_nil]
      refine ite2 (fun a2 => ?_) (fun a2 => ⟨rfl, kz, Wz⟩)
      have hfl1 : 0 < (fits ws 1 ws.length).length := by
        cases e : fits ws 1 ws.length with
        | nil =>
          rw [e] at a2
          cases a2
        | cons _ _ => exact Nat.zero_lt_succ _
      refine ⟨_, rfl, _, rfl, _, rfl, T, _, rfl, .inl (SqL.of hTz), a, l, ds, _, rfl, by rw [List.length_map]; omega, Wz, fun r4 H9 hr4 k12 e12 W9 => ?_⟩
      rw [List.length_map] at hr4
      have hT9 : H9 T = some (.lst ((fits ws 1 ws.length).map iV)) := by
        rw [e12 T (W8.fresh nT)]
        exact hTz
      have k13 := kz.trans k12
      obtain ⟨tv, et⟩ : ∃ tv, (fits ws 1 ws.length)[r4]? = some tv := ⟨_, List.getElem?_eq_getElem (by omega)⟩
      have htv := fits_at et
      refine ⟨T, _, _, _, rfl, rfl, SqL.of hT9, atI_nat (int_at et), _, rfl, _, rfl, line 4 (by decide), fun q' nq => ?_⟩
      have k14 := k13.trans (Kp.new (o := .tup [.str "pick", iV tv, iV av, iV cv]) nq)
      refine ⟨_, rfl, _, rfl, wl, _, _, _, rfl, rfl, (at_ws k14 ex).1, (at_ws k14 ex).2, line 2 (by decide), fun p' np => ?_⟩
      exact fin H9 _ [.str "pick", iD tv, iD av, iD cv] (.pick tv av cv) x k13 W9 rfl four (.pick htv.2 ex hcv.2) bx.1 bx.2 q' nq p' np
    rintro σ H9 ⟨rfl, k12, W9⟩
    refine ⟨line 8 (by decide), fun z nz => ?_⟩
    have kz := k12.trans (Kp.new (o := .lst ((arithL ++ testL).map V.str)) nz)
    refine ⟨_, rfl, a, l, ds, 8, rfl, by decide, W9.new nz, fun r5 H10 hr5 k13 e13 W10 => ?_⟩
    have hz : H10 z = some (.lst ((arithL ++ testL).map V.str)) := by
      rw [e13 z (W9.fresh nz)]
      exact upd_same
    have hlt : r5 < (arithL ++ testL).length := by
      show r5 < 8
      omega
    have k14 := kz.trans k13
    obtain ⟨sg, esg⟩ : ∃ sg, (arithL ++ testL)[r5]? = some sg := ⟨_, List.getElem?_eq_getElem hlt⟩
    have hsg := List.mem_of_getElem? esg
    refine ⟨z, _, _, _, rfl, rfl, SqL.of hz, atI_nat (j := r5) (show ((arithL ++ testL).map V.str)[r5]? = some (.str sg) by rw [List.getElem?_map, esg]; rfl), ?_⟩
    refine ⟨_, rfl, _, rfl, _, rfl, line 4 (by decide), fun q' nq => ?_⟩
    have k15 := k14.trans (Kp.new (o := .tup [.str "op", .str sg, iV av, iV cv]) nq)
    have W11 := W10.new (o := .tup [.str "op", .str sg, iV av, iV cv]) nq
    refine ⟨_, rfl, line 2 (by decide), fun t nt => ?_⟩
    have k16 := k15.trans (Kp.new (o := .tup [.str "==", .str "<"]) nt)
    have W12 := W11.new (o := .tup [.str "==", .str "<"]) nt
    have hq6 : (upd (upd H10 q' (.tup [.str "op", .str sg, iV av, iV cv])) t (.tup [.str "==", .str "<"])) q' = some (.tup [.str "op", .str sg, iV av, iV cv]) := by
      rw [upd_ne (ne_of_none upd_same nt)]
      exact upd_same
    refine ⟨t, _, rfl, .inr (SqT.of upd_same), rfl, rfl, _, rfl, ?_⟩
    refine ite2 (fun a2 => ⟨line 2 (by decide), fun p' np => ?_⟩) (fun a2 => ⟨_, rfl, _, rfl, wl, _, _, _, rfl, rfl, (at_ws k16 ex).1, (at_ws k16 ex).2, line 2 (by decide), fun p' np => ?_⟩)
    · have ht : sg ∈ testL := (List.mem_append.mp hsg).resolve_left fun h => by
        have : ∀ s ∈ arithL, inV (.str s) [.str "==", .str "<"] = false := by decide +kernel
        rw [show (if false = true then !inV (.str sg) [.str "==", .str "<"] else inV (.str sg) [.str "==", .str "<"]) = inV (.str sg) [.str "==", .str "<"] from rfl, this sg h] at a2
        cases a2
      exact fin2 _ _ [.str "op", .str sg, iD av, iD cv] (.op sg av cv) 1 q' k16 W12 hq6 rfl fourO (.test ht ex hcv.2) (by decide) (by decide) p' np
    · have ht : sg ∈ arithL := (List.mem_append.mp hsg).resolve_right fun h => by
        have : ∀ s ∈ testL, inV (.str s) [.str "==", .str "<"] = true := by decide +kernel
        exact a2 (this sg h)
      exact fin2 _ _ [.str "op", .str sg, iD av, iD cv] (.op sg av cv) x q' k16 W12 hq6 rfl fourO (.arith ht ex hcv.2) bx.1 bx.2 p' np
end
end C1

/-! The law's circuit. -/
namespace C1
open PySem PySem.Spec PyProof.Rows L2 SX
abbrev NC : List Str := ["w", "most", "c", "k", "width", "rows", "widths", "row", "nexts", "first", "own", "stores", "m", "parts_v", "outs", "part"]
theorem scCircuit : FnScope NC ["w", "most"] (defScope sCircuit) := ⟨rfl, rfl, rfl, by decide +kernel, rfl, by decide +kernel, by decide +kernel⟩
def scW : Scope := { kind := .function, names := [(".0", .local), ("width", .cell), ("range", .globalImplicit), ("len", .globalImplicit), ("rows", .cell), ("widths", .cell)], isGenerator := false, isCoroutine := false }
abbrev rLen (K : PySem.W.Frag) : List V → Hp → VK → Prop := fun xs H Q => ∃ p ys, xs = [V.ref p] ∧ (SqL K H p ys ∨ SqT K H p ys) ∧ Q (V.int ys.length) H
section
variable {P : Program} {w : World} {K : PySem.W.Frag} {mg : Str → Option Value} {base : Heap}
structure Ckt where
  regs : List (Nat × Nat)
  mems : List (Nat × Nat)
  rows : List Row
  nexts : List Nat
  stores : List (Nat × Nat × Nat × Nat)
  outs : List Nat
def stD (s : Nat × Nat × Nat × Nat) : PyData := .tuple [iD s.1, iD s.2.1, iD s.2.2.1, iD s.2.2.2]
def Ckt.d (c : Ckt) : PyData := .tuple [.tuple (c.regs.map pr), .tuple (c.mems.map pr), .tuple (c.rows.map Row.d), .tuple (c.nexts.map iD), .tuple (c.stores.map stD), .tuple (c.outs.map iD)]
/-- rows and their widths, one behind the other -/
inductive RowsOk (regs mems : List (Nat × Nat)) : List Row → List Nat → Prop
  | nil : RowsOk regs mems [] []
  | snoc {rows : List Row} {ws : List Nat} {row : Row} {wd : Nat} : RowsOk regs mems rows ws → RowOk regs mems ws row wd → 1 ≤ wd → wd ≤ 12 → RowsOk regs mems (rows ++ [row]) (ws ++ [wd])
structure CktOk (c : Ckt) (ws : List Nat) : Prop where
  rg : RegsOk c.regs
  mm : MemsOk c.mems
  lr : c.regs.length ≤ 4
  lm : c.mems.length ≤ 2
  rw : RowsOk c.regs c.mems c.rows ws
  lw : ws.length ≤ 60
  nl : c.nexts.length = c.regs.length
  nx : ∀ (i : Nat) (p : Nat × Nat) (n : Nat), c.regs[i]? = some p → c.nexts[i]? = some n → ws[n]? = some p.1
  so : ∀ s ∈ c.stores, ∃ p : Nat × Nat, c.mems[s.1]? = some p ∧ ws[s.2.1]? = some p.1 ∧ ws[s.2.2.1]? = some p.2 ∧ ws[s.2.2.2]? = some 1
  sl : c.stores.length ≤ 2
  ol : c.outs.length ≤ 4
  oo : ∀ o ∈ c.outs, o < ws.length
theorem rows_len {regs mems : List (Nat × Nat)} {rows : List Row} {ws : List Nat} (h : RowsOk regs mems rows ws) : rows.length = ws.length := by
  induction h with
  | nil => rfl
  | snoc _ _ _ _ ih => rw [List.length_append, List.length_append, ih]; rfl
theorem rows_ws {regs mems : List (Nat × Nat)} {rows : List Row} {ws : List Nat} (h : RowsOk regs mems rows ws) : WsOk ws := by
  induction h with
  | nil => intro x hx; cases hx
  | snoc _ _ h1 h2 ih =>
    intro x hx
    rcases List.mem_append.mp hx with z | z
    · exact ih x z
    · rw [List.mem_singleton.mp z]
      exact ⟨h1, h2⟩
theorem Row.noL : ∀ r : Row, C1.noL r.d = true := fun r => by cases r <;> rfl
theorem noLs_rows : ∀ rs : List Row, noLs (rs.map Row.d) = true
  | [] => rfl
  | r :: rs => by
    show (C1.noL r.d && noLs (rs.map Row.d)) = true
    rw [Row.noL, noLs_rows rs]
    rfl
theorem noLs_st : ∀ rs : List (Nat × Nat × Nat × Nat), noLs (rs.map stD) = true
  | [] => rfl
  | r :: rs => by
    show (C1.noL (stD r) && noLs (rs.map stD)) = true
    rw [noLs_st rs]
    rfl
section
variable {a l r : Addr} {ds : List Int} {H H1 H2 : Hp}
theorem Kp.put {o : HO} (k : Kp a H H1) (n : H r = none) : Kp a H (upd H1 r o) := fun b u nb e => by
  rw [upd_ne (ne_of_none e n)]
  exact k b u nb e
theorem Wd.put {o : HO} (W : Wd H a l ds) (h1 : r ≠ a) (h2 : r ≠ l) : Wd (upd H r o) a l ds := by
  obtain ⟨k, k0, e⟩ := W.at'
  exact ⟨⟨k, k0, by rw [upd_ne h1.symm]; exact e⟩, by rw [upd_ne h2.symm]; exact W.dr, W.len⟩
theorem kp_none (k : Kp a H H1) (h : r ≠ a) (n : H1 r = none) : H r = none := by
  cases e : H r with
  | none => rfl
  | some o =>
    rw [k r o h e] at n
    cases n
theorem Wd.ne2 (W : Wd H a l ds) (n : H r = none) : r ≠ a ∧ r ≠ l := ⟨W.fresh n, fun z => by
  have := W.dr
  rw [← z, n] at this
  cases this⟩
theorem stay_dps {vs : List V} {es : List PyData} (W : Wd H a l ds) (k : Kp a H H1) (n : noLs es = true) (h : DpAll K H vs es) : DpAll K H1 vs es := by
  obtain ⟨_, _, e⟩ := W.at'
  exact dps_stay (kp_tup e k) _ _ h n
theorem push_dps {vs : List V} {es : List PyData} {v : V} {d : PyData} {o : HO} (e : H r = some (.lst vs)) (h : DpAll K H vs es) (n : noLs es = true) (hd : Dp K H v d) (nd : noL d = true) : DpAll K (upd H r o) (vs ++ [v]) (es ++ [d]) :=
  dps_app (dps_stay (tups_upd e) _ _ h n) (.cons (dp_stay (tups_upd e) _ _ hd nd) .nil)
end
theorem dpI {K : PySem.W.Frag} {H : Hp} {x y : Int} (e : x = y) : Dp K H (.int x) (.int y) := by
  subst e
  exact .int _
theorem cd_merge (rl ml : Addr) : mergeK [] (cdL rl ml) = cdL rl ml := by
  have h1 : ¬ (Sum.inr ("registers" : Str) : Key) = Sum.inr ("memories" : Str) := by decide
  unfold mergeK cdL
  simp [putK, h1]
def spCircuit (K : PySem.W.Frag) : Sp := fun vs H Q _ => ∃ (a l : Addr) (ds : List Int) (m : Nat), vs = [.ref a, iV m] ∧ 0 < m ∧ m ≤ 50 ∧ Wd H a l ds ∧
  ∀ (H' : Hp) (p : Addr) (c : Ckt) (ws : List Nat), Kp a H H' → Wd H' a l ds → Dp K H' (.ref p) c.d → CktOk c ws → Q (.ref p) H'
theorem ok_circuit {f fN fR : Addr} {fd fdN fdR : FuncData} (F : Fun K "_law_circuit" "_law_circuit" sCircuit f fd) (GN : FnOk P w K mg base CX0 1 fN fdN ["w", "many"] spNext) (kN : PySem.W.keepIn K (.ref fN) = true) (bN : Binds K fdN ["w", "many"] []) (gN : mg "_law_next" = some (.ref fN))
    (GR : FnOk P w K mg base CX0 2 fR fdR ["w", "c", "widths"] (spRow K)) (kR : PySem.W.keepIn K (.ref fR) = true) (bR : Binds K fdR ["w", "c", "widths"] []) (gR : mg "_law_row" = some (.ref fR)) (B : Bl mg) (mt : mg "tuple" = none) :
    FnOk P w K mg base CX0 3 f fd ["w", "most"] (spCircuit K) := by
  refine F.ok scCircuit (fun vs H Q E h => ?_) (fun cdv A outer s H vs Q E hr h => ?_)
  · obtain ⟨a, l, ds, m, rfl, _⟩ := h
    rfl
  · obtain ⟨a, l, ds, m, rfl, hm, hm2, W, q⟩ := h
    have nd := scCircuit.nd
    have hu := hr.units
    have hud := hu_of hr
    have hr1 : Room 1 _ := hr.mono (by decide)
    refine ⟨_, (pss_cons (ps_set (i := 2) nd rfl (.inl rfl) (pe_disp (pps_cons pe_str (pe_lst pa_nil) (pps_cons pe_str (pe_lst pa_nil) pps_nil)) rfl rfl (by intro z; cases z) (by decide)))
      (C8.pss_cut (ps_for PassesOwn.never rfl (pi_range1 (by rfl) B.range (pa_cons (pe_call GN hr1 (by rfl) gN kN bN .nil pass0 (pa_cons (pv 0) (pa_cons (pe_int) pa_nil))) pa_nil)) (pg_name (i := 3) nd rfl (.inl rfl)) (pss_cons (ps_set (i := 4) nd rfl (.inr rfl) (pe_op op_add (pe_int) (pe_call GN hr1 (by rfl) gN kN bN .nil pass0 (pa_cons (pv 0) (pa_cons (pe_int) pa_nil)))))
      (pss_one (ps_expr (pe_bm PySem.F.plainAttrs_list PySem.F.slot_list_append PySem.F.type_list_append mt_append (pe_dget hud (pv 2) pe_str (fun _ _ => rfl)) (pa_cons (pe_tup (pa_cons (pv 4) (pa_cons (pe_op op_mod (pe_call GN hr1 (by rfl) gN kN bN .nil pass0 (pa_cons (pv 0) (pa_cons (pe_int) pa_nil))) (pe_op op_shl pe_int (pv 4))) pa_nil))) pa_nil))))))
      (C8.pss_cut (ps_for PassesOwn.never rfl (pi_range1 (by rfl) B.range (pa_cons (pe_call GN hr1 (by rfl) gN kN bN .nil pass0 (pa_cons (pv 0) (pa_cons (pe_int) pa_nil))) pa_nil)) (pg_name (i := 3) nd rfl (.inl rfl)) (pss_one (ps_expr (pe_bm PySem.F.plainAttrs_list PySem.F.slot_list_append PySem.F.type_list_append mt_append (pe_dget hud (pv 2) pe_str (fun _ _ => rfl)) (pa_cons (pe_tup (pa_cons (pe_op op_add (pe_int) (pe_call GN hr1 (by rfl) gN kN bN .nil pass0 (pa_cons (pv 0) (pa_cons (pe_int) pa_nil)))) (pa_cons (pe_op op_add (pe_int) (pe_call GN hr1 (by rfl) gN kN bN .nil pass0 (pa_cons (pv 0) (pa_cons (pe_int) pa_nil)))) pa_nil))) pa_nil)))))
      (pss_cons (ps_asg (pe_tup (pa_cons (pe_lst pa_nil) (pa_cons (pe_lst pa_nil) pa_nil))) (pg_tup (by rfl) (pgs_cons (pg_name (i := 5) nd rfl (.inr rfl)) (pgs_cons (pg_name (i := 6) nd rfl (.inr rfl)) pgs_nil))))
      (C8.pss_cut (ps_for PassesOwn.never rfl (pi_range1 (by rfl) B.range (pa_cons (pe_op op_add (pe_int) (pe_call GN hr1 (by rfl) gN kN bN .nil pass0 (pa_cons (pv 0) (pa_cons (pv 1) pa_nil)))) pa_nil)) (pg_name (i := 3) nd rfl (.inl rfl)) (pss_cons (ps_asg (pe_call GR hr (by rfl) gR kR bR .nil pass0 (pa_cons (pv 0) (pa_cons (pv 2) (pa_cons (pv 6) pa_nil)))) (pg_tup (by rfl) (pgs_cons (pg_name (i := 7) nd rfl (.inl rfl)) (pgs_cons (pg_name (i := 4) nd rfl (.inr rfl)) pgs_nil))))
      (pss_cons (ps_expr (pe_bm PySem.F.plainAttrs_list PySem.F.slot_list_append PySem.F.type_list_append mt_append (pv 5) (pa_cons (pv 7) pa_nil)))
      (pss_one (ps_expr (pe_bm PySem.F.plainAttrs_list PySem.F.slot_list_append PySem.F.type_list_append mt_append (pv 6) (pa_cons (pv 4) pa_nil)))))))
      (pss_cons (ps_set (i := 8) nd rfl (.inl rfl) (pe_lst pa_nil))
      (C8.pss_cut (ps_for PassesOwn.never rfl (pi_list (pe_dget hud (pv 2) pe_str (fun _ _ => rfl))) (pg_tup (by rfl) (pgs_cons (pg_name (i := 4) nd rfl (.inr rfl)) (pgs_cons (pg_name (i := 9) nd rfl (.inl rfl)) pgs_nil))) (pss_cons (ps_setLc (i := 10) (own := [("k", 3)]) (g := gName 3) (tt := tTest (tOp rEq (tOp (rIxL K) (tVar 6) (tVar 3)) (tVar 4))) rfl nd rfl rfl (sw_true rfl rfl rfl (by decide +kernel)) (pi_range1 (by rfl) B.range (pa_cons (pe_callB call_len_seq (by rfl) B.len PySem.boot_len (pa_cons (pv 5) pa_nil)) pa_nil)) (blkOk_by (N := NC) (sc := defScope sCircuit) (by decide +kernel)) (fun _ _ _ _ _ => pg_name (i := 3) nd rfl (.inl rfl)) (fun _ _ _ _ _ => pts_one (pt_cmpR op_eq (pe_ix ix_list (pv 6) (pv 3) (fun _ _ => rfl)) (pv 4) (nomark _))) (fun _ _ _ _ _ => pv 3))
      (C8.pss_cut (ps_if (pt_cmpR (op_eqD hu) (pv 10) (pe_lst pa_nil) (nomark _)) (pss_cons (ps_expr (pe_bm PySem.F.plainAttrs_list PySem.F.slot_list_append PySem.F.type_list_append mt_append (pv 5) (pa_cons (pe_tup (pa_cons (pe_str) (pa_cons (pe_int) (pa_cons (pv 4) pa_nil)))) pa_nil)))
      (pss_cons (ps_expr (pe_bm PySem.F.plainAttrs_list PySem.F.slot_list_append PySem.F.type_list_append mt_append (pv 6) (pa_cons (pv 4) pa_nil)))
      (pss_one (ps_set (i := 10) nd rfl (.inl rfl) (pe_lst (pa_cons (pe_op op_sub (pe_callB call_len_seq (by rfl) B.len PySem.boot_len (pa_cons (pv 5) pa_nil)) (pe_int)) pa_nil)))))) pss_nil)
      (pss_one (ps_expr (pe_bm PySem.F.plainAttrs_list PySem.F.slot_list_append PySem.F.type_list_append mt_append (pv 8) (pa_cons (pe_ix ix_list (pv 10) (pe_call GN hr1 (by rfl) gN kN bN .nil pass0 (pa_cons (pv 0) (pa_cons (pe_callB call_len_seq (by rfl) B.len PySem.boot_len (pa_cons (pv 10) pa_nil)) pa_nil))) (fun _ _ => rfl)) pa_nil)))))))
      (pss_cons (ps_set (i := 11) nd rfl (.inl rfl) (pe_lst pa_nil))
      (C8.pss_cut (ps_for PassesOwn.never rfl (pi_range1 (by rfl) B.range (pa_cons (pe_callB call_len_seq (by rfl) B.len PySem.boot_len (pa_cons (pe_dget hud (pv 2) pe_str (fun _ _ => rfl)) pa_nil)) pa_nil)) (pg_name (i := 12) nd rfl (.inl rfl)) (pss_cons (ps_setLc (i := 13) (own := [("width", 4)]) (g := gName 4) (tt := tYes) (te := tLc (iRng1 (tCons (tCB (rLen K) (tCons (tVar 5) tNil)) tNil)) (gName 3) (tTest (tOp rEq (tOp (rIxL K) (tVar 6) (tVar 3)) (tVar 4))) (tVar 3) [3]) rfl nd rfl rfl (sw_true rfl rfl rfl (by decide +kernel)) (pi_tup (pe_op op_catT (pe_ix ix_list (pe_dget hud (pv 2) pe_str (fun _ _ => rfl)) (pv 12) (fun _ _ => rfl)) (pe_tup (pa_cons (pe_int) pa_nil)))) (blkOk_by (N := NC) (sc := defScope sCircuit) (by decide +kernel)) (fun _ _ _ _ _ => pg_name (i := 4) nd rfl (.inr rfl)) (fun _ _ _ _ _ => pts_nil) (fun _ _ _ _ _ => by exact (pe_lc (own := [("k", 3)]) (g := gName 3) (tt := tTest (tOp rEq (tOp (rIxL K) (tVar 6) (tVar 3)) (tVar 4))) (te := tVar 3) rfl nd (pi_range1 (by rfl) B.range (pa_cons (pe_callB call_len_seq (by rfl) B.len PySem.boot_len (pa_cons (pv 5) pa_nil)) pa_nil)) (blkOk_by (own := [("k", 3)]) (N := NC) (sc := scW) (by decide +kernel)) (fun _ _ _ _ _ => pg_name (i := 3) nd rfl (.inl rfl)) (fun _ _ _ _ _ => pts_one (pt_cmpR op_eq (pe_ix ix_list (pv 6) (pv 3) (fun _ _ => rfl)) (pv 4) (nomark _))) (fun _ _ _ _ _ => pv 3))))
      (pss_one (ps_if (PW.pt (pw_and (pt_cmpR (op_eqD hu) (pe_lc (own := [("part", 15)]) (g := gName 15) (tt := tTest (tOp (rEqD K) (tVar 15) (tLst tNil))) (te := tVar 15) rfl nd (pi_list (pv 13)) (blkOk_by (own := [("part", 15)]) (N := NC) (sc := defScope sCircuit) (by decide +kernel)) (fun _ _ _ _ _ => pg_name (i := 15) nd rfl (.inl rfl)) (fun _ _ _ _ _ => pts_one (pt_cmpR (op_eqD hu) (pv 15) (pe_lst pa_nil) (nomark _))) (fun _ _ _ _ _ => pv 15)) (pe_lst pa_nil) (nomark _)) (pw_and1 (pt_cmpR op_gt (pe_call GN hr1 (by rfl) gN kN bN .nil pass0 (pa_cons (pv 0) (pa_cons (pe_int) pa_nil))) (pe_int) (nomark _))))) (pss_one (ps_expr (pe_bm PySem.F.plainAttrs_list PySem.F.slot_list_append PySem.F.type_list_append mt_append (pv 11) (pa_cons (pe_op op_catT (pe_tup (pa_cons (pv 12) pa_nil)) (pe_callTy call_tuple_of (by rfl) mt (by decide +kernel) (pa_cons (pe_lc (own := [("part", 15)]) (g := gName 15) (tt := tYes) (te := tOp (rIxL K) (tVar 15) (tCall spNext [] E0 (tCons (tVar 0) (tCons (tCB (rLen K) (tCons (tVar 15) tNil)) tNil)))) rfl nd (pi_list (pv 13)) (blkOk_by (own := [("part", 15)]) (N := NC) (sc := defScope sCircuit) (by decide +kernel)) (fun _ _ _ _ _ => pg_name (i := 15) nd rfl (.inl rfl)) (fun _ _ _ _ _ => pts_nil) (fun _ _ _ _ _ => by exact (pe_ix ix_list (pv 15) (pe_call GN hr1 (by rfl) gN kN bN .nil pass0 (pa_cons (pv 0) (pa_cons (pe_callB call_len_seq (by rfl) B.len PySem.boot_len (pa_cons (pv 15) pa_nil)) pa_nil))) (fun _ _ => rfl)))) pa_nil))) pa_nil)))) pss_nil))))
      (pss_cons (ps_set (i := 14) nd rfl (.inl rfl) (pe_callTy call_tuple_of (by rfl) mt (by decide +kernel) (pa_cons (pe_lc (own := [("k", 3)]) (g := gName 3) (tt := tYes) (te := tCall spNext [] E0 (tCons (tVar 0) (tCons (tCB (rLen K) (tCons (tVar 5) tNil)) tNil))) rfl nd (pi_range1 (by rfl) B.range (pa_cons (pe_call GN hr1 (by rfl) gN kN bN .nil pass0 (pa_cons (pv 0) (pa_cons (pe_int) pa_nil))) pa_nil)) (blkOk_by (own := [("k", 3)]) (N := NC) (sc := defScope sCircuit) (by decide +kernel)) (fun _ _ _ _ _ => pg_name (i := 3) nd rfl (.inl rfl)) (fun _ _ _ _ _ => pts_nil) (fun _ _ _ _ _ => by exact (pe_call GN hr1 (by rfl) gN kN bN .nil pass0 (pa_cons (pv 0) (pa_cons (pe_callB call_len_seq (by rfl) B.len PySem.boot_len (pa_cons (pv 5) pa_nil)) pa_nil))))) pa_nil)))
      (pss_one (ps_ret (pe_tup (pa_cons (pe_callTy call_tuple_of (by rfl) mt (by decide +kernel) (pa_cons (pe_dget hud (pv 2) pe_str (fun _ _ => rfl)) pa_nil)) (pa_cons (pe_callTy call_tuple_of (by rfl) mt (by decide +kernel) (pa_cons (pe_dget hud (pv 2) pe_str (fun _ _ => rfl)) pa_nil)) (pa_cons (pe_callTy call_tuple_of (by rfl) mt (by decide +kernel) (pa_cons (pv 5) pa_nil)) (pa_cons (pe_callTy call_tuple_of (by rfl) mt (by decide +kernel) (pa_cons (pv 8) pa_nil)) (pa_cons (pe_callTy call_tuple_of (by rfl) mt (by decide +kernel) (pa_cons (pv 11) pa_nil)) (pa_cons (pv 14) pa_nil))))))))))))))))))), ?_⟩
    have line : ∀ n : Nat, n ≤ 200 → n ≤ sizeLine := fun n h => by
      rw [sizeLine_eq]
      omega
    have lineS : ∀ n : Nat, n ≤ 200 → n < sizeLine := fun n h => by
      rw [sizeLine_eq]
      omega
    have two : ∀ n : Nat, (1 : Int) * 2 ^ (((n : Nat) : Int)).toNat = ((2 ^ n : Nat) : Int) := fun n => by
      rw [Int.toNat_natCast, Int.one_mul, Int.natCast_pow]
      rfl
    refine fun c nc => ⟨Nat.zero_le _, fun rl nrl => ⟨Nat.zero_le _, fun ml nml => ?_⟩⟩
    have c1 : c ≠ rl := ne_of_none upd_same nrl
    have c2 : c ≠ ml := ne_of_none (by rw [upd_ne c1]; exact upd_same) nml
    have c3 : rl ≠ ml := ne_of_none upd_same nml
    have wrl : H rl = none := by
      rw [upd_ne c1.symm] at nrl
      exact nrl
    have wml : H ml = none := by
      rw [upd_ne c3.symm, upd_ne c2.symm] at nml
      exact nml
    refine ⟨by rw [upd_ne c2, upd_ne c1]; exact upd_same, cdL rl ml, rfl, (by show 2 ≤ 15; decide), ?_⟩
    rw [cd_merge]
    obtain ⟨H0, eH0⟩ : ∃ H0, H0 = upd (upd (upd (upd H c (.dK [])) rl (.lst [])) ml (.lst [])) c (.dK (cdL rl ml)) := ⟨_, rfl⟩
    have k0 : Kp a H H0 := by
      rw [eH0]
      exact (((Kp.refl H).put nc).put wrl |>.put wml).put nc
    have nel := W.ne2 nc
    have ner := W.ne2 wrl
    have nem := W.ne2 wml
    have W0 : Wd H0 a l ds := by
      rw [eH0]
      exact (((W.put nel.1 nel.2).put ner.1 ner.2).put nem.1 nem.2).put nel.1 nel.2
    have hc0 : H0 c = some (.dK (cdL rl ml)) := by
      rw [eH0]
      exact upd_same
    have hr0 : H0 rl = some (.lst []) := by
      rw [eH0, upd_ne c1.symm, upd_ne c3]
      exact upd_same
    have hm0 : H0 ml = some (.lst []) := by
      rw [eH0, upd_ne c2.symm]
      exact upd_same
    rw [← eH0]
    -- the registers
    let S1 : List (Nat × Nat) → Hp → Prop := fun regs H' => Kp a H H' ∧ Wd H' a l ds ∧ H' c = some (.dK (cdL rl ml)) ∧ (∃ rvs, H' rl = some (.lst rvs) ∧ DpAll K H' rvs (regs.map pr)) ∧ H' ml = some (.lst []) ∧ RegsOk regs
    refine ⟨fun σ H' => ∃ (y3 y4 : Option V) (regs : List (Nat × Nat)), σ = [some (.ref a), some (iV m), some (.ref c), y3, y4, none, none, none, none, none, none, none, none, none, none, none] ∧ S1 regs H' ∧ regs.length ≤ 4, ?_, ?_⟩
    · refine ⟨_, rfl, a, l, ds, 5, rfl, by decide, W0, fun n1 H1 hn1 k1 e1 W1 => ⟨_, rfl, by omega, by omega, for_range (n := n1) (fun i σ H' => ∃ (y3 y4 : Option V) (regs : List (Nat × Nat)), σ = [some (.ref a), some (iV m), some (.ref c), y3, y4, none, none, none, none, none, none, none, none, none, none, none] ∧ S1 regs H' ∧ regs.length ≤ i) ⟨_, _, [], rfl, ⟨k0.trans k1, W1, k1 c _ nel.1 hc0, ⟨[], k1 rl _ ner.1 hr0, .nil⟩, k1 ml _ nem.1 hm0, fun p hp => by cases hp⟩, Nat.zero_le _⟩ (fun i σ H' hi h => ?_) (fun σ H' h => ?_)⟩⟩
      · obtain ⟨y3, y4, regs, rfl, ⟨kk, WW, cc, ⟨rvs, r1, r2⟩, mm, ro⟩, rn⟩ := h
        refine ⟨_, rfl, a, l, ds, 5, rfl, by decide, WW, fun r2' H3 hr2 k3 _ W3 => ⟨_, _, rfl, rfl, ?_⟩⟩
        show gName 4 (V.int (1 + ((r2' : Nat) : Int))) _ _ _
        rw [show 1 + ((r2' : Nat) : Int) = ((1 + r2' : Nat) : Int) by omega]
        have pos : 0 < 2 ^ (1 + r2') := Nat.pow_pos (by decide)
        refine ⟨_, rfl, c, _, rfl, cd_regs (k3 c _ nel.1 cc), .inl ⟨rfl, _, SqL.of (k3 rl _ ner.1 r1)⟩, _, rfl, ?_⟩
        refine ⟨_, rfl, a, l, ds, 997, rfl, by decide, W3, fun rv H4 hrv k4 _ W4 => ?_⟩
        refine ⟨_, rfl, _, _, rfl, rfl, ⟨by omega, by omega, by decide⟩, _, _, rfl, rfl, ?_, line 2 (by decide), fun q' nq => ?_⟩
        · show (0 : Int) < 1 * 2 ^ ((1 + r2' : Nat) : Int).toNat
          rw [two]
          omega
        have ev : ((rv : Nat) : Int) % (1 * 2 ^ (((1 + r2' : Nat) : Int)).toNat) = ((rv % 2 ^ (1 + r2') : Nat) : Int) := by
          rw [two, ← Int.natCast_emod]
        have k34 := k3.trans k4
        have k5 := k34.trans (Kp.new (o := .tup [iV (1 + r2'), .int (((rv : Nat) : Int) % (1 * 2 ^ (((1 + r2' : Nat) : Int)).toNat))]) nq)
        have W5 := W4.new (o := .tup [iV (1 + r2'), .int (((rv : Nat) : Int) % (1 * 2 ^ (((1 + r2' : Nat) : Int)).toNat))]) nq
        have r15 := k5 rl _ ner.1 r1
        have lrv : rvs.length = regs.length := by
          have := dps_len r2
          rw [List.length_map] at this
          exact this
        refine ⟨rl, _, _, rfl, rfl, r15, by rw [lrv]; exact lineS _ (by omega), ?_⟩
        refine ⟨_, _, regs ++ [(1 + r2', rv % 2 ^ (1 + r2'))], rfl, ⟨(kk.trans k5).put wrl, W5.put ner.1 ner.2, by rw [upd_ne c1]; exact k5 c _ nel.1 cc, ⟨_, upd_same, ?_⟩, by rw [upd_ne c3.symm]; exact k5 ml _ nem.1 mm, ?_⟩, ?_⟩
        · rw [List.map_append]
          exact push_dps r15 (stay_dps WW k5 (noLs_pr _) r2) (noLs_pr _) (.tup (SqT.of upd_same) (.cons (.int _) (.cons (by show Dp K _ _ (.int ((rv % 2 ^ (1 + r2') : Nat) : Int)); rw [← ev]; exact .int _) .nil))) rfl
        · intro p hp
          rcases List.mem_append.mp hp with z | z
          · exact ro p z
          · rw [List.mem_singleton.mp z]
            exact ⟨by show 1 ≤ 1 + r2'; omega, by show 1 + r2' ≤ 5; omega, Nat.mod_lt _ pos⟩
        · rw [List.length_append]
          show regs.length + 1 ≤ i + 1
          omega
      · obtain ⟨y3, y4, regs, rfl, h1, h2⟩ := h
        exact ⟨_, _, regs, rfl, h1, by omega⟩
    rintro σ H1 ⟨y3, y4, regs, rfl, ⟨kk, WW, cc, ⟨rvs, r1, r2⟩, mm, ro⟩, rn⟩
    -- the memories
    have lrg : rvs.length = regs.length := by
      have := dps_len r2
      rw [List.length_map] at this
      exact this
    let S2 : List (Nat × Nat) → Hp → Prop := fun mems H' => Kp a H H' ∧ Wd H' a l ds ∧ H' c = some (.dK (cdL rl ml)) ∧ (∃ rvs, H' rl = some (.lst rvs) ∧ DpAll K H' rvs (regs.map pr)) ∧ (∃ mvs, H' ml = some (.lst mvs) ∧ DpAll K H' mvs (mems.map pr)) ∧ MemsOk mems
    refine ⟨fun σ H' => ∃ (y3 y4 : Option V) (mems : List (Nat × Nat)), σ = [some (.ref a), some (iV m), some (.ref c), y3, y4, none, none, none, none, none, none, none, none, none, none, none] ∧ S2 mems H' ∧ mems.length ≤ 2, ?_, ?_⟩
    · refine ⟨_, rfl, a, l, ds, 3, rfl, by decide, WW, fun n1 H1 hn1 k1 e1 W1 => ⟨_, rfl, by omega, by omega, for_range (n := n1) (fun i σ H' => ∃ (y3 y4 : Option V) (mems : List (Nat × Nat)), σ = [some (.ref a), some (iV m), some (.ref c), y3, y4, none, none, none, none, none, none, none, none, none, none, none] ∧ S2 mems H' ∧ mems.length ≤ i) ⟨_, _, [], rfl, ⟨kk.trans k1, W1, k1 c _ nel.1 cc, ⟨rvs, k1 rl _ ner.1 r1, stay_dps WW k1 (noLs_pr _) r2⟩, ⟨[], k1 ml _ nem.1 mm, .nil⟩, fun p hp => by cases hp⟩, Nat.zero_le _⟩ (fun i σ H' hi h => ?_) (fun σ H' h => ?_)⟩⟩
      · obtain ⟨y3, y4, mems, rfl, ⟨kk, WW, cc, ⟨rvs, r1, r2⟩, ⟨mvs, m1, m2⟩, mo⟩, rn⟩ := h
        refine ⟨_, rfl, c, _, rfl, cd_mems cc, .inl ⟨rfl, _, SqL.of m1⟩, ?_⟩
        refine ⟨_, rfl, a, l, ds, 2, rfl, by decide, WW, fun ra H3 hra k3 _ W3 => ⟨_, _, rfl, rfl, _, rfl, a, l, ds, 4, rfl, by decide, W3, fun rb H4 hrb k4 _ W4 => ⟨_, _, rfl, rfl, line 2 (by decide), fun q' nq => ?_⟩⟩⟩
        have k34 := k3.trans k4
        have k5 := k34.trans (Kp.new (o := .tup [.int (1 + ((ra : Nat) : Int)), .int (1 + ((rb : Nat) : Int))]) nq)
        have W5 := W4.new (o := .tup [.int (1 + ((ra : Nat) : Int)), .int (1 + ((rb : Nat) : Int))]) nq
        have m15 := k5 ml _ nem.1 m1
        have lmv : mvs.length = mems.length := by
          have := dps_len m2
          rw [List.length_map] at this
          exact this
        have r15 := k5 rl _ ner.1 r1
        refine ⟨ml, _, _, rfl, rfl, m15, by rw [lmv]; exact lineS _ (by omega), ?_⟩
        refine ⟨_, _, mems ++ [(1 + ra, 1 + rb)], rfl, ⟨(kk.trans k5).put wml, W5.put nem.1 nem.2, by rw [upd_ne c2]; exact k5 c _ nel.1 cc, ⟨rvs, by rw [upd_ne c3]; exact r15, ?_⟩, ⟨_, upd_same, ?_⟩, ?_⟩, ?_⟩
        · exact dps_stay (tups_upd m15) _ _ (stay_dps WW k5 (noLs_pr _) r2) (noLs_pr _)
        · rw [List.map_append]
          refine push_dps m15 (stay_dps WW k5 (noLs_pr _) m2) (noLs_pr _) (.tup (SqT.of upd_same) (.cons (dpI (y := ((1 + ra : Nat) : Int)) (by omega)) (.cons (dpI (y := ((1 + rb : Nat) : Int)) (by omega)) .nil))) rfl
        · intro p hp
          rcases List.mem_append.mp hp with z | z
          · exact mo p z
          · rw [List.mem_singleton.mp z]
            exact ⟨by show 1 ≤ 1 + ra; omega, by show 1 + ra ≤ 2; omega, by show 1 ≤ 1 + rb; omega, by show 1 + rb ≤ 4; omega⟩
        · rw [List.length_append]
          show mems.length + 1 ≤ i + 1
          omega
      · obtain ⟨y3, y4, mems, rfl, h1, h2⟩ := h
        exact ⟨_, _, mems, rfl, h1, by omega⟩
    clear kk WW cc r1 r2 mm
    rintro σ Hb ⟨y3, y4, mems, rfl, ⟨kk, WW, cc, ⟨rvs, r1, r2⟩, ⟨mvs, m1, m2⟩, mo⟩, mn⟩
    have lrv : rvs.length = regs.length := by
      have := dps_len r2
      rw [List.length_map] at this
      exact this
    have lmv : mvs.length = mems.length := by
      have := dps_len m2
      rw [List.length_map] at this
      exact this
    have CD0 : CD K Hb c rl ml regs mems := ⟨cc, ⟨rvs, r1, r2⟩, ⟨mvs, m1, m2⟩⟩
    -- rows, widths
    refine ⟨Nat.zero_le _, fun R nR => ⟨Nat.zero_le _, fun Wl nW => ⟨line 2 (by decide), fun t nt => ?_⟩⟩⟩
    have RW : R ≠ Wl := ne_of_none upd_same nW
    have nWb : Hb Wl = none := by
      rw [upd_ne RW.symm] at nW
      exact nW
    refine ⟨t, _, rfl, SqT.of upd_same, rfl, _, _, rfl, _, _, rfl, rfl, ?_⟩
    have hRt : R ≠ t := ne_of_none (by rw [upd_ne RW]; exact upd_same) nt
    have hWt : Wl ≠ t := ne_of_none upd_same nt
    have ntb : Hb t = none := by
      rw [upd_ne hWt.symm, upd_ne hRt.symm] at nt
      exact nt
    have neR := WW.ne2 nR
    have neW := WW.ne2 nWb
    have net := WW.ne2 ntb
    let Rw : List Row → List Nat → Hp → Prop := fun rows ws H' => Kp a Hb H' ∧ Wd H' a l ds ∧ (∃ vs, H' R = some (.lst vs) ∧ DpAll K H' vs (rows.map Row.d)) ∧ H' Wl = some (.lst (ws.map iV)) ∧ RowsOk regs mems rows ws
    have Rw0 : Rw [] [] (upd (upd (upd Hb R (.lst [])) Wl (.lst [])) t (.tup [.ref R, .ref Wl])) := ⟨(((Kp.refl Hb).put nR).put nWb).put ntb, ((WW.put neR.1 neR.2).put neW.1 neW.2).put net.1 net.2, ⟨[], by rw [upd_ne hRt, upd_ne RW]; exact upd_same, .nil⟩, by rw [upd_ne hWt]; exact upd_same, .nil⟩
    have RwPush : ∀ {rows ws H' q' row wd}, Rw rows ws H' → Dp K H' (.ref q') row.d → RowOk regs mems ws row wd → 1 ≤ wd → wd ≤ 12 → rows.length ≤ 100 → ∃ vs, H' R = some (.lst vs) ∧ vs.length < sizeLine ∧ (∀ o, (upd H' R o) Wl = some (.lst (ws.map iV))) ∧ (ws.map iV).length < sizeLine ∧ Rw (rows ++ [row]) (ws ++ [wd]) (upd (upd H' R (.lst (vs ++ [.ref q']))) Wl (.lst (ws.map iV ++ [iV wd]))) := by
      rintro rows ws H' q' row wd ⟨k, W', ⟨vs, v1, v2⟩, w1, ro⟩ hd ho h1 h2 hl
      have e1 := dps_len v2
      rw [List.length_map] at e1
      have e2 := rows_len ro
      refine ⟨vs, v1, lineS _ (by omega), fun o => by rw [upd_ne RW.symm]; exact w1, by rw [List.length_map]; exact lineS _ (by omega), (k.put nR).put nWb, (W'.put neR.1 neR.2).put neW.1 neW.2, ⟨_, by rw [upd_ne RW]; exact upd_same, ?_⟩, ?_, .snoc ro ho h1 h2⟩
      · have w2 : (upd H' R (.lst (vs ++ [.ref q']))) Wl = some (.lst (ws.map iV)) := by
          rw [upd_ne RW.symm]
          exact w1
        have h := dps_stay (tups_upd (o := .lst (ws.map iV ++ [iV wd])) w2) _ _ (push_dps (o := .lst (vs ++ [.ref q'])) v1 v2 (noLs_rows _) hd (Row.noL _)) (by rw [noLs_app, noLs_rows]; show (true && (noL row.d && true)) = true; rw [Row.noL]; rfl)
        rw [List.map_append]
        exact h
      · rw [List.map_append]
        exact upd_same
    refine ⟨fun σ H' => ∃ (y3 y4 y7 : Option V) (rows : List Row) (ws : List Nat), σ = [some (.ref a), some (iV m), some (.ref c), y3, y4, some (.ref R), some (.ref Wl), y7, none, none, none, none, none, none, none, none] ∧ Rw rows ws H' ∧ 0 < ws.length ∧ ws.length ≤ 53, ?_, ?_⟩
    · refine ⟨_, rfl, _, rfl, a, l, ds, _, rfl, by omega, Rw0.2.1, fun n1 H1 hn1 k1 e1 W1 => ⟨_, _, rfl, rfl, _, rfl, by omega, by omega, ?_⟩⟩
      refine for_range (n := (4 + ((n1 : Nat) : Int)).toNat) (fun i σ H' => ∃ (y3 y4 y7 : Option V) (rows : List Row) (ws : List Nat), σ = [some (.ref a), some (iV m), some (.ref c), y3, y4, some (.ref R), some (.ref Wl), y7, none, none, none, none, none, none, none, none] ∧ Rw rows ws H' ∧ ws.length = i) ⟨_, _, _, [], [], rfl, ⟨Rw0.1.trans k1, W1, ?_, k1 Wl _ neW.1 Rw0.2.2.2.1, .nil⟩, rfl⟩ (fun i σ H' hi h => ?_) (fun σ H' h => ?_)
      · obtain ⟨vs, v1, v2⟩ := Rw0.2.2.1
        exact ⟨vs, k1 R _ neR.1 v1, stay_dps Rw0.2.1 k1 rfl v2⟩
      · obtain ⟨y3, y4, y7, rows, ws, rfl, RR, wl⟩ := h
        have hil : i < 53 := by omega
        refine ⟨_, rfl, _, rfl, _, rfl, a, l, c, rl, ml, Wl, ds, regs, mems, ws, rfl, RR.2.1, CD0.kp WW RR.1, RR.2.2.2.1, ro, mo, rows_ws RR.2.2.2.2, by omega, by omega, by omega, fun H4 p q' row wd k4 W4 hp hq ho h1 h2 => ?_⟩
        refine ⟨p, _, rfl, SqT.of hp, rfl, _, _, rfl, _, _, rfl, rfl, ?_⟩
        have R4 : Rw rows ws H4 := ⟨RR.1.trans k4, W4, by
          obtain ⟨vs, v1, v2⟩ := RR.2.2.1
          exact ⟨vs, k4 R _ neR.1 v1, stay_dps RR.2.1 k4 (noLs_rows _) v2⟩, k4 Wl _ neW.1 RR.2.2.2.1, RR.2.2.2.2⟩
        have rl4 := rows_len R4.2.2.2.2
        obtain ⟨vs, v1, v2, w1, w2, RP⟩ := RwPush R4 hq ho h1 h2 (by omega)
        refine ⟨_, rfl, .inl ⟨rfl, _, SqL.of v1⟩, _, rfl, R, _, _, rfl, rfl, v1, v2, ?_⟩
        refine ⟨_, rfl, .inl ⟨rfl, _, SqL.of (w1 _)⟩, _, rfl, Wl, _, _, rfl, rfl, w1 _, w2, ?_⟩
        refine ⟨_, _, _, rows ++ [row], ws ++ [wd], rfl, RP, ?_⟩
        rw [List.length_append]
        show ws.length + 1 = i + 1
        omega
      · obtain ⟨y3, y4, y7, rows, ws, rfl, RR, wl⟩ := h
        exact ⟨_, _, _, rows, ws, rfl, RR, by omega, by omega⟩
    rintro σ H1 ⟨y3, y4, y7, rows, ws, rfl, RR, wpos, wlen⟩
    -- the nexts
    refine ⟨Nat.zero_le _, fun N nN => ?_⟩
    obtain ⟨kb, W1, ⟨rws, rw1, rw2⟩, wl1, rok⟩ := RR
    have NR' : R ≠ N := ne_of_none rw1 nN
    have NW' : Wl ≠ N := ne_of_none wl1 nN
    have nNb : Hb N = none := kp_none kb (W1.fresh nN) nN
    have neN := WW.ne2 nNb
    have RN : Rw rows ws (upd H1 N (.lst [])) := ⟨kb.put nNb, W1.put neN.1 neN.2, ⟨rws, by rw [upd_ne NR']; exact rw1, stay_dps W1 (Kp.new nN) (noLs_rows _) rw2⟩, by rw [upd_ne NW']; exact wl1, rok⟩
    let Nx : List Nat → List Nat → Prop := fun ws nexts => ∀ (j : Nat) (p : Nat × Nat) (n : Nat), regs[j]? = some p → nexts[j]? = some n → ws[n]? = some p.1
    refine ⟨fun σ H' => ∃ (y3 y4 y7 y9 y10 : Option V) (rows : List Row) (ws nexts : List Nat), σ = [some (.ref a), some (iV m), some (.ref c), y3, y4, some (.ref R), some (.ref Wl), y7, some (.ref N), y9, y10, none, none, none, none, none] ∧ Rw rows ws H' ∧ H' N = some (.lst (nexts.map iV)) ∧ nexts.length = regs.length ∧ Nx ws nexts ∧ 0 < ws.length ∧ ws.length ≤ 57, ?_, ?_⟩
    · have rlN : ∀ {H2 : Hp}, Kp a Hb H2 → H2 rl = some (.lst rvs) := fun k => k rl _ ner.1 r1
      refine ⟨_, rfl, c, _, rfl, cd_regs (CD0.kp WW RN.1).c0, rl, rfl, ⟨_, SqL.of (rlN RN.1)⟩, for_list (xs := rvs) (fun i σ H' => ∃ (y3 y4 y7 y9 y10 : Option V) (rows : List Row) (ws nexts : List Nat), σ = [some (.ref a), some (iV m), some (.ref c), y3, y4, some (.ref R), some (.ref Wl), y7, some (.ref N), y9, y10, none, none, none, none, none] ∧ Rw rows ws H' ∧ H' N = some (.lst (nexts.map iV)) ∧ nexts.length = i ∧ Nx ws nexts ∧ 0 < ws.length ∧ ws.length ≤ 53 + i) ⟨_, _, _, _, _, rows, ws, [], rfl, RN, upd_same, rfl, fun j p n _ h => by simp at h, wpos, wlen⟩ (fun i σ H' hi h => ?_) (fun i x σ H' hx h => ?_) (fun σ H' h => ?_)⟩
      · obtain ⟨_, _, _, _, _, rows, ws, nexts, _, RR, _⟩ := h
        exact SqL.of (rlN RR.1)
      · obtain ⟨y3, y4, y7, y9, y10, rows, ws, nexts, rfl, RR, hN, nl, nx, wp, wl⟩ := h
        have hi : i < regs.length := by
          rw [← lrv]
          exact (List.getElem?_eq_some_iff.mp hx).1
        obtain ⟨p, ep⟩ : ∃ p, regs[i]? = some p := ⟨_, List.getElem?_eq_getElem hi⟩
        have rbd := ro p (List.mem_of_getElem? ep)
        obtain ⟨b, hb1, hb2⟩ := pr_at (stay_dps WW RR.1 (noLs_pr _) r2) ep
        have exb : x = .ref b := Option.some.inj (hx.symm.trans hb1)
        subst exb
        obtain ⟨kb, W1, ⟨rws, rw1, rw2⟩, wl1, rok⟩ := RR
        have lrw : rws.length = ws.length := by
          have := dps_len rw2
          rw [List.length_map] at this
          rw [this, rows_len rok]
        refine ⟨b, _, rfl, hb2, rfl, _, _, rfl, _, _, rfl, rfl, ?_⟩
        refine ⟨_, rfl, R, _, rfl, .inl (SqL.of rw1), ?_⟩
        rw [lrw]
        have ROn : ∀ {O : Addr} {o : HO}, H' O = none → Rw rows ws (upd H' O o) ∧ O ≠ R ∧ O ≠ Wl ∧ O ≠ N ∧ (upd H' O o) N = some (.lst (nexts.map iV)) := fun {O o} nO => by
          have n1 : R ≠ O := ne_of_none rw1 nO
          have n2 : Wl ≠ O := ne_of_none wl1 nO
          have n3 : N ≠ O := ne_of_none hN nO
          exact ⟨⟨kb.trans (Kp.new nO), W1.new nO, ⟨rws, by rw [upd_ne n1]; exact rw1, stay_dps W1 (Kp.new nO) (noLs_rows _) rw2⟩, by rw [upd_ne n2]; exact wl1, rok⟩, n1.symm, n2.symm, n3.symm, by rw [upd_ne n3]; exact hN⟩
        refine ⟨_, rfl, by omega, by omega, fun O nO => lc_range (n := ws.length) (fun j H2 => H2 = upd H' O (.lst ((fits ws p.1 j).map iV))) rfl (fun j H2 hj h => ?_) (fun H2 h => ?_)⟩
        · subst h
          rw [Int.zero_add]
          have wlO := (ROn (o := .lst ((fits ws p.1 j).map iV)) nO).1.2.2.2.1
          obtain ⟨v, ev⟩ : ∃ v, ws[j]? = some v := ⟨_, List.getElem?_eq_getElem hj⟩
          refine ⟨rfl, _, rfl, _, rfl, Wl, _, _, _, rfl, rfl, SqL.of wlO, atI_nat (int_at ev), _, rfl, rfl, _, rfl, ite2 (fun a2 => ?_) (fun a2 => ?_)⟩
          · have e2 : v = p.1 := Int.ofNat.inj (V.int.inj (of_decide_eq_true a2))
            refine ⟨_, rfl, _, upd_same, ?_, ?_⟩
            · rw [List.length_map]
              exact Nat.lt_of_le_of_lt (fits_len _ _ _) (lineS _ (by omega))
            · rw [upd_upd, fits_yes (by rw [ev, e2]), List.map_append]
              rfl
          · rw [fits_no (by rw [ev]; intro z; exact a2 (decide_eq_true (by rw [Option.some.inj z])))]
        subst h
        obtain ⟨RO, o1, o2, o3, hNO⟩ := ROn (o := .lst ((fits ws p.1 ws.length).map iV)) nO
        have nOb : Hb O = none := kp_none kb (W1.fresh nO) nO
        have neO := WW.ne2 nOb
        refine ⟨fun σ H2 => ∃ (rows : List Row) (ws ks : List Nat) (O : Addr), σ = [some (.ref a), some (iV m), some (.ref c), y3, some (iV p.1), some (.ref R), some (.ref Wl), y7, some (.ref N), some (iV p.2), some (.ref O), none, none, none, none, none] ∧ Rw rows ws H2 ∧ H2 N = some (.lst (nexts.map iV)) ∧ H2 O = some (.lst (ks.map iV)) ∧ 0 < ks.length ∧ ks.length ≤ 100 ∧ (∀ k ∈ ks, ws[k]? = some p.1) ∧ Nx ws nexts ∧ 0 < ws.length ∧ ws.length ≤ 53 + (i + 1), ?_, ?_⟩
        · refine ⟨_, rfl, Nat.zero_le _, fun z nz => ?_⟩
          have wlz : (upd (upd H' O (.lst ((fits ws p.1 ws.length).map iV))) z (.lst [])) O = some (.lst ((fits ws p.1 ws.length).map iV)) := by
            rw [upd_ne (ne_of_none upd_same nz)]
            exact upd_same
          have n1 : R ≠ z := ne_of_none RO.2.2.1.choose_spec.1 nz
          have n2 : Wl ≠ z := ne_of_none RO.2.2.2.1 nz
          have n3 : N ≠ z := ne_of_none hNO nz
          have hNz : (upd (upd H' O (.lst ((fits ws p.1 ws.length).map iV))) z (.lst [])) N = some (.lst (nexts.map iV)) := by
            rw [upd_ne n3]
            exact hNO
          obtain ⟨kO, WO, ⟨rws2, rw12, rw22⟩, wl12, rok2⟩ := RO
          have Rz : Rw rows ws (upd (upd H' O (.lst ((fits ws p.1 ws.length).map iV))) z (.lst [])) := ⟨kO.trans (Kp.new nz), WO.new nz, ⟨rws2, by rw [upd_ne n1]; exact rw12, stay_dps WO (Kp.new nz) (noLs_rows _) rw22⟩, by rw [upd_ne n2]; exact wl12, rok2⟩
          refine ⟨.list ((fits ws p.1 ws.length).map iD), .list [], .lst (SqL.of wlz) (dps_ints _), .lst (SqL.of upd_same) .nil, shaped_list _ (cL_int _), shaped_list [] (fun d hd => by cases hd), _, rfl, ?_⟩
          rw [eqv_nil]
          refine ite2 (fun a2 => ?_) (fun a2 => ?_)
          · -- a row of the law's own
            obtain ⟨vz, vz1, _⟩ := Rz.2.2.1
            refine ⟨_, rfl, .inl ⟨rfl, _, SqL.of vz1⟩, _, rfl, line 3 (by decide), fun q' nq => ?_⟩
            have n4 : R ≠ q' := ne_of_none Rz.2.2.1.choose_spec.1 nq
            have n5 : Wl ≠ q' := ne_of_none Rz.2.2.2.1 nq
            have n6 : N ≠ q' := ne_of_none hNz nq
            obtain ⟨kz, Wz, ⟨rws3, rw13, rw23⟩, wl13, rok3⟩ := Rz
            have Rq : Rw rows ws (upd (upd (upd H' O (.lst ((fits ws p.1 ws.length).map iV))) z (.lst [])) q' (.tup [.str "lit", .int 1, iV p.1])) := ⟨kz.trans (Kp.new nq), Wz.new nq, ⟨rws3, by rw [upd_ne n4]; exact rw13, stay_dps Wz (Kp.new nq) (noLs_rows _) rw23⟩, by rw [upd_ne n5]; exact wl13, rok3⟩
            have h2p : 1 < 2 ^ p.1 := Nat.lt_of_lt_of_le (by decide : 1 < 2 ^ 1) (Nat.pow_le_pow_right (by decide) rbd.1)
            have rle := rows_len rok3
            obtain ⟨vs, v1, v2, w1, w2, RP⟩ := RwPush (q' := q') (row := .lit 1 p.1) (wd := p.1) Rq (.tup (SqT.of upd_same) (.cons (.str _) (.cons (.int _) (.cons (.int _) .nil)))) (.lit h2p) rbd.1 (by omega) (by omega)
            have hNq : (upd (upd (upd H' O (.lst ((fits ws p.1 ws.length).map iV))) z (.lst [])) q' (.tup [.str "lit", .int 1, iV p.1])) N = some (.lst (nexts.map iV)) := by
              rw [upd_ne n6]
              exact hNz
            refine ⟨R, _, _, rfl, rfl, v1, v2, ?_⟩
            refine ⟨_, rfl, .inl ⟨rfl, _, SqL.of (w1 _)⟩, _, rfl, Wl, _, _, rfl, rfl, w1 _, w2, ?_⟩
            obtain ⟨vs5, v5, d5⟩ := RP.2.2.1
            have l5 : vs5.length = ws.length + 1 := by
              have := dps_len d5
              rw [List.length_map, List.length_append] at this
              rw [this, rle]
              rfl
            refine ⟨_, rfl, R, _, rfl, .inl (SqL.of v5), _, _, rfl, rfl, line 1 (by decide), fun O2 nO2 => ?_⟩
            have n7 : R ≠ O2 := ne_of_none v5 nO2
            have n8 : Wl ≠ O2 := ne_of_none RP.2.2.2.1 nO2
            have hNP : (upd (upd (upd (upd (upd H' O (.lst ((fits ws p.1 ws.length).map iV))) z (.lst [])) q' (.tup [.str "lit", .int 1, iV p.1])) R (.lst (vs ++ [.ref q']))) Wl (.lst (ws.map iV ++ [iV p.1]))) N = some (.lst (nexts.map iV)) := by
              rw [upd_ne NW'.symm, upd_ne NR'.symm]
              exact hNq
            have n9 : N ≠ O2 := ne_of_none hNP nO2
            obtain ⟨k6, W6, ⟨rws6, rw16, rw26⟩, wl16, rok6⟩ := RP
            have e6 : (((vs5.length : Nat) : Int)) - 1 = ((ws.length : Nat) : Int) := by omega
            refine ⟨rows ++ [.lit 1 p.1], ws ++ [p.1], [ws.length], O2, rfl, ⟨k6.trans (Kp.new nO2), W6.new nO2, ⟨rws6, by rw [upd_ne n7]; exact rw16, stay_dps W6 (Kp.new nO2) (noLs_rows _) rw26⟩, by rw [upd_ne n8]; exact wl16, rok6⟩, by rw [upd_ne n9]; exact hNP, ?_, Nat.zero_lt_one, (by show 1 ≤ 100; decide), fun k hk => ?_, fun j pp n hj hn => ?_, ?_, ?_⟩
            · show _ = some (HO.lst [V.int ((ws.length : Nat) : Int)])
              rw [← e6]
              exact upd_same
            · rw [List.mem_singleton.mp hk, List.getElem?_append_right (Nat.le_refl _), Nat.sub_self]
              rfl
            · have := nx j pp n hj hn
              rw [List.getElem?_append_left (List.getElem?_eq_some_iff.mp this).1]
              exact this
            · rw [List.length_append]
              omega
            · rw [List.length_append]
              show ws.length + 1 ≤ 53 + (i + 1)
              omega
          · refine ⟨rows, ws, fits ws p.1 ws.length, O, rfl, Rz, hNz, wlz, ?_, Nat.le_trans (fits_len _ _ _) (by omega), fun k hk => (fits_mem.mp hk).2, nx, wp, by omega⟩
            cases e : fits ws p.1 ws.length with
            | nil =>
              rw [e] at a2
              exact absurd rfl a2
            | cons _ _ => exact Nat.zero_lt_succ _
        rintro σ H2 ⟨rows, ws, ks, O, rfl, R2, hN2, hO2, kp, kl, kall, nx2, wp2, wl2⟩
        refine ⟨_, rfl, .inl ⟨rfl, _, SqL.of hN2⟩, _, rfl, _, rfl, _, rfl, O, _, rfl, .inl (SqL.of hO2), a, l, ds, _, rfl, by rw [List.length_map]; omega, R2.2.1, fun r7 H3 hr7 k7 _ W7 => ?_⟩
        rw [List.length_map] at hr7
        obtain ⟨kv, ek⟩ : ∃ kv, ks[r7]? = some kv := ⟨_, List.getElem?_eq_getElem (by omega)⟩
        have neO2 : O ≠ a := fun z => by
          obtain ⟨_, _, e⟩ := R2.2.1.at'
          rw [z, e] at hO2
          cases hO2
        have hN3 := k7 N _ neN.1 hN2
        refine ⟨O, _, _, _, rfl, rfl, SqL.of (k7 O _ neO2 hO2), atI_nat (int_at ek), N, _, _, rfl, rfl, hN3, by rw [List.length_map]; exact lineS _ (by omega), ?_⟩
        obtain ⟨k6, W6, ⟨rws6, rw16, rw26⟩, wl16, rok6⟩ := R2
        refine ⟨_, _, _, _, _, rows, ws, nexts ++ [kv], rfl, ⟨(k6.trans k7).put nNb, W7.put neN.1 neN.2, ⟨rws6, by rw [upd_ne NR']; exact k7 R _ neR.1 rw16, ?_⟩, by rw [upd_ne NW']; exact k7 Wl _ neW.1 wl16, rok6⟩, ?_, ?_, ?_, wp2, wl2⟩
        · exact dps_stay (tups_upd hN3) _ _ (stay_dps W6 k7 (noLs_rows _) rw26) (noLs_rows _)
        · rw [List.map_append]
          exact upd_same
        · rw [List.length_append]
          show nexts.length + 1 = i + 1
          omega
        · intro j pp n hj hn
          by_cases hjl : j < nexts.length
          · rw [List.getElem?_append_left hjl] at hn
            exact nx2 j pp n hj hn
          · rw [List.getElem?_append_right (by omega)] at hn
            have : j - nexts.length = 0 := by
              have := (List.getElem?_eq_some_iff.mp hn).1
              simp at this
              omega
            rw [this] at hn
            have e1 : kv = n := Option.some.inj hn
            have e2 : j = i := by omega
            subst e1 e2
            rw [ep] at hj
            cases hj
            exact kall _ (List.mem_of_getElem? ek)
      · obtain ⟨y3, y4, y7, y9, y10, rows, ws, nexts, rfl, RR, hN, nl, nx, wp, wl⟩ := h
        exact ⟨_, _, _, _, _, rows, ws, nexts, rfl, RR, hN, by omega, nx, wp, by omega⟩
    rintro σ Hs ⟨y3, y4, y7, y9, y10, rows, ws, nexts, rfl, RR, hN, nl, nx, wp, wl⟩
    -- the stores
    refine ⟨Nat.zero_le _, fun St nS => ?_⟩
    obtain ⟨kb, Ws, ⟨rws, rw1, rw2⟩, wl1, rok⟩ := RR
    have lrw : rws.length = ws.length := by
      have := dps_len rw2
      rw [List.length_map] at this
      rw [this, rows_len rok]
    have neS := Ws.ne2 nS
    have kS : Kp a Hs (upd Hs St (.lst [])) := (Kp.refl Hs).put nS
    have WS : Wd (upd Hs St (.lst [])) a l ds := Ws.put neS.1 neS.2
    let SoOk : (Nat × Nat × Nat × Nat) → Prop := fun s => ∃ p : Nat × Nat, mems[s.1]? = some p ∧ ws[s.2.1]? = some p.1 ∧ ws[s.2.2.1]? = some p.2 ∧ ws[s.2.2.2]? = some 1
    let S5 : List (Nat × Nat × Nat × Nat) → Hp → Prop := fun stores H' => Kp a Hs H' ∧ Wd H' a l ds ∧ (∃ svs, H' St = some (.lst svs) ∧ DpAll K H' svs (stores.map stD)) ∧ ∀ s ∈ stores, SoOk s
    have CDs : CD K Hs c rl ml regs mems := CD0.kp WW kb
    refine ⟨fun σ H' => ∃ (y3 y4 y7 y9 y10 y12 y13 : Option V) (stores : List (Nat × Nat × Nat × Nat)), σ = [some (.ref a), some (iV m), some (.ref c), y3, y4, some (.ref R), some (.ref Wl), y7, some (.ref N), y9, y10, some (.ref St), y12, y13, none, none] ∧ S5 stores H' ∧ stores.length ≤ 2, ?_, ?_⟩
    · refine ⟨_, rfl, c, _, rfl, cd_mems (CDs.kp Ws kS).c0, ml, _, rfl, .inl (SqL.of (kS ml _ (wd_lne Ws (kb ml _ nem.1 m1)) (kb ml _ nem.1 m1))), ?_⟩
      rw [lmv]
      refine ⟨_, rfl, by omega, by omega, for_range (n := mems.length) (fun i σ H' => ∃ (y3 y4 y7 y9 y10 y12 y13 : Option V) (stores : List (Nat × Nat × Nat × Nat)), σ = [some (.ref a), some (iV m), some (.ref c), y3, y4, some (.ref R), some (.ref Wl), y7, some (.ref N), y9, y10, some (.ref St), y12, y13, none, none] ∧ S5 stores H' ∧ stores.length ≤ i) ⟨_, _, _, _, _, _, _, [], rfl, ⟨kS, WS, ⟨[], upd_same, .nil⟩, fun s hs => by cases hs⟩, Nat.zero_le _⟩ (fun i σ H' hi h => ?_) (fun σ H' h => ?_)⟩
      · obtain ⟨y3, y4, y7, y9, y10, y12, y13, stores, rfl, ⟨k5, W5, ⟨svs, s1, s2⟩, sok⟩, sl⟩ := h
        show gName 12 (V.int (0 + ((i : Nat) : Int))) _ _ _
        rw [Int.zero_add]
        obtain ⟨p, ep⟩ : ∃ p, mems[i]? = some p := ⟨_, List.getElem?_eq_getElem hi⟩
        have bd := mo p (List.mem_of_getElem? ep)
        have k5b := kb.trans k5
        obtain ⟨b, hb1, hb2⟩ := pr_at (stay_dps WW k5b (noLs_pr _) m2) ep
        -- the tuple of widths
        refine ⟨_, rfl, c, _, rfl, cd_mems (CDs.kp Ws k5).c0, _, rfl, ml, _, _, _, rfl, rfl, SqL.of (k5b ml _ nem.1 m1), atI_nat (j := i) hb1, line 1 (by decide), fun u nu => ?_⟩
        have ku := k5.trans (Kp.new (o := .tup [.int 1]) nu)
        have Wu := W5.new (o := .tup [.int 1]) nu
        have hbu : SqT K (upd H' u (.tup [.int 1])) b [iV p.1, iV p.2] := by
          obtain ⟨_, _, e⟩ := W5.at'
          exact kp_tup e (Kp.new nu) _ _ hb2
        refine ⟨b, u, _, _, rfl, rfl, hbu, SqT.of upd_same, (fun z => by cases z), line 3 (by decide), (fun z => by cases z), fun _ v nv => ?_⟩
        have kv := ku.trans (Kp.new (o := .tup [iV p.1, iV p.2, .int 1]) nv)
        have Wv := Wu.new (o := .tup [iV p.1, iV p.2, .int 1]) nv
        let Hv : Hp := upd (upd H' u (.tup [.int 1])) v (.tup [iV p.1, iV p.2, .int 1])
        have hv : Hv v = some (.tup [iV p.1, iV p.2, iV 1]) := upd_same
        have neV : v ≠ a := Wu.fresh nv
        have svHv : DpAll K Hv svs (stores.map stD) := stay_dps W5 ((Kp.new nu).trans (Kp.new nv)) (noLs_st _) s2
        have nSa : St ≠ a := neS.1
        have s1v : Hv St = some (.lst svs) := by
          show (upd (upd H' u (.tup [.int 1])) v (.tup [iV p.1, iV p.2, .int 1])) St = _
          rw [upd_ne (ne_of_none (by rw [upd_ne (ne_of_none s1 nu)]; exact s1) nv), upd_ne (ne_of_none s1 nu)]
          exact s1
        have atW : ∀ {H2 : Hp} {j x : Nat}, Kp a Hv H2 → ws[j]? = some x → SqL K H2 Wl (ws.map iV) ∧ atI (ws.map iV) ((j : Nat) : Int) = some (iV x) := fun k e => ⟨SqL.of ((kv.trans k) Wl _ neW.1 wl1), atI_nat (int_at e)⟩
        have atR : ∀ {H2 : Hp}, Kp a Hv H2 → SqL K H2 R rws := fun k => SqL.of ((kv.trans k) R _ neR.1 rw1)
        let wants : List Nat := [p.1, p.2, 1]
        refine ⟨v, rfl, ⟨_, SqT.of hv⟩, fun D nD => ?_⟩
        obtain ⟨PvO, ePO⟩ : ∃ PvO : Nat → Hp → Prop, PvO = fun j H2 => Kp a Hv H2 ∧ Wd H2 a l ds ∧ ∃ os : List Addr, os.length = j ∧ H2 D = some (.lst (os.map V.ref)) ∧ ∀ (k : Nat) (o : Addr), os[k]? = some o → o ≠ D ∧ ∃ x : Nat, wants[k]? = some x ∧ H2 o = some (.lst ((fits ws x ws.length).map iV)) := ⟨_, rfl⟩
        have neD : D ≠ a := Wv.fresh nD
        refine lc_tup (xs := wants.map iV) PvO ?_ (fun j H2 _ h => ?_) (fun j x H2 hx h => ?_) (fun H2 h => ?_)
        · rw [ePO]
          exact ⟨Kp.new nD, Wv.new nD, [], rfl, upd_same, fun k o h => by simp at h⟩
        · rw [ePO] at h
          exact SqT.of (h.1 v _ neV hv)
        · rw [ePO] at h
          obtain ⟨k2, W2, os, ol, hD, hos⟩ := h
          obtain ⟨xw, exw⟩ : ∃ xw, wants[j]? = some xw := by
            rw [List.getElem?_map] at hx
            cases e : wants[j]? with
            | none =>
              rw [e] at hx
              cases hx
            | some xw => exact ⟨xw, rfl⟩
          have ex : x = iV xw := by
            rw [List.getElem?_map, exw] at hx
            exact (Option.some.inj hx).symm
          subst ex
          refine ⟨rfl, ?_⟩
          refine ⟨_, rfl, R, _, rfl, .inl (atR k2), ?_⟩
          rw [lrw]
          refine ⟨_, rfl, by omega, by omega, fun O nO => lc_range (n := ws.length) (fun k H3 => H3 = upd H2 O (.lst ((fits ws xw k).map iV))) rfl (fun k H3 hk h => ?_) (fun H3 h => ?_)⟩
          · subst h
            rw [Int.zero_add]
            have k3 := k2.trans (Kp.new (o := .lst ((fits ws xw k).map iV)) nO)
            obtain ⟨x, ev⟩ : ∃ x, ws[k]? = some x := ⟨_, List.getElem?_eq_getElem hk⟩
            refine ⟨rfl, _, rfl, _, rfl, Wl, _, _, _, rfl, rfl, (atW k3 ev).1, (atW k3 ev).2, _, rfl, rfl, _, rfl, ite2 (fun a2 => ?_) (fun a2 => ?_)⟩
            · have e2 : x = xw := Int.ofNat.inj (V.int.inj (of_decide_eq_true a2))
              refine ⟨_, rfl, _, upd_same, ?_, ?_⟩
              · rw [List.length_map]
                exact Nat.lt_of_le_of_lt (fits_len _ _ _) (lineS _ (by omega))
              · rw [upd_upd, fits_yes (by rw [ev, e2]), List.map_append]
                rfl
            · rw [fits_no (by rw [ev]; intro z; exact a2 (decide_eq_true (by rw [Option.some.inj z])))]
          subst h
          have nDO : D ≠ O := ne_of_none hD nO
          have hj3 : j < 3 := (List.getElem?_eq_some_iff.mp exw).1
          refine ⟨os.map V.ref, by rw [upd_ne nDO]; exact hD, by rw [List.length_map, ol]; exact lineS _ (by omega), ?_⟩
          rw [ePO]
          have nDb : Hv D = none := nD
          refine ⟨(k2.trans (Kp.new nO)).put nDb, (W2.new nO).put neD (Wv.ne2 nD).2, os ++ [O], by rw [List.length_append, ol]; rfl, by rw [List.map_append]; exact upd_same, fun k o ho => ?_⟩
          by_cases hk : k < os.length
          · rw [List.getElem?_append_left hk] at ho
            obtain ⟨h1, x, h2, h3⟩ := hos k o ho
            refine ⟨h1, x, h2, ?_⟩
            rw [upd_ne h1, upd_ne (ne_of_none h3 nO)]
            exact h3
          · rw [List.getElem?_append_right (by omega)] at ho
            have e0 : k - os.length = 0 := by
              have := (List.getElem?_eq_some_iff.mp ho).1
              simp at this
              omega
            rw [e0] at ho
            cases ho
            have : k = j := by omega
            subst this
            refine ⟨nDO.symm, xw, exw, ?_⟩
            rw [upd_ne nDO.symm]
            exact upd_same
        rw [ePO] at h
        obtain ⟨k2, W2, os, ol, hD, hos⟩ := h
        have lneq : ∀ {H3 : Hp} {b : Addr} {xs : List V}, Wd H3 a l ds → H3 b = some (.lst xs) → b ≠ a := fun W h => wd_lne W h
        have S5of : ∀ {H3 : Hp}, Kp a Hv H3 → Wd H3 a l ds → S5 stores H3 := fun {H3} k W => ⟨kv.trans k, W, ⟨svs, k St _ nSa s1v, stay_dps Wv k (noLs_st _) svHv⟩, sok⟩
        have neE2 : ∀ {E : Addr}, H2 E = none → E ≠ a := fun n => W2.fresh n
        refine ⟨_, rfl, D, rfl, ⟨_, SqL.of hD⟩, fun E nE => ?_⟩
        obtain ⟨PvE, ePE⟩ : ∃ PvE : Nat → Hp → Prop, PvE = fun j H3 => Kp a H2 H3 ∧ Wd H3 a l ds ∧ ∃ acc : List Addr, H3 E = some (.lst (acc.map V.ref)) ∧ acc.length ≤ j ∧ (∀ o ∈ acc, o ≠ E ∧ H3 o = some (.lst [])) ∧ (acc = [] → ∀ (k x : Nat), k < j → wants[k]? = some x → fits ws x ws.length ≠ []) := ⟨_, rfl⟩
        refine lc_list (xs := os.map V.ref) PvE ?_ (fun j H3 _ h => ?_) (fun j x H3 hx h => ?_) (fun H3 h => ?_)
        · rw [ePE]
          exact ⟨Kp.new nE, W2.new nE, [], upd_same, Nat.le_refl 0, (fun o ho => by cases ho), (fun _ k x hk => by omega)⟩
        · rw [ePE] at h
          exact SqL.of (h.1 D _ neD hD)
        · rw [ePE] at h
          obtain ⟨k3, W3, acc, hE, al, hal, hemp⟩ := h
          have hx2 := hx
          rw [List.getElem?_map] at hx2
          obtain ⟨o, eo⟩ : ∃ o, os[j]? = some o := by
            cases e : os[j]? with
            | none =>
              rw [e] at hx2
              cases hx2
            | some o => exact ⟨o, rfl⟩
          rw [eo] at hx2
          have ex := (Option.some.inj hx2).symm
          subst ex
          obtain ⟨oD, xw, exw, ho2⟩ := hos j o eo
          have oa := lneq W2 ho2
          have ho3 := k3 o _ oa ho2
          have oE : o ≠ E := ne_of_none ho2 nE
          refine ⟨rfl, _, rfl, Nat.zero_le _, fun z nz => ?_⟩
          have zE : E ≠ z := ne_of_none hE nz
          have ho4 : (upd H3 z (.lst [])) o = some (.lst ((fits ws xw ws.length).map iV)) := by
            rw [upd_ne (ne_of_none ho3 nz)]
            exact ho3
          have hE4 : (upd H3 z (.lst [])) E = some (.lst (acc.map V.ref)) := by
            rw [upd_ne zE]
            exact hE
          refine ⟨.list ((fits ws xw ws.length).map iD), .list [], .lst (SqL.of ho4) (dps_ints _), .lst (SqL.of upd_same) .nil, shaped_list _ (cL_int _), shaped_list [] (fun d hd => by cases hd), _, rfl, ?_⟩
          rw [eqv_nil]
          have hj3 : j < 3 := by
            have := (List.getElem?_eq_some_iff.mp exw).1
            exact this
          refine ite2 (fun a2 => ?_) (fun a2 => ?_)
          · have ef : fits ws xw ws.length = [] := by
              cases e : fits ws xw ws.length with
              | nil => rfl
              | cons _ _ =>
                rw [e] at a2
                cases a2
            refine ⟨_, rfl, acc.map V.ref, hE4, by rw [List.length_map]; exact lineS _ (by omega), ?_⟩
            rw [ePE]
            refine ⟨(k3.trans (Kp.new nz)).put nE, (W3.new nz).put (neE2 nE) (W2.ne2 nE).2, acc ++ [o], by rw [List.map_append]; exact upd_same, by rw [List.length_append]; show acc.length + 1 ≤ j + 1; omega, fun o2 ho => ?_, fun e => by simp at e⟩
            rcases List.mem_append.mp ho with h | h
            · obtain ⟨h1, h2⟩ := hal o2 h
              exact ⟨h1, by rw [upd_ne h1, upd_ne (ne_of_none h2 nz)]; exact h2⟩
            · rw [List.mem_singleton.mp h]
              refine ⟨oE, ?_⟩
              rw [upd_ne oE]
              rw [ef] at ho4
              exact ho4
          · rw [ePE]
            refine ⟨k3.trans (Kp.new nz), W3.new nz, acc, hE4, by omega, fun o2 ho => ?_, fun e k x hk hw => ?_⟩
            · obtain ⟨h1, h2⟩ := hal o2 ho
              exact ⟨h1, by rw [upd_ne (ne_of_none h2 nz)]; exact h2⟩
            · by_cases hkj : k < j
              · exact hemp e k x hkj hw
              · have : k = j := by omega
                subst this
                rw [exw] at hw
                cases hw
                intro z2
                rw [z2] at a2
                exact a2 rfl
        rw [ePE] at h
        obtain ⟨k3, W3, acc, hE, al, hal, hemp⟩ := h
        have al3 : acc.length ≤ 3 := by
          rw [List.length_map, ol] at al
          exact al
        refine ⟨Nat.zero_le _, fun z nz => ?_⟩
        have hE4 : (upd H3 z (.lst [])) E = some (.lst (acc.map V.ref)) := by
          rw [upd_ne (ne_of_none hE nz)]
          exact hE
        have dpA : ∀ (L : List Addr) (H4 : Hp), (∀ o ∈ L, H4 o = some (.lst [])) → DpAll K H4 (L.map V.ref) (L.map fun _ => PyData.list []) := by
          intro L H4
          induction L with
          | nil => exact fun _ => .nil
          | cons o L ih => exact fun h => .cons (.lst (SqL.of (h o (List.mem_cons_self ..))) .nil) (ih fun o2 ho => h o2 (List.mem_cons_of_mem _ ho))
        refine ⟨.list (acc.map fun _ => PyData.list []), .list [], .lst (SqL.of hE4) (dpA acc _ fun o ho => by rw [upd_ne (ne_of_none (hal o ho).2 nz)]; exact (hal o ho).2), .lst (SqL.of upd_same) .nil, shaped_list _ (fun d hd => by
          obtain ⟨_, _, e⟩ := List.mem_map.mp hd
          subst e
          exact ⟨rfl, by decide⟩), shaped_list [] (fun d hd => by cases hd), _, rfl, ?_⟩
        rw [eqv_nil]
        have k4 : Kp a Hv (upd H3 z (.lst [])) := (k2.trans k3).trans (Kp.new nz)
        have W4 : Wd (upd H3 z (.lst [])) a l ds := W3.new nz
        refine ite2 (fun a2 => ?_) (fun a2 => ⟨_, _, _, _, _, _, _, stores, rfl, S5of k4 W4, by omega⟩)
        have ea : acc = [] := by
          cases acc with
          | nil => rfl
          | cons _ _ => cases a2
        refine ⟨_, rfl, a, l, ds, 4, rfl, by decide, W4, fun r8 H5 hr8 k8 _ W8 => ⟨_, _, rfl, rfl, _, rfl, ite2 (fun a3 => ?_) (fun a3 => ⟨_, _, _, _, _, _, _, stores, rfl, S5of (k4.trans k8) W8, by omega⟩)⟩⟩
        have k45 := k4.trans k8
        refine ⟨_, rfl, .inl ⟨rfl, _, SqL.of (k45 St _ nSa s1v)⟩, _, rfl, line 1 (by decide), fun u2 nu2 => ?_⟩
        have k28 : Kp a H2 H5 := ((k3.trans (Kp.new nz)).trans k8)
        have k2u := k28.trans (Kp.new (o := .tup [iV i]) nu2)
        have Wu2 := W8.new (o := .tup [iV i]) nu2
        have hu2 : (upd H5 u2 (.tup [iV i])) u2 = some (.tup [iV i]) := upd_same
        have u2a : u2 ≠ a := W8.fresh nu2
        refine ⟨_, rfl, D, rfl, ⟨_, SqL.of (k2u D _ neD hD)⟩, fun G nG => ?_⟩
        obtain ⟨PvG, ePG⟩ : ∃ PvG : Nat → Hp → Prop, PvG = fun j H6 => Kp a (upd H5 u2 (.tup [iV i])) H6 ∧ Wd H6 a l ds ∧ ∃ ks : List Nat, ks.length = j ∧ H6 G = some (.lst (ks.map iV)) ∧ ∀ (k n : Nat), ks[k]? = some n → ∃ x : Nat, wants[k]? = some x ∧ ws[n]? = some x := ⟨_, rfl⟩
        refine lc_list (xs := os.map V.ref) PvG ?_ (fun j H6 _ h => ?_) (fun j x H6 hx h => ?_) (fun H6 h => ?_)
        · rw [ePG]
          exact ⟨Kp.new nG, Wu2.new nG, [], rfl, upd_same, fun k n h => by simp at h⟩
        · rw [ePG] at h
          exact SqL.of ((k2u.trans h.1) D _ neD hD)
        · rw [ePG] at h
          obtain ⟨k6, W6, ks, kl, hG, hks⟩ := h
          have hx2 := hx
          rw [List.getElem?_map] at hx2
          obtain ⟨o, eo⟩ : ∃ o, os[j]? = some o := by
            cases e : os[j]? with
            | none =>
              rw [e] at hx2
              cases hx2
            | some o => exact ⟨o, rfl⟩
          rw [eo] at hx2
          have ex := (Option.some.inj hx2).symm
          subst ex
          obtain ⟨oD, xw, exw, ho2⟩ := hos j o eo
          have oa := lneq W2 ho2
          have ho6 := (k2u.trans k6) o _ oa ho2
          have jl : j < os.length := (List.getElem?_eq_some_iff.mp eo).1
          have hne := hemp ea j xw (by rw [List.length_map]; exact jl) exw
          have hpos : 0 < (fits ws xw ws.length).length := List.length_pos_iff.mpr hne
          have Ga : G ≠ a := Wu2.fresh nG
          refine ⟨rfl, _, rfl, _, rfl, _, rfl, o, _, rfl, .inl (SqL.of ho6), a, l, ds, _, rfl, by rw [List.length_map]; omega, W6, fun r9 H7 hr9 k9 _ W9 => ?_⟩
          rw [List.length_map] at hr9
          obtain ⟨kv9, ek⟩ : ∃ kv9, (fits ws xw ws.length)[r9]? = some kv9 := ⟨_, List.getElem?_eq_getElem (by omega)⟩
          refine ⟨o, _, _, _, rfl, rfl, SqL.of (k9 o _ oa ho6), atI_nat (int_at ek), ks.map iV, k9 G _ Ga hG, by rw [List.length_map]; exact lineS _ (by have : os.length = 3 := ol; omega), ?_⟩
          rw [ePG]
          refine ⟨(k6.trans k9).put nG, W9.put Ga (Wu2.ne2 nG).2, ks ++ [kv9], by rw [List.length_append, kl]; rfl, by rw [List.map_append]; exact upd_same, fun k n hn => ?_⟩
          by_cases hk : k < ks.length
          · rw [List.getElem?_append_left hk] at hn
            exact hks k n hn
          · rw [List.getElem?_append_right (by omega)] at hn
            have e0 : k - ks.length = 0 := by
              have := (List.getElem?_eq_some_iff.mp hn).1
              simp at this
              omega
            rw [e0] at hn
            cases hn
            have : k = j := by omega
            subst this
            exact ⟨xw, exw, (fits_at ek).2⟩
        rw [ePG, List.length_map, ol] at h
        obtain ⟨k6, W6, ks, kl, hG, hks⟩ := h
        refine ⟨G, _, rfl, .inl ⟨SqL.of hG, fun t3 nt3 => ?_⟩⟩
        have hu3 := k6 u2 _ u2a hu2
        have hu4 : (upd H6 t3 (.tup (ks.map iV))) u2 = some (.tup [iV i]) := by
          rw [upd_ne (ne_of_none hu3 nt3)]
          exact hu3
        have kne : ks.map iV ≠ [] := fun e => by
          have := congrArg List.length e
          rw [List.length_map, kl] at this
          cases this
        refine ⟨u2, t3, _, _, rfl, rfl, SqT.of hu4, SqT.of upd_same, (fun e => by cases e), by rw [List.length_map, kl]; exact line 4 (by decide), (fun e => absurd e kne), fun _ q4 nq4 => ?_⟩
        have kA : Kp a Hv (upd (upd H6 t3 (.tup (ks.map iV))) q4 (.tup ([iV i] ++ ks.map iV))) := (((((k2.trans k3).trans (Kp.new nz)).trans k8).trans (Kp.new nu2)).trans k6).trans ((Kp.new nt3).trans (Kp.new nq4))
        have WA : Wd (upd (upd H6 t3 (.tup (ks.map iV))) q4 (.tup ([iV i] ++ ks.map iV))) a l ds := (W6.new nt3).new nq4
        have hSA := kA St _ nSa s1v
        have lsv : svs.length = stores.length := by
          have := dps_len s2
          rw [List.length_map] at this
          exact this
        have bound : stores.length ≤ 2 := by omega
        refine ⟨St, _, _, rfl, rfl, hSA, by rw [lsv]; exact lineS _ (by omega), ?_⟩
        have nSHs : Hs St = none := nS
        obtain ⟨x0, x1, x2, eks⟩ : ∃ x0 x1 x2, ks = [x0, x1, x2] := by
          match ks, kl with
          | [x0, x1, x2], _ => exact ⟨x0, x1, x2, rfl⟩
        subst eks
        refine ⟨_, _, _, _, _, _, _, stores ++ [(i, x0, x1, x2)], rfl, ⟨(kv.trans kA).put nSHs, WA.put neS.1 neS.2, ⟨_, upd_same, ?_⟩, fun s hs => ?_⟩, by rw [List.length_append]; show stores.length + 1 ≤ i + 1; omega⟩
        · rw [List.map_append]
          exact push_dps hSA (stay_dps Wv kA (noLs_st _) svHv) (noLs_st _) (.tup (SqT.of upd_same) (.cons (.int _) (.cons (.int _) (.cons (.int _) (.cons (.int _) .nil))))) rfl
        · rcases List.mem_append.mp hs with h | h
          · exact sok s h
          · rw [List.mem_singleton.mp h]
            obtain ⟨w0, e0, f0⟩ := hks 0 x0 rfl
            obtain ⟨w1, e1, f1⟩ := hks 1 x1 rfl
            obtain ⟨w2, e2, f2⟩ := hks 2 x2 rfl
            cases e0
            cases e1
            cases e2
            exact ⟨p, ep, f0, f1, f2⟩
      · obtain ⟨y3, y4, y7, y9, y10, y12, y13, stores, rfl, h1, h2⟩ := h
        exact ⟨_, _, _, _, _, _, _, stores, rfl, h1, by omega⟩
    rintro σ H6 ⟨y3, y4, y7, y9, y10, y12, y13, stores, rfl, ⟨k5, W5, ⟨svs, s1, s2⟩, sok⟩, sl⟩
    -- what is told, and the whole
    refine ⟨_, rfl, a, l, ds, 5, rfl, by decide, W5, fun n6 H7 hn6 k7 _ W7 => ⟨_, rfl, by omega, by omega, fun D nD => ?_⟩⟩
    have neD := W7.ne2 nD
    have ks7 := k5.trans k7
    obtain ⟨Pv, ePv⟩ : ∃ Pv : Nat → Hp → Prop, Pv = fun j H8 => Kp a H7 H8 ∧ Wd H8 a l ds ∧ ∃ ks : List Nat, ks.length = j ∧ H8 D = some (.lst (ks.map iV)) ∧ ∀ k ∈ ks, k < ws.length := ⟨_, rfl⟩
    refine lc_range (n := n6) Pv ?_ (fun j H8 hj h => ?_) (fun H8 h => ?_)
    · rw [ePv]
      exact ⟨Kp.new nD, W7.new nD, [], rfl, upd_same, fun k hk => by cases hk⟩
    · rw [ePv] at h
      obtain ⟨k8, W8, ks, kl, hD, hks⟩ := h
      refine ⟨rfl, _, rfl, _, rfl, R, _, rfl, .inl (SqL.of ((ks7.trans k8) R _ neR.1 rw1)), a, l, ds, _, rfl, by omega, W8, fun r9 H9 hr9 k9 _ W9 => ?_⟩
      refine ⟨ks.map iV, k9 D _ neD.1 hD, by rw [List.length_map]; exact lineS _ (by omega), ?_⟩
      rw [ePv]
      refine ⟨(k8.trans k9).put nD, W9.put neD.1 neD.2, ks ++ [r9], by rw [List.length_append, kl]; rfl, by rw [List.map_append]; exact upd_same, fun k hk => ?_⟩
      rcases List.mem_append.mp hk with h | h
      · exact hks k h
      · rw [List.mem_singleton.mp h]
        omega
    rw [ePv] at h
    obtain ⟨k8, W8, os, ol, hD, hos⟩ := h
    have ks8 := ks7.trans k8
    refine ⟨D, _, rfl, .inl ⟨SqL.of hD, fun t0 n0 => ?_⟩⟩
    have g0 : Kp a H8 (upd H8 t0 (.tup (os.map iV))) := Kp.new n0
    have V0 : Wd (upd H8 t0 (.tup (os.map iV))) a l ds := W8.new n0
    have hb := kb.trans (ks8.trans g0)
    refine ⟨_, rfl, c, _, rfl, cd_regs (CD0.kp WW hb).c0, rl, _, rfl, .inl ⟨SqL.of (hb rl _ ner.1 r1), fun t1 n1 => ?_⟩⟩
    have g1 := g0.trans (Kp.new (o := .tup rvs) n1)
    have V1 := V0.new (o := .tup rvs) n1
    have hb1 := kb.trans (ks8.trans g1)
    refine ⟨_, rfl, c, _, rfl, cd_mems (CD0.kp WW hb1).c0, ml, _, rfl, .inl ⟨SqL.of (hb1 ml _ nem.1 m1), fun t2 n2 => ?_⟩⟩
    have g2 := g1.trans (Kp.new (o := .tup mvs) n2)
    have V2 := V1.new (o := .tup mvs) n2
    refine ⟨_, rfl, R, _, rfl, .inl ⟨SqL.of ((ks8.trans g2) R _ neR.1 rw1), fun t3 n3 => ?_⟩⟩
    have g3 := g2.trans (Kp.new (o := .tup rws) n3)
    have V3 := V2.new (o := .tup rws) n3
    refine ⟨_, rfl, N, _, rfl, .inl ⟨SqL.of ((ks8.trans g3) N _ neN.1 hN), fun t4 n4 => ?_⟩⟩
    have g4 := g3.trans (Kp.new (o := .tup (nexts.map iV)) n4)
    have V4 := V3.new (o := .tup (nexts.map iV)) n4
    refine ⟨_, rfl, St, _, rfl, .inl ⟨SqL.of (((k7.trans k8).trans g4) St _ neS.1 s1), fun t5 n5 => ?_⟩⟩
    have g5 := g4.trans (Kp.new (o := .tup svs) n5)
    have V5 := V4.new (o := .tup svs) n5
    refine ⟨_, rfl, line 6 (by decide), fun p np => ?_⟩
    have g6 := g5.trans (Kp.new (o := .tup [.ref t1, .ref t2, .ref t3, .ref t4, .ref t5, .ref t0]) np)
    have V6 := V5.new (o := .tup [.ref t1, .ref t2, .ref t3, .ref t4, .ref t5, .ref t0]) np
    have p6 : Kp a _ _ := Kp.new (a := a) (o := .tup [.ref t1, .ref t2, .ref t3, .ref t4, .ref t5, .ref t0]) np
    have p5 := (Kp.new (a := a) (o := .tup svs) n5).trans p6
    have p4 := (Kp.new (a := a) (o := .tup (nexts.map iV)) n4).trans p5
    have p3 := (Kp.new (a := a) (o := .tup rws) n3).trans p4
    have p2 := (Kp.new (a := a) (o := .tup mvs) n2).trans p3
    have p1 := (Kp.new (a := a) (o := .tup rvs) n1).trans p2
    have kf := kb.trans (ks8.trans g6)
    refine q _ p ⟨regs, mems, rows, nexts, stores, os⟩ ws (kk.trans kf) V6 (.tup (SqT.of upd_same) (.cons (.tup (SqT.of (p2 t1 _ (V0.fresh n1) upd_same)) ?_) (.cons (.tup (SqT.of (p3 t2 _ (V1.fresh n2) upd_same)) ?_) (.cons (.tup (SqT.of (p4 t3 _ (V2.fresh n3) upd_same)) ?_) (.cons (.tup (SqT.of (p5 t4 _ (V3.fresh n4) upd_same)) (dps_ints _)) (.cons (.tup (SqT.of (p6 t5 _ (V4.fresh n5) upd_same)) ?_) (.cons (.tup (SqT.of (p1 t0 _ (W8.fresh n0) upd_same)) (dps_ints _)) .nil))))))) ⟨ro, mo, rn, mn, rok, by omega, nl, nx, sok, sl, by show os.length ≤ 4; omega, hos⟩
    · exact stay_dps WW kf (noLs_pr _) r2
    · exact stay_dps WW kf (noLs_pr _) m2
    · exact stay_dps Ws (ks8.trans g6) (noLs_rows _) rw2
    · exact stay_dps W5 ((k7.trans k8).trans g6) (noLs_st _) s2
end
end C1

/-! The program's small tests. -/
namespace C1
open PySem PySem.Spec PyProof.Rows L2 SX
theorem scMask : FnScope ["width"] ["width"] (defScope sMask) := ⟨rfl, rfl, rfl, by decide +kernel, rfl, by decide +kernel, by decide +kernel⟩
theorem scIsTuple : FnScope ["thing", "many"] ["thing", "many"] (defScope sIsTuple) := ⟨rfl, rfl, rfl, by decide +kernel, rfl, by decide +kernel, by decide +kernel⟩
theorem scIsBelow : FnScope ["thing", "limit"] ["thing", "limit"] (defScope sIsBelow) := ⟨rfl, rfl, rfl, by decide +kernel, rfl, by decide +kernel, by decide +kernel⟩
theorem scIsWidth : FnScope ["thing"] ["thing"] (defScope sIsWidth) := ⟨rfl, rfl, rfl, by decide +kernel, rfl, by decide +kernel, by decide +kernel⟩
theorem scIsRegister : FnScope ["thing"] ["thing"] (defScope sIsRegister) := ⟨rfl, rfl, rfl, by decide +kernel, rfl, by decide +kernel, by decide +kernel⟩
theorem scIsMemory : FnScope ["thing"] ["thing"] (defScope sIsMemory) := ⟨rfl, rfl, rfl, by decide +kernel, rfl, by decide +kernel, by decide +kernel⟩
/-! ### what is asked, upon data -/
def tyD : PyData → String
  | .none => "NoneType"
  | .bool _ => "bool"
  | .int _ => "int"
  | .str _ => "str"
  | .list _ => "list"
  | .tuple _ => "tuple"
  | .dict _ => "dict"
theorem ty_of {K : PySem.W.Frag} {H : Hp} {v : V} {d : PyData} (h : Dp K H v d) : TyB K H v (tyD d) := by
  cases h with
  | non => exact .non
  | bl b => exact .bl b
  | int i => exact .int i
  | str x => exact .str x
  | lst s _ => exact .lst s
  | tup s _ => exact .tup s
theorem ty_int {d : PyData} (h : tyD d = "int") : ∃ i, d = .int i := by
  cases d <;> simp [tyD] at h
  exact ⟨_, rfl⟩
theorem ty_tup {d : PyData} (h : tyD d = "tuple") : ∃ i, d = .tuple i := by
  cases d <;> simp [tyD] at h
  exact ⟨_, rfl⟩
theorem ty_str {d : PyData} (h : tyD d = "str") : ∃ i, d = .str i := by
  cases d <;> simp [tyD] at h
  exact ⟨_, rfl⟩
/-- a whole number from lo on, below hi -/
def isI (d : PyData) (lo hi : Int) : Bool := match d with
  | .int i => decide (lo ≤ i) && decide (i < hi)
  | _ => false
def isT (d : PyData) (n : Nat) : Bool := match d with
  | .tuple xs => decide (xs.length = n)
  | _ => false
theorem isI_iff {d : PyData} {lo hi : Int} : isI d lo hi = true ↔ ∃ i, d = .int i ∧ lo ≤ i ∧ i < hi := by
  cases d <;> simp [isI]
theorem isT_iff {d : PyData} {n : Nat} : isT d n = true ↔ ∃ xs, d = .tuple xs ∧ xs.length = n := by
  cases d <;> simp [isT]
def regB (d : PyData) : Bool := match d with
  | .tuple [w, v] => match w with
    | .int i => isI (.int i) 1 33 && isI v 0 (2 ^ i.toNat)
    | _ => false
  | _ => false
def memB (d : PyData) : Bool := match d with
  | .tuple [b, w] => isI b 1 7 && isI w 1 33
  | _ => false
section
variable {P : Program} {w : World} {K : PySem.W.Frag} {mg : Str → Option Value} {base : Heap} {tw tb : Tok}
structure Gp (mg : Str → Option Value) (tw tb : Tok) : Prop where
  ty : mg "type" = none
  it : mg "int" = none
  tu : mg "tuple" = none
  st : mg "str" = none
  len : mg "len" = none
  all : mg "all" = none
  zip : mg "zip" = none
  mw : mg "MOST_WIDTH" = some (.int 32 tw)
  mb : mg "MOST_BITS" = some (.int 6 tb)
def spMask : Sp := fun vs H Q _ => ∃ n : Nat, vs = [.int ((n : Nat) : Int)] ∧ n ≤ 1000 ∧ Q (.int (2 ^ n - 1)) H
theorem ok_mask {f : Addr} {fd : FuncData} (F : Fun K "mask" "mask" sMask f fd) : FnOk P w K mg base CX0 1 f fd ["width"] spMask := by
  refine F.ok scMask (fun vs H Q E h => ?_) (fun cdv A outer s H vs Q E hr h => ?_)
  · obtain ⟨n, rfl, _⟩ := h
    rfl
  · obtain ⟨n, rfl, hn, q⟩ := h
    refine ⟨_, (pss_one (ps_ret (pe_op op_sub (pe_op op_shl pe_int (pv 0)) pe_int))), ?_⟩
    refine ⟨_, rfl, _, _, rfl, rfl, ⟨by omega, by omega, by decide⟩, _, _, rfl, rfl, ?_⟩
    have e : (1 : Int) * 2 ^ (((n : Nat) : Int)).toNat - 1 = 2 ^ n - 1 := by rw [Int.toNat_natCast, Int.one_mul]
    show Q (.int ((1 : Int) * 2 ^ (((n : Nat) : Int)).toNat - 1)) H
    rw [e]
    exact q
def spIsTuple (K : PySem.W.Frag) : Sp := fun vs H Q _ => ∃ (v : V) (d : PyData) (n : Nat), vs = [v, iV n] ∧ Dp K H v d ∧ Q (.bl (isT d n)) H
theorem ok_isTuple {f : Addr} {fd : FuncData} (F : Fun K "is_tuple" "is_tuple" sIsTuple f fd) (G : Gp mg tw tb) : FnOk P w K mg base CX0 1 f fd ["thing", "many"] (spIsTuple K) := by
  refine F.ok scIsTuple (fun vs H Q E h => ?_) (fun cdv A outer s H vs Q E hr h => ?_)
  · obtain ⟨v, d, n, rfl, _⟩ := h
    rfl
  · obtain ⟨v, d, n, rfl, hd, q⟩ := h
    refine ⟨_, (pss_one (ps_ret (pe_and (pe_cmpR op_isTyB (pe_callTy call_type1 (by rfl) G.ty (by decide +kernel) (pa_cons (pv 0) pa_nil)) (pe_bltn (v := .ty "tuple") (by rfl) G.tu (by decide +kernel) rfl) (nomark _)) (pe_one (pe_cmpR op_eq (pe_callB call_len_seq (by rfl) G.len PySem.boot_len (pa_cons (pv 0) pa_nil)) (pv 1) (nomark _)))))), ?_⟩
    refine ⟨_, rfl, _, _, rfl, ty_of hd, _, _, rfl, rfl, ?_⟩
    refine ⟨_, rfl, ite2 (fun a1 => ?_) (fun a1 => ?_)⟩
    · obtain ⟨ds, rfl⟩ := ty_tup (of_decide_eq_true a1)
      cases hd with
      | tup s a =>
        have l := dps_len a
        refine ⟨_, rfl, _, _, rfl, .inr s, _, rfl, rfl, ?_⟩
        rename_i xs
        have e2 : decide (V.int ((xs.length : Nat) : Int) = V.int ((n : Nat) : Int)) = isT (.tuple ds) n := by
          show _ = decide (ds.length = n)
          rw [l]
          refine decide_eq_decide.mpr ⟨fun h => ?_, fun h => by rw [h]⟩
          have := V.int.inj h
          omega
        rw [e2]
        exact q
    · have e : isT d n = false := by
        cases d with
        | tuple xs => exact absurd rfl a1
        | _ => rfl
      rw [e] at q
      exact q
def spIsBelow (K : PySem.W.Frag) : Sp := fun vs H Q _ => ∃ (v : V) (d : PyData) (n : Int), vs = [v, .int n] ∧ Dp K H v d ∧ Q (.bl (isI d 0 n)) H
theorem ok_isBelow {f : Addr} {fd : FuncData} (F : Fun K "is_below" "is_below" sIsBelow f fd) (G : Gp mg tw tb) : FnOk P w K mg base CX0 1 f fd ["thing", "limit"] (spIsBelow K) := by
  refine F.ok scIsBelow (fun vs H Q E h => ?_) (fun cdv A outer s H vs Q E hr h => ?_)
  · obtain ⟨v, d, n, rfl, _⟩ := h
    rfl
  · obtain ⟨v, d, n, rfl, hd, q⟩ := h
    refine ⟨_, (pss_one (ps_ret (pe_and (pe_cmpR op_isTyB (pe_callTy call_type1 (by rfl) G.ty (by decide +kernel) (pa_cons (pv 0) pa_nil)) (pe_bltn (v := .ty "int") (by rfl) G.it (by decide +kernel) rfl) (nomark _)) (pe_one (pe_chain op_le op_lt pe_int (pv 0) (pv 1)))))), ?_⟩
    refine ⟨_, rfl, _, _, rfl, ty_of hd, _, _, rfl, rfl, ?_⟩
    refine ⟨_, rfl, ite2 (fun a1 => ?_) (fun a1 => ?_)⟩
    · obtain ⟨i, rfl⟩ := ty_int (of_decide_eq_true a1)
      cases hd with
      | int i =>
        refine ⟨_, rfl, _, _, rfl, rfl, _, rfl, ite2 (fun a2 => ?_) (fun a2 => ?_)⟩
        · refine ⟨_, rfl, _, _, rfl, rfl, ?_⟩
          have e2 : isI (.int i) 0 n = decide (i < n) := by
            show (decide (0 ≤ i) && decide (i < n)) = _
            rw [a2]
            rfl
          rw [e2] at q
          exact q
        · have e2 : isI (.int i) 0 n = false := by
            show (decide (0 ≤ i) && decide (i < n)) = _
            rw [Bool.eq_false_iff.mpr a2]
            rfl
          rw [e2] at q
          exact q
    · have e : isI d 0 n = false := by
        cases d with
        | int xs => exact absurd rfl a1
        | _ => rfl
      rw [e] at q
      exact q
def spIsWidth (K : PySem.W.Frag) : Sp := fun vs H Q _ => ∃ (v : V) (d : PyData), vs = [v] ∧ Dp K H v d ∧ Q (.bl (isI d 1 33)) H
theorem ok_isWidth {f fB : Addr} {fd fdB : FuncData} (F : Fun K "is_width" "is_width" sIsWidth f fd) (G : Gp mg tw tb) (GB : FnOk P w K mg base CX0 1 fB fdB ["thing", "limit"] (spIsBelow K)) (kB : PySem.W.keepIn K (.ref fB) = true) (bB : Binds K fdB ["thing", "limit"] []) (gB : mg "is_below" = some (.ref fB)) :
    FnOk P w K mg base CX0 2 f fd ["thing"] (spIsWidth K) := by
  refine F.ok scIsWidth (fun vs H Q E h => ?_) (fun cdv A outer s H vs Q E hr h => ?_)
  · obtain ⟨v, d, rfl, _⟩ := h
    rfl
  · obtain ⟨v, d, rfl, hd, q⟩ := h
    have hr1 := hr
    refine ⟨_, (pss_one (ps_ret (pe_and (pe_call GB hr1 (by rfl) gB kB bB .nil pass0 (pa_cons (pv 0) (pa_cons (pe_op op_add (pe_glob (v := .int 32) (by rfl) G.mw ⟨_, rfl⟩) (pe_int)) pa_nil))) (pe_one (pe_cmpR op_gt (pv 0) (pe_int) (nomark _)))))), ?_⟩
    refine ⟨_, rfl, _, _, rfl, rfl, v, d, 33, rfl, hd, ?_⟩
    refine ⟨_, rfl, ite2 (fun a1 => ?_) (fun a1 => ?_)⟩
    · obtain ⟨i, rfl, h0, h1⟩ := isI_iff.mp a1
      cases hd
      refine ⟨_, rfl, _, _, rfl, rfl, ?_⟩
      have e2 : isI (.int i) 1 33 = decide (0 < i) := by
        show (decide (1 ≤ i) && decide (i < 33)) = _
        rw [decide_eq_true h1, Bool.and_true]
        exact decide_eq_decide.mpr ⟨fun h => by omega, fun h => by omega⟩
      rw [e2] at q
      exact q
    · have e : isI d 1 33 = false := by
        rw [Bool.eq_false_iff]
        intro h
        obtain ⟨i, rfl, h0, h1⟩ := isI_iff.mp h
        exact a1 (isI_iff.mpr ⟨i, rfl, by omega, h1⟩)
      rw [e] at q
      exact q
def spD (K : PySem.W.Frag) (b : PyData → Bool) : Sp := fun vs H Q _ => ∃ (v : V) (d : PyData), vs = [v] ∧ Dp K H v d ∧ Q (.bl (b d)) H
theorem ok_isRegister {f fB fT fW fM : Addr} {fd fdB fdT fdW fdM : FuncData} (F : Fun K "is_register" "is_register" sIsRegister f fd) (GB : FnOk P w K mg base CX0 1 fB fdB ["thing", "limit"] (spIsBelow K)) (kB : PySem.W.keepIn K (.ref fB) = true) (bB : Binds K fdB ["thing", "limit"] []) (gB : mg "is_below" = some (.ref fB))
    (GT : FnOk P w K mg base CX0 1 fT fdT ["thing", "many"] (spIsTuple K)) (kT : PySem.W.keepIn K (.ref fT) = true) (bT : Binds K fdT ["thing", "many"] []) (gT : mg "is_tuple" = some (.ref fT))
    (GW : FnOk P w K mg base CX0 2 fW fdW ["thing"] (spIsWidth K)) (kW : PySem.W.keepIn K (.ref fW) = true) (bW : Binds K fdW ["thing"] []) (gW : mg "is_width" = some (.ref fW))
    (GM : FnOk P w K mg base CX0 1 fM fdM ["width"] spMask) (kM : PySem.W.keepIn K (.ref fM) = true) (bM : Binds K fdM ["width"] []) (gM : mg "mask" = some (.ref fM)) :
    FnOk P w K mg base CX0 3 f fd ["thing"] (spD K regB) := by
  refine F.ok scIsRegister (fun vs H Q E h => ?_) (fun cdv A outer s H vs Q E hr h => ?_)
  · obtain ⟨v, d, rfl, _⟩ := h
    rfl
  · obtain ⟨v, d, rfl, hd, q⟩ := h
    have hr2 := hr
    have hr1 : Room 1 _ := hr.mono (by decide)
    refine ⟨_, (pss_one (ps_ret (pe_and (pe_call GT hr1 (by rfl) gT kT bT .nil pass0 (pa_cons (pv 0) (pa_cons (pe_int) pa_nil))) (pe_and (pe_call GW hr2 (by rfl) gW kW bW .nil pass0 (pa_cons (pe_ix ix_tup (pv 0) (pe_int) (fun _ _ => rfl)) pa_nil)) (pe_one (pe_call GB hr1 (by rfl) gB kB bB .nil pass0 (pa_cons (pe_ix ix_tup (pv 0) (pe_int) (fun _ _ => rfl)) (pa_cons (pe_op op_add (pe_call GM hr1 (by rfl) gM kM bM .nil pass0 (pa_cons (pe_ix ix_tup (pv 0) (pe_int) (fun _ _ => rfl)) pa_nil)) (pe_int)) pa_nil)))))))), ?_⟩
    refine ⟨_, rfl, v, d, 2, rfl, hd, ?_⟩
    refine ⟨_, rfl, ite2 (fun a1 => ?_) (fun a1 => ?_)⟩
    · obtain ⟨xs, rfl, hl⟩ := isT_iff.mp a1
      match xs, hl with
      | [w0, v0], _ =>
        cases hd with
        | tup s a =>
          cases a with
          | cons a1 a =>
            cases a with
            | cons a2 a =>
              cases a
              refine ⟨_, rfl, _, _, _, _, rfl, rfl, s, atI_nat (j := 0) rfl, _, w0, rfl, a1, ?_⟩
              refine ⟨_, rfl, ite2 (fun b1 => ?_) (fun b1 => ?_)⟩
              · obtain ⟨i, rfl, h0, h1⟩ := isI_iff.mp b1
                cases a1
                obtain ⟨n, rfl⟩ : ∃ n : Nat, i = ((n : Nat) : Int) := ⟨i.toNat, by omega⟩
                refine ⟨_, rfl, _, _, _, _, rfl, rfl, s, atI_nat (j := 1) rfl, _, rfl, _, _, _, _, rfl, rfl, s, atI_nat (j := 0) rfl, n, rfl, by omega, _, _, rfl, rfl, _, v0, _, rfl, a2, ?_⟩
                have e : regB (.tuple [.int ((n : Nat) : Int), v0]) = isI v0 0 (2 ^ n - 1 + 1) := by
                  show (isI (.int ((n : Nat) : Int)) 1 33 && isI v0 0 (2 ^ ((n : Nat) : Int).toNat)) = _
                  rw [b1, Bool.true_and, Int.toNat_natCast, Int.sub_add_cancel]
                rw [e] at q
                exact q
              · have e : regB (.tuple [w0, v0]) = false := by
                  unfold regB
                  cases w0 with
                  | int i =>
                    show (isI (.int i) 1 33 && _) = false
                    rw [Bool.eq_false_iff.mpr b1, Bool.false_and]
                  | _ => rfl
                rw [e] at q
                exact q
    · have e : regB d = false := by
        unfold regB
        split
        · exact absurd rfl a1
        · rfl
      rw [e] at q
      exact q
theorem ok_isMemory {f fB fT fW : Addr} {fd fdB fdT fdW : FuncData} (F : Fun K "is_memory" "is_memory" sIsMemory f fd) (G : Gp mg tw tb) (GB : FnOk P w K mg base CX0 1 fB fdB ["thing", "limit"] (spIsBelow K)) (kB : PySem.W.keepIn K (.ref fB) = true) (bB : Binds K fdB ["thing", "limit"] []) (gB : mg "is_below" = some (.ref fB))
    (GT : FnOk P w K mg base CX0 1 fT fdT ["thing", "many"] (spIsTuple K)) (kT : PySem.W.keepIn K (.ref fT) = true) (bT : Binds K fdT ["thing", "many"] []) (gT : mg "is_tuple" = some (.ref fT))
    (GW : FnOk P w K mg base CX0 2 fW fdW ["thing"] (spIsWidth K)) (kW : PySem.W.keepIn K (.ref fW) = true) (bW : Binds K fdW ["thing"] []) (gW : mg "is_width" = some (.ref fW)) :
    FnOk P w K mg base CX0 3 f fd ["thing"] (spD K memB) := by
  refine F.ok scIsMemory (fun vs H Q E h => ?_) (fun cdv A outer s H vs Q E hr h => ?_)
  · obtain ⟨v, d, rfl, _⟩ := h
    rfl
  · obtain ⟨v, d, rfl, hd, q⟩ := h
    have hr2 := hr
    have hr1 : Room 1 _ := hr.mono (by decide)
    refine ⟨_, (pss_one (ps_ret (pe_and (pe_call GT hr1 (by rfl) gT kT bT .nil pass0 (pa_cons (pv 0) (pa_cons (pe_int) pa_nil))) (pe_and (pe_call GB hr1 (by rfl) gB kB bB .nil pass0 (pa_cons (pe_ix ix_tup (pv 0) (pe_int) (fun _ _ => rfl)) (pa_cons (pe_op op_add (pe_glob (v := .int 6) (by rfl) G.mb ⟨_, rfl⟩) (pe_int)) pa_nil))) (pe_and (pe_cmpR op_gt (pe_ix ix_tup (pv 0) (pe_int) (fun _ _ => rfl)) (pe_int) (nomark _)) (pe_one (pe_call GW hr2 (by rfl) gW kW bW .nil pass0 (pa_cons (pe_ix ix_tup (pv 0) (pe_int) (fun _ _ => rfl)) pa_nil)))))))), ?_⟩
    refine ⟨_, rfl, v, d, 2, rfl, hd, ?_⟩
    refine ⟨_, rfl, ite2 (fun a1 => ?_) (fun a1 => ?_)⟩
    · obtain ⟨xs, rfl, hl⟩ := isT_iff.mp a1
      match xs, hl with
      | [b0, w0], _ =>
        cases hd with
        | tup s a =>
          cases a with
          | cons a1 a =>
            cases a with
            | cons a2 a =>
              cases a
              refine ⟨_, rfl, _, _, _, _, rfl, rfl, s, atI_nat (j := 0) rfl, _, _, rfl, rfl, _, b0, 7, rfl, a1, ?_⟩
              refine ⟨_, rfl, ite2 (fun b1 => ?_) (fun b1 => ?_)⟩
              · obtain ⟨i, rfl, h0, h1⟩ := isI_iff.mp b1
                cases a1
                refine ⟨_, rfl, _, _, _, _, rfl, rfl, s, atI_nat (j := 0) rfl, _, _, rfl, rfl, ?_⟩
                refine ⟨_, rfl, ite2 (fun b2 => ?_) (fun b2 => ?_)⟩
                · have hp := of_decide_eq_true b2
                  refine ⟨_, rfl, _, _, _, _, rfl, rfl, s, atI_nat (j := 1) rfl, _, w0, rfl, a2, ?_⟩
                  have e : memB (.tuple [.int i, w0]) = isI w0 1 33 := by
                    show (isI (.int i) 1 7 && isI w0 1 33) = _
                    rw [isI_iff.mpr ⟨i, rfl, by omega, h1⟩, Bool.true_and]
                  rw [e] at q
                  exact q
                · have e : memB (.tuple [.int i, w0]) = false := by
                    show (isI (.int i) 1 7 && isI w0 1 33) = _
                    rw [show isI (.int i) 1 7 = false from Bool.eq_false_iff.mpr (fun z => by
                      obtain ⟨j, ej, j0, j1⟩ := isI_iff.mp z
                      cases ej
                      exact b2 (decide_eq_true (by omega))), Bool.false_and]
                  rw [e] at q
                  exact q
              · have e : memB (.tuple [b0, w0]) = false := by
                  show (isI b0 1 7 && isI w0 1 33) = _
                  rw [show isI b0 1 7 = false from Bool.eq_false_iff.mpr (fun z => by
                    obtain ⟨j, ej, j0, j1⟩ := isI_iff.mp z
                    exact b1 (isI_iff.mpr ⟨j, ej, by omega, j1⟩)), Bool.false_and]
                rw [e] at q
                exact q
    · have e : memB d = false := by
        unfold memB
        split
        · exact absurd rfl a1
        · rfl
      rw [e] at q
      exact q
end
end C1

/-! Rules: in a tuple of any data, three comparisons in a row, get of a written dict; op_width, fitted_width, parts. -/
namespace C1
open PySem PySem.Spec PyProof.Rows L2 SX
section
variable {X : Cx}
def rInTD (K : PySem.W.Frag) : R2 := fun x y H Q => ∃ d ds, Dp K H x d ∧ Dp K H y (.tuple ds) ∧ SeqAt.shaped d = true ∧ SeqAt.shaped (.tuple ds) = true ∧ Q (.bl (ds.any fun z => PyData.eqv z d)) H
theorem op_inTD (hu : X.A.units + 65 < cLine) : OpR X (compareOp .In) (rInTD X.K) := by
  intro pins s σ H x y v u Q I rx ry h
  obtain ⟨d, ds, hd, he, sd, se, q⟩ := h
  obtain ⟨as, r1⟩ := Dp.reads I d x v hd rx
  obtain ⟨bs, r2⟩ := Dp.reads I (.tuple ds) y u he ry
  exact SeqAt.in_tuple_reads r2 r1 (SeqAt.canLay_of_shaped se) (SeqAt.canLay_of_shaped sd) (room_in_shaped sd hu) ⟨.bl _, H, I, rfl, q⟩
/-- a op1 b op2 c op3 d, a test -/
def tChain3 (r r' r'' : R2) (ta tb tc td : TE) : TT := fun σ H Q => ta σ H fun x H1 => tb σ H1 fun y H2 => r x y H2 fun z H3 => ∃ k, z = .bl k ∧
  (if k = true then tc σ H3 fun w' H4 => r' y w' H4 fun z2 H5 => ∃ k2, z2 = .bl k2 ∧ (if k2 = true then td σ H5 fun w2 H6 => r'' w' w2 H6 fun z3 H7 => ∃ k3, z3 = .bl k3 ∧ Q k3 H7 else Q false H5) else Q false H3)
theorem pt_chain3 {a b c d : Expr} {ta tb tc td : TE} {pos : Pos} {op op' op'' : CmpOp} {r r' r'' : R2} (ho : OpR X (compareOp op) r) (ho' : OpR X (compareOp op') r') (ho'' : OpR X (compareOp op'') r'') (ha : PE X a ta) (hb : PE X b tb) (hc : PE X c tc) (hd : PE X d td)
    (hm : lastMarks [op, op', op''] [b, c, d] = false := by with_unfolding_all rfl) : PT X (.Compare a [op, op', op''] [b, c, d] pos) (tChain3 r r' r'' ta tb tc td) := by
  refine ⟨fun pins s σ H Q I h => ?_⟩
  refine isTrue_chain (thn (ha.run pins s σ H _ I h) fun v s1 ⟨x, H1, I1, r1, q1⟩ => test_link (thn (hb.run pins s1 σ H1 _ I1 q1) fun u s2 ⟨y, H2, I2, r2, q2⟩ =>
    thn (ho pins s2 σ H2 x y v u _ I2 r1 r2 q2) fun d s3 ⟨z, H3, I3, r3, k, e, q3⟩ => ?_)) hm
  subst e
  cases r3
  refine wpAny_truthy_bool ?_
  cases k with
  | false => exact ite_ff ⟨H3, I3, q3⟩
  | true =>
    refine ite_tt (test_link (thn (hc.run pins s3 σ H3 _ I3 q3) fun w' s4 ⟨z', H4, I4, r4, q4⟩ => thn (ho' pins s4 σ H4 y z' u w' _ I4 r2 r4 q4) fun d' s5 ⟨z2, H5, I5, r5, k2, e2, q5⟩ => ?_))
    subst e2
    cases r5
    refine wpAny_truthy_bool ?_
    cases k2 with
    | false => exact ite_ff ⟨H5, I5, q5⟩
    | true =>
      refine ite_tt (test_last (thn (hd.run pins s5 σ H5 _ I5 q5) fun w3 s6 ⟨z3, H6, I6, r6, q6⟩ => thn (ho'' pins s6 σ H6 z' z3 w' w3 _ I6 r4 r6 q6) fun d7 s7 ⟨z7, H7, I7, r7, k7, e7, q7⟩ => ?_))
      subst e7
      cases r7
      exact wpAny_truthy_bool ⟨H7, I7, q7⟩
/-- d.get(key), d a written dict -/
def tKGet (K : PySem.W.Frag) (w : World) (td ty : TE) : TE := fun σ H Q => td σ H fun x H1 => ∃ p es n, x = .ref p ∧ KDict K w p es n ∧ ty σ H1 fun y H2 => ∃ (z : Str) (r : Option Value) (v : V), y = .str z ∧ PySem.W.nsIn K p z = some r ∧ RelV v (r.getD .none) ∧ Q v H2
theorem pe_kget {o e : Expr} {apos cpos : Pos} {td ty : TE} (ho : PE X o td) (he : PE X e ty) (m : M1 X o "get" apos e cpos) : PE X (.Call (.Attribute o "get" apos) [e] [] cpos) (tKGet X.K X.w td ty) := by
  refine ⟨fun pins s σ H Q I h => ?_⟩
  refine wpAny_Call_method m.base m.few m.line PySem.F.plainAttrs_dict PySem.F.slot_dict_get PySem.F.type_dict_get (thn (ho.run pins s σ H _ I h) fun u s1 ⟨x, H1, I1, rx, p, es, n, ex, D, q1⟩ => ?_)
  subst ex
  obtain rfl : u = Value.ref p := rx
  refine ⟨kd_type D I1, fun b q => ?_, ?_⟩
  · cases q
    exact ⟨_, I1.kIn _ _ D.at_, rfl⟩
  rw [m.trees]
  refine Calls.callWith_builtin rfl (Calls.evalArgs_plain (Calls.spliced_cons (thn (he.run pins s1 σ H1 _ I1 q1) fun iv s2 ⟨y, H2, I2, ry, z, r, v, ey, e1, rv, q2⟩ => Calls.spliced_nil ?_)))
  subst ey
  obtain ⟨t, rfl⟩ := (show ∃ t, iv = Value.str z t from ry)
  have hm := PySem.W.mapOf_K (prog := X.prog) (w := X.w) I2.kIn D.at_ D.lit
  refine call_meetsIn PySem.F.slot_dict_get hm.typeIs PySem.F.entry_dict_get (PySem.F.args_dict_get_2 _ _) (meets_dict_get (PySem.strKind X.prog X.w) p (PySem.strKind_is X.prog X.w z t) D.low) ⟨_, hm, ?_⟩
  rw [PySem.W.find_K D.at_ e1]
  exact ⟨v, H2, I2.tok _, rv, q2⟩
end
theorem hu65 {k : Nat} {A : Around} (hr : Room k A) : A.units + 65 < cLine := by
  have := hr.un
  omega
theorem scOpw : FnScope ["sign", "one", "other"] ["sign", "one", "other"] (defScope sOpw) := ⟨rfl, rfl, rfl, by decide +kernel, rfl, by decide +kernel, by decide +kernel⟩
theorem scFitted : FnScope ["node", "widths", "kind"] ["node", "widths"] (defScope sFitted) := ⟨rfl, rfl, rfl, by decide +kernel, rfl, by decide +kernel, by decide +kernel⟩
theorem scParts : FnScope ["tree", "at"] ["tree"] (defScope sParts) := ⟨rfl, rfl, rfl, by decide +kernel, rfl, by decide +kernel, by decide +kernel⟩
def opW (s : Str) (x y : Nat) : Nat := if s ∈ shiftL then x else if x = y then (if s ∈ testL then 1 else if s ∈ arithL then x else 0) else 0
def opD (d : PyData) (x y : Nat) : Nat := match d with
  | .str s => opW s x y
  | _ => 0
theorem any_str (L : List Str) (d : PyData) : ((L.map PyData.str).any fun z => PyData.eqv z d) = (match d with | .str s => decide (s ∈ L) | _ => false) := by
  induction L with
  | nil => cases d <;> simp
  | cons a L ih =>
    rw [List.map_cons, List.any_cons, ih]
    cases d with
    | str s =>
      show (a == s || decide (s ∈ L)) = decide (s ∈ a :: L)
      rw [show (a == s) = decide (s = a) from by
        by_cases h : s = a
        · subst h
          simp
        · rw [decide_eq_false h]
          exact beq_eq_false_iff_ne.mpr (fun z => h z.symm)]
      by_cases h1 : s = a <;> by_cases h2 : s ∈ L <;> simp [h1, h2]
    | _ => rfl
theorem sh_strs (L : List Str) (h : (L.all fun s => PyData.canLay0 (.str s)) = true) : SeqAt.shaped (.tuple (L.map PyData.str)) = true := by
  have h1 : ∀ L : List Str, (L.all fun s => PyData.canLay0 (.str s)) = true → PyData.canLayAll0 (L.map PyData.str) = true ∧ PyData.depthAll (L.map PyData.str) ≤ 5 := by
    intro L
    induction L with
    | nil => exact fun _ => ⟨rfl, Nat.zero_le _⟩
    | cons a L ih =>
      intro h
      rw [List.all_cons, Bool.and_eq_true] at h
      obtain ⟨i1, i2⟩ := ih h.2
      refine ⟨?_, ?_⟩
      · show (PyData.canLay0 (.str a) && PyData.canLayAll0 (L.map PyData.str)) = true
        rw [h.1, i1]
        rfl
      · show max (PyData.depth (.str a)) (PyData.depthAll (L.map PyData.str)) ≤ 5
        exact Nat.max_le.mpr ⟨Nat.zero_le _, i2⟩
  obtain ⟨a, b⟩ := h1 L h
  unfold SeqAt.shaped
  rw [Bool.and_eq_true]
  refine ⟨a, decide_eq_true ?_⟩
  show PyData.depthAll (L.map PyData.str) + 1 ≤ 64
  omega
theorem dps_strs {K : PySem.W.Frag} {H : Hp} : ∀ L : List Str, DpAll K H (L.map V.str) (L.map PyData.str)
  | [] => .nil
  | a :: L => .cons (.str _) (dps_strs L)
section
variable {P : Program} {w : World} {K : PySem.W.Frag} {mg : Str → Option Value} {base : Heap} {tw tb : Tok} {aS aT aA aP : Addr}
structure Gs (K : PySem.W.Frag) (mg : Str → Option Value) (aS aT aA : Addr) : Prop where
  sh : mg "SHIFTS" = some (.ref aS)
  te : mg "TESTS" = some (.ref aT)
  sa : mg "SAME_WIDTH" = some (.ref aA)
  kS : ∀ H, SqT K H aS (shiftL.map V.str)
  kT : ∀ H, SqT K H aT (testL.map V.str)
  kA : ∀ H, SqT K H aA (arithL.map V.str)
def spOpw (K : PySem.W.Frag) : Sp := fun vs H Q _ => ∃ (v : V) (d : PyData) (x y : Nat), vs = [v, iV x, iV y] ∧ Dp K H v d ∧ SeqAt.shaped d = true ∧ Q (iV (opD d x y)) H
theorem ok_opw {f : Addr} {fd : FuncData} (F : Fun K "op_width" "op_width" sOpw f fd) (G2 : Gs K mg aS aT aA) : FnOk P w K mg base CX0 1 f fd ["sign", "one", "other"] (spOpw K) := by
  refine F.ok scOpw (fun vs H Q E h => ?_) (fun cdv A outer s H vs Q E hr h => ?_)
  · obtain ⟨v, d, x, y, rfl, _⟩ := h
    rfl
  · obtain ⟨v, d, x, y, rfl, hd, sd, q⟩ := h
    have hu := hu65 hr
    refine ⟨_, (pss_cons (ps_if (pt_cmpR (op_inTD hu) (pv 0) (pe_glob (v := .ref aS) (by rfl) G2.sh rfl) (by rfl)) (pss_one (ps_ret (pv 1))) pss_nil)
      (pss_cons (ps_if (pt_cmpR op_ne (pv 1) (pv 2) (nomark _)) (pss_one (ps_ret (pe_int))) pss_nil)
      (pss_cons (ps_if (pt_cmpR (op_inTD hu) (pv 0) (pe_glob (v := .ref aT) (by rfl) G2.te rfl) (by rfl)) (pss_one (ps_ret (pe_int))) pss_nil)
      (pss_one (ps_ret (pe_ifExp (pt_cmpR (op_inTD hu) (pv 0) (pe_glob (v := .ref aA) (by rfl) G2.sa rfl) (by rfl)) (pv 1) pe_int)))))), ?_⟩
    refine ⟨_, rfl, d, shiftL.map PyData.str, hd, .tup (G2.kS _) (dps_strs _), sd, sh_strs _ (by decide +kernel), _, rfl, ?_⟩
    rw [any_str]
    refine ite2 (fun a1 => ?_) (fun a1 => ?_)
    · refine ⟨_, rfl, ?_⟩
      cases d with
      | str s =>
        have e : opD (.str s) x y = x := if_pos (of_decide_eq_true a1)
        rw [e] at q
        exact q
      | _ => cases a1
    refine ⟨_, rfl, _, rfl, rfl, _, rfl, ?_⟩
    by_cases hxy : x = y
    · subst hxy
      refine iteNS rfl ?_
      refine ⟨_, rfl, d, testL.map PyData.str, hd, .tup (G2.kT _) (dps_strs _), sd, sh_strs _ (by decide +kernel), _, rfl, ?_⟩
      rw [any_str]
      refine ite2 (fun a2 => ?_) (fun a2 => ?_)
      · cases d with
        | str s =>
          have e : opD (.str s) x x = 1 := by
            show opW s x x = 1
            unfold opW
            rw [if_neg (fun z => a1 (decide_eq_true z)), if_pos rfl, if_pos (of_decide_eq_true a2)]
          rw [e] at q
          exact q
        | _ => cases a2
      refine ⟨_, rfl, d, arithL.map PyData.str, hd, .tup (G2.kA _) (dps_strs _), sd, sh_strs _ (by decide +kernel), _, rfl, ?_⟩
      rw [any_str]
      refine ite2 (fun a3 => ?_) (fun a3 => ?_)
      · refine ⟨_, rfl, ?_⟩
        cases d with
        | str s =>
          have e : opD (.str s) x x = x := by
            show opW s x x = x
            unfold opW
            rw [if_neg (fun z => a1 (decide_eq_true z)), if_pos rfl, if_neg (fun z => a2 (decide_eq_true z)), if_pos (of_decide_eq_true a3)]
          rw [e] at q
          exact q
        | _ => cases a3
      · have e : opD d x x = 0 := by
          cases d with
          | str s =>
            show opW s x x = 0
            unfold opW
            rw [if_neg (fun z => a1 (decide_eq_true z)), if_pos rfl, if_neg (fun z => a2 (decide_eq_true z)), if_neg (fun z => a3 (decide_eq_true z))]
          | _ => rfl
        rw [e] at q
        exact q
    · have e : opD d x y = 0 := by
        cases d with
        | str s =>
          show opW s x y = 0
          unfold opW
          rw [if_neg (fun z => a1 (decide_eq_true z)), if_neg hxy]
        | _ => rfl
      rw [e] at q
      rw [show (!decide (V.int ((x : Nat) : Int) = V.int ((y : Nat) : Int))) = true from congrArg Bool.not (decide_eq_false (fun z => hxy (Int.ofNat.inj (V.int.inj z))))]
      exact iteT q
theorem sF {a b : Str} (h : a ≠ b) : decide (V.str a = V.str b) = false := decide_eq_false fun z => h (V.str.inj z)
theorem sT (a : Str) : decide (V.str a = V.str a) = true := decide_eq_true rfl
theorem dp_tup {H : Hp} {v : V} {ds : List PyData} (h : Dp K H v (.tuple ds)) : ∃ b xs, v = .ref b ∧ SqT K H b xs ∧ DpAll K H xs ds := by
  cases h with
  | tup s a => exact ⟨_, _, rfl, s, a⟩
inductive FitAt : Str → List PyData → List Nat → Nat → Prop
  | op {s a b : PyData} {x y : Nat} : SeqAt.shaped s = true → FitAt "op" [s, a, b] [x, y] (opD s x y)
  | pick {t a b : PyData} {x y z : Nat} : FitAt "pick" [t, a, b] [x, y, z] (if x = 1 ∧ y = z then y else 0)
  | inv {a : PyData} {x : Nat} : FitAt "not" [a] [x] x
  | wide {a : PyData} {w : Int} {x : Nat} : FitAt "wide" [a, .int w] [x] (if 1 ≤ w ∧ w ≤ 32 then w.toNat else 0)
  | part {a : PyData} {lo hi : Int} {x : Nat} : FitAt "part" [a, .int lo, .int hi] [x] (if 0 ≤ lo ∧ lo ≤ hi ∧ hi < x then (hi - lo + 1).toNat else 0)
  | join {a b : PyData} {x y : Nat} : FitAt "join" [a, b] [x, y] (if x + y ≤ 32 then x + y else 0)
def spFitted (K : PySem.W.Frag) : Sp := fun vs H Q _ => ∃ (v : V) (wl : Addr) (k : Str) (r : List PyData) (ks : List Nat) (z : Nat), vs = [v, .ref wl] ∧ Dp K H v (.tuple (.str k :: r)) ∧ SqL K H wl (ks.map iV) ∧ FitAt k r ks z ∧ Q (iV z) H
theorem ok_fitted {f fO : Addr} {fd fdO : FuncData} (F : Fun K "fitted_width" "fitted_width" sFitted f fd) (G : Gp mg tw tb) (GO : FnOk P w K mg base CX0 1 fO fdO ["sign", "one", "other"] (spOpw K)) (kO : PySem.W.keepIn K (.ref fO) = true) (bO : Binds K fdO ["sign", "one", "other"] []) (gO : mg "op_width" = some (.ref fO)) :
    FnOk P w K mg base CX0 2 f fd ["node", "widths"] (spFitted K) := by
  refine F.ok scFitted (fun vs H Q E h => ?_) (fun cdv A outer s H vs Q E hr h => ?_)
  · obtain ⟨v, wl, k, r, ks, z, rfl, _⟩ := h
    rfl
  · obtain ⟨v, wl, k, r, ks, z, rfl, hd, hw, hf, q⟩ := h
    have nd := scFitted.nd
    obtain ⟨b, xs, rfl, sb, da⟩ := dp_tup hd
    cases da with
    | cons d0 da =>
    cases d0
    rename_i xs
    refine ⟨_, (pss_cons (ps_set (i := 2) nd rfl (.inl rfl) (pe_ix ix_tup (pv 0) (pe_int) (fun _ _ => rfl)))
      (pss_cons (ps_if (pt_cmpR op_eq (pv 2) (pe_str) (nomark _)) (pss_one (ps_ret (pe_call GO hr (by rfl) gO kO bO .nil pass0 (pa_cons (pe_ix ix_tup (pv 0) (pe_int) (fun _ _ => rfl)) (pa_cons (pe_ix ix_list (pv 1) (pe_int) (fun _ _ => rfl)) (pa_cons (pe_ix ix_list (pv 1) (pe_int) (fun _ _ => rfl)) pa_nil)))))) pss_nil)
      (pss_cons (ps_if (pt_cmpR op_eq (pv 2) (pe_str) (nomark _)) (pss_one (ps_ret (pe_ifExp (PW.pt (pw_and (pt_cmpR op_eq (pe_ix ix_list (pv 1) (pe_int) (fun _ _ => rfl)) (pe_int) (nomark _)) (pw_and1 (pt_cmpR op_eq (pe_ix ix_list (pv 1) (pe_int) (fun _ _ => rfl)) (pe_ix ix_list (pv 1) (pe_int) (fun _ _ => rfl)) (nomark _))))) (pe_ix ix_list (pv 1) (pe_int) (fun _ _ => rfl)) pe_int))) pss_nil)
      (pss_cons (ps_if (pt_cmpR op_eq (pv 2) (pe_str) (nomark _)) (pss_one (ps_ret (pe_ix ix_list (pv 1) (pe_int) (fun _ _ => rfl)))) pss_nil)
      (pss_cons (ps_if (pt_cmpR op_eq (pv 2) (pe_str) (nomark _)) (pss_one (ps_ret (pe_ifExp (pt_chain op_le op_le (pe_int) (pe_ix ix_tup (pv 0) (pe_int) (fun _ _ => rfl)) (pe_glob (v := .int 32) (by rfl) G.mw ⟨_, rfl⟩)) (pe_ix ix_tup (pv 0) (pe_int) (fun _ _ => rfl)) pe_int))) pss_nil)
      (pss_cons (ps_if (pt_cmpR op_eq (pv 2) (pe_str) (nomark _)) (pss_one (ps_ret (pe_ifExp (pt_chain3 op_le op_le op_lt pe_int (pe_ix ix_tup (pv 0) (pe_int) (fun _ _ => rfl)) (pe_ix ix_tup (pv 0) (pe_int) (fun _ _ => rfl)) (pe_ix ix_list (pv 1) (pe_int) (fun _ _ => rfl))) (pe_op op_add (pe_op op_sub (pe_ix ix_tup (pv 0) (pe_int) (fun _ _ => rfl)) (pe_ix ix_tup (pv 0) (pe_int) (fun _ _ => rfl))) (pe_int)) pe_int))) pss_nil)
      (pss_one (ps_ret (pe_ifExp (pt_cmpR op_le (pe_op op_add (pe_ix ix_list (pv 1) (pe_int) (fun _ _ => rfl)) (pe_ix ix_list (pv 1) (pe_int) (fun _ _ => rfl))) (pe_glob (v := .int 32) (by rfl) G.mw ⟨_, rfl⟩) (nomark _)) (pe_op op_add (pe_ix ix_list (pv 1) (pe_int) (fun _ _ => rfl)) (pe_ix ix_list (pv 1) (pe_int) (fun _ _ => rfl))) pe_int))))))))), ?_⟩
    refine ⟨_, rfl, _, _, _, _, rfl, rfl, sb, atI_nat (j := 0) rfl, ?_⟩
    refine ⟨_, rfl, rfl, _, rfl, ?_⟩
    cases hf with
    | @op s a b2 x y sh =>
      cases da with
      | cons d1 da =>
      rw [sT]
      refine iteT ?_
      refine ⟨_, rfl, _, _, _, _, rfl, rfl, sb, atI_nat (j := 1) rfl, _, rfl, wl, _, _, _, rfl, rfl, hw, atI_nat (j := 0) rfl, _, rfl, wl, _, _, _, rfl, rfl, hw, atI_nat (j := 1) rfl, _, s, x, y, rfl, d1, sh, q⟩
    | @pick t a b2 x y z =>
      rw [sF (by decide +kernel)]
      refine iteF ⟨_, rfl, rfl, _, rfl, ?_⟩
      rw [sT]
      refine iteT ?_
      refine ⟨_, rfl, wl, _, _, _, rfl, rfl, hw, atI_nat (j := 0) rfl, rfl, _, rfl, ite2 (fun a1 => ?_) (fun a1 => ?_)⟩
      · have e1 : x = 1 := by
          have := V.int.inj (of_decide_eq_true a1)
          omega
        refine ⟨_, rfl, wl, _, _, _, rfl, rfl, hw, atI_nat (j := 1) rfl, _, rfl, wl, _, _, _, rfl, rfl, hw, atI_nat (j := 2) rfl, rfl, _, rfl, ite2 (fun a2 => ?_) (fun a2 => ?_)⟩
        · have e2 : y = z := Int.ofNat.inj (V.int.inj (of_decide_eq_true a2))
          rw [if_pos ⟨e1, e2⟩] at q
          exact ⟨_, rfl, wl, _, _, _, rfl, rfl, hw, atI_nat (j := 1) rfl, q⟩
        · rw [if_neg (fun h => a2 (decide_eq_true (by rw [h.2])))] at q
          exact q
      · rw [if_neg (fun h => a1 (decide_eq_true (by rw [h.1]; rfl)))] at q
        exact q
    | @inv a x =>
      rw [sF (by decide +kernel)]
      refine iteF ⟨_, rfl, rfl, _, rfl, ?_⟩
      rw [sF (by decide +kernel)]
      refine iteF ⟨_, rfl, rfl, _, rfl, ?_⟩
      rw [sT]
      exact iteT ⟨_, rfl, wl, _, _, _, rfl, rfl, hw, atI_nat (j := 0) rfl, q⟩
    | @wide a w0 x =>
      cases da with
      | cons d1 da =>
      cases da with
      | cons d2 da =>
      cases d2
      rw [sF (by decide +kernel)]
      refine iteF ⟨_, rfl, rfl, _, rfl, ?_⟩
      rw [sF (by decide +kernel)]
      refine iteF ⟨_, rfl, rfl, _, rfl, ?_⟩
      rw [sF (by decide +kernel)]
      refine iteF ⟨_, rfl, rfl, _, rfl, ?_⟩
      rw [sT]
      refine iteT ?_
      refine ⟨_, rfl, _, _, _, _, rfl, rfl, sb, atI_nat (j := 2) rfl, _, _, rfl, rfl, _, rfl, ite2 (fun a1 => ?_) (fun a1 => ?_)⟩
      · have h1 := of_decide_eq_true a1
        refine ⟨_, _, rfl, rfl, _, rfl, ite2 (fun a2 => ?_) (fun a2 => ?_)⟩
        · have h2 := of_decide_eq_true a2
          rw [if_pos ⟨h1, h2⟩] at q
          refine ⟨_, rfl, _, _, _, _, rfl, rfl, sb, atI_nat (j := 2) rfl, ?_⟩
          rw [show iV w0.toNat = V.int w0 from congrArg V.int (by omega)] at q
          exact q
        · rw [if_neg (fun h => a2 (decide_eq_true h.2))] at q
          exact q
      · refine ⟨_, rfl, ?_⟩
        rw [if_neg (fun h => a1 (decide_eq_true h.1))] at q
        exact q
    | @part a lo hi x =>
      cases da with
      | cons d1 da =>
      cases da with
      | cons d2 da =>
      cases da with
      | cons d3 da =>
      cases d2
      cases d3
      rw [sF (by decide +kernel)]
      refine iteF ⟨_, rfl, rfl, _, rfl, ?_⟩
      rw [sF (by decide +kernel)]
      refine iteF ⟨_, rfl, rfl, _, rfl, ?_⟩
      rw [sF (by decide +kernel)]
      refine iteF ⟨_, rfl, rfl, _, rfl, ?_⟩
      rw [sF (by decide +kernel)]
      refine iteF ⟨_, rfl, rfl, _, rfl, ?_⟩
      rw [sT]
      refine iteT ?_
      refine ⟨_, rfl, _, _, _, _, rfl, rfl, sb, atI_nat (j := 2) rfl, _, _, rfl, rfl, _, rfl, ite2 (fun a1 => ?_) (fun a1 => ?_)⟩
      · have h1 := of_decide_eq_true a1
        refine ⟨_, rfl, _, _, _, _, rfl, rfl, sb, atI_nat (j := 3) rfl, _, _, rfl, rfl, _, rfl, ite2 (fun a2 => ?_) (fun a2 => ?_)⟩
        · have h2 := of_decide_eq_true a2
          refine ⟨_, rfl, wl, _, _, _, rfl, rfl, hw, atI_nat (j := 0) rfl, _, _, rfl, rfl, _, rfl, ite2 (fun a3 => ?_) (fun a3 => ?_)⟩
          · have h3 := of_decide_eq_true a3
            rw [if_pos ⟨h1, h2, h3⟩] at q
            refine ⟨_, rfl, _, _, _, _, rfl, rfl, sb, atI_nat (j := 3) rfl, _, rfl, _, _, _, _, rfl, rfl, sb, atI_nat (j := 2) rfl, _, _, rfl, rfl, _, _, rfl, rfl, ?_⟩
            rw [show iV (hi - lo + 1).toNat = V.int (hi - lo + 1) from congrArg V.int (by omega)] at q
            exact q
          · rw [if_neg (fun h => a3 (decide_eq_true h.2.2))] at q
            exact q
        · rw [if_neg (fun h => a2 (decide_eq_true h.2.1))] at q
          exact q
      · rw [if_neg (fun h => a1 (decide_eq_true h.1))] at q
        exact q
    | @join a b2 x y =>
      rw [sF (by decide +kernel)]
      refine iteF ⟨_, rfl, rfl, _, rfl, ?_⟩
      rw [sF (by decide +kernel)]
      refine iteF ⟨_, rfl, rfl, _, rfl, ?_⟩
      rw [sF (by decide +kernel)]
      refine iteF ⟨_, rfl, rfl, _, rfl, ?_⟩
      rw [sF (by decide +kernel)]
      refine iteF ⟨_, rfl, rfl, _, rfl, ?_⟩
      rw [sF (by decide +kernel)]
      refine iteF ?_
      refine ⟨_, rfl, wl, _, _, _, rfl, rfl, hw, atI_nat (j := 0) rfl, _, rfl, wl, _, _, _, rfl, rfl, hw, atI_nat (j := 1) rfl, _, _, rfl, rfl, _, _, rfl, rfl, _, rfl, ite2 (fun a1 => ?_) (fun a1 => ?_)⟩
      · have h1 := of_decide_eq_true a1
        rw [if_pos (by omega)] at q
        refine ⟨_, rfl, wl, _, _, _, rfl, rfl, hw, atI_nat (j := 0) rfl, _, rfl, wl, _, _, _, rfl, rfl, hw, atI_nat (j := 1) rfl, _, _, rfl, rfl, ?_⟩
        rw [show iV (x + y) = V.int (((x : Nat) : Int) + ((y : Nat) : Int)) from congrArg V.int (by omega)] at q
        exact q
      · rw [if_neg (fun h => a1 (decide_eq_true (by omega)))] at q
        exact q
def spParts (K : PySem.W.Frag) (w : World) (aP : Addr) : Sp := fun vs H Q _ => ∃ (b t : Addr) (xs ys : List V) (k : Str) (is : List Nat), vs = [.ref b] ∧ SqT K H b xs ∧ xs[0]? = some (.str k) ∧ KDct K w aP k (.ref t) ∧ (∀ H, SqT K H t (is.map iV)) ∧ is.length ≤ 5 ∧ ys.length = is.length ∧ (∀ (j i : Nat), is[j]? = some i → xs[i]? = ys[j]?) ∧
  ∀ p, H p = none → Q (.ref p) (upd H p (.lst ys))
theorem ok_parts {f : Addr} {fd : FuncData} (F : Fun K "parts" "parts" sParts f fd) (gP : mg "PARTS" = some (.ref aP)) : FnOk P w K mg base CX0 1 f fd ["tree"] (spParts K w aP) := by
  refine F.ok scParts (fun vs H Q E h => ?_) (fun cdv A outer s H vs Q E hr h => ?_)
  · obtain ⟨b, t, xs, ys, k, is, rfl, _⟩ := h
    rfl
  · obtain ⟨b, t, xs, ys, k, is, rfl, sb, hk, hd, ht, hl5, hl, hy, q⟩ := h
    have nd := scParts.nd
    refine ⟨_, (pss_one (ps_ret (pe_lc (own := [("at", 1)]) (g := gName 1) (tt := tYes) (te := tOp (rIxT K) (tVar 0) (tVar 1)) rfl nd (pi_tup (pe_ix ix_kdict (pe_glob (v := .ref aP) (by rfl) gP rfl) (pe_ix ix_tup (pv 0) (pe_int) (fun _ _ => rfl)) (fun _ _ => rfl))) (blkOk_by (own := [("at", 1)]) (N := ["tree", "at"]) (sc := defScope sParts) (by decide +kernel)) (fun _ _ _ _ _ => pg_name (i := 1) nd rfl (.inl rfl)) (fun _ _ _ _ _ => pts_nil) (fun _ _ _ _ _ => by exact (pe_ix ix_tup (pv 0) (pv 1) (fun _ _ => rfl)))))), ?_⟩
    refine ⟨_, rfl, _, _, _, _, rfl, rfl, sb, atI_nat (j := 0) hk, _, _, _, rfl, rfl, hd, t, rfl, ⟨_, ht _⟩, fun D nD => ?_⟩
    have stay : ∀ {o : HO}, SqT K (upd H D o) b xs := fun {o} => by
      rcases sb with (h | ⟨u, h⟩) | h
      · exact .inl (.inl (by rw [upd_ne (ne_of_none h nD)]; exact h))
      · exact .inl (.inr ⟨u, by rw [upd_ne (ne_of_none h nD)]; exact h⟩)
      · exact .inr h
    refine lc_tup (xs := is.map iV) (fun j H' => H' = upd H D (.lst (ys.take j))) rfl (fun j H' _ h => ht _) (fun j x H' hx h => ?_) (fun H' h => ?_)
    · subst h
      obtain ⟨i, ei⟩ : ∃ i, is[j]? = some i := by
        rw [List.getElem?_map] at hx
        cases e : is[j]? with
        | none =>
          rw [e] at hx
          cases hx
        | some i => exact ⟨i, rfl⟩
      have ex : x = iV i := by
        rw [List.getElem?_map, ei] at hx
        exact (Option.some.inj hx).symm
      subst ex
      have hj : j < is.length := (List.getElem?_eq_some_iff.mp ei).1
      obtain ⟨y, ey⟩ : ∃ y, ys[j]? = some y := ⟨_, List.getElem?_eq_getElem (by omega)⟩
      have hxi : xs[i]? = some y := (hy j i ei).trans ey
      refine ⟨rfl, _, rfl, _, rfl, b, _, _, _, rfl, rfl, stay, atI_nat hxi, ys.take j, upd_same, Nat.lt_of_le_of_lt (List.length_take_le _ _) (by rw [sizeLine_eq]; omega), ?_⟩
      rw [upd_upd, List.take_add_one, ey]
      rfl
    · subst h
      rw [List.length_map, ← hl, List.take_length]
      exact q D nD
end
end C1

/-! known_row_width. -/
namespace C1
open PySem PySem.Spec PyProof.Rows L2 SX
abbrev NK : List Str := ["circuit", "widths", "row", "kind", "part"]
theorem scKnown : FnScope NK ["circuit", "widths", "row"] (defScope sKnown) := ⟨rfl, rfl, rfl, by decide +kernel, rfl, by decide +kernel, by decide +kernel⟩
def partIx (k : Str) : List Nat := if k = "op" then [2, 3] else if k = "pick" then [1, 2, 3] else if k = "join" then [1, 2] else if k = "look" then [2] else if k = "lit" then [] else if k = "reg" then [] else [1]
def kindsP : List Str := ["look", "not", "op", "pick", "wide", "part", "join"]
def kindsF : List Str := ["not", "op", "pick", "wide", "part", "join"]
theorem partIx_len (k : Str) : (partIx k).length ≤ 3 := by
  unfold partIx
  split
  · decide
  split
  · decide
  split
  · decide
  split
  · decide
  split
  · decide
  split
  · decide
  · decide
theorem same_tup {K : PySem.W.Frag} {H H' : Hp} (s : Same H H') : ∀ b xs, SqT K H b xs → SqT K H' b xs := fun b xs h => by
  rcases h with (h | ⟨u, h⟩) | h
  · exact .inl (.inl (s _ _ h))
  · exact .inl (.inr ⟨u, s _ _ h⟩)
  · exact .inr h
theorem Same.up {H : Hp} {p : Addr} {o : HO} (n : H p = none) : Same H (upd H p o) := same_new n
/-- a circuit whose registers and memories fit -/
structure CH (K : PySem.W.Frag) (H : Hp) (cA : Addr) (regs mems : List (Nat × Nat)) : Prop where
  ex : ∃ (r m : Addr) (rest rvs mvs : List V), SqT K H cA (.ref r :: .ref m :: rest) ∧ SqT K H r rvs ∧ DpAll K H rvs (regs.map pr) ∧ SqT K H m mvs ∧ DpAll K H mvs (mems.map pr)
theorem CH.same {K : PySem.W.Frag} {H H' : Hp} {cA : Addr} {regs mems : List (Nat × Nat)} (C : CH K H cA regs mems) (s : Same H H') : CH K H' cA regs mems := by
  obtain ⟨r, m, rest, rvs, mvs, h1, h2, h3, h4, h5⟩ := C.ex
  exact ⟨r, m, rest, rvs, mvs, same_tup s _ _ h1, same_tup s _ _ h2, dps_stay (same_tup s) _ _ h3 (noLs_pr _), same_tup s _ _ h4, dps_stay (same_tup s) _ _ h5 (noLs_pr _)⟩
/-- a row that is known to fit, and its width -/
inductive KnownAt (regs mems : List (Nat × Nat)) (ws : List Nat) : List PyData → Nat → Prop
  | lit {v : PyData} {w : Nat} : KnownAt regs mems ws [.str "lit", v, iD w] w
  | reg {i : Nat} {p : Nat × Nat} : regs[i]? = some p → KnownAt regs mems ws [.str "reg", iD i] p.1
  | look {m : Nat} {p : Nat × Nat} {a : PyData} : mems[m]? = some p → KnownAt regs mems ws [.str "look", iD m, a] p.2
  | fit {k : Str} {r : List PyData} {ns ks : List Nat} {z : Nat} : k ∈ kindsF → FitAt k r ks z → ns.length = (partIx k).length → (∀ (j i : Nat), (partIx k)[j]? = some i → (PyData.str k :: r)[i]? = (ns[j]?).map iD) → ks.length = ns.length → (∀ (j n : Nat), ns[j]? = some n → ws[n]? = ks[j]?) →
      KnownAt regs mems ws (.str k :: r) z
section
variable {P : Program} {w : World} {K : PySem.W.Frag} {mg : Str → Option Value} {base : Heap} {tw tb : Tok} {aS aT aA aP aL : Addr}
def PtOk (K : PySem.W.Frag) (w : World) (aP : Addr) : Prop := ∀ k ∈ kindsP, ∃ t, KDct K w aP k (.ref t) ∧ ∀ H, SqT K H t ((partIx k).map iV)
def spKnown (K : PySem.W.Frag) : Sp := fun vs H Q _ => ∃ (cA wl : Addr) (v : V) (regs mems : List (Nat × Nat)) (ws : List Nat) (es : List PyData) (z : Nat), vs = [.ref cA, .ref wl, v] ∧ CH K H cA regs mems ∧ H wl = some (.lst (ws.map iV)) ∧ Dp K H v (.tuple es) ∧ noLs es = true ∧ KnownAt regs mems ws es z ∧ ∀ H', Same H H' → Q (iV z) H'
theorem ok_known {f fP fF : Addr} {fd fdP fdF : FuncData} (F : Fun K "known_row_width" "known_row_width" sKnown f fd) (GPt : FnOk P w K mg base CX0 1 fP fdP ["tree"] (spParts K w aP)) (kPt : PySem.W.keepIn K (.ref fP) = true) (bPt : Binds K fdP ["tree"] []) (gPt : mg "parts" = some (.ref fP))
    (GF : FnOk P w K mg base CX0 2 fF fdF ["node", "widths"] (spFitted K)) (kF : PySem.W.keepIn K (.ref fF) = true) (bF : Binds K fdF ["node", "widths"] []) (gF : mg "fitted_width" = some (.ref fF)) (PT : PtOk K w aP) :
    FnOk P w K mg base CX0 3 f fd ["circuit", "widths", "row"] (spKnown K) := by
  refine F.ok scKnown (fun vs H Q E h => ?_) (fun cdv A outer s H vs Q E hr h => ?_)
  · obtain ⟨cA, wl, v, regs, mems, ws, es, z, rfl, _⟩ := h
    rfl
  · obtain ⟨cA, wl, v, regs, mems, ws, es, z, rfl, C, hw, hd, hn, hk, q⟩ := h
    have nd := scKnown.nd
    have hr1 : Room 1 _ := hr.mono (by decide)
    obtain ⟨b, xs, rfl, sb, da⟩ := dp_tup hd
    refine ⟨_, (pss_cons (ps_set (i := 3) nd rfl (.inl rfl) (pe_ix ix_tup (pv 2) (pe_int) (fun _ _ => rfl)))
      (pss_cons (ps_if (pt_cmpR op_eq (pv 3) (pe_str) (nomark _)) (pss_one (ps_ret (pe_ix ix_tup (pv 2) (pe_int) (fun _ _ => rfl)))) pss_nil)
      (pss_cons (ps_if (pt_cmpR op_eq (pv 3) (pe_str) (nomark _)) (pss_one (ps_ret (pe_ix ix_tup (pe_ix ix_tup (pe_ix ix_tup (pv 0) (pe_int) (fun _ _ => rfl)) (pe_ix ix_tup (pv 2) (pe_int) (fun _ _ => rfl)) (fun _ _ => rfl)) (pe_int) (fun _ _ => rfl)))) pss_nil)
      (pss_cons (ps_if (pt_cmpR op_eq (pv 3) (pe_str) (nomark _)) (pss_one (ps_ret (pe_ix ix_tup (pe_ix ix_tup (pe_ix ix_tup (pv 0) (pe_int) (fun _ _ => rfl)) (pe_ix ix_tup (pv 2) (pe_int) (fun _ _ => rfl)) (fun _ _ => rfl)) (pe_int) (fun _ _ => rfl)))) pss_nil)
      (pss_one (ps_ret (pe_call GF hr (by rfl) gF kF bF .nil pass0 (pa_cons (pv 2) (pa_cons (pe_lc (own := [("part", 4)]) (g := gName 4) (tt := tYes) (te := tOp (rIxL K) (tVar 1) (tVar 4)) rfl nd (pi_list (pe_call GPt hr1 (by rfl) gPt kPt bPt .nil pass0 (pa_cons (pv 2) pa_nil))) (blkOk_by (own := [("part", 4)]) (N := NK) (sc := defScope sKnown) (by decide +kernel)) (fun _ _ _ _ _ => pg_name (i := 4) nd rfl (.inl rfl)) (fun _ _ _ _ _ => pts_nil) (fun _ _ _ _ _ => by exact (pe_ix ix_list (pv 1) (pv 4) (fun _ _ => rfl)))) pa_nil))))))))), ?_⟩
    have hx0 : ∃ k, es[0]? = some (.str k) := by cases hk <;> exact ⟨_, rfl⟩
    obtain ⟨k, ek⟩ := hx0
    obtain ⟨x0, ex0, dx0⟩ := dps_put da ek
    cases dx0
    refine ⟨_, rfl, _, _, _, _, rfl, rfl, sb, atI_nat (j := 0) ex0, ?_⟩
    refine ⟨_, rfl, rfl, _, rfl, ?_⟩
    obtain ⟨ra, ma, rest, rvs, mvs, h1, h2, h3, h4, h5⟩ := C.ex
    cases hk with
    | @lit v0 w0 =>
      cases ek
      obtain ⟨x2, ex2, dx2⟩ := dps_put da (i := 2) rfl
      cases dx2
      rw [sT]
      exact iteT ⟨_, rfl, _, _, _, _, rfl, rfl, sb, atI_nat (j := 2) ex2, q H (Same.refl H)⟩
    | @reg i p ep =>
      cases ek
      obtain ⟨x1, ex1, dx1⟩ := dps_put da (i := 1) rfl
      cases dx1
      obtain ⟨b2, hb1, hb2⟩ := pr_at h3 ep
      rw [sF (by decide +kernel)]
      refine iteF ⟨_, rfl, rfl, _, rfl, ?_⟩
      rw [sT]
      exact iteT ⟨_, rfl, _, _, _, _, rfl, rfl, h1, atI_nat (j := 0) rfl, _, rfl, _, _, _, _, rfl, rfl, sb, atI_nat (j := 1) ex1, _, _, _, _, rfl, rfl, h2, atI_nat hb1, _, _, _, _, rfl, rfl, hb2, atI_nat (j := 0) rfl, q H (Same.refl H)⟩
    | @look m p a ep =>
      cases ek
      obtain ⟨x1, ex1, dx1⟩ := dps_put da (i := 1) rfl
      cases dx1
      obtain ⟨b2, hb1, hb2⟩ := pr_at h5 ep
      rw [sF (by decide +kernel)]
      refine iteF ⟨_, rfl, rfl, _, rfl, ?_⟩
      rw [sF (by decide +kernel)]
      refine iteF ⟨_, rfl, rfl, _, rfl, ?_⟩
      rw [sT]
      exact iteT ⟨_, rfl, _, _, _, _, rfl, rfl, h1, atI_nat (j := 1) rfl, _, rfl, _, _, _, _, rfl, rfl, sb, atI_nat (j := 1) ex1, _, _, _, _, rfl, rfl, h4, atI_nat hb1, _, _, _, _, rfl, rfl, hb2, atI_nat (j := 1) rfl, q H (Same.refl H)⟩
    | @fit k2 r ns ks z2 hkf hf hnl hns hkl hks =>
      cases ek
      have hkn : ∀ s : Str, s ∉ kindsF → k ≠ s := fun s h e => h (e ▸ hkf)
      rw [sF (hkn "lit" (by decide +kernel))]
      refine iteF ⟨_, rfl, rfl, _, rfl, ?_⟩
      rw [sF (hkn "reg" (by decide +kernel))]
      refine iteF ⟨_, rfl, rfl, _, rfl, ?_⟩
      rw [sF (hkn "look" (by decide +kernel))]
      refine iteF ?_
      have hkp : k ∈ kindsP := List.mem_cons_of_mem _ hkf
      obtain ⟨t, pt1, pt2⟩ := PT k hkp
      have pl := partIx_len k
      refine ⟨_, rfl, _, rfl, b, t, xs, ns.map iV, k, partIx k, rfl, sb, ex0, pt1, pt2, by omega, by rw [List.length_map]; exact hnl, fun j i hj => ?_, fun p np => ?_⟩
      · have hjl : j < (partIx k).length := (List.getElem?_eq_some_iff.mp hj).1
        obtain ⟨n, en⟩ : ∃ n, ns[j]? = some n := ⟨_, List.getElem?_eq_getElem (by omega)⟩
        have e1 := hns j i hj
        rw [en] at e1
        obtain ⟨x, ex, dx⟩ := dps_put da e1
        cases dx
        rw [ex, List.getElem?_map, en]
        rfl
      refine ⟨p, rfl, ⟨_, SqL.of upd_same⟩, fun D nD => ?_⟩
      have wp : (upd H p (.lst (ns.map iV))) wl = some (.lst (ws.map iV)) := by
        rw [upd_ne (ne_of_none hw np)]
        exact hw
      have pD : p ≠ D := ne_of_none upd_same nD
      refine lc_list (xs := ns.map iV) (fun j H' => H' = upd (upd H p (.lst (ns.map iV))) D (.lst ((ks.take j).map iV))) rfl (fun j H' _ h => ?_) (fun j x H' hx h => ?_) (fun H' h => ?_)
      · subst h
        exact SqL.of (by rw [upd_ne pD]; exact upd_same)
      · subst h
        rw [List.getElem?_map] at hx
        obtain ⟨n, en⟩ : ∃ n, ns[j]? = some n := by
          cases e : ns[j]? with
          | none =>
            rw [e] at hx
            cases hx
          | some n => exact ⟨n, rfl⟩
        rw [en] at hx
        have ex := (Option.some.inj hx).symm
        subst ex
        have hj : j < ns.length := (List.getElem?_eq_some_iff.mp en).1
        obtain ⟨kv, ekv⟩ : ∃ kv, ks[j]? = some kv := ⟨_, List.getElem?_eq_getElem (by omega)⟩
        have e2 := (hks j n en).trans ekv
        refine ⟨rfl, _, rfl, _, rfl, wl, _, _, _, rfl, rfl, SqL.of (by rw [upd_ne (ne_of_none wp nD)]; exact wp), atI_nat (int_at e2), (ks.take j).map iV, upd_same, by rw [List.length_map]; exact Nat.lt_of_le_of_lt (List.length_take_le _ _) (by rw [sizeLine_eq]; omega), ?_⟩
        rw [upd_upd, List.take_add_one, ekv, List.map_append]
        rfl
      · subst h
        rw [List.length_map, ← hkl, List.take_length]
        have sm : Same H (upd (upd H p (.lst (ns.map iV))) D (.lst (ks.map iV))) := (Same.up np).trans (Same.up nD)
        refine ⟨_, D, k, r, ks, z, rfl, dp_stay (same_tup sm) _ _ hd hn, SqL.of upd_same, hf, q _ sm⟩
end
end C1

/-! row_width. -/
namespace C1
open PySem PySem.Spec PyProof.Rows L2 SX
theorem scRowWidth : FnScope NK ["circuit", "widths", "row"] (defScope sRowWidth) := ⟨rfl, rfl, rfl, by decide +kernel, rfl, by decide +kernel, by decide +kernel⟩
def lenOf (k : Str) : Option Nat := if k = "lit" then some 3 else if k = "reg" then some 2 else if k = "look" then some 3 else if k = "not" then some 2 else if k = "op" then some 4 else if k = "pick" then some 4 else if k = "wide" then some 3 else if k = "part" then some 4 else if k = "join" then some 3 else none
/-! data that the law draws: its texts, not deep -/
def strsL : List Str := ["lit", "reg", "look", "not", "op", "pick", "wide", "part", "join", "+", "-", "*", "&", "|", "^", "==", "<", "<<", ">>", "none"]
def gd : Nat → PyData → Bool
  | _, .none => true
  | _, .bool _ => true
  | _, .int _ => true
  | _, .str s => decide (s ∈ strsL)
  | n + 1, .tuple ds => decide (ds.length ≤ 1000) && ds.all (gd n)
  | _, _ => false
theorem gd_ok : ∀ (n : Nat) (d : PyData), gd n d = true → noL d = true ∧ PyData.canLay0 d = true ∧ PyData.depth d ≤ n
  | _, .none, _ => ⟨rfl, rfl, Nat.zero_le _⟩
  | _, .bool _, _ => ⟨rfl, rfl, Nat.zero_le _⟩
  | _, .int _, _ => ⟨rfl, rfl, Nat.zero_le _⟩
  | n, .str s, h => by
    have h1 : s ∈ strsL := by
      cases n <;> exact of_decide_eq_true h
    have h2 : ∀ s ∈ strsL, PyData.canLay0 (.str s) = true := by decide +kernel
    exact ⟨rfl, h2 s h1, Nat.zero_le _⟩
  | 0, .tuple _, h => by cases h
  | n + 1, .tuple ds, h => by
    have h2 := (Bool.and_eq_true_iff.mp h).2
    have h3 : ∀ ds : List PyData, ds.all (gd n) = true → noLs ds = true ∧ PyData.canLayAll0 ds = true ∧ PyData.depthAll ds ≤ n := by
      intro ds
      induction ds with
      | nil => exact fun _ => ⟨rfl, rfl, Nat.zero_le _⟩
      | cons d ds ih =>
        intro h
        rw [List.all_cons, Bool.and_eq_true] at h
        obtain ⟨a1, a2, a3⟩ := gd_ok n d h.1
        obtain ⟨b1, b2, b3⟩ := ih h.2
        refine ⟨?_, ?_, ?_⟩
        · show (noL d && noLs ds) = true
          rw [a1, b1]
          rfl
        · show (PyData.canLay0 d && PyData.canLayAll0 ds) = true
          rw [a2, b2]
          rfl
        · show max (PyData.depth d) (PyData.depthAll ds) ≤ n
          exact Nat.max_le.mpr ⟨a3, b3⟩
    obtain ⟨a, b, c⟩ := h3 ds h2
    exact ⟨a, b, Nat.succ_le_succ c⟩
  | 0, .list _, h => by cases h
  | 0, .dict _, h => by cases h
  | _ + 1, .list _, h => by cases h
  | _ + 1, .dict _, h => by cases h
theorem gd_shaped {n : Nat} {d : PyData} (h : gd n d = true) (hn : n ≤ 60) : SeqAt.shaped d = true := by
  obtain ⟨_, b, c⟩ := gd_ok n d h
  unfold SeqAt.shaped
  rw [Bool.and_eq_true]
  exact ⟨b, decide_eq_true (by omega)⟩
theorem gd_mem {n : Nat} {ds : List PyData} (h : gd (n + 1) (.tuple ds) = true) {d : PyData} (hd : d ∈ ds) : gd n d = true := List.all_eq_true.mp (Bool.and_eq_true_iff.mp h).2 d hd
theorem gd_len {n : Nat} {ds : List PyData} (h : gd (n + 1) (.tuple ds) = true) : ds.length ≤ 1000 := of_decide_eq_true (Bool.and_eq_true_iff.mp h).1
def litB (r : List PyData) : Nat := match r with
  | [v, .int w] => if (isI (.int w) 1 33 && isI v 0 (2 ^ w.toNat)) = true then w.toNat else 0
  | _ => 0
def regW (regs : List (Nat × Nat)) (r : List PyData) : Nat := match r with
  | [.int i] => if 0 ≤ i then ((regs[i.toNat]?).map Prod.fst).getD 0 else 0
  | _ => 0
def lookB (mems : List (Nat × Nat)) (ws : List Nat) (r : List PyData) : Nat := match r with
  | [.int m, .int a] => if 0 ≤ m ∧ 0 ≤ a then (match mems[m.toNat]?, ws[a.toNat]? with | some p, some x => if x = p.1 then p.2 else 0 | _, _ => 0) else 0
  | _ => 0
def fitB (k : Str) (r : List PyData) (ks : List Nat) : Nat :=
  if k = "op" then (match r, ks with | s :: _, [x, y] => opD s x y | _, _ => 0)
  else if k = "pick" then (match ks with | [x, y, z] => if x = 1 ∧ y = z then y else 0 | _ => 0)
  else if k = "not" then ks.headD 0
  else if k = "wide" then (match r with | [_, .int w] => if 1 ≤ w ∧ w ≤ 32 then w.toNat else 0 | _ => 0)
  else if k = "part" then (match r, ks with | [_, .int lo, .int hi], [x] => if 0 ≤ lo ∧ lo ≤ hi ∧ hi < x then (hi - lo + 1).toNat else 0 | _, _ => 0)
  else (match ks with | [x, y] => if x + y ≤ 32 then x + y else 0 | _ => 0)
def natD : PyData → Nat
  | .int i => i.toNat
  | _ => 0
def partsD (k : Str) (es : List PyData) : List PyData := (partIx k).map fun i => es.getD i .none
def rowB (regs mems : List (Nat × Nat)) (ws : List Nat) (d : PyData) : Nat := match d with
  | .tuple (.str k :: r) =>
    if lenOf k = some (r.length + 1) then
      if k = "lit" then litB r else if k = "reg" then regW regs r
      else if ((partsD k (.str k :: r)).all fun p => isI p 0 (ws.length : Nat)) = true then
        (if k = "look" then lookB mems ws r else fitB k r ((partsD k (.str k :: r)).map fun p => ws.getD (natD p) 0))
      else 0
    else 0
  | _ => 0
theorem kinds_of {k : Str} {m : Nat} (h : lenOf k = some m) : k = "lit" ∨ k = "reg" ∨ k ∈ kindsP := by
  unfold lenOf at h
  by_cases h1 : k = "lit"
  · exact .inl h1
  by_cases h2 : k = "reg"
  · exact .inr (.inl h2)
  refine .inr (.inr ?_)
  rw [if_neg h1, if_neg h2] at h
  by_cases h3 : k = "look"
  · subst h3
    decide +kernel
  rw [if_neg h3] at h
  by_cases h4 : k = "not"
  · subst h4
    decide +kernel
  rw [if_neg h4] at h
  by_cases h5 : k = "op"
  · subst h5
    decide +kernel
  rw [if_neg h5] at h
  by_cases h6 : k = "pick"
  · subst h6
    decide +kernel
  rw [if_neg h6] at h
  by_cases h7 : k = "wide"
  · subst h7
    decide +kernel
  rw [if_neg h7] at h
  by_cases h8 : k = "part"
  · subst h8
    decide +kernel
  rw [if_neg h8] at h
  by_cases h9 : k = "join"
  · subst h9
    decide +kernel
  rw [if_neg h9] at h
  cases h
theorem part_lt : ∀ k ∈ kindsP, ∀ m, lenOf k = some m → ∀ i ∈ partIx k, i < m := by
  have h : ∀ k ∈ kindsP, ∀ i ∈ partIx k, i < (lenOf k).getD 0 := by decide +kernel
  intro k hk m hm i hi
  have := h k hk i hi
  rw [hm] at this
  exact this
theorem dps_pick {K : PySem.W.Frag} {H : Hp} {xs : List V} {es : List PyData} (h : DpAll K H xs es) : ∀ is : List Nat, (∀ i ∈ is, i < es.length) → ∃ ys : List V, ys.length = is.length ∧ (∀ (j i : Nat), is[j]? = some i → xs[i]? = ys[j]?) ∧ DpAll K H ys (is.map fun i => es.getD i .none)
  | [], _ => ⟨[], rfl, fun j i h => by simp at h, .nil⟩
  | i :: is, hi => by
    obtain ⟨ys, l, g, d⟩ := dps_pick h is fun i2 h2 => hi i2 (List.mem_cons_of_mem _ h2)
    have hil := hi i (List.mem_cons_self ..)
    obtain ⟨x, ex, dx⟩ := dps_put h (List.getElem?_eq_getElem hil)
    refine ⟨x :: ys, by rw [List.length_cons, List.length_cons, l], fun j i2 hj => ?_, .cons ?_ d⟩
    · cases j with
      | zero =>
        cases hj
        exact ex
      | succ j => exact g j i2 hj
    · show Dp K H x (es.getD i .none)
      rw [List.getD_eq_getElem?_getD, List.getElem?_eq_getElem hil]
      exact dx
theorem all_nat (ws : List Nat) : ∀ pd : List PyData, (pd.all fun p => isI p 0 (ws.length : Nat)) = true → ∃ ns ks : List Nat, pd = ns.map iD ∧ ks.length = ns.length ∧ (∀ (j n : Nat), ns[j]? = some n → ws[n]? = ks[j]?) ∧ (pd.map fun p => ws.getD (natD p) 0) = ks
  | [], _ => ⟨[], [], rfl, rfl, fun j n h => by simp at h, rfl⟩
  | p :: pd, h => by
    rw [List.all_cons, Bool.and_eq_true] at h
    obtain ⟨ns, ks, e1, e2, e3, e4⟩ := all_nat ws pd h.2
    obtain ⟨i, rfl, i0, i1⟩ := isI_iff.mp h.1
    obtain ⟨n, rfl⟩ : ∃ n : Nat, i = ((n : Nat) : Int) := ⟨i.toNat, by omega⟩
    have hn : n < ws.length := by omega
    refine ⟨n :: ns, ws[n] :: ks, by rw [List.map_cons, e1], by rw [List.length_cons, List.length_cons, e2], fun j m hj => ?_, ?_⟩
    · cases j with
      | zero =>
        cases hj
        exact List.getElem?_eq_getElem hn
      | succ j => exact e3 j m hj
    · rw [List.map_cons, e4]
      show ws.getD ((n : Nat) : Int).toNat 0 :: ks = _
      rw [Int.toNat_natCast, List.getD_eq_getElem?_getD, List.getElem?_eq_getElem hn]
      rfl
theorem len1 {α : Type} {l : List α} (h : l.length = 1) : ∃ a, l = [a] := by
  match l, h with
  | [a], _ => exact ⟨a, rfl⟩
theorem len2 {α : Type} {l : List α} (h : l.length = 2) : ∃ a b, l = [a, b] := by
  match l, h with
  | [a, b], _ => exact ⟨a, b, rfl⟩
theorem len3 {α : Type} {l : List α} (h : l.length = 3) : ∃ a b c, l = [a, b, c] := by
  match l, h with
  | [a, b, c], _ => exact ⟨a, b, c, rfl⟩
theorem fit_of {k : Str} {r : List PyData} {ks : List Nat} (hk : k ∈ kindsP) (hl : lenOf k = some (r.length + 1)) (hk2 : k ≠ "look") (hks : ks.length = (partIx k).length) (hs : ∀ d ∈ r, SeqAt.shaped d = true) (hw : k = "wide" → ∃ a w, r = [a, .int w]) (hp : k = "part" → ∃ a lo hi, r = [a, .int lo, .int hi]) :
    k ∈ kindsF ∧ FitAt k r ks (fitB k r ks) := by
  have hf : k ∈ kindsF := (List.mem_cons.mp hk).resolve_left hk2
  refine ⟨hf, ?_⟩
  have hc : k = "not" ∨ k = "op" ∨ k = "pick" ∨ k = "wide" ∨ k = "part" ∨ k = "join" := by
    unfold kindsF at hf
    simpa using hf
  rcases hc with h | h | h | h | h | h
  · subst h
    obtain ⟨a, rfl⟩ := len1 (l := r) (by have : some 2 = some (r.length + 1) := hl; have := Option.some.inj this; omega)
    obtain ⟨x, rfl⟩ := len1 (l := ks) hks
    exact .inv
  · subst h
    obtain ⟨s, a, b, rfl⟩ := len3 (l := r) (by have : some 4 = some (r.length + 1) := hl; have := Option.some.inj this; omega)
    obtain ⟨x, y, rfl⟩ := len2 (l := ks) hks
    exact .op (hs s (List.mem_cons_self ..))
  · subst h
    obtain ⟨s, a, b, rfl⟩ := len3 (l := r) (by have : some 4 = some (r.length + 1) := hl; have := Option.some.inj this; omega)
    obtain ⟨x, y, z, rfl⟩ := len3 (l := ks) hks
    exact .pick
  · obtain ⟨a, w, rfl⟩ := hw h
    subst h
    obtain ⟨x, rfl⟩ := len1 (l := ks) hks
    exact .wide
  · obtain ⟨a, lo, hi, rfl⟩ := hp h
    subst h
    obtain ⟨x, rfl⟩ := len1 (l := ks) hks
    exact .part
  · subst h
    obtain ⟨a, b, rfl⟩ := len2 (l := r) (by have : some 3 = some (r.length + 1) := hl; have := Option.some.inj this; omega)
    obtain ⟨x, y, rfl⟩ := len2 (l := ks) hks
    exact .join
theorem iteN {c A B : Prop} [Decidable c] (hc : ¬ c) (h : A) : if (!decide c) = true then A else B := by
  rw [decide_eq_false hc]
  exact iteT h
section
variable {P : Program} {w : World} {K : PySem.W.Frag} {mg : Str → Option Value} {base : Heap} {tw tb : Tok} {aS aT aA aP aL : Addr}
def LnOk (K : PySem.W.Frag) (w : World) (aL : Addr) : Prop := (∃ es n, KDict K w aL es n) ∧ ∀ z ∈ strsL, ∃ r v, PySem.W.nsIn K aL z = some r ∧ RelV v (r.getD .none) ∧ v = (match lenOf z with | some n => iV n | none => V.non)
def spRowWidth (K : PySem.W.Frag) : Sp := fun vs H Q _ => ∃ (cA wl : Addr) (v : V) (regs mems : List (Nat × Nat)) (ws : List Nat) (d : PyData) (n : Nat), vs = [.ref cA, .ref wl, v] ∧ CH K H cA regs mems ∧ H wl = some (.lst (ws.map iV)) ∧ Dp K H v d ∧ gd n d = true ∧ n ≤ 20 ∧ ws.length ≤ 1000 ∧ regs.length ≤ 1000 ∧ mems.length ≤ 1000 ∧ ∀ H', Same H H' → Q (iV (rowB regs mems ws d)) H'
theorem ok_rowWidth {f fP fB fW fM fK : Addr} {fd fdP fdB fdW fdM fdK : FuncData} (F : Fun K "row_width" "row_width" sRowWidth f fd) (G : Gp mg tw tb) (gL : mg "ROW_LENGTHS" = some (.ref aL)) (LN : LnOk K w aL) (PT : PtOk K w aP)
    (GPt : FnOk P w K mg base CX0 1 fP fdP ["tree"] (spParts K w aP)) (kPt : PySem.W.keepIn K (.ref fP) = true) (bPt : Binds K fdP ["tree"] []) (gPt : mg "parts" = some (.ref fP))
    (GB : FnOk P w K mg base CX0 1 fB fdB ["thing", "limit"] (spIsBelow K)) (kB : PySem.W.keepIn K (.ref fB) = true) (bB : Binds K fdB ["thing", "limit"] []) (gB : mg "is_below" = some (.ref fB))
    (GW : FnOk P w K mg base CX0 2 fW fdW ["thing"] (spIsWidth K)) (kW : PySem.W.keepIn K (.ref fW) = true) (bW : Binds K fdW ["thing"] []) (gW : mg "is_width" = some (.ref fW))
    (GM : FnOk P w K mg base CX0 1 fM fdM ["width"] spMask) (kM : PySem.W.keepIn K (.ref fM) = true) (bM : Binds K fdM ["width"] []) (gM : mg "mask" = some (.ref fM))
    (GK : FnOk P w K mg base CX0 3 fK fdK ["circuit", "widths", "row"] (spKnown K)) (kK : PySem.W.keepIn K (.ref fK) = true) (bK : Binds K fdK ["circuit", "widths", "row"] []) (gK : mg "known_row_width" = some (.ref fK)) :
    FnOk P w K mg base CX0 4 f fd ["circuit", "widths", "row"] (spRowWidth K) := by
  refine F.ok scRowWidth (fun vs H Q E h => ?_) (fun cdv A outer s H vs Q E hr h => ?_)
  · obtain ⟨cA, wl, v, regs, mems, ws, d, n, rfl, _⟩ := h
    rfl
  · obtain ⟨cA, wl, v, regs, mems, ws, d, n, rfl, C, hw, hd, hg, hn, lw, lr, lm, q⟩ := h
    have nd := scRowWidth.nd
    have hr1 : Room 1 _ := hr.mono (by decide)
    have hr2 : Room 2 _ := hr.mono (by decide)
    refine ⟨_, (pss_cons (ps_if (PW.pt (pw_or (pt_cmpR op_notTyB (pe_callTy call_type1 (by rfl) G.ty (by decide +kernel) (pa_cons (pv 2) pa_nil)) (pe_bltn (v := .ty "tuple") (by rfl) G.tu (by decide +kernel) rfl) (nomark _)) (pw_or (pt_not (pt_truth (pv 2) (by intro _; rfl))) (pw_or (pt_cmpR op_notTyB (pe_callTy call_type1 (by rfl) G.ty (by decide +kernel) (pa_cons (pe_ix ix_tup (pv 2) (pe_int) (fun _ _ => rfl)) pa_nil)) (pe_bltn (v := .ty "str") (by rfl) G.st (by decide +kernel) rfl) (nomark _)) (pw_or1 (pt_cmpR op_ne (pe_kget (pe_glob (v := .ref aL) (by rfl) gL rfl) (pe_ix ix_tup (pv 2) (pe_int) (fun _ _ => rfl)) ⟨rfl, rfl, rfl, rfl⟩) (pe_callB call_len_seq (by rfl) G.len PySem.boot_len (pa_cons (pv 2) pa_nil)) (nomark _))))))) (pss_one (ps_ret (pe_int))) pss_nil)
      (pss_cons (ps_set (i := 3) nd rfl (.inl rfl) (pe_ix ix_tup (pv 2) (pe_int) (fun _ _ => rfl)))
      (pss_cons (ps_if (pt_cmpR op_eq (pv 3) (pe_str) (nomark _)) (pss_one (ps_ret (pe_ifExp (PW.pt (pw_and (pt_val (pe_call GW hr2 (by rfl) gW kW bW .nil pass0 (pa_cons (pe_ix ix_tup (pv 2) (pe_int) (fun _ _ => rfl)) pa_nil))) (pw_and1 (pt_val (pe_call GB hr1 (by rfl) gB kB bB .nil pass0 (pa_cons (pe_ix ix_tup (pv 2) (pe_int) (fun _ _ => rfl)) (pa_cons (pe_op op_add (pe_call GM hr1 (by rfl) gM kM bM .nil pass0 (pa_cons (pe_ix ix_tup (pv 2) (pe_int) (fun _ _ => rfl)) pa_nil)) (pe_int)) pa_nil))))))) (pe_ix ix_tup (pv 2) (pe_int) (fun _ _ => rfl)) pe_int))) pss_nil)
      (pss_cons (ps_if (pt_cmpR op_eq (pv 3) (pe_str) (nomark _)) (pss_one (ps_ret (pe_ifExp (pt_val (pe_call GB hr1 (by rfl) gB kB bB .nil pass0 (pa_cons (pe_ix ix_tup (pv 2) (pe_int) (fun _ _ => rfl)) (pa_cons (pe_callB call_len_seq (by rfl) G.len PySem.boot_len (pa_cons (pe_ix ix_tup (pv 0) (pe_int) (fun _ _ => rfl)) pa_nil)) pa_nil)))) (pe_call GK hr (by rfl) gK kK bK .nil pass0 (pa_cons (pv 0) (pa_cons (pv 1) (pa_cons (pv 2) pa_nil)))) pe_int))) pss_nil)
      (C8.pss_cut (ps_if (pt_not (pt_val (pe_callB (cr_all rfl) (by rfl) G.all (by decide +kernel) (pa_cons (pe_lc (own := [("part", 4)]) (g := gName 4) (tt := tYes) (te := tCall (spIsBelow K) [] E0 (tCons (tVar 4) (tCons (tCB (rLen K) (tCons (tVar 1) tNil)) tNil))) rfl nd (pi_list (pe_call GPt hr1 (by rfl) gPt kPt bPt .nil pass0 (pa_cons (pv 2) pa_nil))) (blkOk_by (own := [("part", 4)]) (N := NK) (sc := defScope sRowWidth) (by decide +kernel)) (fun _ _ _ _ _ => pg_name (i := 4) nd rfl (.inl rfl)) (fun _ _ _ _ _ => pts_nil) (fun _ _ _ _ _ => by exact (pe_call GB hr1 (by rfl) gB kB bB .nil pass0 (pa_cons (pv 4) (pa_cons (pe_callB call_len_seq (by rfl) G.len PySem.boot_len (pa_cons (pv 1) pa_nil)) pa_nil))))) pa_nil)))) (pss_one (ps_ret (pe_int))) pss_nil)
      (C8.pss_cut (ps_if (pt_cmpR op_eq (pv 3) (pe_str) (nomark _)) (pss_one (ps_if (PW.pt (pw_or (pt_not (pt_val (pe_call GB hr1 (by rfl) gB kB bB .nil pass0 (pa_cons (pe_ix ix_tup (pv 2) (pe_int) (fun _ _ => rfl)) (pa_cons (pe_callB call_len_seq (by rfl) G.len PySem.boot_len (pa_cons (pe_ix ix_tup (pv 0) (pe_int) (fun _ _ => rfl)) pa_nil)) pa_nil))))) (pw_or1 (pt_cmpR op_ne (pe_ix ix_list (pv 1) (pe_ix ix_tup (pv 2) (pe_int) (fun _ _ => rfl)) (fun _ _ => rfl)) (pe_ix ix_tup (pe_ix ix_tup (pe_ix ix_tup (pv 0) (pe_int) (fun _ _ => rfl)) (pe_ix ix_tup (pv 2) (pe_int) (fun _ _ => rfl)) (fun _ _ => rfl)) (pe_int) (fun _ _ => rfl)) (nomark _))))) (pss_one (ps_ret (pe_int))) pss_nil)) pss_nil)
      (pss_cons (ps_if (PW.pt (pw_and (pt_cmpR op_in_seq (pv 3) (pe_tup (pa_cons (pe_str) (pa_cons (pe_str) pa_nil))) (by rfl)) (pw_and1 (pt_not (pt_val (pe_callB (cr_all rfl) (by rfl) G.all (by decide +kernel) (pa_cons (pe_lc (own := [("part", 4)]) (g := gName 4) (tt := tYes) (te := tOp (fun x y H Q => ∃ a b, x = .ty a ∧ y = .ty b ∧ Q (.bl (decide (a = b))) H) (tCB (rTyp K) (tCons (tVar 4) tNil)) (tC (.ty "int"))) rfl nd (pi_tup (pe_slice sl_tup (pv 2) (po_some pe_int) po_none)) (blkOk_by (own := [("part", 4)]) (N := NK) (sc := defScope sRowWidth) (by decide +kernel)) (fun _ _ _ _ _ => pg_name (i := 4) nd rfl (.inl rfl)) (fun _ _ _ _ _ => pts_nil) (fun _ _ _ _ _ => by exact (pe_cmpR op_isTyB (pe_callTy call_type1 (by rfl) G.ty (by decide +kernel) (pa_cons (pv 4) pa_nil)) (pe_bltn (v := .ty "int") (by rfl) G.it (by decide +kernel) rfl) (nomark _)))) pa_nil))))))) (pss_one (ps_ret (pe_int))) pss_nil)
      (pss_one (ps_ret (pe_call GK hr (by rfl) gK kK bK .nil pass0 (pa_cons (pv 0) (pa_cons (pv 1) (pa_cons (pv 2) pa_nil))))))))))))), ?_⟩
    have z0 : rowB regs mems ws d = 0 → ∀ {H'}, Same H H' → Q (.int 0) H' := fun e H' sm => by
      have := q H' sm
      rw [e] at this
      exact this
    have s0 := Same.refl H
    obtain ⟨⟨les, ln, KD⟩, hln⟩ := LN
    refine ⟨_, rfl, _, _, rfl, ty_of hd, _, _, rfl, rfl, _, rfl, ?_⟩
    cases d with
    | tuple es =>
      refine iteNS rfl ?_
      obtain ⟨b, xs, rfl, sb, da⟩ := dp_tup hd
      have hnn : noLs es = true := (gd_ok n _ hg).1
      obtain ⟨n, rfl⟩ : ∃ m, n = m + 1 := by
        cases n with
        | zero => cases hg
        | succ m => exact ⟨m, rfl⟩
      refine ⟨_, rfl, _, .inr (.inl ⟨xs, sb, rfl⟩), ?_⟩
      cases da with
      | nil => exact iteT (z0 rfl s0)
      | @cons x0 xs d0 r hd0 da =>
        refine iteF ?_
        refine ⟨_, rfl, _, _, _, _, rfl, rfl, sb, atI_nat (j := 0) rfl, _, _, rfl, ty_of hd0, _, _, rfl, rfl, _, rfl, ?_⟩
        cases d0 with
        | str k =>
          cases hd0
          refine iteNS rfl ?_
          have hkk : k ∈ strsL := by
            have := gd_mem hg (List.mem_cons_self ..)
            cases n <;> exact of_decide_eq_true this
          obtain ⟨rr, vv, e1, e2, e3⟩ := hln k hkk
          have lda := dps_len da
          refine ⟨aL, les, ln, rfl, KD, _, rfl, _, _, _, _, rfl, rfl, sb, atI_nat (j := 0) rfl, k, rr, vv, rfl, e1, e2, _, rfl, _, _, rfl, .inr sb, ?_⟩
          subst e3
          cases hl : lenOf k with
          | none =>
            have e : rowB regs mems ws (.tuple (.str k :: r)) = 0 := by
              unfold rowB
              exact if_neg (by rw [hl]; intro z; cases z)
            exact ⟨rfl, _, rfl, iteN (fun z => by cases z) (z0 e s0)⟩
          | some m =>
            by_cases hm : m = r.length + 1
            · subst hm
              refine ⟨rfl, _, rfl, iteNS (by
                show V.int ((r.length + 1 : Nat) : Int) = V.int (((V.str k :: xs).length : Nat) : Int)
                rw [List.length_cons, lda]) ?_⟩
              have hrow : rowB regs mems ws (.tuple (.str k :: r)) = (if k = "lit" then litB r else if k = "reg" then regW regs r
                  else if ((partsD k (.str k :: r)).all fun p => isI p 0 (ws.length : Nat)) = true then
                    (if k = "look" then lookB mems ws r else fitB k r ((partsD k (.str k :: r)).map fun p => ws.getD (natD p) 0)) else 0) := if_pos hl
              refine ⟨_, rfl, _, _, _, _, rfl, rfl, sb, atI_nat (j := 0) rfl, ?_⟩
              refine ⟨_, rfl, rfl, _, rfl, ?_⟩
              by_cases hlit : k = "lit"
              · subst hlit
                obtain ⟨v0, w0, rfl⟩ := len2 (l := r) (by have : some 3 = some (r.length + 1) := hl; have := Option.some.inj this; omega)
                rw [if_pos rfl] at hrow
                rw [sT]
                refine iteT ?_
                cases da with
                | cons dv da =>
                cases da with
                | cons dw da =>
                cases da
                refine ⟨_, rfl, _, _, _, _, rfl, rfl, sb, atI_nat (j := 2) rfl, _, w0, rfl, dw, _, rfl, ite2 (fun b1 => ?_) (fun b1 => ?_)⟩
                · obtain ⟨i, rfl, i0, i1⟩ := isI_iff.mp b1
                  cases dw
                  obtain ⟨nn, rfl⟩ : ∃ n : Nat, i = ((n : Nat) : Int) := ⟨i.toNat, by omega⟩
                  have el : litB [v0, .int ((nn : Nat) : Int)] = if isI v0 0 (2 ^ nn - 1 + 1) = true then nn else 0 := by
                    show (if (isI (.int ((nn : Nat) : Int)) 1 33 && isI v0 0 (2 ^ ((nn : Nat) : Int).toNat)) = true then ((nn : Nat) : Int).toNat else 0) = _
                    rw [b1, Bool.true_and, Int.toNat_natCast, Int.sub_add_cancel]
                  rw [el] at hrow
                  refine ⟨_, rfl, _, _, _, _, rfl, rfl, sb, atI_nat (j := 1) rfl, _, rfl, _, _, _, _, rfl, rfl, sb, atI_nat (j := 2) rfl, nn, rfl, by omega, _, _, rfl, rfl, _, v0, _, rfl, dv, _, rfl, ite2 (fun b2 => ?_) (fun b2 => ?_)⟩
                  · rw [if_pos b2] at hrow
                    have := q H s0
                    rw [hrow] at this
                    exact ⟨_, rfl, _, _, _, _, rfl, rfl, sb, atI_nat (j := 2) rfl, this⟩
                  · rw [if_neg b2] at hrow
                    exact z0 hrow s0
                · refine z0 (hrow.trans ?_) s0
                  cases w0 with
                  | int i =>
                    show (if (isI (.int i) 1 33 && _) = true then _ else 0) = 0
                    rw [Bool.eq_false_iff.mpr b1, Bool.false_and]
                    rfl
                  | _ => rfl
              rw [if_neg hlit] at hrow
              rw [sF hlit]
              refine iteF ⟨_, rfl, rfl, _, rfl, ?_⟩
              obtain ⟨ra, ma, rest, rvs, mvs, h1, h2, h3, h4, h5⟩ := C.ex
              have lrv : rvs.length = regs.length := by
                have := dps_len h3
                rw [List.length_map] at this
                exact this
              have lmv : mvs.length = mems.length := by
                have := dps_len h5
                rw [List.length_map] at this
                exact this
              have fin : ∀ {H' : Hp} {z : Nat}, Same H H' → KnownAt regs mems ws (.str k :: r) z → rowB regs mems ws (.tuple (.str k :: r)) = z → ∀ Q2 : VK, Q2 = Q → CH K H' cA regs mems ∧ H' wl = some (.lst (ws.map iV)) ∧ Dp K H' (.ref b) (.tuple (.str k :: r)) ∧ noLs (.str k :: r) = true ∧ KnownAt regs mems ws (.str k :: r) z ∧ ∀ H2, Same H' H2 → Q (iV z) H2 := fun {H' z} sm kn e _ _ => ⟨C.same sm, sm _ _ hw, dp_stay (same_tup sm) _ _ hd hnn, hnn, kn, fun H2 s2 => by rw [← e]; exact q H2 (sm.trans s2)⟩
              by_cases hreg : k = "reg"
              · subst hreg
                obtain ⟨i0, rfl⟩ := len1 (l := r) (by have : some 2 = some (r.length + 1) := hl; have := Option.some.inj this; omega)
                rw [if_pos rfl] at hrow
                rw [sT]
                refine iteT ?_
                cases da with
                | cons di da =>
                cases da
                refine ⟨_, rfl, _, _, _, _, rfl, rfl, sb, atI_nat (j := 1) rfl, _, rfl, _, _, _, _, rfl, rfl, h1, atI_nat (j := 0) rfl, _, _, rfl, .inr h2, _, i0, _, rfl, di, _, rfl, ite2 (fun b1 => ?_) (fun b1 => ?_)⟩
                · obtain ⟨i, rfl, i1, i2⟩ := isI_iff.mp b1
                  obtain ⟨nn, rfl⟩ : ∃ n : Nat, i = ((n : Nat) : Int) := ⟨i.toNat, by omega⟩
                  obtain ⟨p, ep⟩ : ∃ p, regs[nn]? = some p := ⟨_, List.getElem?_eq_getElem (by omega)⟩
                  have er : regW regs [.int ((nn : Nat) : Int)] = p.1 := by
                    show (if (0 : Int) ≤ ((nn : Nat) : Int) then _ else 0) = _
                    rw [if_pos i1, Int.toNat_natCast, ep]
                    rfl
                  obtain ⟨f1, f2, f3, f4, f5, f6⟩ := fin s0 (.reg ep) (hrow.trans er) _ rfl
                  exact ⟨_, rfl, _, rfl, _, rfl, cA, wl, _, regs, mems, ws, _, _, rfl, f1, f2, f3, f4, f5, f6⟩
                · refine z0 (hrow.trans ?_) s0
                  cases i0 with
                  | int i =>
                    show (if (0 : Int) ≤ i then ((regs[i.toNat]?).map Prod.fst).getD 0 else 0) = 0
                    by_cases hi : 0 ≤ i
                    · rw [if_pos hi, List.getElem?_eq_none]
                      · rfl
                      · have : ¬ i < ((rvs.length : Nat) : Int) := fun z => b1 (isI_iff.mpr ⟨i, rfl, hi, z⟩)
                        omega
                    · rw [if_neg hi]
                  | _ => rfl
              rw [if_neg hreg] at hrow
              rw [sF hreg]
              refine iteF ?_
              have hkp : k ∈ kindsP := ((kinds_of hl).resolve_left hlit).resolve_left hreg
              obtain ⟨t, pt1, pt2⟩ := PT k hkp
              have pl := partIx_len k
              obtain ⟨ys, yl, yg, yd⟩ := dps_pick (.cons (.str k) da) (partIx k) (fun i hi => part_lt k hkp _ hl i hi)
              have hpd : partsD k (.str k :: r) = (partIx k).map fun i => (PyData.str k :: r).getD i .none := rfl
              rw [← hpd] at yd
              refine ⟨fun σ H' => σ = [some (.ref cA), some (.ref wl), some (.ref b), some (.str k), none] ∧ Same H H' ∧ ((partsD k (.str k :: r)).all fun p => isI p 0 (ws.length : Nat)) = true, ?_, ?_⟩
              · refine ⟨_, rfl, b, t, V.str k :: xs, ys, k, partIx k, rfl, sb, rfl, pt1, pt2, by omega, yl, yg, fun p np => ⟨p, rfl, ⟨_, SqL.of upd_same⟩, fun D nD => ?_⟩⟩
                have pD : p ≠ D := ne_of_none upd_same nD
                have wp : (upd H p (.lst ys)) wl = some (.lst (ws.map iV)) := by
                  rw [upd_ne (ne_of_none hw np)]
                  exact hw
                have ylp : ys.length = (partsD k (.str k :: r)).length := dps_len yd
                refine lc_list (xs := ys) (fun j H' => H' = upd (upd H p (.lst ys)) D (.lst ((((partsD k (.str k :: r)).take j).map fun p => isI p 0 (ws.length : Nat)).map V.bl))) rfl (fun j H' _ h => ?_) (fun j x H' hx h => ?_) (fun H' h => ?_)
                · subst h
                  exact SqL.of (by rw [upd_ne pD]; exact upd_same)
                · subst h
                  obtain ⟨dj, hdj, dx⟩ := dps_get yd hx
                  have nlj : noL dj = true := by
                    have h1 : noLs (partsD k (.str k :: r)) = true := by
                      have h2 : ∀ is : List Nat, noLs (is.map fun i => (PyData.str k :: r).getD i .none) = true := by
                        intro is
                        induction is with
                        | nil => rfl
                        | cons i is ih =>
                          show (noL ((PyData.str k :: r).getD i .none) && noLs (is.map fun i => (PyData.str k :: r).getD i .none)) = true
                          rw [ih, Bool.and_true, List.getD_eq_getElem?_getD]
                          cases e : (PyData.str k :: r)[i]? with
                          | none => rfl
                          | some dd => exact (gd_ok n dd (gd_mem hg (List.mem_of_getElem? e))).1
                      exact h2 _
                    have h3 : ∀ L : List PyData, noLs L = true → ∀ d ∈ L, noL d = true := by
                      intro L
                      induction L with
                      | nil => intro _ d hd; cases hd
                      | cons a L ih =>
                        intro h d hd
                        have h' := Bool.and_eq_true_iff.mp (show (noL a && noLs L) = true from h)
                        rcases List.mem_cons.mp hd with rfl | hd
                        · exact h'.1
                        · exact ih h'.2 d hd
                    exact h3 _ h1 dj (List.mem_of_getElem? hdj)
                  have sm : Same H (upd (upd H p (.lst ys)) D (.lst ((((partsD k (.str k :: r)).take j).map fun p => isI p 0 (ws.length : Nat)).map V.bl))) := (Same.up np).trans (Same.up nD)
                  refine ⟨rfl, _, rfl, _, rfl, wl, _, rfl, .inl (SqL.of (by rw [upd_ne (ne_of_none wp nD)]; exact wp)), x, dj, _, rfl, dp_stay (same_tup sm) _ _ dx nlj, _, upd_same, ?_, ?_⟩
                  · rw [List.length_map, List.length_map]
                    refine Nat.lt_of_le_of_lt (List.length_take_le' _ _) ?_
                    rw [← ylp, yl, sizeLine_eq]
                    omega
                  · rw [upd_upd, List.take_add_one, hdj, List.map_append, List.map_append, List.length_map]
                    rfl
                · subst h
                  refine ⟨D, _, rfl, SqL.of upd_same, _, rfl, ?_⟩
                  rw [ylp, List.take_length]
                  have sm : Same H (upd (upd H p (.lst ys)) D (.lst (((partsD k (.str k :: r)).map fun p => isI p 0 (ws.length : Nat)).map V.bl))) := (Same.up np).trans (Same.up nD)
                  have ea : (((partsD k (.str k :: r)).map fun p => isI p 0 (ws.length : Nat)).all id) = ((partsD k (.str k :: r)).all fun p => isI p 0 (ws.length : Nat)) := by
                    rw [List.all_map]
                    rfl
                  rw [ea]
                  cases ha : ((partsD k (.str k :: r)).all fun p => isI p 0 (ws.length : Nat)) with
                  | true => exact iteF ⟨rfl, sm, rfl⟩
                  | false =>
                    rw [ha] at hrow
                    exact iteT (z0 hrow sm)
              rintro σ H3 ⟨rfl, s3, hall⟩
              rw [if_pos hall] at hrow
              obtain ⟨ns, ks, en1, en2, en3, en4⟩ := all_nat ws _ hall
              refine ⟨fun σ H' => σ = [some (.ref cA), some (.ref wl), some (.ref b), some (.str k), none] ∧ Same H H' ∧ (k = "look" → ∃ (m : Nat) (p : Nat × Nat) (a x : Nat), r = [iD m, iD a] ∧ mems[m]? = some p ∧ ws[a]? = some p.1), ?_, ?_⟩
              · refine ⟨_, rfl, rfl, _, rfl, ?_⟩
                by_cases hlk : k = "look"
                · subst hlk
                  rw [sT]
                  refine iteT ?_
                  obtain ⟨m0, a0, rfl⟩ := len2 (l := r) (by have : some 3 = some (r.length + 1) := hl; have := Option.some.inj this; omega)
                  cases da with
                  | cons dm da =>
                  cases da with
                  | cons da0 da =>
                  cases da
                  have nlm : noL m0 = true := (Bool.and_eq_true_iff.mp (show (noL m0 && noLs [a0]) = true from (Bool.and_eq_true_iff.mp (show (true && (noL m0 && noLs [a0])) = true from hnn)).2)).1
                  have ep : partsD "look" [.str "look", m0, a0] = [a0] := rfl
                  rw [ep] at en1
                  obtain ⟨a, rfl, ea0⟩ : ∃ a, ns = [a] ∧ a0 = iD a := by
                    match ns, en1 with
                    | [a], h => exact ⟨a, rfl, List.head_eq_of_cons_eq h⟩
                  subst ea0
                  obtain ⟨x, rfl⟩ := len1 (l := ks) en2
                  have eax : ws[a]? = some x := en3 0 a rfl
                  cases da0
                  rw [if_pos rfl] at hrow
                  have sb3 := same_tup s3 _ _ sb
                  refine ⟨_, rfl, _, _, _, _, rfl, rfl, sb3, atI_nat (j := 1) rfl, _, rfl, _, _, _, _, rfl, rfl, same_tup s3 _ _ h1, atI_nat (j := 1) rfl, _, _, rfl, .inr (same_tup s3 _ _ h4), _, m0, _, rfl, dp_stay (same_tup s3) _ _ dm nlm, _, rfl, ?_⟩
                  cases hi : isI m0 0 (mvs.length : Nat) with
                  | false =>
                    refine iteT (z0 (hrow.trans ?_) s3)
                    cases m0 with
                    | int i =>
                      show (if (0 : Int) ≤ i ∧ (0 : Int) ≤ ((a : Nat) : Int) then _ else 0) = 0
                      by_cases h0 : (0 : Int) ≤ i
                      · rw [if_pos ⟨h0, by omega⟩, List.getElem?_eq_none (l := mems)]
                        have : ¬ i < ((mvs.length : Nat) : Int) := fun z => by
                          rw [isI_iff.mpr ⟨i, rfl, h0, z⟩] at hi
                          cases hi
                        omega
                      · rw [if_neg (fun z => h0 z.1)]
                    | _ => rfl
                  | true =>
                    obtain ⟨i, rfl, i1, i2⟩ := isI_iff.mp hi
                    obtain ⟨mm, rfl⟩ : ∃ n : Nat, i = ((n : Nat) : Int) := ⟨i.toNat, by omega⟩
                    obtain ⟨p, epm⟩ : ∃ p, mems[mm]? = some p := ⟨_, List.getElem?_eq_getElem (by omega)⟩
                    cases dm
                    obtain ⟨b2, hb1, hb2⟩ := pr_at h5 epm
                    have elook : lookB mems ws [iD mm, iD a] = if x = p.1 then p.2 else 0 := by
                      show (if (0 : Int) ≤ ((mm : Nat) : Int) ∧ (0 : Int) ≤ ((a : Nat) : Int) then _ else 0) = _
                      rw [Int.toNat_natCast, Int.toNat_natCast, epm, eax]
                      exact if_pos ⟨by omega, by omega⟩
                    rw [elook] at hrow
                    refine iteF ?_
                    refine ⟨_, rfl, _, rfl, _, _, _, _, rfl, rfl, sb3, atI_nat (j := 2) rfl, wl, _, _, _, rfl, rfl, SqL.of (s3 _ _ hw), atI_nat (int_at eax), _, rfl, _, _, _, _, rfl, rfl, same_tup s3 _ _ h1, atI_nat (j := 1) rfl, _, rfl, _, _, _, _, rfl, rfl, sb3, atI_nat (j := 1) rfl, _, _, _, _, rfl, rfl, same_tup s3 _ _ h4, atI_nat hb1, _, _, _, _, rfl, rfl, same_tup s3 _ _ hb2, atI_nat (j := 0) rfl, rfl, _, rfl, ?_⟩
                    by_cases hx : x = p.1
                    · refine iteNS (by rw [hx]) ⟨rfl, s3, fun _ => ⟨mm, p, a, x, rfl, epm, by rw [eax, hx]⟩⟩
                    · rw [if_neg hx] at hrow
                      exact iteN (fun z => hx (Int.ofNat.inj (V.int.inj z))) (z0 hrow s3)
                · rw [sF hlk]
                  exact iteF ⟨rfl, s3, fun e => absurd e hlk⟩
              rintro σ H4 ⟨rfl, s4, hlook⟩
              have lenp : ns.length = (partIx k).length := by
                have := congrArg List.length en1
                rw [List.length_map] at this
                rw [← this, hpd, List.length_map]
              have known : (k = "wide" → ∃ a w, r = [a, .int w]) → (k = "part" → ∃ a lo hi, r = [a, .int lo, .int hi]) → ∃ z, KnownAt regs mems ws (.str k :: r) z ∧ rowB regs mems ws (.tuple (.str k :: r)) = z := fun hwd hpt => by
                by_cases hlk : k = "look"
                · obtain ⟨m, p, a, x, er, em, ea⟩ := hlook hlk
                  subst hlk er
                  refine ⟨_, .look em, ?_⟩
                  rw [if_pos rfl] at hrow
                  rw [hrow]
                  show (if (0 : Int) ≤ ((m : Nat) : Int) ∧ (0 : Int) ≤ ((a : Nat) : Int) then _ else 0) = _
                  rw [if_pos ⟨by omega, by omega⟩, Int.toNat_natCast, Int.toNat_natCast, em, ea]
                  exact if_pos rfl
                · obtain ⟨f1, f2⟩ := fit_of hkp hl hlk (ks := ks) (by rw [en2, lenp]) (fun d hd => gd_shaped (gd_mem hg (List.mem_cons_of_mem _ hd)) (by omega)) hwd hpt
                  refine ⟨_, .fit f1 f2 lenp (fun j i hj => ?_) en2 en3, ?_⟩
                  · have h1 : (partsD k (.str k :: r))[j]? = some ((PyData.str k :: r).getD i .none) := by
                      rw [hpd, List.getElem?_map, hj]
                      rfl
                    rw [en1, List.getElem?_map] at h1
                    have hi : i < (PyData.str k :: r).length := part_lt k hkp _ hl i (List.mem_of_getElem? hj)
                    rw [h1, List.getD_eq_getElem?_getD, List.getElem?_eq_getElem hi]
                    rfl
                  · rw [if_neg hlk, en4] at hrow
                    exact hrow
              have line2 : 2 ≤ sizeLine := by
                rw [sizeLine_eq]
                decide
              refine ⟨_, rfl, line2, fun t nt => ⟨t, _, rfl, .inr (SqT.of upd_same), rfl, rfl, _, rfl, ?_⟩⟩
              have s5 : Same H (upd H4 t (.tup [.str "wide", .str "part"])) := s4.trans (Same.up nt)
              by_cases hwp : k = "wide" ∨ k = "part"
              · have hin : inV (.str k) [.str "wide", .str "part"] = true := by
                  rcases hwp with h | h <;> subst h <;> decide +kernel
                have hlk : k ≠ "look" := by
                  rcases hwp with h | h <;> subst h <;> decide +kernel
                rw [if_neg hlk] at hrow
                rw [show (if false = true then !inV (V.str k) [.str "wide", .str "part"] else inV (V.str k) [.str "wide", .str "part"]) = true from hin]
                refine iteT ?_
                -- what stands behind the row's first part
                have hwhole : (∃ x0 x1 d0 d1, xs = [x0, x1] ∧ r = [d0, d1] ∧ k = "wide") ∨ (∃ x0 x1 x2 d0 d1 d2, xs = [x0, x1, x2] ∧ r = [d0, d1, d2] ∧ k = "part") := by
                  rcases hwp with h | h
                  · subst h
                    have hr2 : r.length = 2 := by have : some 3 = some (r.length + 1) := hl; have := Option.some.inj this; omega
                    obtain ⟨d0, d1, e⟩ := len2 hr2
                    obtain ⟨x0, x1, e'⟩ := len2 (lda.trans hr2)
                    exact .inl ⟨x0, x1, d0, d1, e', e, rfl⟩
                  · subst h
                    have hr2 : r.length = 3 := by have : some 4 = some (r.length + 1) := hl; have := Option.some.inj this; omega
                    obtain ⟨d0, d1, d2, e⟩ := len3 hr2
                    obtain ⟨x0, x1, x2, e'⟩ := len3 (lda.trans hr2)
                    exact .inr ⟨x0, x1, x2, d0, d1, d2, e', e, rfl⟩
                have hcut : ¬ (HT.sIx (V.str k :: xs).length 0 (some 2) = 0 ∧ HT.sIx (V.str k :: xs).length (V.str k :: xs).length none = (V.str k :: xs).length) ∧ cutV (V.str k :: xs) (some 2) none = xs.drop 1 := by
                  rcases hwhole with ⟨x0, x1, d0, d1, e, _, _⟩ | ⟨x0, x1, x2, d0, d1, d2, e, _, _⟩
                  · subst e
                    exact ⟨show ¬ (HT.sIx 3 0 (some 2) = 0 ∧ HT.sIx 3 3 none = 3) by decide, rfl⟩
                  · subst e
                    exact ⟨show ¬ (HT.sIx 4 0 (some 2) = 0 ∧ HT.sIx 4 4 none = 4) by decide, rfl⟩
                have hdr : DpAll K H (xs.drop 1) (r.drop 1) := by
                  cases da with
                  | nil => exact .nil
                  | cons _ a => exact a
                have hdn : noLs (r.drop 1) = true := by
                  have h1 : noLs r = true := (Bool.and_eq_true_iff.mp (show (true && noLs r) = true from hnn)).2
                  cases r with
                  | nil => rfl
                  | cons d r => exact (Bool.and_eq_true_iff.mp (show (noL d && noLs r) = true from h1)).2
                have hdl : (xs.drop 1).length ≤ 2 := by
                  rcases hwhole with ⟨x0, x1, d0, d1, e, _, _⟩ | ⟨x0, x1, x2, d0, d1, d2, e, _, _⟩
                  · rw [e]
                    show 1 ≤ 2
                    decide
                  · rw [e]
                    show 2 ≤ 2
                    decide
                refine ⟨_, rfl, _, rfl, b, _, rfl, same_tup s5 _ _ sb, hcut.1, fun p np => ?_⟩
                rw [hcut.2]
                refine ⟨p, rfl, ⟨_, SqT.of upd_same⟩, fun D nD => ?_⟩
                have pD : p ≠ D := ne_of_none upd_same nD
                have s6 : ∀ {o : HO}, Same H (upd (upd (upd H4 t (.tup [.str "wide", .str "part"])) p (.tup (xs.drop 1))) D o) := fun {o} => (s5.trans (Same.up np)).trans (Same.up nD)
                refine lc_tup (xs := xs.drop 1) (fun j H' => H' = upd (upd (upd H4 t (.tup [.str "wide", .str "part"])) p (.tup (xs.drop 1))) D (.lst ((((r.drop 1).take j).map fun d => decide (tyD d = "int")).map V.bl))) rfl (fun j H' _ h => ?_) (fun j x H' hx h => ?_) (fun H' h => ?_)
                · subst h
                  exact SqT.of (by rw [upd_ne pD]; exact upd_same)
                · subst h
                  obtain ⟨dj, hdj, dx⟩ := dps_get (dps_stay (same_tup s6) _ _ hdr hdn) hx
                  refine ⟨rfl, _, rfl, _, _, rfl, ty_of dx, _, _, rfl, rfl, _, upd_same, ?_, ?_⟩
                  · rw [List.length_map, List.length_map]
                    refine Nat.lt_of_le_of_lt (List.length_take_le' _ _) ?_
                    rw [← dps_len hdr, sizeLine_eq]
                    omega
                  · rw [upd_upd, List.take_add_one, hdj, List.map_append, List.map_append]
                    rfl
                · subst h
                  refine ⟨D, _, rfl, SqL.of upd_same, _, rfl, ?_⟩
                  rw [show (xs.drop 1).length = (r.drop 1).length from dps_len hdr, List.take_length]
                  have ea : (((r.drop 1).map fun d => decide (tyD d = "int")).all id) = ((r.drop 1).all fun d => decide (tyD d = "int")) := by
                    rw [List.all_map]
                    rfl
                  rw [ea]
                  cases ha : ((r.drop 1).all fun d => decide (tyD d = "int")) with
                  | true =>
                    have ai : ∀ d ∈ r.drop 1, ∃ i, d = .int i := fun d hd => ty_int (of_decide_eq_true (List.all_eq_true.mp ha d hd))
                    obtain ⟨z, kz, ez⟩ := known (fun e => by
                      rcases hwhole with ⟨x0, x1, d0, d1, _, er, _⟩ | ⟨x0, x1, x2, d0, d1, d2, _, _, e2⟩
                      · subst er
                        obtain ⟨i, rfl⟩ := ai d1 (List.mem_cons_self ..)
                        exact ⟨d0, i, rfl⟩
                      · rw [e] at e2
                        exact absurd e2 (by decide +kernel)) (fun e => by
                      rcases hwhole with ⟨x0, x1, d0, d1, _, _, e2⟩ | ⟨x0, x1, x2, d0, d1, d2, _, er, _⟩
                      · rw [e] at e2
                        exact absurd e2 (by decide +kernel)
                      · subst er
                        obtain ⟨i, rfl⟩ := ai d1 (List.mem_cons_self ..)
                        obtain ⟨i2, rfl⟩ := ai d2 (List.mem_cons_of_mem _ (List.mem_cons_self ..))
                        exact ⟨d0, i, i2, rfl⟩)
                    obtain ⟨f1, f2, f3, f4, f5, f6⟩ := fin (s6 (o := .lst (((r.drop 1).map fun d => decide (tyD d = "int")).map V.bl))) kz ez _ rfl
                    exact iteF ⟨_, rfl, _, rfl, _, rfl, cA, wl, _, regs, mems, ws, _, _, rfl, f1, f2, f3, f4, f5, f6⟩
                  | false =>
                    refine iteT (z0 (hrow.trans ?_) s6)
                    rcases hwhole with ⟨x0, x1, d0, d1, _, er, ek⟩ | ⟨x0, x1, x2, d0, d1, d2, _, er, ek⟩
                    · subst er ek
                      cases d1 with
                      | int i => cases ha
                      | _ => rfl
                    · subst er ek
                      cases d1 with
                      | int i =>
                        cases d2 with
                        | int i2 => cases ha
                        | _ => rfl
                      | _ => rfl
              · have hin : inV (.str k) [.str "wide", .str "part"] = false := by
                  have h1 : k ≠ "wide" := fun e => hwp (.inl e)
                  have h2 : k ≠ "part" := fun e => hwp (.inr e)
                  have h3 : ∀ k ∈ kindsP, k ≠ "wide" → k ≠ "part" → inV (.str k) [.str "wide", .str "part"] = false := by decide +kernel
                  exact h3 k hkp h1 h2
                obtain ⟨z, kz, ez⟩ := known (fun e => absurd (.inl e) hwp) (fun e => absurd (.inr e) hwp)
                obtain ⟨f1, f2, f3, f4, f5, f6⟩ := fin s5 kz ez _ rfl
                rw [show (if false = true then !inV (V.str k) [.str "wide", .str "part"] else inV (V.str k) [.str "wide", .str "part"]) = false from hin]
                exact iteF ⟨_, rfl, _, rfl, _, rfl, cA, wl, _, regs, mems, ws, _, _, rfl, f1, f2, f3, f4, f5, f6⟩
            · have e : rowB regs mems ws (.tuple (.str k :: r)) = 0 := by
                unfold rowB
                exact if_neg (by rw [hl]; intro z; exact hm (Option.some.inj z))
              refine ⟨rfl, _, rfl, iteN (fun z => ?_) (z0 e s0)⟩
              have := V.int.inj z
              rw [List.length_cons] at this
              omega
        | _ => exact iteN (fun e => by simp [tyD] at e) (z0 rfl s0)
    | _ => exact iteN (fun e => by simp [tyD] at e) (z0 rfl s0)
end
end C1

/-! are_nexts, is_store, are_ends. -/
namespace C1
open PySem PySem.Spec PyProof.Rows L2 SX
theorem scAreNexts : FnScope ["registers", "widths", "nexts", "width", "_", "row"] ["registers", "widths", "nexts"] (defScope sAreNexts) := ⟨rfl, rfl, rfl, by decide +kernel, rfl, by decide +kernel, by decide +kernel⟩
abbrev NS : List Str := ["memories", "widths", "thing", "bits", "width", "row"]
theorem scIsStore : FnScope NS ["memories", "widths", "thing"] (defScope sIsStore) := ⟨rfl, rfl, rfl, by decide +kernel, rfl, by decide +kernel, by decide +kernel⟩
abbrev NE : List Str := ["memories", "widths", "stores", "outs", "store", "row"]
theorem scAreEnds : FnScope NE ["memories", "widths", "stores", "outs"] (defScope sAreEnds) := ⟨rfl, rfl, rfl, by decide +kernel, rfl, by decide +kernel, by decide +kernel⟩
def nextsB (ws : List Nat) : List (Nat × Nat) → List PyData → Bool
  | [], [] => true
  | p :: ps, d :: ds => isI d 0 (ws.length : Nat) && (decide (ws.getD (natD d) 0 = p.1) && nextsB ws ps ds)
  | _, _ => false
theorem nextsB_len {ws : List Nat} : ∀ {ps : List (Nat × Nat)} {ds : List PyData}, ds.length ≠ ps.length → nextsB ws ps ds = false
  | [], [], h => absurd rfl h
  | [], _ :: _, _ => rfl
  | _ :: _, [], _ => rfl
  | p :: ps, d :: ds, h => by
    show (_ && (_ && nextsB ws ps ds)) = false
    rw [nextsB_len (ps := ps) (ds := ds) (fun e => h (by rw [List.length_cons, List.length_cons, e])), Bool.and_false, Bool.and_false]
theorem noLs_mem : ∀ {L : List PyData}, noLs L = true → ∀ d ∈ L, noL d = true
  | [], _, d, hd => by cases hd
  | a :: L, h, d, hd => by
    have h' := Bool.and_eq_true_iff.mp (show (noL a && noLs L) = true from h)
    rcases List.mem_cons.mp hd with rfl | hd
    · exact h'.1
    · exact noLs_mem h'.2 d hd
def nextOk (ws : List Nat) (p : Nat × Nat) (d : PyData) : Bool := isI d 0 (ws.length : Nat) && decide (ws.getD (natD d) 0 = p.1)
theorem nextsB_drop {ws : List Nat} : ∀ {ps : List (Nat × Nat)} {ds : List PyData} {i : Nat} {p : Nat × Nat} {d : PyData}, ps[i]? = some p → ds[i]? = some d → nextsB ws (ps.drop i) (ds.drop i) = (nextOk ws p d && nextsB ws (ps.drop (i + 1)) (ds.drop (i + 1)))
  | p :: ps, d :: ds, 0, _, _, h1, h2 => by
    cases h1
    cases h2
    show (_ && (_ && _)) = _
    unfold nextOk
    rw [Bool.and_assoc]
    rfl
  | p :: ps, d :: ds, i + 1, _, _, h1, h2 => nextsB_drop (ps := ps) (ds := ds) (i := i) h1 h2
def storeB (mems : List (Nat × Nat)) (ws : List Nat) (d : PyData) : Bool := match d with
  | .tuple [m, a, v, t] => isI m 0 (mems.length : Nat) && (([a, v, t].all fun r => isI r 0 (ws.length : Nat)) && decide ([a, v, t].map (fun r => ws.getD (natD r) 0) = [((mems[natD m]?).getD (0, 0)).1, ((mems[natD m]?).getD (0, 0)).2, 1]))
  | _ => false
section
variable {P : Program} {w : World} {K : PySem.W.Frag} {mg : Str → Option Value} {base : Heap} {tw tb : Tok}
def spAreNexts (K : PySem.W.Frag) : Sp := fun vs H Q _ => ∃ (r wl nA : Addr) (regs : List (Nat × Nat)) (ws : List Nat) (rvs nvs : List V) (nds : List PyData), vs = [.ref r, .ref wl, .ref nA] ∧ SqT K H r rvs ∧ DpAll K H rvs (regs.map pr) ∧ H wl = some (.lst (ws.map iV)) ∧ SqT K H nA nvs ∧ DpAll K H nvs nds ∧ noLs nds = true ∧ ∀ H', Same H H' → Q (.bl (nextsB ws regs nds)) H'
theorem ok_areNexts {f fB : Addr} {fd fdB : FuncData} (F : Fun K "are_nexts" "are_nexts" sAreNexts f fd) (G : Gp mg tw tb) (GB : FnOk P w K mg base CX0 1 fB fdB ["thing", "limit"] (spIsBelow K)) (kB : PySem.W.keepIn K (.ref fB) = true) (bB : Binds K fdB ["thing", "limit"] []) (gB : mg "is_below" = some (.ref fB)) :
    FnOk P w K mg base CX0 2 f fd ["registers", "widths", "nexts"] (spAreNexts K) := by
  refine F.ok scAreNexts (fun vs H Q E h => ?_) (fun cdv A outer s H vs Q E hr h => ?_)
  · obtain ⟨r, wl, nA, regs, ws, rvs, nvs, nds, rfl, _⟩ := h
    rfl
  · obtain ⟨r, wl, nA, regs, ws, rvs, nvs, nds, rfl, hr0, dr, hw, hn0, dn, nn, q⟩ := h
    have nd := scAreNexts.nd
    have hr1 := hr
    have lrv : rvs.length = regs.length := by
      have := dps_len dr
      rw [List.length_map] at this
      exact this
    have lnv := dps_len dn
    refine ⟨_, (pss_cons (ps_if (pt_cmpR op_ne (pe_callB call_len_seq (by rfl) G.len PySem.boot_len (pa_cons (pv 2) pa_nil)) (pe_callB call_len_seq (by rfl) G.len PySem.boot_len (pa_cons (pv 0) pa_nil)) (nomark _)) (pss_one (ps_ret (pe_bl))) pss_nil)
      (pss_cons (ps_for PassesOwn.never rfl (RZ.pi_zipA (by rfl) G.zip (pa_cons (pv 0) (pa_cons (pv 2) pa_nil))) (pg_tup (by rfl) (pgs_cons (pg_tup (by rfl) (pgs_cons (pg_name (i := 3) nd rfl (.inl rfl)) (pgs_cons (pg_name (i := 4) nd rfl (.inl rfl)) pgs_nil))) (pgs_cons (pg_name (i := 5) nd rfl (.inl rfl)) pgs_nil))) (pss_one (ps_if (PW.pt (pw_or (pt_not (pt_val (pe_call GB hr1 (by rfl) gB kB bB .nil pass0 (pa_cons (pv 5) (pa_cons (pe_callB call_len_seq (by rfl) G.len PySem.boot_len (pa_cons (pv 1) pa_nil)) pa_nil))))) (pw_or1 (pt_cmpR op_ne (pe_ix ix_list (pv 1) (pv 5) (fun _ _ => rfl)) (pv 3) (nomark _))))) (pss_one (ps_ret (pe_bl))) pss_nil)))
      (pss_one (ps_ret (pe_bl))))), ?_⟩
    refine ⟨_, rfl, _, _, rfl, .inr hn0, _, rfl, _, _, rfl, .inr hr0, rfl, _, rfl, ?_⟩
    by_cases hl : nvs.length = rvs.length
    · refine iteNS (by rw [hl]) ?_
      refine ⟨_, rfl, _, rfl, r, nA, rvs, nvs, rfl, .inr ⟨hr0, hn0, RZ.for_zipT hl.symm (fun i σ H' => ∃ y3 y4 y5 : Option V, σ = [some (.ref r), some (.ref wl), some (.ref nA), y3, y4, y5] ∧ Same H H' ∧ nextsB ws regs nds = nextsB ws (regs.drop i) (nds.drop i)) ⟨_, _, _, rfl, Same.refl H, rfl⟩ (fun i σ H' h => ?_) (fun i x y T σ H' hx hy h nT => ?_) (fun σ H' h => ?_)⟩⟩
      · obtain ⟨_, _, _, _, s1, _⟩ := h
        exact ⟨same_tup s1 _ _ hr0, same_tup s1 _ _ hn0⟩
      · obtain ⟨y3, y4, y5, rfl, s1, e1⟩ := h
        have s2 : Same H (upd H' T (.tup [x, y])) := s1.trans (Same.up nT)
        have hi : i < regs.length := by
          rw [← lrv]
          exact (List.getElem?_eq_some_iff.mp hx).1
        obtain ⟨p, ep⟩ : ∃ p, regs[i]? = some p := ⟨_, List.getElem?_eq_getElem hi⟩
        obtain ⟨b, hb1, hb2⟩ := pr_at dr ep
        have exb : x = .ref b := Option.some.inj (hx.symm.trans hb1)
        subst exb
        obtain ⟨dj, hdj, dx⟩ := dps_get dn hy
        have nlj : noL dj = true := by
          have h3 : ∀ L : List PyData, noLs L = true → ∀ d ∈ L, noL d = true := by
            intro L
            induction L with
            | nil => intro _ d hd; cases hd
            | cons a L ih =>
              intro h d hd
              have h' := Bool.and_eq_true_iff.mp (show (noL a && noLs L) = true from h)
              rcases List.mem_cons.mp hd with rfl | hd
              · exact h'.1
              · exact ih h'.2 d hd
          exact h3 _ nn dj (List.mem_of_getElem? hdj)
        have e2 := nextsB_drop (ws := ws) ep hdj
        refine ⟨T, _, rfl, SqT.of upd_same, rfl, _, _, rfl, b, _, rfl, same_tup s2 _ _ hb2, rfl, _, _, rfl, _, _, rfl, rfl, _, _, rfl, rfl, ?_⟩
        refine ⟨_, rfl, _, rfl, wl, _, rfl, .inl (SqL.of (s2 _ _ hw)), y, dj, _, rfl, dp_stay (same_tup s2) _ _ dx nlj, _, rfl, ?_⟩
        rw [List.length_map]
        cases hb : isI dj 0 (ws.length : Nat) with
        | false =>
          refine iteT ?_
          have ef : nextsB ws regs nds = false := by
            rw [e1, e2]
            unfold nextOk
            rw [hb]
            rfl
          have := q _ s2
          rw [ef] at this
          exact this
        | true =>
          refine iteF ?_
          obtain ⟨ii, rfl, i0, i1⟩ := isI_iff.mp hb
          obtain ⟨nn2, rfl⟩ : ∃ n : Nat, ii = ((n : Nat) : Int) := ⟨ii.toNat, by omega⟩
          cases dx
          obtain ⟨x, ex⟩ : ∃ x, ws[nn2]? = some x := ⟨_, List.getElem?_eq_getElem (by omega)⟩
          have eo : nextOk ws p (.int ((nn2 : Nat) : Int)) = decide (x = p.1) := by
            unfold nextOk
            rw [hb, Bool.true_and]
            show decide (ws.getD ((nn2 : Nat) : Int).toNat 0 = p.1) = _
            rw [Int.toNat_natCast, List.getD_eq_getElem?_getD, ex]
            rfl
          refine ⟨_, rfl, _, rfl, wl, _, _, _, rfl, rfl, SqL.of (s2 _ _ hw), atI_nat (int_at ex), _, rfl, rfl, _, rfl, ?_⟩
          by_cases hx2 : x = p.1
          · refine iteNS (by rw [hx2]) ⟨_, _, _, rfl, s2, ?_⟩
            rw [e1, e2, eo, decide_eq_true hx2, Bool.true_and]
          · refine iteN (fun z => hx2 (Int.ofNat.inj (V.int.inj z))) ?_
            have ef : nextsB ws regs nds = false := by
              rw [e1, e2, eo, decide_eq_false hx2, Bool.false_and]
            have := q _ s2
            rw [ef] at this
            exact this
      · obtain ⟨y3, y4, y5, rfl, s1, e1⟩ := h
        have ef : nextsB ws regs nds = true := by
          rw [e1, lrv, List.drop_length, show regs.length = nds.length by omega, List.drop_length]
          rfl
        have := q _ s1
        rw [ef] at this
        exact this
    · refine iteN (fun z => hl (Int.ofNat.inj (V.int.inj z))) ?_
      have := q _ (Same.refl H)
      rw [nextsB_len (by omega)] at this
      exact this
def spIsStore (K : PySem.W.Frag) : Sp := fun vs H Q _ => ∃ (m wl : Addr) (v : V) (mems : List (Nat × Nat)) (ws : List Nat) (mvs : List V) (d : PyData), vs = [.ref m, .ref wl, v] ∧ SqT K H m mvs ∧ DpAll K H mvs (mems.map pr) ∧ H wl = some (.lst (ws.map iV)) ∧ Dp K H v d ∧ noL d = true ∧ ∀ H', Same H H' → Q (.bl (storeB mems ws d)) H'
theorem ok_isStore {f fB fT : Addr} {fd fdB fdT : FuncData} (F : Fun K "is_store" "is_store" sIsStore f fd) (G : Gp mg tw tb) (GB : FnOk P w K mg base CX0 1 fB fdB ["thing", "limit"] (spIsBelow K)) (kB : PySem.W.keepIn K (.ref fB) = true) (bB : Binds K fdB ["thing", "limit"] []) (gB : mg "is_below" = some (.ref fB))
    (GT : FnOk P w K mg base CX0 1 fT fdT ["thing", "many"] (spIsTuple K)) (kT : PySem.W.keepIn K (.ref fT) = true) (bT : Binds K fdT ["thing", "many"] []) (gT : mg "is_tuple" = some (.ref fT)) :
    FnOk P w K mg base CX0 2 f fd ["memories", "widths", "thing"] (spIsStore K) := by
  refine F.ok scIsStore (fun vs H Q E h => ?_) (fun cdv A outer s H vs Q E hr h => ?_)
  · obtain ⟨m, wl, v, mems, ws, mvs, d, rfl, _⟩ := h
    rfl
  · obtain ⟨m, wl, v, mems, ws, mvs, d, rfl, hm0, dm0, hw, hd, hn, q⟩ := h
    have nd := scIsStore.nd
    have hr1 := hr
    have hu := hr.units
    have lmv : mvs.length = mems.length := by
      have := dps_len dm0
      rw [List.length_map] at this
      exact this
    have qf : storeB mems ws d = false → ∀ {H'}, Same H H' → Q (.bl false) H' := fun e H' sm => by
      have := q H' sm
      rw [e] at this
      exact this
    have line3 : 3 ≤ sizeLine := by
      rw [sizeLine_eq]
      decide
    refine ⟨_, (pss_cons (ps_if (PW.pt (pw_or (pt_not (pt_val (pe_call GT hr1 (by rfl) gT kT bT .nil pass0 (pa_cons (pv 2) (pa_cons (pe_int) pa_nil))))) (pw_or1 (pt_not (pt_val (pe_call GB hr1 (by rfl) gB kB bB .nil pass0 (pa_cons (pe_ix ix_tup (pv 2) (pe_int) (fun _ _ => rfl)) (pa_cons (pe_callB call_len_seq (by rfl) G.len PySem.boot_len (pa_cons (pv 0) pa_nil)) pa_nil)))))))) (pss_one (ps_ret (pe_bl))) pss_nil)
      (C8.pss_cut (ps_if (pt_not (pt_val (pe_callB (cr_all rfl) (by rfl) G.all (by decide +kernel) (pa_cons (pe_lc (own := [("row", 5)]) (g := gName 5) (tt := tYes) (te := tCall (spIsBelow K) [] E0 (tCons (tVar 5) (tCons (tCB (rLen K) (tCons (tVar 1) tNil)) tNil))) rfl nd (pi_tup (pe_slice sl_tup (pv 2) (po_some pe_int) po_none)) (blkOk_by (own := [("row", 5)]) (N := NS) (sc := defScope sIsStore) (by decide +kernel)) (fun _ _ _ _ _ => pg_name (i := 5) nd rfl (.inl rfl)) (fun _ _ _ _ _ => pts_nil) (fun _ _ _ _ _ => by exact (pe_call GB hr1 (by rfl) gB kB bB .nil pass0 (pa_cons (pv 5) (pa_cons (pe_callB call_len_seq (by rfl) G.len PySem.boot_len (pa_cons (pv 1) pa_nil)) pa_nil))))) pa_nil)))) (pss_one (ps_ret (pe_bl))) pss_nil)
      (pss_cons (ps_asg (pe_ix ix_tup (pv 0) (pe_ix ix_tup (pv 2) (pe_int) (fun _ _ => rfl)) (fun _ _ => rfl)) (pg_tup (by rfl) (pgs_cons (pg_name (i := 3) nd rfl (.inl rfl)) (pgs_cons (pg_name (i := 4) nd rfl (.inl rfl)) pgs_nil))))
      (pss_one (ps_ret (pe_cmpR (op_eqD hu) (pe_lc (own := [("row", 5)]) (g := gName 5) (tt := tYes) (te := tOp (rIxL K) (tVar 1) (tVar 5)) rfl nd (pi_tup (pe_slice sl_tup (pv 2) (po_some pe_int) po_none)) (blkOk_by (own := [("row", 5)]) (N := NS) (sc := defScope sIsStore) (by decide +kernel)) (fun _ _ _ _ _ => pg_name (i := 5) nd rfl (.inl rfl)) (fun _ _ _ _ _ => pts_nil) (fun _ _ _ _ _ => by exact (pe_ix ix_list (pv 1) (pv 5) (fun _ _ => rfl)))) (pe_lst (pa_cons (pv 3) (pa_cons (pv 4) (pa_cons (pe_int) pa_nil)))) (nomark _))))))), ?_⟩
    refine ⟨_, rfl, v, d, 4, rfl, hd, _, rfl, ?_⟩
    cases ht : isT d 4 with
    | false =>
      refine iteT (qf ?_ (Same.refl H))
      unfold storeB
      split
      · cases ht
      · rfl
    | true =>
      refine iteF ?_
      obtain ⟨ds, rfl, hl⟩ := isT_iff.mp ht
      match ds, hl with
      | [m0, a0, v0, t0], _ =>
        obtain ⟨b, xs, rfl, sb, da⟩ := dp_tup hd
        have hnn : noLs [m0, a0, v0, t0] = true := hn
        cases da with
        | cons d0 da =>
        rename_i xm xs
        have ldr := dps_len da
        have hst : storeB mems ws (.tuple [m0, a0, v0, t0]) = (isI m0 0 (mems.length : Nat) && (([a0, v0, t0].all fun r => isI r 0 (ws.length : Nat)) && decide ([a0, v0, t0].map (fun r => ws.getD (natD r) 0) = [((mems[natD m0]?).getD (0, 0)).1, ((mems[natD m0]?).getD (0, 0)).2, 1]))) := rfl
        refine ⟨_, rfl, _, _, _, _, rfl, rfl, sb, atI_nat (j := 0) rfl, _, rfl, _, _, rfl, .inr hm0, _, m0, _, rfl, d0, _, rfl, ?_⟩
        rw [lmv]
        cases hi : isI m0 0 (mems.length : Nat) with
        | false =>
          rw [hi, Bool.false_and] at hst
          exact iteT (qf hst (Same.refl H))
        | true =>
          refine iteF ?_
          rw [hi, Bool.true_and] at hst
          have hcut : ¬ (HT.sIx (xm :: xs).length 0 (some 1) = 0 ∧ HT.sIx (xm :: xs).length (xm :: xs).length none = (xm :: xs).length) ∧ cutV (xm :: xs) (some 1) none = xs := by
            obtain ⟨x0, x1, x2, e⟩ := len3 ldr
            subst e
            exact ⟨show ¬ (HT.sIx 4 0 (some 1) = 0 ∧ HT.sIx 4 4 none = 4) by decide, rfl⟩
          have hdn : noLs [a0, v0, t0] = true := (Bool.and_eq_true_iff.mp (show (noL m0 && noLs [a0, v0, t0]) = true from hnn)).2
          refine ⟨fun σ H' => σ = [some (.ref m), some (.ref wl), some (.ref b), none, none, none] ∧ Same H H' ∧ ([a0, v0, t0].all fun r => isI r 0 (ws.length : Nat)) = true, ?_, ?_⟩
          · refine ⟨_, rfl, _, rfl, b, _, rfl, sb, hcut.1, fun p np => ?_⟩
            rw [hcut.2]
            refine ⟨p, rfl, ⟨_, SqT.of upd_same⟩, fun D nD => ?_⟩
            have pD : p ≠ D := ne_of_none upd_same nD
            have s6 : ∀ {o : HO}, Same H (upd (upd H p (.tup xs)) D o) := fun {o} => (Same.up np).trans (Same.up nD)
            refine lc_tup (xs := xs) (fun j H' => H' = upd (upd H p (.tup xs)) D (.lst ((([a0, v0, t0].take j).map fun r => isI r 0 (ws.length : Nat)).map V.bl))) rfl (fun j H' _ h => ?_) (fun j x H' hx h => ?_) (fun H' h => ?_)
            · subst h
              exact SqT.of (by rw [upd_ne pD]; exact upd_same)
            · subst h
              obtain ⟨dj, hdj, dx⟩ := dps_get (dps_stay (same_tup s6) _ _ da hdn) hx
              refine ⟨rfl, _, rfl, _, rfl, wl, _, rfl, .inl (SqL.of (s6 _ _ hw)), x, dj, _, rfl, dx, _, upd_same, ?_, ?_⟩
              · rw [List.length_map, List.length_map]
                refine Nat.lt_of_le_of_lt (List.length_take_le' _ _) ?_
                show 3 < sizeLine
                rw [sizeLine_eq]
                decide
              · rw [upd_upd, List.take_add_one, hdj, List.map_append, List.map_append, List.length_map]
                rfl
            · subst h
              refine ⟨D, _, rfl, SqL.of upd_same, _, rfl, ?_⟩
              rw [ldr, List.take_length]
              have ea : (([a0, v0, t0].map fun r => isI r 0 (ws.length : Nat)).all id) = ([a0, v0, t0].all fun r => isI r 0 (ws.length : Nat)) := by
                rw [List.all_map]
                rfl
              rw [ea]
              cases ha : ([a0, v0, t0].all fun r => isI r 0 (ws.length : Nat)) with
              | true => exact iteF ⟨rfl, s6, rfl⟩
              | false =>
                rw [ha, Bool.false_and] at hst
                exact iteT (qf hst s6)
          rintro σ H3 ⟨rfl, s3, hall⟩
          rw [hall, Bool.true_and] at hst
          obtain ⟨ns, ks, en1, en2, en3, en4⟩ := all_nat ws _ hall
          obtain ⟨i, rfl, i0, i1⟩ := isI_iff.mp hi
          obtain ⟨mm, rfl⟩ : ∃ n : Nat, i = ((n : Nat) : Int) := ⟨i.toNat, by omega⟩
          cases d0
          obtain ⟨p, ep⟩ : ∃ p, mems[mm]? = some p := ⟨_, List.getElem?_eq_getElem (by omega)⟩
          obtain ⟨b2, hb1, hb2⟩ := pr_at dm0 ep
          have em : (mems[natD (.int ((mm : Nat) : Int))]?).getD (0, 0) = p := by
            show (mems[((mm : Nat) : Int).toNat]?).getD (0, 0) = p
            rw [Int.toNat_natCast, ep]
            rfl
          rw [em, en4] at hst
          have sb3 := same_tup s3 _ _ sb
          refine ⟨_, rfl, _, rfl, _, _, _, _, rfl, rfl, sb3, atI_nat (j := 0) rfl, _, _, _, _, rfl, rfl, same_tup s3 _ _ hm0, atI_nat hb1, b2, _, rfl, same_tup s3 _ _ hb2, rfl, _, _, rfl, _, _, rfl, rfl, ?_⟩
          refine ⟨_, rfl, _, rfl, b, _, rfl, sb3, hcut.1, fun p2 np2 => ?_⟩
          rw [hcut.2]
          refine ⟨p2, rfl, ⟨_, SqT.of upd_same⟩, fun D nD => ?_⟩
          have pD : p2 ≠ D := ne_of_none upd_same nD
          have s6 : ∀ {o : HO}, Same H (upd (upd H3 p2 (.tup xs)) D o) := fun {o} => (s3.trans (Same.up np2)).trans (Same.up nD)
          have lns : ns.length = 3 := by
            have := congrArg List.length en1
            rw [List.length_map] at this
            exact this.symm
          refine lc_tup (xs := xs) (fun j H' => H' = upd (upd H3 p2 (.tup xs)) D (.lst ((ks.take j).map iV))) rfl (fun j H' _ h => ?_) (fun j x H' hx h => ?_) (fun H' h => ?_)
          · subst h
            exact SqT.of (by rw [upd_ne pD]; exact upd_same)
          · subst h
            obtain ⟨dj, hdj, dx⟩ := dps_get da hx
            rw [en1, List.getElem?_map] at hdj
            obtain ⟨n, en⟩ : ∃ n, ns[j]? = some n := by
              cases e : ns[j]? with
              | none =>
                rw [e] at hdj
                cases hdj
              | some n => exact ⟨n, rfl⟩
            rw [en] at hdj
            cases hdj
            cases dx
            have hj : j < ns.length := (List.getElem?_eq_some_iff.mp en).1
            obtain ⟨kv, ekv⟩ : ∃ kv, ks[j]? = some kv := ⟨_, List.getElem?_eq_getElem (by omega)⟩
            have e2 := (en3 j n en).trans ekv
            refine ⟨rfl, _, rfl, _, rfl, wl, _, _, _, rfl, rfl, SqL.of (s6 _ _ hw), atI_nat (int_at e2), (ks.take j).map iV, upd_same, by rw [List.length_map]; exact Nat.lt_of_le_of_lt (List.length_take_le _ _) (by rw [sizeLine_eq]; omega), ?_⟩
            rw [upd_upd, List.take_add_one, ekv, List.map_append]
            rfl
          · subst h
            rw [show xs.length = ks.length by rw [ldr, en2, lns]; rfl, List.take_length]
            refine ⟨_, rfl, _, rfl, line3, fun z nz => ?_⟩
            have hz : (upd (upd (upd H3 p2 (.tup xs)) D (.lst (ks.map iV))) z (.lst [iV p.1, iV p.2, .int 1])) D = some (.lst (ks.map iV)) := by
              rw [upd_ne (ne_of_none upd_same nz)]
              exact upd_same
            refine ⟨.list (ks.map iD), .list ([p.1, p.2, 1].map iD), .lst (SqL.of hz) (dps_ints _), .lst (SqL.of upd_same) (dps_ints [p.1, p.2, 1]), shaped_list _ (cL_int _), shaped_list _ (cL_int _), ?_⟩
            have ee : ∀ a b : List Nat, PyData.eqv (.list (a.map iD)) (.list (b.map iD)) = decide (a = b) := by
              intro a
              induction a with
              | nil => intro b; cases b <;> simp [PyData.eqv, PyData.eqvAll]
              | cons x a ih =>
                intro b
                cases b with
                | nil => simp [PyData.eqv, PyData.eqvAll]
                | cons y b =>
                  have := ih b
                  simp only [PyData.eqv, PyData.eqvAll, List.map_cons] at this ⊢
                  rw [this]
                  by_cases h1 : x = y
                  · subst h1
                    by_cases h2 : a = b <;> simp [h2]
                  · have : ¬ ((x : Nat) : Int) = ((y : Nat) : Int) := fun z => h1 (by omega)
                    simp [h1, this]
            rw [ee, ← hst]
            exact q _ (s6.trans (Same.up nz))
def spAreEnds (K : PySem.W.Frag) : Sp := fun vs H Q _ => ∃ (m wl sA oA : Addr) (mems : List (Nat × Nat)) (ws : List Nat) (mvs svs ovs : List V) (sds ods : List PyData), vs = [.ref m, .ref wl, .ref sA, .ref oA] ∧ SqT K H m mvs ∧ DpAll K H mvs (mems.map pr) ∧ H wl = some (.lst (ws.map iV)) ∧ SqT K H sA svs ∧ DpAll K H svs sds ∧ noLs sds = true ∧ sds.length ≤ 1000 ∧ SqT K H oA ovs ∧ DpAll K H ovs ods ∧ noLs ods = true ∧ ods.length ≤ 1000 ∧
  ∀ H', Same H H' → Q (.bl (sds.all (storeB mems ws) && ods.all fun r => isI r 0 (ws.length : Nat))) H'
theorem ok_areEnds {f fB fS : Addr} {fd fdB fdS : FuncData} (F : Fun K "are_ends" "are_ends" sAreEnds f fd) (G : Gp mg tw tb) (GB : FnOk P w K mg base CX0 1 fB fdB ["thing", "limit"] (spIsBelow K)) (kB : PySem.W.keepIn K (.ref fB) = true) (bB : Binds K fdB ["thing", "limit"] []) (gB : mg "is_below" = some (.ref fB))
    (GS : FnOk P w K mg base CX0 2 fS fdS ["memories", "widths", "thing"] (spIsStore K)) (kS : PySem.W.keepIn K (.ref fS) = true) (bS : Binds K fdS ["memories", "widths", "thing"] []) (gS : mg "is_store" = some (.ref fS)) :
    FnOk P w K mg base CX0 3 f fd ["memories", "widths", "stores", "outs"] (spAreEnds K) := by
  refine F.ok scAreEnds (fun vs H Q E h => ?_) (fun cdv A outer s H vs Q E hr h => ?_)
  · obtain ⟨m, wl, sA, oA, mems, ws, mvs, svs, ovs, sds, ods, rfl, _⟩ := h
    rfl
  · obtain ⟨m, wl, sA, oA, mems, ws, mvs, svs, ovs, sds, ods, rfl, hm0, dm0, hw, hs0, dss, ns, ls, ho0, doo, no, lo, q⟩ := h
    have nd := scAreEnds.nd
    have hr2 := hr
    have hr1 : Room 1 _ := hr.mono (by decide)
    refine ⟨_, (pss_cons (ps_if (pt_not (pt_val (pe_callB (cr_all rfl) (by rfl) G.all (by decide +kernel) (pa_cons (pe_lc (own := [("store", 4)]) (g := gName 4) (tt := tYes) (te := tCall (spIsStore K) [] E0 (tCons (tVar 0) (tCons (tVar 1) (tCons (tVar 4) tNil)))) rfl nd (pi_tup (pv 2)) (blkOk_by (own := [("store", 4)]) (N := NE) (sc := defScope sAreEnds) (by decide +kernel)) (fun _ _ _ _ _ => pg_name (i := 4) nd rfl (.inl rfl)) (fun _ _ _ _ _ => pts_nil) (fun _ _ _ _ _ => by exact (pe_call GS hr2 (by rfl) gS kS bS .nil pass0 (pa_cons (pv 0) (pa_cons (pv 1) (pa_cons (pv 4) pa_nil)))))) pa_nil)))) (pss_one (ps_ret (pe_bl))) pss_nil)
      (pss_one (ps_ret (pe_callB (cr_all rfl) (by rfl) G.all (by decide +kernel) (pa_cons (pe_lc (own := [("row", 5)]) (g := gName 5) (tt := tYes) (te := tCall (spIsBelow K) [] E0 (tCons (tVar 5) (tCons (tCB (rLen K) (tCons (tVar 1) tNil)) tNil))) rfl nd (pi_tup (pv 3)) (blkOk_by (own := [("row", 5)]) (N := NE) (sc := defScope sAreEnds) (by decide +kernel)) (fun _ _ _ _ _ => pg_name (i := 5) nd rfl (.inl rfl)) (fun _ _ _ _ _ => pts_nil) (fun _ _ _ _ _ => by exact (pe_call GB hr1 (by rfl) gB kB bB .nil pass0 (pa_cons (pv 5) (pa_cons (pe_callB call_len_seq (by rfl) G.len PySem.boot_len (pa_cons (pv 1) pa_nil)) pa_nil))))) pa_nil))))), ?_⟩
    refine ⟨_, rfl, sA, rfl, ⟨_, hs0⟩, fun D nD => ?_⟩
    refine lc_tup (xs := svs) (fun j H' => Same H H' ∧ H' D = some (.lst (((sds.take j).map (storeB mems ws)).map V.bl))) ⟨Same.up nD, upd_same⟩ (fun j H' _ h => same_tup h.1 _ _ hs0) (fun j x H' hx h => ?_) (fun H' h => ?_)
    · obtain ⟨s1, hD⟩ := h
      obtain ⟨dj, hdj, dx⟩ := dps_get dss hx
      refine ⟨rfl, _, rfl, _, rfl, _, rfl, m, wl, x, mems, ws, mvs, dj, rfl, same_tup s1 _ _ hm0, dps_stay (same_tup s1) _ _ dm0 (noLs_pr _), s1 _ _ hw, dp_stay (same_tup s1) _ _ dx (noLs_mem ns dj (List.mem_of_getElem? hdj)), noLs_mem ns dj (List.mem_of_getElem? hdj), fun H2 s2 => ?_⟩
      refine ⟨_, s2 _ _ hD, ?_, ?_, ?_⟩
      · rw [List.length_map, List.length_map]
        refine Nat.lt_of_le_of_lt (List.length_take_le' _ _) ?_
        rw [sizeLine_eq]
        omega
      · exact fun b o e => by
          have nb : b ≠ D := ne_of_none e nD
          rw [upd_ne nb]
          exact s2 _ _ (s1 _ _ e)
      · rw [List.take_add_one, hdj, List.map_append, List.map_append]
        exact upd_same
    · obtain ⟨s1, hD⟩ := h
      rw [dps_len dss, List.take_length] at hD
      refine ⟨D, _, rfl, SqL.of hD, _, rfl, ?_⟩
      have ea : ((sds.map (storeB mems ws)).all id) = sds.all (storeB mems ws) := by
        rw [List.all_map]
        rfl
      rw [ea]
      cases ha : sds.all (storeB mems ws) with
      | false =>
        refine iteT ?_
        have := q _ s1
        rw [ha, Bool.false_and] at this
        exact this
      | true =>
        rw [ha] at q
        refine iteF ?_
        refine ⟨_, rfl, oA, rfl, ⟨_, same_tup s1 _ _ ho0⟩, fun D2 nD2 => ?_⟩
        have s6 : ∀ {o : HO}, Same H (upd H' D2 o) := fun {o} => s1.trans (Same.up nD2)
        refine lc_tup (xs := ovs) (fun j H2 => H2 = upd H' D2 (.lst (((ods.take j).map fun r => isI r 0 (ws.length : Nat)).map V.bl))) rfl (fun j H2 _ h => ?_) (fun j x H2 hx h => ?_) (fun H2 h => ?_)
        · subst h
          exact same_tup s6 _ _ ho0
        · subst h
          obtain ⟨dj, hdj, dx⟩ := dps_get (dps_stay (same_tup s6) _ _ doo no) hx
          refine ⟨rfl, _, rfl, _, rfl, wl, _, rfl, .inl (SqL.of (s6 _ _ hw)), x, dj, _, rfl, dx, _, upd_same, ?_, ?_⟩
          · rw [List.length_map, List.length_map]
            refine Nat.lt_of_le_of_lt (List.length_take_le' _ _) ?_
            rw [sizeLine_eq]
            omega
          · rw [upd_upd, List.take_add_one, hdj, List.map_append, List.map_append, List.length_map]
            rfl
        · subst h
          refine ⟨D2, _, rfl, SqL.of upd_same, ?_⟩
          rw [dps_len doo, List.take_length]
          have eo : ((ods.map fun r => isI r 0 (ws.length : Nat)).all id) = (ods.all fun r => isI r 0 (ws.length : Nat)) := by
            rw [List.all_map]
            rfl
          rw [eo]
          exact q _ s6
end
end C1

/-! is_circuit. -/
namespace C1
open PySem PySem.Spec PyProof.Rows L2 SX
abbrev NI : List Str := ["thing", "registers", "memories", "rows", "nexts", "stores", "outs", "widths", "row", "width", "part"]
theorem scIsCircuit : FnScope NI ["thing"] (defScope sIsCircuit) := ⟨rfl, rfl, rfl, by decide +kernel, rfl, by decide +kernel, by decide +kernel⟩
def toPr : PyData → Nat × Nat
  | .tuple [a, b] => (natD a, natD b)
  | _ => (0, 0)
theorem reg_pr {d : PyData} (h : regB d = true) : d = pr (toPr d) := by
  unfold regB at h
  split at h
  · split at h
    · obtain ⟨h1, h2⟩ := Bool.and_eq_true_iff.mp h
      obtain ⟨i, e1, i0, i1⟩ := isI_iff.mp h1
      cases e1
      obtain ⟨j, rfl, j0, j1⟩ := isI_iff.mp h2
      simp only [pr, toPr, natD, iD]
      rw [Int.toNat_of_nonneg (by omega), Int.toNat_of_nonneg j0]
    · cases h
  · cases h
theorem mem_pr {d : PyData} (h : memB d = true) : d = pr (toPr d) := by
  unfold memB at h
  split at h
  · rename_i b0 w0
    obtain ⟨h1, h2⟩ := Bool.and_eq_true_iff.mp h
    obtain ⟨ib, eb, ib0, ib1⟩ := isI_iff.mp h1
    obtain ⟨jw, ew, jw0, jw1⟩ := isI_iff.mp h2
    rw [eb, ew]
    show PyData.tuple [.int ib, .int jw] = .tuple [.int ((ib.toNat : Nat) : Int), .int ((jw.toNat : Nat) : Int)]
    rw [Int.toNat_of_nonneg (by omega), Int.toNat_of_nonneg (by omega)]
  · cases h
theorem all_pr {b : PyData → Bool} (hb : ∀ d, b d = true → d = pr (toPr d)) : ∀ ds : List PyData, ds.all b = true → ds = (ds.map toPr).map pr
  | [], _ => rfl
  | d :: ds, h => by
    rw [List.all_cons, Bool.and_eq_true] at h
    rw [List.map_cons, List.map_cons, ← hb d h.1, ← all_pr hb ds h.2]
def rowsW (regs mems : List (Nat × Nat)) : List PyData → List Nat → Option (List Nat)
  | [], ws => some ws
  | r :: rs, ws => if rowB regs mems ws r = 0 then none else rowsW regs mems rs (ws ++ [rowB regs mems ws r])
theorem rowsW_drop {regs mems : List (Nat × Nat)} {rows : List PyData} {i : Nat} {d : PyData} {ws : List Nat} (h : rows[i]? = some d) : rowsW regs mems (rows.drop i) ws = if rowB regs mems ws d = 0 then none else rowsW regs mems (rows.drop (i + 1)) (ws ++ [rowB regs mems ws d]) := by
  obtain ⟨hi, e⟩ := List.getElem?_eq_some_iff.mp h
  rw [List.drop_eq_getElem_cons hi, e]
  rfl
/-- the rules of 6.1 and 6.2, upon data -/
def circB (d : PyData) : Bool := match d with
  | .tuple [.tuple rd, .tuple md, .tuple rows, .tuple nx, .tuple st, .tuple ou] => rd.all regB && (md.all memB && (match rowsW (rd.map toPr) (md.map toPr) rows [] with
    | some ws => nextsB ws (rd.map toPr) nx && (st.all (storeB (md.map toPr) ws) && ou.all fun r => isI r 0 (ws.length : Nat))
    | none => false))
  | _ => false
theorem circB_six {ds : List PyData} (hl : ds.length = 6) (h : (ds.all fun d => decide (tyD d = "tuple")) = false) : circB (.tuple ds) = false := by
  unfold circB
  split
  · rename_i e
    cases e
    cases h
  · rfl
section
variable {P : Program} {w : World} {K : PySem.W.Frag} {mg : Str → Option Value} {base : Heap} {tw tb : Tok}
def spIsCircuit (K : PySem.W.Frag) : Sp := fun vs H Q _ => ∃ (v : V) (d : PyData) (n : Nat), vs = [v] ∧ Dp K H v d ∧ gd n d = true ∧ n ≤ 20 ∧ ∀ H', Same H H' → Q (.bl (circB d)) H'
theorem ok_isCircuit {f fT fR fM fW fN fE : Addr} {fd fdT fdR fdM fdW fdN fdE : FuncData} (F : Fun K "is_circuit" "is_circuit" sIsCircuit f fd) (G : Gp mg tw tb)
    (GT : FnOk P w K mg base CX0 1 fT fdT ["thing", "many"] (spIsTuple K)) (kT : PySem.W.keepIn K (.ref fT) = true) (bT : Binds K fdT ["thing", "many"] []) (gT : mg "is_tuple" = some (.ref fT))
    (GR : FnOk P w K mg base CX0 3 fR fdR ["thing"] (spD K regB)) (kR : PySem.W.keepIn K (.ref fR) = true) (bR : Binds K fdR ["thing"] []) (gR : mg "is_register" = some (.ref fR))
    (GM : FnOk P w K mg base CX0 3 fM fdM ["thing"] (spD K memB)) (kM : PySem.W.keepIn K (.ref fM) = true) (bM : Binds K fdM ["thing"] []) (gM : mg "is_memory" = some (.ref fM))
    (GRW : FnOk P w K mg base CX0 4 fW fdW ["circuit", "widths", "row"] (spRowWidth K)) (kRW : PySem.W.keepIn K (.ref fW) = true) (bRW : Binds K fdW ["circuit", "widths", "row"] []) (gRW : mg "row_width" = some (.ref fW))
    (GAN : FnOk P w K mg base CX0 2 fN fdN ["registers", "widths", "nexts"] (spAreNexts K)) (kAN : PySem.W.keepIn K (.ref fN) = true) (bAN : Binds K fdN ["registers", "widths", "nexts"] []) (gAN : mg "are_nexts" = some (.ref fN))
    (GAE : FnOk P w K mg base CX0 3 fE fdE ["memories", "widths", "stores", "outs"] (spAreEnds K)) (kAE : PySem.W.keepIn K (.ref fE) = true) (bAE : Binds K fdE ["memories", "widths", "stores", "outs"] []) (gAE : mg "are_ends" = some (.ref fE)) :
    FnOk P w K mg base CX0 5 f fd ["thing"] (spIsCircuit K) := by
  refine F.ok scIsCircuit (fun vs H Q E h => ?_) (fun cdv A outer s H vs Q E hr h => ?_)
  · obtain ⟨v, d, n, rfl, _⟩ := h
    rfl
  · obtain ⟨v, d, n, rfl, hd, hg, hn, q⟩ := h
    have nd := scIsCircuit.nd
    have hr4 := hr
    have hr3 : Room 3 _ := hr.mono (by decide)
    have hr2 : Room 2 _ := hr.mono (by decide)
    have hr1 : Room 1 _ := hr.mono (by decide)
    have qf : circB d = false → ∀ {H'}, Same H H' → Q (.bl false) H' := fun e H' sm => by
      have := q H' sm
      rw [e] at this
      exact this
    refine ⟨_, (C8.pss_cut (ps_if (PW.pt (pw_or (pt_not (pt_val (pe_call GT hr1 (by rfl) gT kT bT .nil pass0 (pa_cons (pv 0) (pa_cons (pe_int) pa_nil))))) (pw_or1 (pt_not (pt_val (pe_callB (cr_all rfl) (by rfl) G.all (by decide +kernel) (pa_cons (pe_lc (own := [("part", 10)]) (g := gName 10) (tt := tYes) (te := tOp (fun x y H Q => ∃ a b, x = .ty a ∧ y = .ty b ∧ Q (.bl (decide (a = b))) H) (tCB (rTyp K) (tCons (tVar 10) tNil)) (tC (.ty "tuple"))) rfl nd (pi_tup (pv 0)) (blkOk_by (own := [("part", 10)]) (N := NI) (sc := defScope sIsCircuit) (by decide +kernel)) (fun _ _ _ _ _ => pg_name (i := 10) nd rfl (.inl rfl)) (fun _ _ _ _ _ => pts_nil) (fun _ _ _ _ _ => by exact (pe_cmpR op_isTyB (pe_callTy call_type1 (by rfl) G.ty (by decide +kernel) (pa_cons (pv 10) pa_nil)) (pe_bltn (v := .ty "tuple") (by rfl) G.tu (by decide +kernel) rfl) (nomark _)))) pa_nil))))))) (pss_one (ps_ret (pe_bl))) pss_nil)
      (pss_cons (ps_asg (pv 0) (pg_tup (by rfl) (pgs_cons (pg_name (i := 1) nd rfl (.inl rfl)) (pgs_cons (pg_name (i := 2) nd rfl (.inl rfl)) (pgs_cons (pg_name (i := 3) nd rfl (.inl rfl)) (pgs_cons (pg_name (i := 4) nd rfl (.inl rfl)) (pgs_cons (pg_name (i := 5) nd rfl (.inl rfl)) (pgs_cons (pg_name (i := 6) nd rfl (.inl rfl)) pgs_nil))))))))
      (C8.pss_cut (ps_if (PW.pt (pw_or (pt_not (pt_val (pe_callB (cr_all rfl) (by rfl) G.all (by decide +kernel) (pa_cons (pe_lc (own := [("part", 10)]) (g := gName 10) (tt := tYes) (te := tCall (spD K regB) [] E0 (tCons (tVar 10) tNil)) rfl nd (pi_tup (pv 1)) (blkOk_by (own := [("part", 10)]) (N := NI) (sc := defScope sIsCircuit) (by decide +kernel)) (fun _ _ _ _ _ => pg_name (i := 10) nd rfl (.inl rfl)) (fun _ _ _ _ _ => pts_nil) (fun _ _ _ _ _ => by exact (pe_call GR hr3 (by rfl) gR kR bR .nil pass0 (pa_cons (pv 10) pa_nil)))) pa_nil)))) (pw_or1 (pt_not (pt_val (pe_callB (cr_all rfl) (by rfl) G.all (by decide +kernel) (pa_cons (pe_lc (own := [("part", 10)]) (g := gName 10) (tt := tYes) (te := tCall (spD K memB) [] E0 (tCons (tVar 10) tNil)) rfl nd (pi_tup (pv 2)) (blkOk_by (own := [("part", 10)]) (N := NI) (sc := defScope sIsCircuit) (by decide +kernel)) (fun _ _ _ _ _ => pg_name (i := 10) nd rfl (.inl rfl)) (fun _ _ _ _ _ => pts_nil) (fun _ _ _ _ _ => by exact (pe_call GM hr3 (by rfl) gM kM bM .nil pass0 (pa_cons (pv 10) pa_nil)))) pa_nil))))))) (pss_one (ps_ret (pe_bl))) pss_nil)
      (pss_cons (ps_set (i := 7) nd rfl (.inl rfl) (pe_lst pa_nil))
      (C8.pss_cut (ps_for PassesOwn.never rfl (pi_tup (pv 3)) (pg_name (i := 8) nd rfl (.inl rfl)) (pss_cons (ps_set (i := 9) nd rfl (.inl rfl) (pe_call GRW hr4 (by rfl) gRW kRW bRW .nil pass0 (pa_cons (pv 0) (pa_cons (pv 7) (pa_cons (pv 8) pa_nil)))))
      (pss_cons (ps_if (pt_cmpR op_eq (pv 9) (pe_int) (nomark _)) (pss_one (ps_ret (pe_bl))) pss_nil)
      (pss_one (ps_expr (pe_bm PySem.F.plainAttrs_list PySem.F.slot_list_append PySem.F.type_list_append mt_append (pv 7) (pa_cons (pv 9) pa_nil)))))))
      (pss_one (ps_ret (pe_and (pe_call GAN hr2 (by rfl) gAN kAN bAN .nil pass0 (pa_cons (pv 1) (pa_cons (pv 7) (pa_cons (pv 4) pa_nil)))) (pe_one (pe_call GAE hr3 (by rfl) gAE kAE bAE .nil pass0 (pa_cons (pv 2) (pa_cons (pv 7) (pa_cons (pv 5) (pa_cons (pv 6) pa_nil)))))))))))))), ?_⟩
    have lineL : ∀ {α : Type} (f : PyData → α) (L : List PyData) (j : Nat) (g : α → V), L.length ≤ 1000 → (((L.take j).map f).map g).length < sizeLine := fun f L j g h => by
      rw [List.length_map, List.length_map]
      refine Nat.lt_of_le_of_lt (List.length_take_le' _ _) ?_
      rw [sizeLine_eq]
      omega
    refine ⟨fun σ H' => σ = [some v, none, none, none, none, none, none, none, none, none, none] ∧ Same H H' ∧ ∃ ds : List PyData, d = .tuple ds ∧ ds.length = 6 ∧ (ds.all fun d => decide (tyD d = "tuple")) = true, ?_, ?_⟩
    · refine ⟨_, rfl, v, d, 6, rfl, hd, _, rfl, ?_⟩
      cases ht : isT d 6 with
      | false =>
        refine iteT (qf ?_ (Same.refl H))
        unfold circB
        split
        · cases ht
        · rfl
      | true =>
        refine iteF ?_
        obtain ⟨ds, rfl, hl⟩ := isT_iff.mp ht
        obtain ⟨b, xs, rfl, sb, da⟩ := dp_tup hd
        have hnn : noLs ds = true := (gd_ok n _ hg).1
        have lda := dps_len da
        refine ⟨_, rfl, b, rfl, ⟨_, sb⟩, fun D nD => ?_⟩
        have s6 : ∀ {o : HO}, Same H (upd H D o) := fun {o} => Same.up nD
        refine lc_tup (xs := xs) (fun j H' => H' = upd H D (.lst (((ds.take j).map fun d => decide (tyD d = "tuple")).map V.bl))) rfl (fun j H' _ h => ?_) (fun j x H' hx h => ?_) (fun H' h => ?_)
        · subst h
          exact same_tup s6 _ _ sb
        · subst h
          obtain ⟨dj, hdj, dx⟩ := dps_get (dps_stay (same_tup s6) _ _ da hnn) hx
          refine ⟨rfl, _, rfl, _, _, rfl, ty_of dx, _, _, rfl, rfl, _, upd_same, lineL _ _ _ _ (by omega), ?_⟩
          rw [upd_upd, List.take_add_one, hdj, List.map_append, List.map_append]
          rfl
        · subst h
          refine ⟨D, _, rfl, SqL.of upd_same, _, rfl, ?_⟩
          rw [lda, List.take_length]
          have ea : ((ds.map fun d => decide (tyD d = "tuple")).all id) = (ds.all fun d => decide (tyD d = "tuple")) := by
            rw [List.all_map]
            rfl
          rw [ea]
          cases ha : (ds.all fun d => decide (tyD d = "tuple")) with
          | false => exact iteT (qf (circB_six hl ha) s6)
          | true => exact iteF ⟨rfl, s6, ds, rfl, hl, ha⟩
    rintro σ H1 ⟨rfl, s1, ds, rfl, hl, hall⟩
    have hty : ∀ d ∈ ds, ∃ es, d = .tuple es := fun d hd => ty_tup (of_decide_eq_true (List.all_eq_true.mp hall d hd))
    match ds, hl with
    | [t0, t1, t2, t3, t4, t5], _ =>
      obtain ⟨rd, rfl⟩ := hty t0 (by simp)
      obtain ⟨md, rfl⟩ := hty t1 (by simp)
      obtain ⟨rows, rfl⟩ := hty t2 (by simp)
      obtain ⟨nx, rfl⟩ := hty t3 (by simp)
      obtain ⟨st, rfl⟩ := hty t4 (by simp)
      obtain ⟨ou, rfl⟩ := hty t5 (by simp)
      have hnn := (gd_ok n _ hg).1
      obtain ⟨n, rfl⟩ : ∃ m, n = m + 2 := by
        match n, hg with
        | 0, h => cases h
        | 1, h => cases gd_mem h (List.mem_cons_self ..)
        | m + 2, _ => exact ⟨m, rfl⟩
      have g0 := gd_mem hg (d := .tuple rd) (by simp)
      have g1 := gd_mem hg (d := .tuple md) (by simp)
      have g2 := gd_mem hg (d := .tuple rows) (by simp)
      have g3 := gd_mem hg (d := .tuple nx) (by simp)
      have g4 := gd_mem hg (d := .tuple st) (by simp)
      have g5 := gd_mem hg (d := .tuple ou) (by simp)
      have n0 : noLs rd = true := (gd_ok _ _ g0).1
      have n1 : noLs md = true := (gd_ok _ _ g1).1
      have n2 : noLs rows = true := (gd_ok _ _ g2).1
      have n3 : noLs nx = true := (gd_ok _ _ g3).1
      have n4 : noLs st = true := (gd_ok _ _ g4).1
      have n5 : noLs ou = true := (gd_ok _ _ g5).1
      have l0 := gd_len g0
      have l1 := gd_len g1
      have l2 := gd_len g2
      have l4 := gd_len g4
      have l5 := gd_len g5
      obtain ⟨b, xs, rfl, sb, da⟩ := dp_tup (dp_stay (same_tup s1) _ _ hd hnn)
      cases da with
      | cons e0 da =>
      cases da with
      | cons e1 da =>
      cases da with
      | cons e2 da =>
      cases da with
      | cons e3 da =>
      cases da with
      | cons e4 da =>
      cases da with
      | cons e5 da =>
      cases da
      obtain ⟨a0, rvs, rfl, q0, d0⟩ := dp_tup e0
      obtain ⟨a1, mvs, rfl, q1, d1⟩ := dp_tup e1
      obtain ⟨a2, wvs, rfl, q2, d2⟩ := dp_tup e2
      obtain ⟨a3, nvs, rfl, q3, d3⟩ := dp_tup e3
      obtain ⟨a4, svs, rfl, q4, d4⟩ := dp_tup e4
      obtain ⟨a5, ovs, rfl, q5, d5⟩ := dp_tup e5
      refine ⟨_, rfl, b, _, rfl, sb, rfl, _, _, rfl, _, _, rfl, _, _, rfl, _, _, rfl, _, _, rfl, _, _, rfl, rfl, ?_⟩
      have hcb : circB (.tuple [.tuple rd, .tuple md, .tuple rows, .tuple nx, .tuple st, .tuple ou]) = (rd.all regB && (md.all memB && (match rowsW (rd.map toPr) (md.map toPr) rows [] with
        | some ws => nextsB ws (rd.map toPr) nx && (st.all (storeB (md.map toPr) ws) && ou.all fun r => isI r 0 (ws.length : Nat))
        | none => false))) := rfl
      refine ⟨fun σ H' => σ = [some (.ref b), some (.ref a0), some (.ref a1), some (.ref a2), some (.ref a3), some (.ref a4), some (.ref a5), none, none, none, none] ∧ Same H1 H' ∧ rd.all regB = true ∧ md.all memB = true, ?_, ?_⟩
      · refine ⟨_, rfl, a0, rfl, ⟨_, q0⟩, fun D nD => ?_⟩
        have s6 : ∀ {o : HO}, Same H1 (upd H1 D o) := fun {o} => Same.up nD
        refine lc_tup (xs := rvs) (fun j H' => H' = upd H1 D (.lst (((rd.take j).map regB).map V.bl))) rfl (fun j H' _ h => ?_) (fun j x H' hx h => ?_) (fun H' h => ?_)
        · subst h
          exact same_tup s6 _ _ q0
        · subst h
          obtain ⟨dj, hdj, dx⟩ := dps_get (dps_stay (same_tup s6) _ _ d0 n0) hx
          refine ⟨rfl, _, rfl, x, dj, rfl, dx, _, upd_same, lineL _ _ _ _ l0, ?_⟩
          rw [upd_upd, List.take_add_one, hdj, List.map_append, List.map_append]
          rfl
        · subst h
          refine ⟨D, _, rfl, SqL.of upd_same, _, rfl, ?_⟩
          rw [dps_len d0, List.take_length]
          have ea : ((rd.map regB).all id) = rd.all regB := by
            rw [List.all_map]
            rfl
          rw [ea]
          cases ha : rd.all regB with
          | false =>
            rw [ha, Bool.false_and] at hcb
            exact iteT (qf hcb (s1.trans s6))
          | true =>
            rw [ha, Bool.true_and] at hcb
            refine iteF ?_
            refine ⟨_, rfl, a1, rfl, ⟨_, same_tup s6 _ _ q1⟩, fun D2 nD2 => ?_⟩
            have s7 : ∀ {o : HO}, Same H1 (upd (upd H1 D (.lst ((rd.map regB).map V.bl))) D2 o) := fun {o} => s6.trans (Same.up nD2)
            refine lc_tup (xs := mvs) (fun j H' => H' = upd (upd H1 D (.lst ((rd.map regB).map V.bl))) D2 (.lst (((md.take j).map memB).map V.bl))) rfl (fun j H' _ h => ?_) (fun j x H' hx h => ?_) (fun H' h => ?_)
            · subst h
              exact same_tup s7 _ _ q1
            · subst h
              obtain ⟨dj, hdj, dx⟩ := dps_get (dps_stay (same_tup s7) _ _ d1 n1) hx
              refine ⟨rfl, _, rfl, x, dj, rfl, dx, _, upd_same, lineL _ _ _ _ l1, ?_⟩
              rw [upd_upd, List.take_add_one, hdj, List.map_append, List.map_append]
              rfl
            · subst h
              refine ⟨D2, _, rfl, SqL.of upd_same, _, rfl, ?_⟩
              rw [dps_len d1, List.take_length]
              have eb : ((md.map memB).all id) = md.all memB := by
                rw [List.all_map]
                rfl
              rw [eb]
              cases hb : md.all memB with
              | false =>
                rw [hb, Bool.false_and] at hcb
                exact iteT (qf hcb (s1.trans s7))
              | true => exact iteF ⟨rfl, s7, rfl, rfl⟩
      rintro σ H2 ⟨rfl, s2, hra, hma⟩
      rw [hra, hma, Bool.true_and, Bool.true_and] at hcb
      have er : rd = (rd.map toPr).map pr := all_pr (fun d => reg_pr) rd hra
      have em : md = (md.map toPr).map pr := all_pr (fun d => mem_pr) md hma
      rw [er] at d0
      rw [em] at d1
      have t2 := s1.trans s2
      -- the rows
      refine ⟨Nat.zero_le _, fun Wl nW => ?_⟩
      have CC : ∀ {H'}, Same H2 H' → CH K H' b (rd.map toPr) (md.map toPr) := fun {H'} sm => (CH.mk ⟨a0, a1, _, rvs, mvs, same_tup s2 _ _ sb, same_tup s2 _ _ q0, dps_stay (same_tup s2) _ _ d0 (noLs_pr _), same_tup s2 _ _ q1, dps_stay (same_tup s2) _ _ d1 (noLs_pr _)⟩ : CH K H2 b (rd.map toPr) (md.map toPr)).same sm
      have Q2 := same_tup s2 _ _ q2
      have D2 := dps_stay (same_tup s2) _ _ d2 n2
      refine ⟨fun σ H' => ∃ (y8 y9 : Option V) (ws : List Nat), σ = [some (.ref b), some (.ref a0), some (.ref a1), some (.ref a2), some (.ref a3), some (.ref a4), some (.ref a5), some (.ref Wl), y8, y9, none] ∧ Same H2 H' ∧ H' Wl = some (.lst (ws.map iV)) ∧ rowsW (rd.map toPr) (md.map toPr) rows [] = some ws, ?_, ?_⟩
      · refine ⟨_, rfl, a2, rfl, ⟨_, same_tup (Same.up nW) _ _ Q2⟩, for_tup (xs := wvs) (fun i σ H' => ∃ (y8 y9 : Option V) (ws : List Nat), σ = [some (.ref b), some (.ref a0), some (.ref a1), some (.ref a2), some (.ref a3), some (.ref a4), some (.ref a5), some (.ref Wl), y8, y9, none] ∧ Same H2 H' ∧ H' Wl = some (.lst (ws.map iV)) ∧ rowsW (rd.map toPr) (md.map toPr) rows [] = rowsW (rd.map toPr) (md.map toPr) (rows.drop i) ws ∧ ws.length = i) ⟨_, _, [], rfl, Same.up nW, upd_same, rfl, rfl⟩ (fun i σ H' _ h => ?_) (fun i x σ H' hx h => ?_) (fun σ H' h => ?_)⟩
        · obtain ⟨_, _, _, _, s3, _⟩ := h
          exact same_tup s3 _ _ Q2
        · obtain ⟨y8, y9, ws, rfl, s3, hW, e1, lw⟩ := h
          obtain ⟨dj, hdj, dx⟩ := dps_get D2 hx
          have gj := gd_mem g2 (List.mem_of_getElem? hdj)
          have hi : i < rows.length := (List.getElem?_eq_some_iff.mp hdj).1
          have ed := rowsW_drop (regs := rd.map toPr) (mems := md.map toPr) (ws := ws) hdj
          refine ⟨_, rfl, _, rfl, _, rfl, b, Wl, x, rd.map toPr, md.map toPr, ws, dj, _, rfl, CC s3, hW, dp_stay (same_tup s3) _ _ dx (gd_ok _ _ gj).1, gj, by omega, by omega, by rw [List.length_map]; exact l0, by rw [List.length_map]; exact l1, fun H3 s4 => ?_⟩
          have s5 := s3.trans s4
          refine ⟨_, rfl, rfl, _, rfl, ?_⟩
          by_cases hz : rowB (rd.map toPr) (md.map toPr) ws dj = 0
          · rw [hz]
            refine iteT (qf ?_ (t2.trans s5))
            rw [hcb, e1, ed, if_pos hz]
          · refine ite2 (fun a => absurd (Int.ofNat.inj (V.int.inj (of_decide_eq_true a))) hz) (fun _ => ?_)
            have hW3 := s4 _ _ hW
            refine ⟨_, rfl, .inl ⟨rfl, _, SqL.of hW3⟩, _, rfl, Wl, _, _, rfl, rfl, hW3, by rw [List.length_map, sizeLine_eq]; omega, ?_⟩
            refine ⟨_, _, ws ++ [rowB (rd.map toPr) (md.map toPr) ws dj], rfl, fun c o e => ?_, ?_, ?_, ?_⟩
            · rw [upd_ne (ne_of_none e nW)]
              exact s5 _ _ e
            · rw [List.map_append]
              exact upd_same
            · rw [e1, ed, if_neg hz]
            · rw [List.length_append]
              show ws.length + 1 = i + 1
              omega
        · obtain ⟨y8, y9, ws, rfl, s3, hW, e1, lw⟩ := h
          refine ⟨_, _, ws, rfl, s3, hW, ?_⟩
          rw [e1, dps_len D2, List.drop_length]
          rfl
      rintro σ H3 ⟨y8, y9, ws, rfl, s3, hW, ew⟩
      rw [ew] at hcb
      have t3 := s2.trans s3
      have u3 := t2.trans s3
      refine ⟨_, rfl, _, rfl, _, rfl, a0, Wl, a3, rd.map toPr, ws, rvs, nvs, nx, rfl, same_tup t3 _ _ q0, dps_stay (same_tup t3) _ _ d0 (noLs_pr _), hW, same_tup t3 _ _ q3, dps_stay (same_tup t3) _ _ d3 n3, n3, fun H4 s4 => ?_⟩
      have t4 := t3.trans s4
      refine ⟨_, rfl, ?_⟩
      cases hx : nextsB ws (rd.map toPr) nx with
      | false =>
        dsimp only at hcb
        rw [hx, Bool.false_and] at hcb
        exact iteF (qf hcb (u3.trans s4))
      | true =>
        dsimp only at hcb
        rw [hx, Bool.true_and] at hcb
        refine iteT ?_
        refine ⟨_, rfl, _, rfl, _, rfl, _, rfl, a1, Wl, a4, a5, md.map toPr, ws, mvs, svs, ovs, st, ou, rfl, same_tup t4 _ _ q1, dps_stay (same_tup t4) _ _ d1 (noLs_pr _), s4 _ _ hW, same_tup t4 _ _ q4, dps_stay (same_tup t4) _ _ d4 n4, n4, l4, same_tup t4 _ _ q5, dps_stay (same_tup t4) _ _ d5 n5, n5, l5, fun H5 s5 => ?_⟩
        rw [← hcb]
        exact q _ ((u3.trans s4).trans s5)
end
end C1

/-! What the law draws is a circuit by the rules. -/
namespace C1
open PySem PySem.Spec PyProof.Rows L2 SX
theorem toPr_pr (ps : List (Nat × Nat)) : (ps.map pr).map toPr = ps := by
  rw [List.map_map]
  have : (toPr ∘ pr) = id := by
    funext ⟨x, y⟩
    rfl
  rw [this, List.map_id]
theorem isI_nat {k lo hi : Nat} (h1 : lo ≤ k) (h2 : k < hi) : isI (iD k) (lo : Nat) (hi : Nat) = true := isI_iff.mpr ⟨_, rfl, by omega, by omega⟩
theorem isI_ws {ws : List Nat} {a x : Nat} (h : ws[a]? = some x) : isI (iD a) 0 (ws.length : Nat) = true := isI_iff.mpr ⟨_, rfl, by omega, by have := (List.getElem?_eq_some_iff.mp h).1; omega⟩
theorem getD_ws {ws : List Nat} {a x : Nat} (h : ws[a]? = some x) : ws.getD (natD (iD a)) 0 = x := by
  show ws.getD ((a : Nat) : Int).toNat 0 = x
  rw [Int.toNat_natCast, List.getD_eq_getElem?_getD, h]
  rfl
section
variable {regs mems : List (Nat × Nat)} {ws : List Nat}
theorem row_ok {row : Row} {wd : Nat} (h : RowOk regs mems ws row wd) (hM : MemsOk mems) (h1 : 1 ≤ wd) (h2 : wd ≤ 12) (hw : WsOk ws) : rowB regs mems ws row.d = wd := by
  cases h with
  | @lit v w hv =>
    show (if (isI (iD wd) 1 33 && isI (iD v) 0 (2 ^ ((wd : Nat) : Int).toNat)) = true then ((wd : Nat) : Int).toNat else 0) = wd
    rw [if_pos, Int.toNat_natCast]
    rw [Bool.and_eq_true]
    refine ⟨isI_iff.mpr ⟨_, rfl, by omega, by omega⟩, isI_iff.mpr ⟨_, rfl, by omega, ?_⟩⟩
    rw [Int.toNat_natCast]
    have : ((2 ^ wd : Nat) : Int) = (2 : Int) ^ wd := Int.natCast_pow 2 wd
    rw [← this]
    omega
  | @reg i w f hr =>
    show (if (0 : Int) ≤ ((i : Nat) : Int) then ((regs[((i : Nat) : Int).toNat]?).map Prod.fst).getD 0 else 0) = wd
    rw [if_pos (by omega), Int.toNat_natCast, hr]
    rfl
  | @look m a b w hm ha =>
    show (if ([iD a].all fun p => isI p 0 (ws.length : Nat)) = true then lookB mems ws [iD m, iD a] else 0) = wd
    rw [if_pos (by rw [List.all_cons, isI_ws ha]; rfl)]
    show (if (0 : Int) ≤ ((m : Nat) : Int) ∧ (0 : Int) ≤ ((a : Nat) : Int) then _ else 0) = _
    rw [Int.toNat_natCast, Int.toNat_natCast, hm, ha, if_pos ⟨by omega, by omega⟩]
    exact if_pos rfl
  | @inv a w ha =>
    show (if ([iD a].all fun p => isI p 0 (ws.length : Nat)) = true then ws.getD (natD (iD a)) 0 else 0) = wd
    rw [if_pos (by rw [List.all_cons, isI_ws ha]; rfl), getD_ws ha]
  | @wide a x w ha =>
    show (if ([iD a].all fun p => isI p 0 (ws.length : Nat)) = true then (if 1 ≤ ((wd : Nat) : Int) ∧ ((wd : Nat) : Int) ≤ 32 then ((wd : Nat) : Int).toNat else 0) else 0) = wd
    rw [if_pos (by rw [List.all_cons, isI_ws ha]; rfl), if_pos ⟨by omega, by omega⟩, Int.toNat_natCast]
  | @part a x lo hi ha hl hh =>
    show (if ([iD a].all fun p => isI p 0 (ws.length : Nat)) = true then (if 0 ≤ ((lo : Nat) : Int) ∧ ((lo : Nat) : Int) ≤ ((hi : Nat) : Int) ∧ ((hi : Nat) : Int) < ((ws.getD (natD (iD a)) 0 : Nat) : Int) then (((hi : Nat) : Int) - ((lo : Nat) : Int) + 1).toNat else 0) else 0) = hi - lo + 1
    rw [if_pos (by rw [List.all_cons, isI_ws ha]; rfl), getD_ws ha, if_pos ⟨by omega, by omega, by omega⟩]
    omega
  | @join a b x y ha hb =>
    show (if ([iD a, iD b].all fun p => isI p 0 (ws.length : Nat)) = true then (if ws.getD (natD (iD a)) 0 + ws.getD (natD (iD b)) 0 ≤ 32 then ws.getD (natD (iD a)) 0 + ws.getD (natD (iD b)) 0 else 0) else 0) = x + y
    rw [if_pos (by rw [List.all_cons, List.all_cons, isI_ws ha, isI_ws hb]; rfl), getD_ws ha, getD_ws hb, if_pos (by omega)]
  | @shift s a b x y hs ha hb =>
    show (if ([iD a, iD b].all fun p => isI p 0 (ws.length : Nat)) = true then opW s (ws.getD (natD (iD a)) 0) (ws.getD (natD (iD b)) 0) else 0) = wd
    rw [if_pos (by rw [List.all_cons, List.all_cons, isI_ws ha, isI_ws hb]; rfl), getD_ws ha, getD_ws hb]
    exact if_pos hs
  | @arith s a b x hs ha hb =>
    show (if ([iD a, iD b].all fun p => isI p 0 (ws.length : Nat)) = true then opW s (ws.getD (natD (iD a)) 0) (ws.getD (natD (iD b)) 0) else 0) = wd
    rw [if_pos (by rw [List.all_cons, List.all_cons, isI_ws ha, isI_ws hb]; rfl), getD_ws ha, getD_ws hb]
    have h1 : ∀ s ∈ arithL, s ∉ shiftL ∧ s ∉ testL := by decide +kernel
    unfold opW
    rw [if_neg (h1 s hs).1, if_pos rfl, if_neg (h1 s hs).2, if_pos hs]
  | @test s a b x hs ha hb =>
    show (if ([iD a, iD b].all fun p => isI p 0 (ws.length : Nat)) = true then opW s (ws.getD (natD (iD a)) 0) (ws.getD (natD (iD b)) 0) else 0) = 1
    rw [if_pos (by rw [List.all_cons, List.all_cons, isI_ws ha, isI_ws hb]; rfl), getD_ws ha, getD_ws hb]
    have h1 : ∀ s ∈ testL, s ∉ shiftL := by decide +kernel
    unfold opW
    rw [if_neg (h1 s hs), if_pos rfl, if_pos hs]
  | @pick t a b x ht ha hb =>
    show (if ([iD t, iD a, iD b].all fun p => isI p 0 (ws.length : Nat)) = true then (if ws.getD (natD (iD t)) 0 = 1 ∧ ws.getD (natD (iD a)) 0 = ws.getD (natD (iD b)) 0 then ws.getD (natD (iD a)) 0 else 0) else 0) = wd
    rw [if_pos (by rw [List.all_cons, List.all_cons, List.all_cons, isI_ws ht, isI_ws ha, isI_ws hb]; rfl), getD_ws ht, getD_ws ha, getD_ws hb]
    exact if_pos ⟨rfl, rfl⟩
theorem rowsW_app {rs : List PyData} {r : PyData} : ∀ {ws ws2 : List Nat}, rowsW regs mems rs ws = some ws2 → rowB regs mems ws2 r ≠ 0 → rowsW regs mems (rs ++ [r]) ws = some (ws2 ++ [rowB regs mems ws2 r]) := by
  induction rs with
  | nil =>
    intro ws ws2 h hr
    cases h
    show (if rowB regs mems ws r = 0 then none else some (ws ++ [rowB regs mems ws r])) = _
    rw [if_neg hr]
  | cons a rs ih =>
    intro ws ws2 h hr
    have h1 : (if rowB regs mems ws a = 0 then none else rowsW regs mems rs (ws ++ [rowB regs mems ws a])) = some ws2 := h
    show (if rowB regs mems ws a = 0 then none else rowsW regs mems (rs ++ [r]) (ws ++ [rowB regs mems ws a])) = _
    by_cases hz : rowB regs mems ws a = 0
    · rw [if_pos hz] at h1
      cases h1
    · rw [if_neg hz] at h1 ⊢
      exact ih h1 hr
theorem rows_ok {rows : List Row} (hM : MemsOk mems) (h : RowsOk regs mems rows ws) : rowsW regs mems (rows.map Row.d) [] = some ws := by
  induction h with
  | nil => rfl
  | @snoc rows ws row wd hro ho h1 h2 ih =>
    have e := row_ok ho hM h1 h2 (rows_ws hro)
    rw [List.map_append]
    have := rowsW_app (r := row.d) ih (by rw [e]; omega)
    rw [e] at this
    exact this
theorem nexts_ok : ∀ {regs : List (Nat × Nat)} {nexts : List Nat}, nexts.length = regs.length → (∀ (i : Nat) (p : Nat × Nat) (n : Nat), regs[i]? = some p → nexts[i]? = some n → ws[n]? = some p.1) → nextsB ws regs (nexts.map iD) = true
  | [], [], _, _ => rfl
  | p :: ps, n :: ns, hl, h => by
    have h0 := h 0 p n rfl rfl
    show (isI (iD n) 0 (ws.length : Nat) && (decide (ws.getD (natD (iD n)) 0 = p.1) && nextsB ws ps (ns.map iD))) = true
    rw [isI_ws h0, getD_ws h0, nexts_ok (regs := ps) (nexts := ns) (by simpa using hl) (fun i p n h1 h2 => h (i + 1) p n h1 h2), decide_eq_true rfl]
    rfl
end
theorem ckt_circ {c : Ckt} {ws : List Nat} (h : CktOk c ws) : circB c.d = true := by
  show ((c.regs.map pr).all regB && ((c.mems.map pr).all memB && (match rowsW ((c.regs.map pr).map toPr) ((c.mems.map pr).map toPr) (c.rows.map Row.d) [] with
    | some ws => nextsB ws ((c.regs.map pr).map toPr) (c.nexts.map iD) && ((c.stores.map stD).all (storeB ((c.mems.map pr).map toPr) ws) && (c.outs.map iD).all fun r => isI r 0 (ws.length : Nat))
    | none => false))) = true
  rw [toPr_pr, toPr_pr, rows_ok h.mm h.rw]
  have hr : (c.regs.map pr).all regB = true := by
    rw [List.all_eq_true]
    intro d hd
    obtain ⟨p, hp, e⟩ := List.mem_map.mp hd
    subst e
    obtain ⟨p1, p2, p3⟩ := h.rg p hp
    show (isI (iD p.1) 1 33 && isI (iD p.2) 0 (2 ^ ((p.1 : Nat) : Int).toNat)) = true
    rw [Bool.and_eq_true]
    refine ⟨isI_iff.mpr ⟨_, rfl, by omega, by omega⟩, isI_iff.mpr ⟨_, rfl, by omega, ?_⟩⟩
    rw [Int.toNat_natCast]
    have : ((2 ^ p.1 : Nat) : Int) = (2 : Int) ^ p.1 := Int.natCast_pow 2 p.1
    rw [← this]
    omega
  have hm : (c.mems.map pr).all memB = true := by
    rw [List.all_eq_true]
    intro d hd
    obtain ⟨p, hp, e⟩ := List.mem_map.mp hd
    subst e
    obtain ⟨p1, p2, p3, p4⟩ := h.mm p hp
    show (isI (iD p.1) 1 7 && isI (iD p.2) 1 33) = true
    rw [Bool.and_eq_true]
    exact ⟨isI_iff.mpr ⟨_, rfl, by omega, by omega⟩, isI_iff.mpr ⟨_, rfl, by omega, by omega⟩⟩
  have hn := nexts_ok h.nl h.nx
  have hs : (c.stores.map stD).all (storeB c.mems ws) = true := by
    rw [List.all_eq_true]
    intro d hd
    obtain ⟨⟨m, a, v, t⟩, hp, e⟩ := List.mem_map.mp hd
    subst e
    obtain ⟨p, h0, h1, h2, h3⟩ := h.so _ hp
    dsimp only at h0 h1 h2 h3
    show (isI (iD m) 0 (c.mems.length : Nat) && (([iD a, iD v, iD t].all fun r => isI r 0 (ws.length : Nat)) && decide ([ws.getD (natD (iD a)) 0, ws.getD (natD (iD v)) 0, ws.getD (natD (iD t)) 0] = [((c.mems[((m : Nat) : Int).toNat]?).getD (0, 0)).1, ((c.mems[((m : Nat) : Int).toNat]?).getD (0, 0)).2, 1]))) = true
    rw [Int.toNat_natCast, h0, getD_ws h1, getD_ws h2, getD_ws h3, List.all_cons, List.all_cons, List.all_cons, isI_ws h1, isI_ws h2, isI_ws h3]
    rw [isI_iff.mpr ⟨_, rfl, by omega, by have := (List.getElem?_eq_some_iff.mp h0).1; omega⟩]
    show (true && ((true && (true && (true && true))) && decide ([p.1, p.2, 1] = [p.1, p.2, 1]))) = true
    rw [decide_eq_true rfl]
    rfl
  have ho : ((c.outs.map iD).all fun r => isI r 0 (ws.length : Nat)) = true := by
    rw [List.all_eq_true]
    intro d hd
    obtain ⟨o, hp, e⟩ := List.mem_map.mp hd
    subst e
    exact isI_iff.mpr ⟨_, rfl, by omega, by have := h.oo o hp; omega⟩
  rw [hr, hm]
  show (nextsB ws c.regs (c.nexts.map iD) && ((c.stores.map stD).all (storeB c.mems ws) && (c.outs.map iD).all fun r => isI r 0 (ws.length : Nat))) = true
  rw [hn, hs, ho]
  rfl
theorem gd_row {row : Row} {regs mems : List (Nat × Nat)} {ws : List Nat} {wd : Nat} (h : RowOk regs mems ws row wd) : gd 1 row.d = true := by
  have hs : ∀ s : Str, s ∈ shiftL ∨ s ∈ arithL ∨ s ∈ testL → decide (s ∈ strsL) = true := by
    have h1 : ∀ s ∈ shiftL ++ (arithL ++ testL), decide (s ∈ strsL) = true := by decide +kernel
    intro s hs
    refine h1 s ?_
    rw [List.mem_append, List.mem_append]
    exact hs
  have go : ∀ (s : Str) (a b : Nat), decide (s ∈ strsL) = true → gd 1 (Row.op s a b).d = true := fun s a b e => by
    show (decide (4 ≤ 1000) && (decide (("op" : Str) ∈ strsL) && (decide (s ∈ strsL) && (true && (true && true))))) = true
    rw [e]
    rfl
  cases h with
  | shift h => exact go _ _ _ (hs _ (.inl h))
  | arith h => exact go _ _ _ (hs _ (.inr (.inl h)))
  | test h => exact go _ _ _ (hs _ (.inr (.inr h)))
  | lit => rfl
  | reg => rfl
  | look => rfl
  | inv => rfl
  | wide => rfl
  | part => rfl
  | join => rfl
  | pick => rfl
theorem gd_rows {regs mems : List (Nat × Nat)} {rows : List Row} {ws : List Nat} (h : RowsOk regs mems rows ws) : ∀ r ∈ rows, gd 1 r.d = true := by
  induction h with
  | nil => exact fun r hr => by cases hr
  | snoc _ ho _ _ ih =>
    intro r hr
    rcases List.mem_append.mp hr with h | h
    · exact ih r h
    · rw [List.mem_singleton.mp h]
      exact gd_row ho
theorem gd_tup {n : Nat} {ds : List PyData} (hl : ds.length ≤ 1000) (h : ∀ d ∈ ds, gd n d = true) : gd (n + 1) (.tuple ds) = true := Bool.and_eq_true_iff.mpr ⟨decide_eq_true hl, List.all_eq_true.mpr h⟩
theorem gd_int {n : Nat} (k : Int) : gd n (.int k) = true := by cases n <;> rfl
theorem ckt_gd {c : Ckt} {ws : List Nat} (h : CktOk c ws) : gd 3 c.d = true := by
  have hi : ∀ (n : Nat) (ks : List Nat), ∀ d ∈ ks.map iD, gd n d = true := fun n ks d hd => by
    obtain ⟨k, _, e⟩ := List.mem_map.mp hd
    subst e
    exact gd_int _
  have hp : ∀ (ps : List (Nat × Nat)), ∀ d ∈ ps.map pr, gd 1 d = true := fun ps d hd => by
    obtain ⟨⟨x, y⟩, _, e⟩ := List.mem_map.mp hd
    subst e
    rfl
  have lw := h.lw
  have lrw := rows_len h.rw
  refine gd_tup (by show 6 ≤ 1000; decide) fun d hd => ?_
  have nlen := h.nl
  have h1 := h.lr
  have h2 := h.lm
  have h3 := h.sl
  have h4 := h.ol
  have hd' : d = .tuple (c.regs.map pr) ∨ d = .tuple (c.mems.map pr) ∨ d = .tuple (c.rows.map Row.d) ∨ d = .tuple (c.nexts.map iD) ∨ d = .tuple (c.stores.map stD) ∨ d = .tuple (c.outs.map iD) := by
    simpa using hd
  rcases hd' with e | e | e | e | e | e
  · subst e
    exact gd_tup (by rw [List.length_map]; omega) (hp _)
  · subst e
    exact gd_tup (by rw [List.length_map]; omega) (hp _)
  · subst e
    refine gd_tup (by rw [List.length_map]; omega) fun d hd => ?_
    obtain ⟨r, hr, e⟩ := List.mem_map.mp hd
    subst e
    exact gd_rows h.rw r hr
  · subst e
    exact gd_tup (by rw [List.length_map]; omega) (hi _ _)
  · subst e
    refine gd_tup (by rw [List.length_map]; omega) fun d hd => ?_
    obtain ⟨r, hr, e⟩ := List.mem_map.mp hd
    subst e
    rfl
  · subst e
    exact gd_tup (by rw [List.length_map]; omega) (hi _ _)
end C1

set_option maxHeartbeats 4000000
/-! The mathematics of the tokens: the relation Lx (what a text from a place on gives), words that are read whole, texts put together of gaps and words. -/
namespace K0
open PySem SX
abbrev Cs := List Nat
def lets : Cs := (Str.ofString "abcdefghijklmnopqrstuvwxyzABCDEFGHIJKLMNOPQRSTUVWXYZ").cps.toList
def digs : Cs := (Str.ofString "0123456789").cps.toList
def shorts : Cs := (Str.ofString ":;,()[]=+-*&|^~<?").cps.toList
def kwV : List L2.V := [.str "machine", .str "reg", .str "file", .str "rom", .str "at", .str "let", .str "guess", .str "when", .str "wide", .str "part", .str "join"]
def longV : List L2.V := [.str ":=", .str "<<", .str ">>", .str "=="]
def isKw (t : Cs) : Bool := L2.inV (.str (S t)) kwV
def isLong (t : Cs) : Bool := L2.inV (.str (S t)) longV
def goesOn (c : Nat) : Bool := decide (c ∈ lets) || (decide (c ∈ digs) || decide (c = 95))
def isNum (t : Cs) : Bool := match t with
  | [] => false
  | c :: r => if c = 48 ∧ r ≠ [] then false else (c :: r).all fun d => decide (d ∈ digs)
def small (t : Cs) : Option Nat := if t.length ≤ 10 ∧ isNum t = true then (if NumText.digitsVal t < 4294967296 then some (NumText.digitsVal t) else none) else none
def litOk (v wd : Nat) : Bool := decide (1 ≤ wd) && (decide (wd ≤ 32) && decide (v < 2 ^ wd))
abbrev KP := Str × PyData
def numTok (t : Cs) : Option KP :=
  let p := Txt.partition (S t) (S [119])
  if p.2.1 = S [] then (small p.1.cps.toList).map fun v => ("number", .int (v : Nat))
  else match small p.1.cps.toList, small p.2.2.cps.toList with
    | some v, some wd => if litOk v wd = true then some ("literal", .tuple [.int (v : Nat), .int (wd : Nat)]) else none
    | _, _ => none
def tokOf (t : Cs) : Option KP := match t with
  | [] => none
  | c :: _ => if c ∈ digs then numTok t else if c ∈ lets then (if isKw t = true then some ("keyword", .str (S t)) else some ("name", .str (S t))) else some ("sign", .str (S t))
def tokLen (s : Cs) : Option Nat := match s with
  | [] => none
  | h :: t => if h ∈ lets ∨ h ∈ digs then some (1 + (t.takeWhile goesOn).length)
    else if isLong ((h :: t).take 2) = true then some 2 else if h ∈ shorts then some 1 else none
def mk (kp : KP) (r c : Int) : PyData := .tuple [.str kp.1, kp.2, .int r, .int c]
inductive Out | ok (ts : List PyData) | bad (isChar : Bool) (r c : Int)
inductive Lx : Cs → Int → Int → List PyData → Out → Prop
  | nil {r c acc} : Lx [] r c acc (.ok (acc ++ [mk ("end", .str (S [])) r c]))
  | nl {s r c acc o} : Lx s (r + 1) 1 acc o → Lx (10 :: s) r c acc o
  | sp {s r c acc o} : Lx s r (c + 1) acc o → Lx (32 :: s) r c acc o
  | rem {s r c acc o} : Lx (s.dropWhile fun x => decide (x ≠ 10)) r (c + 1 + ((s.takeWhile fun x => decide (x ≠ 10)).length : Int)) acc o → Lx (35 :: s) r c acc o
  | tok {h t r c acc o n kp} : h ≠ 10 → h ≠ 32 → h ≠ 35 → tokLen (h :: t) = some n → tokOf ((h :: t).take n) = some kp → Lx ((h :: t).drop n) r (c + (n : Int)) (acc ++ [mk kp r c]) o → Lx (h :: t) r c acc o
  | badnum {h t r c acc n} : h ≠ 10 → h ≠ 32 → h ≠ 35 → tokLen (h :: t) = some n → tokOf ((h :: t).take n) = none → Lx (h :: t) r c acc (.bad false r c)
  | badch {h t r c acc} : h ≠ 10 → h ≠ 32 → h ≠ 35 → tokLen (h :: t) = none → Lx (h :: t) r c acc (.bad true r c)
/-- what may stand behind a word -/
inductive Stop : Cs → Prop
  | nil : Stop []
  | sp {s} : Stop (32 :: s)
  | nl {s} : Stop (10 :: s)
  | rem {s} : Stop (35 :: s)
def Good (t : Cs) (kp : KP) : Prop := t.length ≤ 40 ∧ ∀ rest r c acc o, Stop rest → Lx rest r (c + (t.length : Int)) (acc ++ [mk kp r c]) o → Lx (t ++ rest) r c acc o
def Bad (t : Cs) (b : Bool) : Prop := t.length ≤ 40 ∧ ∀ rest r c acc, Stop rest → Lx (t ++ rest) r c acc (.bad b r c)
inductive WordOk (t : Cs) (kp : KP) : Prop
  | good : kp.1 ≠ "bad" → Good t kp → WordOk t kp
  | bad (b : Bool) : kp = ((("bad" : Str), PyData.bool b) : KP) → Bad t b → WordOk t kp

theorem stop_take {rest : Cs} (h : Stop rest) : rest.takeWhile goesOn = [] := by
  cases h with
  | nil => rfl
  | sp => exact List.takeWhile_cons_of_neg (by decide +kernel)
  | nl => exact List.takeWhile_cons_of_neg (by decide +kernel)
  | rem => exact List.takeWhile_cons_of_neg (by decide +kernel)
theorem run_take {t rest : Cs} (h : ∀ c ∈ t, goesOn c = true) (hs : Stop rest) : (t ++ rest).takeWhile goesOn = t := by
  rw [List.takeWhile_append_of_pos h, stop_take hs, List.append_nil]
theorem start_ne {h : Nat} (e : h ∈ lets ∨ h ∈ digs) : h ≠ 10 ∧ h ≠ 32 ∧ h ≠ 35 := by
  refine ⟨?_, ?_, ?_⟩ <;> (rintro rfl; revert e; decide +kernel)
/-- a word that begins with a letter or a digit -/
theorem run_len {h : Nat} {t rest : Cs} (e : h ∈ lets ∨ h ∈ digs) (hg : ∀ c ∈ t, goesOn c = true) (hs : Stop rest) : tokLen (h :: (t ++ rest)) = some (1 + t.length) := by
  unfold tokLen
  simp only []
  rw [if_pos e, run_take hg hs]
theorem good_run {h : Nat} {t : Cs} {kp : KP} (e : h ∈ lets ∨ h ∈ digs) (hg : ∀ c ∈ t, goesOn c = true) (hl : t.length ≤ 39) (hk : tokOf (h :: t) = some kp) : Good (h :: t) kp := by
  refine ⟨by rw [List.length_cons]; omega, fun rest r c acc o hs hL => ?_⟩
  show Lx (h :: (t ++ rest)) _ _ _ _
  obtain ⟨n1, n2, n3⟩ := start_ne e
  have ht : (h :: (t ++ rest)).take (1 + t.length) = h :: t := by
    rw [Nat.add_comm 1 t.length, List.take_succ_cons, List.take_left]
  have hd : (h :: (t ++ rest)).drop (1 + t.length) = rest := by
    rw [Nat.add_comm 1 t.length, List.drop_succ_cons, List.drop_left]
  refine Lx.tok n1 n2 n3 (run_len e hg hs) (by rw [ht]; exact hk) ?_
  rw [hd]
  have el : ((h :: t).length : Int) = ((1 + t.length : Nat) : Int) := by rw [List.length_cons, Nat.add_comm 1 t.length]
  rw [el] at hL
  exact hL
theorem bad_run {h : Nat} {t : Cs} (e : h ∈ lets ∨ h ∈ digs) (hg : ∀ c ∈ t, goesOn c = true) (hl : t.length ≤ 39) (hk : tokOf (h :: t) = none) : Bad (h :: t) false := by
  refine ⟨by rw [List.length_cons]; omega, fun rest r c acc hs => ?_⟩
  show Lx (h :: (t ++ rest)) _ _ _ _
  obtain ⟨n1, n2, n3⟩ := start_ne e
  have ht : (h :: (t ++ rest)).take (1 + t.length) = h :: t := by
    rw [Nat.add_comm 1 t.length, List.take_succ_cons, List.take_left]
  exact Lx.badnum n1 n2 n3 (run_len e hg hs) (by rw [ht]; exact hk)
/-- the same by computation, for a word that is written out -/
def runChk (t : Cs) (kp : Option KP) : Bool := match t with
  | [] => false
  | h :: r => (decide (h ∈ lets) || decide (h ∈ digs)) && (r.all goesOn && (decide (r.length ≤ 39)))
theorem chk_parts {t : Cs} (h : runChk t none = true) : ∃ c r, t = c :: r ∧ (c ∈ lets ∨ c ∈ digs) ∧ (∀ x ∈ r, goesOn x = true) ∧ r.length ≤ 39 := by
  cases t with
  | nil => cases h
  | cons c r =>
    have h' : ((decide (c ∈ lets) || decide (c ∈ digs)) && (r.all goesOn && (decide (r.length ≤ 39)))) = true := h
    rw [Bool.and_eq_true, Bool.and_eq_true, Bool.or_eq_true, decide_eq_true_eq, decide_eq_true_eq, decide_eq_true_eq, List.all_eq_true] at h'
    exact ⟨c, r, rfl, h'.1, h'.2.1, h'.2.2⟩
theorem word_run {t : Cs} {kp : KP} (h : runChk t none = true) (hk : tokOf t = some kp) (hb : kp.1 ≠ "bad") : WordOk t kp := by
  obtain ⟨c, r, rfl, e, hg, hl⟩ := chk_parts h
  exact .good hb (good_run e hg hl hk)
theorem word_badrun {t : Cs} (h : runChk t none = true) (hk : tokOf t = none) : WordOk t (("bad", .bool false) : KP) := by
  obtain ⟨c, r, rfl, e, hg, hl⟩ := chk_parts h
  exact .bad false rfl (bad_run e hg hl hk)
/-- a sign: not a letter, not a digit; what stands behind makes no longer one of it -/
def signChk (h : Nat) : Bool := !decide (h ∈ lets) && (!decide (h ∈ digs) && (!isLong [h] && (!isLong [h, 32] && (!isLong [h, 10] && (!isLong [h, 35] && (!decide (h = 10) && (!decide (h = 32) && !decide (h = 35))))))))
theorem sign_len {h : Nat} {rest : Cs} (hc : signChk h = true) (hs : Stop rest) : tokLen (h :: rest) = if h ∈ shorts then some 1 else none := by
  unfold signChk at hc
  simp only [Bool.and_eq_true, Bool.not_eq_true', decide_eq_false_iff_not] at hc
  obtain ⟨h1, h2, h3, h4, h5, h6, _⟩ := hc
  have hl : isLong ((h :: rest).take 2) = false := by
    cases hs with
    | nil => exact h3
    | sp => exact h4
    | nl => exact h5
    | rem => exact h6
  unfold tokLen
  simp only []
  rw [if_neg (fun z => z.elim h1 h2), hl]
  rfl
theorem sign_ne {h : Nat} (hc : signChk h = true) : h ≠ 10 ∧ h ≠ 32 ∧ h ≠ 35 := by
  unfold signChk at hc
  simp only [Bool.and_eq_true, Bool.not_eq_true', decide_eq_false_iff_not] at hc
  exact ⟨hc.2.2.2.2.2.2.1, hc.2.2.2.2.2.2.2.1, hc.2.2.2.2.2.2.2.2⟩
theorem sign_tok {h : Nat} {t : Cs} (h1 : h ∉ lets) (h2 : h ∉ digs) : tokOf (h :: t) = some (("sign", .str (S (h :: t))) : KP) := by
  unfold tokOf
  simp only []
  rw [if_neg h2, if_neg h1]
theorem word_short {h : Nat} (hc : signChk h = true) (hm : h ∈ shorts) : WordOk [h] (("sign", .str (S [h])) : KP) := by
  obtain ⟨n1, n2, n3⟩ := sign_ne hc
  have hc' := hc
  unfold signChk at hc'
  simp only [Bool.and_eq_true, Bool.not_eq_true', decide_eq_false_iff_not] at hc'
  refine .good (show ("sign" : Str) ≠ "bad" by decide) ⟨(by decide : 1 ≤ 40), fun rest r c acc o hs hL => ?_⟩
  refine Lx.tok (n := 1) n1 n2 n3 ((sign_len hc hs).trans (if_pos hm)) (sign_tok hc'.1 hc'.2.1) ?_
  exact hL
theorem word_badch {h : Nat} (hc : signChk h = true) (hm : h ∉ shorts) : WordOk [h] (("bad", .bool true) : KP) := by
  obtain ⟨n1, n2, n3⟩ := sign_ne hc
  exact .bad true rfl ⟨(by decide : 1 ≤ 40), fun rest r c acc hs => Lx.badch n1 n2 n3 ((sign_len hc hs).trans (if_neg hm))⟩
theorem word_long {a b : Nat} (h1 : a ∉ lets) (h2 : a ∉ digs) (h3 : isLong [a, b] = true) (hn : a ≠ 10 ∧ a ≠ 32 ∧ a ≠ 35) : WordOk [a, b] (("sign", .str (S [a, b])) : KP) := by
  refine .good (show ("sign" : Str) ≠ "bad" by decide) ⟨(by decide : 2 ≤ 40), fun rest r c acc o hs hL => ?_⟩
  refine Lx.tok (n := 2) hn.1 hn.2.1 hn.2.2 ?_ (sign_tok (t := [b]) h1 h2) ?_
  · show tokLen (a :: b :: rest) = some 2
    unfold tokLen
    simp only []
    rw [if_neg (fun z => z.elim h1 h2)]
    show (if isLong [a, b] = true then some 2 else _) = _
    rw [if_pos h3]
  · exact hL
/-! numbers -/
theorem dig_iff {c : Nat} : (48 ≤ c ∧ c ≤ 57) → c ∈ digs := by
  rintro ⟨h1, h2⟩
  have : ∀ d : Nat, d < 58 → 48 ≤ d → d ∈ digs := by decide +kernel
  exact this c (by omega) h1
theorem num_head {n : Nat} (h : 0 < n) : ∃ c r, TL.numL n = c :: r ∧ c ≠ 48 := by
  induction n using Nat.strongRecOn with
  | _ n ih =>
    by_cases h10 : n < 10
    · exact ⟨48 + n, [], TL.numL_lt h10, by omega⟩
    · obtain ⟨c, r, e, hc⟩ := ih (n / 10) (by omega) (by omega)
      refine ⟨c, r ++ [48 + n % 10], ?_, hc⟩
      rw [TL.numL_step (by omega), e]
      rfl
theorem num_isNum (n : Nat) : isNum (TL.numL n) = true := by
  have hd := TL.numL_digits n
  have key : ∀ t : Cs, (∃ c r, t = c :: r ∧ ¬(c = 48 ∧ r ≠ [])) → (∀ x ∈ t, x ∈ digs) → isNum t = true := by
    rintro t ⟨c, r, rfl, hc⟩ hx
    unfold isNum
    simp only []
    rw [if_neg hc, List.all_eq_true]
    intro x hx'
    exact decide_eq_true (hx x hx')
  refine key _ ?_ fun x hx => dig_iff (hd x hx)
  by_cases h0 : n = 0
  · subst h0
    exact ⟨48, [], TL.numL_lt (by decide), fun z => z.2 rfl⟩
  · obtain ⟨c, r, e, hc⟩ := num_head (n := n) (by omega)
    exact ⟨c, r, e, fun z => hc z.1⟩
theorem small_num {n : Nat} (h : n < 4294967296) : small (TL.numL n) = some n := by
  unfold small
  rw [if_pos ⟨TL.numL_len (by decide) (by omega), num_isNum n⟩, TL.numL_val, if_pos h]
theorem num_noW (n : Nat) : (119 : Nat) ∉ TL.numL n := TL.numL_free (by omega)
theorem num_tok {n : Nat} (h : n < 4294967296) : numTok (TL.numL n) = some (("number", .int (n : Nat)) : KP) := by
  have e : Txt.partition (S (TL.numL n)) (S [119]) = (S (TL.numL n), Str.empty, Str.empty) := TL.partition_none (y := S [119]) (s := 119) (S := []) rfl (num_noW n)
  unfold numTok
  simp only [e]
  rw [if_pos (by rfl)]
  show (small (TL.numL n)).map _ = _
  rw [small_num h]
  rfl
theorem lit_tok {v wd : Nat} (h1 : 1 ≤ wd) (h2 : wd ≤ 32) (h3 : v < 2 ^ wd) : numTok (TL.numL v ++ 119 :: TL.numL wd) = some (("literal", .tuple [.int (v : Nat), .int (wd : Nat)]) : KP) := by
  have e : Txt.partition (S (TL.numL v ++ 119 :: TL.numL wd)) (S [119]) = (S (TL.numL v), S [119], S (TL.numL wd)) := by
    have e1 : S (TL.numL v ++ 119 :: TL.numL wd) = S (TL.numL v) ++ S [119] ++ S (TL.numL wd) := by
      rw [S_cat, S_cat, List.append_assoc]
      rfl
    rw [e1]
    exact TL.partition_app (y := S [119]) (s := 119) (S := []) rfl (num_noW v)
  have hv : v < 4294967296 := Nat.lt_of_lt_of_le h3 (Nat.pow_le_pow_right (by decide) h2)
  unfold numTok
  simp only [e]
  rw [if_neg (by decide)]
  show (match small (TL.numL v), small (TL.numL wd) with
    | some v, some wd => if litOk v wd = true then some ((("literal" : Str), PyData.tuple [.int (v : Nat), .int (wd : Nat)]) : KP) else none
    | _, _ => none) = _
  rw [small_num hv, small_num (by omega : wd < 4294967296)]
  have hk : litOk v wd = true := by
    unfold litOk
    rw [decide_eq_true h1, decide_eq_true h2, decide_eq_true h3]
    rfl
  simp only []
  rw [if_pos hk]
theorem dig_goes {c : Nat} (h : c ∈ digs) : goesOn c = true := by
  unfold goesOn
  rw [decide_eq_true h]
  simp
theorem num_cons (n : Nat) : ∃ c r, TL.numL n = c :: r ∧ c ∈ digs ∧ ∀ x ∈ r, x ∈ digs := by
  have hd := TL.numL_digits n
  have hn := TL.numL_ne n
  cases e : TL.numL n with
  | nil => exact absurd e hn
  | cons c r =>
    rw [e] at hd
    exact ⟨c, r, rfl, dig_iff hd.head, fun x hx => dig_iff (hd.tail x hx)⟩
theorem word_num {n : Nat} (h : n < 4294967296) : WordOk (TL.numL n) (("number", .int (n : Nat)) : KP) := by
  obtain ⟨c, r, e, hc, hr⟩ := num_cons n
  have hk := num_tok h
  have hl : (TL.numL n).length ≤ 10 := TL.numL_len (by decide) (by omega)
  rw [e] at hk hl ⊢
  rw [List.length_cons] at hl
  refine .good (show ("number" : Str) ≠ "bad" by decide) (good_run (.inr hc) (fun x hx => dig_goes (hr x hx)) (by omega) ?_)
  unfold tokOf
  simp only []
  rw [if_pos hc]
  exact hk
theorem word_lit {v wd : Nat} (h1 : 1 ≤ wd) (h2 : wd ≤ 32) (h3 : v < 2 ^ wd) : WordOk (TL.numL v ++ 119 :: TL.numL wd) (("literal", .tuple [.int (v : Nat), .int (wd : Nat)]) : KP) := by
  obtain ⟨c, r, e, hc, hr⟩ := num_cons v
  obtain ⟨c2, r2, e2, hc2, hr2⟩ := num_cons wd
  have hv : v < 4294967296 := Nat.lt_of_lt_of_le h3 (Nat.pow_le_pow_right (by decide) h2)
  have hk := lit_tok h1 h2 h3
  have hl : (TL.numL v).length ≤ 10 := TL.numL_len (by decide) (by omega)
  have hl2 : (TL.numL wd).length ≤ 10 := TL.numL_len (by decide) (by omega)
  rw [e] at hk hl ⊢
  rw [e2] at hk hl2 ⊢
  rw [List.length_cons] at hl hl2
  have hw : goesOn 119 = true := by decide +kernel
  refine .good (show ("literal" : Str) ≠ "bad" by decide) (good_run (t := r ++ 119 :: c2 :: r2) (.inr hc) (fun x hx => ?_) (by rw [List.length_append, List.length_cons, List.length_cons]; omega) ?_)
  · rcases List.mem_append.mp hx with h | h
    · exact dig_goes (hr x h)
    · rcases List.mem_cons.mp h with h | h
      · rw [h]; exact hw
      · rcases List.mem_cons.mp h with h | h
        · rw [h]; exact dig_goes hc2
        · exact dig_goes (hr2 x h)
  · show tokOf (c :: (r ++ 119 :: c2 :: r2)) = _
    unfold tokOf
    simp only []
    rw [if_pos hc]
    exact hk
end K0

set_option maxHeartbeats 4000000
/-! all(..) of a generator expression over a text whose element reads a global. -/
namespace K0G
open PySem PySem.Spec PyProof.Rows L2 GxR
/-- the element is a test of one sign; it may read the module's names -/
def EltM (X : Cx) (sc : Scope) (x : Str) (elt : Expr) (pb : Nat → Bool) : Prop :=
  ∀ (ce : Env) (B : Around) (Z : Value → Shared → Prop) (c : Nat) (t : Tok) (s2 : Shared) (m2 : Str → Option Value),
    ce.scope = sc → ce.globals = mainGlobals → s2.heap.Ns mainGlobals X.mg → s2.heap.Ns ce.locals m2 → m2 x = some (.str ⟨#[c]⟩ t) →
      wpAny (model X.prog X.w) B (eval elt ce) (fun y s3 => y = .bool (pb c) ∧ Keeps s2 s3) Z s2
/-- x in NAME, NAME a text of the module -/
theorem elt_in {X : Cx} {sc : Scope} {x y : Str} {z : Str} {u : Tok} {p1 p2 p3 : Pos} (hk : sc.kind = .function) (hx : sc.names.lookup x = some .local) (hy : sc.names.lookup y = some .globalImplicit)
    (hg : X.mg y = some (.str z u)) (dx : (x == ("__debug__" : Str)) = false) (dy : (y == ("__debug__" : Str)) = false) :
    EltM X sc x (.Compare (.Name x p1) [.In] [.Name y p2] p3) (fun c => decide (c ∈ z.cps.toList)) := by
  intro ce B Z c t s2 m2 hsc hgl hG hL hm
  have kx : ce.kindOf x = some .local := by
    show ce.scope.names.lookup x = _
    rw [hsc]
    exact hx
  have ky : ce.kindOf y = some .globalImplicit := by
    show ce.scope.names.lookup y = _
    rw [hsc]
    exact hy
  have kf : ce.scope.kind = .function := by
    rw [hsc]
    exact hk
  refine wpAny_Compare1 (wpAny_Name (wpAny_loadName_local kf kx hL hm ?_) dx)
  refine Calls.Name_function_global kf ky (Calls.loadGlobal_global (mg := X.mg) (by rw [hgl]; exact hG) hg ?_) dy
  exact in_str ⟨congrArg Value.bool (PySem.StrLaws.found_one z c), keeps_refl _⟩
theorem pe_allM {X : Cx} {c P : Addr} {elt iter : Expr} {x : Str} {px p pos gpos : Pos} {sc : Scope} {pb : Nat → Bool} {te : TE} {k : Nat}
    (hr : Room k X.A) (hg : Gl X "all") (hm : X.mg "all" = none) (hb : bootBuiltins "all" = some (.builtin "all"))
    (TB : TabB X.base X.mg c P) (hc : X.env.code = .ref c) (S : GenS X.env sc x) (hi : PE X iter te) (hel : EltM X sc x elt pb)
    (hs : ∀ v, genFold iter X.env v = pure v)
    (he : starEach [.GeneratorExp elt [⟨.Name x px, iter, [], 0⟩] sc gpos] X.env = (false, eval (.GeneratorExp elt [⟨.Name x px, iter, [], 0⟩] sc gpos) X.env) :: starEach [] X.env := by rfl) :
    PE X (.Call (.Name "all" p) [.GeneratorExp elt [⟨.Name x px, iter, [], 0⟩] sc gpos] [] pos) (tAllS P pb te) := by
  refine ⟨fun pins s σ H Q I h => ?_⟩
  refine wpAny_Call_Name_kw (ld_blt I hg hm hb (callWith_builtin1 ?_ he (by rfl)))
  rw [he]
  refine Calls.spliced_cons ?_
  refine wpAny_GeneratorExp_walksQ hr.hd S.co (closure_ok S.free) S.cell S.dot S.loc S.kind (by have := hr.dp; omega) ?_ hs
  refine thn (hi.run pins s σ H _ I h) fun xv s1 w1 => ?_
  obtain ⟨v, H1, I1, r1, a, ev, ⟨ps, hP, ht⟩, hQ⟩ := w1
  subst ev
  obtain ⟨t, rfl⟩ := r1
  refine wpAny_pyIter_str fun ob Sg Wk hSg => ?_
  -- the table's object, the walked text's iterator
  have tab1 : s1.heap.get? P = some { cls := .none, data := .fields ps } := I1.hok P _ hP
  have below : ∀ {b : Addr} {u : Obj}, s1.heap.get? b = some u → b < s1.heap.objs.size := fun e => Heap.lt_size e
  have tab2 : (s1.heap.push ob).get? P = some { cls := .none, data := .fields ps } := Heap.get?_push_of_some _ tab1
  have hd := TB.code.keeps (h' := s1.heap.push ob) fun b u e => Heap.get?_push_of_some _ (I1.bk b u e)
  have glob2 : (s1.heap.push ob).Ns mainGlobals X.mg := (I1.mod.glob.keeps I1.bk).push ob
  have lim2 : (s1.heap.push ob).NoLimit := I1.nolimit.push ob
  have stat : cStatics < s1.heap.objs.size ∧ cStatics ≠ P := by
    obtain ⟨m, hn, _⟩ := I1.nolimit
    refine ⟨hn.lt, fun z => ?_⟩
    obtain ⟨o, es, ep, e, d, _⟩ := hn
    rw [z, tab1] at e
    cases e
    cases d
  have size2 : (s1.heap.push ob).objs.size = s1.heap.objs.size + 1 := Heap.size_push ..
  refine ⟨lim2, ?_⟩
  -- both ways: the expression's code is made now, or was made before
  have both : ∀ (R : Value → Shared → Prop), (∀ (cv : Value) (h3 : Heap) (tk : Nat) (more : Array Value), Heap.ExtBut P (s1.heap.push ob) h3 → s1.heap.objs.size < h3.objs.size →
      h3.get? P = some { cls := .none, data := .fields (ps ++ more) } → TriplesOk (ps ++ more).toList → R cv { s1 with heap := h3, toks := tk }) →
      wpAny (model X.prog X.w) X.A (genexprCode X.env gpos (X.env.qual ++ "<genexpr>") sc) R X.xe { s1 with heap := s1.heap.push ob } := by
    intro R hR
    cases q : codeAmong gpos ps.toList with
    | none =>
      refine wpAny_genexprCodeX hc (hd.code tab2 ht) (hd.tab tab2) q fun c2 h2 tk ext ge lt isC _ isT _ => ?_
      obtain ⟨_, _, _, _, _, _, _, _, _, _, _, _, _, _, _, _, _, _, _, trip, _⟩ := isC
      refine hR _ h2 tk _ ext ?_ isT.2 trip
      have ge' : s1.heap.objs.size + 1 ≤ c2 := by
        rw [← size2]
        exact ge
      exact Nat.lt_of_lt_of_le (Nat.lt_of_succ_le ge') (Nat.le_of_lt lt)
    | some cv =>
      refine wpAny_genexprCode_hit hc (hd.code tab2 ht) q (hR cv (s1.heap.push ob) s1.toks #[] (Heap.ExtBut.refl _ _) (by rw [size2]; exact Nat.lt_succ_self _) ?_ ?_)
      · rw [Array.append_empty]
        exact tab2
      · rw [Array.append_empty]
        exact ht
  refine both _ fun cv h3 tk more ext grow tab3 trip => ?_
  obtain ⟨bm, bo, b1, b2, b3, b4, b5, b6, b7, b8⟩ := TB.bm
  have old3 : ∀ b u, b ≠ P → s1.heap.get? b = some u → h3.get? b = some u := fun b u n e => ext b u n (Heap.get?_push_of_some _ e)
  have glob3 : h3.Ns mainGlobals X.mg := glob2.extBut ext TB.gP
  refine wpAny_builtinsFor (m := X.mg) (by rw [I1.ok.glob]; exact glob3) b1 b2 (old3 bm bo b4 (I1.bk _ _ b5)) b6 b7 b8 ?_
  have notIt : ∀ b u, s1.heap.get? b = some u → b ∉ [s1.heap.objs.size] := fun b u e m => by
    have e1 := List.mem_singleton.mp m
    rw [e1] at e
    exact Nat.lt_irrefl _ (below e)
  refine ⟨s1.heap.objs.size, [s1.heap.objs.size], [s1.heap.objs.size], a.cps.size, SignAt a, Sg, (fun _ => true),
    (fun i y => ∃ cc, a.cps[i]? = some cc ∧ y = .bool (pb cc)), rfl, Wk, ?_, ?_, lim2.extBut ext stat.2, ?_, ?_, ?_⟩
  · exact (Wk X.A hr.hd).frame _ _ _ hSg fun b m u e => ext b u (fun z => notIt P _ tab1 (z ▸ m)) e
  · intro b m
    rw [List.mem_singleton.mp m]
    exact grow
  · exact fun m => Nat.ne_of_lt stat.1 (List.mem_singleton.mp m)
  · intro href hh
    refine ⟨fun B Z i v s2 m2 _ _ _ _ _ => ?_, fun B Z i v s2 m2 _ hv _ hn hmx hk => ?_⟩
    · simp only [List.forIn_nil]
      exact wpAny_pure ⟨rfl, keeps_refl _⟩
    · obtain ⟨cc, u, hcc, rfl⟩ := hv
      have gobj : ∀ o, h3.get? mainGlobals = some o → s2.heap.get? mainGlobals = some o := fun o e =>
        hk mainGlobals (List.mem_range.mpr (Heap.lt_size e)) (by
          have g1 := I1.mod.glob.keeps I1.bk
          obtain ⟨o1, _, _, e1, _⟩ := g1
          exact notIt _ _ e1) o (hh _ _ e)
      refine wpAny_mono (hel _ B Z cc u s2 m2 rfl I1.ok.glob (glob3.at gobj) hn hmx) (fun y s3 r => ⟨⟨cc, hcc, r.1⟩, r.2⟩) fun _ _ e => e
  · intro g h5 tk5 gs bare above size5 keep5 W5 at5
    simp only [GxR.passing_true, List.length_range] at W5
    refine Calls.spliced_nil (call_all_walkS (W5.in4_1.self 0 _ _ _ at5 ⟨g, _, _, _, _, _, _, trF pb a.cps.toList, rfl, W5.in4_1, at5, ?_, fun s' mv => ?_⟩))
    · intro j y sj Qj Ej hy hq
      obtain ⟨i, hij, cc, hcc, rfl⟩ := hy
      obtain ⟨hj, ej⟩ := List.getElem?_eq_some_iff.mp hij
      rw [List.getElem_range] at ej
      subst ej
      have e9 : a.cps.toList[j]? = some cc := by
        rw [Array.getElem?_toList]
        exact hcc
      have hq2 : Qj (trF pb a.cps.toList j) sj := hq
      rw [trF_some e9] at hq2
      exact wpAny_truthy_bool hq2
    · have free : ∀ b u, s1.heap.get? b = some u → b ∉ h3.objs.size :: [s1.heap.objs.size] := fun b u e m => by
        rcases List.mem_cons.mp m with z | z
        · have l := below e
          rw [z] at l
          exact Nat.lt_irrefl _ (Nat.lt_trans l grow)
        · exact notIt b u e z
      have J := inv_tab (more := more) (h' := s'.heap) (g' := s'.gens) (d' := s'.drawn) (t' := s'.toks) I1 hP
        (fun b u n e => mv.heap b u (free b u e) (keep5 b u (old3 b u n e))) (mv.heap P _ (free P _ tab1) (keep5 P _ tab3)) (AllBare.movedS (I1.bare.push bare) mv)
      rw [sh_eta s1 s' mv.os] at J
      refine ⟨.bl _, _, J, rfl, ?_⟩
      rw [all_signs a pb]
      exact hQ _ ⟨⟨ps ++ more, upd_same, trip⟩, fun b n => upd_ne n⟩
end K0G

/-! Numbers in texts; heaps with a table. -/
namespace C1
open PySem PySem.Spec PyProof.Rows L2 SX
open K0 (Cs digs isNum)
open GxR (TabG Tabbed TabB GenS)
abbrev sIsNum : Stmt := topS 28
abbrev sIsShort : Stmt := topS 29
theorem scIsNum : FnScope ["text"] ["text"] (defScope sIsNum) := ⟨rfl, rfl, rfl, by decide +kernel, rfl, by decide +kernel, by decide +kernel⟩
theorem scIsShort : FnScope ["text"] ["text"] (defScope sIsShort) := ⟨rfl, rfl, rfl, by decide +kernel, rfl, by decide +kernel, by decide +kernel⟩
structure Gr (P : Addr) (H H' : Hp) : Prop where
  tab : TabG H' P
  old : ∀ b o, b ≠ P → H b = some o → H' b = some o
section
variable {P : Addr} {H H1 H2 : Hp}
theorem Gr.refl (t : TabG H P) : Gr P H H := ⟨t, fun _ _ _ e => e⟩
theorem Gr.trans (a : Gr P H H1) (b : Gr P H1 H2) : Gr P H H2 := ⟨b.tab, fun c o n e => b.old c o n (a.old c o n e)⟩
theorem Gr.of (t : Tabbed P H H1) : Gr P H H1 := ⟨t.1, fun b o n e => by rw [t.2 b n]; exact e⟩
theorem tab_ne (t : TabG H P) {p : Addr} (n : H p = none) : p ≠ P := fun z => by
  obtain ⟨ps, e, _⟩ := t
  rw [z, e] at n
  cases n
theorem tab_is (t : TabG H P) {p : Addr} {o : HO} (e : H p = some o) (d : ∀ ps, o ≠ .tbl ps) : p ≠ P := fun z => by
  obtain ⟨ps, e2, _⟩ := t
  rw [z, e2] at e
  exact d ps (Option.some.inj e).symm
theorem Gr.laid (t : TabG H P) {p : Addr} {o : HO} (n : H p = none) : Gr P H (upd H p o) := by
  have np := tab_ne t n
  obtain ⟨ps, e, r⟩ := t
  exact ⟨⟨ps, by rw [upd_ne np.symm]; exact e, r⟩, fun b u _ hb => by rw [upd_ne (ne_of_none hb n)]; exact hb⟩
theorem Gr.at (g : Gr P H H1) (t : TabG H P) {p : Addr} {o : HO} (e : H p = some o) (d : ∀ ps, o ≠ .tbl ps) : H1 p = some o := g.old p o (tab_is t e d) e
theorem Gr.none (g : Gr P H H1) (t : TabG H P) {p : Addr} (n : H1 p = none) : H p = none := by
  have np := tab_ne g.tab n
  cases e : H p with
  | none => rfl
  | some o =>
    rw [g.old p o np e] at n
    cases n
theorem Gr.seqT (g : Gr P H H1) (t : TabG H P) {K : PySem.W.Frag} {a : Addr} {xs : List V} (h : SqT K H a xs) : SqT K H1 a xs := by
  rcases h with (h | ⟨o, h⟩) | h
  · exact .inl (.inl (g.at t h (fun ps z => by cases z)))
  · exact .inl (.inr ⟨o, g.at t h (fun ps z => by cases z)⟩)
  · exact .inr h
theorem Gr.seqL (g : Gr P H H1) (t : TabG H P) {K : PySem.W.Frag} {a : Addr} {xs : List V} (h : SqL K H a xs) : SqL K H1 a xs := by
  rcases h with (h | ⟨o, h⟩) | h
  · exact .inl (.inl (g.at t h (fun ps z => by cases z)))
  · exact .inl (.inr ⟨o, g.at t h (fun ps z => by cases z)⟩)
  · exact .inr h
end
theorem beq_S (a b : Cs) : (V.str (S a) = V.str (S b)) ↔ a = b := ⟨fun e => S_inj (V.str.inj e), fun e => by rw [e]⟩
theorem at_S {t : Cs} {i : Nat} {c : Nat} (h : t[i]? = some c) : atI (S t).cps.toList ((i : Nat) : Int) = some c := atI_nat (j := i) h
theorem len_S {t : Cs} (h : t.length ≤ sizeLine) : (S t).length ≤ sizeLine := by
  rw [S_len]
  exact h
theorem dec_sig {c k : Nat} {x : Str} (hx : x = S [k]) : decide (V.str ⟨#[c]⟩ = V.str x) = decide (c = k) := by
  subst hx
  by_cases h : c = k
  · subst h
    rw [decide_eq_true rfl, decide_eq_true rfl]
  · rw [decide_eq_false h, decide_eq_false (fun z => h (by
      have z2 := S_inj (a := [c]) (b := [k]) (V.str.inj z)
      exact (List.cons.inj z2).1))]
theorem dec_S {a b : Cs} {x : Str} (hx : x = S b) : decide (V.str (S a) = V.str x) = decide (a = b) := by
  subst hx
  by_cases h : a = b
  · subst h
    rw [decide_eq_true rfl, decide_eq_true rfl]
  · rw [decide_eq_false h, decide_eq_false (fun z => h (S_inj (V.str.inj z)))]
theorem of_sig {c k : Nat} {x : Str} (hx : x = S [k]) (e : decide (V.str ⟨#[c]⟩ = V.str x) = true) : c = k := by
  rw [dec_sig hx] at e
  exact of_decide_eq_true e
theorem not_sig {c k : Nat} {x : Str} (hx : x = S [k]) (e : ¬ decide (V.str ⟨#[c]⟩ = V.str x) = true) : c ≠ k := fun z => by
  rw [dec_sig hx, decide_eq_true z] at e
  exact e rfl
theorem noFree : ∀ y ∈ ([((".0" : Str), NameKind.local), ("sign", .local), ("DIGITS", .globalImplicit)] : List (Str × NameKind)), y.2 ≠ .free := by decide +kernel
section
variable {P : Program} {w : World} {K : PySem.W.Frag} {mg : Str → Option Value} {base : Heap} {T : Addr}
def spNum (T : Addr) : Sp := fun vs H Q _ => ∃ t : Cs, vs = [.str (S t)] ∧ t.length ≤ sizeLine ∧ TabG H T ∧ ∀ H', Gr T H H' → Q (.bl (isNum t)) H'
theorem ok_isnum {f cP : Addr} {fd : FuncData} {oc : Value} {od an : Option Addr} {osl : Array (Option Value)} {kV doc pm ct : Value} {tk : Tok}
    (lk : K.lookup f = some ⟨oc, od, .func (PySem.W.fnOf "is_number" "is_number" (defArgs sIsNum) (defBody sIsNum) (defScope sIsNum) .none kV doc pm an (.ref cP) ct), osl⟩) (hcd : PySem.W.codeIn K (.ref cP) "is_number" = true)
    (gD : mg "DIGITS" = some (.str (Str.ofString "0123456789") tk)) (ma : mg "all" = none) (TB : TabB base mg cP T) :
    FnOk P w K mg base CX0 1 f (PySem.W.fnOf "is_number" "is_number" (defArgs sIsNum) (defBody sIsNum) (defScope sIsNum) .none kV doc pm an (.ref cP) ct) ["text"] (spNum T) := by
  refine fn_of lk hcd scIsNum (fun vs H Q E h => ?_) fun A outer s H vs Q E hr h => ?_
  · obtain ⟨t, rfl, _⟩ := h
    rfl
  · obtain ⟨t, rfl, hl, tb, q⟩ := h
    refine ⟨_, pss_cons (ps_if (PW.pt (pw_or (pt_not (pt_truth (pv 0) (by intro _; rfl))) (pw_or1 (PW.pt (pw_and (pt_cmpR op_eq (pe_ix ix_str (pv 0) pe_int (fun _ _ => rfl)) pe_str (nomark _)) (pw_and1 (pt_cmpR op_ne (pv 0) pe_str (nomark _))))))))
        (pss_one (ps_ret pe_bl)) pss_nil)
      (pss_one (ps_ret (K0G.pe_allM (pb := fun c => decide (c ∈ digs)) hr (by rfl) ma (by decide +kernel) TB rfl ⟨rfl, rfl, by decide +kernel, rfl, rfl, fun y hy e => absurd e (noFree y hy)⟩ (pv 0) (K0G.elt_in rfl rfl rfl gD (by decide) (by decide)) (by intro v; rfl)))), ?_⟩
    refine ⟨_, rfl, _, ⟨len_S hl, rfl⟩, ?_⟩
    rw [S_len]
    cases t with
    | nil =>
      refine iteT ?_
      refine iteT ?_
      exact q H (Gr.refl tb)
    | cons c r =>
      have hk : (((c :: r).length : Int) != 0) = true := by
        rw [List.length_cons]
        simp
        omega
      rw [hk]
      refine iteF ?_
      have last : ¬ (c = 48 ∧ r ≠ []) → tRet (GxR.tAllS T (fun c => decide (c ∈ digs)) (tVar 0)) { nx := fun x H' => Q V.non H', rt := Q } (L2.start ["text"] [V.str (S (c :: r))]) H := fun n => by
        refine ⟨_, rfl, S (c :: r), rfl, tb, fun H2 t2 => ?_⟩
        have e := q H2 (Gr.of t2)
        have e2 : isNum (c :: r) = (S (c :: r)).cps.toList.all fun c => decide (c ∈ digs) := if_neg n
        rw [e2] at e
        exact e
      refine ⟨_, rfl, _, _, c, rfl, rfl, len_S hl, at_S (i := 0) rfl, rfl, _, rfl, ite2 (fun e => ?_) (fun e => ?_)⟩
      · have hc := of_sig (k := 48) rfl e
        refine ⟨_, rfl, rfl, _, rfl, ite2 (fun e2 => ?_) (fun e2 => ?_)⟩
        · have hr2 : r ≠ [] := fun z => by
            subst z
            subst hc
            exact absurd e2 (by decide)
          have e3 := q H (Gr.refl tb)
          have e4 : isNum (c :: r) = false := if_pos ⟨hc, hr2⟩
          rw [e4] at e3
          exact e3
        · refine last fun z => ?_
          rw [dec_S (b := [48]) (x := "0") rfl, decide_eq_false (fun y => z.2 (List.cons.inj y).2)] at e2
          exact e2 rfl
      · refine iteF (last fun z => not_sig (k := 48) rfl e z.1)
def spShort (T : Addr) : Sp := fun vs H Q _ => ∃ t : Cs, vs = [.str (S t)] ∧ t.length ≤ sizeLine ∧ TabG H T ∧ ∀ H', Gr T H H' → Q (.bl (decide (t.length ≤ 10) && isNum t)) H'
theorem ok_short {f fN : Addr} {fd fdN : FuncData} (F : Fun K "is_short_number" "is_short_number" sIsShort f fd) (GN : FnOk P w K mg base CX0 1 fN fdN ["text"] (spNum T)) (kN : PySem.W.keepIn K (.ref fN) = true) (bN : Binds K fdN ["text"] [])
    (gN : mg "is_number" = some (.ref fN)) (ml : mg "len" = none) : FnOk P w K mg base CX0 2 f fd ["text"] (spShort T) := by
  refine F.ok scIsShort (fun vs H Q E h => ?_) (fun cdv A outer s H vs Q E hr h => ?_)
  · obtain ⟨t, rfl, _⟩ := h
    rfl
  · obtain ⟨t, rfl, hl, tb, q⟩ := h
    refine ⟨_, pss_one (ps_ret (pe_and (pe_cmpR op_le (pe_callB call_len_str (by rfl) ml PySem.boot_len (pa_cons (pv 0) pa_nil)) pe_int (nomark _)) (pe_one (pe_call GN hr (by rfl) gN kN bN .nil pass0 (pa_cons (pv 0) pa_nil))))), ?_⟩
    refine ⟨_, rfl, _, rfl, len_S hl, _, _, rfl, rfl, _, rfl, ite2 (fun e => ?_) (fun e => ?_)⟩
    · refine ⟨_, rfl, t, rfl, hl, tb, fun H' g => ?_⟩
      have e2 := of_decide_eq_true e
      rw [S_len] at e2
      have z := q H' g
      rw [decide_eq_true (show t.length ≤ 10 by omega)] at z
      exact z
    · have z := q H (Gr.refl tb)
      rw [S_len] at e
      rw [decide_eq_false (show ¬ t.length ≤ 10 from fun y => e (decide_eq_true (by omega)))] at z
      exact z
theorem isNum_all {t : Cs} (h : isNum t = true) : t ≠ [] ∧ t.all (fun c => decide (48 ≤ c) && decide (c ≤ 57)) = true := by
  cases t with
  | nil => cases h
  | cons c r =>
    refine ⟨List.cons_ne_nil _ _, ?_⟩
    unfold isNum at h
    simp only [] at h
    split at h
    · cases h
    · rw [List.all_eq_true] at h ⊢
      intro x hx
      have h1 : x ∈ digs := of_decide_eq_true (h x hx)
      have h2 : ∀ d ∈ digs, (decide (48 ≤ d) && decide (d ≤ 57)) = true := by decide +kernel
      exact h2 x h1
end
end C1

/-! Numbers of a line. -/
namespace C1
open PySem PySem.Spec PyProof.Rows L2 SX
open K0 (Cs digs isNum)
open GxR (TabG Tabbed TabB GenS)
abbrev sReadNumbers : Stmt := topS 46
theorem scReadNumbers : FnScope ["parts", "many", "part"] ["parts", "many"] (defScope sReadNumbers) := ⟨rfl, rfl, rfl, by decide +kernel, rfl, by decide +kernel, by decide +kernel⟩
abbrev NRN : List Str := ["parts", "many", "part"]
abbrev rIntS : List V → Hp → VK → Prop := fun xs H Q => ∃ (a : Str) (n : Int), xs = [.str a] ∧ PySem.intText? a = some n ∧ a.length ≤ 640 ∧ Q (.int n) H
abbrev cs (x : Str) : Cs := x.cps.toList
def numB (x : Str) : Bool := decide ((cs x).length ≤ 10) && isNum (cs x)
def numV (x : Str) : Nat := NumText.digitsVal (cs x)
def numsS (xs : List Str) : Option (List Nat) := if xs.all numB = true then some (xs.map numV) else none
def numsM (m : Option Nat) (xs : List Str) : Option (List Nat) := match m with
  | none => numsS xs
  | some k => if xs.length = k then numsS xs else none
def mV : Option Nat → V
  | none => .non
  | some k => iV k
structure BT (mg : Str → Option Value) : Prop where
  len : mg "len" = none
  all : mg "all" = none
  tuple : mg "tuple" = none
  int : mg "int" = none
theorem iteF' {b : Bool} {A B : Prop} (hb : b = false) (h : B) : if b = true then A else B := by
  rw [hb]
  exact iteF h
theorem iteT' {b : Bool} {A B : Prop} (hb : b = true) (h : A) : if b = true then A else B := by
  rw [hb]
  exact iteT h
theorem line200 {n : Nat} (h : n ≤ 1000) : n ≤ sizeLine := by
  rw [sizeLine_eq]
  omega
theorem lineS200 {n : Nat} (h : n ≤ 1000) : n < sizeLine := by
  rw [sizeLine_eq]
  omega
theorem take_snoc {α : Type} {l : List α} {i : Nat} {x : α} (h : l[i]? = some x) : l.take (i + 1) = l.take i ++ [x] := by
  rw [List.take_add_one, h]
  rfl
theorem str_at {xs : List Str} {i : Nat} {v : V} (h : (xs.map V.str)[i]? = some v) : ∃ x, xs[i]? = some x ∧ v = .str x := by
  rw [List.getElem?_map] at h
  cases e : xs[i]? with
  | none =>
    rw [e] at h
    cases h
  | some x =>
    rw [e] at h
    cases h
    exact ⟨x, rfl, rfl⟩
theorem num_int {x : Str} (h : numB x = true) : intText? x = some ((numV x : Nat) : Int) ∧ x.length ≤ 640 := by
  unfold numB at h
  rw [Bool.and_eq_true, decide_eq_true_eq] at h
  obtain ⟨hne, hall⟩ := isNum_all h.2
  have hi := int_S hall hne (by omega)
  rw [S_tl] at hi
  refine ⟨hi, ?_⟩
  show x.cps.size ≤ 640
  have := h.1
  rw [Array.length_toList] at this
  omega
section
variable {P : Program} {w : World} {K : PySem.W.Frag} {mg : Str → Option Value} {base : Heap} {T : Addr} {H : Hp}
def spRNum (K : PySem.W.Frag) (T : Addr) : Sp := fun vs H Q _ => ∃ (p : Addr) (xs : List Str) (m : Option Nat), vs = [.ref p, mV m] ∧ SqL K H p (xs.map V.str) ∧ (∀ x ∈ xs, x.cps.size ≤ 100000) ∧ xs.length ≤ 900 ∧ TabG H T ∧
  (∀ H', Gr T H H' → numsM m xs = none → Q .non H') ∧ ∀ H' t ns, Gr T H H' → numsM m xs = some ns → SqT K H' t (ns.map iV) → Q (.ref t) H'
theorem ok_readNums {f fS : Addr} {fd fdS : FuncData} (F : Fun K "read_numbers" "read_numbers" sReadNumbers f fd) (B : BT mg) (GS : FnOk P w K mg base CX0 2 fS fdS ["text"] (spShort T)) (kS : PySem.W.keepIn K (.ref fS) = true) (bS : Binds K fdS ["text"] []) (gS : mg "is_short_number" = some (.ref fS)) :
    FnOk P w K mg base CX0 3 f fd ["parts", "many"] (spRNum K T) := by
  refine F.ok scReadNumbers (fun vs H Q E h => ?_) (fun cdv A outer s H vs Q E hr h => ?_)
  · obtain ⟨p, xs, m, rfl, _⟩ := h
    rfl
  · obtain ⟨p, xs, m, rfl, hp, hx, hl, tb, qn, qs⟩ := h
    have nd := scReadNumbers.nd
    refine ⟨_, (C8.pss_cut (ps_if (PW.pt (pw_and (pt_cmpR op_notN (pv 1) (pe_non) (nomark _)) (pw_and1 (pt_cmpR op_ne (pe_callB call_len_seq (by rfl) B.len PySem.boot_len (pa_cons (pv 0) pa_nil)) (pv 1) (nomark _))))) (pss_one (ps_ret (pe_non))) pss_nil)
      (pss_cons (ps_if (pt_not (pt_val (pe_callB (cr_all rfl) (by rfl) B.all (by decide +kernel) (pa_cons (pe_lc (own := [("part", 2)]) (g := gName 2) (tt := tYes) (te := tCall (spShort T) [] E0 (tCons (tVar 2) tNil))  rfl nd (pi_list (pv 0)) (blkOk_by (own := [("part", 2)]) (N := NRN) (sc := defScope sReadNumbers) (by decide +kernel)) (fun _ _ _ _ _ => pg_name (i := 2) nd rfl (.inl rfl)) (fun _ _ _ _ _ => pts_nil) (fun _ _ _ _ _ => by exact (pe_call GS hr (by rfl) gS kS bS .nil pass0 (pa_cons (pv 2) pa_nil)))) pa_nil)))) (pss_one (ps_ret (pe_non))) pss_nil)
      (pss_one (ps_ret (pe_callTy call_tuple_of (by rfl) B.tuple (by decide +kernel) (pa_cons (pe_lc (own := [("part", 2)]) (g := gName 2) (tt := tYes) (te := tCB rIntS (tCons (tVar 2) tNil))  rfl nd (pi_list (pv 0)) (blkOk_by (own := [("part", 2)]) (N := NRN) (sc := defScope sReadNumbers) (by decide +kernel)) (fun _ _ _ _ _ => pg_name (i := 2) nd rfl (.inl rfl)) (fun _ _ _ _ _ => pts_nil) (fun _ _ _ _ _ => by exact (pe_callTy call_int_str (by rfl) B.int (by decide +kernel) (pa_cons (pv 2) pa_nil)))) pa_nil)))))), ?_⟩
    refine ⟨fun σ H' => σ = [some (.ref p), some (mV m), none] ∧ H' = H ∧ numsM m xs = numsS xs, ?_, ?_⟩
    · refine ⟨_, rfl, rfl, _, rfl, ?_⟩
      cases m with
      | none => exact iteF ⟨rfl, rfl, rfl⟩
      | some k =>
        refine iteT ?_
        refine ⟨_, rfl, _, _, rfl, .inl hp, _, rfl, rfl, _, rfl, ?_⟩
        rw [List.length_map]
        by_cases hk : xs.length = k
        · refine iteF' ?_ ⟨rfl, rfl, if_pos hk⟩
          rw [decide_eq_true (by rw [hk]; rfl)]
          rfl
        · refine iteT' ?_ (qn H (Gr.refl tb) (if_neg hk))
          rw [decide_eq_false (fun z => hk (by have := V.int.inj z; omega))]
          rfl
    rintro σ H1 ⟨rfl, rfl, em⟩
    rw [em] at qn qs
    refine ⟨_, rfl, p, rfl, ⟨_, hp⟩, fun D nD => ?_⟩
    refine lc_list (xs := xs.map V.str) (fun i H2 => Gr T H1 H2 ∧ H2 D = some (.lst (((xs.take i).map numB).map V.bl))) ⟨Gr.laid tb nD, upd_same⟩ (fun i H2 _ h => h.1.seqL tb hp) (fun i v H2 hv h => ?_) (fun H2 h => ?_)
    · obtain ⟨g, e⟩ := h
      obtain ⟨x, ex, rfl⟩ := str_at hv
      have hil : i < xs.length := (List.getElem?_eq_some_iff.mp ex).1
      refine ⟨rfl, _, rfl, cs x, by rw [S_tl]; rfl, ?_, g.tab, fun H3 g3 => ?_⟩
      · rw [Array.length_toList]
        have := hx x (List.mem_of_getElem? ex)
        rw [sizeLine_eq]
        omega
      · have e3 := g3.at g.tab e (fun ps z => by cases z)
        refine ⟨_, e3, ?_, ?_, ?_⟩
        · rw [List.length_map, List.length_map, List.length_take]
          exact lineS200 (by omega)
        · have nDT := tab_ne tb nD
          refine ⟨?_, fun b o hb he => ?_⟩
          · obtain ⟨ps, ep, r⟩ := (g.trans g3).tab
            exact ⟨ps, by rw [upd_ne nDT.symm]; exact ep, r⟩
          · rw [upd_ne (ne_of_none he nD)]
            exact (g.trans g3).old b o hb he
        · rw [upd_same, take_snoc ex, List.map_append, List.map_append]
          rfl
    · obtain ⟨g, e⟩ := h
      rw [List.length_map, List.take_length] at e
      have hp2 := g.seqL tb hp
      refine ⟨D, _, rfl, SqL.of e, _, rfl, ?_⟩
      have ea : (xs.map numB).all id = xs.all numB := by
        rw [List.all_map]
        rfl
      rw [ea]
      cases ha : xs.all numB with
      | false => exact iteT (qn H2 g (by unfold numsS; rw [ha]; rfl))
      | true =>
        refine iteF ?_
        have hall := List.all_eq_true.mp ha
        refine ⟨_, rfl, p, rfl, ⟨_, hp2⟩, fun D2 nD2 => ?_⟩
        refine lc_list (xs := xs.map V.str) (fun i H3 => H3 = upd H2 D2 (.lst (((xs.take i).map numV).map iV))) rfl (fun i H3 _ h => ?_) (fun i v H3 hv h => ?_) (fun H3 h => ?_)
        · subst h
          exact (Gr.laid g.tab nD2).seqL g.tab hp2
        · subst h
          obtain ⟨x, ex, rfl⟩ := str_at hv
          have hil : i < xs.length := (List.getElem?_eq_some_iff.mp ex).1
          obtain ⟨hi, h6⟩ := num_int (hall x (List.mem_of_getElem? ex))
          refine ⟨rfl, _, rfl, x, _, rfl, hi, h6, _, upd_same, ?_, ?_⟩
          · rw [List.length_map, List.length_map, List.length_take]
            exact lineS200 (by omega)
          · rw [upd_upd, take_snoc ex, List.map_append, List.map_append]
            rfl
        · subst h
          rw [List.length_map, List.take_length]
          refine ⟨D2, _, rfl, .inl ⟨SqL.of upd_same, fun t nt => ?_⟩⟩
          have g4 := g.trans ((Gr.laid g.tab nD2).trans (Gr.laid (o := .tup ((xs.map numV).map iV)) (Gr.laid (o := .lst ((xs.map numV).map iV)) g.tab nD2).tab nt))
          exact qs _ t (xs.map numV) g4 (by unfold numsS; rw [ha]; rfl) (SqT.of upd_same)
end
end C1

/-! The law's numbers of a line. -/
namespace C1
open PySem PySem.Spec PyProof.Rows L2 SX
open K0 (Cs digs isNum)
open GxR (TabG Tabbed TabB GenS)
abbrev sLawNumber : Stmt := topS 55
theorem scLawNumber : FnScope ["text", "sign"] ["text"] (defScope sLawNumber) := ⟨rfl, rfl, rfl, by decide +kernel, rfl, by decide +kernel, by decide +kernel⟩
abbrev NLN : List Str := ["text", "sign"]
abbrev rNotInSign : R2 := fun x y H Q => ∃ (c : Nat) (z : Str), x = .str ⟨#[c]⟩ ∧ y = .str z ∧ Q (.bl (!decide (c ∈ z.cps.toList))) H
abbrev sgn (c : Nat) : V := .str ⟨#[c]⟩
abbrev sgD (c : Nat) : PyData := .str ⟨#[c]⟩
def asc (x : Str) : Prop := ∀ c ∈ cs x, c < 128
section
variable {P : Program} {w : World} {K : PySem.W.Frag} {mg : Str → Option Value} {base : Heap} {T : Addr} {H : Hp}
theorem lc_strF {x : Str} {pb : Nat → Bool} {D : Addr} {σ : L2.St} {wv : List Nat} {j : Nat} {tt : TT} {Qd : Hp → Prop} (hz : x.cps.size ≤ 100000)
    (ht : ∀ c H1 (R : Bool → Hp → Prop), R (pb c) H1 → tt ((wipe σ wv).set j (some (sgn c))) H1 R)
    (hσ : ∀ v, ((wipe σ wv).set j (some v))[j]? = some (some v) ∧ wipe ((wipe σ wv).set j (some v)) wv = wipe σ wv) (q : Qd (upd H D (.lst (((cs x).filter pb).map sgn)))) :
    ∃ W : Nat → Nat → Hp → Prop, (∃ m, W 0 m (upd H D (.lst []))) ∧ ∀ i m H, W i m H →
      ((Its x).stop i H ∧ Qd H) ∨ ((Its x).go i H ∧ ∃ Nx : Hp → Prop, (∀ H', Nx H' → ∃ m', m' < m ∧ W (i + 1) m' H') ∧ ∀ v H', (Its x).yld i H v H' → gName j v (wipe σ wv) H' fun σ2 H2 => wipe σ2 wv = wipe σ wv ∧ tt σ2 H2 fun b H3 =>
        if b = true then tVar j σ2 H3 fun y H4 => ∃ acc, H4 D = some (.lst acc) ∧ acc.length < sizeLine ∧ Nx (upd H4 D (.lst (acc ++ [y]))) else Nx H3) := by
  refine ⟨fun i m H1 => m = x.cps.size - i ∧ i ≤ x.cps.size ∧ H1 = upd H D (.lst ((((cs x).take i).filter pb).map sgn)), ⟨_, rfl, Nat.zero_le _, rfl⟩, ?_⟩
  rintro i m H1 ⟨rfl, hi, rfl⟩
  by_cases hlt : i < x.cps.size
  · refine .inr ⟨hlt, fun H2 => H2 = upd H D (.lst ((((cs x).take (i + 1)).filter pb).map sgn)), fun H' h => ⟨x.cps.size - (i + 1), by omega, rfl, by omega, h⟩, fun v H' y => ?_⟩
    obtain ⟨rfl, c, hc, rfl⟩ := y
    have ec : (cs x)[i]? = some c := by
      show x.cps.toList[i]? = some c
      rw [Array.getElem?_toList]
      exact hc
    refine ⟨(hσ _).2, ht c _ _ ?_⟩
    cases hb : pb c with
    | false =>
      show _ = _
      rw [take_snoc ec, List.filter_append, List.filter_cons_of_neg (by rw [hb]; decide), List.filter_nil, List.append_nil]
    | true =>
      refine ⟨_, (hσ _).1, _, upd_same, ?_, ?_⟩
      · rw [List.length_map, sizeLine_eq]
        have h1 := List.length_filter_le pb ((cs x).take i)
        rw [List.length_take] at h1
        omega
      · rw [upd_upd, take_snoc ec, List.filter_append, List.filter_cons_of_pos hb, List.filter_nil, List.map_append]
        rfl
  · have e : i = x.cps.size := by omega
    subst e
    refine .inl ⟨Nat.le_refl _, ?_⟩
    have : (cs x).take x.cps.size = cs x := List.take_of_length_le (by rw [Array.length_toList]; exact Nat.le_refl _)
    rw [this]
    exact q
theorem dps_sgn : ∀ l : List Nat, DpAll K H (l.map sgn) (l.map sgD)
  | [] => .nil
  | c :: l => .cons (.str _) (dps_sgn l)
def lnV (x : Str) : Int := if numB x = true then ((numV x : Nat) : Int) else -1
def spLNum : Sp := fun vs H Q _ => ∃ x : Str, vs = [.str x] ∧ asc x ∧ x.cps.size ≤ 100000 ∧ ∀ H', Same H H' → Q (.int (lnV x)) H'
theorem ok_lnumber {f : Addr} {fd : FuncData} (F : Fun K "_law_number" "_law_number" sLawNumber f fd) (B : BT mg) : FnOk P w K mg base CX0 1 f fd ["text"] spLNum := by
  refine F.ok scLawNumber (fun vs H Q E h => ?_) (fun cdv A outer s H vs Q E hr h => ?_)
  · obtain ⟨x, rfl, _⟩ := h
    rfl
  · obtain ⟨x, rfl, ha, hz, q⟩ := h
    obtain ⟨t, rfl⟩ : ∃ t : Cs, x = S t := ⟨cs x, (S_tl x).symm⟩
    have nd := scLawNumber.nd
    have hu := hr.units
    have hl : t.length ≤ sizeLine := by
      rw [sizeLine_eq]
      have : t.length ≤ 100000 := hz
      omega
    have eB : numB (S t) = (decide (t.length ≤ 10) && isNum t) := rfl
    have qf : numB (S t) = false → ∀ H', Same H H' → Q (.int (-1)) H' := fun e H' s => by
      have := q H' s
      unfold lnV at this
      rw [e] at this
      exact this
    refine ⟨_, (C8.pss_cut (ps_if (PW.pt (pw_or (pt_cmpR op_eq (pv 0) (pe_str) (nomark _)) (pw_or (pt_cmpR (op_neD hu) (pe_lc (own := [("sign", 1)]) (g := gName 1) (tt := tTest (tOp rNotInSign (tVar 1) (tC (.str "0123456789")))) (te := tVar 1)  rfl nd (pi_str (pv 0)) (blkOk_by (own := [("sign", 1)]) (N := NLN) (sc := defScope sLawNumber) (by decide +kernel)) (fun _ _ _ _ _ => pg_name (i := 1) nd rfl (.inl rfl)) (fun _ _ _ _ _ => pts_one (pt_cmpR op_notIn_sign (pv 1) (pe_str) rfl)) (fun _ _ _ _ _ => by exact (pv 1))) (pe_lst pa_nil) (nomark _)) (pw_or (PW.pt (pw_and (pt_cmpR op_eq (pe_ix ix_str (pv 0) (pe_int) (fun _ _ => rfl)) (pe_str) (nomark _)) (pw_and1 (pt_cmpR op_ne (pv 0) (pe_str) (nomark _))))) (pw_or1 (pt_cmpR op_gt (pe_callB call_len_str (by rfl) B.len PySem.boot_len (pa_cons (pv 0) pa_nil)) (pe_int) (nomark _))))))) (pss_one (ps_ret (pe_un un_neg pe_int))) pss_nil)
      (pss_one (ps_ret (pe_callTy call_int_str (by rfl) B.int (by decide +kernel) (pa_cons (pv 0) pa_nil))))), ?_⟩
    refine ⟨fun σ H' => σ = [some (.str (S t)), none] ∧ Same H H' ∧ numB (S t) = true, ?_, ?_⟩
    · refine ⟨_, rfl, rfl, _, rfl, ?_⟩
      rw [dec_S (b := []) (x := "") rfl]
      cases t with
      | nil => exact iteT ⟨_, rfl, qf rfl H (Same.refl H)⟩
      | cons c r =>
        refine iteF ?_
        have isN : ∀ (n : ¬ (c = 48 ∧ r ≠ [])), isNum (c :: r) = (c :: r).all fun d => decide (d ∈ digs) := fun n => if_neg n
        refine ⟨_, rfl, _, rfl, fun D nD => ?_⟩
        refine lc_strF (x := S (c :: r)) (pb := fun c => !decide (c ∈ digs)) hz (fun c H1 R k => ⟨_, rfl, c, _, rfl, rfl, _, rfl, k⟩) (fun v => ⟨rfl, rfl⟩) ?_
        refine ⟨Nat.zero_le _, fun z nz => ?_⟩
        have sD : Same H (upd (upd H D (.lst ((((c :: r).filter fun c => !decide (c ∈ digs))).map sgn))) z (.lst [])) := (Same.up nD).trans (Same.up nz)
        have eD := (Same.up (o := .lst []) nz) D _ (upd_same (H := H) (a := D) (o := .lst ((((c :: r).filter fun c => !decide (c ∈ digs))).map sgn)))
        refine ⟨.list (((c :: r).filter fun c => !decide (c ∈ digs)).map sgD), .list [], .lst (SqL.of eD) (dps_sgn _), .lst (SqL.of upd_same) .nil, shaped_list _ (fun d hd => ?_), shaped_list [] (fun d hd => by cases hd), _, rfl, ?_⟩
        · obtain ⟨k, hk, rfl⟩ := List.mem_map.mp hd
          have h1 := ha k (List.mem_filter.mp hk).1
          refine ⟨?_, Nat.zero_le _⟩
          show (Array.all #[k] fun c => decide (c < 0x110000)) = true
          simp
          omega
        rw [eqv_nil]
        by_cases hall : ∀ k ∈ c :: r, k ∈ digs
        · have e0 : (c :: r).filter (fun c => !decide (c ∈ digs)) = [] := List.filter_eq_nil_iff.mpr fun k hk => by rw [decide_eq_true (hall k hk)]; decide
          have hA : (c :: r).all (fun d => decide (d ∈ digs)) = true := List.all_eq_true.mpr fun k hk => decide_eq_true (hall k hk)
          generalize hH : (upd (upd H D (.lst ((((c :: r).filter fun c => !decide (c ∈ digs))).map sgn))) z (.lst [])) = H2 at sD
          rw [e0]
          refine iteF ?_
          refine ⟨_, rfl, _, _, c, rfl, rfl, len_S hl, at_S (i := 0) rfl, rfl, _, rfl, ?_⟩
          rw [dec_sig (k := 48) (x := "0") rfl]
          by_cases hc : c = 48
          · rw [decide_eq_true hc]
            refine iteT ?_
            refine ⟨_, rfl, rfl, _, rfl, ?_⟩
            rw [dec_S (b := [48]) (x := "0") rfl]
            by_cases hr2 : r = []
            · refine iteF' (by rw [decide_eq_true (by rw [hc, hr2])]; rfl) ?_
              refine ⟨_, rfl, _, rfl, len_S hl, _, _, rfl, rfl, _, rfl, ?_⟩
              rw [S_len]
              by_cases h10 : (c :: r).length ≤ 10
              · refine iteF' (decide_eq_false (by omega)) ⟨rfl, sD, ?_⟩
                rw [eB, decide_eq_true h10, isN (fun z => z.2 hr2), hA]
                rfl
              · refine iteT' (decide_eq_true (by omega)) ⟨_, rfl, qf ?_ _ sD⟩
                rw [eB, decide_eq_false h10]
                rfl
            · refine iteT' (by rw [decide_eq_false (fun z => hr2 (List.cons.inj z).2)]; rfl) ⟨_, rfl, qf ?_ _ sD⟩
              rw [eB, show isNum (c :: r) = false from if_pos ⟨hc, hr2⟩, Bool.and_false]
          · rw [decide_eq_false hc]
            refine iteF ?_
            refine ⟨_, rfl, _, rfl, len_S hl, _, _, rfl, rfl, _, rfl, ?_⟩
            rw [S_len]
            by_cases h10 : (c :: r).length ≤ 10
            · refine iteF' (decide_eq_false (by omega)) ⟨rfl, sD, ?_⟩
              rw [eB, decide_eq_true h10, isN (fun z => hc z.1), hA]
              rfl
            · refine iteT' (decide_eq_true (by omega)) ⟨_, rfl, qf ?_ _ sD⟩
              rw [eB, decide_eq_false h10]
              rfl
        · have e0 : ((List.filter (fun c => !decide (c ∈ digs)) (c :: r)).map sgD).isEmpty = false := by
            obtain ⟨k, hk⟩ := Classical.not_forall.mp hall
            obtain ⟨h1, h2⟩ := Classical.not_imp.mp hk
            have : k ∈ List.filter (fun c => !decide (c ∈ digs)) (c :: r) := List.mem_filter.mpr ⟨h1, by rw [decide_eq_false h2]; rfl⟩
            cases e : List.filter (fun c => !decide (c ∈ digs)) (c :: r) with
            | nil => rw [e] at this; cases this
            | cons _ _ => rfl
          rw [e0]
          refine iteT ⟨_, rfl, qf ?_ _ sD⟩
          rw [eB]
          have : isNum (c :: r) = false := by
            by_cases hn : c = 48 ∧ r ≠ []
            · exact if_pos hn
            · rw [isN hn]
              exact Bool.eq_false_iff.mpr fun z => hall fun k hk => of_decide_eq_true (List.all_eq_true.mp z k hk)
          rw [this, Bool.and_false]
    rintro σ H1 ⟨rfl, s1, hb⟩
    obtain ⟨hi, h6⟩ := num_int hb
    refine ⟨_, rfl, S t, _, rfl, hi, h6, ?_⟩
    have := q H1 s1
    unfold lnV at this
    rw [hb] at this
    exact this
end
end C1

/-! index of a tuple of texts. -/
namespace C1
open PySem PySem.Spec PyProof.Rows L2 SX
section
variable {X : Cx}
abbrev rTupIx (K : PySem.W.Frag) : V → List V → Hp → VK → Prop := fun x xs H Q => ∃ (ad : Addr) (ks : List Str) (k : Str), x = V.ref ad ∧ xs = [.str k] ∧ SqT K H ad (ks.map V.str) ∧ k ∈ ks ∧ Q (iV (ks.idxOf k)) H
theorem mt_tupIx : MtR X "tuple.index" (rTupIx X.K) := by
  intro pins s σ H x xs v us Q I r0 r1 h
  obtain ⟨ad, ks, k, e1, e2, sq, hk, q⟩ := h
  subst e1 e2
  cases r0
  cases r1 with
  | cons rk rest =>
    cases rest
    obtain ⟨its, rv, tu, _⟩ := I.tuple sq
    have ll : ks.length = its.length := by
      have := rv.length
      rw [List.length_map] at this
      exact this
    refine SeqAt.call_tuple_index (ks := ks) (k := k) tu ⟨ll.symm, fun j h1 h2 => ?_⟩ hk ⟨iV (ks.idxOf k), H, I.tok _, ⟨_, rfl⟩, q⟩
    have er : decide (ks[j] = k) = eqV (.str ks[j]) (.str k) := by
      show _ = (ks[j] == k)
      by_cases hjk : ks[j] = k
      · rw [decide_eq_true hjk, hjk]
        exact (beq_self_eq_true k).symm
      · rw [decide_eq_false hjk]
        exact (beq_eq_false_iff_ne.mpr hjk).symm
    rw [er]
    obtain ⟨u2, hu, ru⟩ := rv.get (show (ks.map V.str)[j]? = some (.str ks[j]) by rw [List.getElem?_map, List.getElem?_eq_getElem h2]; rfl)
    obtain ⟨_, hu2⟩ := List.getElem?_eq_some_iff.mp hu
    rw [hu2]
    exact eqAt_V ru rk rfl rfl
end
end C1

/-! What may follow; the numbers of a line by the law. -/
namespace C1
open PySem PySem.Spec PyProof.Rows L2 SX
open K0 (Cs digs isNum)
open GxR (TabG Tabbed TabB GenS)
abbrev sLawNumbers : Stmt := topS 56
abbrev sCanFollow : Stmt := topS 44
theorem scLawNumbers : FnScope ["parts_v", "found", "part"] ["parts_v"] (defScope sLawNumbers) := ⟨rfl, rfl, rfl, by decide +kernel, rfl, by decide +kernel, by decide +kernel⟩
abbrev NLNS : List Str := ["parts_v", "found", "part"]
theorem scCanFollow : FnScope ["place", "word", "own"] ["place", "word"] (defScope sCanFollow) := ⟨rfl, rfl, rfl, by decide +kernel, rfl, by decide +kernel, by decide +kernel⟩
def lineW : List Str := ["register", "memory", "row", "next", "store", "told"]
def canF (place : Nat) (word : Str) : Bool := decide (word ∈ lineW) && (if 3 < lineW.idxOf word then decide (3 ≤ place) && decide (place < 5) else decide (place ≤ lineW.idxOf word) && decide (place ≠ 3))
theorem neg_in : ∀ xs : List Str, inV (.int (-1)) (xs.map fun x => V.int (lnV x)) = !xs.all numB
  | [] => rfl
  | x :: xs => by
    show (eqV (V.int (lnV x)) (.int (-1)) || inV (.int (-1)) (xs.map fun x => V.int (lnV x))) = !(numB x && xs.all numB)
    rw [neg_in xs]
    have : eqV (V.int (lnV x)) (.int (-1)) = !numB x := by
      unfold lnV
      cases numB x with
      | true =>
        show (((numV x : Nat) : Int) == -1) = false
        exact beq_eq_false_iff_ne.mpr (by omega)
      | false => rfl
    rw [this]
    cases numB x <;> cases xs.all numB <;> rfl
theorem ln_nums : ∀ {xs : List Str}, xs.all numB = true → (xs.map fun x => V.int (lnV x)) = (xs.map numV).map iV
  | [], _ => rfl
  | x :: xs, h => by
    have h' := Bool.and_eq_true_iff.mp (show (numB x && xs.all numB) = true from h)
    show V.int (lnV x) :: _ = iV (numV x) :: _
    rw [ln_nums (xs := xs) h'.2]
    unfold lnV
    rw [h'.1]
    rfl
section
variable {P : Program} {w : World} {K : PySem.W.Frag} {mg : Str → Option Value} {base : Heap} {T : Addr} {H : Hp}
def spLNums (K : PySem.W.Frag) : Sp := fun vs H Q _ => ∃ (p : Addr) (xs : List Str), vs = [.ref p] ∧ SqL K H p (xs.map V.str) ∧ (∀ x ∈ xs, asc x ∧ x.cps.size ≤ 100000) ∧ xs.length ≤ 900 ∧
  (∀ H', Same H H' → numsS xs = none → Q .non H') ∧ ∀ H' t ns, Same H H' → numsS xs = some ns → SqT K H' t (ns.map iV) → Q (.ref t) H'
theorem same_seqL {H H' : Hp} (s : Same H H') {a : Addr} {xs : List V} (h : SqL K H a xs) : SqL K H' a xs := s.seq h
theorem ok_lnumbers {f fN : Addr} {fd fdN : FuncData} (F : Fun K "_law_numbers" "_law_numbers" sLawNumbers f fd) (B : BT mg) (GN : FnOk P w K mg base CX0 1 fN fdN ["text"] spLNum) (kN : PySem.W.keepIn K (.ref fN) = true) (bN : Binds K fdN ["text"] []) (gN : mg "_law_number" = some (.ref fN)) :
    FnOk P w K mg base CX0 2 f fd ["parts_v"] (spLNums K) := by
  refine F.ok scLawNumbers (fun vs H Q E h => ?_) (fun cdv A outer s H vs Q E hr h => ?_)
  · obtain ⟨p, xs, rfl, _⟩ := h
    rfl
  · obtain ⟨p, xs, rfl, hp, hx, hl, qn, qs⟩ := h
    have nd := scLawNumbers.nd
    refine ⟨_, (pss_cons (ps_setLc (i := 1) (own := [("part", 2)]) (g := gName 2) (tt := tYes) (te := tCall spLNum [] E0 (tCons (tVar 2) tNil))  rfl nd rfl rfl (sw_true rfl rfl rfl (by decide +kernel)) (pi_list (pv 0)) (blkOk_by (own := [("part", 2)]) (N := NLNS) (sc := defScope sLawNumbers) (by decide +kernel)) (fun _ _ _ _ _ => pg_name (i := 2) nd rfl (.inl rfl)) (fun _ _ _ _ _ => pts_nil) (fun _ _ _ _ _ => by exact (pe_call GN hr (by rfl) gN kN bN .nil pass0 (pa_cons (pv 2) pa_nil))))
      (pss_one (ps_ret (pe_ifExp (pt_cmpR op_in_seq (pe_un un_neg pe_int) (pv 1) (by rfl)) (pe_non) (pe_callTy call_tuple_of (by rfl) B.tuple (by decide +kernel) (pa_cons (pv 1) pa_nil)))))), ?_⟩
    refine ⟨_, rfl, p, rfl, ⟨_, hp⟩, fun D nD => ?_⟩
    refine lc_list (xs := xs.map V.str) (fun i H2 => Same H H2 ∧ H2 D = some (.lst ((xs.take i).map fun x => V.int (lnV x)))) ⟨Same.up nD, upd_same⟩ (fun i H2 _ h => h.1.seq hp) (fun i v H2 hv h => ?_) (fun H2 h => ?_)
    · obtain ⟨g, e⟩ := h
      obtain ⟨x, ex, rfl⟩ := str_at hv
      have hil : i < xs.length := (List.getElem?_eq_some_iff.mp ex).1
      obtain ⟨h1, h2⟩ := hx x (List.mem_of_getElem? ex)
      refine ⟨rfl, _, rfl, x, rfl, h1, h2, fun H3 s3 => ⟨_, s3 _ _ e, ?_, same_put (g.trans s3) nD, ?_⟩⟩
      · rw [List.length_map, List.length_take]
        exact lineS200 (by omega)
      · rw [upd_same, take_snoc ex, List.map_append]
        rfl
    · obtain ⟨g, e⟩ := h
      rw [List.length_map, List.take_length] at e
      refine ⟨_, rfl, _, rfl, D, _, rfl, .inl (SqL.of e), rfl, ?_, _, rfl, ?_⟩
      · refine List.all_eq_true.mpr fun v hv => ?_
        obtain ⟨x, _, rfl⟩ := List.mem_map.mp hv
        rfl
      · rw [neg_in]
        cases ha : xs.all numB with
        | false => exact iteT (qn H2 g (by unfold numsS; rw [ha]; rfl))
        | true =>
          refine iteF ⟨_, rfl, D, _, rfl, .inl ⟨SqL.of e, fun t nt => ?_⟩⟩
          exact qs _ t (xs.map numV) (g.trans (Same.up nt)) (by unfold numsS; rw [ha]; rfl) (by rw [ln_nums ha]; exact SqT.of upd_same)
def spCanF : Sp := fun vs H Q _ => ∃ (place : Nat) (word : Str), vs = [iV place, .str word] ∧ Q (.bl (canF place word)) H
theorem ok_canF {f aW : Addr} {fd : FuncData} {t3 t5 : Tok} (F : Fun K "can_follow" "can_follow" sCanFollow f fd) (gW : mg "LINE_WORDS" = some (.ref aW)) (sW : ∀ H, SqT K H aW (lineW.map V.str)) {oW : Obj} (l1 : K.lookup aW = some oW) (l2 : oW.cls = .type "tuple") (l3 : oW.dict = none) (gNA : mg "NEXT_AT" = some (.int 3 t3)) (gTA : mg "TOLD_AT" = some (.int 5 t5)) : FnOk P w K mg base CX0 1 f fd ["place", "word"] spCanF := by
  refine F.ok scCanFollow (fun vs H Q E h => ?_) (fun cdv A outer s H vs Q E hr h => ?_)
  · obtain ⟨pl, wd, rfl, _⟩ := h
    rfl
  · obtain ⟨pl, wd, rfl, q⟩ := h
    have nd := scCanFollow.nd
    refine ⟨_, (pss_cons (ps_if (pt_cmpR op_notIn_seq (pv 1) (pe_glob (v := .ref aW) (by rfl) gW rfl) (by rfl)) (pss_one (ps_ret (pe_bl))) pss_nil)
      (pss_cons (ps_set (i := 2) nd rfl (.inl rfl) (pe_bm PySem.F.plainAttrs_tuple PySem.F.slot_tuple_index PySem.F.type_tuple_index mt_tupIx (pe_glob (v := .ref aW) (by rfl) gW rfl) (pa_cons (pv 1) pa_nil)))
      (pss_cons (ps_if (pt_cmpR op_gt (pv 2) (pe_glob (v := .int 3) (by rfl) gNA ⟨_, rfl⟩) (nomark _)) (pss_one (ps_ret (pe_chain op_le op_lt (pe_glob (v := .int 3) (by rfl) gNA ⟨_, rfl⟩) (pv 0) (pe_glob (v := .int 5) (by rfl) gTA ⟨_, rfl⟩)))) pss_nil)
      (pss_one (ps_ret (pe_and (pe_cmpR op_ge (pv 2) (pv 0) (nomark _)) (pe_one (pe_cmpR op_ne (pv 0) (pe_glob (v := .int 3) (by rfl) gNA ⟨_, rfl⟩) (nomark _))))))))), ?_⟩
    have eIn : inV (.str wd) (lineW.map V.str) = decide (wd ∈ lineW) := by
      unfold inV
      rw [List.any_map]
      by_cases h : wd ∈ lineW
      · rw [decide_eq_true h]
        exact List.any_eq_true.mpr ⟨wd, h, beq_self_eq_true wd⟩
      · rw [decide_eq_false h]
        refine Bool.eq_false_iff.mpr fun z => ?_
        obtain ⟨y, hy, e⟩ := List.any_eq_true.mp z
        exact h (by have := beq_iff_eq.mp (show (y == wd) = true from e); rw [← this]; exact hy)
    have eAll : (lineW.map V.str).all flatV = true := rfl
    refine ⟨_, rfl, aW, _, rfl, .inr (sW H), rfl, eAll, _, rfl, ?_⟩
    show if (!inV (.str wd) (lineW.map V.str)) = true then _ else _
    rw [eIn]
    by_cases hw : wd ∈ lineW
    · refine iteF' (by rw [decide_eq_true hw]; rfl) ?_
      have eC : canF pl wd = (if 3 < lineW.idxOf wd then decide (3 ≤ pl) && decide (pl < 5) else decide (pl ≤ lineW.idxOf wd) && decide (pl ≠ 3)) := by
        unfold canF
        rw [decide_eq_true hw, Bool.true_and]
      rw [eC] at q
      refine ⟨.inr (.inl ⟨rfl, oW, l1, l2, l3⟩), _, rfl, aW, lineW, wd, rfl, rfl, sW H, hw, ?_⟩
      refine ⟨_, rfl, _, _, rfl, rfl, _, rfl, ite2 (fun e => ?_) (fun e => ?_)⟩
      · have e2 : 3 < lineW.idxOf wd := by
          have := of_decide_eq_true e
          omega
        rw [if_pos e2] at q
        refine ⟨_, rfl, _, _, rfl, rfl, _, rfl, ite2 (fun a => ?_) (fun a => ?_)⟩
        · refine ⟨_, _, rfl, rfl, ?_⟩
          have a2 : 3 ≤ pl := by
            have := of_decide_eq_true a
            omega
          rw [decide_eq_true a2, Bool.true_and] at q
          show Q (.bl (decide (((pl : Nat) : Int) < 5))) H
          rw [show decide (((pl : Nat) : Int) < 5) = decide (pl < 5) from decide_eq_decide.mpr ⟨fun h => by omega, fun h => by omega⟩]
          exact q
        · have a2 : ¬ 3 ≤ pl := fun z => a (decide_eq_true (by omega))
          rw [decide_eq_false a2, Bool.false_and] at q
          exact q
      · have e2 : ¬ 3 < lineW.idxOf wd := fun z => e (decide_eq_true (by omega))
        rw [if_neg e2] at q
        refine ⟨_, rfl, _, rfl, _, _, rfl, rfl, _, rfl, ite2 (fun a => ?_) (fun a => ?_)⟩
        · have a2 : pl ≤ lineW.idxOf wd := by
            have := of_decide_eq_true a
            omega
          rw [decide_eq_true a2, Bool.true_and] at q
          refine ⟨_, rfl, rfl, ?_⟩
          show Q (.bl (!decide (V.int ((pl : Nat) : Int) = V.int 3))) H
          rw [show (!decide (V.int ((pl : Nat) : Int) = V.int 3)) = decide (pl ≠ 3) by
            by_cases h3 : pl = 3
            · rw [h3]
              rfl
            · rw [decide_eq_true h3, decide_eq_false (fun z => h3 (by have := V.int.inj z; omega))]
              rfl]
          exact q
        · have a2 : ¬ pl ≤ lineW.idxOf wd := fun z => a (decide_eq_true (by omega))
          rw [decide_eq_false a2, Bool.false_and] at q
          exact q
    · refine iteT' (by rw [decide_eq_false hw]; rfl) ?_
      unfold canF at q
      rw [decide_eq_false hw, Bool.false_and] at q
      exact q
end
end C1

/-! A row of a line. -/
namespace C1
open PySem PySem.Spec PyProof.Rows L2 SX
open K0 (Cs digs isNum)
open GxR (TabG Tabbed TabB GenS)
abbrev sReadRow : Stmt := topS 45
theorem scReadRow : FnScope ["parts", "many", "numbers"] ["parts"] (defScope sReadRow) := ⟨rfl, rfl, rfl, by decide +kernel, rfl, by decide +kernel, by decide +kernel⟩
def rowLens : List (Str × Nat) := [("lit", 3), ("reg", 2), ("look", 3), ("not", 2), ("op", 4), ("pick", 4), ("wide", 3), ("part", 4), ("join", 3)]
def lensOf (z : Str) : Option Nat := rowLens.lookup z
def signW : List Str := ["+", "-", "*", "&", "|", "^", "==", "<", "<<", ">>"]
def rowS (xs : List Str) : Option PyData := match xs with
  | [] => none
  | k :: rest => match lensOf k with
    | none => none
    | some n => if k = "op" then (match rest with
        | g :: ends => if xs.length = n ∧ g ∈ signW then (numsM (some (n - 2)) ends).map fun ns => .tuple (.str k :: .str g :: ns.map iD) else none
        | [] => none)
      else (numsM (some (n - 1)) rest).map fun ns => .tuple (.str k :: ns.map iD)
theorem lens_two {k : Str} {m : Nat} (h : lensOf k = some m) : 2 ≤ m := by
  have : ∀ p ∈ rowLens, 2 ≤ p.2 := by decide +kernel
  unfold lensOf at h
  obtain ⟨p, hp, e⟩ : ∃ p ∈ rowLens, p.2 = m := by
    have key : ∀ (l : List (Str × Nat)), l.lookup k = some m → ∃ p ∈ l, p.2 = m := fun l => by
      induction l with
      | nil => intro h; cases h
      | cons a l ih =>
        intro h
        rw [List.lookup_cons] at h
        split at h
        · cases h
          exact ⟨a, List.mem_cons_self .., rfl⟩
        · obtain ⟨p, hp, e⟩ := ih h
          exact ⟨p, List.mem_cons_of_mem _ hp, e⟩
    exact key _ h
  rw [← e]
  exact this p hp
theorem cut_two (v u : V) (l : List V) : cutV (v :: u :: l) (some 2) none = l := by
  unfold cutV
  rw [HT.sIx_none, show HT.sIx (v :: u :: l).length 0 (some 2) = 2 by
    show HT.sIx (l.length + 1 + 1) 0 (some ((2 : Nat) : Int)) = 2
    rw [HT.sIx_nat]
    omega]
  exact List.take_of_length_le (Nat.le_refl _)
theorem inV_strs (wd : Str) (l : List Str) : inV (.str wd) (l.map V.str) = decide (wd ∈ l) := by
  unfold inV
  rw [List.any_map]
  by_cases h : wd ∈ l
  · rw [decide_eq_true h]
    exact List.any_eq_true.mpr ⟨wd, h, beq_self_eq_true wd⟩
  · rw [decide_eq_false h]
    refine Bool.eq_false_iff.mpr fun z => ?_
    obtain ⟨y, hy, e⟩ := List.any_eq_true.mp z
    exact h (by have := beq_iff_eq.mp (show (y == wd) = true from e); rw [← this]; exact hy)
theorem cut_one (v : V) (l : List V) : cutV (v :: l) (some 1) none = l := by
  unfold cutV
  rw [HT.sIx_none, show HT.sIx (v :: l).length 0 (some 1) = 1 by
    show HT.sIx (l.length + 1) 0 (some ((1 : Nat) : Int)) = 1
    rw [HT.sIx_nat]
    omega]
  exact List.take_of_length_le (Nat.le_refl _)
section
variable {P : Program} {w : World} {K : PySem.W.Frag} {mg : Str → Option Value} {base : Heap} {T : Addr} {H : Hp}
structure LenD (K : PySem.W.Frag) (w : World) (aL : Addr) (es : Array DictEntry) (n : Nat) : Prop where
  kd : KDict K w aL es n
  no : ∀ z, lensOf z = none → PySem.W.nsIn K aL z = some none
  yes : ∀ z k, lensOf z = some k → ∃ t, PySem.W.nsIn K aL z = some (some (.int ((k : Nat) : Int) t))
def spRowL (K : PySem.W.Frag) (T : Addr) : Sp := fun vs H Q _ => ∃ (p : Addr) (xs : List Str), vs = [.ref p] ∧ SqL K H p (xs.map V.str) ∧ (∀ x ∈ xs, x.cps.size ≤ 100000) ∧ xs.length ≤ 900 ∧ TabG H T ∧
  (∀ H', Gr T H H' → rowS xs = none → Q .non H') ∧ ∀ H' t d, Gr T H H' → rowS xs = some d → Dp K H' (.ref t) d → Q (.ref t) H'
theorem ok_readRow {f fN aL aS : Addr} {fd fdN : FuncData} {es : Array DictEntry} {n : Nat} (F : Fun K "read_row" "read_row" sReadRow f fd) (B : BT mg) (L : LenD K w aL es n) (gL : mg "ROW_LENGTHS" = some (.ref aL)) (gS : mg "SIGNS" = some (.ref aS)) (sS : ∀ H, SqT K H aS (signW.map V.str))
    (GN : FnOk P w K mg base CX0 3 fN fdN ["parts", "many"] (spRNum K T)) (kN : PySem.W.keepIn K (.ref fN) = true) (bN : Binds K fdN ["parts", "many"] []) (gN : mg "read_numbers" = some (.ref fN)) : FnOk P w K mg base CX0 4 f fd ["parts"] (spRowL K T) := by
  refine F.ok scReadRow (fun vs H Q E h => ?_) (fun cdv A outer s H vs Q E hr h => ?_)
  · obtain ⟨p, xs, rfl, _⟩ := h
    rfl
  · obtain ⟨p, xs, rfl, hp, hx, hl, tb, qn, qs⟩ := h
    have nd := scReadRow.nd
    have LD := L.kd
    refine ⟨_, (C8.pss_cut (ps_if (PW.pt (pw_or (pt_not (pt_truth (pv 0) (by intro _; rfl))) (pw_or1 (pt_cmpR (op_notIn_kd LD) (pe_ix ix_list (pv 0) (pe_int) (fun _ _ => rfl)) (pe_glob (v := .ref aL) (by rfl) gL rfl) (by rfl))))) (pss_one (ps_ret (pe_non))) pss_nil)
      (pss_cons (ps_set (i := 1) nd rfl (.inl rfl) (pe_ix ix_kdict (pe_glob (v := .ref aL) (by rfl) gL rfl) (pe_ix ix_list (pv 0) (pe_int) (fun _ _ => rfl)) (fun _ _ => rfl)))
      (pss_cons (ps_if (pt_cmpR op_ne (pe_ix ix_list (pv 0) (pe_int) (fun _ _ => rfl)) (pe_str) (nomark _)) (pss_cons (ps_set (i := 2) nd rfl (.inl rfl) (pe_call GN hr (by rfl) gN kN bN .nil pass0 (pa_cons (pe_slice sl_list (pv 0) (po_some (pe_int)) po_none) (pa_cons (pe_op op_sub (pv 1) (pe_int)) pa_nil))))
      (pss_one (ps_ret (pe_ifExp (pt_cmpR op_isN (pv 2) (pe_non) (nomark _)) (pe_non) (pe_tup (pa_cons (pe_ix ix_list (pv 0) (pe_int) (fun _ _ => rfl)) (StX.pa_star (pv 2) pa_nil))))))) pss_nil)
      (C8.pss_cut (ps_if (PW.pt (pw_or (pt_cmpR op_ne (pe_callB call_len_seq (by rfl) B.len PySem.boot_len (pa_cons (pv 0) pa_nil)) (pv 1) (nomark _)) (pw_or1 (pt_cmpR op_notIn_seq (pe_ix ix_list (pv 0) (pe_int) (fun _ _ => rfl)) (pe_glob (v := .ref aS) (by rfl) gS rfl) (by rfl))))) (pss_one (ps_ret (pe_non))) pss_nil)
      (pss_cons (ps_set (i := 2) nd rfl (.inl rfl) (pe_call GN hr (by rfl) gN kN bN .nil pass0 (pa_cons (pe_slice sl_list (pv 0) (po_some (pe_int)) po_none) (pa_cons (pe_op op_sub (pv 1) (pe_int)) pa_nil))))
      (pss_one (ps_ret (pe_ifExp (pt_cmpR op_isN (pv 2) (pe_non) (nomark _)) (pe_non) (pe_tup (pa_cons (pe_str) (pa_cons (pe_ix ix_list (pv 0) (pe_int) (fun _ _ => rfl)) (StX.pa_star (pv 2) pa_nil)))))))))))), ?_⟩
    refine ⟨fun σ H' => ∃ k rest, xs = k :: rest ∧ σ = [some (.ref p), none, none] ∧ H' = H ∧ (lensOf k).isSome = true, ?_, ?_⟩
    · refine ⟨_, rfl, _, .inl ⟨_, hp, rfl⟩, ?_⟩
      cases xs with
      | nil => exact iteT (qn H (Gr.refl tb) rfl)
      | cons k rest =>
        refine iteF ?_
        cases hk : lensOf k with
        | none =>
          refine ⟨_, rfl, p, _, _, _, rfl, rfl, hp, atI_nat (j := 0) rfl, k, _, rfl, rfl, L.no k hk, _, rfl, iteT (qn H (Gr.refl tb) ?_)⟩
          show (match lensOf k with | none => none | some n => _) = none
          rw [hk]
        | some m =>
          obtain ⟨t, et⟩ := L.yes k m hk
          exact ⟨_, rfl, p, _, _, _, rfl, rfl, hp, atI_nat (j := 0) rfl, k, _, rfl, rfl, et, _, rfl, iteF ⟨k, rest, rfl, rfl, rfl, by rw [hk]; rfl⟩⟩
    rintro σ H1 ⟨k, rest, rfl, rfl, rfl, hs⟩
    obtain ⟨m, hk⟩ := Option.isSome_iff_exists.mp hs
    obtain ⟨tm, et⟩ := L.yes k m hk
    have m2 := lens_two hk
    have hrest : rest.length ≤ 900 := by
      have : (k :: rest).length = rest.length + 1 := rfl
      omega
    refine ⟨_, rfl, p, _, _, _, rfl, rfl, hp, atI_nat (j := 0) rfl, aL, k, iV m, rfl, rfl, ⟨_, _, _, LD.at_, LD.lit, et, ⟨tm, rfl⟩⟩, ?_⟩
    refine ⟨_, rfl, p, _, _, _, rfl, rfl, hp, atI_nat (j := 0) rfl, rfl, _, rfl, ?_⟩
    by_cases hop : k = "op"
    · refine iteF' (by rw [decide_eq_true (by rw [hop])]; rfl) ?_
      subst hop
      have h4 : m = 4 := by
        have h : lensOf "op" = some 4 := by decide +kernel
        rw [h] at hk
        cases hk
        rfl
      subst h4
      have eS : ∀ {g : Str} {ends : List Str}, rest = g :: ends → rowS (("op" : Str) :: rest) = if (("op" : Str) :: rest).length = 4 ∧ g ∈ signW then (numsM (some 2) ends).map fun ns => .tuple (.str "op" :: .str g :: ns.map iD) else none := fun e => by
        subst e
        show (match lensOf "op" with | none => none | some n => _) = _
        rw [hk]
        rfl
      refine ⟨fun σ H' => ∃ g ends, rest = g :: ends ∧ σ = [some (.ref p), some (iV 4), none] ∧ H' = H1 ∧ (("op" : Str) :: rest).length = 4 ∧ g ∈ signW, ?_, ?_⟩
      · refine ⟨_, rfl, p, _, rfl, .inl hp, _, rfl, rfl, _, rfl, ?_⟩
        rw [List.length_map]
        by_cases hlen : (("op" : Str) :: rest).length = 4
        · refine iteF' (by rw [decide_eq_true (by rw [hlen])]; rfl) ?_
          cases rest with
          | nil => cases hlen
          | cons g ends =>
            refine ⟨_, rfl, p, _, _, _, rfl, rfl, hp, atI_nat (j := 1) rfl, aS, _, rfl, .inr (sS _), rfl, (by decide +kernel), _, rfl, ?_⟩
            show if (!inV (.str g) (signW.map V.str)) = true then _ else _
            rw [inV_strs]
            by_cases hg : g ∈ signW
            · exact iteF' (by rw [decide_eq_true hg]; rfl) ⟨g, ends, rfl, rfl, rfl, hlen, hg⟩
            · refine iteT' (by rw [decide_eq_false hg]; rfl) (qn H1 (Gr.refl tb) ?_)
              rw [eS rfl]
              exact if_neg (fun z => hg z.2)
        · refine iteT' (by rw [decide_eq_false (fun z => hlen (by have := V.int.inj z; omega))]; rfl) (qn H1 (Gr.refl tb) ?_)
          cases rest with
          | nil =>
            show (match lensOf "op" with | none => none | some n => _) = none
            rw [hk]
            rfl
          | cons g ends =>
            rw [eS rfl]
            exact if_neg (fun z => hlen z.1)
      rintro σ H' ⟨g, ends, rfl, rfl, rfl, hlen, hg⟩
      have eR : rowS (("op" : Str) :: g :: ends) = (numsM (some 2) ends).map fun ns => .tuple (.str "op" :: .str g :: ns.map iD) := by
        rw [eS rfl]
        exact if_pos ⟨hlen, hg⟩
      refine ⟨_, rfl, _, rfl, p, _, rfl, hp, fun s0 n0 => ?_⟩
      have g0 : Gr T H' (upd H' s0 (.lst (cutV ((("op" : Str) :: g :: ends).map V.str) (some 2) none))) := Gr.laid tb n0
      refine ⟨_, rfl, _, _, rfl, rfl, s0, ends, some 2, rfl, ?_, fun x h => hx x (List.mem_cons_of_mem _ (List.mem_cons_of_mem _ h)), ?_, g0.tab, fun H2 g2 e => ?_, fun H2 t ns g2 e sq => ?_⟩
      · exact SqL.of (upd_same.trans (congrArg (fun l => some (HO.lst l)) (cut_two (.str "op") (.str g) (ends.map V.str))))
      · have : (g :: ends).length = ends.length + 1 := rfl
        omega
      · refine ⟨_, rfl, rfl, _, rfl, iteT (qn H2 (g0.trans g2) ?_)⟩
        rw [eR, e]
        rfl
      · have g02 := g0.trans g2
        refine ⟨_, rfl, rfl, _, rfl, iteF ?_⟩
        have hl2 : ns.length ≤ 900 := by
          unfold numsM at e
          simp only [] at e
          split at e
          · unfold numsS at e
            split at e
            · cases e
              rw [List.length_map]
              have : (g :: ends).length = ends.length + 1 := rfl
              omega
            · cases e
          · cases e
        refine ⟨_, rfl, p, _, _, _, rfl, rfl, g02.seqL tb hp, atI_nat (j := 1) rfl, _, rfl, t, _, rfl, .inl sq, ?_, fun tp ntp => ?_⟩
        · show (V.str "op" :: V.str g :: (ns.map iV ++ [])).length ≤ sizeLine
          rw [List.append_nil, List.length_cons, List.length_cons, List.length_map]
          exact line200 (by omega)
        · have gf := g02.trans (Gr.laid (o := .tup (V.str "op" :: V.str g :: (ns.map iV ++ []))) g2.tab ntp)
          refine qs _ tp (.tuple (.str "op" :: .str g :: ns.map iD)) gf (by rw [eR, e]; rfl) (.tup (SqT.of upd_same) (.cons (.str _) (.cons (.str _) ?_)))
          rw [List.append_nil]
          exact dps_ints ns
    · refine iteT' (by rw [decide_eq_false (fun z => hop (V.str.inj z))]; rfl) ?_
      have eR : rowS (k :: rest) = (numsM (some (m - 1)) rest).map fun ns => .tuple (.str k :: ns.map iD) := by
        show (match lensOf k with | none => none | some n => _) = _
        rw [hk]
        exact if_neg hop
      refine ⟨_, rfl, _, rfl, p, _, rfl, hp, fun s0 n0 => ?_⟩
      have g0 : Gr T H1 (upd H1 s0 (.lst (cutV ((k :: rest).map V.str) (some 1) none))) := Gr.laid tb n0
      refine ⟨_, rfl, _, _, rfl, rfl, s0, rest, some (m - 1), ?_, ?_, fun x h => hx x (List.mem_cons_of_mem _ h), hrest, g0.tab, fun H2 g2 e => ?_, fun H2 t ns g2 e sq => ?_⟩
      · show [V.ref s0, V.int (((m : Nat) : Int) - 1)] = [V.ref s0, iV (m - 1)]
        rw [show ((m : Nat) : Int) - 1 = ((m - 1 : Nat) : Int) by omega]
      · exact SqL.of (upd_same.trans (congrArg (fun l => some (HO.lst l)) (cut_one (.str k) (rest.map V.str))))
      · refine ⟨_, rfl, rfl, _, rfl, iteT (qn H2 (g0.trans g2) ?_)⟩
        rw [eR, e]
        rfl
      · have g02 := g0.trans g2
        refine ⟨_, rfl, rfl, _, rfl, iteF ?_⟩
        have hl2 : ns.length ≤ 900 := by
          unfold numsM at e
          simp only [] at e
          split at e
          · unfold numsS at e
            split at e
            · cases e
              rw [List.length_map]
              exact hrest
            · cases e
          · cases e
        refine ⟨_, rfl, p, _, _, _, rfl, rfl, g02.seqL tb hp, atI_nat (j := 0) rfl, _, rfl, t, _, rfl, .inl sq, ?_, fun tp ntp => ?_⟩
        · show (V.str k :: (ns.map iV ++ [])).length ≤ sizeLine
          rw [List.append_nil, List.length_cons, List.length_map]
          exact line200 (by omega)
        · have gf := g02.trans (Gr.laid (o := .tup (V.str k :: (ns.map iV ++ []))) g2.tab ntp)
          refine qs _ tp (.tuple (.str k :: ns.map iD)) gf (by rw [eR, e]; rfl) (.tup (SqT.of upd_same) (.cons (.str _) ?_))
          rw [List.append_nil]
          exact dps_ints ns
end
end C1

/-! A row of a line, by the law. -/
namespace C1
open PySem PySem.Spec PyProof.Rows L2 SX
open K0 (Cs digs isNum)
abbrev sLawRowOf : Stmt := topS 57
theorem scLawRowOf : FnScope ["parts_v", "lengths", "head", "numbers"] ["parts_v"] (defScope sLawRowOf) := ⟨rfl, rfl, rfl, by decide +kernel, rfl, by decide +kernel, by decide +kernel⟩
theorem asc_ok {x : Str} (h : asc x) : PyData.canLay0 (.str x) = true := by
  show (x.cps.all fun c => decide (c < 0x110000)) = true
  rw [← Array.all_toList]
  refine List.all_eq_true.mpr fun c hc => decide_eq_true ?_
  have := h c hc
  omega
theorem cut_hd1 (v : V) (l : List V) : cutV (v :: l) none (some 1) = [v] := by
  unfold cutV
  rw [HT.sIx_none, show HT.sIx (v :: l).length (v :: l).length (some 1) = 1 by
    show HT.sIx (l.length + 1) (l.length + 1) (some ((1 : Nat) : Int)) = 1
    rw [HT.sIx_nat]
    omega]
  rfl
theorem cut_hd2 (v u : V) (l : List V) : cutV (v :: u :: l) none (some 2) = [v, u] := by
  unfold cutV
  rw [HT.sIx_none, show HT.sIx (v :: u :: l).length (v :: u :: l).length (some 2) = 2 by
    show HT.sIx (l.length + 1 + 1) (l.length + 1 + 1) (some ((2 : Nat) : Int)) = 2
    rw [HT.sIx_nat]
    omega]
  rfl
theorem cut_app (a b : List V) : cutV (a ++ b) (some ((a.length : Nat) : Int)) none = b := by
  unfold cutV
  rw [HT.sIx_none, HT.sIx_nat, List.length_append, Nat.min_eq_left (by omega), List.drop_left]
  exact List.take_of_length_le (by omega)
theorem cat_read {K : PySem.W.Frag} {H : Hp} {a0 b0 : Addr} {xs ys : List V} {Q : VK} (hx : SqT K H a0 xs) (hy : SqT K H b0 ys) (hl : xs.length + ys.length ≤ sizeLine)
    (q : ∀ p H', Same H H' → SqT K H' p (xs ++ ys) → Q (.ref p) H') : rCatA K (.ref a0) (.ref b0) H Q := by
  refine ⟨a0, b0, xs, ys, rfl, rfl, hx, hy, hl, fun e => ?_, fun e1 e2 => ?_, fun e1 e2 p np => ?_⟩
  · refine q b0 H (Same.refl H) ?_
    rw [e]
    exact hy
  · refine q a0 H (Same.refl H) ?_
    rw [e2, List.append_nil]
    exact hx
  · exact q p _ (Same.up np) (SqT.of upd_same)
def lenL : List (Key × V) := rowLens.map fun p => (.inr p.1, iV p.2)
theorem len_merge : mergeK [] lenL = lenL := by decide +kernel
theorem lenL_at (z : Str) : valV lenL (.inr z) = (lensOf z).map iV := by
  have key : ∀ l : List (Str × Nat), valV (l.map fun p => ((.inr p.1 : Key), iV p.2)) (.inr z) = (l.lookup z).map iV := fun l => by
    induction l with
    | nil => rfl
    | cons p l ih =>
      rw [List.map_cons, List.lookup_cons]
      by_cases h : p.1 = z
      · rw [valV_pos (by rw [h]), h]
        simp
      · rw [valV_neg (fun e => h (by injection e)), ih]
        have : (z == p.1) = false := beq_eq_false_iff_ne.mpr (fun e => h e.symm)
        rw [this]
  exact key rowLens
section
variable {P : Program} {w : World} {K : PySem.W.Frag} {mg : Str → Option Value} {base : Heap} {T : Addr} {H : Hp}
def spLRow (K : PySem.W.Frag) : Sp := fun vs H Q _ => ∃ (p : Addr) (xs : List Str), vs = [.ref p] ∧ SqL K H p (xs.map V.str) ∧ (∀ x ∈ xs, asc x ∧ x.cps.size ≤ 100000) ∧ xs.length ≤ 900 ∧
  (∀ H', Same H H' → rowS xs = none → Q .non H') ∧ ∀ H' t d, Same H H' → rowS xs = some d → Dp K H' (.ref t) d → Q (.ref t) H'
theorem ok_lrowOf {f fN : Addr} {fd fdN : FuncData} (F : Fun K "_law_row_of" "_law_row_of" sLawRowOf f fd) (B : BT mg) (GN : FnOk P w K mg base CX0 2 fN fdN ["parts_v"] (spLNums K)) (kN : PySem.W.keepIn K (.ref fN) = true) (bN : Binds K fdN ["parts_v"] []) (gN : mg "_law_numbers" = some (.ref fN)) :
    FnOk P w K mg base CX0 3 f fd ["parts_v"] (spLRow K) := by
  refine F.ok scLawRowOf (fun vs H Q E h => ?_) (fun cdv A outer s H vs Q E hr h => ?_)
  · obtain ⟨p, xs, rfl, _⟩ := h
    rfl
  · obtain ⟨p, xs, rfl, hp, hx, hl, qn, qs⟩ := h
    have nd := scLawRowOf.nd
    have hu := hr.units
    have hud := hu_of hr
    refine ⟨_, (pss_cons (ps_set (i := 1) nd rfl (.inl rfl) (pe_disp (pps_cons (pe_str) (pe_int) (pps_cons (pe_str) (pe_int) (pps_cons (pe_str) (pe_int) (pps_cons (pe_str) (pe_int) (pps_cons (pe_str) (pe_int) (pps_cons (pe_str) (pe_int) (pps_cons (pe_str) (pe_int) (pps_cons (pe_str) (pe_int) (pps_cons (pe_str) (pe_int) pps_nil))))))))) rfl rfl (by intro z; cases z) (by decide)))
      (C8.pss_cut (ps_if (PW.pt (pw_or (pt_cmpR (op_eqD hu) (pv 0) (pe_lst pa_nil) (nomark _)) (pw_or1 (pt_cmpR op_ne (pe_dget2 hud (pv 1) (pe_ix ix_list (pv 0) (pe_int) (fun _ _ => rfl)) pe_int ⟨rfl, rfl, rfl, rfl⟩) (pe_callB call_len_seq (by rfl) B.len PySem.boot_len (pa_cons (pv 0) pa_nil)) (nomark _))))) (pss_one (ps_ret (pe_non))) pss_nil)
      (pss_cons (ps_set (i := 2) nd rfl (.inl rfl) (pe_slice sl_list (pv 0) po_none (po_some (pe_int))))
      (C8.pss_cut (ps_if (pt_cmpR op_eq (pe_ix ix_list (pv 0) (pe_int) (fun _ _ => rfl)) (pe_str) (nomark _)) (pss_cons (ps_set (i := 2) nd rfl (.inl rfl) (pe_slice sl_list (pv 0) po_none (po_some (pe_int))))
      (pss_one (ps_if (pt_cmpR op_notIn_seq (pe_ix ix_list (pv 0) (pe_int) (fun _ _ => rfl)) (pe_tup (pa_cons (pe_str) (pa_cons (pe_str) (pa_cons (pe_str) (pa_cons (pe_str) (pa_cons (pe_str) (pa_cons (pe_str) (pa_cons (pe_str) (pa_cons (pe_str) (pa_cons (pe_str) (pa_cons (pe_str) pa_nil))))))))))) (by rfl)) (pss_one (ps_ret (pe_non))) pss_nil))) pss_nil)
      (pss_cons (ps_set (i := 3) nd rfl (.inl rfl) (pe_call GN hr (by rfl) gN kN bN .nil pass0 (pa_cons (pe_slice sl_list (pv 0) (po_some (pe_callB call_len_seq (by rfl) B.len PySem.boot_len (pa_cons (pv 2) pa_nil))) po_none) pa_nil)))
      (pss_one (ps_ret (pe_ifExp (pt_cmpR op_isN (pv 3) (pe_non) (nomark _)) (pe_non) (pe_op op_catA (pe_callTy call_tuple_of (by rfl) B.tuple (by decide +kernel) (pa_cons (pv 2) pa_nil)) (pv 3)))))))))), ?_⟩
    refine fun da nda => ?_
    refine ⟨upd_same, lenL, rfl, (by decide +kernel), ?_⟩
    rw [upd_upd, len_merge]
    have s1 : Same H (upd H da (.dK lenL)) := Same.up nda
    have ed : (upd H da (.dK lenL)) da = some (.dK lenL) := upd_same
    generalize upd H da (.dK lenL) = H1 at s1 ed
    have hp1 := s1.seq hp
    refine ⟨fun σ H' => ∃ k rest m, xs = k :: rest ∧ σ = [some (.ref p), some (.ref da), none, none] ∧ Same H H' ∧ lensOf k = some m ∧ xs.length = m, ?_, ?_⟩
    · refine ⟨_, rfl, Nat.zero_le _, fun z nz => ?_⟩
      have s2 := s1.trans (Same.up (o := .lst []) nz)
      refine ⟨.list (xs.map PyData.str), .list [], .lst ((Same.up nz).seq hp1) (dps_strs xs), .lst (SqL.of upd_same) .nil, shaped_list _ (fun d hd => ?_), shaped_list [] (fun d hd => by cases hd), _, rfl, ?_⟩
      · obtain ⟨x, h, rfl⟩ := List.mem_map.mp hd
        exact ⟨asc_ok (hx x h).1, Nat.zero_le _⟩
      rw [eqv_nil]
      cases xs with
      | nil => exact iteT (qn _ s2 rfl)
      | cons k rest =>
        refine iteF ?_
        have e2 := (Same.up (o := .lst []) nz) da _ ed
        refine ⟨_, rfl, da, rfl, .inl ⟨_, .inl e2⟩, ?_⟩
        refine ⟨_, rfl, p, _, _, _, rfl, rfl, s2.seq hp, atI_nat (j := 0) rfl, ?_⟩
        refine ⟨_, DGet.k (k := .inr k) e2, ?_⟩
        rw [lenL_at]
        cases hk : lensOf k with
        | none =>
          refine ⟨_, rfl, p, _, rfl, .inl (s2.seq hp), rfl, _, rfl, ?_⟩
          rw [List.length_map]
          refine iteT' (by show (!decide (V.int 0 = V.int (((k :: rest).length : Nat) : Int))) = true; rw [decide_eq_false (fun z => by have := V.int.inj z; rw [List.length_cons] at this; omega)]; rfl) (qn _ s2 ?_)
          show (match lensOf k with | none => none | some n => _) = none
          rw [hk]
        | some m =>
          refine ⟨_, rfl, p, _, rfl, .inl (s2.seq hp), rfl, _, rfl, ?_⟩
          rw [List.length_map]
          by_cases hm : (k :: rest).length = m
          · exact iteF' (by show (!decide (V.int ((m : Nat) : Int) = V.int (((k :: rest).length : Nat) : Int))) = false; rw [decide_eq_true (by rw [hm])]; rfl) ⟨k, rest, m, rfl, rfl, s2, hk, hm⟩
          · refine iteT' (by show (!decide (V.int ((m : Nat) : Int) = V.int (((k :: rest).length : Nat) : Int))) = true; rw [decide_eq_false (fun z => hm (by have := V.int.inj z; omega))]; rfl) (qn _ s2 ?_)
            have m2 := lens_two hk
            rw [List.length_cons] at hm
            show (match lensOf k with | none => none | some n => _) = none
            rw [hk]
            by_cases hop : k = "op"
            · show (if k = "op" then _ else _) = none
              rw [if_pos hop]
              cases rest with
              | nil => rfl
              | cons g ends => exact if_neg (fun z => hm z.1)
            · show (if k = "op" then _ else _) = none
              rw [if_neg hop]
              have : numsM (some (m - 1)) rest = none := if_neg (by omega)
              rw [this]
              rfl
    rintro σ H2 ⟨k, rest, m, rfl, rfl, s2, hk, hm⟩
    have m2 := lens_two hk
    refine ⟨_, rfl, _, rfl, p, _, rfl, s2.seq hp, fun h1 nh1 => ?_⟩
    have e1 : (upd H2 h1 (.lst (cutV ((k :: rest).map V.str) none (some 1)))) h1 = some (.lst ([k].map V.str)) := upd_same.trans (congrArg (fun l => some (HO.lst l)) (cut_hd1 (.str k) (rest.map V.str)))
    have s3 : Same H (upd H2 h1 (.lst (cutV ((k :: rest).map V.str) none (some 1)))) := s2.trans (Same.up nh1)
    generalize upd H2 h1 (.lst (cutV ((k :: rest).map V.str) none (some 1))) = H3 at e1 s3
    refine ⟨fun σ H' => ∃ hs tl hA, k :: rest = hs ++ tl ∧ hs ≠ [] ∧ σ = [some (.ref p), some (.ref da), some (.ref hA), none] ∧ Same H H' ∧ H' hA = some (.lst (hs.map V.str)) ∧ rowS (k :: rest) = (numsS tl).map fun ns => .tuple (hs.map PyData.str ++ ns.map iD), ?_, ?_⟩
    · refine ⟨_, rfl, p, _, _, _, rfl, rfl, s3.seq hp, atI_nat (j := 0) rfl, rfl, _, rfl, ?_⟩
      by_cases hop : k = "op"
      · refine iteT' (decide_eq_true (by rw [hop])) ?_
        subst hop
        have h4 : m = 4 := by
          have h : lensOf "op" = some 4 := by decide +kernel
          rw [h] at hk
          cases hk
          rfl
        subst h4
        cases rest with
        | nil => cases hm
        | cons g ends =>
        refine ⟨_, rfl, _, rfl, p, _, rfl, s3.seq hp, fun h2 nh2 => ?_⟩
        have e2 : (upd H3 h2 (.lst (cutV ((("op" : Str) :: g :: ends).map V.str) none (some 2)))) h2 = some (.lst ([("op" : Str), g].map V.str)) := upd_same.trans (congrArg (fun l => some (HO.lst l)) (cut_hd2 (.str "op") (.str g) (ends.map V.str)))
        have s4 : Same H (upd H3 h2 (.lst (cutV ((("op" : Str) :: g :: ends).map V.str) none (some 2)))) := s3.trans (Same.up nh2)
        generalize upd H3 h2 (.lst (cutV ((("op" : Str) :: g :: ends).map V.str) none (some 2))) = H4 at e2 s4
        refine ⟨_, rfl, p, _, _, _, rfl, rfl, s4.seq hp, atI_nat (j := 1) rfl, line200 (show 10 ≤ 1000 by decide), fun tp ntp => ⟨tp, _, rfl, .inr (SqT.of upd_same), rfl, (by decide +kernel), _, rfl, ?_⟩⟩
        have s5 := s4.trans (Same.up (o := .tup (signW.map V.str)) ntp)
        show if (!inV (.str g) (signW.map V.str)) = true then _ else _
        rw [inV_strs]
        have eS : rowS (("op" : Str) :: g :: ends) = if (("op" : Str) :: g :: ends).length = 4 ∧ g ∈ signW then (numsM (some 2) ends).map fun ns => .tuple (.str "op" :: .str g :: ns.map iD) else none := by
          show (match lensOf "op" with | none => none | some n => _) = _
          rw [hk]
          rfl
        by_cases hg : g ∈ signW
        · refine iteF' (by rw [decide_eq_true hg]; rfl) ⟨["op", g], ends, h2, rfl, (fun z => by cases z), rfl, s5, (Same.up ntp) _ _ e2, ?_⟩
          rw [eS, if_pos ⟨hm, hg⟩]
          have : numsM (some 2) ends = numsS ends := if_pos (by simpa using hm)
          rw [this]
          rfl
        · refine iteT' (by rw [decide_eq_false hg]; rfl) (qn _ s5 ?_)
          rw [eS]
          exact if_neg (fun z => hg z.2)
      · refine iteF' (decide_eq_false (fun z => hop (V.str.inj z))) ⟨[k], rest, h1, rfl, (fun z => by cases z), rfl, s3, e1, ?_⟩
        show (match lensOf k with | none => none | some n => _) = _
        rw [hk]
        show (if k = "op" then _ else _) = _
        rw [if_neg hop]
        rw [List.length_cons] at hm
        have : numsM (some (m - 1)) rest = numsS rest := if_pos (by omega)
        rw [this]
        rfl
    rintro σ H4 ⟨hs, tl, hA, exs, hne, rfl, s4, eA, eR⟩
    have llt : hs.length + tl.length ≤ 900 := by
      rw [← List.length_append, ← exs]
      exact hl
    refine ⟨_, rfl, _, rfl, hA, _, rfl, .inl (SqL.of eA), _, rfl, p, _, rfl, s4.seq hp, fun s0 n0 => ?_⟩
    have s5 := s4.trans (Same.up (o := .lst (cutV ((k :: rest).map V.str) (some (((hs.map V.str).length : Nat) : Int)) none)) n0)
    refine ⟨s0, tl, rfl, SqL.of (upd_same.trans (congrArg (fun l => some (HO.lst l)) ?_)), fun x h => hx x (by rw [exs]; exact List.mem_append_right _ h), by omega, fun H6 s6 e => ?_, fun H6 t ns s6 e sq => ?_⟩
    · rw [exs, List.map_append]
      exact cut_app _ _
    · refine ⟨_, rfl, rfl, _, rfl, iteT (qn H6 (s5.trans s6) ?_)⟩
      rw [eR, e]
      rfl
    · have hns : ns.length ≤ 900 := by
        unfold numsS at e
        split at e
        · cases e
          rw [List.length_map]
          omega
        · cases e
      refine ⟨_, rfl, rfl, _, rfl, iteF ?_⟩
      have eA6 := s6 _ _ ((Same.up n0) _ _ eA)
      refine ⟨_, rfl, hA, _, rfl, .inl ⟨SqL.of eA6, fun t1 nt1 => ⟨_, rfl, ?_⟩⟩⟩
      have s7 := (s5.trans s6).trans (Same.up (o := .tup (hs.map V.str)) nt1)
      refine cat_read (SqT.of upd_same) (same_tup (Same.up nt1) _ _ sq) ?_ fun r H7 s8 hr7 => ?_
      · rw [List.length_map, List.length_map, sizeLine_eq]
        omega
      · exact qs H7 r _ (s7.trans s8) (by rw [eR, e]; rfl) (.tup hr7 (dps_app (dps_strs hs) (dps_ints ns)))
end
end C1

set_option maxHeartbeats 4000000
/-! try with several clauses «except C as n», one name for all. -/
namespace K0T
open PySem PySem.Spec PyProof.Rows L2
abbrev Suite := Addr → Value → Option Addr → TS
/-- the ends of a suite: behind it the slot of the clause's name is empty -/
abbrev gone (i : Nat) (D : Ends) : Ends := { nx := fun σ H => D.nx (σ.set i none) H, rt := D.rt, bk := fun σ H => D.bk (σ.set i none) H, ct := fun σ H => D.ct (σ.set i none) H }
def wAll (K : PySem.W.Frag) (i : Nat) (Wo : WX) (D : Ends) : List (Value × Suite) → WX
  | [] => Wo
  | (c, ts) :: r => fun cls d σ H => ∃ b, PySem.W.exmOne K cls c = some b ∧ (b = true → ∀ a, H a = none → ts a cls d (gone i D) (σ.set i (some (.ref a))) H) ∧ (b = false → wAll K i Wo D r cls d σ H)
/-- the clauses, each by its class and its suite's reading -/
inductive Cl (X : Cx) (n : Str) : List ExceptHandler → List (Value × Suite) → Prop
  | nil : Cl X n [] []
  | cons {x : Str} {c : Value} {ts : Suite} {st : Stmt} {sts : List Stmt} {np cp : Pos} {r : List ExceptHandler} {l : List (Value × Suite)} : Names X x c →
      (∀ (a : Addr) (oe : Obj) (cls : Value) (d : Option Addr) (pn : List (Addr × Obj)), Zc cls d oe → (∃ vs, oe.data = .fields vs) → PSs (X.suite a ((a, oe) :: pn)) (st :: sts) (ts a cls d)) →
      Cl X n r l → Cl X n (.ExceptHandler (some (.Name x np)) (some n) (st :: sts) cp :: r) ((c, ts) :: l)
theorem no_frame {B h : Heap} {L : List Env} {a : Addr} {o : Obj} {vs : Array Value} (ff : h.FunFrames B L) (e : h.get? a = some o) (d : o.data = .fields vs) : a ∉ frs L := fun hm => by
  obtain ⟨_, o2, e2, hn⟩ := ff.mem hm
  rw [e] at e2
  cases e2
  exact hn _ d
section
variable {X : Cx} {n : Str} {i : Nat} {body : List Stmt} {h₀ : ExceptHandler} {hds : List ExceptHandler} {l : List (Value × Suite)} {pos : Pos} {tb : WX → TS} {Wo : WX}
theorem ps_try_ases (hs : X.stack = X.env :: X.outer) (hf : X.env.frame = some X.env.locals) (hN : X.N.Nodup) (hi : X.N[i]? = some n) (hln : X.env.kindOf n = some .local) (tk : Takes X Wo)
    (hb : ∀ (W : WX) (pn : List (Addr × Obj)) (xe : Value → Shared → Prop), Takes (X.tr pn xe) W → PassesOwn (model X.prog X.w) X.A X.env xe → PSs (X.tr pn xe) body (tb W))
    (hh : Cl X n (h₀ :: hds) l) : PS X (.Try body (h₀ :: hds) [] [] pos) (fun D σ H => tb (wAll X.K i Wo D l) D σ H) := by
  refine ⟨fun pins s σ H D I h => ?_⟩
  have ok := I.ok
  have frm : X.A.frames = some (X.env :: X.outer) := by
    rw [ok.frames, hs]
  refine wpAny_Try_except (wpAny_mono ((hb _ (X.pn ++ pins) _ (fun u s1 caught => ?_) PassesOwn.looking).run [] s σ H D (I.toTry _) h) (fun f s1 q => ?_) fun _ _ z => z)
  · obtain ⟨a, B, sI, p2, σ2, H2, cls, d, rfl, J0, nb, up, sky, na, os, ag, w⟩ := caught
    have J := J0.ofTry ok
    show wpAny (model X.prog X.w) X.A (noteFrame (.ref a) X.env) _ _ _
    refine Sky.land Zc.steady frm hf (by rw [← hs]; exact sky) fun h3 fl up3 => ?_
    have J3 : Inv X pins σ2 H2 { s1 with heap := h3 } := J.landed nb fl.1 (up.trans up3) os ag
    obtain ⟨oe, vs, he, hz, hd⟩ := fl.there
    have nfr := no_frame fl.2.2.1 he hd
    have nL : a ≠ X.env.locals := fun z => nfr (List.mem_filterMap.mpr ⟨X.env, List.mem_cons_self, by rw [hf, z]⟩)
    have nF : a ∉ X.fs := fun hm => by
      obtain ⟨e, h1, h2⟩ := List.mem_filterMap.mp hm
      exact nfr (List.mem_filterMap.mpr ⟨e, List.mem_cons_of_mem _ h1, h2⟩)
    have S3 := J3.suite he hd na nL nF
    have go : ∀ (hs2 : List ExceptHandler) (l2 : List (Value × Suite)), Cl X n hs2 l2 → wAll X.K i Wo D l2 cls d σ2 H2 →
        wpAny (model X.prog X.w) X.A (handleBy (.ref a) X.env hs2) (SP X pins D) X.xe { s1 with heap := h3 } := by
      intro hs2 l2 hc
      induction hc with
      | nil =>
        intro w2
        refine wpAny_handleBy_nil ?_
        obtain ⟨_, _, _, o5, v5, T, _, _, e5, _, d5, t5, _⟩ := id fl
        unfold PySem.passOn
        refine wpAny_bind (wpAny_field e5 d5 t5 ?_)
        rw [if_neg (show ¬ ((Value.ref T == Value.none) = true) from by simp)]
        have out : wpAny (model X.prog X.w) X.A (setFlight (.ref a) X.env.frame) (fun _ s4 => wpAny (model X.prog X.w) X.A (throw (.ref a) : Sem Flow) (SP X pins D) X.xe s4) X.xe { s1 with heap := h3 } := by
          rw [hf]
          exact HandSPX.setFlight_upZ fl fun h4 g4 up4 => wpAny_throw (tk _ _ ⟨a, B, sI, pins, σ2, H2, cls, d, rfl, J, nb, (up.trans up3).trans up4, .inr (.inr (by rw [hs]; exact g4)), na, os, ag, w2⟩)
        first
          | exact wpAny_bind (wpAny_pure (wpAny_bind out))
          | exact wpAny_bind out
      | @cons x c ts st sts np cp r2 l3 hnm hsu _ ih =>
        intro w2
        obtain ⟨b, hb1, yes, no⟩ := w2
        refine wpAny_handleBy_cons (codeAny_handlers_test ?_) (fun q => nomatch q)
        have look := PySem.W.exm_one (M := model X.prog X.w) J3.kIn (fun A Q E s k q => wpAny_typeOf_ref (k _ _ he) (by rw [hz.1]; exact q)) hb1
        have cname : ∀ {Q E : Value → Shared → Prop}, Q c { s1 with heap := h3 } → wpAny (model X.prog X.w) (X.A.mark (some (.ref a))) (eval (.Name x np) X.env) Q E { s1 with heap := h3 } := fun {Q E} q => by
          obtain ⟨hg, dbg, hm | ⟨hm, hv, hnn⟩⟩ := hnm
          · exact ld_glob (X := X.suite a ((a, oe) :: (X.pn ++ pins))) S3 hg hm q dbg
          · exact ld_blt (X := X.suite a ((a, oe) :: (X.pn ++ pins))) S3 hg hm hv q hnn dbg
        refine cname (look.here ?_)
        cases b with
        | false => exact ih (no rfl)
        | true =>
          refine codeAny_handlers_suite_as (HandSPX.lands_againZ fl fun h4 fl4 up4 => ?_)
          have J4 : Inv X pins σ2 H2 { s1 with heap := h4 } := J.landed nb fl4.1 ((up.trans up3).trans up4) os ag
          obtain ⟨o4, v4, e4, z4, d4⟩ := fl4.there
          refine store_ok (X := X.suite a ((a, o4) :: (X.pn ++ pins))) (v := .ref a) (J4.suite e4 d4 na nL nF) hN hi (.inl hln) rfl (fun s5 S5 => ?_) (.inr hln)
          refine wpAny_mono ((hsu a o4 cls d (X.pn ++ pins) z4 ⟨_, d4⟩).run [] s5 _ H2 _ S5 (yes rfl a na)) (fun f s6 q6 => ?_) fun _ _ z => False.elim z
          have leave : ∀ {σ6 : L2.St} {H6 : Hp} {Q : Shared → Prop}, Inv (X.suite a ((a, o4) :: (X.pn ++ pins))) [] σ6 H6 s6 → (∀ s7, Inv X pins (σ6.set i none) H6 s7 → Q s7) →
              wpAny (model X.prog X.w) X.A (do bindName X.env n .none; unbindBehindTheSuite X.env n cp) (fun _ s7 => Q s7) X.xe s6 := fun {σ6 H6 Q} S6 hq => gone_ok (S6.unsuite ok) hN hi hln hq
          cases f with
          | next => exact let ⟨σ6, H6, S6, q⟩ := q6; leave S6 fun s7 J7 => ⟨_, _, J7, q⟩
          | brk => exact let ⟨σ6, H6, S6, q⟩ := q6; leave S6 fun s7 J7 => ⟨_, _, J7, q⟩
          | cont => exact let ⟨σ6, H6, S6, q⟩ := q6; leave S6 fun s7 J7 => ⟨_, _, J7, q⟩
          | ret u => exact let ⟨v6, σ6, H6, S6, r6, q⟩ := q6; leave S6 fun s7 J7 => ⟨_, _, _, J7, r6, q⟩
    exact go _ _ hh w
  · cases f with
    | next => exact let ⟨σ2, H2, J, q2⟩ := q; wpAny_execs_nil ⟨σ2, H2, J.ofTry ok, q2⟩
    | brk => exact let ⟨σ2, H2, J, q2⟩ := q; ⟨σ2, H2, J.ofTry ok, q2⟩
    | cont => exact let ⟨σ2, H2, J, q2⟩ := q; ⟨σ2, H2, J.ofTry ok, q2⟩
    | ret u => exact let ⟨v, σ2, H2, J, r, q2⟩ := q; ⟨v, σ2, H2, J.ofTry ok, r, q2⟩
end
end K0T

set_option maxHeartbeats 4000000
/-! B.__init__(self, ..), B an own error class without an __init__ of its own; isinstance of a caught error that has fields. -/
namespace K0E
open PySem PySem.Spec PyProof.Rows L2
theorem pe_baseinit {X : Cx} {e : Expr} {es : List Expr} {ta : TA} {x : Str} {C : Addr} {mc : Value} {p1 p2 pos : Pos} {pl : Sem Bool} (hg : Gl X x) (hm : X.mg x = some (.ref C)) (dx : (x == ("__debug__" : Str)) = false)
    (h1 : PySem.W.specialIn X.K (.ref C) "__getattribute__" = some (some (.builtin "type.__getattribute__"))) (h2 : PySem.W.readsIn X.K C mc = true)
    (h3 : PySem.W.findCls X.K (.ref C) mc "__init__" = some (.val (.builtin "ValueError.__init__"))) (ha : PA X (e :: es) ta)
    (hc : eval (.Call (.Attribute (.Name x p1) "__init__" p2) (e :: es) [] pos) X.env = (do
      let ov ← eval (.Name x p1) X.env
      standAt p2.atName
      let (f, first) ← holding [ov] (getMethod ov "__init__" pl)
      callWith pos f first (backTo pos (starEach (e :: es) X.env)) (backToKw pos (keywordEach [] X.env))) := by rfl)
    (he : starEach (e :: es) X.env = (false, eval e X.env) :: starEach es X.env := by rfl) (hpl : (backTo pos (starEach es X.env)).any (·.1) = false := by rfl) :
    PE X (.Call (.Attribute (.Name x p1) "__init__" p2) (e :: es) [] pos) (tVeI X.K ta) := by
  refine ⟨fun pins s σ H Q I h => ?_⟩
  refine PySem.W.methodCall_KW (ld_glob I hg hm (PySem.W.method_cls I.kIn h1 (PySem.W.cls_value I.kIn h2 h3 (by decide +kernel) ?_)) dx) hc
  show wpAny _ _ (callWith pos (Value.builtin "ValueError.__init__") [] (backTo pos (starEach (e :: es) X.env)) []) _ _ _
  refine callWith_method1 (thn (ha.run pos pins _ σ H _ (I.tok _) h) fun us s1 w => ?_) he hpl
  obtain ⟨vs, H1, I1, r1, a, D, ws, ev, hl, T, ea, q⟩ := w
  subst ev
  cases r1 with
  | @cons _ u0 _ ur ra rw' =>
    obtain rfl : u0 = Value.ref a := ra
    refine oinit_ok T I1 ea ?_ fun s2 J => ⟨.non, H1, J, rfl, q⟩
    rw [← Paired.length rw', sizeLine_eq]
    exact Nat.le_trans hl (by decide)
/-- isinstance(e, c), e the error that the suite holds (its class D, its dict d) -/
def rIsF (K : PySem.W.Frag) (D a : Addr) (d : Option Addr) : List V → Hp → VK → Prop := fun xs H Q =>
  ∃ (c : V) (cv : Value) (b : Bool) (dd : Addr) (fs : List (Str × V)), xs = [.ref a, c] ∧ (∀ u, RelV c u → u = cv) ∧ PySem.W.kitOne K (.ref D) cv = some b ∧ d = some dd ∧ H dd = some (.xd fs) ∧ Q (.bl b) H
theorem call_isF {X : Cx} {a D : Addr} {oe : Obj} {d : Option Addr} {pn : List (Addr × Obj)} (C : ExcC X.K D) (hz : Zc (.ref D) d oe) (hf : ∃ vs, oe.data = .fields vs) : CallR (X.suite a ((a, oe) :: pn)) (.builtin "isinstance") (rIsF X.K D a d) := by
  intro pins s σ H xs us Q I r h
  obtain ⟨c, cv, b, dd, fs, rfl, hcv, e, ed, ex, q⟩ := h
  obtain ⟨vs, hv⟩ := hf
  obtain ⟨hget, _⟩ := I.pin (a, oe) (List.mem_append.mpr (.inl List.mem_cons_self))
  have hx : ObjOk X.prog X.w H s.heap dd (.xd fs) := I.hok dd _ ex
  obtain ⟨mA, hns, _⟩ := hx
  obtain ⟨od, ho, _⟩ := lookIn_ns hns
  subst ed
  have J : PySem.W.InstAt s.heap a oe D (some od) := ⟨hget, hz.1, by unfold PySem.W.notCls; rw [hv] <;> rfl, by rw [hz.2]; exact ho⟩
  cases r with
  | cons rx rr =>
    cases rr with
    | cons rt rr =>
      cases rr
      cases rx
      have ec := hcv _ rt
      subst ec
      exact PySem.W.kia_one (PySem.W.kitx_exc (by obtain ⟨cd, hc, _⟩ := PySem.W.any_some C.hd; rw [hc]; rfl) C.hg C.hk C.hs C.ha C.hn C.ht C.hm) I.kIn J e (fun z => nomatch z) fun tk => ⟨.bl b, H, I.kept (t' := tk) fun _ _ z => z, rfl, q⟩
end K0E

/-! The error of a line; lines of a text. -/
namespace C1
open PySem PySem.Spec PyProof.Rows L2 SX
open K0 (Cs digs isNum)
open GxR (TabG Tabbed TabB GenS)
abbrev sInitB : Stmt := L2.inClass (topS 32) 0
abbrev sWhole : Stmt := topS 34
abbrev sTextOf : Stmt := topS 35
theorem scInitB : FnScope ["self", "line"] ["self", "line"] (defScope sInitB) := ⟨rfl, rfl, rfl, by decide +kernel, rfl, by decide +kernel, by decide +kernel⟩
theorem scWhole : FnScope ["text", "lines"] ["text"] (defScope sWhole) := ⟨rfl, rfl, rfl, by decide +kernel, rfl, by decide +kernel, by decide +kernel⟩
/-- an int that is a line's number -/
def Pl (i : Int) : Prop := 0 ≤ i ∧ i < 1000000000
theorem Pl.log {i : Int} (h : Pl i) : i.natAbs.log2 < 1920 := by
  obtain ⟨h1, h2⟩ := h
  by_cases h0 : i.natAbs = 0
  · rw [h0]
    decide
  · exact (Nat.log2_lt h0).mpr (Nat.lt_of_lt_of_le (show i.natAbs < 2 ^ 30 by omega) (Nat.pow_le_pow_right (by decide) (by decide)))
theorem Pl.len {i : Int} (h : Pl i) : (Str.ofString (toString i)).length ≤ 9 := PyProof.Rows.toString_length_le h.1 (by decide) (by have := h.2; omega)
theorem app_len (a b : Str) : (a ++ b).length = a.length + b.length := by
  show (a.cps ++ b.cps).size = _
  rw [Array.size_append]
  rfl
def fsL (n : Int) : List (Str × V) := [("line", .int n)]
section
variable {P : Program} {w : World} {K : PySem.W.Frag} {mg : Str → Option Value} {base : Heap} {T : Addr}
def spInitB (K : PySem.W.Frag) : Sp := fun vs H Q _ => ∃ (a C : Addr) (n : Int), vs = [.ref a, .int n] ∧ OexC K C ∧ PySem.W.findIn K (.ref C) "line" = some none ∧ Pl n ∧
  H a = some (exo a C none) ∧ ∀ dx H', H dx = none → dx ≠ a → H' a = some (exo a C (some dx)) → H' dx = some (exd dx (fsL n)) → (∀ b, b ≠ a → b ≠ dx → H' b = H b) → Q .non H'
theorem ok_initB {f C0 : Addr} {fd : FuncData} (F : Fun K "__init__" "BadLine.__init__" sInitB f fd) (g0 : mg "CutError" = some (.ref C0)) (h1 : PySem.W.specialIn K (.ref C0) "__getattribute__" = some (some (.builtin "type.__getattribute__")))
    (h2 : PySem.W.readsIn K C0 (.type "type") = true) (h3 : PySem.W.findCls K (.ref C0) (.type "type") "__init__" = some (.val (.builtin "ValueError.__init__"))) :
    FnOk P w K mg base CX0 1 f fd ["self", "line"] (spInitB K) := by
  refine F.ok scInitB (fun vs H Q E h => ?_) (fun cdv A outer s H vs Q E hr h => ?_)
  · obtain ⟨a, C, n, rfl, _⟩ := h
    rfl
  · obtain ⟨a, C, n, rfl, O, n1, p1, ea, q⟩ := h
    refine ⟨_, pss_cons (ps_expr (K0E.pe_baseinit (mc := .type "type") (by rfl) g0 (by decide) h1 h2 h3 (pa_cons (pv 0) (pa_cons (pe_joined (PJ.cons pe_str (PJ.cons (pe_fmt (pv 1)) PJ.nil))) pa_nil))))
      (pss_one (ps_ost (pv 0) (pv 1))), ?_⟩
    have l1 : (Str.empty ++ ("line " : Str)).length = 5 := by decide +kernel
    have e1 := p1.len
    have big : (100 : Nat) ≤ sizeLine := by
      rw [sizeLine_eq]
      decide
    refine ⟨_, rfl, _, rfl, Nat.le_trans (Nat.le_of_eq l1) (by omega), _, rfl, .inr ⟨_, rfl, p1.log, _, rfl, ?_, ?_⟩⟩
    · rw [app_len, l1]
      omega
    · refine ⟨a, C, _, rfl, (by show 1 ≤ 1000; decide), O, ea, ?_⟩
      refine ⟨_, rfl, _, rfl, a, C, rfl, O, n1, .inl ⟨ea, fun dx nd ne => ?_⟩⟩
      exact q dx _ nd ne upd_same (by rw [upd_ne ne]; exact upd_same) fun b na nb => by rw [upd_ne na, upd_ne nb]
/-- what the written part says of BadLine -/
structure ErrB (K : PySem.W.Frag) (mg : Str → Option Value) (C fI : Addr) : Prop where
  o : OexC K C
  iC : PySem.W.findIn K (.ref C) "__init__" = some (some (.ref fI))
  nL : PySem.W.findIn K (.ref C) "line" = some none
  g : mg "BadLine" = some (.ref C)
theorem raise_line {C fI : Addr} {n : Int} {H : Hp} {Qx : XK} (R : ErrB K mg C fI) (p1 : Pl n) (q : ∀ d H', Same H H' → H d = none → H' d = some (.xd (fsL n)) → Qx (.ref C) (some d) H') :
    ∀ a, H a = none → spInitB K (.ref a :: ([.int n] ++ [])) (upd H a (exo a C none))
      (fun v H2 => v = .non ∧ ∃ (d : Addr) (fs : List (Str × V)), H2 a = some (exo a C (some d)) ∧ H2 d = some (exd d fs) ∧ H d = none ∧ Qx (.ref C) (some d) (upd (del H2 a) d (.xd fs))) (fun _ _ _ => False) := by
  intro a na
  refine ⟨a, C, n, rfl, R.o, R.nL, p1, upd_same, fun dx H2 nd ne e1 e2 e3 => ?_⟩
  have nd' : H dx = none := by
    rw [upd_ne ne] at nd
    exact nd
  refine ⟨rfl, dx, _, e1, e2, nd', q dx _ (fun b o e => ?_) nd' upd_same⟩
  have n1 : b ≠ a := ne_of_none e na
  have n2 : b ≠ dx := ne_of_none e nd'
  rw [upd_ne n2, del_ne n1, e3 b n1 n2, upd_ne n1]
  exact e
/-! lines of a text -/
abbrev nlS : Str := Str.ofString "\n"
def splitL (x : Str) : List Str := Txt.split x nlS
def wholeB (x : Str) : Bool := decide ((splitL x).getLast? = some (Str.ofString "")) && !decide ((splitL x).length = 1)
def spWhole (K : PySem.W.Frag) (C : Addr) : Sp := fun vs H Q E => ∃ x : Str, vs = [.str x] ∧ x.cps.size ≤ 100000 ∧
  (wholeB x = true → ∀ H' p, Same H H' → H p = none → H' p = some (.lst ((splitL x).dropLast.map V.str)) → Q (.ref p) H') ∧
  (wholeB x = false → ∀ H' d, Same H H' → H' d = some (.xd (fsL (splitL x).length)) → E (.ref C) (some d) H')
theorem cnt_bd (c : Nat) : ∀ l : List Nat, 0 ≤ PyProof.Rows.cnt c l ∧ PyProof.Rows.cnt c l ≤ (l.length : Int)
  | [] => ⟨Int.le_refl 0, Int.le_refl 0⟩
  | n :: r => by
    have h := cnt_bd c r
    rw [PyProof.Rows.cnt_cons, List.length_cons]
    by_cases e : n = c
    · rw [if_pos e]
      omega
    · rw [if_neg e]
      omega
theorem split_cnt (x : Str) : ((splitL x).length : Int) = 1 + PyProof.Rows.cnt 10 x.cps.toList := PyProof.Rows.split_len x 10
theorem split_len (x : Str) : (splitL x).length ≤ x.cps.size + 1 := by
  have h1 := split_cnt x
  have h2 := (cnt_bd 10 x.cps.toList).2
  rw [Array.length_toList] at h2
  omega
theorem split_pos (x : Str) : 0 < (splitL x).length := by
  have h1 := split_cnt x
  have h2 := (cnt_bd 10 x.cps.toList).1
  omega
theorem ok_whole {f C fI : Addr} {fd fdI : FuncData} (F : Fun K "whole_lines" "whole_lines" sWhole f fd) (B : BT mg) (R : ErrB K mg C fI) (tI : PySem.W.typeIn K (.ref fI) = some (.type "function")) (GI : FnOk P w K mg base CX0 1 fI fdI ["self", "line"] (spInitB K)) (bI : Binds K fdI ["self", "line"] []) :
    FnOk P w K mg base (L2.CX P w) 3 f fd ["text"] (spWhole K C) := by
  refine F.okX scWhole (fun vs H Q E h => ?_) (fun cdv A outer s H vs Q E hr h => ?_)
  · obtain ⟨x, rfl, _⟩ := h
    rfl
  · obtain ⟨x, rfl, hx, q, qe⟩ := h
    have nd := scWhole.nd
    refine ⟨_, pss_cons (ps_set (i := 1) nd rfl (.inl rfl) (pe_split (pv 0) pe_str))
      (C8.pss_cut (ps_if (PW.pt (pw_or (pt_cmpR op_ne (pe_ix ix_list (pv 1) (pe_un un_neg pe_int) (fun _ _ => rfl)) pe_str (nomark _)) (pw_or1 (pt_cmpR op_eq (pe_callB call_len_seq (by rfl) B.len PySem.boot_len (pa_cons (pv 1) pa_nil)) pe_int (nomark _)))))
        (pss_one (ps_raise rfl (takes_of rfl rfl rfl rfl) (pmk_oex R.o R.iC tI GI hr bI .nil pass0 (by rfl) R.g (pa_cons (pe_callB call_len_seq (by rfl) B.len PySem.boot_len (pa_cons (pv 1) pa_nil)) pa_nil)))) pss_nil)
      (pss_one (ps_ret (pe_slice sl_list (pv 1) po_none (po_some (pe_un un_neg pe_int)))))), ?_⟩
    have hp := split_pos x
    have hl := split_len x
    refine ⟨_, rfl, ⟨x, rfl⟩, x, nlS, rfl, rfl, rfl, (by show x.cps.size + 2 ≤ sizeLine; rw [sizeLine_eq]; omega), fun p np => ?_⟩
    have s1 : Same H (upd H p (.lst ((splitL x).map V.str))) := Same.up np
    have e1 : (upd H p (.lst ((splitL x).map V.str))) p = some (.lst ((splitL x).map V.str)) := upd_same
    have hne : splitL x ≠ [] := fun z => by rw [z] at hp; cases hp
    have eL : (splitL x).getLast? = some ((splitL x).getLast hne) := List.getLast?_eq_some_getLast hne
    have hlast : atI ((splitL x).map V.str) (-1) = some (V.str ((splitL x).getLast hne)) := by
      unfold atI ixN
      rw [if_neg (by decide), List.length_map, if_pos (by omega)]
      show ((splitL x).map V.str)[((-1 : Int) + ((splitL x).length : Int)).toNat]? = _
      rw [show ((-1 : Int) + ((splitL x).length : Int)).toNat = (splitL x).length - 1 by omega, List.getElem?_map, ← List.getLast?_eq_getElem?, eL]
      rfl
    have lp : Pl ((splitL x).length : Int) := ⟨by omega, by omega⟩
    have bad : wholeB x = false → ∀ a, (upd H p (.lst ((splitL x).map V.str))) a = none → _ := fun e => raise_line (H := upd H p (.lst ((splitL x).map V.str))) (n := ((splitL x).length : Int)) (Qx := fun cls d H' => E cls d H') R lp fun d H' s2 _ e3 => qe e H' d (s1.trans s2) e3
    refine ⟨fun σ H' => σ = [some (.str x), some (.ref p)] ∧ H' = upd H p (.lst ((splitL x).map V.str)) ∧ wholeB x = true, ?_, ?_⟩
    · refine ⟨_, rfl, _, rfl, p, _, _, _, rfl, rfl, SqL.of e1, hlast, rfl, _, rfl, ?_⟩
      by_cases hL : (splitL x).getLast hne = Str.ofString ""
      · refine iteF' (by rw [decide_eq_true (by rw [hL])]; rfl) ?_
        refine ⟨_, rfl, p, _, rfl, .inl (SqL.of e1), rfl, _, rfl, ?_⟩
        rw [List.length_map]
        by_cases h1 : (splitL x).length = 1
        · refine iteT' (decide_eq_true (by rw [h1]; rfl)) ?_
          refine ⟨_, rfl, p, _, rfl, .inl (SqL.of e1), (by show 1 ≤ 1000; decide), ?_⟩
          rw [List.length_map]
          exact bad (by unfold wholeB; rw [decide_eq_true h1]; exact Bool.and_false _)
        · refine iteF' (decide_eq_false (fun z => h1 (by have := V.int.inj z; omega))) ⟨rfl, rfl, ?_⟩
          unfold wholeB
          rw [eL, hL, decide_eq_true rfl, decide_eq_false h1]
          rfl
      · refine iteT' (by rw [decide_eq_false (fun z => hL (V.str.inj z))]; rfl) ?_
        refine ⟨_, rfl, p, _, rfl, .inl (SqL.of e1), (by show 1 ≤ 1000; decide), ?_⟩
        rw [List.length_map]
        exact bad (by unfold wholeB; rw [eL, decide_eq_false (fun z => hL (Option.some.inj z))]; exact Bool.false_and _)
    rintro σ H' ⟨rfl, rfl, hw⟩
    refine ⟨_, rfl, _, rfl, _, rfl, p, _, rfl, SqL.of e1, fun r nr => ?_⟩
    refine q hw _ r (s1.trans (Same.up nr)) (s1.free nr) (upd_same.trans (congrArg (fun l => some (HO.lst l)) ?_))
    show ((splitL x).map V.str |>.drop (HT.sIx ((splitL x).map V.str).length 0 none)).take (HT.sIx ((splitL x).map V.str).length ((splitL x).map V.str).length (some (-1)) - HT.sIx ((splitL x).map V.str).length 0 none) = _
    rw [HT.sIx_none, List.drop_zero, List.length_map, Nat.sub_zero]
    rw [show HT.sIx (splitL x).length (splitL x).length (some (-1)) = (splitL x).length - 1 by
      show ((-1 : Int) + ((splitL x).length : Int)).toNat = _
      omega]
    rw [List.dropLast_eq_take, List.map_take]
end
end C1

/-! A text of lines. -/
namespace C1
open PySem PySem.Spec PyProof.Rows L2 SX
theorem scTextOf : FnScope ["lines", "line"] ["lines"] (defScope sTextOf) := ⟨rfl, rfl, rfl, by decide +kernel, rfl, by decide +kernel, by decide +kernel⟩
abbrev NTO : List Str := ["lines", "line"]
abbrev rAddStr : R2 := fun x y H Q => ∃ i j, x = V.str i ∧ y = V.str j ∧ i.length + j.length ≤ sizeLine ∧ Q (V.str (i ++ j)) H
def textL (xs : List Str) : Str := Txt.join (Str.ofString "") (xs.map fun x => x ++ nlS)
theorem len_sum {xs : List Str} {b : Nat} (h : ∀ x ∈ xs, x.length ≤ b) : (xs.map (·.length)).sum ≤ xs.length * b := by
  induction xs with
  | nil => exact Nat.zero_le _
  | cons x xs ih =>
    have h1 := h x (List.mem_cons_self ..)
    have h2 := ih fun y hy => h y (List.mem_cons_of_mem _ hy)
    rw [List.map_cons, List.sum_cons, List.length_cons, Nat.succ_mul]
    omega
section
variable {P : Program} {w : World} {K : PySem.W.Frag} {mg : Str → Option Value} {base : Heap} {T : Addr}
def spTextOf (K : PySem.W.Frag) : Sp := fun vs H Q _ => ∃ (p : Addr) (xs : List Str), vs = [.ref p] ∧ SqL K H p (xs.map V.str) ∧ xs.length ≤ 900 ∧ (∀ x ∈ xs, x.length ≤ 10000) ∧ ∀ H', Same H H' → Q (.str (textL xs)) H'
theorem ok_textOf {f : Addr} {fd : FuncData} (F : Fun K "text_of" "text_of" sTextOf f fd) : FnOk P w K mg base CX0 1 f fd ["lines"] (spTextOf K) := by
  refine F.ok scTextOf (fun vs H Q E h => ?_) (fun cdv A outer s H vs Q E hr h => ?_)
  · obtain ⟨p, xs, rfl, _⟩ := h
    rfl
  · obtain ⟨p, xs, rfl, hp, hl, hx, q⟩ := h
    have nd := scTextOf.nd
    refine ⟨_, (pss_one (ps_ret (pe_join (pe_str) (pe_lc (own := [("line", 1)]) (g := gName 1) (tt := tYes) (te := tOp rAddStr (tVar 1) (tC (.str "\n")))  rfl nd (pi_list (pv 0)) (blkOk_by (own := [("line", 1)]) (N := NTO) (sc := defScope sTextOf) (by decide +kernel)) (fun _ _ _ _ _ => pg_name (i := 1) nd rfl (.inl rfl)) (fun _ _ _ _ _ => pts_nil) (fun _ _ _ _ _ => by exact (pe_op op_add_str (pv 1) (pe_str))))))), ?_⟩
    refine ⟨⟨_, rfl⟩, ?_⟩
    refine ⟨_, rfl, p, rfl, ⟨_, hp⟩, fun D nD => ?_⟩
    refine lc_list (xs := xs.map V.str) (fun i H2 => H2 = upd H D (.lst ((xs.take i).map fun x => V.str (x ++ nlS)))) rfl (fun i H2 _ h => ?_) (fun i v H2 hv h => ?_) (fun H2 h => ?_)
    · subst h
      exact (Same.up nD).seq hp
    · subst h
      obtain ⟨x, ex, rfl⟩ := str_at hv
      have hil : i < xs.length := (List.getElem?_eq_some_iff.mp ex).1
      have h1 := hx x (List.mem_of_getElem? ex)
      refine ⟨rfl, _, rfl, x, nlS, rfl, rfl, ?_, _, upd_same, ?_, ?_⟩
      · have : nlS.length = 1 := by decide +kernel
        rw [this, sizeLine_eq]
        omega
      · rw [List.length_map, List.length_take]
        exact lineS200 (by omega)
      · rw [upd_upd, take_snoc ex, List.map_append]
        rfl
    · subst h
      rw [List.length_map, List.take_length]
      refine ⟨Str.ofString "", D, xs.map fun x => x ++ nlS, rfl, rfl, .inl (SqL.of (upd_same.trans (by rw [List.map_map]; rfl))), ?_, q _ (Same.up nD)⟩
      have h1 := len_sum (xs := xs.map fun x => x ++ nlS) (b := 10001) fun y hy => by
        obtain ⟨x, h, rfl⟩ := List.mem_map.mp hy
        rw [app_len]
        have : nlS.length = 1 := by decide +kernel
        have := hx x h
        omega
      rw [List.length_map] at h1 ⊢
      have h0 : (Str.ofString "").length = 0 := by decide +kernel
      rw [h0, Nat.mul_zero, Nat.add_zero]
      have h2 : xs.length * 10001 ≤ 900 * 10001 := Nat.mul_le_mul_right _ hl
      omega
end
end C1

/-! The lines read, the program's way and the law's. -/
namespace C1
open PySem PySem.Spec PyProof.Rows L2 SX
structure LSt where
  place : Nat
  F : Nat → List PyData
def LSt.put (s : LSt) (i : Nat) (d : PyData) : LSt := ⟨i, fun j => if j = i then s.F j ++ [d] else s.F j⟩
def spS (x : Str) : List Str := Txt.split x (Str.ofString " ")
/-- how many numbers stand behind the i-th word, if that is told -/
def manyS (i : Nat) : Option Nat := if i = 0 ∨ i = 1 then some 2 else if i = 4 then some 4 else none
def toldS (i : Nat) (rest : List Str) : Option PyData := if i = 2 then rowS rest else (numsM (manyS i) rest).map fun ns => .tuple (ns.map iD)
def stepP (s : LSt) (line : Str) : Option LSt := match spS line with
  | [] => none
  | w :: rest => if canF s.place w = true then (toldS (lineW.idxOf w) rest).map fun d => s.put (lineW.idxOf w) d else none
/-- the law's own test of a first word -/
def canL (s : LSt) (w : Str) : Bool := decide (w ∈ lineW) && (decide (s.place ≤ lineW.idxOf w) && !((decide (lineW.idxOf w = 3 ∨ lineW.idxOf w = 5) && !(s.F (lineW.idxOf w)).isEmpty) || (decide (3 < lineW.idxOf w) && (s.F 3).isEmpty)))
structure LOk (s : LSt) : Prop where
  p5 : s.place ≤ 5
  f3 : (s.F 3).isEmpty = false ↔ 3 ≤ s.place
  f5 : (s.F 5).isEmpty = false ↔ s.place = 5
theorem can_eq {s : LSt} (h : LOk s) (w : Str) : canL s w = canF s.place w := by
  unfold canL canF
  cases hw : decide (w ∈ lineW) with
  | false => rfl
  | true =>
    rw [Bool.true_and, Bool.true_and]
    have hlt : lineW.idxOf w < 6 := List.idxOf_lt_length_iff.mpr (of_decide_eq_true hw)
    obtain ⟨p5, f3, f5⟩ := h
    generalize lineW.idxOf w = i at hlt
    cases e3 : (s.F 3).isEmpty <;> cases e5 : (s.F 5).isEmpty
    all_goals
      rw [e3] at f3
      rw [e5] at f5
      simp only [true_iff, false_iff, Bool.true_eq_false, reduceCtorEq] at f3 f5
      have hi : i = 0 ∨ i = 1 ∨ i = 2 ∨ i = 3 ∨ i = 4 ∨ i = 5 := by omega
      have hp : s.place = 0 ∨ s.place = 1 ∨ s.place = 2 ∨ s.place = 3 ∨ s.place = 4 ∨ s.place = 5 := by omega
      rcases hi with rfl | rfl | rfl | rfl | rfl | rfl <;> rcases hp with q | q | q | q | q | q <;> rw [q] at f3 f5 ⊢ <;> (try omega) <;> simp_all
theorem put_ok {s : LSt} (h : LOk s) {w : Str} (hc : canF s.place w = true) (d : PyData) : LOk (s.put (lineW.idxOf w) d) := by
  unfold canF at hc
  rw [Bool.and_eq_true] at hc
  have hlt : lineW.idxOf w < 6 := List.idxOf_lt_length_iff.mpr (of_decide_eq_true hc.1)
  have h2 := hc.2
  obtain ⟨p5, f3, f5⟩ := h
  generalize lineW.idxOf w = i at hlt h2
  have key : ∀ j, ((s.put i d).F j).isEmpty = false ↔ (j = i ∨ (s.F j).isEmpty = false) := fun j => by
    show ((if j = i then s.F j ++ [d] else s.F j).isEmpty = false) ↔ _
    by_cases e : j = i
    · rw [if_pos e]
      refine ⟨fun _ => .inl e, fun _ => ?_⟩
      cases s.F j <;> rfl
    · rw [if_neg e]
      exact ⟨.inr, fun z => z.resolve_left e⟩
  split at h2
  · rename_i hi
    rw [Bool.and_eq_true, decide_eq_true_eq, decide_eq_true_eq] at h2
    refine ⟨by show i ≤ 5; omega, (key 3).trans ?_, (key 5).trans ?_⟩
    · show _ ↔ 3 ≤ i
      rw [f3]
      omega
    · show _ ↔ i = 5
      rw [f5]
      omega
  · rename_i hi
    rw [Bool.and_eq_true, decide_eq_true_eq, decide_eq_true_eq] at h2
    refine ⟨by show i ≤ 5; omega, (key 3).trans ?_, (key 5).trans ?_⟩
    · show _ ↔ 3 ≤ i
      rw [f3]
      omega
    · show _ ↔ i = 5
      rw [f5]
      omega
/-- all lines: the end, or the number of the first line that cannot stand -/
def readP : Nat → LSt → List Str → Sum Nat LSt
  | _, s, [] => .inr s
  | k, s, x :: xs => match stepP s x with
    | none => .inl (k + 1)
    | some s' => readP (k + 1) s' xs
theorem step_ok {s s' : LSt} (h : LOk s) {x : Str} (e : stepP s x = some s') : LOk s' := by
  unfold stepP at e
  split at e
  · cases e
  · rename_i w rest _
    split at e
    · rename_i hc
      cases hd : toldS (lineW.idxOf w) rest with
      | none => rw [hd] at e; cases e
      | some d =>
        rw [hd] at e
        cases e
        exact put_ok h hc d
    · cases e
end C1

/-! The lines read. -/
namespace C1
open PySem PySem.Spec PyProof.Rows L2 SX
open K0 (Cs digs isNum)
open GxR (TabG Tabbed TabB GenS)
abbrev sReadLines : Stmt := topS 43
theorem scReadLines : FnScope ["lines", "found", "place", "number", "line", "parts", "told", "word"] ["lines"] (defScope sReadLines) := ⟨rfl, rfl, rfl, by decide +kernel, rfl, by decide +kernel, by decide +kernel⟩
abbrev NRL : List Str := ["lines", "found", "place", "number", "line", "parts", "told", "word"]
def foundD (la : List Addr) : List (Key × V) := (lineW.zip la).map fun p => (.inr p.1, .ref p.2)
structure FD (K : PySem.W.Frag) (H : Hp) (dA : Addr) (la : List Addr) (s : LSt) (n : Nat) : Prop where
  d : H dA = some (.dK (foundD la))
  len : la.length = 6
  nod : la.Nodup
  out : dA ∉ la
  at' : ∀ (i : Nat) (a : Addr), la[i]? = some a → ∃ vs, H a = some (.lst vs) ∧ DpAll K H vs (s.F i)
  nol : ∀ i, noLs (s.F i) = true
  cnt : ∀ i, (s.F i).length ≤ n
theorem found_at {la : List Addr} (hl : la.length = 6) {w : Str} (hw : w ∈ lineW) {a : Addr} (ha : la[lineW.idxOf w]? = some a) : valV (foundD la) (.inr w) = some (.ref a) := by
  match la, hl with
  | [a0, a1, a2, a3, a4, a5], _ =>
    have hc : w = "register" ∨ w = "memory" ∨ w = "row" ∨ w = "next" ∨ w = "store" ∨ w = "told" := by
      unfold lineW at hw
      simpa using hw
    rcases hc with rfl | rfl | rfl | rfl | rfl | rfl
    · cases (show some a0 = some a from ha)
      rfl
    · cases (show some a1 = some a from ha)
      rfl
    · cases (show some a2 = some a from ha)
      rfl
    · cases (show some a3 = some a from ha)
      rfl
    · cases (show some a4 = some a from ha)
      rfl
    · cases (show some a5 = some a from ha)
      rfl
theorem for_enL {K : PySem.W.Frag} {a : Addr} {xs : List V} {g : TG} {tb : TS} {D : Ends} {σ : L2.St} {H : Hp} (Rv : Nat → L2.St → Hp → Prop) (h0 : Rv 0 σ H) (hl : ∀ i σ H, i ≤ xs.length → Rv i σ H → SqL K H a xs)
    (hs : ∀ i x T σ H, xs[i]? = some x → Rv i σ H → H T = none → g (.ref T) σ (upd H T (.tup [.int (i : Nat), x])) fun σ2 H2 => tb { D with nx := Rv (i + 1), ct := Rv (i + 1), bk := D.nx } σ2 H2) (hd : ∀ σ H, Rv xs.length σ H → D.nx σ H) :
    ∃ V : Nat → Nat → L2.St → Hp → Prop, (∃ m, V 0 m σ H) ∧ ∀ i m σ H, V i m σ H →
      ((Ite K a).stop i H ∧ D.nx σ H) ∨ ((Ite K a).go i H ∧ ∃ N : L2.St → Hp → Prop, (∀ σ' H', N σ' H' → ∃ m', m' < m ∧ V (i + 1) m' σ' H') ∧ ∀ x H', (Ite K a).yld i H x H' → g x σ H' fun σ2 H2 => tb { D with nx := N, ct := N, bk := D.nx } σ2 H2) := by
  refine ⟨fun i m σ H => m = xs.length - i ∧ i ≤ xs.length ∧ Rv i σ H, ?_, ?_⟩
  · exact ⟨xs.length, rfl, Nat.zero_le _, h0⟩
  rintro i m σ H ⟨rfl, hi, q⟩
  have sq := hl i σ H hi q
  by_cases lt : i < xs.length
  · refine .inr ⟨⟨xs, xs[i], sq, by simp [lt]⟩, Rv (i + 1), fun σ' H' q' => ⟨xs.length - (i + 1), by omega, rfl, lt, q'⟩, fun v H' y => ?_⟩
    obtain ⟨T, x, rfl, nT, rfl, hx⟩ := y
    exact hs i x T σ H (hx xs sq) q nT
  · obtain rfl : i = xs.length := by omega
    exact .inl ⟨⟨xs, sq, Nat.le_refl _⟩, hd σ H q⟩
section
variable {P : Program} {w : World} {K : PySem.W.Frag} {mg : Str → Option Value} {base : Heap} {T : Addr}
theorem FD.put {H : Hp} {dA : Addr} {la : List Addr} {s : LSt} {n i : Nat} {a : Addr} {vs : List V} {v : V} {d : PyData} (f : FD K H dA la s n) (ha : la[i]? = some a) (e : H a = some (.lst vs)) (hv : DpAll K H vs (s.F i)) (hd : Dp K H v d) (hn : noL d = true) :
    FD K (upd H a (.lst (vs ++ [v]))) dA la (s.put i d) (n + 1) := by
  have am : a ∈ la := List.mem_of_getElem? ha
  have st := fun b xs h => tups_upd (K := K) (o := .lst (vs ++ [v])) e b xs h
  refine ⟨?_, f.len, f.nod, f.out, fun j b hb => ?_, fun j => ?_, fun j => ?_⟩
  · rw [upd_ne (fun z => f.out (by rw [z]; exact am))]
    exact f.d
  · show ∃ us, _ ∧ DpAll K _ us (if j = i then s.F j ++ [d] else s.F j)
    by_cases hj : j = i
    · subst hj
      rw [ha] at hb
      cases hb
      rw [if_pos rfl]
      exact ⟨_, upd_same, dps_app (dps_stay st _ _ hv (f.nol j)) (.cons (dp_stay st _ _ hd hn) .nil)⟩
    · have hab : b ≠ a := fun z => by
        subst z
        obtain ⟨h1, h2⟩ := List.getElem?_eq_some_iff.mp hb
        obtain ⟨h3, h4⟩ := List.getElem?_eq_some_iff.mp ha
        exact hj ((List.getElem_inj f.nod).mp (h2.trans h4.symm))
      obtain ⟨us, e2, h2⟩ := f.at' j b hb
      rw [if_neg hj]
      exact ⟨us, by rw [upd_ne hab]; exact e2, dps_stay st _ _ h2 (f.nol j)⟩
  · show noLs (if j = i then s.F j ++ [d] else s.F j) = true
    by_cases hj : j = i
    · rw [if_pos hj, noLs_app, f.nol j]
      show (true && (noL d && true)) = true
      rw [hn]
      rfl
    · rw [if_neg hj]
      exact f.nol j
  · show (if j = i then s.F j ++ [d] else s.F j).length ≤ n + 1
    have := f.cnt j
    by_cases hj : j = i
    · rw [if_pos hj, List.length_append]
      show _ + 1 ≤ n + 1
      omega
    · rw [if_neg hj]
      omega
end
end C1

/-! name = {.. for ..} on one line, the name a local. -/
namespace SetD
open PySem PySem.Spec PyProof.Rows L2
open PySem.Sem (wp)
variable {X : Cx}
theorem ps_setDc {j : Nat} {nm : Str} {pn : Pos} {kk vv tgt itr : Expr} {tests : List Expr} {sc : Scope} {own : List (Str × Nat)} {pc pa : Pos} {ti : TI} {tg : TG} {tt : TT} {tk tv : TE}
    (calm : X.calm = true) (nodup : X.N.Nodup) (hj : X.N[j]? = some nm) (loc : X.env.scope.names.lookup nm = some .local)
    (sw : swapsWith (.DictComp kk vv [⟨tgt, itr, tests, 0⟩] sc pc) (some (.Name nm pn)) pa.line X.env = pure true) (wi : PI X tgt itr ti) (bk : BlkOk X.N X.env.scope sc own)
    (g1 : ∀ (s : Shared) (H : Hp) (C : Addr) (cl : List (Str × Addr)) (fp : List Addr), PG (X.blk s H sc (compEnvC sc cl C X.env) fp) tgt tg)
    (g2 : ∀ (s : Shared) (H : Hp) (C : Addr) (cl : List (Str × Addr)) (fp : List Addr), PTs (X.blk s H sc (compEnvC sc cl C X.env) fp) tests tt)
    (g3 : ∀ (s : Shared) (H : Hp) (C : Addr) (cl : List (Str × Addr)) (fp : List Addr), PE (X.blk s H sc (compEnvC sc cl C X.env) fp) kk tk)
    (g4 : ∀ (s : Shared) (H : Hp) (C : Addr) (cl : List (Str × Addr)) (fp : List Addr), PE (X.blk s H sc (compEnvC sc cl C X.env) fp) vv tv) (fs : ∀ x, foldedSetIterable itr X.env x = pure x := by intro _; rfl) :
    PS X (.Assign [.Name nm pn] (.DictComp kk vv [⟨tgt, itr, tests, 0⟩] sc pc) pa) (tAsg (tDc ti tg tt tk tv (own.map (·.2))) (gName j)) := by
  refine ⟨fun pins s σ H D I q => ?_⟩
  rw [exec_Assign_Name_used _ _ _ _ sw]
  refine wpAny_bind (wpAny_standAt (wpAny_bind ?_))
  have q : tDc ti tg tt tk tv (own.map (·.2)) σ H (fun v H1 => gName j v σ H1 D.nx) := q
  refine wpAny_bind (thn (dc_core (use := some (assign (.Name nm pn) X.env)) (Qf := fun _ t => SP X pins D .next t) calm nodup I wi bk g1 g2 g3 g4 fs q fun L C t mm H2 J r nC fp => ?_) fun _ t e => wpAny_pure (wpAny_pure e))
  show wpAny _ _ (assign (.Name nm pn) X.env (.ref L)) _ _ _
  refine wpAny_assign_Name (store_ok2 (v := V.ref L) J nodup hj (.inl loc) rfl (fun t2 J2 ⟨b, sb, hb⟩ => ?_) (.inr loc))
  obtain ⟨f0, f1, f2, f3, f4, f5⟩ := fp
  have nb : C ≠ b := by
    rcases hb with z | z
    · rw [z]
      exact f1
    · exact fun e => f4 nm b z e.symm
  exact ⟨mm, nC.sameBut sb nb, fun h3 sb3 => ⟨_, H2, J2.turned (t' := t2.toks) (fun c o hc e => (sb3.2 c hc).trans e) f0 f1 f3 f4 f5, r⟩⟩
theorem swD {kk vv : Expr} {gs : List Comprehension} {sc : Scope} {pc pn : Pos} {nm : Str} {l : Nat} {env : Env} (hk : env.scope.kind = .function) (hy : env.scope.names.lookup nm = some .local) (hl : (pn.line == pc.line) = true)
    (ha : (sc.names.any fun (n, k) => n == nm && (k == .local || k == .cell)) = false) : swapsWith (.DictComp kk vv gs sc pc) (some (.Name nm pn)) l env = pure true := by
  have k1 : env.kindOf nm = some .local := hy
  have k2 : env.blockKind = .function := by
    unfold Env.blockKind
    rw [hk]
    rfl
  unfold swapsWith
  simp only [k2, k1, ha, Expr.pos, hl]
  rfl
end SetD

/-! The lines read, by the program. -/
namespace C1
open PySem PySem.Spec PyProof.Rows L2 SX
open K0 (Cs digs isNum)
open GxR (TabG Tabbed TabB GenS)
def st0 : LSt := ⟨0, fun _ => []⟩
theorem ok0 : LOk st0 := ⟨by decide, by decide, by decide⟩
structure BR (mg : Str → Option Value) : Prop where
  enumerate : mg "enumerate" = none
section
variable {P : Program} {w : World} {K : PySem.W.Frag} {mg : Str → Option Value} {base : Heap} {T : Addr}
theorem noLs_i : ∀ m : List Nat, noLs (m.map iD) = true
  | [] => rfl
  | _ :: r => noLs_i r
theorem row_noL {xs : List Str} {d : PyData} (h : rowS xs = some d) : noL d = true := by
  have key : ∀ (o : Option (List Nat)) (pre : List PyData), noLs pre = true → (o.map fun ns => PyData.tuple (pre ++ ns.map iD)) = some d → noL d = true := fun o pre hp e => by
    cases o with
    | none => cases e
    | some ns =>
      cases e
      show noLs (pre ++ ns.map iD) = true
      rw [noLs_app, hp, noLs_i]
      rfl
  unfold rowS at h
  split at h
  · cases h
  · rename_i k rest
    split at h
    · cases h
    · rename_i n _
      split at h
      · split at h
        · rename_i g ends
          split at h
          · exact key _ [.str k, .str g] rfl h
          · cases h
        · cases h
      · exact key _ [.str k] rfl h
theorem told_noL {i : Nat} {rest : List Str} {d : PyData} (h : toldS i rest = some d) : noL d = true := by
  unfold toldS at h
  split at h
  · exact row_noL h
  · cases e : numsM (manyS i) rest with
    | none => rw [e] at h; cases h
    | some ns =>
      rw [e] at h
      cases h
      exact noLs_i ns
theorem FD.gr {H H' : Hp} {dA : Addr} {la : List Addr} {s : LSt} {n : Nat} (f : FD K H dA la s n) (tb : TabG H T) (g : Gr T H H') : FD K H' dA la s n :=
  ⟨g.at tb f.d (fun ps z => by cases z), f.len, f.nod, f.out, fun i a h => by
    obtain ⟨vs, e, d⟩ := f.at' i a h
    exact ⟨vs, g.at tb e (fun ps z => by cases z), dps_stay (fun b xs h => g.seqT tb h) _ _ d (f.nol i)⟩, f.nol, f.cnt⟩
def FD0 (K : PySem.W.Frag) (H : Hp) (dA : Addr) (la : List Addr) (i : Nat) : Prop := la.length = i ∧ la.Nodup ∧ dA ∉ la ∧ H dA = some (.dK (((lineW.take i).zip la).map fun p => (.inr p.1, .ref p.2))) ∧ ∀ a ∈ la, H a = some (.lst [])
theorem put_new {i : Nat} {la : List Addr} {wd : Str} {a : Addr} (hw : lineW[i]? = some wd) (hl : la.length = i) :
    putK (((lineW.take i).zip la).map fun p => ((.inr p.1 : Key), V.ref p.2)) (.inr wd) (.ref a) = ((lineW.take (i + 1)).zip (la ++ [a])).map fun p => ((.inr p.1 : Key), V.ref p.2) := by
  have hi : i < 6 := (List.getElem?_eq_some_iff.mp hw).1
  have hc : i = 0 ∨ i = 1 ∨ i = 2 ∨ i = 3 ∨ i = 4 ∨ i = 5 := by omega
  rcases hc with rfl | rfl | rfl | rfl | rfl | rfl
  · match la, hl with
    | [], _ => cases hw; rfl
  · match la, hl with
    | [a0], _ => cases hw; rfl
  · match la, hl with
    | [a0, a1], _ => cases hw; rfl
  · match la, hl with
    | [a0, a1, a2], _ => cases hw; rfl
  · match la, hl with
    | [a0, a1, a2, a3], _ => cases hw; rfl
  · match la, hl with
    | [a0, a1, a2, a3, a4], _ => cases hw; rfl
def spReadL (K : PySem.W.Frag) (T C : Addr) : Sp := fun vs H Q E => ∃ (p : Addr) (xs : List Str), vs = [.ref p] ∧ SqL K H p (xs.map V.str) ∧ (∀ x ∈ xs, x.cps.size ≤ 100000 ∧ (spS x).length ≤ 900 ∧ ∀ y ∈ spS x, y.cps.size ≤ 100000) ∧ xs.length ≤ 900 ∧ TabG H T ∧
  (∀ s, readP 0 st0 xs = .inr s → ∀ H' dA la, Gr T H H' → FD K H' dA la s xs.length → LOk s → Q (.ref dA) H') ∧
  ∀ n, readP 0 st0 xs = .inl n → ∀ H' d, Gr T H H' → H' d = some (.xd (fsL (n : Nat))) → E (.ref C) (some d) H'
theorem ok_readLines {f fC fW fN fI C aW aM : Addr} {fd fdC fdW fdN fdI : FuncData} {es : Array DictEntry} {nn : Nat} {oW : Obj} (F : Fun K "read_lines" "read_lines" sReadLines f fd) (B : BR mg)
    (gW : mg "LINE_WORDS" = some (.ref aW)) (sW : ∀ H, SqT K H aW (lineW.map V.str)) (l1 : K.lookup aW = some oW) (l2 : oW.cls = .type "tuple") (l3 : oW.dict = none) (gM : mg "LINE_NUMBERS" = some (.ref aM))
    (M : KDict K w aM es nn) (mN : ∀ z ∈ lineW, ∃ r v, PySem.W.nsIn K aM z = some r ∧ RelV v (r.getD .none) ∧ v = mV (manyS (lineW.idxOf z)))
    (GC : FnOk P w K mg base CX0 1 fC fdC ["place", "word"] spCanF) (kC : PySem.W.keepIn K (.ref fC) = true) (bC : Binds K fdC ["place", "word"] []) (gC : mg "can_follow" = some (.ref fC))
    (GO : FnOk P w K mg base CX0 4 fW fdW ["parts"] (spRowL K T)) (kO : PySem.W.keepIn K (.ref fW) = true) (bO : Binds K fdW ["parts"] []) (gO : mg "read_row" = some (.ref fW))
    (GN : FnOk P w K mg base CX0 3 fN fdN ["parts", "many"] (spRNum K T)) (kN : PySem.W.keepIn K (.ref fN) = true) (bN : Binds K fdN ["parts", "many"] []) (gN : mg "read_numbers" = some (.ref fN))
    (R : ErrB K mg C fI) (tI : PySem.W.typeIn K (.ref fI) = some (.type "function")) (GI : FnOk P w K mg base CX0 1 fI fdI ["self", "line"] (spInitB K)) (bI : Binds K fdI ["self", "line"] []) :
    FnOk P w K mg base (L2.CX P w) 5 f fd ["lines"] (spReadL K T C) := by
  refine F.okX scReadLines (fun vs H Q E h => ?_) (fun cdv A outer s H vs Q E hr h => ?_)
  · obtain ⟨p, xs, rfl, _⟩ := h
    rfl
  · obtain ⟨p, xs, rfl, hp, hx, hl, tb, q, qe⟩ := h
    have nd := scReadLines.nd
    have hr4 : Room 4 _ := hr
    have hr3 : Room 3 _ := hr.mono (by decide)
    have hr2 : Room 2 _ := hr.mono (by decide)
    have hr1 : Room 1 _ := hr.mono (by decide)
    have hud := hu_of hr
    refine ⟨_, (pss_cons (SetD.ps_setDc (j := 1) (own := [("word", 7)]) (tg := gName 7) (tt := tYes) (tk := tVar 7) (tv := tLst tNil) rfl nd rfl rfl (SetD.swD rfl rfl rfl (by decide +kernel)) (pi_tup (pe_glob (v := .ref aW) (by rfl) gW rfl)) (blkOk_by (own := [("word", 7)]) (N := NRL) (sc := defScope sReadLines) (by decide +kernel)) (fun _ _ _ _ _ => pg_name (i := 7) nd rfl (.inl rfl)) (fun _ _ _ _ _ => pts_nil) (fun _ _ _ _ _ => by exact (pv 7)) (fun _ _ _ _ _ => by exact (pe_lst pa_nil)))
      (pss_cons (ps_set (i := 2) nd rfl (.inl rfl) (pe_int))
      (C8.pss_cut (ps_for (passes_of rfl) rfl (pi_enum (by rfl) B.enumerate (pa_cons (pv 0) pa_nil)) (pg_tup (by rfl) (pgs_cons (pg_name (i := 3) nd rfl (.inl rfl)) (pgs_cons (pg_name (i := 4) nd rfl (.inl rfl)) pgs_nil))) (pss_cons (ps_set (i := 5) nd rfl (.inl rfl) (pe_split (pv 4) (pe_str)))
      (pss_cons (ps_if (pt_not (pt_val (pe_call GC hr1 (by rfl) gC kC bC .nil pass0 (pa_cons (pv 2) (pa_cons (pe_ix ix_list (pv 5) (pe_int) (fun _ _ => rfl)) pa_nil))))) (pss_one (ps_raise rfl (takes_of rfl rfl rfl rfl) (pmk_oex R.o R.iC tI GI hr2 bI .nil pass0 (by rfl) R.g (pa_cons (pe_op op_add (pv 3) (pe_int)) pa_nil)))) pss_nil)
      (pss_cons (ps_set (i := 2) nd rfl (.inl rfl) (pe_bm PySem.F.plainAttrs_tuple PySem.F.slot_tuple_index PySem.F.type_tuple_index mt_tupIx (pe_glob (v := .ref aW) (by rfl) gW rfl) (pa_cons (pe_ix ix_list (pv 5) (pe_int) (fun _ _ => rfl)) pa_nil)))
      (C8.pss_cut (ps_set (i := 6) nd rfl (.inl rfl) (pe_ifExp (pt_cmpR op_eq (pe_ix ix_list (pv 5) (pe_int) (fun _ _ => rfl)) (pe_str) (nomark _)) (pe_call GO hr4 (by rfl) gO kO bO .nil pass0 (pa_cons (pe_slice sl_list (pv 5) (po_some (pe_int)) po_none) pa_nil)) (pe_call GN hr3 (by rfl) gN kN bN .nil pass0 (pa_cons (pe_slice sl_list (pv 5) (po_some (pe_int)) po_none) (pa_cons (pe_kget (pe_glob (v := .ref aM) (by rfl) gM rfl) (pe_ix ix_list (pv 5) (pe_int) (fun _ _ => rfl)) ⟨rfl, rfl, rfl, rfl⟩) pa_nil)))))
      (pss_cons (ps_if (pt_cmpR op_isN (pv 6) (pe_non) (nomark _)) (pss_one (ps_raise rfl (takes_of rfl rfl rfl rfl) (pmk_oex R.o R.iC tI GI hr2 bI .nil pass0 (by rfl) R.g (pa_cons (pe_op op_add (pv 3) (pe_int)) pa_nil)))) pss_nil)
      (pss_one (ps_expr (pe_bm PySem.F.plainAttrs_list PySem.F.slot_list_append PySem.F.type_list_append mt_append (pe_dget hud (pv 1) (pe_ix ix_list (pv 5) (pe_int) (fun _ _ => rfl)) (fun _ _ => rfl)) (pa_cons (pv 6) pa_nil))))))))))
      (pss_one (ps_ret (pv 1)))))), ?_⟩
    refine ⟨aW, rfl, ⟨_, sW _⟩, fun dA ndA => ?_⟩
    refine dc_tup (xs := lineW.map V.str) (fun i H1 => Same H H1 ∧ ∃ la, (∀ a ∈ la, H a = none) ∧ FD0 K H1 dA la i) ⟨Same.up ndA, [], (fun a h => by cases h), rfl, List.nodup_nil, (fun z => by cases z), upd_same, fun a h => by cases h⟩ (fun i H1 _ h => sW _) (fun i v H1 hv h => ?_) (fun H1 h => ?_)
    · obtain ⟨s1, la, hnew, h1, h2, h3, h4, h5⟩ := h
      obtain ⟨wd, ew, rfl⟩ := str_at hv
      refine ⟨rfl, _, rfl, Nat.zero_le _, fun a na => ⟨((lineW.take i).zip la).map fun p => ((.inr p.1 : Key), V.ref p.2), .inr wd, rfl, ?_, ?_, ?_, la ++ [a], (fun b hb => (List.mem_append.mp hb).elim (hnew b) fun z => by rw [List.mem_singleton.mp z]; exact s1.free na), ?_⟩⟩
      · rw [upd_ne (ne_of_none h4 na)]
        exact h4
      · rw [List.length_map, List.length_zip, h1, List.length_take]
        have : lineW.length = 6 := rfl
        exact lineS200 (by omega)
      · exact same_put (s1.trans (Same.up na)) ndA
      · have ala : a ∉ la := fun z => by
          rw [h5 a z] at na
          cases na
        have adA : dA ≠ a := ne_of_none h4 na
        refine ⟨by rw [List.length_append, h1]; rfl, ?_, fun z => ?_, ?_, fun b hb => ?_⟩
        · exact List.nodup_append.mpr ⟨h2, List.nodup_cons.mpr ⟨(fun z => by cases z), List.nodup_nil⟩, fun x hx y hy e => by
            rw [List.mem_singleton.mp hy] at e
            exact ala (e ▸ hx)⟩
        · rcases List.mem_append.mp z with z | z
          · exact h3 z
          · exact adA (List.mem_singleton.mp z)
        · rw [upd_same, put_new ew h1]
        · rcases List.mem_append.mp hb with z | z
          · have n1 : b ≠ dA := fun e => h3 (by rw [← e]; exact z)
            have n2 : b ≠ a := fun e => ala (by rw [← e]; exact z)
            rw [upd_ne n1, upd_ne n2]
            exact h5 b z
          · rw [List.mem_singleton.mp z, upd_ne adA.symm]
            exact upd_same
    obtain ⟨s1, la, hnew, h1, h2, h3, h4, h5⟩ := h
    have g1 : Gr T H H1 := by
      obtain ⟨ps, e, r⟩ := tb
      exact ⟨⟨ps, s1 _ _ e, r⟩, fun b o _ e => s1 b o e⟩
    have tb1 := g1.tab
    have f0 : FD K H1 dA la st0 0 := ⟨h4, h1, h2, h3, fun i a h => ⟨[], h5 a (List.mem_of_getElem? h), .nil⟩, fun i => rfl, fun i => Nat.le_refl 0⟩
    let Iv : Nat → L2.St → Hp → Prop := fun i σ H' => ∃ (u : LSt) (y3 y4 y5 y6 : Option V), σ = [some (.ref p), some (.ref dA), some (iV u.place), y3, y4, y5, y6, none] ∧ Gr T H H' ∧ FD K H' dA la u i ∧ LOk u ∧ readP 0 st0 xs = readP i u (xs.drop i)
    refine ⟨fun σ H' => Iv xs.length σ H', ?_, ?_⟩
    · refine ⟨_, rfl, p, _, rfl, g1.seqL tb hp, ?_⟩
      refine for_enL (xs := xs.map V.str) Iv ⟨st0, none, none, none, none, rfl, g1, f0, ok0, rfl⟩ (fun i σ H' _ h => ?_) (fun i v U σ H' hv h nU => ?_) (fun σ H' h => ?_)
      · obtain ⟨_, _, _, _, _, _, g, _⟩ := h
        exact g.seqL tb hp
      · obtain ⟨u, y3, y4, y5, y6, rfl, g, fd', ok, er⟩ := h
        obtain ⟨x, ex, rfl⟩ := str_at hv
        have hil : i < xs.length := (List.getElem?_eq_some_iff.mp ex).1
        obtain ⟨b1, b2, b3⟩ := hx x (List.mem_of_getElem? ex)
        have hpos : 0 < (spS x).length := by
          have h1 : ((spS x).length : Int) = 1 + PyProof.Rows.cnt 32 x.cps.toList := PyProof.Rows.split_len x 32
          have h2 := (cnt_bd 32 x.cps.toList).1
          omega
        obtain ⟨wd, rest, esp⟩ : ∃ wd rest, spS x = wd :: rest := by
          cases e : spS x with
          | nil => rw [e] at hpos; cases hpos
          | cons a b => exact ⟨a, b, rfl⟩
        rw [esp] at b2 b3
        have edrop : xs.drop i = x :: xs.drop (i + 1) := by
          obtain ⟨h1, h2⟩ := List.getElem?_eq_some_iff.mp ex
          rw [List.drop_eq_getElem_cons h1, h2]
        have eS : stepP u x = if canF u.place wd = true then (toldS (lineW.idxOf wd) rest).map fun d => u.put (lineW.idxOf wd) d else none := by
          unfold stepP
          rw [esp]
        have er2 : readP 0 st0 xs = match stepP u x with | none => .inl (i + 1) | some s' => readP (i + 1) s' (xs.drop (i + 1)) := by
          rw [er, edrop]
          rfl
        have gU : Gr T H (upd H' U (.tup [.int ((i : Nat) : Int), .str x])) := g.trans (Gr.laid g.tab nU)
        have fdU := fd'.gr g.tab (Gr.laid (o := .tup [.int ((i : Nat) : Int), .str x]) g.tab nU)
        refine ⟨U, _, rfl, SqT.of upd_same, rfl, _, _, rfl, _, _, rfl, rfl, ?_⟩
        generalize upd H' U (.tup [.int ((i : Nat) : Int), .str x]) = H2 at gU fdU
        refine ⟨_, rfl, ⟨x, rfl⟩, x, Str.ofString " ", rfl, rfl, rfl, (by show x.cps.size + 2 ≤ sizeLine; rw [sizeLine_eq]; omega), fun pr npr => ?_⟩
        have gP : Gr T H (upd H2 pr (.lst ((Txt.split x (Str.ofString " ")).map V.str))) := gU.trans (Gr.laid gU.tab npr)
        have fdP := fdU.gr gU.tab (Gr.laid (o := .lst ((Txt.split x (Str.ofString " ")).map V.str)) gU.tab npr)
        have eP : (upd H2 pr (.lst ((Txt.split x (Str.ofString " ")).map V.str))) pr = some (.lst ((wd :: rest).map V.str)) := upd_same.trans (congrArg (fun l => some (HO.lst (List.map V.str l))) esp)
        generalize upd H2 pr (.lst ((Txt.split x (Str.ofString " ")).map V.str)) = H3 at gP fdP eP
        refine ⟨_, rfl, _, rfl, pr, _, _, _, rfl, rfl, SqL.of eP, atI_nat (j := 0) rfl, u.place, wd, rfl, ⟨_, rfl, ?_⟩⟩
        have raise : stepP u x = none → ∀ H4, Gr T H H4 → ∀ a, H4 a = none → _ := fun e H4 g4 => raise_line (H := H4) (n := ((i : Nat) : Int) + 1) (Qx := fun cls d H' => E cls d H') R ⟨by omega, by omega⟩ fun d H5 s5 _ e5 => qe (i + 1) (by rw [er2, e]) H5 d (g4.trans ⟨(by obtain ⟨ps, e, r⟩ := g4.tab; exact ⟨ps, s5 _ _ e, r⟩), fun b o _ e => s5 b o e⟩) e5
        cases hc : canF u.place wd with
        | false =>
          refine iteT ⟨_, rfl, _, _, rfl, rfl, (by show 1 ≤ 1000; decide), ?_⟩
          exact raise (by rw [eS, hc]; rfl) _ gP
        | true =>
          refine iteF ?_
          have hw : wd ∈ lineW := by
            unfold canF at hc
            rw [Bool.and_eq_true] at hc
            exact of_decide_eq_true hc.1
          have hrl : rest.length ≤ 900 := by
            have : (wd :: rest).length = rest.length + 1 := rfl
            omega
          refine ⟨.inr (.inl ⟨rfl, oW, l1, l2, l3⟩), _, rfl, pr, _, _, _, rfl, rfl, SqL.of eP, atI_nat (j := 0) rfl, aW, lineW, wd, rfl, rfl, sW _, hw, ?_⟩
          refine ⟨fun σ H4 => ∃ (v6 : V), σ = [some (.ref p), some (.ref dA), some (iV (lineW.idxOf wd)), some (iV i), some (.str x), some (.ref pr), some v6, none] ∧ Gr T H3 H4 ∧ ((v6 = .non ∧ toldS (lineW.idxOf wd) rest = none) ∨ ∃ t d, v6 = .ref t ∧ toldS (lineW.idxOf wd) rest = some d ∧ Dp K H4 (.ref t) d), ?_, ?_⟩
          · refine ⟨_, rfl, pr, _, _, _, rfl, rfl, SqL.of eP, atI_nat (j := 0) rfl, rfl, _, rfl, ?_⟩
            by_cases hrow : wd = "row"
            · refine iteT' (decide_eq_true (by rw [hrow])) ?_
              have eT : toldS (lineW.idxOf wd) rest = rowS rest := by
                rw [hrow]
                rfl
              refine ⟨_, rfl, _, rfl, pr, _, rfl, SqL.of eP, fun s0 n0 => ?_⟩
              have g0 : Gr T H3 (upd H3 s0 (.lst (cutV ((wd :: rest).map V.str) (some 1) none))) := Gr.laid gP.tab n0
              refine ⟨s0, rest, rfl, SqL.of (upd_same.trans (congrArg (fun l => some (HO.lst l)) (cut_one (.str wd) (rest.map V.str)))), fun y h => b3 y (List.mem_cons_of_mem _ h), hrl, g0.tab, fun H5 g5 e => ?_, fun H5 t d g5 e dt => ?_⟩
              · exact ⟨.non, rfl, g0.trans g5, .inl ⟨rfl, by rw [eT, e]⟩⟩
              · exact ⟨.ref t, rfl, g0.trans g5, .inr ⟨t, d, rfl, by rw [eT, e], dt⟩⟩
            · refine iteF' (decide_eq_false (fun z => hrow (V.str.inj z))) ?_
              have hn2 : lineW.idxOf wd ≠ 2 := fun z => by
                have h6 := List.idxOf_lt_length_iff.mpr hw
                have e : lineW[lineW.idxOf wd]? = some wd := by rw [List.getElem?_eq_getElem h6, List.getElem_idxOf h6]
                rw [z] at e
                exact hrow (Option.some.inj (show some ("row" : Str) = some wd from e)).symm
              have eT : toldS (lineW.idxOf wd) rest = (numsM (manyS (lineW.idxOf wd)) rest).map fun ns => .tuple (ns.map iD) := if_neg hn2
              obtain ⟨r, v, en, rv, ev⟩ := mN wd hw
              subst ev
              refine ⟨_, rfl, _, rfl, pr, _, rfl, SqL.of eP, fun s0 n0 => ?_⟩
              have g0 : Gr T H3 (upd H3 s0 (.lst (cutV ((wd :: rest).map V.str) (some 1) none))) := Gr.laid gP.tab n0
              have eP0 := g0.at gP.tab eP (fun ps z => by cases z)
              refine ⟨aM, es, nn, rfl, M, _, rfl, pr, _, _, _, rfl, rfl, SqL.of eP0, atI_nat (j := 0) rfl, wd, r, _, rfl, en, rv, s0, rest, manyS (lineW.idxOf wd), rfl, SqL.of (upd_same.trans (congrArg (fun l => some (HO.lst l)) (cut_one (.str wd) (rest.map V.str)))), fun y h => b3 y (List.mem_cons_of_mem _ h), hrl, g0.tab, fun H5 g5 e => ?_, fun H5 t ns g5 e sq => ?_⟩
              · exact ⟨.non, rfl, g0.trans g5, .inl ⟨rfl, by rw [eT, e]; rfl⟩⟩
              · exact ⟨.ref t, rfl, g0.trans g5, .inr ⟨t, _, rfl, by rw [eT, e]; rfl, .tup sq (dps_ints ns)⟩⟩
          · rintro σ H4 ⟨v6, rfl, g4, hv6⟩
            have G4 := gP.trans g4
            have fd4 := fdP.gr gP.tab g4
            have eP4 := g4.at gP.tab eP (fun ps z => by cases z)
            refine ⟨_, rfl, rfl, _, rfl, ?_⟩
            rcases hv6 with ⟨rfl, e⟩ | ⟨t, d, rfl, e, dt⟩
            · refine iteT ⟨_, rfl, _, _, rfl, rfl, (by show 1 ≤ 1000; decide), ?_⟩
              exact raise (by rw [eS, hc, if_pos rfl, e]; rfl) _ G4
            · refine iteF ?_
              have eS2 : stepP u x = some (u.put (lineW.idxOf wd) d) := by
                rw [eS, hc, if_pos rfl, e]
                rfl
              have h6 : lineW.idxOf wd < la.length := by
                rw [fd4.len]
                exact List.idxOf_lt_length_iff.mpr hw
              obtain ⟨aa, haa⟩ : ∃ aa, la[lineW.idxOf wd]? = some aa := ⟨_, List.getElem?_eq_getElem h6⟩
              obtain ⟨vs, ev, dv⟩ := fd4.at' _ _ haa
              have dg : DGet H4 dA (.str wd) (some (.ref aa)) := by
                have := DGet.k (k := .inr wd) fd4.d
                rw [found_at fd4.len hw haa] at this
                exact this
              have naa := hnew aa (List.mem_of_getElem? haa)
              have nT : aa ≠ T := tab_is G4.tab ev (fun ps z => by cases z)
              have lvs := dps_len dv
              have hcnt := fd4.cnt (lineW.idxOf wd)
              refine ⟨_, rfl, _, rfl, pr, _, _, _, rfl, rfl, SqL.of eP4, atI_nat (j := 0) rfl, dA, _, rfl, dg, .inl ⟨rfl, _, SqL.of ev⟩, _, rfl, aa, _, _, rfl, rfl, ev, lineS200 (by omega), ?_⟩
              refine ⟨u.put (lineW.idxOf wd) d, _, _, _, _, rfl, ⟨?_, fun b o nb eb => ?_⟩, FD.put fd4 haa ev dv dt (told_noL e), put_ok ok hc d, by rw [er2, eS2]⟩
              · obtain ⟨ps, e3, r3⟩ := G4.tab
                exact ⟨ps, by rw [upd_ne nT.symm]; exact e3, r3⟩
              · rw [upd_ne (ne_of_none eb naa)]
                exact G4.old b o nb eb
      · rw [List.length_map] at h
        exact h
    rintro σ H' ⟨u, y3, y4, y5, y6, rfl, g, fd', ok, er⟩
    rw [List.drop_length] at er
    exact ⟨_, rfl, q u er H' dA la g fd' ok⟩
end
end C1

/-! A circuit's text, read by the program. -/
namespace C1
open PySem PySem.Spec PyProof.Rows L2 SX
open K0 (Cs digs isNum)
open GxR (TabG Tabbed TabB GenS)
abbrev sParseCircuit : Stmt := topS 42
theorem scParseCircuit : FnScope ["text", "lines", "found", "circuit"] ["text"] (defScope sParseCircuit) := ⟨rfl, rfl, rfl, by decide +kernel, rfl, by decide +kernel, by decide +kernel⟩
abbrev NPC : List Str := ["text", "lines", "found", "circuit"]
def circD (s : LSt) : PyData := .tuple [.tuple (s.F 0), .tuple (s.F 1), .tuple (s.F 2), (s.F 3).headD .none, .tuple (s.F 4), (s.F 5).headD .none]
def linesOf (x : Str) : List Str := (splitL x).dropLast
def parseS (x : Str) : Sum Nat PyData := if wholeB x = true then (match readP 0 st0 (linesOf x) with
    | .inl n => .inl n
    | .inr s => if (s.F 5).isEmpty = true then .inl (linesOf x).length else if circB (circD s) = true then .inr (circD s) else .inl (linesOf x).length)
  else .inl (splitL x).length
/-- a line that is not too long -/
def LnOkS (y : Str) : Prop := y.cps.size ≤ 100000 ∧ (spS y).length ≤ 900 ∧ ∀ z ∈ spS y, z.cps.size ≤ 100000
def gdT (d : PyData) : Prop := gd 2 d = true ∧ ∃ ds, d = .tuple ds
theorem gd_ints (n : Nat) (ns : List Nat) : (ns.map iD).all (gd n) = true := List.all_eq_true.mpr fun d hd => by
  obtain ⟨k, _, rfl⟩ := List.mem_map.mp hd
  exact gd_int _
theorem numsM_len {m : Option Nat} {xs : List Str} {ns : List Nat} (h : numsM m xs = some ns) : ns.length = xs.length := by
  have key : ∀ {xs : List Str}, numsS xs = some ns → ns.length = xs.length := fun {xs} e => by
    unfold numsS at e
    split at e
    · cases e
      exact List.length_map _
    · cases e
  cases m with
  | none => exact key h
  | some k =>
    have h' : (if xs.length = k then numsS xs else none) = some ns := h
    by_cases e : xs.length = k
    · rw [if_pos e] at h'
      exact key h'
    · rw [if_neg e] at h'
      cases h'
theorem row_gdT {xs : List Str} {d : PyData} (h : rowS xs = some d) (hl : xs.length ≤ 900) : gdT d := by
  have kindI : ∀ {k : Str} {m : Nat}, lensOf k = some m → k ∈ strsL := fun {k m} e => by
    have h1 : ∀ p ∈ rowLens, p.1 ∈ strsL := by decide +kernel
    have key : ∀ (l : List (Str × Nat)), l.lookup k = some m → ∃ p ∈ l, p.1 = k := fun l => by
      induction l with
      | nil => intro h; cases h
      | cons a l ih =>
        intro h
        rw [List.lookup_cons] at h
        split at h
        · rename_i e2
          exact ⟨a, List.mem_cons_self .., (beq_iff_eq.mp e2).symm⟩
        · obtain ⟨p, hp, e⟩ := ih h
          exact ⟨p, List.mem_cons_of_mem _ hp, e⟩
    obtain ⟨p, hp, e3⟩ := key _ e
    rw [← e3]
    exact h1 p hp
  have hsg : ∀ g ∈ signW, g ∈ strsL := by decide +kernel
  have key : ∀ (o : Option (List Nat)) (pre : List PyData), pre.length ≤ 2 → pre.all (gd 1) = true → (∀ ns, o = some ns → ns.length ≤ 900) → (o.map fun ns => PyData.tuple (pre ++ ns.map iD)) = some d → gdT d := fun o pre hp ha hn e => by
    cases o with
    | none => cases e
    | some ns =>
      cases e
      refine ⟨Bool.and_eq_true_iff.mpr ⟨decide_eq_true ?_, ?_⟩, _, rfl⟩
      · have := hn ns rfl
        rw [List.length_append, List.length_map]
        omega
      · rw [List.all_append, ha, gd_ints]
        rfl
  unfold rowS at h
  split at h
  · cases h
  · rename_i k rest
    have hr : rest.length ≤ 900 := by
      have : (k :: rest).length = rest.length + 1 := rfl
      omega
    split at h
    · cases h
    · rename_i n en
      have hk := kindI en
      split at h
      · split at h
        · rename_i g ends
          split at h
          · rename_i hg
            refine key _ [.str k, .str g] (Nat.le_refl 2) ?_ (fun ns e => ?_) h
            · show (decide (k ∈ strsL) && (decide (g ∈ strsL) && true)) = true
              rw [decide_eq_true hk, decide_eq_true (hsg g hg.2)]
              rfl
            · rw [numsM_len e]
              have : (g :: ends).length = ends.length + 1 := rfl
              omega
          · cases h
        · cases h
      · refine key _ [.str k] (Nat.le_succ 1) ?_ (fun ns e => ?_) h
        · show (decide (k ∈ strsL) && true) = true
          rw [decide_eq_true hk]
          rfl
        · rw [numsM_len e]
          exact hr
theorem told_gdT {i : Nat} {rest : List Str} {d : PyData} (h : toldS i rest = some d) (hl : rest.length ≤ 900) : gdT d := by
  unfold toldS at h
  split at h
  · exact row_gdT h hl
  · cases e : numsM (manyS i) rest with
    | none => rw [e] at h; cases h
    | some ns =>
      rw [e] at h
      cases h
      refine ⟨Bool.and_eq_true_iff.mpr ⟨decide_eq_true ?_, gd_ints _ _⟩, _, rfl⟩
      rw [List.length_map, numsM_len e]
      omega
def AllT (s : LSt) : Prop := ∀ i, ∀ d ∈ s.F i, gdT d
theorem step_all {s s' : LSt} (h : AllT s) {x : Str} (hx : (spS x).length ≤ 900) (e : stepP s x = some s') : AllT s' := by
  unfold stepP at e
  split at e
  · cases e
  · rename_i wd rest es
    rw [es] at hx
    have hr : rest.length ≤ 900 := by
      have : (wd :: rest).length = rest.length + 1 := rfl
      omega
    split at e
    · cases ed : toldS (lineW.idxOf wd) rest with
      | none => rw [ed] at e; cases e
      | some d =>
        rw [ed] at e
        cases e
        intro i d' hd
        have hd2 : d' ∈ (if i = lineW.idxOf wd then s.F i ++ [d] else s.F i) := hd
        split at hd2
        · rcases List.mem_append.mp hd2 with z | z
          · exact h i d' z
          · rw [List.mem_singleton.mp z]
            exact told_gdT ed hr
        · exact h i d' hd2
    · cases e
theorem step_cnt {s s' : LSt} {n : Nat} (h : ∀ i, (s.F i).length ≤ n) {x : Str} (e : stepP s x = some s') : ∀ i, (s'.F i).length ≤ n + 1 := by
  unfold stepP at e
  split at e
  · cases e
  · split at e
    · rename_i wd rest _ _
      cases ed : toldS (lineW.idxOf wd) rest with
      | none => rw [ed] at e; cases e
      | some d =>
        rw [ed] at e
        cases e
        intro i
        show (if i = lineW.idxOf wd then s.F i ++ [d] else s.F i).length ≤ n + 1
        have := h i
        split
        · rw [List.length_append]
          show _ + 1 ≤ n + 1
          omega
        · omega
    · cases e
theorem read_all : ∀ (xs : List Str) {k n : Nat} {s s' : LSt}, AllT s → LOk s → (∀ i, (s.F i).length ≤ n) → (∀ x ∈ xs, (spS x).length ≤ 900) → readP k s xs = .inr s' → AllT s' ∧ LOk s' ∧ ∀ i, (s'.F i).length ≤ n + xs.length
  | [], k, n, s, s', h, ok, hn, _, e => by
    cases e
    exact ⟨h, ok, hn⟩
  | x :: xs, k, n, s, s', h, ok, hn, hx, e => by
    unfold readP at e
    cases es : stepP s x with
    | none => rw [es] at e; cases e
    | some s2 =>
      rw [es] at e
      obtain ⟨a, b, c⟩ := read_all xs (step_all h (hx x (List.mem_cons_self ..)) es) (step_ok ok es) (step_cnt hn es) (fun y hy => hx y (List.mem_cons_of_mem _ hy)) e
      refine ⟨a, b, fun i => ?_⟩
      have := c i
      show _ ≤ n + (xs.length + 1)
      omega
theorem read_some {n : Nat} {d : PyData} {L : List PyData} (h : L.isEmpty = false) : ∃ d, L[0]? = some d ∧ L.headD .none = d := by
  cases L with
  | nil => cases h
  | cons a l => exact ⟨a, rfl, rfl⟩
theorem circ_gd {s : LSt} (h : AllT s) (hn : ∀ i, (s.F i).length ≤ 900) : gd 4 (circD s) = true := by
  have one : ∀ i, gd 3 (.tuple (s.F i)) = true := fun i => Bool.and_eq_true_iff.mpr ⟨decide_eq_true (by have := hn i; omega), List.all_eq_true.mpr fun d hd => (h i d hd).1⟩
  have up : ∀ d, gd 2 d = true → (∃ ds, d = .tuple ds) → gd 3 d = true := fun d h1 h2 => by
    obtain ⟨ds, rfl⟩ := h2
    obtain ⟨a, b⟩ := Bool.and_eq_true_iff.mp h1
    refine Bool.and_eq_true_iff.mpr ⟨a, List.all_eq_true.mpr fun d hd => ?_⟩
    have := List.all_eq_true.mp b d hd
    cases d with
    | tuple es =>
      obtain ⟨a2, b2⟩ := Bool.and_eq_true_iff.mp (show (decide (es.length ≤ 1000) && es.all (gd 0)) = true from this)
      refine Bool.and_eq_true_iff.mpr ⟨a2, List.all_eq_true.mpr fun e he => ?_⟩
      have := List.all_eq_true.mp b2 e he
      cases e <;> first | exact this | cases this
    | none => exact this
    | bool _ => exact this
    | int _ => exact this
    | str _ => exact this
    | list _ => cases this
    | dict _ => cases this
  have hd : ∀ i, gd 3 ((s.F i).headD .none) = true := fun i => by
    cases e : s.F i with
    | nil => rfl
    | cons a l =>
      obtain ⟨h1, h2⟩ := h i a (by rw [e]; exact List.mem_cons_self ..)
      exact up a h1 h2
  show (decide (6 ≤ 1000) && (gd 3 (.tuple (s.F 0)) && (gd 3 (.tuple (s.F 1)) && (gd 3 (.tuple (s.F 2)) && (gd 3 ((s.F 3).headD .none) && (gd 3 (.tuple (s.F 4)) && (gd 3 ((s.F 5).headD .none) && true))))))) = true
  rw [one 0, one 1, one 2, one 4, hd 3, hd 5]
  rfl
section
variable {P : Program} {w : World} {K : PySem.W.Frag} {mg : Str → Option Value} {base : Heap} {T : Addr}
def spParse (K : PySem.W.Frag) (T C : Addr) : Sp := fun vs H Q E => ∃ x : Str, vs = [.str x] ∧ x.cps.size ≤ 100000 ∧ (∀ y ∈ splitL x, LnOkS y) ∧ (splitL x).length ≤ 900 ∧ TabG H T ∧
  (∀ d, parseS x = .inr d → ∀ H' v, Gr T H H' → Dp K H' v d → Q v H') ∧
  ∀ n, parseS x = .inl n → ∀ H' d, Gr T H H' → H' d = some (.xd (fsL (n : Nat))) → E (.ref C) (some d) H'
theorem ok_parse {f fW fL fK fI C : Addr} {fd fdW fdL fdK fdI : FuncData} (F : Fun K "parse_circuit" "parse_circuit" sParseCircuit f fd) (B : BT mg)
    (GW : FnOk P w K mg base (L2.CX P w) 3 fW fdW ["text"] (spWhole K C)) (kW : PySem.W.keepIn K (.ref fW) = true) (bW : Binds K fdW ["text"] []) (gW : mg "whole_lines" = some (.ref fW))
    (GL : FnOk P w K mg base (L2.CX P w) 5 fL fdL ["lines"] (spReadL K T C)) (kL : PySem.W.keepIn K (.ref fL) = true) (bL : Binds K fdL ["lines"] []) (gL : mg "read_lines" = some (.ref fL))
    (GK : FnOk P w K mg base CX0 5 fK fdK ["thing"] (spIsCircuit K)) (kK : PySem.W.keepIn K (.ref fK) = true) (bK : Binds K fdK ["thing"] []) (gK : mg "is_circuit" = some (.ref fK))
    (R : ErrB K mg C fI) (tI : PySem.W.typeIn K (.ref fI) = some (.type "function")) (GI : FnOk P w K mg base CX0 1 fI fdI ["self", "line"] (spInitB K)) (bI : Binds K fdI ["self", "line"] []) :
    FnOk P w K mg base (L2.CX P w) 6 f fd ["text"] (spParse K T C) := by
  refine F.okX scParseCircuit (fun vs H Q E h => ?_) (fun cdv A outer s H vs Q E hr h => ?_)
  · obtain ⟨x, rfl, _⟩ := h
    rfl
  · obtain ⟨x, rfl, hx, hy, hn, tb, q, qe⟩ := h
    have nd := scParseCircuit.nd
    have hr5 : Room 5 _ := hr
    have hr3 : Room 3 _ := hr.mono (by decide)
    have hr1 : Room 2 _ := hr.mono (by decide)
    have hud := hu_of hr
    refine ⟨_, (pss_cons (ps_set (i := 1) nd rfl (.inl rfl) (pe_callS GW hr3 (by rfl) gW kW bW (fun σ => passAt (takes_of rfl rfl rfl rfl) σ) (pa_cons (pv 0) pa_nil)))
      (pss_cons (ps_set (i := 2) nd rfl (.inl rfl) (pe_callS GL hr5 (by rfl) gL kL bL (fun σ => passAt (takes_of rfl rfl rfl rfl) σ) (pa_cons (pv 1) pa_nil)))
      (pss_cons (ps_if (pt_not (pt_truth (pe_dget hud (pv 2) (pe_str) (fun _ _ => rfl)) (by intro _; rfl))) (pss_one (ps_raise rfl (takes_of rfl rfl rfl rfl) (pmk_oex R.o R.iC tI GI hr1 bI .nil pass0 (by rfl) R.g (pa_cons (pe_callB call_len_seq (by rfl) B.len PySem.boot_len (pa_cons (pv 1) pa_nil)) pa_nil)))) pss_nil)
      (pss_cons (ps_set (i := 3) nd rfl (.inl rfl) (pe_tup (pa_cons (pe_callTy call_tuple_of (by rfl) B.tuple (by decide +kernel) (pa_cons (pe_dget hud (pv 2) (pe_str) (fun _ _ => rfl)) pa_nil)) (pa_cons (pe_callTy call_tuple_of (by rfl) B.tuple (by decide +kernel) (pa_cons (pe_dget hud (pv 2) (pe_str) (fun _ _ => rfl)) pa_nil)) (pa_cons (pe_callTy call_tuple_of (by rfl) B.tuple (by decide +kernel) (pa_cons (pe_dget hud (pv 2) (pe_str) (fun _ _ => rfl)) pa_nil)) (pa_cons (pe_ix ix_list (pe_dget hud (pv 2) (pe_str) (fun _ _ => rfl)) (pe_int) (fun _ _ => rfl)) (pa_cons (pe_callTy call_tuple_of (by rfl) B.tuple (by decide +kernel) (pa_cons (pe_dget hud (pv 2) (pe_str) (fun _ _ => rfl)) pa_nil)) (pa_cons (pe_ix ix_list (pe_dget hud (pv 2) (pe_str) (fun _ _ => rfl)) (pe_int) (fun _ _ => rfl)) pa_nil))))))))
      (pss_cons (ps_if (pt_not (pt_val (pe_call GK hr5 (by rfl) gK kK bK .nil pass0 (pa_cons (pv 3) pa_nil)))) (pss_one (ps_raise rfl (takes_of rfl rfl rfl rfl) (pmk_oex R.o R.iC tI GI hr1 bI .nil pass0 (by rfl) R.g (pa_cons (pe_callB call_len_seq (by rfl) B.len PySem.boot_len (pa_cons (pv 1) pa_nil)) pa_nil)))) pss_nil)
      (pss_one (ps_ret (pv 3)))))))), ?_⟩
    have eP0 : wholeB x = false → parseS x = .inl (splitL x).length := fun e => by
      unfold parseS
      rw [e]
      rfl
    have grS : ∀ {H1 H2 : Hp}, TabG H1 T → Same H1 H2 → Gr T H1 H2 := fun tb s => by
      obtain ⟨ps, e, r⟩ := tb
      exact ⟨⟨ps, s _ _ e, r⟩, fun b o _ e => s b o e⟩
    refine ⟨_, rfl, x, rfl, hx, fun hw H1 p s1 np e1 => ?_, fun hw H1 d s1 e1 => qe _ (eP0 hw) H1 d (grS tb s1) e1⟩
    have g1 := grS tb s1
    have hlen : (linesOf x).length ≤ 900 := by
      unfold linesOf
      rw [List.length_dropLast]
      omega
    have hyl : ∀ y ∈ linesOf x, LnOkS y := fun y h => hy y (List.dropLast_subset _ h)
    have ePar : parseS x = match readP 0 st0 (linesOf x) with
      | .inl n => .inl n
      | .inr s => if (s.F 5).isEmpty = true then .inl (linesOf x).length else if circB (circD s) = true then .inr (circD s) else .inl (linesOf x).length := by
      unfold parseS
      rw [if_pos hw]
    refine ⟨_, rfl, p, linesOf x, rfl, SqL.of e1, hyl, hlen, g1.tab, fun u eu H2 dA la g2 fdd ok => ?_, fun n en H2 d g2 e2 => qe n (by rw [ePar, en]) H2 d (g1.trans g2) e2⟩
    rw [eu] at ePar
    dsimp only at ePar
    have g12 := g1.trans g2
    have eL2 : H2 p = some (.lst ((linesOf x).map V.str)) := g2.at g1.tab e1 (fun ps z => by cases z)
    obtain ⟨hall, _, hcnt⟩ := read_all (linesOf x) (k := 0) (n := 0) (s := st0) (s' := u) (fun i d h => by cases h) ok0 (fun i => Nat.le_refl 0) (fun y h => (hyl y h).2.1) eu
    have hcnt9 : ∀ i, (u.F i).length ≤ 900 := fun i => by
      have := hcnt i
      omega
    have raise : parseS x = .inl (linesOf x).length → ∀ H4, Gr T H H4 → ∀ a, H4 a = none → _ := fun e H4 g4 => raise_line (H := H4) (n := (((linesOf x).map V.str).length : Int)) (Qx := fun cls d H' => E cls d H') R (by rw [List.length_map]; exact ⟨by omega, by omega⟩) fun d H5 s5 _ e5 => qe _ e H5 d (g4.trans (grS g4.tab s5)) (by rw [List.length_map] at e5; exact e5)
    have six : ∀ i, i < 6 → ∃ a vs, la[i]? = some a ∧ H2 a = some (.lst vs) ∧ DpAll K H2 vs (u.F i) := fun i hi => by
      have h6 : i < la.length := by
        rw [fdd.len]
        exact hi
      obtain ⟨vs, e, d⟩ := fdd.at' i _ (List.getElem?_eq_getElem h6)
      exact ⟨_, vs, List.getElem?_eq_getElem h6, e, d⟩
    have dget : ∀ {wd : Str} {a : Addr} {H3 : Hp}, wd ∈ lineW → la[lineW.idxOf wd]? = some a → H3 dA = some (.dK (foundD la)) → DGet H3 dA (.str wd) (some (.ref a)) := fun {wd a H3} hw ha e => by
      have := DGet.k (k := .inr wd) e
      rw [found_at fdd.len hw ha] at this
      exact this
    obtain ⟨a0, v0, la0, h0, d0⟩ := six 0 (by decide)
    obtain ⟨a1, v1, la1, h1, d1⟩ := six 1 (by decide)
    obtain ⟨a2, v2, la2, h2, d2⟩ := six 2 (by decide)
    obtain ⟨a3, v3, la3, h3, d3⟩ := six 3 (by decide)
    obtain ⟨a4, v4, la4, h4, d4⟩ := six 4 (by decide)
    obtain ⟨a5, v5, la5, h5, d5⟩ := six 5 (by decide)
    have g5 := dget (wd := "told") (H3 := H2) (by decide +kernel) la5 fdd.d
    have e5n : v5.isEmpty = (u.F 5).isEmpty := by
      have := dps_len d5
      cases v5 <;> cases hh : u.F 5 <;> rw [hh] at this <;> first | rfl | cases this
    refine ⟨_, rfl, dA, _, rfl, g5, _, .inl ⟨_, SqL.of h5, rfl⟩, ?_⟩
    by_cases he : (u.F 5).isEmpty = true
    · refine iteT' (by rw [e5n, he]; rfl) ?_
      refine ⟨_, rfl, p, _, rfl, .inl (SqL.of eL2), (by show 1 ≤ 1000; decide), ?_⟩
      exact raise (by rw [ePar, if_pos he]) H2 g12
    · have he' : (u.F 5).isEmpty = false := by
        cases hh : (u.F 5).isEmpty with
        | true => exact absurd hh he
        | false => rfl
      refine iteF' (by rw [e5n, he']; rfl) ?_
      rw [if_neg he] at ePar
      have ok3 : (u.F 3).isEmpty = false := (ok.f3).mpr (by have := (ok.f5).mp he'; omega)
      have t2 := g12.tab
      have ND : ∀ {i : Nat} {vs : List V} {H3 : Hp}, Gr T H2 H3 → DpAll K H2 vs (u.F i) → DpAll K H3 vs (u.F i) := fun {i vs H3} g d => dps_stay (fun b xs h => g.seqT t2 h) _ _ d (fdd.nol i)
      have LD : ∀ {a : Addr} {vs : List V} {H3 : Hp}, Gr T H2 H3 → H2 a = some (.lst vs) → H3 a = some (.lst vs) := fun {a vs H3} g e => g.at t2 e (fun ps z => by cases z)
      have DD : ∀ {H3 : Hp}, Gr T H2 H3 → H3 dA = some (.dK (foundD la)) := fun {H3} g => g.at t2 fdd.d (fun ps z => by cases z)
      have head : ∀ {i : Nat} {vs : List V} {H3 : Hp}, Gr T H2 H3 → DpAll K H2 vs (u.F i) → (u.F i).isEmpty = false → ∃ x, vs[0]? = some x ∧ Dp K H3 x ((u.F i).headD .none) := fun {i vs H3} g d e => by
        have d' := ND g d
        cases hh : u.F i with
        | nil => rw [hh] at e; cases e
        | cons y r =>
          rw [hh] at d'
          cases d' with
          | cons h _ => exact ⟨_, rfl, h⟩
      refine ⟨_, rfl, dA, _, rfl, dget (wd := "register") (by decide +kernel) la0 fdd.d, a0, v0, rfl, .inl ⟨SqL.of h0, fun t0 n0 => ?_⟩⟩
      have k0 : Gr T H2 (upd H2 t0 (.tup v0)) := Gr.laid t2 n0
      have f0 : (upd H2 t0 (.tup v0)) t0 = some (.tup v0) := upd_same
      generalize upd H2 t0 (.tup v0) = H3 at k0 f0
      refine ⟨_, rfl, dA, _, rfl, dget (wd := "memory") (by decide +kernel) la1 (DD k0), a1, v1, rfl, .inl ⟨SqL.of (LD k0 h1), fun t1 n1 => ?_⟩⟩
      have k1 : Gr T H3 (upd H3 t1 (.tup v1)) := Gr.laid k0.tab n1
      have f1 : (upd H3 t1 (.tup v1)) t1 = some (.tup v1) := upd_same
      replace f0 := k1.at k0.tab f0 (fun ps z => by cases z)
      replace k1 := k0.trans k1
      generalize upd H3 t1 (.tup v1) = H4 at k1 f1 f0
      refine ⟨_, rfl, dA, _, rfl, dget (wd := "row") (by decide +kernel) la2 (DD k1), a2, v2, rfl, .inl ⟨SqL.of (LD k1 h2), fun t2' n2 => ?_⟩⟩
      have k2 : Gr T H4 (upd H4 t2' (.tup v2)) := Gr.laid k1.tab n2
      have f2 : (upd H4 t2' (.tup v2)) t2' = some (.tup v2) := upd_same
      replace f0 := k2.at k1.tab f0 (fun ps z => by cases z)
      replace f1 := k2.at k1.tab f1 (fun ps z => by cases z)
      replace k2 := k1.trans k2
      generalize upd H4 t2' (.tup v2) = H5 at k2 f2 f1 f0
      obtain ⟨x3, e3, _⟩ := head (Gr.refl t2) d3 ok3
      refine ⟨_, rfl, dA, _, rfl, dget (wd := "next") (by decide +kernel) la3 (DD k2), a3, v3, _, x3, rfl, rfl, SqL.of (LD k2 h3), atI_nat (j := 0) e3, ?_⟩
      refine ⟨_, rfl, dA, _, rfl, dget (wd := "store") (by decide +kernel) la4 (DD k2), a4, v4, rfl, .inl ⟨SqL.of (LD k2 h4), fun t4 n4 => ?_⟩⟩
      have k4 : Gr T H5 (upd H5 t4 (.tup v4)) := Gr.laid k2.tab n4
      have f4 : (upd H5 t4 (.tup v4)) t4 = some (.tup v4) := upd_same
      replace f0 := k4.at k2.tab f0 (fun ps z => by cases z)
      replace f1 := k4.at k2.tab f1 (fun ps z => by cases z)
      replace f2 := k4.at k2.tab f2 (fun ps z => by cases z)
      replace k4 := k2.trans k4
      generalize upd H5 t4 (.tup v4) = H6 at k4 f4 f2 f1 f0
      obtain ⟨x5, e5, _⟩ := head (Gr.refl t2) d5 he'
      refine ⟨_, rfl, dA, _, rfl, dget (wd := "told") (by decide +kernel) la5 (DD k4), a5, v5, _, x5, rfl, rfl, SqL.of (LD k4 h5), atI_nat (j := 0) e5, ?_⟩
      refine ⟨line200 (show 6 ≤ 1000 by decide), fun ct nct => ?_⟩
      have k6 : Gr T H6 (upd H6 ct (.tup [.ref t0, .ref t1, .ref t2', x3, .ref t4, x5])) := Gr.laid k4.tab nct
      have fc : (upd H6 ct (.tup [.ref t0, .ref t1, .ref t2', x3, .ref t4, x5])) ct = some (.tup [.ref t0, .ref t1, .ref t2', x3, .ref t4, x5]) := upd_same
      replace f0 := k6.at k4.tab f0 (fun ps z => by cases z)
      replace f1 := k6.at k4.tab f1 (fun ps z => by cases z)
      replace f2 := k6.at k4.tab f2 (fun ps z => by cases z)
      replace f4 := k6.at k4.tab f4 (fun ps z => by cases z)
      replace k6 := k4.trans k6
      generalize upd H6 ct (.tup [.ref t0, .ref t1, .ref t2', x3, .ref t4, x5]) = H7 at k6 fc f4 f2 f1 f0
      have hx3 : Dp K H7 x3 ((u.F 3).headD .none) := by
        obtain ⟨x, e, d⟩ := head k6 d3 ok3
        rw [e3] at e
        cases e
        exact d
      have hx5 : Dp K H7 x5 ((u.F 5).headD .none) := by
        obtain ⟨x, e, d⟩ := head k6 d5 he'
        rw [e5] at e
        cases e
        exact d
      have D7 : Dp K H7 (.ref ct) (circD u) := .tup (SqT.of fc) (.cons (.tup (SqT.of f0) (ND k6 d0)) (.cons (.tup (SqT.of f1) (ND k6 d1)) (.cons (.tup (SqT.of f2) (ND k6 d2)) (.cons hx3 (.cons (.tup (SqT.of f4) (ND k6 d4)) (.cons hx5 .nil))))))
      have gdc := circ_gd hall hcnt9
      refine ⟨_, rfl, .ref ct, circD u, 4, rfl, D7, gdc, by decide, fun H8 s8 => ⟨_, rfl, ?_⟩⟩
      have k8 : Gr T H2 H8 := k6.trans (grS k6.tab s8)
      cases hc : circB (circD u) with
      | false =>
        refine iteT ?_
        refine ⟨_, rfl, p, _, rfl, .inl (SqL.of (LD k8 eL2)), (by show 1 ≤ 1000; decide), ?_⟩
        exact raise (by rw [ePar, hc]; rfl) H8 (g12.trans k8)
      | true =>
        refine iteF ?_
        refine ⟨_, rfl, q (circD u) (by rw [ePar, hc]; rfl) H8 _ (g12.trans k8) (dp_stay (same_tup s8) _ _ D7 (gd_ok 4 _ gdc).1)⟩
end
end C1

/-! Texts: joined, split. -/
namespace C1
open PySem PySem.Spec PyProof.Rows L2 SX
abbrev spB : Str := Str.ofString " "
theorem joinL_mem {S : List Nat} {c : Nat} : ∀ {ps : List (List Nat)}, c ∈ TL.joinL S ps → c ∈ S ∨ ∃ p ∈ ps, c ∈ p
  | [], h => by cases h
  | [p], h => .inr ⟨p, List.mem_singleton.mpr rfl, h⟩
  | p :: q :: r, h => by
    rcases List.mem_append.mp (show c ∈ p ++ (S ++ TL.joinL S (q :: r)) from h) with z | z
    · exact .inr ⟨p, List.mem_cons_self .., z⟩
    · rcases List.mem_append.mp z with z | z
      · exact .inl z
      · rcases joinL_mem z with z | ⟨x, hx, z⟩
        · exact .inl z
        · exact .inr ⟨x, List.mem_cons_of_mem _ hx, z⟩
theorem mem_joinL {S : List Nat} {c : Nat} {p : List Nat} (hc : c ∈ p) : ∀ {ps : List (List Nat)}, p ∈ ps → c ∈ TL.joinL S ps
  | [], h => by cases h
  | [q], h => by
    rw [List.mem_singleton.mp h] at hc
    exact hc
  | q :: q2 :: r, h => by
    show c ∈ q ++ (S ++ TL.joinL S (q2 :: r))
    rcases List.mem_cons.mp h with z | z
    · rw [z] at hc
      exact List.mem_append_left _ hc
    · exact List.mem_append_right _ (List.mem_append_right _ (mem_joinL hc z))
theorem joinL_len {S : List Nat} {b : Nat} : ∀ {ps : List (List Nat)}, (∀ p ∈ ps, p.length ≤ b) → (TL.joinL S ps).length ≤ ps.length * (b + S.length)
  | [], _ => Nat.zero_le _
  | [p], h => by
    have := h p (List.mem_singleton.mpr rfl)
    show p.length ≤ 1 * (b + S.length)
    omega
  | p :: q :: r, h => by
    have h1 := h p (List.mem_cons_self ..)
    have h2 := joinL_len (S := S) (ps := q :: r) fun x hx => h x (List.mem_cons_of_mem _ hx)
    show (p ++ (S ++ TL.joinL S (q :: r))).length ≤ ((q :: r).length + 1) * (b + S.length)
    rw [List.length_append, List.length_append, Nat.succ_mul]
    omega
theorem cs_join (y : Str) (ps : List Str) : (Txt.join y ps).cps.toList = TL.joinL y.cps.toList (ps.map fun p => p.cps.toList) := by
  rw [TL.join_eq]
  exact TL.tl_join y ps
theorem join_mem {y : Str} {ps : List Str} {c : Nat} (h : c ∈ (Txt.join y ps).cps.toList) : c ∈ y.cps.toList ∨ ∃ p ∈ ps, c ∈ p.cps.toList := by
  rw [cs_join] at h
  rcases joinL_mem h with z | ⟨p, hp, z⟩
  · exact .inl z
  · obtain ⟨q, hq, rfl⟩ := List.mem_map.mp hp
    exact .inr ⟨q, hq, z⟩
theorem join_size {y : Str} {ps : List Str} {b : Nat} (h : ∀ p ∈ ps, p.cps.size ≤ b) : (Txt.join y ps).cps.size ≤ ps.length * (b + y.cps.size) := by
  rw [← Array.length_toList, cs_join]
  have := joinL_len (S := y.cps.toList) (b := b) (ps := ps.map fun p => p.cps.toList) fun p hp => by
    obtain ⟨q, hq, rfl⟩ := List.mem_map.mp hp
    rw [Array.length_toList]
    exact h q hq
  rw [List.length_map, Array.length_toList] at this
  exact this
theorem part_mem {x y p : Str} {c : Nat} (hp : p ∈ Txt.split x y) (hc : c ∈ p.cps.toList) : c ∈ x.cps.toList := by
  have e : Txt.join y (Txt.split x y) = x := by
    rw [TL.join_eq]
    exact PySem.StrLaws.join_split x y
  rw [← e, cs_join]
  exact mem_joinL hc (List.mem_map.mpr ⟨p, hp, rfl⟩)
theorem part_size {x y p : Str} (hp : p ∈ Txt.split x y) : p.cps.size ≤ x.cps.size := PyProof.Rows.part_short hp
theorem spS_join {ps : List Str} (hne : ps ≠ []) (h : ∀ p ∈ ps, 32 ∉ p.cps.toList) : spS (Txt.join spB ps) = ps := TL.split_join (s := 32) (S := []) rfl (by decide +kernel) hne h
theorem spS_len (x : Str) : (spS x).length ≤ x.cps.size + 1 := by
  have h1 : ((spS x).length : Int) = 1 + PyProof.Rows.cnt 32 x.cps.toList := PyProof.Rows.split_len x 32
  have h2 := (cnt_bd 32 x.cps.toList).2
  rw [Array.length_toList] at h2
  omega
theorem spS_free {x p : Str} (h : p ∈ spS x) : 32 ∉ p.cps.toList := PySem.StrLaws.split_free x 32 p h
theorem spS_ne (x : Str) : spS x ≠ [] := fun z => by
  have h1 : ((spS x).length : Int) = 1 + PyProof.Rows.cnt 32 x.cps.toList := PyProof.Rows.split_len x 32
  have h2 := (cnt_bd 32 x.cps.toList).1
  rw [z] at h1
  simp at h1
  omega
theorem nl_cs : nlS.cps.toList = [10] := rfl
theorem app_cs (a b : Str) : (a ++ b).cps.toList = a.cps.toList ++ b.cps.toList := TL.tl_append a b
theorem joinL_nil : ∀ ps : List (List Nat), TL.joinL [] ps = ps.flatten
  | [] => rfl
  | [p] => by
    show p = p ++ []
    rw [List.append_nil]
  | p :: q :: r => by
    show p ++ ([] ++ TL.joinL [] (q :: r)) = p ++ (q :: r).flatten
    rw [List.nil_append, joinL_nil (q :: r)]
theorem joinL_nl : ∀ ps : List (List Nat), TL.joinL [10] (ps ++ [[]]) = (ps.map fun p => p ++ [10]).flatten
  | [] => rfl
  | [p] => by
    show p ++ ([10] ++ []) = (p ++ [10]) ++ []
    rw [List.append_nil, List.append_nil]
  | p :: q :: r => by
    show p ++ ([10] ++ TL.joinL [10] ((q :: r) ++ [[]])) = (p ++ [10]) ++ ((q :: r).map fun p => p ++ [10]).flatten
    rw [joinL_nl (q :: r), List.append_assoc]
theorem text_eq (xs : List Str) : textL xs = Txt.join nlS (xs ++ [Str.ofString ""]) := by
  apply TL.ext_tl
  show (textL xs).cps.toList = _
  unfold textL
  rw [cs_join]
  show _ = (Txt.join nlS (xs ++ [Str.ofString ""])).cps.toList
  rw [cs_join, nl_cs, List.map_append]
  show TL.joinL [] ((xs.map fun x => x ++ nlS).map fun p => p.cps.toList) = TL.joinL [10] (xs.map (fun p => p.cps.toList) ++ [[]])
  rw [joinL_nil, joinL_nl, List.map_map, List.map_map]
  congr 1
  exact List.map_congr_left fun x _ => app_cs x nlS
theorem split_text {xs : List Str} (h : ∀ x ∈ xs, 10 ∉ x.cps.toList) : splitL (textL xs) = xs ++ [Str.ofString ""] := by
  rw [text_eq]
  refine TL.split_join (s := 10) (S := []) rfl (by decide +kernel) (by simp) fun p hp => ?_
  rcases List.mem_append.mp hp with z | z
  · exact h p z
  · rw [List.mem_singleton.mp z]
    decide
theorem split_lines {xs : List Str} (hne : xs ≠ []) (h : ∀ x ∈ xs, 10 ∉ x.cps.toList) : splitL (Txt.join nlS xs) = xs := TL.split_join (s := 10) (S := []) rfl (by decide +kernel) hne h
theorem nl_free {x y : Str} (h : y ∈ splitL x) : 10 ∉ y.cps.toList := PySem.StrLaws.split_free x 10 y h
/-- a line: short, below 128, no new line -/
structure LnB (b : Nat) (y : Str) : Prop where
  sz : y.cps.size ≤ b
  as : ∀ c ∈ y.cps.toList, c < 128
  nl : 10 ∉ y.cps.toList
/-- a text whose lines are such -/
structure TxB (x : Str) : Prop where
  sz : x.cps.size ≤ 100000
  ln : (splitL x).length ≤ 900
  ls : ∀ y ∈ splitL x, LnB 800 y
theorem LnB.parts {y : Str} (h : LnB 800 y) : (spS y).length ≤ 900 ∧ ∀ z ∈ spS y, LnB 800 z := by
  have := spS_len y
  have := h.sz
  refine ⟨by omega, fun z hz => ⟨Nat.le_trans (part_size hz) h.sz, fun c hc => h.as c (part_mem hz hc), fun hc => h.nl (part_mem hz hc)⟩⟩
theorem LnB.up {a b : Nat} {y : Str} (h : LnB a y) (l : a ≤ b) : LnB b y := ⟨Nat.le_trans h.sz l, h.as, h.nl⟩
theorem ln_nil : LnB 0 (Str.ofString "") := ⟨Nat.le_refl 0, fun c h => (by cases h), fun h => (by cases h)⟩
theorem txb_text {xs : List Str} {b : Nat} (h : ∀ x ∈ xs, LnB b x) (hb : b ≤ 200) (hl : xs.length ≤ 400) : TxB (textL xs) := by
  have e := split_text (xs := xs) fun x hx => (h x hx).nl
  refine ⟨?_, ?_, fun y hy => ?_⟩
  · rw [text_eq]
    have := join_size (y := nlS) (ps := xs ++ [Str.ofString ""]) (b := b) fun p hp => by
      rcases List.mem_append.mp hp with z | z
      · exact (h p z).sz
      · rw [List.mem_singleton.mp z]
        exact Nat.zero_le _
    have e1 : nlS.cps.size = 1 := rfl
    rw [List.length_append, e1] at this
    have h2 : (xs.length + [Str.ofString ""].length) * (b + 1) ≤ 401 * 201 := Nat.mul_le_mul (by show xs.length + 1 ≤ 401; omega) (by omega)
    omega
  · rw [e, List.length_append]
    show xs.length + 1 ≤ 900
    omega
  · rw [e] at hy
    rcases List.mem_append.mp hy with z | z
    · exact (h y z).up (by omega)
    · rw [List.mem_singleton.mp z]
      exact ln_nil.up (Nat.zero_le _)
theorem txb_join {xs : List Str} {b : Nat} (hne : xs ≠ []) (h : ∀ x ∈ xs, LnB b x) (hb : b ≤ 200) (hl : xs.length ≤ 400) : TxB (Txt.join nlS xs) := by
  have e := split_lines (xs := xs) hne fun x hx => (h x hx).nl
  refine ⟨?_, ?_, fun y hy => ?_⟩
  · have := join_size (y := nlS) (ps := xs) (b := b) fun p hp => (h p hp).sz
    have e1 : nlS.cps.size = 1 := rfl
    rw [e1] at this
    have h2 : xs.length * (b + 1) ≤ 400 * 201 := Nat.mul_le_mul hl (by omega)
    omega
  · rw [e]
    omega
  · rw [e] at hy
    exact (h y hy).up (by omega)
theorem ln_app {a b : Nat} {x y : Str} (h : LnB a x) (h' : LnB b y) : LnB (a + b) (x ++ y) := by
  refine ⟨?_, fun c hc => ?_, fun hc => ?_⟩
  · rw [← Array.length_toList, app_cs, List.length_append, Array.length_toList, Array.length_toList]
    exact Nat.add_le_add h.sz h'.sz
  · rw [app_cs] at hc
    exact (List.mem_append.mp hc).elim (h.as c) (h'.as c)
  · rw [app_cs] at hc
    exact (List.mem_append.mp hc).elim h.nl h'.nl
theorem ln_join {b : Nat} {ps : List Str} (h : ∀ p ∈ ps, LnB b p) : LnB (ps.length * (b + 1)) (Txt.join spB ps) := by
  refine ⟨join_size (y := spB) fun p hp => (h p hp).sz, fun c hc => ?_, fun hc => ?_⟩
  · rcases join_mem hc with z | ⟨p, hp, z⟩
    · rw [List.mem_singleton.mp (show c ∈ [32] from z)]
      decide
    · exact (h p hp).as c z
  · rcases join_mem hc with z | ⟨p, hp, z⟩
    · exact absurd z (by decide)
    · exact (h p hp).nl z
end C1

/-! Comprehensions whose items are data, made one by one. -/
namespace C1
open PySem PySem.Spec PyProof.Rows L2 SX
theorem dps_at {K : PySem.W.Frag} {H : Hp} {vs : List V} {ds : List PyData} {i : Nat} {x : V} {d : PyData} (h : DpAll K H vs ds) (hx : vs[i]? = some x) (hd : ds[i]? = some d) : Dp K H x d := by
  obtain ⟨d', e, h⟩ := dps_get h hx
  rw [hd] at e
  cases e
  exact h
theorem noLs_take : ∀ {F : List PyData} {i : Nat}, noLs F = true → noLs (F.take i) = true
  | [], i, h => by
    rw [List.take_nil]
    rfl
  | d :: F, 0, h => rfl
  | d :: F, i + 1, h => by
    have h' := Bool.and_eq_true_iff.mp (show (noL d && noLs F) = true from h)
    show (noL d && noLs (F.take i)) = true
    rw [h'.1, noLs_take h'.2]
    rfl
theorem noLs_at {F : List PyData} {i : Nat} {d : PyData} (h : noLs F = true) (e : F[i]? = some d) : noL d = true := noLs_mem h d (List.mem_of_getElem? e)
theorem at_len {α β : Type} {xs : List α} {F : List β} (hl : xs.length = F.length) {i : Nat} {x : α} (h : xs[i]? = some x) : ∃ d, F[i]? = some d := by
  have := (List.getElem?_eq_some_iff.mp h).1
  exact ⟨_, List.getElem?_eq_getElem (by omega)⟩
section
variable {K : PySem.W.Frag} {a : Addr} {xs : List V} {g : TG} {te : TE} {vs : List Nat} {σ : L2.St} {H0 : Hp} {D : Addr} {Qd : Hp → Prop}
theorem lc_tupD (F : List PyData) (hF : noLs F = true) (hlen : xs.length = F.length) (hn : xs.length ≤ 1000) (hl : SqT K H0 a xs) (hD : H0 D = none)
    (hs : ∀ (i : Nat) (x : V) (d : PyData) (H : Hp) (Q : VK), xs[i]? = some x → F[i]? = some d → Same H0 H → (∀ y H4, Same H H4 → Dp K H4 y d → Q y H4) → g x (wipe σ vs) H fun σ2 H2 => wipe σ2 vs = wipe σ vs ∧ te σ2 H2 Q)
    (hd : ∀ H acc, Same H0 H → H D = some (.lst acc) → DpAll K H acc F → Qd H) :
    ∃ W : Nat → Nat → Hp → Prop, (∃ m, W 0 m (upd H0 D (.lst []))) ∧ ∀ i m H, W i m H →
      ((Itt K a).stop i H ∧ Qd H) ∨ ((Itt K a).go i H ∧ ∃ Nx : Hp → Prop, (∀ H', Nx H' → ∃ m', m' < m ∧ W (i + 1) m' H') ∧ ∀ x H', (Itt K a).yld i H x H' → g x (wipe σ vs) H' fun σ2 H2 => wipe σ2 vs = wipe σ vs ∧ tYes σ2 H2 fun b H3 =>
        if b = true then te σ2 H3 fun y H4 => ∃ acc, H4 D = some (.lst acc) ∧ acc.length < sizeLine ∧ Nx (upd H4 D (.lst (acc ++ [y]))) else Nx H3) := by
  refine lc_tup (xs := xs) (fun i H => Same H0 H ∧ ∃ acc, H D = some (.lst acc) ∧ DpAll K H acc (F.take i)) ⟨same_new hD, [], upd_same, .nil⟩ (fun i H _ h => same_tup h.1 _ _ hl) (fun i x H hx h => ?_) (fun H h => ?_)
  · obtain ⟨sm, acc, e, dp⟩ := h
    obtain ⟨d, hd'⟩ := at_len hlen hx
    have lt := dps_len dp
    rw [List.length_take] at lt
    have hi := (List.getElem?_eq_some_iff.mp hx).1
    exact hs i x d H (fun y H4 => ∃ acc, H4 D = some (.lst acc) ∧ acc.length < sizeLine ∧ (Same H0 (upd H4 D (.lst (acc ++ [y]))) ∧ ∃ acc', (upd H4 D (.lst (acc ++ [y]))) D = some (.lst acc') ∧ DpAll K (upd H4 D (.lst (acc ++ [y]))) acc' (F.take (i + 1)))) hx hd' sm
      (fun y H4 s4 dy => ⟨acc, s4 _ _ e, lineS200 (by omega), same_put (sm.trans s4) hD, acc ++ [y], upd_same, by
        rw [take_snoc hd']
        exact push_dps (s4 _ _ e) (dps_stay (same_tup s4) _ _ dp (noLs_take hF)) (noLs_take hF) dy (noLs_at hF hd')⟩)
  · obtain ⟨sm, acc, e, dp⟩ := h
    rw [hlen, List.take_length] at dp
    exact hd H acc sm e dp
theorem lc_listD (F : List PyData) (hF : noLs F = true) (hlen : xs.length = F.length) (hn : xs.length ≤ 1000) (hl : SqL K H0 a xs) (hD : H0 D = none)
    (hs : ∀ (i : Nat) (x : V) (d : PyData) (H : Hp) (Q : VK), xs[i]? = some x → F[i]? = some d → Same H0 H → (∀ y H4, Same H H4 → Dp K H4 y d → Q y H4) → g x (wipe σ vs) H fun σ2 H2 => wipe σ2 vs = wipe σ vs ∧ te σ2 H2 Q)
    (hd : ∀ H acc, Same H0 H → H D = some (.lst acc) → DpAll K H acc F → Qd H) :
    ∃ W : Nat → Nat → Hp → Prop, (∃ m, W 0 m (upd H0 D (.lst []))) ∧ ∀ i m H, W i m H →
      ((Itl K a).stop i H ∧ Qd H) ∨ ((Itl K a).go i H ∧ ∃ Nx : Hp → Prop, (∀ H', Nx H' → ∃ m', m' < m ∧ W (i + 1) m' H') ∧ ∀ x H', (Itl K a).yld i H x H' → g x (wipe σ vs) H' fun σ2 H2 => wipe σ2 vs = wipe σ vs ∧ tYes σ2 H2 fun b H3 =>
        if b = true then te σ2 H3 fun y H4 => ∃ acc, H4 D = some (.lst acc) ∧ acc.length < sizeLine ∧ Nx (upd H4 D (.lst (acc ++ [y]))) else Nx H3) := by
  refine lc_list (xs := xs) (fun i H => Same H0 H ∧ ∃ acc, H D = some (.lst acc) ∧ DpAll K H acc (F.take i)) ⟨same_new hD, [], upd_same, .nil⟩ (fun i H _ h => h.1.seq hl) (fun i x H hx h => ?_) (fun H h => ?_)
  · obtain ⟨sm, acc, e, dp⟩ := h
    obtain ⟨d, hd'⟩ := at_len hlen hx
    have lt := dps_len dp
    rw [List.length_take] at lt
    have hi := (List.getElem?_eq_some_iff.mp hx).1
    exact hs i x d H (fun y H4 => ∃ acc, H4 D = some (.lst acc) ∧ acc.length < sizeLine ∧ (Same H0 (upd H4 D (.lst (acc ++ [y]))) ∧ ∃ acc', (upd H4 D (.lst (acc ++ [y]))) D = some (.lst acc') ∧ DpAll K (upd H4 D (.lst (acc ++ [y]))) acc' (F.take (i + 1)))) hx hd' sm
      (fun y H4 s4 dy => ⟨acc, s4 _ _ e, lineS200 (by omega), same_put (sm.trans s4) hD, acc ++ [y], upd_same, by
        rw [take_snoc hd']
        exact push_dps (s4 _ _ e) (dps_stay (same_tup s4) _ _ dp (noLs_take hF)) (noLs_take hF) dy (noLs_at hF hd')⟩)
  · obtain ⟨sm, acc, e, dp⟩ := h
    rw [hlen, List.take_length] at dp
    exact hd H acc sm e dp
theorem lc_rangeD {lo : Int} {n : Nat} (F : List PyData) (hF : noLs F = true) (hlen : n = F.length) (hn : n ≤ 1000) (hD : H0 D = none)
    (hs : ∀ (i : Nat) (d : PyData) (H : Hp) (Q : VK), i < n → F[i]? = some d → Same H0 H → (∀ y H4, Same H H4 → Dp K H4 y d → Q y H4) → g (.int (lo + i)) (wipe σ vs) H fun σ2 H2 => wipe σ2 vs = wipe σ vs ∧ te σ2 H2 Q)
    (hd : ∀ H acc, Same H0 H → H D = some (.lst acc) → DpAll K H acc F → Qd H) :
    ∃ W : Nat → Nat → Hp → Prop, (∃ m, W 0 m (upd H0 D (.lst []))) ∧ ∀ i m H, W i m H →
      ((Itr lo n).stop i H ∧ Qd H) ∨ ((Itr lo n).go i H ∧ ∃ Nx : Hp → Prop, (∀ H', Nx H' → ∃ m', m' < m ∧ W (i + 1) m' H') ∧ ∀ x H', (Itr lo n).yld i H x H' → g x (wipe σ vs) H' fun σ2 H2 => wipe σ2 vs = wipe σ vs ∧ tYes σ2 H2 fun b H3 =>
        if b = true then te σ2 H3 fun y H4 => ∃ acc, H4 D = some (.lst acc) ∧ acc.length < sizeLine ∧ Nx (upd H4 D (.lst (acc ++ [y]))) else Nx H3) := by
  refine lc_range (fun i H => Same H0 H ∧ ∃ acc, H D = some (.lst acc) ∧ DpAll K H acc (F.take i)) ⟨same_new hD, [], upd_same, .nil⟩ (fun i H hi h => ?_) (fun H h => ?_)
  · obtain ⟨sm, acc, e, dp⟩ := h
    obtain ⟨d, hd'⟩ : ∃ d, F[i]? = some d := ⟨_, List.getElem?_eq_getElem (by omega)⟩
    have lt := dps_len dp
    rw [List.length_take] at lt
    exact hs i d H (fun y H4 => ∃ acc, H4 D = some (.lst acc) ∧ acc.length < sizeLine ∧ (Same H0 (upd H4 D (.lst (acc ++ [y]))) ∧ ∃ acc', (upd H4 D (.lst (acc ++ [y]))) D = some (.lst acc') ∧ DpAll K (upd H4 D (.lst (acc ++ [y]))) acc' (F.take (i + 1)))) hi hd' sm
      (fun y H4 s4 dy => ⟨acc, s4 _ _ e, lineS200 (by omega), same_put (sm.trans s4) hD, acc ++ [y], upd_same, by
        rw [take_snoc hd']
        exact push_dps (s4 _ _ e) (dps_stay (same_tup s4) _ _ dp (noLs_take hF)) (noLs_take hF) dy (noLs_at hF hd')⟩)
  · obtain ⟨sm, acc, e, dp⟩ := h
    rw [hlen, List.take_length] at dp
    exact hd H acc sm e dp
/-- the items are kept or left out, each as it is -/
theorem lc_tupF {tt : TT} {j : Nat} (F : List PyData) (pb : PyData → Bool) (hF : noLs F = true) (hx : DpAll K H0 xs F) (hn : xs.length ≤ 1000) (hl : SqT K H0 a xs) (hD : H0 D = none)
    (hs : ∀ (i : Nat) (x : V) (d : PyData) (H : Hp) (Q : Bool → Hp → Prop), xs[i]? = some x → F[i]? = some d → Same H0 H → Dp K H x d → (∀ H4, Same H H4 → Q (pb d) H4) → tt ((wipe σ vs).set j (some x)) H Q)
    (hσ : ∀ v, ((wipe σ vs).set j (some v))[j]? = some (some v) ∧ wipe ((wipe σ vs).set j (some v)) vs = wipe σ vs)
    (hd : ∀ H acc, Same H0 H → H D = some (.lst acc) → DpAll K H acc (F.filter pb) → Qd H) :
    ∃ W : Nat → Nat → Hp → Prop, (∃ m, W 0 m (upd H0 D (.lst []))) ∧ ∀ i m H, W i m H →
      ((Itt K a).stop i H ∧ Qd H) ∨ ((Itt K a).go i H ∧ ∃ Nx : Hp → Prop, (∀ H', Nx H' → ∃ m', m' < m ∧ W (i + 1) m' H') ∧ ∀ x H', (Itt K a).yld i H x H' → gName j x (wipe σ vs) H' fun σ2 H2 => wipe σ2 vs = wipe σ vs ∧ tt σ2 H2 fun b H3 =>
        if b = true then tVar j σ2 H3 fun y H4 => ∃ acc, H4 D = some (.lst acc) ∧ acc.length < sizeLine ∧ Nx (upd H4 D (.lst (acc ++ [y]))) else Nx H3) := by
  have noF : ∀ G : List PyData, noLs G = true → noLs (G.filter pb) = true := fun G h => by
    induction G with
    | nil => rfl
    | cons d G ih =>
      have h' := Bool.and_eq_true_iff.mp (show (noL d && noLs G) = true from h)
      rw [List.filter_cons]
      split
      · show (noL d && noLs (G.filter pb)) = true
        rw [h'.1, ih h'.2]
        rfl
      · exact ih h'.2
  refine lc_tup (xs := xs) (fun i H => Same H0 H ∧ ∃ acc, H D = some (.lst acc) ∧ DpAll K H acc ((F.take i).filter pb)) ⟨same_new hD, [], upd_same, .nil⟩ (fun i H _ h => same_tup h.1 _ _ hl) (fun i x H hxi h => ?_) (fun H h => ?_)
  · obtain ⟨sm, acc, e, dp⟩ := h
    obtain ⟨d, hd', dx⟩ := dps_get hx hxi
    have dx2 : Dp K H x d := dp_stay (same_tup sm) _ _ dx (noLs_at hF hd')
    have lt := dps_len dp
    have lt2 := List.length_filter_le pb (F.take i)
    rw [List.length_take] at lt2
    have hi := (List.getElem?_eq_some_iff.mp hxi).1
    have nn := noF _ (noLs_take (i := i) hF)
    refine ⟨(hσ x).2, hs i x d H _ hxi hd' sm dx2 fun H4 s4 => ?_⟩
    cases hb : pb d with
    | true =>
      refine ⟨x, (hσ x).1, acc, s4 _ _ e, lineS200 (by omega), same_put (sm.trans s4) hD, acc ++ [x], upd_same, ?_⟩
      rw [take_snoc hd', List.filter_append, List.filter_cons_of_pos hb, List.filter_nil]
      exact push_dps (s4 _ _ e) (dps_stay (same_tup s4) _ _ dp nn) nn (dp_stay (same_tup s4) _ _ dx2 (noLs_at hF hd')) (noLs_at hF hd')
    | false =>
      refine ⟨sm.trans s4, acc, s4 _ _ e, ?_⟩
      rw [take_snoc hd', List.filter_append, List.filter_cons_of_neg (by rw [hb]; decide), List.filter_nil, List.append_nil]
      exact dps_stay (same_tup s4) _ _ dp nn
  · obtain ⟨sm, acc, e, dp⟩ := h
    rw [dps_len hx, List.take_length] at dp
    exact hd H acc sm e dp
end
theorem noLs_tups : ∀ xss : List (List PyData), (∀ xs ∈ xss, noLs xs = true) → noLs (xss.map .tuple) = true
  | [], _ => rfl
  | xs :: r, h => by
    show (noLs xs && noLs (r.map .tuple)) = true
    rw [h xs (List.mem_cons_self ..), noLs_tups r fun y hy => h y (List.mem_cons_of_mem _ hy)]
    rfl
theorem noLs_strs : ∀ xs : List Str, noLs (xs.map .str) = true
  | [] => rfl
  | _ :: r => noLs_strs r
theorem strs_dps {K : PySem.W.Frag} {H : Hp} : ∀ {vs : List V} {xs : List Str}, DpAll K H vs (xs.map .str) → vs = xs.map V.str
  | [], [], _ => rfl
  | _ :: _, _ :: _, .cons a b => by
    cases a
    rw [strs_dps b]
    rfl
theorem dps_ofs {K : PySem.W.Frag} {H : Hp} : ∀ xs : List Str, DpAll K H (xs.map V.str) (xs.map .str)
  | [] => .nil
  | x :: r => .cons (.str x) (dps_ofs r)
end C1

/-! A circuit's text, as the program prints it. -/
namespace C1
open PySem PySem.Spec PyProof.Rows L2 SX
abbrev sPrintCircuit : Stmt := topS 41
theorem scPrintCircuit : FnScope ["circuit", "registers", "memories", "rows", "nexts", "stores", "outs", "lines", "part", "line"] ["circuit"] (defScope sPrintCircuit) := ⟨rfl, rfl, rfl, by decide +kernel, rfl, by decide +kernel, by decide +kernel⟩
abbrev NPR : List Str := ["circuit", "registers", "memories", "rows", "nexts", "stores", "outs", "lines", "part", "line"]
abbrev rJoin (K : PySem.W.Frag) : V → List V → Hp → VK → Prop := fun x xs H Q => ∃ a p, ∃ ys : List Str, x = .str a ∧ xs = [.ref p] ∧ (SqL K H p (ys.map V.str) ∨ SqT K H p (ys.map V.str)) ∧
      (ys.map (·.length)).sum + ys.length * a.length ≤ 16777216 ∧ Q (.str (Txt.join a ys)) H
abbrev rStrA : List V → Hp → VK → Prop := fun xs H Q => (∃ i, xs = [.int i] ∧ i.natAbs.log2 < 1920 ∧ Q (.str (toString i)) H) ∨ (∃ a, xs = [.str a] ∧ Q (.str a) H)
theorem call_str_any {X : Cx} : CallR X (.type "str") rStrA := CallR.or call_str_int SkE.call_str_str
def scPl : Scope := { kind := .function, names := [(".0", .local), ("line", .local)], isGenerator := false, isCoroutine := false }
def unT : PyData → List PyData
  | .tuple ds => ds
  | _ => []
/-- a part of a line -/
def wordsP : List Str := strsL ++ lineW
def PartOk : PyData → Prop
  | .int i => 0 ≤ i ∧ i < 1000000000
  | .str s => s ∈ wordsP
  | _ => False
def pS : PyData → Str
  | .int i => Str.ofString (toString i)
  | .str s => s
  | _ => Str.ofString ""
def lineT (ds : List PyData) : Str := Txt.join spB (ds.map pS)
def cParts (c : Ckt) : List (List PyData) := (c.regs.map fun p => .str "register" :: unT (pr p)) ++ ((c.mems.map fun p => .str "memory" :: unT (pr p)) ++ ((c.rows.map fun r => .str "row" :: unT r.d) ++ ([.str "next" :: c.nexts.map iD] ++ ((c.stores.map fun s => .str "store" :: unT (stD s)) ++ [.str "told" :: c.outs.map iD]))))
def cLines (c : Ckt) : List Str := (cParts c).map lineT
theorem words_ln : ∀ s ∈ wordsP, s.cps.size ≤ 9 ∧ (∀ c ∈ s.cps.toList, c < 128 ∧ c ≠ 10 ∧ c ≠ 32) := by decide +kernel
theorem num_cs {i : Int} (h : 0 ≤ i) : (Str.ofString (toString i)).cps.toList = TL.numL i.toNat := by
  have e : i = ((i.toNat : Nat) : Int) := (Int.toNat_of_nonneg h).symm
  have := TL.tl_num i.toNat
  rw [← e] at this
  exact this
theorem part_ln {d : PyData} (h : PartOk d) : LnB 9 (pS d) ∧ 32 ∉ (pS d).cps.toList := by
  cases d with
  | int i =>
    obtain ⟨h0, h1⟩ := h
    have e := num_cs h0
    have dg := TL.numL_digits i.toNat
    refine ⟨⟨?_, fun c hc => ?_, fun hc => ?_⟩, fun hc => ?_⟩
    · exact Pl.len (i := i) ⟨h0, h1⟩
    · rw [show (pS (.int i)).cps.toList = TL.numL i.toNat from e] at hc
      have := (dg c hc).2
      omega
    · rw [show (pS (.int i)).cps.toList = TL.numL i.toNat from e] at hc
      have := (dg 10 hc).1
      omega
    · rw [show (pS (.int i)).cps.toList = TL.numL i.toNat from e] at hc
      have := (dg 32 hc).1
      omega
  | str s =>
    obtain ⟨a, b⟩ := words_ln s h
    exact ⟨⟨a, fun c hc => (b c hc).1, fun hc => (b 10 hc).2.1 rfl⟩, fun hc => (b 32 hc).2.2 rfl⟩
  | none => exact h.elim
  | bool _ => exact h.elim
  | tuple _ => exact h.elim
  | list _ => exact h.elim
  | dict _ => exact h.elim
/-- the parts of a line -/
structure LpOk (ds : List PyData) : Prop where
  ne : ds ≠ []
  len : ds.length ≤ 6
  ok : ∀ d ∈ ds, PartOk d
theorem part_noL {d : PyData} (h : PartOk d) : noL d = true := by
  cases d <;> first | rfl | exact h.elim
theorem LpOk.noL {ds : List PyData} (h : LpOk ds) : noLs ds = true := by
  have key : ∀ l : List PyData, (∀ d ∈ l, PartOk d) → noLs l = true := fun l => by
    induction l with
    | nil => exact fun _ => rfl
    | cons d l ih =>
      intro h
      show (C1.noL d && noLs l) = true
      rw [part_noL (h d (List.mem_cons_self ..)), ih fun x hx => h x (List.mem_cons_of_mem _ hx)]
      rfl
  exact key _ h.ok
theorem LpOk.line {ds : List PyData} (h : LpOk ds) : LnB 60 (lineT ds) := by
  have := ln_join (b := 9) (ps := ds.map pS) fun p hp => by
    obtain ⟨d, hd, rfl⟩ := List.mem_map.mp hp
    exact (part_ln (h.ok d hd)).1
  refine this.up ?_
  rw [List.length_map]
  have := h.len
  omega
theorem LpOk.spl {ds : List PyData} (h : LpOk ds) : spS (lineT ds) = ds.map pS := spS_join (by simpa using h.ne) fun p hp => by
  obtain ⟨d, hd, rfl⟩ := List.mem_map.mp hp
  exact (part_ln (h.ok d hd)).2
theorem nat_part {n : Nat} (h : n < 1000000000) : PartOk (iD n) := ⟨by omega, by omega⟩
theorem word_part {s : Str} (h : s ∈ wordsP) : PartOk (.str s) := h
theorem all_part {ds : List PyData} (h : ∀ d ∈ ds, PartOk d) {w : Str} (hw : w ∈ wordsP) (hl : ds.length ≤ 5) : LpOk (.str w :: ds) :=
  ⟨by simp, by show ds.length + 1 ≤ 6; omega, fun d hd => by
    rcases List.mem_cons.mp hd with z | z
    · rw [z]
      exact hw
    · exact h d z⟩
theorem row_parts {regs mems : List (Nat × Nat)} {ws : List Nat} {row : Row} {wd : Nat} (h : RowOk regs mems ws row wd) (hr : regs.length ≤ 60) (hm : mems.length ≤ 60) (hw : ws.length ≤ 60) (ww : WsOk ws) (w2 : wd ≤ 12) : (∀ d ∈ unT row.d, PartOk d) ∧ (unT row.d).length ≤ 5 := by
  have at_ : ∀ {α : Type} {l : List α} {a : Nat} {x : α}, l.length ≤ 60 → l[a]? = some x → a < 1000000000 := fun {α l a x} h1 h2 => by
    have := (List.getElem?_eq_some_iff.mp h2).1
    omega
  have wat : ∀ {a x : Nat}, ws[a]? = some x → x ≤ 12 := fun {a x} h2 => (ww x (List.mem_of_getElem? h2)).2
  have sg : ∀ s ∈ arithL ++ (testL ++ shiftL), s ∈ wordsP := by decide +kernel
  have kd : ∀ s ∈ strsL, s ∈ wordsP := fun s hs => List.mem_append_left _ hs
  have p2 : ∀ {k : Str} {a : Nat}, k ∈ strsL → a < 1000000000 → ∀ d ∈ [PyData.str k, iD a], PartOk d := fun {k a} hk ha d hd => by
    simp only [List.mem_cons, List.mem_nil_iff, or_false] at hd
    rcases hd with rfl | rfl
    · exact kd _ hk
    · exact nat_part ha
  have p3 : ∀ {k : Str} {a b : Nat}, k ∈ strsL → a < 1000000000 → b < 1000000000 → ∀ d ∈ [PyData.str k, iD a, iD b], PartOk d := fun {k a b} hk ha hb d hd => by
    simp only [List.mem_cons, List.mem_nil_iff, or_false] at hd
    rcases hd with rfl | rfl | rfl
    · exact kd _ hk
    · exact nat_part ha
    · exact nat_part hb
  have p4 : ∀ {k : Str} {a b c : Nat}, k ∈ strsL → a < 1000000000 → b < 1000000000 → c < 1000000000 → ∀ d ∈ [PyData.str k, iD a, iD b, iD c], PartOk d := fun {k a b c} hk ha hb hc d hd => by
    simp only [List.mem_cons, List.mem_nil_iff, or_false] at hd
    rcases hd with rfl | rfl | rfl | rfl
    · exact kd _ hk
    · exact nat_part ha
    · exact nat_part hb
    · exact nat_part hc
  have pO : ∀ {s : Str} {a b : Nat}, s ∈ arithL ++ (testL ++ shiftL) → a < 1000000000 → b < 1000000000 → ∀ d ∈ [PyData.str "op", .str s, iD a, iD b], PartOk d := fun {s a b} hs ha hb d hd => by
    simp only [List.mem_cons, List.mem_nil_iff, or_false] at hd
    rcases hd with rfl | rfl | rfl | rfl
    · exact kd _ (by decide +kernel)
    · exact sg _ hs
    · exact nat_part ha
    · exact nat_part hb
  cases h with
  | @lit v w hv =>
    have : 2 ^ wd ≤ 2 ^ 12 := Nat.pow_le_pow_right (by decide) w2
    exact ⟨p3 (by decide +kernel) (by omega) (by omega), by show 3 ≤ 5; decide⟩
  | reg h1 => exact ⟨p2 (by decide +kernel) (at_ hr h1), by show 2 ≤ 5; decide⟩
  | look h1 h2 => exact ⟨p3 (by decide +kernel) (at_ hm h1) (at_ hw h2), by show 3 ≤ 5; decide⟩
  | inv h1 => exact ⟨p2 (by decide +kernel) (at_ hw h1), by show 2 ≤ 5; decide⟩
  | wide h1 => exact ⟨p3 (by decide +kernel) (at_ hw h1) (by omega), by show 3 ≤ 5; decide⟩
  | part h1 h2 h3 =>
    have := wat h1
    exact ⟨p4 (by decide +kernel) (at_ hw h1) (by omega) (by omega), by show 4 ≤ 5; decide⟩
  | join h1 h2 => exact ⟨p3 (by decide +kernel) (at_ hw h1) (at_ hw h2), by show 3 ≤ 5; decide⟩
  | shift hs h1 h2 => exact ⟨pO (List.mem_append_right _ (List.mem_append_right _ hs)) (at_ hw h1) (at_ hw h2), by show 4 ≤ 5; decide⟩
  | arith hs h1 h2 => exact ⟨pO (List.mem_append_left _ hs) (at_ hw h1) (at_ hw h2), by show 4 ≤ 5; decide⟩
  | test hs h1 h2 => exact ⟨pO (List.mem_append_right _ (List.mem_append_left _ hs)) (at_ hw h1) (at_ hw h2), by show 4 ≤ 5; decide⟩
  | pick h1 h2 h3 => exact ⟨p4 (by decide +kernel) (at_ hw h1) (at_ hw h2) (at_ hw h3), by show 4 ≤ 5; decide⟩
theorem rows_parts {regs mems : List (Nat × Nat)} {rows : List Row} {ws : List Nat} (h : RowsOk regs mems rows ws) (hr : regs.length ≤ 60) (hm : mems.length ≤ 60) (hw : ws.length ≤ 60) : ∀ r ∈ rows, (∀ d ∈ unT r.d, PartOk d) ∧ (unT r.d).length ≤ 5 := by
  induction h with
  | nil => intro r h; cases h
  | @snoc rows ws row wd hR hrow h1 h2 ih =>
    rw [List.length_append] at hw
    intro r hr2
    rcases List.mem_append.mp hr2 with z | z
    · exact ih (by omega) r z
    · rw [List.mem_singleton.mp z]
      exact row_parts hrow hr hm (by omega) (rows_ws hR) h2
theorem parts_ok {c : Ckt} {ws : List Nat} (h : CktOk c ws) : ∀ ds ∈ cParts c, LpOk ds := by
  have wd : ∀ s ∈ lineW, s ∈ wordsP := fun s hs => List.mem_append_right _ hs
  have two : ∀ {p : Nat × Nat}, p.1 < 1000000000 → p.2 < 1000000000 → ∀ d ∈ unT (pr p), PartOk d := fun {p} h1 h2 d hd => by
    simp only [unT, pr, List.mem_cons, List.mem_nil_iff, or_false] at hd
    rcases hd with rfl | rfl
    · exact nat_part h1
    · exact nat_part h2
  have wl : ∀ {a x : Nat}, ws[a]? = some x → a < 1000000000 := fun {a x} h2 => by
    have := (List.getElem?_eq_some_iff.mp h2).1
    have := h.lw
    omega
  intro ds hd
  have lr := h.lr
  have lm := h.lm
  have lw := h.lw
  unfold cParts at hd
  rcases List.mem_append.mp hd with z | hd
  · obtain ⟨p, hp, rfl⟩ := List.mem_map.mp z
    obtain ⟨h1, h2, h3⟩ := h.rg p hp
    have : 2 ^ p.1 ≤ 2 ^ 5 := Nat.pow_le_pow_right (by decide) h2
    exact all_part (two (by omega) (by omega)) (wd _ (by decide +kernel)) (by show 2 ≤ 5; decide)
  rcases List.mem_append.mp hd with z | hd
  · obtain ⟨p, hp, rfl⟩ := List.mem_map.mp z
    obtain ⟨h1, h2, h3, h4⟩ := h.mm p hp
    exact all_part (two (by omega) (by omega)) (wd _ (by decide +kernel)) (by show 2 ≤ 5; decide)
  rcases List.mem_append.mp hd with z | hd
  · obtain ⟨r, hr, rfl⟩ := List.mem_map.mp z
    obtain ⟨h1, h2⟩ := rows_parts h.rw (by omega) (by omega) lw r hr
    exact all_part h1 (wd _ (by decide +kernel)) h2
  rcases List.mem_append.mp hd with z | hd
  · rw [List.mem_singleton.mp z]
    refine all_part (fun d hd => ?_) (wd _ (by decide +kernel)) (by rw [List.length_map, h.nl]; omega)
    obtain ⟨n, hn, rfl⟩ := List.mem_map.mp hd
    obtain ⟨i, hi⟩ := List.getElem?_of_mem hn
    have hi2 := (List.getElem?_eq_some_iff.mp hi).1
    rw [h.nl] at hi2
    exact nat_part (wl (h.nx i _ n (List.getElem?_eq_getElem hi2) hi))
  rcases List.mem_append.mp hd with z | hd
  · obtain ⟨s, hs, rfl⟩ := List.mem_map.mp z
    obtain ⟨p, h1, h2, h3, h4⟩ := h.so s hs
    refine all_part (fun d hd => ?_) (wd _ (by decide +kernel)) (by show 4 ≤ 5; decide)
    simp only [unT, stD, List.mem_cons, List.mem_nil_iff, or_false] at hd
    have := (List.getElem?_eq_some_iff.mp h1).1
    rcases hd with rfl | rfl | rfl | rfl
    · exact nat_part (by omega)
    · exact nat_part (wl h2)
    · exact nat_part (wl h3)
    · exact nat_part (wl h4)
  · rw [List.mem_singleton.mp hd]
    refine all_part (fun d hd => ?_) (wd _ (by decide +kernel)) (by rw [List.length_map]; have := h.ol; omega)
    obtain ⟨n, hn, rfl⟩ := List.mem_map.mp hd
    have := h.oo n hn
    exact nat_part (by omega)
theorem parts_len {c : Ckt} {ws : List Nat} (h : CktOk c ws) : (cParts c).length ≤ 80 := by
  unfold cParts
  simp only [List.length_append, List.length_map, List.length_cons, List.length_nil]
  have := h.lr
  have := h.lm
  have := h.lw
  have := h.sl
  have := rows_len h.rw
  omega
section
variable {P : Program} {w : World} {K : PySem.W.Frag} {mg : Str → Option Value} {base : Heap} {T : Addr}
theorem star_lc {wd : Str} {a : Addr} {xs : List V} {H0 : Hp} {D : Addr} {σ : L2.St} {vs : List Nat} {j : Nat} {Qd : Hp → Prop} (dss : List (List PyData)) (hF : ∀ ds ∈ dss, noLs ds = true) (hx : DpAll K H0 xs (dss.map .tuple)) (hn : xs.length ≤ 1000)
    (hm : ∀ ds ∈ dss, ds.length ≤ 900) (hl : SqT K H0 a xs) (hD : H0 D = none) (hσ : ∀ v, ((wipe σ vs).set j (some v))[j]? = some (some v) ∧ wipe ((wipe σ vs).set j (some v)) vs = wipe σ vs)
    (hd : ∀ H acc, Same H0 H → H D = some (.lst acc) → DpAll K H acc (dss.map fun ds => .tuple (.str wd :: ds)) → Qd H) :
    ∃ W : Nat → Nat → Hp → Prop, (∃ m, W 0 m (upd H0 D (.lst []))) ∧ ∀ i m H, W i m H →
      ((Itt K a).stop i H ∧ Qd H) ∨ ((Itt K a).go i H ∧ ∃ Nx : Hp → Prop, (∀ H', Nx H' → ∃ m', m' < m ∧ W (i + 1) m' H') ∧ ∀ x H', (Itt K a).yld i H x H' → gName j x (wipe σ vs) H' fun σ2 H2 => wipe σ2 vs = wipe σ vs ∧ tYes σ2 H2 fun b H3 =>
        if b = true then (tTup (tCons (tC (.str wd)) (StX.tStar K (tVar j) tNil))) σ2 H3 fun y H4 => ∃ acc, H4 D = some (.lst acc) ∧ acc.length < sizeLine ∧ Nx (upd H4 D (.lst (acc ++ [y]))) else Nx H3) := by
  have eF : (dss.map fun ds => PyData.tuple (.str wd :: ds)) = (dss.map fun ds => .str wd :: ds).map .tuple := by
    rw [List.map_map]
    rfl
  have nF : noLs (dss.map fun ds => PyData.tuple (.str wd :: ds)) = true := by
    rw [eF]
    refine noLs_tups _ fun xs h => ?_
    obtain ⟨ds, h2, rfl⟩ := List.mem_map.mp h
    show (true && noLs ds) = true
    rw [hF ds h2]
    rfl
  refine lc_tupD (dss.map fun ds => .tuple (.str wd :: ds)) nF (by rw [List.length_map]; have := dps_len hx; rw [List.length_map] at this; exact this) hn hl hD (fun i x d H Q hxi hdi sm q => ?_) hd
  rw [List.getElem?_map] at hdi
  obtain ⟨ds, eds, rfl⟩ := Option.map_eq_some_iff.mp hdi
  have dx : Dp K H0 x (.tuple ds) := dps_at hx hxi (by rw [List.getElem?_map, eds]; rfl)
  have mem := List.mem_of_getElem? eds
  obtain ⟨b, ys, rfl, sq, dys⟩ := dp_tup dx
  have ly := dps_len dys
  have lm := hm ds mem
  have sq2 := same_tup sm _ _ sq
  refine ⟨(hσ _).2, _, (hσ _).1, b, ys, rfl, .inl sq2, ?_, fun p np => q _ _ (Same.up np) ?_⟩
  · exact line200 (show ((V.str wd) :: (ys ++ [])).length ≤ 1000 by rw [List.append_nil, List.length_cons]; omega)
  · rw [List.append_nil]
    exact .tup (SqT.of upd_same) (.cons (.str wd) (dps_stay (fun b xs h => same_tup (sm.trans (Same.up np)) _ _ h) _ _ dys (hF ds mem)))
theorem line_te {σ : L2.St} {H : Hp} {x : V} {ds : List PyData} {L j : Nat} {Q : VK} (hσ : σ[L]? = some (some x)) (hx : Dp K H x (.tuple ds)) (ok : LpOk ds) (hj : ∀ v, ((wipe σ [j]).set j (some v))[j]? = some (some v) ∧ wipe ((wipe σ [j]).set j (some v)) [j] = wipe σ [j])
    (q : ∀ H', Same H H' → Q (.str (lineT ds)) H') : (L2.tM1 (rJoin K) (tC (.str " ")) (tLc (iTup K (tVar L)) (gName j) tYes (tCB rStrA (tCons (tVar j) tNil)) [j])) σ H Q := by
  obtain ⟨b, ys, rfl, sq, dys⟩ := dp_tup hx
  have ly := dps_len dys
  have lm := ok.len
  refine ⟨⟨_, rfl⟩, _, hσ, b, rfl, ⟨_, sq⟩, fun D nD => ?_⟩
  refine lc_tupD ((ds.map pS).map .str) (noLs_strs _) (by rw [List.length_map, List.length_map]; exact ly) (by omega) sq nD (fun i x d H2 Q2 hxi hdi sm q2 => ?_) (fun H2 acc sm e dp => ?_)
  · rw [List.getElem?_map, List.getElem?_map] at hdi
    obtain ⟨s, es, rfl⟩ := Option.map_eq_some_iff.mp hdi
    obtain ⟨d, ed, rfl⟩ := Option.map_eq_some_iff.mp es
    have dx := dps_at dys hxi ed
    have pk := ok.ok d (List.mem_of_getElem? ed)
    refine ⟨(hj _).2, _, (hj _).1, ?_⟩
    cases dx with
    | int i => exact .inl ⟨i, rfl, Pl.log (i := i) pk, q2 _ _ (fun _ _ e => e) (.str _)⟩
    | str s => exact .inr ⟨s, rfl, q2 _ _ (fun _ _ e => e) (.str _)⟩
    | _ => exact pk.elim
  · have ea := strs_dps dp
    subst ea
    refine ⟨Str.ofString " ", D, ds.map pS, rfl, rfl, .inl (SqL.of e), ?_, q H2 sm⟩
    have h1 := len_sum (xs := ds.map pS) (b := 9) fun y hy => by
      obtain ⟨d, hd, rfl⟩ := List.mem_map.mp hy
      exact (part_ln (ok.ok d hd)).1.sz
    rw [List.length_map] at h1 ⊢
    have h0 : (Str.ofString " ").length = 1 := by decide +kernel
    rw [h0]
    omega
def ctext (c : Ckt) : Str := textL (cLines c)
def spPrint (K : PySem.W.Frag) : Sp := fun vs H Q _ => ∃ (v : V) (c : Ckt) (ws : List Nat), vs = [v] ∧ Dp K H v c.d ∧ CktOk c ws ∧ ∀ H', Same H H' → Q (.str (ctext c)) H'
theorem ok_print {f fT : Addr} {fd fdT : FuncData} (F : Fun K "print_circuit" "print_circuit" sPrintCircuit f fd) (ms : mg "str" = none)
    (GT : FnOk P w K mg base CX0 1 fT fdT ["lines"] (spTextOf K)) (kT : PySem.W.keepIn K (.ref fT) = true) (bT : Binds K fdT ["lines"] []) (gT : mg "text_of" = some (.ref fT)) :
    FnOk P w K mg base CX0 2 f fd ["circuit"] (spPrint K) := by
  refine F.ok scPrintCircuit (fun vs H Q E h => ?_) (fun cdv A outer s H vs Q E hr h => ?_)
  · obtain ⟨v, c, ws, rfl, _⟩ := h
    rfl
  · obtain ⟨v, c, ws, rfl, hd, ok, q⟩ := h
    have nd := scPrintCircuit.nd
    refine ⟨_, (pss_cons (ps_asg (pv 0) (pg_tup (by rfl) (pgs_cons (pg_name (i := 1) nd rfl (.inl rfl)) (pgs_cons (pg_name (i := 2) nd rfl (.inl rfl)) (pgs_cons (pg_name (i := 3) nd rfl (.inl rfl)) (pgs_cons (pg_name (i := 4) nd rfl (.inl rfl)) (pgs_cons (pg_name (i := 5) nd rfl (.inl rfl)) (pgs_cons (pg_name (i := 6) nd rfl (.inl rfl)) pgs_nil))))))))
      (pss_cons (ps_setLc (i := 7) (own := [("part", 8)]) (g := gName 8) (tt := tYes) (te := tTup (tCons (tC (.str "register")) (StX.tStar K (tVar 8) tNil)))  rfl nd rfl rfl (sw_true rfl rfl rfl (by decide +kernel)) (pi_tup (pv 1)) (blkOk_by (own := [("part", 8)]) (N := NPR) (sc := defScope sPrintCircuit) (by decide +kernel)) (fun _ _ _ _ _ => pg_name (i := 8) nd rfl (.inl rfl)) (fun _ _ _ _ _ => pts_nil) (fun _ _ _ _ _ => by exact (pe_tup (pa_cons pe_str (StX.pa_star (pv 8) pa_nil)))))
      (pss_cons (ps_expr (pe_bm PySem.F.plainAttrs_list PySem.F.slot_list_extend PySem.F.type_list_extend mt_extend (pv 7) (pa_cons (pe_lc (own := [("part", 8)]) (g := gName 8) (tt := tYes) (te := tTup (tCons (tC (.str "memory")) (StX.tStar K (tVar 8) tNil)))  rfl nd (pi_tup (pv 2)) (blkOk_by (own := [("part", 8)]) (N := NPR) (sc := defScope sPrintCircuit) (by decide +kernel)) (fun _ _ _ _ _ => pg_name (i := 8) nd rfl (.inl rfl)) (fun _ _ _ _ _ => pts_nil) (fun _ _ _ _ _ => by exact (pe_tup (pa_cons pe_str (StX.pa_star (pv 8) pa_nil))))) pa_nil)))
      (pss_cons (ps_expr (pe_bm PySem.F.plainAttrs_list PySem.F.slot_list_extend PySem.F.type_list_extend mt_extend (pv 7) (pa_cons (pe_lc (own := [("part", 8)]) (g := gName 8) (tt := tYes) (te := tTup (tCons (tC (.str "row")) (StX.tStar K (tVar 8) tNil)))  rfl nd (pi_tup (pv 3)) (blkOk_by (own := [("part", 8)]) (N := NPR) (sc := defScope sPrintCircuit) (by decide +kernel)) (fun _ _ _ _ _ => pg_name (i := 8) nd rfl (.inl rfl)) (fun _ _ _ _ _ => pts_nil) (fun _ _ _ _ _ => by exact (pe_tup (pa_cons pe_str (StX.pa_star (pv 8) pa_nil))))) pa_nil)))
      (pss_cons (ps_expr (pe_bm PySem.F.plainAttrs_list PySem.F.slot_list_append PySem.F.type_list_append mt_append (pv 7) (pa_cons (pe_tup (pa_cons pe_str (StX.pa_star (pv 4) pa_nil))) pa_nil)))
      (pss_cons (ps_expr (pe_bm PySem.F.plainAttrs_list PySem.F.slot_list_extend PySem.F.type_list_extend mt_extend (pv 7) (pa_cons (pe_lc (own := [("part", 8)]) (g := gName 8) (tt := tYes) (te := tTup (tCons (tC (.str "store")) (StX.tStar K (tVar 8) tNil)))  rfl nd (pi_tup (pv 5)) (blkOk_by (own := [("part", 8)]) (N := NPR) (sc := defScope sPrintCircuit) (by decide +kernel)) (fun _ _ _ _ _ => pg_name (i := 8) nd rfl (.inl rfl)) (fun _ _ _ _ _ => pts_nil) (fun _ _ _ _ _ => by exact (pe_tup (pa_cons pe_str (StX.pa_star (pv 8) pa_nil))))) pa_nil)))
      (pss_cons (ps_expr (pe_bm PySem.F.plainAttrs_list PySem.F.slot_list_append PySem.F.type_list_append mt_append (pv 7) (pa_cons (pe_tup (pa_cons pe_str (StX.pa_star (pv 6) pa_nil))) pa_nil)))
      (pss_one (ps_ret (pe_call GT hr (by rfl) gT kT bT .nil pass0 (pa_cons (pe_lc (own := [("line", 9)]) (g := gName 9) (tt := tYes) (te := L2.tM1 (rJoin K) (tC (.str " ")) (tLc (iTup K (tVar 9)) (gName 8) tYes (tCB rStrA (tCons (tVar 8) tNil)) [8]))  rfl nd (pi_list (pv 7)) (blkOk_by (own := [("line", 9)]) (N := NPR) (sc := defScope sPrintCircuit) (by decide +kernel)) (fun _ _ _ _ _ => pg_name (i := 9) nd rfl (.inl rfl)) (fun _ _ _ _ _ => pts_nil) (fun _ _ _ _ _ => by exact (pe_join (pe_str) (pe_lc (own := [("part", 8)]) (g := gName 8) (tt := tYes) (te := tCB rStrA (tCons (tVar 8) tNil)) rfl nd (pi_tup (pv 9)) (blkOk_by (own := [("part", 8)]) (N := NPR) (sc := scPl) (by decide +kernel)) (fun _ _ _ _ _ => pg_name (i := 8) nd rfl (.inl rfl)) (fun _ _ _ _ _ => pts_nil) (fun _ _ _ _ _ => by exact (pe_callTy call_str_any (by rfl) ms (by decide +kernel) (pa_cons (pv 8) pa_nil))))))) pa_nil))))))))))), ?_⟩
    obtain ⟨b, xs6, rfl, sq6, d6⟩ := dp_tup hd
    have PK := parts_ok ok
    have mk : ∀ {α : Type} (l : List α) (f : α → PyData) (wd : Str), (∀ x ∈ l, f x = .tuple (unT (f x))) → (∀ x ∈ l, (.str wd :: unT (f x)) ∈ cParts c) → l.length ≤ 60 → l.map f = (l.map fun x => unT (f x)).map .tuple ∧ (∀ ds ∈ l.map fun x => unT (f x), noLs ds = true) ∧ (∀ ds ∈ l.map fun x => unT (f x), ds.length ≤ 900) := fun l f wd h1 h2 h3 => by
      refine ⟨?_, fun ds hds => ?_, fun ds hds => ?_⟩
      · rw [List.map_map]
        exact List.map_congr_left fun x hx => h1 x hx
      · obtain ⟨x, hx, rfl⟩ := List.mem_map.mp hds
        have := (PK _ (h2 x hx)).noL
        exact (Bool.and_eq_true_iff.mp (show (true && noLs (unT (f x))) = true from this)).2
      · obtain ⟨x, hx, rfl⟩ := List.mem_map.mp hds
        have := (PK _ (h2 x hx)).len
        have e : (PyData.str wd :: unT (f x)).length = (unT (f x)).length + 1 := rfl
        omega
    obtain ⟨r1, r2, r3⟩ := mk c.regs pr "register" (fun _ _ => rfl) (fun x hx => List.mem_append_left _ (List.mem_map.mpr ⟨x, hx, rfl⟩)) (by have := ok.lr; omega)
    obtain ⟨m1, m2, m3⟩ := mk c.mems pr "memory" (fun _ _ => rfl) (fun x hx => List.mem_append_right _ (List.mem_append_left _ (List.mem_map.mpr ⟨x, hx, rfl⟩))) (by have := ok.lm; omega)
    have lrw : c.rows.length ≤ 60 := by
      have := rows_len ok.rw
      have := ok.lw
      omega
    obtain ⟨w1, w2, w3⟩ := mk c.rows Row.d "row" (fun x _ => by cases x <;> rfl) (fun x hx => List.mem_append_right _ (List.mem_append_right _ (List.mem_append_left _ (List.mem_map.mpr ⟨x, hx, rfl⟩)))) lrw
    obtain ⟨s1, s2, s3⟩ := mk c.stores stD "store" (fun _ _ => rfl) (fun x hx => List.mem_append_right _ (List.mem_append_right _ (List.mem_append_right _ (List.mem_append_right _ (List.mem_append_left _ (List.mem_map.mpr ⟨x, hx, rfl⟩)))))) (by have := ok.sl; omega)
    have lnx : c.nexts.length ≤ 5 := by
      rw [ok.nl]
      have := ok.lr
      omega
    have lou := ok.ol
    rw [r1, m1, w1, s1] at d6
    cases d6 with
    | cons dR d6 =>
    cases d6 with
    | cons dM d6 =>
    cases d6 with
    | cons dW d6 =>
    cases d6 with
    | cons dN d6 =>
    cases d6 with
    | cons dS d6 =>
    cases d6 with
    | cons dO d6 =>
    cases d6
    obtain ⟨aR, vR, rfl, sR, dR⟩ := dp_tup dR
    obtain ⟨aM, vM, rfl, sM, dM⟩ := dp_tup dM
    obtain ⟨aW, vW, rfl, sW, dW⟩ := dp_tup dW
    obtain ⟨aN, vN, rfl, sN, dN⟩ := dp_tup dN
    obtain ⟨aS, vS, rfl, sS, dS⟩ := dp_tup dS
    obtain ⟨aO, vO, rfl, sO, dO⟩ := dp_tup dO
    have hσs : ∀ {σ : L2.St} {n : Nat}, (wipe σ [n]).length = σ.length := fun {σ n} => wipe_length σ [n]
    have lR := dps_len dR
    have lM := dps_len dM
    have lW := dps_len dW
    have lN := dps_len dN
    have lS := dps_len dS
    have lO := dps_len dO
    rw [List.length_map, List.length_map] at lR lM lW lS
    rw [List.length_map] at lN lO
    have lrr := ok.lr
    have lmm := ok.lm
    have lss := ok.sl
    have tupNo : ∀ {dss : List (List PyData)}, (∀ ds ∈ dss, noLs ds = true) → noLs (dss.map PyData.tuple) = true := fun {dss} h => noLs_tups dss h
    have stay : ∀ {H1 H2 : Hp} {vs : List V} {dss : List (List PyData)}, Same H1 H2 → (∀ ds ∈ dss, noLs ds = true) → DpAll K H1 vs (dss.map PyData.tuple) → DpAll K H2 vs (dss.map PyData.tuple) := fun {H1 H2 vs dss} sm h d => dps_stay (same_tup sm) _ _ d (tupNo h)
    have wn : ∀ {wd : Str} {dss : List (List PyData)}, (∀ ds ∈ dss, noLs ds = true) → ∀ ds ∈ dss.map (fun ds => PyData.str wd :: ds), noLs ds = true := fun {wd dss} h ds hd => by
      obtain ⟨e, he, rfl⟩ := List.mem_map.mp hd
      show (true && noLs e) = true
      rw [h e he]
      rfl
    have eMap : ∀ (wd : Str) (dss : List (List PyData)), (dss.map fun ds => PyData.tuple (.str wd :: ds)) = (dss.map fun ds => .str wd :: ds).map .tuple := fun wd dss => by
      rw [List.map_map]
      rfl
    refine ⟨_, rfl, b, _, rfl, sq6, rfl, _, _, rfl, _, _, rfl, _, _, rfl, _, _, rfl, _, _, rfl, _, _, rfl, rfl, ?_⟩
    -- lines: the registers
    refine ⟨_, rfl, aR, rfl, ⟨_, sR⟩, fun l nl => star_lc _ r2 dR (by omega) r3 sR nl (fun v => ⟨rfl, rfl⟩) fun H1 acc1 g1 e1 dp1 => ?_⟩
    rw [eMap] at dp1
    have n1 := wn (wd := "register") r2
    have ext : ∀ {H1 H2 : Hp} {vs us : List V} {dss ess : List (List PyData)}, Same H H1 → Same H1 H2 → H1 l = some (.lst vs) → DpAll K H1 vs (dss.map PyData.tuple) → (∀ ds ∈ dss, noLs ds = true) → DpAll K H2 us (ess.map PyData.tuple) → (∀ ds ∈ ess, noLs ds = true) →
        Same H (upd H2 l (.lst (vs ++ us))) ∧ DpAll K (upd H2 l (.lst (vs ++ us))) (vs ++ us) ((dss ++ ess).map PyData.tuple) ∧ (∀ ds ∈ dss ++ ess, noLs ds = true) ∧ (upd H2 l (.lst (vs ++ us))) l = some (.lst (vs ++ us)) := fun {H1 H2 vs us dss ess} g1 g2 e1 d1 n1 d2 n2 => by
      refine ⟨same_put (g1.trans g2) nl, ?_, fun ds hd => (List.mem_append.mp hd).elim (n1 ds) (n2 ds), upd_same⟩
      rw [List.map_append]
      exact dps_app (dps_stay (tups_upd (g2 _ _ e1)) _ _ (stay g2 n1 d1) (tupNo n1)) (dps_stay (tups_upd (g2 _ _ e1)) _ _ d2 (tupNo n2))
    have l1 := dps_len dp1
    simp only [List.length_map] at l1
    -- the memories
    refine ⟨_, rfl, .inl ⟨rfl, _, SqL.of e1⟩, _, rfl, aM, rfl, ⟨_, same_tup g1 _ _ sM⟩, fun D2 nD2 => star_lc _ m2 (stay g1 m2 dM) (by omega) m3 (same_tup g1 _ _ sM) nD2 (fun v => ⟨rfl, rfl⟩) fun H2 acc2 g2 e2 dp2 => ?_⟩
    rw [eMap] at dp2
    have l2 := dps_len dp2
    simp only [List.length_map] at l2
    refine ⟨l, D2, acc1, acc2, rfl, rfl, g2 _ _ e1, e2, line200 (by omega), ?_⟩
    obtain ⟨g3, dp3, n3, e3⟩ := ext g1 g2 e1 dp1 n1 dp2 (wn (wd := "memory") m2)
    have l3 : (acc1 ++ acc2).length ≤ 6 := by
      rw [List.length_append]
      omega
    generalize acc1 ++ acc2 = acc3 at g3 dp3 e3 l3
    generalize upd H2 l (.lst acc3) = H3 at g3 dp3 e3
    -- the rows
    refine ⟨_, rfl, .inl ⟨rfl, _, SqL.of e3⟩, _, rfl, aW, rfl, ⟨_, same_tup g3 _ _ sW⟩, fun D4 nD4 => star_lc _ w2 (stay g3 w2 dW) (by omega) w3 (same_tup g3 _ _ sW) nD4 (fun v => ⟨rfl, rfl⟩) fun H4 acc4 g4 e4 dp4 => ?_⟩
    rw [eMap] at dp4
    have l4 := dps_len dp4
    simp only [List.length_map] at l4
    refine ⟨l, D4, acc3, acc4, rfl, rfl, g4 _ _ e3, e4, line200 (by omega), ?_⟩
    obtain ⟨g5, dp5, n5, e5⟩ := ext g3 g4 e3 dp3 n3 dp4 (wn (wd := "row") w2)
    have l5 : (acc3 ++ acc4).length ≤ 66 := by
      rw [List.length_append]
      omega
    generalize acc3 ++ acc4 = acc5 at g5 dp5 e5 l5
    generalize upd H4 l (.lst acc5) = H5 at g5 dp5 e5
    -- the nexts
    have nN : noLs (PyData.str "next" :: c.nexts.map iD) = true := noLs_i c.nexts
    refine ⟨_, rfl, .inl ⟨rfl, _, SqL.of e5⟩, _, rfl, aN, vN, rfl, .inl (same_tup g5 _ _ sN), line200 (by rw [List.append_nil, List.length_cons]; omega), fun p np => ?_⟩
    have g6 : Same H5 (upd H5 p (.tup (V.str "next" :: (vN ++ [])))) := Same.up np
    have dp6 : DpAll K (upd H5 p (.tup (V.str "next" :: (vN ++ [])))) [V.ref p] ([PyData.str "next" :: c.nexts.map iD].map PyData.tuple) := .cons (.tup (SqT.of upd_same) (.cons (.str _) (by have z := dps_stay (same_tup (g5.trans g6)) _ _ dN (noLs_i c.nexts); rw [List.append_nil] at z ⊢; exact z))) .nil
    refine ⟨l, acc5, _, rfl, rfl, g6 _ _ e5, lineS200 (by omega), ?_⟩
    obtain ⟨g7, dp7, n7, e7⟩ := ext g5 g6 e5 dp5 n5 dp6 (fun ds hd => by rw [List.mem_singleton.mp hd]; exact nN)
    have l7 : (acc5 ++ [V.ref p]).length ≤ 67 := by
      rw [List.length_append]
      show acc5.length + 1 ≤ 67
      omega
    generalize acc5 ++ [V.ref p] = acc7 at g7 dp7 e7 l7
    generalize upd (upd H5 p (.tup (V.str "next" :: (vN ++ [])))) l (.lst acc7) = H7 at g7 dp7 e7
    -- the stores
    refine ⟨_, rfl, .inl ⟨rfl, _, SqL.of e7⟩, _, rfl, aS, rfl, ⟨_, same_tup g7 _ _ sS⟩, fun D8 nD8 => star_lc _ s2 (stay g7 s2 dS) (by omega) s3 (same_tup g7 _ _ sS) nD8 (fun v => ⟨rfl, rfl⟩) fun H8 acc8 g8 e8 dp8 => ?_⟩
    rw [eMap] at dp8
    have l8 := dps_len dp8
    simp only [List.length_map] at l8
    refine ⟨l, D8, acc7, acc8, rfl, rfl, g8 _ _ e7, e8, line200 (by omega), ?_⟩
    obtain ⟨g9, dp9, n9, e9⟩ := ext g7 g8 e7 dp7 n7 dp8 (wn (wd := "store") s2)
    have l9 : (acc7 ++ acc8).length ≤ 80 := by
      rw [List.length_append]
      omega
    generalize acc7 ++ acc8 = acc9 at g9 dp9 e9 l9
    generalize upd H8 l (.lst acc9) = H9 at g9 dp9 e9
    -- what is told
    have nO : noLs (PyData.str "told" :: c.outs.map iD) = true := noLs_i c.outs
    refine ⟨_, rfl, .inl ⟨rfl, _, SqL.of e9⟩, _, rfl, aO, vO, rfl, .inl (same_tup g9 _ _ sO), line200 (by rw [List.append_nil, List.length_cons]; omega), fun p2 np2 => ?_⟩
    have ga : Same H9 (upd H9 p2 (.tup (V.str "told" :: (vO ++ [])))) := Same.up np2
    have dpa : DpAll K (upd H9 p2 (.tup (V.str "told" :: (vO ++ [])))) [V.ref p2] ([PyData.str "told" :: c.outs.map iD].map PyData.tuple) := .cons (.tup (SqT.of upd_same) (.cons (.str _) (by have z := dps_stay (same_tup (g9.trans ga)) _ _ dO (noLs_i c.outs); rw [List.append_nil] at z ⊢; exact z))) .nil
    refine ⟨l, acc9, _, rfl, rfl, ga _ _ e9, lineS200 (by omega), ?_⟩
    obtain ⟨gb, dpb, nb, eb⟩ := ext g9 ga e9 dp9 n9 dpa (fun ds hd => by rw [List.mem_singleton.mp hd]; exact nO)
    have lb : (acc9 ++ [V.ref p2]).length ≤ 81 := by
      rw [List.length_append]
      show acc9.length + 1 ≤ 81
      omega
    generalize acc9 ++ [V.ref p2] = accb at gb dpb eb lb
    generalize upd (upd H9 p2 (.tup (V.str "told" :: (vO ++ [])))) l (.lst accb) = Hb at gb dpb eb
    have eP : (((((c.regs.map fun x => unT (pr x)).map (fun ds => PyData.str "register" :: ds) ++ (c.mems.map fun x => unT (pr x)).map (fun ds => PyData.str "memory" :: ds)) ++ (c.rows.map fun x => unT x.d).map (fun ds => PyData.str "row" :: ds)) ++ [PyData.str "next" :: c.nexts.map iD]) ++ (c.stores.map fun x => unT (stD x)).map (fun ds => PyData.str "store" :: ds)) ++ [PyData.str "told" :: c.outs.map iD] = cParts c := by
      unfold cParts
      simp only [List.map_map, List.append_assoc]
      rfl
    have dpc : DpAll K Hb accb ((cParts c).map PyData.tuple) := by
      rw [← eP]
      exact dpb
    have lc := dps_len dpc
    rw [List.length_map] at lc
    -- the text
    refine ⟨_, rfl, l, rfl, ⟨_, SqL.of eb⟩, fun De nDe => ?_⟩
    refine lc_listD ((cLines c).map .str) (noLs_strs _) (by rw [List.length_map]; unfold cLines; rw [List.length_map]; exact lc) (by omega) (SqL.of eb) nDe (fun i x d H2 Q2 hxi hdi sm q2 => ?_) (fun He acce ge ee dpe => ?_)
    · unfold cLines at hdi
      rw [List.getElem?_map, List.getElem?_map] at hdi
      obtain ⟨sx, es, rfl⟩ := Option.map_eq_some_iff.mp hdi
      obtain ⟨ds, ed, rfl⟩ := Option.map_eq_some_iff.mp es
      have mem := PK ds (List.mem_of_getElem? ed)
      have dx : Dp K Hb x (.tuple ds) := dps_at dpc hxi (by rw [List.getElem?_map, ed]; rfl)
      exact ⟨rfl, line_te (L := 9) (j := 8) rfl (dp_stay (same_tup sm) _ _ dx (mem.noL)) mem (fun v => ⟨rfl, rfl⟩) fun H3 s3 => q2 _ _ s3 (.str _)⟩
    · have ea := strs_dps dpe
      subst ea
      have hl : (cLines c).length ≤ 80 := by
        unfold cLines
        rw [List.length_map]
        exact parts_len ok
      refine ⟨De, cLines c, rfl, SqL.of ee, by omega, fun x hx => ?_, fun H' sm => q H' (gb.trans (ge.trans sm))⟩
      obtain ⟨ds, hds, rfl⟩ := List.mem_map.mp hx
      have := ((PK ds hds).line).sz
      show (lineT ds).cps.size ≤ 10000
      omega
end
end C1

/-! A circuit's lines, as the law lays them. -/
namespace C1
open PySem PySem.Spec PyProof.Rows L2 SX
abbrev sLawLines : Stmt := topS 54
theorem scLawLines : FnScope ["circuit", "lines", "width", "first", "bits", "row", "part", "at", "store"] ["circuit"] (defScope sLawLines) := ⟨rfl, rfl, rfl, by decide +kernel, rfl, by decide +kernel, by decide +kernel⟩
abbrev NLL : List Str := ["circuit", "lines", "width", "first", "bits", "row", "part", "at", "store"]
def scRl : Scope := { kind := .function, names := [(".0", .local), ("row", .local)], isGenerator := false, isCoroutine := false }
def scSl : Scope := { kind := .function, names := [(".0", .local), ("store", .local)], isGenerator := false, isCoroutine := false }
theorem line_cons (wd : Str) {ds : List PyData} (h : ds ≠ []) : lineT (.str wd :: ds) = wd ++ spB ++ lineT ds := by
  cases ds with
  | nil => exact absurd rfl h
  | cons d r =>
    apply TL.ext_tl
    show (Txt.join spB (pS (.str wd) :: pS d :: r.map pS)).cps.toList = (wd ++ spB ++ lineT (d :: r)).cps.toList
    rw [app_cs, app_cs]
    unfold lineT
    rw [cs_join, cs_join]
    show wd.cps.toList ++ (spB.cps.toList ++ TL.joinL spB.cps.toList _) = _
    rw [List.append_assoc]
    rfl
theorem line_one (d : PyData) : lineT [d] = pS d := by
  apply TL.ext_tl
  show (Txt.join spB [pS d]).cps.toList = _
  rw [cs_join]
  rfl
theorem str_app (a b c : Str) : a ++ b ++ c = a ++ (b ++ c) := by
  apply TL.ext_tl
  show (a ++ b ++ c).cps.toList = (a ++ (b ++ c)).cps.toList
  rw [app_cs, app_cs, app_cs, app_cs, List.append_assoc]
theorem line_two {w' wd : Str} (hw : w' = wd ++ spB) (a b : PyData) (ha : ∃ i, a = .int i) : w' ++ pS a ++ spB ++ pS b = lineT [.str wd, a, b] := by
  obtain ⟨i, rfl⟩ := ha
  rw [line_cons wd (by simp), hw]
  have e : lineT [PyData.int i, b] = pS (.int i) ++ spB ++ pS b := by
    apply TL.ext_tl
    show (Txt.join spB [pS (.int i), pS b]).cps.toList = (pS (.int i) ++ spB ++ pS b).cps.toList
    rw [app_cs, app_cs, cs_join, List.append_assoc]
    rfl
  rw [e]
  simp only [str_app]
section
variable {K : PySem.W.Frag}
theorem str_te {σ : L2.St} {H : Hp} {x : V} {d : PyData} {j : Nat} {Q : VK} (hσ : σ[j]? = some (some x)) (hx : Dp K H x d) (ok : PartOk d) (q : Q (.str (pS d)) H) : (tCB rStrA (tCons (tVar j) tNil)) σ H Q := by
  refine ⟨_, hσ, ?_⟩
  cases hx with
  | int i => exact .inl ⟨i, rfl, Pl.log (i := i) ok, q⟩
  | str s => exact .inr ⟨s, rfl, q⟩
  | _ => exact ok.elim
theorem part_len {d : PyData} (h : PartOk d) : (pS d).length ≤ 9 := (part_ln h).1.sz
theorem pair_lc {w' wd : Str} {i0 j : Nat} {a : Addr} {xs : List V} {H0 : Hp} {D : Addr} {σ : L2.St} {vs : List Nat} {Qd : Hp → Prop} (ps : List (Nat × Nat)) (hw : w' = wd ++ spB) (hw2 : w'.length ≤ 20) (hp : ∀ p ∈ ps, p.1 < 1000000000 ∧ p.2 < 1000000000)
    (hx : DpAll K H0 xs (ps.map pr)) (hn : xs.length ≤ 1000) (hl : SqT K H0 a xs) (hD : H0 D = none)
    (hσ : ∀ v u, (((wipe σ vs).set i0 (some v)).set j (some u))[i0]? = some (some v) ∧ (((wipe σ vs).set i0 (some v)).set j (some u))[j]? = some (some u) ∧ wipe (((wipe σ vs).set i0 (some v)).set j (some u)) vs = wipe σ vs)
    (hd : ∀ H acc, Same H0 H → H D = some (.lst acc) → DpAll K H acc ((ps.map fun p => lineT (.str wd :: unT (pr p))).map .str) → Qd H) :
    ∃ W : Nat → Nat → Hp → Prop, (∃ m, W 0 m (upd H0 D (.lst []))) ∧ ∀ i m H, W i m H →
      ((Itt K a).stop i H ∧ Qd H) ∨ ((Itt K a).go i H ∧ ∃ Nx : Hp → Prop, (∀ H', Nx H' → ∃ m', m' < m ∧ W (i + 1) m' H') ∧ ∀ x H', (Itt K a).yld i H x H' → (gTup K 2 (gCons (gName i0) (gCons (gName j) gNil))) x (wipe σ vs) H' fun σ2 H2 => wipe σ2 vs = wipe σ vs ∧ tYes σ2 H2 fun b H3 =>
        if b = true then (tOp rAddStr (tOp rAddStr (tOp rAddStr (tC (.str w')) (tCB rStrA (tCons (tVar i0) tNil))) (tC (.str " "))) (tCB rStrA (tCons (tVar j) tNil))) σ2 H3 fun y H4 => ∃ acc, H4 D = some (.lst acc) ∧ acc.length < sizeLine ∧ Nx (upd H4 D (.lst (acc ++ [y]))) else Nx H3) := by
  refine lc_tupD ((ps.map fun p => lineT (.str wd :: unT (pr p))).map .str) (noLs_strs _) (by rw [List.length_map, List.length_map]; have := dps_len hx; rw [List.length_map] at this; exact this) hn hl hD (fun i x d H Q hxi hdi sm q => ?_) hd
  rw [List.getElem?_map, List.getElem?_map] at hdi
  obtain ⟨s, es, rfl⟩ := Option.map_eq_some_iff.mp hdi
  obtain ⟨p, ep, rfl⟩ := Option.map_eq_some_iff.mp es
  have dx : Dp K H0 x (pr p) := dps_at hx hxi (by rw [List.getElem?_map, ep]; rfl)
  obtain ⟨b, ys, rfl, sq, dys⟩ := dp_tup dx
  obtain ⟨p1, p2⟩ := hp p (List.mem_of_getElem? ep)
  have k1 := nat_part p1
  have k2 := nat_part p2
  have l1 := part_len k1
  have l2 := part_len k2
  have e1 : spB.length = 1 := rfl
  cases dys with
  | cons da dys =>
  cases dys with
  | cons db dys =>
  cases dys
  refine ⟨b, _, rfl, same_tup sm _ _ sq, rfl, _, _, rfl, _, _, rfl, rfl, (hσ _ _).2.2, ?_⟩
  refine str_te (d := iD p.1) (hσ _ _).1 (dp_stay (same_tup sm) _ _ da rfl) k1 ⟨w', _, rfl, rfl, ?_, _, spB, rfl, rfl, ?_, ?_⟩
  · rw [sizeLine_eq]
    omega
  · rw [app_len, e1, sizeLine_eq]
    omega
  refine str_te (d := iD p.2) (hσ _ _).2.1 (dp_stay (same_tup sm) _ _ db rfl) k2 ⟨_, _, rfl, rfl, ?_, ?_⟩
  · rw [app_len, app_len, e1, sizeLine_eq]
    omega
  rw [line_two hw (iD p.1) (iD p.2) ⟨_, rfl⟩]
  exact q _ _ (fun _ _ e => e) (.str _)
theorem nest_lc {w' wd : Str} {L j : Nat} {a : Addr} {xs : List V} {H0 : Hp} {D : Addr} {σ : L2.St} {vs : List Nat} {Qd : Hp → Prop} (dss : List (List PyData)) (hw : w' = wd ++ spB) (hw2 : w'.length ≤ 20) (hp : ∀ ds ∈ dss, LpOk ds)
    (hx : DpAll K H0 xs (dss.map .tuple)) (hn : xs.length ≤ 1000) (hl : SqT K H0 a xs) (hD : H0 D = none)
    (hσ : ∀ v, ((wipe σ vs).set L (some v))[L]? = some (some v) ∧ wipe ((wipe σ vs).set L (some v)) vs = wipe σ vs ∧ ∀ u, ((wipe ((wipe σ vs).set L (some v)) [j]).set j (some u))[j]? = some (some u) ∧ wipe ((wipe ((wipe σ vs).set L (some v)) [j]).set j (some u)) [j] = wipe ((wipe σ vs).set L (some v)) [j])
    (hd : ∀ H acc, Same H0 H → H D = some (.lst acc) → DpAll K H acc ((dss.map fun ds => lineT (.str wd :: ds)).map .str) → Qd H) :
    ∃ W : Nat → Nat → Hp → Prop, (∃ m, W 0 m (upd H0 D (.lst []))) ∧ ∀ i m H, W i m H →
      ((Itt K a).stop i H ∧ Qd H) ∨ ((Itt K a).go i H ∧ ∃ Nx : Hp → Prop, (∀ H', Nx H' → ∃ m', m' < m ∧ W (i + 1) m' H') ∧ ∀ x H', (Itt K a).yld i H x H' → gName L x (wipe σ vs) H' fun σ2 H2 => wipe σ2 vs = wipe σ vs ∧ tYes σ2 H2 fun b H3 =>
        if b = true then (tOp rAddStr (tC (.str w')) (L2.tM1 (rJoin K) (tC (.str " ")) (tLc (iTup K (tVar L)) (gName j) tYes (tCB rStrA (tCons (tVar j) tNil)) [j]))) σ2 H3 fun y H4 => ∃ acc, H4 D = some (.lst acc) ∧ acc.length < sizeLine ∧ Nx (upd H4 D (.lst (acc ++ [y]))) else Nx H3) := by
  refine lc_tupD ((dss.map fun ds => lineT (.str wd :: ds)).map .str) (noLs_strs _) (by rw [List.length_map, List.length_map]; have := dps_len hx; rw [List.length_map] at this; exact this) hn hl hD (fun i x d H Q hxi hdi sm q => ?_) hd
  rw [List.getElem?_map, List.getElem?_map] at hdi
  obtain ⟨s, es, rfl⟩ := Option.map_eq_some_iff.mp hdi
  obtain ⟨ds, ed, rfl⟩ := Option.map_eq_some_iff.mp es
  have dx : Dp K H0 x (.tuple ds) := dps_at hx hxi (by rw [List.getElem?_map, ed]; rfl)
  have ok := hp ds (List.mem_of_getElem? ed)
  refine ⟨(hσ _).2.1, line_te (hσ _).1 (dp_stay (same_tup sm) _ _ dx ok.noL) ok (hσ x).2.2 fun H' s2 => ⟨w', _, rfl, rfl, ?_, ?_⟩⟩
  · have : (lineT ds).length ≤ 60 := ok.line.sz
    rw [sizeLine_eq]
    omega
  · have := q (.str (lineT (.str wd :: ds))) H' s2 (.str _)
    rw [line_cons wd ok.ne, ← hw] at this
    exact this
theorem ints_lc {j : Nat} {a : Addr} {xs : List V} {H0 : Hp} {D : Addr} {σ : L2.St} {vs : List Nat} {Qd : Hp → Prop} (ns : List Nat) (hp : ∀ n ∈ ns, n < 1000000000)
    (hx : DpAll K H0 xs (ns.map iD)) (hn : xs.length ≤ 1000) (hl : SqT K H0 a xs) (hD : H0 D = none)
    (hσ : ∀ v, ((wipe σ vs).set j (some v))[j]? = some (some v) ∧ wipe ((wipe σ vs).set j (some v)) vs = wipe σ vs)
    (hd : ∀ H, Same H0 H → H D = some (.lst (((ns.map iD).map pS).map V.str)) → Qd H) :
    ∃ W : Nat → Nat → Hp → Prop, (∃ m, W 0 m (upd H0 D (.lst []))) ∧ ∀ i m H, W i m H →
      ((Itt K a).stop i H ∧ Qd H) ∨ ((Itt K a).go i H ∧ ∃ Nx : Hp → Prop, (∀ H', Nx H' → ∃ m', m' < m ∧ W (i + 1) m' H') ∧ ∀ x H', (Itt K a).yld i H x H' → gName j x (wipe σ vs) H' fun σ2 H2 => wipe σ2 vs = wipe σ vs ∧ tYes σ2 H2 fun b H3 =>
        if b = true then (tCB rStrA (tCons (tVar j) tNil)) σ2 H3 fun y H4 => ∃ acc, H4 D = some (.lst acc) ∧ acc.length < sizeLine ∧ Nx (upd H4 D (.lst (acc ++ [y]))) else Nx H3) := by
  refine lc_tupD (((ns.map iD).map pS).map .str) (noLs_strs _) (by rw [List.length_map, List.length_map]; exact dps_len hx) hn hl hD (fun i x d H Q hxi hdi sm q => ?_) (fun H acc sm e dp => ?_)
  · rw [List.getElem?_map, List.getElem?_map] at hdi
    obtain ⟨s, es, rfl⟩ := Option.map_eq_some_iff.mp hdi
    obtain ⟨d, ed, rfl⟩ := Option.map_eq_some_iff.mp es
    have dx : Dp K H0 x d := dps_at hx hxi ed
    have ed2 := ed
    rw [List.getElem?_map] at ed2
    obtain ⟨n, en, rfl⟩ := Option.map_eq_some_iff.mp ed2
    exact ⟨(hσ _).2, str_te (hσ _).1 (dp_stay (same_tup sm) _ _ dx rfl) (nat_part (hp n (List.mem_of_getElem? en))) (q _ _ (fun _ _ e => e) (.str _))⟩
  · have ea := strs_dps dp
    subst ea
    exact hd H sm e
end
theorem LpOk.tl {a : PyData} {ds : List PyData} (h : LpOk (a :: ds)) (ne : ds ≠ []) : LpOk ds := ⟨ne, by have := h.len; have e : (a :: ds).length = ds.length + 1 := rfl; omega, fun d hd => h.ok d (List.mem_cons_of_mem _ hd)⟩
section
variable {P : Program} {w : World} {K : PySem.W.Frag} {mg : Str → Option Value} {base : Heap} {T : Addr}
def spLines (K : PySem.W.Frag) : Sp := fun vs H Q _ => ∃ (v : V) (c : Ckt) (ws : List Nat), vs = [v] ∧ Dp K H v c.d ∧ CktOk c ws ∧ ∀ H' p, Same H H' → H p = none → H' p = some (.lst ((cLines c).map V.str)) → Q (.ref p) H'
theorem ok_lines {f : Addr} {fd : FuncData} (F : Fun K "_law_lines" "_law_lines" sLawLines f fd) (ms : mg "str" = none) : FnOk P w K mg base CX0 1 f fd ["circuit"] (spLines K) := by
  refine F.ok scLawLines (fun vs H Q E h => ?_) (fun cdv A outer s H vs Q E hr h => ?_)
  · obtain ⟨v, c, ws, rfl, _⟩ := h
    rfl
  · obtain ⟨v, c, ws, rfl, hd, ok, q⟩ := h
    have nd := scLawLines.nd
    refine ⟨_, (pss_cons (ps_setLc (i := 1) (own := [("width", 2), ("first", 3)]) (g := gTup K 2 (gCons (gName 2) (gCons (gName 3) (gNil)))) (tt := tYes) (te := tOp rAddStr (tOp rAddStr (tOp rAddStr (tC (.str "register ")) (tCB rStrA (tCons (tVar 2) tNil))) (tC (.str " "))) (tCB rStrA (tCons (tVar 3) tNil)))  rfl nd rfl rfl (sw_true rfl rfl rfl (by decide +kernel)) (pi_tup (pe_ix ix_tup (pv 0) (pe_int) (fun _ _ => rfl))) (blkOk_by (own := [("width", 2), ("first", 3)]) (N := NLL) (sc := defScope sLawLines) (by decide +kernel)) (fun _ _ _ _ _ => pg_tup (by rfl) (pgs_cons (pg_name (i := 2) nd rfl (.inl rfl)) (pgs_cons (pg_name (i := 3) nd rfl (.inl rfl)) pgs_nil))) (fun _ _ _ _ _ => pts_nil) (fun _ _ _ _ _ => by exact (pe_op op_add_str (pe_op op_add_str (pe_op op_add_str (pe_str) (pe_callTy call_str_any (by rfl) ms (by decide +kernel) (pa_cons (pv 2) pa_nil))) (pe_str)) (pe_callTy call_str_any (by rfl) ms (by decide +kernel) (pa_cons (pv 3) pa_nil)))))
      (pss_cons (ps_set (i := 1) nd rfl (.inl rfl) (pe_op op_cat (pv 1) (pe_lc (own := [("bits", 4), ("width", 2)]) (g := gTup K 2 (gCons (gName 4) (gCons (gName 2) (gNil)))) (tt := tYes) (te := tOp rAddStr (tOp rAddStr (tOp rAddStr (tC (.str "memory ")) (tCB rStrA (tCons (tVar 4) tNil))) (tC (.str " "))) (tCB rStrA (tCons (tVar 2) tNil)))  rfl nd (pi_tup (pe_ix ix_tup (pv 0) (pe_int) (fun _ _ => rfl))) (blkOk_by (own := [("bits", 4), ("width", 2)]) (N := NLL) (sc := defScope sLawLines) (by decide +kernel)) (fun _ _ _ _ _ => pg_tup (by rfl) (pgs_cons (pg_name (i := 4) nd rfl (.inl rfl)) (pgs_cons (pg_name (i := 2) nd rfl (.inl rfl)) pgs_nil))) (fun _ _ _ _ _ => pts_nil) (fun _ _ _ _ _ => by exact (pe_op op_add_str (pe_op op_add_str (pe_op op_add_str (pe_str) (pe_callTy call_str_any (by rfl) ms (by decide +kernel) (pa_cons (pv 4) pa_nil))) (pe_str)) (pe_callTy call_str_any (by rfl) ms (by decide +kernel) (pa_cons (pv 2) pa_nil)))))))
      (pss_cons (ps_set (i := 1) nd rfl (.inl rfl) (pe_op op_cat (pv 1) (pe_lc (own := [("row", 5)]) (g := gName 5) (tt := tYes) (te := tOp rAddStr (tC (.str "row ")) (L2.tM1 (rJoin K) (tC (.str " ")) (tLc (iTup K (tVar 5)) (gName 6) tYes (tCB rStrA (tCons (tVar 6) tNil)) [6])))  rfl nd (pi_tup (pe_ix ix_tup (pv 0) (pe_int) (fun _ _ => rfl))) (blkOk_by (own := [("row", 5)]) (N := NLL) (sc := defScope sLawLines) (by decide +kernel)) (fun _ _ _ _ _ => pg_name (i := 5) nd rfl (.inl rfl)) (fun _ _ _ _ _ => pts_nil) (fun _ _ _ _ _ => by exact (pe_op op_add_str (pe_str) (pe_join (pe_str) (pe_lc (own := [("part", 6)]) (g := gName 6) (tt := tYes) (te := tCB rStrA (tCons (tVar 6) tNil)) rfl nd (pi_tup (pv 5)) (blkOk_by (own := [("part", 6)]) (N := NLL) (sc := scRl) (by decide +kernel)) (fun _ _ _ _ _ => pg_name (i := 6) nd rfl (.inl rfl)) (fun _ _ _ _ _ => pts_nil) (fun _ _ _ _ _ => by exact (pe_callTy call_str_any (by rfl) ms (by decide +kernel) (pa_cons (pv 6) pa_nil))))))))))
      (pss_cons (ps_expr (pe_bm PySem.F.plainAttrs_list PySem.F.slot_list_append PySem.F.type_list_append mt_append (pv 1) (pa_cons (pe_join (pe_str) (pe_op op_cat (pe_lst (pa_cons (pe_str) pa_nil)) (pe_lc (own := [("at", 7)]) (g := gName 7) (tt := tYes) (te := tCB rStrA (tCons (tVar 7) tNil))  rfl nd (pi_tup (pe_ix ix_tup (pv 0) (pe_int) (fun _ _ => rfl))) (blkOk_by (own := [("at", 7)]) (N := NLL) (sc := defScope sLawLines) (by decide +kernel)) (fun _ _ _ _ _ => pg_name (i := 7) nd rfl (.inl rfl)) (fun _ _ _ _ _ => pts_nil) (fun _ _ _ _ _ => by exact (pe_callTy call_str_any (by rfl) ms (by decide +kernel) (pa_cons (pv 7) pa_nil)))))) pa_nil)))
      (pss_cons (ps_set (i := 1) nd rfl (.inl rfl) (pe_op op_cat (pv 1) (pe_lc (own := [("store", 8)]) (g := gName 8) (tt := tYes) (te := tOp rAddStr (tC (.str "store ")) (L2.tM1 (rJoin K) (tC (.str " ")) (tLc (iTup K (tVar 8)) (gName 7) tYes (tCB rStrA (tCons (tVar 7) tNil)) [7])))  rfl nd (pi_tup (pe_ix ix_tup (pv 0) (pe_int) (fun _ _ => rfl))) (blkOk_by (own := [("store", 8)]) (N := NLL) (sc := defScope sLawLines) (by decide +kernel)) (fun _ _ _ _ _ => pg_name (i := 8) nd rfl (.inl rfl)) (fun _ _ _ _ _ => pts_nil) (fun _ _ _ _ _ => by exact (pe_op op_add_str (pe_str) (pe_join (pe_str) (pe_lc (own := [("at", 7)]) (g := gName 7) (tt := tYes) (te := tCB rStrA (tCons (tVar 7) tNil)) rfl nd (pi_tup (pv 8)) (blkOk_by (own := [("at", 7)]) (N := NLL) (sc := scSl) (by decide +kernel)) (fun _ _ _ _ _ => pg_name (i := 7) nd rfl (.inl rfl)) (fun _ _ _ _ _ => pts_nil) (fun _ _ _ _ _ => by exact (pe_callTy call_str_any (by rfl) ms (by decide +kernel) (pa_cons (pv 7) pa_nil))))))))))
      (pss_one (ps_ret (pe_op op_cat (pv 1) (pe_lst (pa_cons (pe_join (pe_str) (pe_op op_cat (pe_lst (pa_cons (pe_str) pa_nil)) (pe_lc (own := [("at", 7)]) (g := gName 7) (tt := tYes) (te := tCB rStrA (tCons (tVar 7) tNil))  rfl nd (pi_tup (pe_ix ix_tup (pv 0) (pe_int) (fun _ _ => rfl))) (blkOk_by (own := [("at", 7)]) (N := NLL) (sc := defScope sLawLines) (by decide +kernel)) (fun _ _ _ _ _ => pg_name (i := 7) nd rfl (.inl rfl)) (fun _ _ _ _ _ => pts_nil) (fun _ _ _ _ _ => by exact (pe_callTy call_str_any (by rfl) ms (by decide +kernel) (pa_cons (pv 7) pa_nil)))))) pa_nil)))))))))), ?_⟩
    obtain ⟨b, xs6, rfl, sq6, d6⟩ := dp_tup hd
    have PK := parts_ok ok
    have lrr := ok.lr
    have lmm := ok.lm
    have lss := ok.sl
    have lou := ok.ol
    have lww := ok.lw
    have lrw : c.rows.length ≤ 60 := by
      have := rows_len ok.rw
      omega
    have lnx : c.nexts.length ≤ 5 := by
      rw [ok.nl]
      omega
    have w1 : c.rows.map Row.d = (c.rows.map fun r => unT r.d).map .tuple := by
      rw [List.map_map]
      exact List.map_congr_left fun r _ => by cases r <;> rfl
    have s1 : c.stores.map stD = (c.stores.map fun r => unT (stD r)).map .tuple := by
      rw [List.map_map]
      rfl
    rw [w1, s1] at d6
    cases d6 with
    | cons dR d6 =>
    cases d6 with
    | cons dM d6 =>
    cases d6 with
    | cons dW d6 =>
    cases d6 with
    | cons dN d6 =>
    cases d6 with
    | cons dS d6 =>
    cases d6 with
    | cons dO d6 =>
    cases d6
    obtain ⟨aR, vR, rfl, sR, dR⟩ := dp_tup dR
    obtain ⟨aM, vM, rfl, sM, dM⟩ := dp_tup dM
    obtain ⟨aW, vW, rfl, sW, dW⟩ := dp_tup dW
    obtain ⟨aN, vN, rfl, sN, dN⟩ := dp_tup dN
    obtain ⟨aS, vS, rfl, sS, dS⟩ := dp_tup dS
    obtain ⟨aO, vO, rfl, sO, dO⟩ := dp_tup dO
    have lR := dps_len dR
    have lM := dps_len dM
    have lW := dps_len dW
    have lN := dps_len dN
    have lS := dps_len dS
    have lO := dps_len dO
    simp only [List.length_map] at lR lM lW lS lN lO
    have okW : ∀ ds ∈ c.rows.map fun r => unT r.d, LpOk ds := fun ds hds => by
      obtain ⟨r, hr, rfl⟩ := List.mem_map.mp hds
      exact (PK _ (List.mem_append_right _ (List.mem_append_right _ (List.mem_append_left _ (List.mem_map.mpr ⟨r, hr, rfl⟩))))).tl (by cases r <;> simp [unT, Row.d])
    have okS : ∀ ds ∈ c.stores.map fun r => unT (stD r), LpOk ds := fun ds hds => by
      obtain ⟨r, hr, rfl⟩ := List.mem_map.mp hds
      exact (PK _ (List.mem_append_right _ (List.mem_append_right _ (List.mem_append_right _ (List.mem_append_right _ (List.mem_append_left _ (List.mem_map.mpr ⟨r, hr, rfl⟩))))))).tl (by simp [unT, stD])
    have okR : ∀ p ∈ c.regs, p.1 < 1000000000 ∧ p.2 < 1000000000 := fun p hp => by
      obtain ⟨h1, h2, h3⟩ := ok.rg p hp
      have : 2 ^ p.1 ≤ 2 ^ 5 := Nat.pow_le_pow_right (by decide) h2
      exact ⟨by omega, by omega⟩
    have okM : ∀ p ∈ c.mems, p.1 < 1000000000 ∧ p.2 < 1000000000 := fun p hp => by
      obtain ⟨h1, h2, h3, h4⟩ := ok.mm p hp
      exact ⟨by omega, by omega⟩
    have okN : ∀ n ∈ c.nexts, n < 1000000000 := fun n hn => by
      obtain ⟨i, hi⟩ := List.getElem?_of_mem hn
      have hi2 := (List.getElem?_eq_some_iff.mp hi).1
      rw [ok.nl] at hi2
      have := (List.getElem?_eq_some_iff.mp (ok.nx i _ n (List.getElem?_eq_getElem hi2) hi)).1
      omega
    have okO : ∀ n ∈ c.outs, n < 1000000000 := fun n hn => by
      have := ok.oo n hn
      omega
    have tN : ∀ {H1 H2 : Hp} {vs : List V} {dss : List (List PyData)}, Same H1 H2 → (∀ ds ∈ dss, LpOk ds) → DpAll K H1 vs (dss.map PyData.tuple) → DpAll K H2 vs (dss.map PyData.tuple) := fun sm h d => dps_stay (same_tup sm) _ _ d (noLs_tups _ fun xs hx => (h xs hx).noL)
    -- the registers
    refine ⟨_, rfl, b, _, _, _, rfl, rfl, sq6, atI_nat (j := 0) rfl, aR, rfl, ⟨_, sR⟩, fun l nl => pair_lc (wd := "register") c.regs (by decide +kernel) (by decide +kernel) okR dR (by omega) sR nl (fun v u => ⟨rfl, rfl, rfl⟩) fun H1 acc1 g1 e1 dp1 => ?_⟩
    have z := strs_dps dp1
    subst z
    -- the memories
    refine ⟨_, rfl, _, rfl, b, _, _, _, rfl, rfl, same_tup g1 _ _ sq6, atI_nat (j := 1) rfl, aM, rfl, ⟨_, same_tup g1 _ _ sM⟩, fun D2 nD2 => pair_lc (wd := "memory") c.mems (by decide +kernel) (by decide +kernel) okM (dps_stay (same_tup g1) _ _ dM (noLs_pr _)) (by omega) (same_tup g1 _ _ sM) nD2 (fun v u => ⟨rfl, rfl, rfl⟩) fun H2 acc2 g2 e2 dp2 => ?_⟩
    have z := strs_dps dp2
    subst z
    have cat : ∀ {Ha Hb : Hp} {p : Addr} {xs ys : List Str}, Same H Ha → Same Ha Hb → Hb p = none → Same H (upd Hb p (.lst (xs.map V.str ++ ys.map V.str))) ∧ (upd Hb p (.lst (xs.map V.str ++ ys.map V.str))) p = some (.lst ((xs ++ ys).map V.str)) := fun {Ha Hb p xs ys} ga gb np => ⟨(ga.trans gb).trans (Same.up np), by rw [upd_same, List.map_append]⟩
    refine ⟨l, D2, _, _, rfl, rfl, g2 _ _ e1, e2, line200 (by rw [List.length_map, List.length_map, List.length_map, List.length_map]; omega), fun l3 nl3 => ?_⟩
    obtain ⟨g3, e3⟩ := cat g1 g2 nl3 (xs := c.regs.map fun p => lineT (.str "register" :: unT (pr p))) (ys := c.mems.map fun p => lineT (.str "memory" :: unT (pr p)))
    generalize upd H2 l3 _ = H3 at g3 e3
    have q3 : ((c.regs.map fun p => lineT (.str "register" :: unT (pr p))) ++ (c.mems.map fun p => lineT (.str "memory" :: unT (pr p)))).length ≤ 6 := by
      rw [List.length_append, List.length_map, List.length_map]
      omega
    -- the rows
    refine ⟨_, rfl, _, rfl, b, _, _, _, rfl, rfl, same_tup g3 _ _ sq6, atI_nat (j := 2) rfl, aW, rfl, ⟨_, same_tup g3 _ _ sW⟩, fun D4 nD4 => nest_lc (wd := "row") _ (by decide +kernel) (by decide +kernel) okW (tN g3 okW dW) (by omega) (same_tup g3 _ _ sW) nD4 (fun v => ⟨rfl, rfl, fun u => ⟨rfl, rfl⟩⟩) fun H4 acc4 g4 e4 dp4 => ?_⟩
    have z := strs_dps dp4
    subst z
    refine ⟨l3, D4, _, _, rfl, rfl, g4 _ _ e3, e4, line200 (by rw [List.length_map, List.length_map, List.length_map, List.length_map]; omega), fun l5 nl5 => ?_⟩
    obtain ⟨g5, e5⟩ := cat g3 g4 nl5 (xs := (c.regs.map fun p => lineT (.str "register" :: unT (pr p))) ++ (c.mems.map fun p => lineT (.str "memory" :: unT (pr p)))) (ys := (c.rows.map fun r => unT r.d).map fun ds => lineT (.str "row" :: ds))
    have n5 := (g3.trans g4).free nl5
    generalize upd H4 l5 _ = H5 at g5 e5
    have q5 : (((c.regs.map fun p => lineT (.str "register" :: unT (pr p))) ++ (c.mems.map fun p => lineT (.str "memory" :: unT (pr p)))) ++ ((c.rows.map fun r => unT r.d).map fun ds => lineT (.str "row" :: ds))).length ≤ 66 := by
      rw [List.length_append, List.length_map, List.length_map]
      omega
    generalize eX5 : ((c.regs.map fun p => lineT (.str "register" :: unT (pr p))) ++ (c.mems.map fun p => lineT (.str "memory" :: unT (pr p)))) ++ ((c.rows.map fun r => unT r.d).map fun ds => lineT (.str "row" :: ds)) = X5 at e5 q5
    -- the nexts
    refine ⟨_, rfl, .inl ⟨rfl, _, SqL.of e5⟩, ⟨_, rfl⟩, line200 (show 1 ≤ 1000 by decide), fun p1 np1 => ?_⟩
    have h1 := Same.up np1 (o := .lst [V.str "next"])
    refine ⟨_, rfl, b, _, _, _, rfl, rfl, same_tup (g5.trans h1) _ _ sq6, atI_nat (j := 3) rfl, aN, rfl, ⟨_, same_tup (g5.trans h1) _ _ sN⟩, fun D6 nD6 => ints_lc c.nexts okN (dps_stay (same_tup (g5.trans h1)) _ _ dN (noLs_i _)) (by omega) (same_tup (g5.trans h1) _ _ sN) nD6 (fun v => ⟨rfl, rfl⟩) fun H6 g6 e6 => ?_⟩
    refine ⟨p1, D6, _, _, rfl, rfl, g6 _ _ upd_same, e6, line200 (by show 1 + _ ≤ 1000; rw [List.length_map, List.length_map, List.length_map]; omega), fun p7 np7 => ?_⟩
    have h7 := (h1.trans g6).trans (Same.up np7 (o := .lst ([V.str "next"] ++ ((c.nexts.map iD).map pS).map V.str)))
    have e7 : (upd H6 p7 (.lst ([V.str "next"] ++ ((c.nexts.map iD).map pS).map V.str))) p7 = some (.lst (((PyData.str "next" :: c.nexts.map iD).map pS).map V.str)) := upd_same
    generalize upd H6 p7 (.lst ([V.str "next"] ++ ((c.nexts.map iD).map pS).map V.str)) = H7 at h7 e7
    have okL : ∀ {ds : List PyData}, LpOk ds → ((ds.map pS).map (·.length)).sum + (ds.map pS).length * (Str.ofString " ").length ≤ 16777216 := fun {ds} ok => by
      have h1 := len_sum (xs := ds.map pS) (b := 9) fun y hy => by
        obtain ⟨d, hd, rfl⟩ := List.mem_map.mp hy
        exact (part_ln (ok.ok d hd)).1.sz
      rw [List.length_map] at h1 ⊢
      have := ok.len
      have h0 : (Str.ofString " ").length = 1 := by decide +kernel
      rw [h0]
      omega
    have okn : LpOk (PyData.str "next" :: c.nexts.map iD) := PK _ (List.mem_append_right _ (List.mem_append_right _ (List.mem_append_right _ (List.mem_append_left _ (List.mem_singleton.mpr rfl)))))
    have okt : LpOk (PyData.str "told" :: c.outs.map iD) := PK _ (List.mem_append_right _ (List.mem_append_right _ (List.mem_append_right _ (List.mem_append_right _ (List.mem_append_right _ (List.mem_singleton.mpr rfl))))))
    refine ⟨_, p7, _, rfl, rfl, .inl (SqL.of e7), okL okn, l5, _, _, rfl, rfl, h7 _ _ e5, lineS200 (by rw [List.length_map]; omega), ?_⟩
    generalize hz : Txt.join (Str.ofString " ") (List.map pS (PyData.str "next" :: List.map iD c.nexts)) = zn
    have g8 : Same H (upd H7 l5 (.lst (X5.map V.str ++ [V.str zn]))) := same_put (g5.trans h7) n5
    have e8 : (upd H7 l5 (.lst (X5.map V.str ++ [V.str zn]))) l5 = some (.lst ((X5 ++ [zn]).map V.str)) := by
      rw [upd_same, List.map_append]
      rfl
    generalize upd H7 l5 (.lst (X5.map V.str ++ [V.str zn])) = H8 at g8 e8
    rw [show zn = lineT (PyData.str "next" :: c.nexts.map iD) from hz.symm] at e8
    have q8 : (X5 ++ [lineT (PyData.str "next" :: c.nexts.map iD)]).length ≤ 67 := by
      rw [List.length_append]
      show X5.length + 1 ≤ 67
      omega
    -- the stores
    refine ⟨_, rfl, _, rfl, b, _, _, _, rfl, rfl, same_tup g8 _ _ sq6, atI_nat (j := 4) rfl, aS, rfl, ⟨_, same_tup g8 _ _ sS⟩, fun D9 nD9 => nest_lc (wd := "store") _ (by decide +kernel) (by decide +kernel) okS (tN g8 okS dS) (by omega) (same_tup g8 _ _ sS) nD9 (fun v => ⟨rfl, rfl, fun u => ⟨rfl, rfl⟩⟩) fun H9 acc9 g9 e9 dp9 => ?_⟩
    have z := strs_dps dp9
    subst z
    refine ⟨l5, D9, _, _, rfl, rfl, g9 _ _ e8, e9, line200 (by rw [List.length_map, List.length_map, List.length_map, List.length_map]; omega), fun la nla => ?_⟩
    obtain ⟨ga, ea⟩ := cat g8 g9 nla (xs := X5 ++ [lineT (PyData.str "next" :: c.nexts.map iD)]) (ys := (c.stores.map fun r => unT (stD r)).map fun ds => lineT (.str "store" :: ds))
    generalize upd H9 la _ = Ha at ga ea
    have qa : ((X5 ++ [lineT (PyData.str "next" :: c.nexts.map iD)]) ++ ((c.stores.map fun r => unT (stD r)).map fun ds => lineT (.str "store" :: ds))).length ≤ 70 := by
      rw [List.length_append, List.length_map, List.length_map]
      omega
    generalize eXa : (X5 ++ [lineT (PyData.str "next" :: c.nexts.map iD)]) ++ ((c.stores.map fun r => unT (stD r)).map fun ds => lineT (.str "store" :: ds)) = Xa at ea qa
    -- what is told
    refine ⟨_, rfl, ⟨_, rfl⟩, line200 (show 1 ≤ 1000 by decide), fun pb npb => ?_⟩
    have hb := Same.up npb (o := .lst [V.str "told"])
    refine ⟨_, rfl, b, _, _, _, rfl, rfl, same_tup (ga.trans hb) _ _ sq6, atI_nat (j := 5) rfl, aO, rfl, ⟨_, same_tup (ga.trans hb) _ _ sO⟩, fun Dc nDc => ints_lc c.outs okO (dps_stay (same_tup (ga.trans hb)) _ _ dO (noLs_i _)) (by omega) (same_tup (ga.trans hb) _ _ sO) nDc (fun v => ⟨rfl, rfl⟩) fun Hc gc ec => ?_⟩
    refine ⟨pb, Dc, _, _, rfl, rfl, gc _ _ upd_same, ec, line200 (by show 1 + _ ≤ 1000; rw [List.length_map, List.length_map, List.length_map]; omega), fun pd npd => ?_⟩
    have hd2 := (hb.trans gc).trans (Same.up npd (o := .lst ([V.str "told"] ++ ((c.outs.map iD).map pS).map V.str)))
    have ed : (upd Hc pd (.lst ([V.str "told"] ++ ((c.outs.map iD).map pS).map V.str))) pd = some (.lst (((PyData.str "told" :: c.outs.map iD).map pS).map V.str)) := upd_same
    generalize upd Hc pd (.lst ([V.str "told"] ++ ((c.outs.map iD).map pS).map V.str)) = Hd at hd2 ed
    refine ⟨_, pd, _, rfl, rfl, .inl (SqL.of ed), okL okt, line200 (show 1 ≤ 1000 by decide), fun pe npe => ?_⟩
    have he := hd2.trans (Same.up npe (o := .lst [V.str (lineT (PyData.str "told" :: c.outs.map iD))]))
    refine ⟨la, pe, _, _, rfl, rfl, he _ _ ea, upd_same, line200 (by rw [List.length_map]; show _ + 1 ≤ 1000; omega), fun pf npf => ?_⟩
    refine q _ pf ((ga.trans he).trans (Same.up npf)) (((ga.trans he)).free npf) ?_
    rw [upd_same]
    have eC : cLines c = Xa ++ [lineT (PyData.str "told" :: c.outs.map iD)] := by
      rw [← eXa, ← eX5]
      unfold cLines cParts
      simp only [List.map_append, List.map_map, List.append_assoc]
      rfl
    rw [eC, List.map_append]
    rfl
end
end C1

/-! What the program answers at a text, caught. -/
namespace K0
open PySem PySem.Spec PyProof.Rows L2 SX
theorem pss_cls {X : Cx} {sts : List Stmt} {t : TS} {cls : Value} {C : Addr} (h : cls = .ref C → PSs X sts t) : PSs X sts (fun D σ H => cls = .ref C ∧ t D σ H) :=
  ⟨fun pins s σ H D I q => (h q.1).run pins s σ H D I q.2⟩
end K0
namespace C1
open PySem PySem.Spec PyProof.Rows L2 SX
open K0 (Cs digs isNum)
open GxR (TabG Tabbed TabB GenS)
abbrev sLawTold : Stmt := topS 59
theorem scLawTold : FnScope ["text", "e"] ["text"] (defScope sLawTold) := ⟨rfl, rfl, rfl, by decide +kernel, rfl, by decide +kernel, by decide +kernel⟩
/-- an error's class as the law asks it -/
structure ErrT (K : PySem.W.Frag) (mg : Str → Option Value) (C : Addr) : Prop where
  g : mg "BadLine" = some (.ref C)
  x : XfC K C
  c : ExcC K C
  nL : PySem.W.findIn K (.ref C) "line" = some none
abbrev sufL (K : PySem.W.Frag) (C CC : Addr) : K0T.Suite := fun a cls d => fun D σ H => cls = .ref C ∧ tRet (tTup (tCons (tC (.str "line")) (tCons (tIf (tB (tCB (K0E.rIsF K C a d) (tCons (tVar 1) (tCons (tC (.ref CC)) tNil)))) (tXf a cls d C "line" (tVar 1)) (tC .non)) tNil))) D σ H
def resD (x : Str) : PyData := match parseS x with
  | .inr d => .tuple [.str "circuit", d]
  | .inl n => .tuple [.str "line", iD n]
theorem TxB.ok {x : Str} (h : TxB x) : (∀ y ∈ splitL x, LnOkS y) ∧ (splitL x).length ≤ 900 := ⟨fun y hy => by
  have a := h.ls y hy
  obtain ⟨b, c⟩ := a.parts
  exact ⟨Nat.le_trans a.sz (by decide), b, fun z hz => Nat.le_trans (c z hz).sz (by decide)⟩, h.ln⟩
theorem parse_gd {x : Str} (h : TxB x) {d : PyData} (e : parseS x = .inr d) : gd 4 d = true ∧ ∃ ds, d = .tuple ds := by
  unfold parseS at e
  split at e
  · split at e
    · cases e
    · rename_i s es
      have hyl : ∀ y ∈ linesOf x, (spS y).length ≤ 900 := fun y hy => (h.ok.1 y (List.dropLast_subset _ hy)).2.1
      obtain ⟨hall, _, hcnt⟩ := read_all (linesOf x) (k := 0) (n := 0) (s := st0) (s' := s) (fun i d h => by cases h) ok0 (fun i => Nat.le_refl 0) hyl es
      split at e
      · cases e
      · split at e
        · cases e
          refine ⟨circ_gd hall fun i => ?_, _, rfl⟩
          have := hcnt i
          have h2 : (linesOf x).length ≤ 900 := by
            unfold linesOf
            rw [List.length_dropLast]
            have := h.ln
            omega
          omega
        · cases e
  · cases e
theorem res_gd {x : Str} (h : TxB x) : noL (resD x) = true ∧ SeqAt.shaped (resD x) = true := by
  unfold resD
  cases e : parseS x with
  | inl n =>
    refine ⟨rfl, ?_⟩
    unfold SeqAt.shaped
    simp [PyData.canLay0, PyData.canLayAll0, PyData.depth, PyData.depthAll]
    decide +kernel
  | inr d =>
    obtain ⟨a, b, c⟩ := gd_ok 4 d (parse_gd h e).1
    refine ⟨?_, ?_⟩
    · show (true && (noL d && true)) = true
      rw [a]
      rfl
    · unfold SeqAt.shaped
      rw [Bool.and_eq_true]
      refine ⟨?_, decide_eq_true ?_⟩
      · show (PyData.canLay0 (.str "circuit") && (PyData.canLay0 d && true)) = true
        rw [b]
        decide +kernel
      · show max 0 (max (PyData.depth d) 0) + 1 ≤ 64
        omega
section
variable {P : Program} {w : World} {K : PySem.W.Frag} {mg : Str → Option Value} {base : Heap} {T : Addr}
def spTold (K : PySem.W.Frag) (T : Addr) : Sp := fun vs H Q _ => ∃ x : Str, vs = [.str x] ∧ TxB x ∧ TabG H T ∧ ∀ H' v, Gr T H H' → Dp K H' v (resD x) → Q v H'
theorem ok_told {f fP C CC : Addr} {fd fdP : FuncData} (F : Fun K "_law_told" "_law_told" sLawTold f fd) (X : ErrT K mg C) (gC : mg "CutError" = some (.ref CC)) (mi : mg "isinstance" = none)
    (GP : FnOk P w K mg base (L2.CX P w) 6 fP fdP ["text"] (spParse K T C)) (kP : PySem.W.keepIn K (.ref fP) = true) (bP : Binds K fdP ["text"] []) (gP : mg "parse_circuit" = some (.ref fP))
    (e1 : PySem.W.exmOne K (.ref C) (.ref C) = some true) (i1 : PySem.W.kitOne K (.ref C) (.ref CC) = some true) :
    FnOk P w K mg base CX0 7 f fd ["text"] (spTold K T) := by
  refine F.ok scLawTold (fun vs H Q E h => ?_) (fun cdv A outer s H vs Q E hr h => ?_)
  · obtain ⟨x, rfl, _⟩ := h
    rfl
  · obtain ⟨x, rfl, hx, tb, q⟩ := h
    have nd := scLawTold.nd
    have hr6 : Room 6 _ := hr
    have hu := hr.units
    refine ⟨_, (pss_one (K0T.ps_try_ases (i := 1) (tb := fun W => tRet (tTup (tCons (tC (.str "circuit")) (tCons (tCallS (spParse K T C) (WE W) (tCons (tVar 0) tNil)) tNil)))) (Wo := fun _ _ _ _ => False) rfl rfl nd rfl rfl takes0 (fun W pn xe tk _ => pss_one (ps_ret (by exact (pe_tup (pa_cons pe_str (pa_cons (pe_callS GP hr6 (by rfl) gP kP bP (fun σ => passAt tk σ) (by exact (pa_cons (pv 0) pa_nil))) pa_nil)))))) (.cons (ts := sufL K C CC) ⟨rfl, by decide, .inl X.g⟩ (fun a oe cls d pn hz hf => by exact (K0.pss_cls (C := C) fun hcls => pss_one (ps_ret (pe_tup (pa_cons pe_str (pa_cons (pe_ifExp (pt_val (pe_callB (K0E.call_isF X.c (hcls ▸ hz) hf) (by rfl) mi (by decide +kernel) (pa_cons (pv 1) (pa_cons (pe_glob (v := .ref CC) (by rfl) gC rfl) pa_nil)))) (pe_xf X.x X.nL hz hf (pv 1)) pe_non) pa_nil)))))) .nil))), ?_⟩
    refine ⟨_, rfl, x, rfl, hx.sz, hx.ok.1, hx.ok.2, tb, fun d ed H1 v g1 dv => ?_, fun n en H1 d g1 e3 => ?_⟩
    · refine ⟨line200 (show 2 ≤ 1000 by decide), fun p np => q _ _ (g1.trans (Gr.laid g1.tab np)) ?_⟩
      have gd' := gd_ok 4 d (parse_gd hx ed).1
      unfold resD
      rw [ed]
      exact .tup (SqT.of upd_same) (.cons (.str _) (.cons (dp_stay (same_tup (Same.up np)) _ _ dv gd'.1) .nil))
    · refine ⟨true, e1, fun _ ax nax => ⟨rfl, ?_⟩, fun z => nomatch z⟩
      refine ⟨_, rfl, .ref CC, .ref CC, true, d, fsL (n : Nat), rfl, (fun u h => h), i1, rfl, e3, _, rfl, iteT ?_⟩
      refine ⟨_, rfl, rfl, rfl, d, fsL (n : Nat), .int (n : Nat), rfl, e3, rfl, line200 (show 2 ≤ 1000 by decide), fun p np => q _ _ (g1.trans (Gr.laid g1.tab np)) ?_⟩
      unfold resD
      rw [en]
      exact .tup (SqT.of upd_same) (.cons (.str _) (.cons (.int _) .nil))
end
end C1

/-! The law's reading of lines. -/
namespace C1
open PySem PySem.Spec PyProof.Rows L2 SX
open K0 (Cs digs isNum)
abbrev sLawRead : Stmt := topS 58
theorem scLawRead : FnScope ["text", "lines", "order", "found", "least", "k", "parts_v", "own", "told", "circuit"] ["text"] (defScope sLawRead) := ⟨rfl, rfl, rfl, by decide +kernel, rfl, by decide +kernel, by decide +kernel⟩
abbrev NLR : List Str := ["text", "lines", "order", "found", "least", "k", "parts_v", "own", "told", "circuit"]
structure FL (K : PySem.W.Frag) (H : Hp) (fl : Addr) (la : List Addr) (s : LSt) (n : Nat) : Prop where
  d : H fl = some (.lst (la.map V.ref))
  len : la.length = 6
  nod : la.Nodup
  out : fl ∉ la
  at' : ∀ (i : Nat) (a : Addr), la[i]? = some a → ∃ vs, H a = some (.lst vs) ∧ DpAll K H vs (s.F i)
  nol : ∀ i, noLs (s.F i) = true
  cnt : ∀ i, (s.F i).length ≤ n
theorem FL.same {K : PySem.W.Frag} {H H' : Hp} {fl : Addr} {la : List Addr} {s : LSt} {n : Nat} (f : FL K H fl la s n) (g : Same H H') : FL K H' fl la s n :=
  ⟨g _ _ f.d, f.len, f.nod, f.out, fun i a h => by
    obtain ⟨vs, e, d⟩ := f.at' i a h
    exact ⟨vs, g _ _ e, dps_stay (same_tup g) _ _ d (f.nol i)⟩, f.nol, f.cnt⟩
theorem FL.put {K : PySem.W.Frag} {H : Hp} {fl : Addr} {la : List Addr} {s : LSt} {n i : Nat} {a : Addr} {vs : List V} {v : V} {d : PyData} (f : FL K H fl la s n) (ha : la[i]? = some a) (e : H a = some (.lst vs)) (hv : DpAll K H vs (s.F i)) (hd : Dp K H v d) (hn : noL d = true) :
    FL K (upd H a (.lst (vs ++ [v]))) fl la (s.put i d) (n + 1) := by
  have am : a ∈ la := List.mem_of_getElem? ha
  have st := fun b xs h => tups_upd (K := K) (o := .lst (vs ++ [v])) e b xs h
  refine ⟨?_, f.len, f.nod, f.out, fun j b hb => ?_, fun j => ?_, fun j => ?_⟩
  · rw [upd_ne (fun z => f.out (by rw [z]; exact am))]
    exact f.d
  · show ∃ us, _ ∧ DpAll K _ us (if j = i then s.F j ++ [d] else s.F j)
    by_cases hj : j = i
    · subst hj
      rw [ha] at hb
      cases hb
      rw [if_pos rfl]
      exact ⟨_, upd_same, dps_app (dps_stay st _ _ hv (f.nol j)) (.cons (dp_stay st _ _ hd hn) .nil)⟩
    · have hab : b ≠ a := fun z => by
        subst z
        obtain ⟨h1, h2⟩ := List.getElem?_eq_some_iff.mp hb
        obtain ⟨h3, h4⟩ := List.getElem?_eq_some_iff.mp ha
        exact hj ((List.getElem_inj f.nod).mp (h2.trans h4.symm))
      obtain ⟨us, e2, h2⟩ := f.at' j b hb
      rw [if_neg hj]
      exact ⟨us, by rw [upd_ne hab]; exact e2, dps_stay st _ _ h2 (f.nol j)⟩
  · show noLs (if j = i then s.F j ++ [d] else s.F j) = true
    by_cases hj : j = i
    · rw [if_pos hj, noLs_app, f.nol j]
      show (true && (noL d && true)) = true
      rw [hn]
      rfl
    · rw [if_neg hj]
      exact f.nol j
  · show (if j = i then s.F j ++ [d] else s.F j).length ≤ n + 1
    have := f.cnt j
    by_cases hj : j = i
    · rw [if_pos hj, List.length_append]
      show _ + 1 ≤ n + 1
      omega
    · rw [if_neg hj]
      omega
theorem la_at {K : PySem.W.Frag} {H : Hp} {fl : Addr} {la : List Addr} {s : LSt} {n : Nat} (f : FL K H fl la s n) {i : Nat} (hi : i < 6) {a : Addr} (h : la[i]? = some a) : (la.map V.ref)[i]? = some (.ref a) := by
  rw [List.getElem?_map, h]
  rfl
theorem ix_word {ks : List Str} {k : Str} (hk : k ∈ ks) : (ks.map V.str)[ks.idxOf k]? = some (.str k) ∧ ∀ (m : Nat) (z : V), m < ks.idxOf k → (ks.map V.str)[m]? = some z → eqV z (.str k) = false := by
  have hi : ks.idxOf k < ks.length := List.idxOf_lt_length_iff.mpr hk
  refine ⟨?_, fun m z hm hz => ?_⟩
  · rw [List.getElem?_map, List.getElem?_eq_getElem hi, List.getElem_idxOf hi]
    rfl
  · obtain ⟨x, ex, rfl⟩ := str_at hz
    have hm2 := (List.getElem?_eq_some_iff.mp ex)
    obtain ⟨h1, h2⟩ := hm2
    have := List.not_of_lt_findIdx (p := (· == k)) (xs := ks) (i := m) hm
    rw [h2] at this
    exact this
theorem all_flat_strs (l : List Str) : (l.map V.str).all flatV = true := by
  rw [List.all_map]
  exact List.all_eq_true.mpr fun _ _ => rfl
theorem in35 (n : Nat) : inV (iV n) [V.int 3, V.int 5] = decide (n = 3 ∨ n = 5) := by
  show (((3 : Int) == ((n : Nat) : Int)) || (((5 : Int) == ((n : Nat) : Int)) || false)) = _
  rw [Bool.or_false]
  by_cases h : n = 3 ∨ n = 5
  · rw [decide_eq_true h]
    rcases h with rfl | rfl <;> rfl
  · rw [decide_eq_false h, Bool.or_eq_false_iff]
    exact ⟨beq_eq_false_iff_ne.mpr (by omega), beq_eq_false_iff_ne.mpr (by omega)⟩
def kv3 : List (Key × V) := [(.inl 0, .int 2), (.inl 1, .int 2), (.inl 4, .int 4)]
theorem kv3_at {n : Nat} (h : n < 6) : valV (mergeK [] kv3) (.inl ((n : Nat) : Int)) = (manyS n).map iV := by
  have hc : n = 0 ∨ n = 1 ∨ n = 2 ∨ n = 3 ∨ n = 4 ∨ n = 5 := by omega
  rcases hc with rfl | rfl | rfl | rfl | rfl | rfl <;> rfl
def rawT (i : Nat) (rest : List Str) : Option PyData := if i = 2 then rowS rest else (numsS rest).map fun ns => .tuple (ns.map iD)
theorem raw_told {i : Nat} {rest : List Str} : (rawT i rest = none → toldS i rest = none) ∧ (∀ d, rawT i rest = some d → ∃ ds, d = .tuple ds ∧ (toldS i rest = some d ∧ (∀ k, manyS i = some k → ds.length = k) ∨ toldS i rest = none ∧ ∃ k, manyS i = some k ∧ ds.length ≠ k)) := by
  unfold rawT toldS
  by_cases h2 : i = 2
  · rw [if_pos h2, if_pos h2]
    refine ⟨fun h => h, fun d h => ?_⟩
    have hd : ∃ ds, d = .tuple ds := by
      have key : ∀ (o : Option (List Nat)) (pre : List PyData), (o.map fun ns => PyData.tuple (pre ++ ns.map iD)) = some d → ∃ ds, d = .tuple ds := fun o pre e => by
        cases o with
        | none => cases e
        | some ns =>
          cases e
          exact ⟨_, rfl⟩
      unfold rowS at h
      split at h
      · cases h
      · rename_i k rest
        split at h
        · cases h
        · split at h
          · split at h
            · rename_i g ends
              split at h
              · exact key _ [.str k, .str g] h
              · cases h
            · cases h
          · exact key _ [.str k] h
    obtain ⟨ds, rfl⟩ := hd
    refine ⟨ds, rfl, .inl ⟨h, fun k e => ?_⟩⟩
    rw [h2] at e
    cases e
  · rw [if_neg h2, if_neg h2]
    cases e : numsS rest with
    | none =>
      refine ⟨fun _ => ?_, (fun d h => by cases h)⟩
      unfold numsM
      cases manyS i with
      | none => simp only [e]; rfl
      | some k =>
        show Option.map _ (if rest.length = k then numsS rest else none) = none
        rw [e]
        split <;> rfl
    | some ns =>
      refine ⟨(fun h => by cases h), fun d h => ?_⟩
      cases h
      refine ⟨_, rfl, ?_⟩
      have hl : ns.length = rest.length := by
        unfold numsS at e
        split at e
        · cases e
          exact List.length_map _
        · cases e
      rw [List.length_map, hl]
      cases em : manyS i with
      | none =>
        refine .inl ⟨?_, fun k z => by cases z⟩
        show Option.map _ (numsS rest) = _
        rw [e]
        rfl
      | some k =>
        by_cases hk : rest.length = k
        · refine .inl ⟨?_, fun k2 z => by cases z; exact hk⟩
          show Option.map _ (if rest.length = k then numsS rest else none) = _
          rw [if_pos hk, e]
          rfl
        · refine .inr ⟨?_, k, rfl, hk⟩
          show Option.map _ (if rest.length = k then numsS rest else none) = _
          rw [if_neg hk]
          rfl
def dueD (x : Str) : PyData := match parseS x with
  | .inr d => d
  | .inl n => iD n
section
variable {P : Program} {w : World} {K : PySem.W.Frag} {mg : Str → Option Value} {base : Heap} {T : Addr}
def spReadD (K : PySem.W.Frag) : Sp := fun vs H Q _ => ∃ x : Str, vs = [.str x] ∧ TxB x ∧ ∀ H' v, Same H H' → Dp K H' v (dueD x) → Q v H'
theorem ok_lread {f fO fN fK : Addr} {fd fdO fdN fdK : FuncData} (F : Fun K "_law_read" "_law_read" sLawRead f fd) (B : BT mg) (BL : Bl mg)
    (GO : FnOk P w K mg base CX0 3 fO fdO ["parts_v"] (spLRow K)) (kO : PySem.W.keepIn K (.ref fO) = true) (bO : Binds K fdO ["parts_v"] []) (gO : mg "_law_row_of" = some (.ref fO))
    (GN : FnOk P w K mg base CX0 2 fN fdN ["parts_v"] (spLNums K)) (kN : PySem.W.keepIn K (.ref fN) = true) (bN : Binds K fdN ["parts_v"] []) (gN : mg "_law_numbers" = some (.ref fN))
    (GK : FnOk P w K mg base CX0 5 fK fdK ["thing"] (spIsCircuit K)) (kK : PySem.W.keepIn K (.ref fK) = true) (bK : Binds K fdK ["thing"] []) (gK : mg "is_circuit" = some (.ref fK)) :
    FnOk P w K mg base CX0 6 f fd ["text"] (spReadD K) := by
  refine F.ok scLawRead (fun vs H Q E h => ?_) (fun cdv A outer s H vs Q E hr h => ?_)
  · obtain ⟨x, rfl, _⟩ := h
    rfl
  · obtain ⟨x, rfl, hx, q⟩ := h
    have nd := scLawRead.nd
    have hu := hr.units
    have hud := hu_of hr
    have hr5 : Room 5 _ := hr
    have hr3 : Room 3 _ := hr.mono (by decide)
    have hr2 : Room 2 _ := hr.mono (by decide)
    refine ⟨_, (pss_cons (ps_set (i := 1) nd rfl (.inl rfl) (pe_split (pv 0) (pe_str)))
      (C8.pss_cut (ps_if (PW.pt (pw_or (pt_cmpR op_ne (pe_ix ix_list (pv 1) (pe_un un_neg pe_int) (fun _ _ => rfl)) (pe_str) (nomark _)) (pw_or1 (pt_cmpR op_lt (pe_callB call_len_seq (by rfl) B.len PySem.boot_len (pa_cons (pv 1) pa_nil)) (pe_int) (nomark _))))) (pss_one (ps_ret (pe_callB call_len_seq (by rfl) B.len PySem.boot_len (pa_cons (pv 1) pa_nil)))) pss_nil)
      (pss_cons (ps_set (i := 2) nd rfl (.inl rfl) (pe_lst (pa_cons (pe_str) (pa_cons (pe_str) (pa_cons (pe_str) (pa_cons (pe_str) (pa_cons (pe_str) (pa_cons (pe_str) pa_nil))))))))
      (pss_cons (ps_set (i := 3) nd rfl (.inl rfl) (pe_lst (pa_cons (pe_lst pa_nil) (pa_cons (pe_lst pa_nil) (pa_cons (pe_lst pa_nil) (pa_cons (pe_lst pa_nil) (pa_cons (pe_lst pa_nil) (pa_cons (pe_lst pa_nil) pa_nil))))))))
      (pss_cons (ps_set (i := 4) nd rfl (.inl rfl) (pe_int))
      (C8.pss_cut (ps_for PassesOwn.never rfl (pi_range1 (by rfl) BL.range (pa_cons (pe_op op_sub (pe_callB call_len_seq (by rfl) B.len PySem.boot_len (pa_cons (pv 1) pa_nil)) (pe_int)) pa_nil)) (pg_name (i := 5) nd rfl (.inl rfl)) (pss_cons (ps_set (i := 6) nd rfl (.inl rfl) (pe_split (pe_ix ix_list (pv 1) (pv 5) (fun _ _ => rfl)) (pe_str)))
      (C8.pss_cut (ps_if (PW.pt (pw_or (pt_cmpR op_notIn_seq (pe_ix ix_list (pv 6) (pe_int) (fun _ _ => rfl)) (pv 2) (by rfl)) (pw_or1 (pt_cmpR op_lt (pe_bm PySem.F.plainAttrs_list PySem.F.slot_list_index PySem.F.type_list_index mt_index (pv 2) (pa_cons (pe_ix ix_list (pv 6) (pe_int) (fun _ _ => rfl)) pa_nil)) (pv 4) (nomark _))))) (pss_one (ps_ret (pe_op op_add (pv 5) (pe_int)))) pss_nil)
      (pss_cons (ps_set (i := 7) nd rfl (.inl rfl) (pe_bm PySem.F.plainAttrs_list PySem.F.slot_list_index PySem.F.type_list_index mt_index (pv 2) (pa_cons (pe_ix ix_list (pv 6) (pe_int) (fun _ _ => rfl)) pa_nil)))
      (C8.pss_cut (ps_if (PW.pt (pw_or (PW.pt (pw_and (pt_cmpR op_in_seq (pv 7) (pe_tup (pa_cons (pe_int) (pa_cons (pe_int) pa_nil))) (by rfl)) (pw_and1 (pt_cmpR (op_neD hu) (pe_ix ix_list (pv 3) (pv 7) (fun _ _ => rfl)) (pe_lst pa_nil) (nomark _))))) (pw_or1 (PW.pt (pw_and (pt_cmpR op_gt (pv 7) (pe_int) (nomark _)) (pw_and1 (pt_cmpR (op_eqD hu) (pe_ix ix_list (pv 3) (pe_int) (fun _ _ => rfl)) (pe_lst pa_nil) (nomark _)))))))) (pss_one (ps_ret (pe_op op_add (pv 5) (pe_int)))) pss_nil)
      (C8.pss_cut (ps_set (i := 8) nd rfl (.inl rfl) (pe_ifExp (pt_cmpR op_eq (pv 7) (pe_int) (nomark _)) (pe_call GO hr3 (by rfl) gO kO bO .nil pass0 (pa_cons (pe_slice sl_list (pv 6) (po_some (pe_int)) po_none) pa_nil)) (pe_call GN hr2 (by rfl) gN kN bN .nil pass0 (pa_cons (pe_slice sl_list (pv 6) (po_some (pe_int)) po_none) pa_nil))))
      (C8.pss_cut (ps_if (PW.pt (pw_or (pt_cmpR op_isN (pv 8) (pe_non) (nomark _)) (pw_or1 (pt_cmpR op_ne (pe_callB call_len_seq (by rfl) B.len PySem.boot_len (pa_cons (pv 8) pa_nil)) (pe_dget2 hud (pe_disp (pps_cons (pe_int) (pe_int) (pps_cons (pe_int) (pe_int) (pps_cons (pe_int) (pe_int) pps_nil))) rfl rfl (by intro z; cases z) (by decide)) (pv 7) (pe_callB call_len_seq (by rfl) B.len PySem.boot_len (pa_cons (pv 8) pa_nil)) ⟨rfl, rfl, rfl, rfl⟩) (nomark _))))) (pss_one (ps_ret (pe_op op_add (pv 5) (pe_int)))) pss_nil)
      (pss_cons (ps_set (i := 4) nd rfl (.inl rfl) (pv 7))
      (pss_one (ps_expr (pe_bm PySem.F.plainAttrs_list PySem.F.slot_list_append PySem.F.type_list_append mt_append (pe_ix ix_list (pv 3) (pv 7) (fun _ _ => rfl)) (pa_cons (pv 8) pa_nil))))))))))))
      (C8.pss_cut (ps_if (PW.pt (pw_or (pt_cmpR (op_eqD hu) (pe_ix ix_list (pv 3) (pe_int) (fun _ _ => rfl)) (pe_lst pa_nil) (nomark _)) (pw_or1 (pt_cmpR (op_eqD hu) (pe_ix ix_list (pv 3) (pe_int) (fun _ _ => rfl)) (pe_lst pa_nil) (nomark _))))) (pss_one (ps_ret (pe_op op_sub (pe_callB call_len_seq (by rfl) B.len PySem.boot_len (pa_cons (pv 1) pa_nil)) (pe_int)))) pss_nil)
      (pss_cons (ps_set (i := 9) nd rfl (.inl rfl) (pe_tup (pa_cons (pe_callTy call_tuple_of (by rfl) B.tuple (by decide +kernel) (pa_cons (pe_ix ix_list (pv 3) (pe_int) (fun _ _ => rfl)) pa_nil)) (pa_cons (pe_callTy call_tuple_of (by rfl) B.tuple (by decide +kernel) (pa_cons (pe_ix ix_list (pv 3) (pe_int) (fun _ _ => rfl)) pa_nil)) (pa_cons (pe_callTy call_tuple_of (by rfl) B.tuple (by decide +kernel) (pa_cons (pe_ix ix_list (pv 3) (pe_int) (fun _ _ => rfl)) pa_nil)) (pa_cons (pe_ix ix_list (pe_ix ix_list (pv 3) (pe_int) (fun _ _ => rfl)) (pe_int) (fun _ _ => rfl)) (pa_cons (pe_callTy call_tuple_of (by rfl) B.tuple (by decide +kernel) (pa_cons (pe_ix ix_list (pv 3) (pe_int) (fun _ _ => rfl)) pa_nil)) (pa_cons (pe_ix ix_list (pe_ix ix_list (pv 3) (pe_int) (fun _ _ => rfl)) (pe_int) (fun _ _ => rfl)) pa_nil))))))))
      (pss_one (ps_ret (pe_ifExp (pt_val (pe_call GK hr5 (by rfl) gK kK bK .nil pass0 (pa_cons (pv 9) pa_nil))) (pv 9) (pe_op op_sub (pe_callB call_len_seq (by rfl) B.len PySem.boot_len (pa_cons (pv 1) pa_nil)) (pe_int))))))))))))), ?_⟩
    have hp := split_pos x
    have hl := hx.ln
    have hsz := hx.sz
    have hne : splitL x ≠ [] := fun z => by rw [z] at hp; cases hp
    have eL : (splitL x).getLast? = some ((splitL x).getLast hne) := List.getLast?_eq_some_getLast hne
    have hlast : atI ((splitL x).map V.str) (-1) = some (V.str ((splitL x).getLast hne)) := by
      unfold atI ixN
      rw [if_neg (by decide), List.length_map, if_pos (by omega)]
      show ((splitL x).map V.str)[((-1 : Int) + ((splitL x).length : Int)).toNat]? = _
      rw [show ((-1 : Int) + ((splitL x).length : Int)).toNat = (splitL x).length - 1 by omega, List.getElem?_map, ← List.getLast?_eq_getElem?, eL]
      rfl
    have lL : (linesOf x).length = (splitL x).length - 1 := by
      unfold linesOf
      rw [List.length_dropLast]
    have due : ∀ {n : Nat}, parseS x = .inl n → ∀ H4, Same H H4 → ∀ i : Int, i = ((n : Nat) : Int) → Q (.int i) H4 := fun {n} e H4 g i ei => q H4 _ g (by
      unfold dueD
      rw [e, ei]
      exact .int _)
    refine ⟨_, rfl, ⟨x, rfl⟩, x, nlS, rfl, rfl, rfl, (by show x.cps.size + 2 ≤ sizeLine; rw [sizeLine_eq]; omega), fun p np => ?_⟩
    have s1 : Same H (upd H p (.lst ((splitL x).map V.str))) := Same.up np
    have e1 : (upd H p (.lst ((splitL x).map V.str))) p = some (.lst ((splitL x).map V.str)) := upd_same
    refine ⟨fun σ H' => σ = [some (.str x), some (.ref p), none, none, none, none, none, none, none, none] ∧ H' = upd H p (.lst ((splitL x).map V.str)) ∧ wholeB x = true, ?_, ?_⟩
    · refine ⟨_, rfl, _, rfl, p, _, _, _, rfl, rfl, SqL.of e1, hlast, rfl, _, rfl, ?_⟩
      by_cases hL : (splitL x).getLast hne = Str.ofString ""
      · refine iteF' (by rw [decide_eq_true (by rw [hL])]; rfl) ?_
        refine ⟨_, rfl, p, _, rfl, .inl (SqL.of e1), _, _, rfl, rfl, _, rfl, ?_⟩
        rw [List.length_map]
        by_cases h1 : (splitL x).length = 1
        · refine iteT' (decide_eq_true (by rw [h1]; decide)) ?_
          refine ⟨_, rfl, p, _, rfl, .inl (SqL.of e1), ?_⟩
          rw [List.length_map]
          exact due (by unfold parseS wholeB; rw [decide_eq_true h1]; simp) _ s1 _ rfl
        · refine iteF' (decide_eq_false (by omega)) ⟨rfl, rfl, ?_⟩
          unfold wholeB
          rw [eL, hL, decide_eq_true rfl, decide_eq_false h1]
          rfl
      · refine iteT' (by rw [decide_eq_false (fun z => hL (V.str.inj z))]; rfl) ?_
        refine ⟨_, rfl, p, _, rfl, .inl (SqL.of e1), ?_⟩
        rw [List.length_map]
        exact due (by unfold parseS wholeB; rw [eL, decide_eq_false (fun z => hL (Option.some.inj z))]; simp) _ s1 _ rfl
    rintro σ H' ⟨rfl, rfl, hw⟩
    generalize upd H p (.lst ((splitL x).map V.str)) = H1 at s1 e1
    have ePar : parseS x = match readP 0 st0 (linesOf x) with
      | .inl n => .inl n
      | .inr s => if (s.F 5).isEmpty = true then .inl (linesOf x).length else if circB (circD s) = true then .inr (circD s) else .inl (linesOf x).length := by
      unfold parseS
      exact if_pos hw
    -- order
    refine ⟨line200 (show 6 ≤ 1000 by decide), fun o no => ?_⟩
    have s2 : Same H (upd H1 o (.lst [.str "register", .str "memory", .str "row", .str "next", .str "store", .str "told"])) := s1.trans (Same.up no)
    have e2 := (Same.up no (o := .lst [.str "register", .str "memory", .str "row", .str "next", .str "store", .str "told"])) _ _ e1
    have eo : (upd H1 o (.lst [.str "register", .str "memory", .str "row", .str "next", .str "store", .str "told"])) o = some (.lst (lineW.map V.str)) := upd_same
    generalize upd H1 o (.lst [.str "register", .str "memory", .str "row", .str "next", .str "store", .str "told"]) = H2 at s2 e2 eo
    -- found
    refine ⟨Nat.zero_le _, fun l0 n0 => ?_⟩
    have t0 := Same.up n0 (o := .lst [])
    have f0 : (upd H2 l0 (.lst [])) l0 = some (.lst []) := upd_same
    generalize upd H2 l0 (.lst []) = Ha at t0 f0
    refine ⟨Nat.zero_le _, fun l1 n1 => ?_⟩
    have t1 := t0.trans (Same.up n1 (o := .lst []))
    have f1 : (upd Ha l1 (.lst [])) l1 = some (.lst []) := upd_same
    have a01 := ne_of_none f0 n1
    replace f0 := (Same.up n1 (o := .lst [])) _ _ f0
    have m1 := t0.free n1
    generalize upd Ha l1 (.lst []) = Hb at t1 f1 f0
    refine ⟨Nat.zero_le _, fun l2 n2 => ?_⟩
    have a02 := ne_of_none f0 n2
    have a12 := ne_of_none f1 n2
    have m2 := t1.free n2
    have sm := Same.up n2 (o := .lst [])
    have t2 := t1.trans sm
    have f2 : (upd Hb l2 (.lst [])) l2 = some (.lst []) := upd_same
    replace f0 := sm _ _ f0
    replace f1 := sm _ _ f1
    clear sm
    generalize upd Hb l2 (.lst []) = Hc at t2 f2 f1 f0
    refine ⟨Nat.zero_le _, fun l3 n3 => ?_⟩
    have a03 := ne_of_none f0 n3
    have a13 := ne_of_none f1 n3
    have a23 := ne_of_none f2 n3
    have m3 := t2.free n3
    have sm := Same.up n3 (o := .lst [])
    have t3 := t2.trans sm
    have f3 : (upd Hc l3 (.lst [])) l3 = some (.lst []) := upd_same
    replace f0 := sm _ _ f0
    replace f1 := sm _ _ f1
    replace f2 := sm _ _ f2
    clear sm
    generalize upd Hc l3 (.lst []) = Hd at t3 f3 f2 f1 f0
    refine ⟨Nat.zero_le _, fun l4 n4 => ?_⟩
    have a04 := ne_of_none f0 n4
    have a14 := ne_of_none f1 n4
    have a24 := ne_of_none f2 n4
    have a34 := ne_of_none f3 n4
    have m4 := t3.free n4
    have sm := Same.up n4 (o := .lst [])
    have t4 := t3.trans sm
    have f4 : (upd Hd l4 (.lst [])) l4 = some (.lst []) := upd_same
    replace f0 := sm _ _ f0
    replace f1 := sm _ _ f1
    replace f2 := sm _ _ f2
    replace f3 := sm _ _ f3
    clear sm
    generalize upd Hd l4 (.lst []) = He at t4 f4 f3 f2 f1 f0
    refine ⟨Nat.zero_le _, fun l5 n5 => ?_⟩
    have a05 := ne_of_none f0 n5
    have a15 := ne_of_none f1 n5
    have a25 := ne_of_none f2 n5
    have a35 := ne_of_none f3 n5
    have a45 := ne_of_none f4 n5
    have m5 := t4.free n5
    have sm := Same.up n5 (o := .lst [])
    have t5 := t4.trans sm
    have f5 : (upd He l5 (.lst [])) l5 = some (.lst []) := upd_same
    replace f0 := sm _ _ f0
    replace f1 := sm _ _ f1
    replace f2 := sm _ _ f2
    replace f3 := sm _ _ f3
    replace f4 := sm _ _ f4
    clear sm
    generalize upd He l5 (.lst []) = Hf at t5 f5 f4 f3 f2 f1 f0
    refine ⟨line200 (show 6 ≤ 1000 by decide), fun fl nfl => ?_⟩
    have sm := Same.up nfl (o := .lst [.ref l0, .ref l1, .ref l2, .ref l3, .ref l4, .ref l5])
    have t6 := t5.trans sm
    have FI : FL K (upd Hf fl (.lst [.ref l0, .ref l1, .ref l2, .ref l3, .ref l4, .ref l5])) fl [l0, l1, l2, l3, l4, l5] st0 0 := by
      refine ⟨upd_same, rfl, ?_, ?_, fun i a h => ?_, fun i => rfl, fun i => Nat.le_refl 0⟩
      · simp [a01, a02, a03, a04, a05, a12, a13, a14, a15, a23, a24, a25, a34, a35, a45]
      · have b0 := ne_of_none f0 nfl
        have b1 := ne_of_none f1 nfl
        have b2 := ne_of_none f2 nfl
        have b3 := ne_of_none f3 nfl
        have b4 := ne_of_none f4 nfl
        have b5 := ne_of_none f5 nfl
        simp [b0.symm, b1.symm, b2.symm, b3.symm, b4.symm, b5.symm]
      · have hm := List.mem_of_getElem? h
        simp only [List.mem_cons, List.mem_nil_iff, or_false] at hm
        rcases hm with rfl | rfl | rfl | rfl | rfl | rfl
        · exact ⟨[], sm _ _ f0, .nil⟩
        · exact ⟨[], sm _ _ f1, .nil⟩
        · exact ⟨[], sm _ _ f2, .nil⟩
        · exact ⟨[], sm _ _ f3, .nil⟩
        · exact ⟨[], sm _ _ f4, .nil⟩
        · exact ⟨[], sm _ _ f5, .nil⟩
    have naa : ∀ a ∈ [l0, l1, l2, l3, l4, l5], H2 a = none := fun a hm => by
      simp only [List.mem_cons, List.mem_nil_iff, or_false] at hm
      rcases hm with rfl | rfl | rfl | rfl | rfl | rfl
      · exact n0
      · exact m1
      · exact m2
      · exact m3
      · exact m4
      · exact m5
    generalize [l0, l1, l2, l3, l4, l5] = la at FI naa
    generalize upd Hf fl (.lst [.ref l0, .ref l1, .ref l2, .ref l3, .ref l4, .ref l5]) = H3 at FI t6
    clear f0 f1 f2 f3 f4 f5 t0 t1 t2 t3 t4 t5 sm a01 a02 a03 a04 a05 a12 a13 a14 a15 a23 a24 a25 a34 a35 a45 m1 m2 m3 m4 m5 n0 n1 n2 n3 n4 n5 nfl
    let Iv : Nat → L2.St → Hp → Prop := fun i σ H' => ∃ (u : LSt) (y5 y6 y7 y8 : Option V), σ = [some (.str x), some (.ref p), some (.ref o), some (.ref fl), some (iV u.place), y5, y6, y7, y8, none] ∧ Same H2 H' ∧ FL K H' fl la u i ∧ LOk u ∧ AllT u ∧ readP 0 st0 (linesOf x) = readP i u ((linesOf x).drop i)
    refine ⟨fun σ H' => Iv (linesOf x).length σ H', ?_, ?_⟩
    · refine ⟨_, rfl, p, _, rfl, .inl (SqL.of (t6 _ _ e2)), _, _, rfl, rfl, (((linesOf x).length : Nat) : Int), by rw [List.length_map]; exact congrArg (fun z => [V.int z]) (by omega), by omega, by omega, ?_⟩
      refine for_range (lo := 0) (n := ((((linesOf x).length : Nat) : Int)).toNat) Iv ⟨st0, none, none, none, none, rfl, t6, FI, ok0, (fun i d h => by cases h), rfl⟩ (fun i σ H' hi h => ?_) (fun σ H' h => ?_)
      · obtain ⟨u, y5, y6, y7, y8, rfl, g, FU, ok, hall, er⟩ := h
        rw [Int.zero_add]
        have hil : i < (linesOf x).length := by omega
        obtain ⟨y, ey⟩ : ∃ y, (linesOf x)[i]? = some y := ⟨_, List.getElem?_eq_getElem hil⟩
        have ey2 : (splitL x)[i]? = some y := by
          have : (linesOf x)[i]? = (splitL x)[i]? := by
            unfold linesOf
            rw [List.getElem?_dropLast, if_pos (by omega)]
          rw [← this]
          exact ey
        have hyb := hx.ls y (List.mem_of_getElem? ey2)
        obtain ⟨pl, pz⟩ := hyb.parts
        obtain ⟨wd, rest, esp⟩ : ∃ wd rest, spS y = wd :: rest := by
          cases e : spS y with
          | nil => exact absurd e (spS_ne y)
          | cons a b => exact ⟨a, b, rfl⟩
        rw [esp] at pl pz
        have edrop : (linesOf x).drop i = y :: (linesOf x).drop (i + 1) := by
          obtain ⟨h1, h2⟩ := List.getElem?_eq_some_iff.mp ey
          rw [List.drop_eq_getElem_cons h1, h2]
        have eS : stepP u y = if canF u.place wd = true then (toldS (lineW.idxOf wd) rest).map fun d => u.put (lineW.idxOf wd) d else none := by
          unfold stepP
          rw [esp]
        have er2 : readP 0 st0 (linesOf x) = match stepP u y with | none => .inl (i + 1) | some s' => readP (i + 1) s' ((linesOf x).drop (i + 1)) := by
          rw [er, edrop]
          rfl
        have bad : stepP u y = none → ∀ H4, Same H2 H4 → Q (.int (((i : Nat) : Int) + 1)) H4 := fun e H4 g4 => due (n := i + 1) (by rw [ePar, er2, e]) H4 (s2.trans g4) _ (by omega)
        have shF : ∀ j, SeqAt.shaped (.list (u.F j)) = true := fun j => shaped_list _ fun d hd => by
          obtain ⟨_, b, c⟩ := gd_ok 2 d (hall j d hd).1
          exact ⟨b, by omega⟩
        have sh0 : SeqAt.shaped (.list []) = true := rfl
        have i6 : ∀ j, j < 6 → ∃ a, la[j]? = some a := fun j hj => ⟨_, List.getElem?_eq_getElem (by rw [FU.len]; exact hj)⟩
        refine ⟨_, rfl, _, rfl, p, _, _, _, rfl, rfl, SqL.of (g _ _ e2), atI_nat (j := i) (show ((splitL x).map V.str)[i]? = some (.str y) by rw [List.getElem?_map, ey2]; rfl), ⟨y, rfl⟩, y, Str.ofString " ", rfl, rfl, rfl, (by show y.cps.size + 2 ≤ sizeLine; have := hyb.sz; rw [sizeLine_eq]; omega), fun pr npr => ?_⟩
        have gP : Same H2 (upd H' pr (.lst ((Txt.split y (Str.ofString " ")).map V.str))) := g.trans (Same.up npr)
        have FP := FU.same (Same.up npr (o := .lst ((Txt.split y (Str.ofString " ")).map V.str)))
        have eP : (upd H' pr (.lst ((Txt.split y (Str.ofString " ")).map V.str))) pr = some (.lst ((wd :: rest).map V.str)) := upd_same.trans (congrArg (fun l => some (HO.lst (List.map V.str l))) esp)
        generalize upd H' pr (.lst ((Txt.split y (Str.ofString " ")).map V.str)) = H4 at gP FP eP
        refine ⟨fun σ H5 => σ = [some (.str x), some (.ref p), some (.ref o), some (.ref fl), some (iV u.place), some (iV i), some (.ref pr), y7, y8, none] ∧ H4 = H5 ∧ wd ∈ lineW ∧ u.place ≤ lineW.idxOf wd, ?_, ?_⟩
        · refine ⟨_, rfl, pr, _, _, _, rfl, rfl, SqL.of eP, atI_nat (j := 0) rfl, _, rfl, o, _, rfl, .inl (SqL.of (gP _ _ eo)), rfl, all_flat_strs _, _, rfl, ?_⟩
          show if (!inV (.str wd) (lineW.map V.str)) = true then _ else _
          rw [inV_strs]
          by_cases hw : wd ∈ lineW
          · refine iteF' (by rw [decide_eq_true hw]; rfl) ?_
            refine ⟨_, rfl, .inl ⟨rfl, _, SqL.of (gP _ _ eo)⟩, _, rfl, pr, _, _, _, rfl, rfl, SqL.of eP, atI_nat (j := 0) rfl, o, _, _, lineW.idxOf wd, .str wd, rfl, rfl, SqL.of (gP _ _ eo), rfl, all_flat_strs _, (ix_word hw).1, beq_self_eq_true wd, (ix_word hw).2, ?_⟩
            refine ⟨_, rfl, _, _, rfl, rfl, _, rfl, ?_⟩
            by_cases hle : u.place ≤ lineW.idxOf wd
            · exact iteF' (decide_eq_false (by omega)) ⟨rfl, rfl, hw, hle⟩
            · refine iteT' (decide_eq_true (by omega)) ⟨_, rfl, _, _, rfl, rfl, bad ?_ _ gP⟩
              rw [eS, ← can_eq ok]
              unfold canL
              rw [decide_eq_false hle]
              simp
          · refine iteT' (by rw [decide_eq_false hw]; rfl) ⟨_, rfl, _, _, rfl, rfl, bad ?_ _ gP⟩
            rw [eS, ← can_eq ok]
            unfold canL
            rw [decide_eq_false hw]
            simp
        rintro σ H5 ⟨rfl, rfl, hw, hle⟩
        have hi6 : lineW.idxOf wd < 6 := List.idxOf_lt_length_iff.mpr hw
        obtain ⟨aa, haa⟩ := i6 _ hi6
        obtain ⟨a3, l3e⟩ := i6 3 (by decide)
        refine ⟨_, rfl, .inl ⟨rfl, _, SqL.of (gP _ _ eo)⟩, _, rfl, pr, _, _, _, rfl, rfl, SqL.of eP, atI_nat (j := 0) rfl, o, _, _, lineW.idxOf wd, .str wd, rfl, rfl, SqL.of (gP _ _ eo), rfl, all_flat_strs _, (ix_word hw).1, beq_self_eq_true wd, (ix_word hw).2, ?_⟩
        refine ⟨fun σ H6 => σ = [some (.str x), some (.ref p), some (.ref o), some (.ref fl), some (iV u.place), some (iV i), some (.ref pr), some (iV (lineW.idxOf wd)), y8, none] ∧ Same H4 H6 ∧ canL u wd = true, ?_, ?_⟩
        · refine ⟨_, rfl, line200 (show 2 ≤ 1000 by decide), fun t nt => ⟨t, _, rfl, .inr (SqT.of upd_same), rfl, rfl, _, rfl, ?_⟩⟩
          have sX0 : Same H4 (upd H4 t (.tup [V.int 3, V.int 5])) := Same.up nt
          have FX0 := FP.same sX0
          generalize upd H4 t (.tup [V.int 3, V.int 5]) = H5 at sX0 FX0
          show if inV (iV (lineW.idxOf wd)) [V.int 3, V.int 5] = true then _ else _
          rw [in35]
          by_cases h35 : lineW.idxOf wd = 3 ∨ lineW.idxOf wd = 5
          · refine iteT' (decide_eq_true h35) ?_
            refine ⟨_, rfl, _, rfl, fl, _, _, _, rfl, rfl, SqL.of FX0.d, atI_nat (j := lineW.idxOf wd) (la_at FX0 hi6 haa), Nat.zero_le _, fun z nz => ?_⟩
            have FX := FX0.same (Same.up nz (o := .lst []))
            have sX := sX0.trans (Same.up nz (o := .lst []))
            obtain ⟨vs, ev, dv⟩ := FX.at' _ _ haa
            refine ⟨.list (u.F (lineW.idxOf wd)), .list [], .lst (SqL.of ev) dv, .lst (SqL.of upd_same) .nil, shF _, sh0, _, rfl, ?_⟩
            rw [eqv_nil]
            generalize upd H5 z (.lst []) = H6 at FX sX
            clear ev dv
            cases hfo : (u.F (lineW.idxOf wd)).isEmpty with
            | false =>
              refine iteT ⟨_, rfl, _, _, rfl, rfl, bad ?_ _ (gP.trans sX)⟩
              rw [eS, ← can_eq ok]
              unfold canL
              rw [decide_eq_true h35, hfo]
              simp
            | true =>
              refine iteF ?_
              by_cases h3 : 3 < lineW.idxOf wd
              · refine ⟨_, rfl, _, _, rfl, rfl, _, rfl, iteT' (decide_eq_true (by omega)) ?_⟩
                refine ⟨_, rfl, fl, _, _, _, rfl, rfl, SqL.of FX.d, atI_nat (j := 3) (la_at FX (by decide) l3e), Nat.zero_le _, fun z2 nz2 => ?_⟩
                have FY := FX.same (Same.up nz2 (o := .lst []))
                obtain ⟨vs3, ev3, dv3⟩ := FY.at' 3 _ l3e
                refine ⟨.list (u.F 3), .list [], .lst (SqL.of ev3) dv3, .lst (SqL.of upd_same) .nil, shF 3, sh0, _, rfl, ?_⟩
                rw [eqv_nil]
                cases hf3 : (u.F 3).isEmpty with
                | true =>
                  refine iteT ?_
                  refine ⟨_, rfl, _, _, rfl, rfl, bad (by rw [eS, ← can_eq ok]; unfold canL; rw [hf3, decide_eq_true h3]; simp) _ (gP.trans (sX.trans (Same.up nz2)))⟩
                | false =>
                  refine iteF ⟨rfl, sX.trans (Same.up nz2), ?_⟩
                  unfold canL
                  rw [decide_eq_true hw, decide_eq_true hle, hf3, decide_eq_true h35, hfo]
                  simp
              · refine ⟨_, rfl, _, _, rfl, rfl, _, rfl, iteF' (decide_eq_false (by omega)) ⟨rfl, sX, ?_⟩⟩
                unfold canL
                rw [decide_eq_true hw, decide_eq_true hle, decide_eq_false h3, decide_eq_true h35, hfo]
                simp

          · refine iteF' (decide_eq_false h35) ?_
            have FX := FX0
            have sX := sX0
            by_cases h3 : 3 < lineW.idxOf wd
            · refine ⟨_, rfl, _, _, rfl, rfl, _, rfl, iteT' (decide_eq_true (by omega)) ?_⟩
              refine ⟨_, rfl, fl, _, _, _, rfl, rfl, SqL.of FX.d, atI_nat (j := 3) (la_at FX (by decide) l3e), Nat.zero_le _, fun z2 nz2 => ?_⟩
              have FY := FX.same (Same.up nz2 (o := .lst []))
              obtain ⟨vs3, ev3, dv3⟩ := FY.at' 3 _ l3e
              refine ⟨.list (u.F 3), .list [], .lst (SqL.of ev3) dv3, .lst (SqL.of upd_same) .nil, shF 3, sh0, _, rfl, ?_⟩
              rw [eqv_nil]
              cases hf3 : (u.F 3).isEmpty with
              | true =>
                refine iteT ?_
                refine ⟨_, rfl, _, _, rfl, rfl, bad (by rw [eS, ← can_eq ok]; unfold canL; rw [hf3, decide_eq_true h3]; simp) _ (gP.trans (sX.trans (Same.up nz2)))⟩
              | false =>
                refine iteF ⟨rfl, sX.trans (Same.up nz2), ?_⟩
                unfold canL
                rw [decide_eq_true hw, decide_eq_true hle, hf3, decide_eq_false h35]
                simp
            · refine ⟨_, rfl, _, _, rfl, rfl, _, rfl, iteF' (decide_eq_false (by omega)) ⟨rfl, sX, ?_⟩⟩
              unfold canL
              rw [decide_eq_true hw, decide_eq_true hle, decide_eq_false h3, decide_eq_false h35]
              simp

        rintro σ H6 ⟨rfl, sX, hcan⟩
        have hcf : canF u.place wd = true := by rw [← can_eq ok]; exact hcan
        have FX := FP.same sX
        have eP6 := sX _ _ eP
        have hrl : rest.length ≤ 900 := by
          have : (wd :: rest).length = rest.length + 1 := rfl
          omega
        have hpr : ∀ z ∈ rest, asc z ∧ z.cps.size ≤ 100000 := fun z hz => by
          have := pz z (List.mem_cons_of_mem _ hz)
          exact ⟨this.as, Nat.le_trans this.sz (by decide)⟩
        refine ⟨fun σ H7 => ∃ v8 : V, σ = [some (.str x), some (.ref p), some (.ref o), some (.ref fl), some (iV u.place), some (iV i), some (.ref pr), some (iV (lineW.idxOf wd)), some v8, none] ∧ Same H4 H7 ∧ ((v8 = .non ∧ rawT (lineW.idxOf wd) rest = none) ∨ ∃ t d, v8 = .ref t ∧ rawT (lineW.idxOf wd) rest = some d ∧ Dp K H7 (.ref t) d), ?_, ?_⟩
        · refine ⟨_, rfl, rfl, _, rfl, ?_⟩
          by_cases h2 : lineW.idxOf wd = 2
          · refine iteT' (decide_eq_true (congrArg V.int (by omega))) ?_
            have eT : rawT (lineW.idxOf wd) rest = rowS rest := if_pos h2
            refine ⟨_, rfl, _, rfl, pr, _, rfl, SqL.of eP6, fun s0 n0 => ?_⟩
            refine ⟨s0, rest, rfl, SqL.of (upd_same.trans (congrArg (fun l => some (HO.lst l)) (cut_one (.str wd) (rest.map V.str)))), hpr, hrl, fun H7 s7 e => ?_, fun H7 t d s7 e dt => ?_⟩
            · exact ⟨.non, rfl, (sX.trans (Same.up n0)).trans s7, .inl ⟨rfl, by rw [eT, e]⟩⟩
            · exact ⟨.ref t, rfl, (sX.trans (Same.up n0)).trans s7, .inr ⟨t, d, rfl, by rw [eT, e], dt⟩⟩
          · refine iteF' (decide_eq_false (fun z => h2 (by have := V.int.inj z; omega))) ?_
            have eT : rawT (lineW.idxOf wd) rest = (numsS rest).map fun ns => .tuple (ns.map iD) := if_neg h2
            refine ⟨_, rfl, _, rfl, pr, _, rfl, SqL.of eP6, fun s0 n0 => ?_⟩
            refine ⟨s0, rest, rfl, SqL.of (upd_same.trans (congrArg (fun l => some (HO.lst l)) (cut_one (.str wd) (rest.map V.str)))), hpr, hrl, fun H7 s7 e => ?_, fun H7 t ns s7 e sq => ?_⟩
            · exact ⟨.non, rfl, (sX.trans (Same.up n0)).trans s7, .inl ⟨rfl, by rw [eT, e]; rfl⟩⟩
            · exact ⟨.ref t, rfl, (sX.trans (Same.up n0)).trans s7, .inr ⟨t, _, rfl, by rw [eT, e]; rfl, .tup sq (dps_ints ns)⟩⟩
        rintro σ H7 ⟨v8, rfl, sY, hv8⟩
        refine ⟨fun σ H8 => ∃ t d, σ = [some (.str x), some (.ref p), some (.ref o), some (.ref fl), some (iV u.place), some (iV i), some (.ref pr), some (iV (lineW.idxOf wd)), some (.ref t), none] ∧ Same H4 H8 ∧ toldS (lineW.idxOf wd) rest = some d ∧ Dp K H8 (.ref t) d, ?_, ?_⟩
        · refine ⟨_, rfl, rfl, _, rfl, ?_⟩
          rcases hv8 with ⟨rfl, e⟩ | ⟨t, d, rfl, e, dt⟩
          · refine iteT ⟨_, rfl, _, _, rfl, rfl, bad ?_ _ (gP.trans sY)⟩
            rw [eS, hcf, if_pos rfl, raw_told.1 e]
            rfl
          · refine iteF ?_
            obtain ⟨ds, rfl, hcase⟩ := raw_told.2 d e
            obtain ⟨t', ys, et, sq, dys⟩ := dp_tup dt
            cases et
            have ly := dps_len dys
            refine ⟨_, rfl, t, _, rfl, .inr sq, fun da nda => ?_⟩
            have s8 := sY.trans (Same.up nda (o := .dK (mergeK [] kv3)))
            refine ⟨upd_same, kv3, rfl, (by show 3 ≤ 15; decide), ?_⟩
            rw [upd_upd]
            have sq8 := same_tup (Same.up nda (o := .dK (mergeK [] kv3))) _ _ sq
            have ed : (upd H7 da (.dK (mergeK [] kv3))) da = some (.dK (mergeK [] kv3)) := upd_same
            have dt8 := dp_stay (same_tup (Same.up nda (o := .dK (mergeK [] kv3)))) _ _ dt
            generalize upd H7 da (.dK (mergeK [] kv3)) = H8 at s8 sq8 ed dt8
            refine ⟨da, rfl, .inl ⟨_, .inl ed⟩, _, rfl, _, rfl, t, _, rfl, .inr sq8, _, DGet.k (k := .inl (((lineW.idxOf wd : Nat)) : Int)) ed, ?_⟩
            rw [kv3_at hi6, ly]
            rcases hcase with ⟨eT, hk⟩ | ⟨eT, k, ek, hne2⟩
            · have eq : ((manyS (lineW.idxOf wd)).map iV).getD (V.int ((ds.length : Nat) : Int)) = V.int ((ds.length : Nat) : Int) := by
                cases em : manyS (lineW.idxOf wd) with
                | none => rfl
                | some k =>
                  show iV k = _
                  rw [hk k em]
              rw [eq]
              exact ⟨rfl, _, rfl, iteF' (by rw [decide_eq_true rfl]; rfl) ⟨t, _, rfl, s8, eT, dt8 (told_noL eT)⟩⟩
            · rw [ek]
              refine ⟨rfl, _, rfl, iteT' (by show (!decide (V.int ((ds.length : Nat) : Int) = V.int ((k : Nat) : Int))) = true; rw [decide_eq_false (fun z => hne2 (by have := V.int.inj z; omega))]; rfl) ⟨_, rfl, _, _, rfl, rfl, bad ?_ _ (gP.trans s8)⟩⟩
              rw [eS, hcf, if_pos rfl, eT]
              rfl
        rintro σ H8 ⟨t, d, rfl, sZ, eT, dt⟩
        have FZ := FP.same sZ
        have GZ := gP.trans sZ
        have eS2 : stepP u y = some (u.put (lineW.idxOf wd) d) := by
          rw [eS, hcf, if_pos rfl, eT]
          rfl
        obtain ⟨vs, ev, dv⟩ := FZ.at' _ _ haa
        have lvs := dps_len dv
        have hcnt := FZ.cnt (lineW.idxOf wd)
        have naa2 := naa aa (List.mem_of_getElem? haa)
        refine ⟨_, rfl, _, rfl, _, rfl, fl, _, _, _, rfl, rfl, SqL.of FZ.d, atI_nat (j := lineW.idxOf wd) (la_at FZ hi6 haa), .inl ⟨rfl, _, SqL.of ev⟩, _, rfl, aa, vs, _, rfl, rfl, ev, lineS200 (by omega), ?_⟩
        exact ⟨u.put (lineW.idxOf wd) d, _, _, _, _, rfl, same_put GZ naa2, FL.put FZ haa ev dv dt (told_noL eT), put_ok ok hcf d, step_all hall (by rw [esp]; exact pl) eS2, by rw [er2, eS2]⟩
      · have e : ((((linesOf x).length : Nat) : Int)).toNat = (linesOf x).length := Int.toNat_natCast _
        rw [e] at h
        exact h
    rintro σ H' ⟨u, y5, y6, y7, y8, rfl, g, FU, ok, hall, er⟩
    rw [List.drop_length] at er
    rw [er] at ePar
    have shF : ∀ j, SeqAt.shaped (.list (u.F j)) = true := fun j => shaped_list _ fun d hd => by
      obtain ⟨_, b, c⟩ := gd_ok 2 d (hall j d hd).1
      exact ⟨b, by omega⟩
    have sh0 : SeqAt.shaped (.list []) = true := rfl
    have i6 : ∀ j, j < 6 → ∃ a, la[j]? = some a := fun j hj => ⟨_, List.getElem?_eq_getElem (by rw [FU.len]; exact hj)⟩
    obtain ⟨a0, la0⟩ := i6 0 (by decide)
    obtain ⟨a1, la1⟩ := i6 1 (by decide)
    obtain ⟨a2, la2⟩ := i6 2 (by decide)
    obtain ⟨a3, la3⟩ := i6 3 (by decide)
    obtain ⟨a4, la4⟩ := i6 4 (by decide)
    obtain ⟨a5, la5⟩ := i6 5 (by decide)
    refine ⟨fun σ H5 => σ = [some (.str x), some (.ref p), some (.ref o), some (.ref fl), some (iV u.place), y5, y6, y7, y8, none] ∧ Same H' H5 ∧ (u.F 3).isEmpty = false ∧ (u.F 5).isEmpty = false, ?_, ?_⟩
    · refine ⟨_, rfl, fl, _, _, _, rfl, rfl, SqL.of FU.d, atI_nat (j := 3) (la_at FU (by decide) la3), Nat.zero_le _, fun z nz => ?_⟩
      have s5 := Same.up nz (o := .lst [])
      have FX := FU.same s5
      obtain ⟨vs3, ev3, dv3⟩ := FX.at' 3 _ la3
      refine ⟨.list (u.F 3), .list [], .lst (SqL.of ev3) dv3, .lst (SqL.of upd_same) .nil, shF 3, sh0, _, rfl, ?_⟩
      rw [eqv_nil]
      generalize upd H' z (.lst []) = H5 at s5 FX
      have out : (u.F 5).isEmpty = true → ∀ H6, Same H' H6 → ∀ i : Int, i = (((linesOf x).length : Nat) : Int) → Q (.int i) H6 := fun e H6 s6 i ei => due (n := (linesOf x).length) (by rw [ePar]; show (if (u.F 5).isEmpty = true then _ else _) = _; rw [if_pos e]) H6 (s2.trans (g.trans s6)) _ ei
      cases hf3 : (u.F 3).isEmpty with
      | true =>
        have h5 : (u.F 5).isEmpty = true := by
          cases hf5 : (u.F 5).isEmpty with
          | true => rfl
          | false =>
            have h1 := ok.f5.mp hf5
            have h2 := ok.f3.mpr (by omega)
            rw [hf3] at h2
            cases h2
        refine iteT ⟨_, rfl, p, _, rfl, .inl (SqL.of (s5 _ _ (g _ _ e2))), _, _, rfl, rfl, out h5 _ s5 _ (by rw [List.length_map]; omega)⟩
      | false =>
        refine iteF ?_
        refine ⟨_, rfl, fl, _, _, _, rfl, rfl, SqL.of FX.d, atI_nat (j := 5) (la_at FX (by decide) la5), Nat.zero_le _, fun z2 nz2 => ?_⟩
        have s6 := Same.up nz2 (o := .lst [])
        have FY := FX.same s6
        obtain ⟨vs5, ev5, dv5⟩ := FY.at' 5 _ la5
        refine ⟨.list (u.F 5), .list [], .lst (SqL.of ev5) dv5, .lst (SqL.of upd_same) .nil, shF 5, sh0, _, rfl, ?_⟩
        rw [eqv_nil]
        generalize upd H5 z2 (.lst []) = H6 at s6 FY
        cases hf5 : (u.F 5).isEmpty with
        | true => exact iteT ⟨_, rfl, p, _, rfl, .inl (SqL.of (s6 _ _ (s5 _ _ (g _ _ e2)))), _, _, rfl, rfl, out hf5 _ (s5.trans s6) _ (by rw [List.length_map]; omega)⟩
        | false => exact iteF ⟨rfl, s5.trans s6, rfl, rfl⟩
    rintro σ H5 ⟨rfl, s5, ok3, ok5⟩
    have ePar2 : parseS x = if circB (circD u) = true then .inr (circD u) else .inl (linesOf x).length := by
      rw [ePar]
      show (if (u.F 5).isEmpty = true then _ else _) = _
      rw [if_neg (by rw [ok5]; decide)]
    have F5 := FU.same s5
    have G5 := g.trans s5
    obtain ⟨v0, h0, d0⟩ := F5.at' 0 _ la0
    obtain ⟨v1, h1, d1⟩ := F5.at' 1 _ la1
    obtain ⟨v2, h2, d2⟩ := F5.at' 2 _ la2
    obtain ⟨v3, h3, d3⟩ := F5.at' 3 _ la3
    obtain ⟨v4, h4, d4⟩ := F5.at' 4 _ la4
    obtain ⟨v5, h5, d5⟩ := F5.at' 5 _ la5
    have hcnt9 : ∀ i, (u.F i).length ≤ 900 := fun i => by
      have := FU.cnt i
      omega
    have ND : ∀ {i : Nat} {vs : List V} {H6 : Hp}, Same H5 H6 → DpAll K H5 vs (u.F i) → DpAll K H6 vs (u.F i) := fun {i vs H6} g d => dps_stay (same_tup g) _ _ d (FU.nol i)
    have head : ∀ {i : Nat} {vs : List V} {H6 : Hp}, Same H5 H6 → DpAll K H5 vs (u.F i) → (u.F i).isEmpty = false → ∃ x, vs[0]? = some x ∧ Dp K H6 x ((u.F i).headD .none) := fun {i vs H6} g d e => by
      have d' := ND g d
      cases hh : u.F i with
      | nil => rw [hh] at e; cases e
      | cons y r =>
        rw [hh] at d'
        cases d' with
        | cons h _ => exact ⟨_, rfl, h⟩
    refine ⟨_, rfl, fl, _, _, _, rfl, rfl, SqL.of F5.d, atI_nat (j := 0) (la_at F5 (by decide) la0), a0, v0, rfl, .inl ⟨SqL.of h0, fun t0 n0 => ?_⟩⟩
    have k0 := Same.up n0 (o := .tup v0)
    have f0 : (upd H5 t0 (.tup v0)) t0 = some (.tup v0) := upd_same
    generalize upd H5 t0 (.tup v0) = H6 at k0 f0
    refine ⟨_, rfl, fl, _, _, _, rfl, rfl, SqL.of (k0 _ _ F5.d), atI_nat (j := 1) (la_at F5 (by decide) la1), a1, v1, rfl, .inl ⟨SqL.of (k0 _ _ h1), fun t1 n1 => ?_⟩⟩
    have sm := Same.up n1 (o := .tup v1)
    have f1 : (upd H6 t1 (.tup v1)) t1 = some (.tup v1) := upd_same
    replace f0 := sm _ _ f0
    have k1 := k0.trans sm
    clear sm
    generalize upd H6 t1 (.tup v1) = H7 at k1 f1 f0
    refine ⟨_, rfl, fl, _, _, _, rfl, rfl, SqL.of (k1 _ _ F5.d), atI_nat (j := 2) (la_at F5 (by decide) la2), a2, v2, rfl, .inl ⟨SqL.of (k1 _ _ h2), fun t2 n2 => ?_⟩⟩
    have sm := Same.up n2 (o := .tup v2)
    have f2 : (upd H7 t2 (.tup v2)) t2 = some (.tup v2) := upd_same
    replace f0 := sm _ _ f0
    replace f1 := sm _ _ f1
    have k2 := k1.trans sm
    clear sm
    generalize upd H7 t2 (.tup v2) = H8 at k2 f2 f1 f0
    obtain ⟨x3, e3, _⟩ := head (fun _ _ e => e) d3 ok3
    refine ⟨_, rfl, fl, _, _, _, rfl, rfl, SqL.of (k2 _ _ F5.d), atI_nat (j := 3) (la_at F5 (by decide) la3), a3, v3, _, x3, rfl, rfl, SqL.of (k2 _ _ h3), atI_nat (j := 0) e3, ?_⟩
    refine ⟨_, rfl, fl, _, _, _, rfl, rfl, SqL.of (k2 _ _ F5.d), atI_nat (j := 4) (la_at F5 (by decide) la4), a4, v4, rfl, .inl ⟨SqL.of (k2 _ _ h4), fun t4 n4 => ?_⟩⟩
    have sm := Same.up n4 (o := .tup v4)
    have f4 : (upd H8 t4 (.tup v4)) t4 = some (.tup v4) := upd_same
    replace f0 := sm _ _ f0
    replace f1 := sm _ _ f1
    replace f2 := sm _ _ f2
    have k4 := k2.trans sm
    clear sm
    generalize upd H8 t4 (.tup v4) = H9 at k4 f4 f2 f1 f0
    obtain ⟨x5, e5, _⟩ := head (fun _ _ e => e) d5 ok5
    refine ⟨_, rfl, fl, _, _, _, rfl, rfl, SqL.of (k4 _ _ F5.d), atI_nat (j := 5) (la_at F5 (by decide) la5), a5, v5, _, x5, rfl, rfl, SqL.of (k4 _ _ h5), atI_nat (j := 0) e5, ?_⟩
    refine ⟨line200 (show 6 ≤ 1000 by decide), fun ct nct => ?_⟩
    have sm := Same.up nct (o := .tup [.ref t0, .ref t1, .ref t2, x3, .ref t4, x5])
    have fc : (upd H9 ct (.tup [.ref t0, .ref t1, .ref t2, x3, .ref t4, x5])) ct = some (.tup [.ref t0, .ref t1, .ref t2, x3, .ref t4, x5]) := upd_same
    replace f0 := sm _ _ f0
    replace f1 := sm _ _ f1
    replace f2 := sm _ _ f2
    replace f4 := sm _ _ f4
    have k6 := k4.trans sm
    clear sm
    generalize upd H9 ct (.tup [.ref t0, .ref t1, .ref t2, x3, .ref t4, x5]) = Ha at k6 fc f4 f2 f1 f0
    have hx3 : Dp K Ha x3 ((u.F 3).headD .none) := by
      obtain ⟨x, e, d⟩ := head k6 d3 ok3
      rw [e3] at e
      cases e
      exact d
    have hx5 : Dp K Ha x5 ((u.F 5).headD .none) := by
      obtain ⟨x, e, d⟩ := head k6 d5 ok5
      rw [e5] at e
      cases e
      exact d
    have D7 : Dp K Ha (.ref ct) (circD u) := .tup (SqT.of fc) (.cons (.tup (SqT.of f0) (ND k6 d0)) (.cons (.tup (SqT.of f1) (ND k6 d1)) (.cons (.tup (SqT.of f2) (ND k6 d2)) (.cons hx3 (.cons (.tup (SqT.of f4) (ND k6 d4)) (.cons hx5 .nil))))))
    have gdc := circ_gd hall hcnt9
    refine ⟨_, rfl, .ref ct, circD u, 4, rfl, D7, gdc, by decide, fun Hb sb => ⟨_, rfl, ?_⟩⟩
    have k8 := k6.trans sb
    cases hc : circB (circD u) with
    | false =>
      refine iteF ⟨_, rfl, p, _, rfl, .inl (SqL.of (k8 _ _ (G5 _ _ e2))), _, _, rfl, rfl, ?_⟩
      exact due (n := (linesOf x).length) (by rw [ePar2, hc]; rfl) Hb (s2.trans (G5.trans k8)) _ (by rw [List.length_map]; omega)
    | true =>
      refine iteT ⟨_, rfl, q Hb _ (s2.trans (G5.trans k8)) ?_⟩
      unfold dueD
      rw [ePar2, hc]
      exact dp_stay (same_tup sb) _ _ D7 (gd_ok 4 _ gdc).1
end
end C1

/-! A text turned, by the law. -/
namespace C1
open PySem PySem.Spec PyProof.Rows L2 SX
abbrev sLawBent : Stmt := topS 60
theorem scLawBent : FnScope ["w", "lines", "at", "parts_v", "k", "turn", "goal", "rest", "line"] ["w", "lines"] (defScope sLawBent) := ⟨rfl, rfl, rfl, by decide +kernel, rfl, by decide +kernel, by decide +kernel⟩
abbrev NLB : List Str := ["w", "lines", "at", "parts_v", "k", "turn", "goal", "rest", "line"]
theorem cut_strs (xs : List Str) (lo hi : Option Int) : ∃ zs : List Str, cutV (xs.map V.str) lo hi = zs.map V.str ∧ (∀ z ∈ zs, z ∈ xs) ∧ zs.length ≤ xs.length := by
  refine ⟨(xs.drop (HT.sIx xs.length 0 lo)).take (HT.sIx xs.length xs.length hi - HT.sIx xs.length 0 lo), ?_, ?_, ?_⟩
  · unfold cutV
    rw [List.length_map, List.map_take, List.map_drop]
  · exact fun z hz => List.mem_of_mem_drop (List.mem_of_mem_take hz)
  · rw [List.length_take, List.length_drop]
    omega
theorem joinL_eq {S : List Nat} : ∀ {ps : List (List Nat)}, ps ≠ [] → (TL.joinL S ps).length + S.length = (ps.map (·.length)).sum + ps.length * S.length
  | [], h => absurd rfl h
  | [p], _ => by
    show p.length + S.length = (p.length + 0) + 1 * S.length
    omega
  | p :: q :: r, _ => by
    have ih := joinL_eq (S := S) (ps := q :: r) (by simp)
    show (p ++ (S ++ TL.joinL S (q :: r))).length + S.length = (p.length + ((q :: r).map (·.length)).sum) + ((q :: r).length + 1) * S.length
    rw [List.length_append, List.length_append, Nat.succ_mul]
    omega
theorem sum_set (v : Nat) : ∀ (l : List Nat) (i : Nat), (l.set i v).sum ≤ l.sum + v
  | [], _ => Nat.zero_le _
  | x :: l, 0 => by
    show v + l.sum ≤ (x + l.sum) + v
    omega
  | x :: l, i + 1 => by
    have := sum_set v l i
    show x + (l.set i v).sum ≤ (x + l.sum) + v
    omega
theorem join_set {y z : Str} {i b c : Nat} (hy : LnB b y) (hz : LnB c z) : LnB (b + c) (Txt.join spB ((spS y).set i z)) := by
  have e : Txt.join spB (spS y) = y := by
    rw [TL.join_eq]
    exact PySem.StrLaws.join_split y spB
  refine ⟨?_, fun k hk => ?_, fun hk => ?_⟩
  · have h1 := congrArg (fun s : Str => s.cps.toList.length) e
    simp only [cs_join, Array.length_toList] at h1
    have ne := spS_ne y
    have q1 := joinL_eq (S := spB.cps.toList) (ps := (spS y).map fun p => p.cps.toList) (by simpa using ne)
    have q2 := joinL_eq (S := spB.cps.toList) (ps := ((spS y).set i z).map fun p => p.cps.toList) (by simpa using ne)
    have q3 := sum_set z.cps.size (((spS y).map fun p => p.cps.toList).map (·.length)) i
    have e3 : (((spS y).set i z).map fun p => p.cps.toList).map (·.length) = (((spS y).map fun p => p.cps.toList).map (·.length)).set i z.cps.size := by
      rw [List.map_set, List.map_set, Array.length_toList]
    have a1 := hy.sz
    have a2 := hz.sz
    rw [← Array.length_toList, cs_join]
    rw [e3] at q2
    simp only [List.length_map, List.length_set] at q1 q2
    omega
  · rcases join_mem hk with w | ⟨p, hp, w⟩
    · rw [List.mem_singleton.mp (show k ∈ [32] from w)]
      decide
    · rcases List.mem_or_eq_of_mem_set hp with v | v
      · exact hy.as k (part_mem v w)
      · rw [v] at w
        exact hz.as k w
  · rcases join_mem hk with w | ⟨p, hp, w⟩
    · exact absurd w (by decide)
    · rcases List.mem_or_eq_of_mem_set hp with v | v
      · exact hy.nl (part_mem v w)
      · rw [v] at w
        exact hz.nl w
section
variable {P : Program} {w : World} {K : PySem.W.Frag} {mg : Str → Option Value} {base : Heap} {T : Addr} {a l : Addr} {ds : List Int}
theorem two_te {σ : L2.St} {H : Hp} {v i j b : Nat} {q : Addr} {xs : List Str} {tA tB : TE} {Q : VK} (hv : σ[v]? = some (some (.ref q))) (e : H q = some (.lst (xs.map V.str))) (W : Wd H a l ds) (qa : q ≠ a)
    (hA : ∀ H1 (R : VK), R (iV i) H1 → tA σ H1 R) (hB : ∀ H1 (R : VK), R (iV j) H1 → tB σ H1 R) (hx : ∀ x ∈ xs, LnB b x) (hl : xs.length ≤ 200)
    (hq : ∀ (H' : Hp) (p : Addr) (ys : List Str), Kp a H H' → Wd H' a l ds → H' p = some (.lst (ys.map V.str)) → p ≠ a → (∀ y ∈ ys, LnB b y) → ys.length ≤ 2 * xs.length → Q (.ref p) H') :
    (tOp rCat (tSl (rSlL K) (tVar v) tNoPart (tPart tA)) (tSl (rSlL K) (tVar v) (tPart tB) tNoPart)) σ H Q := by
  obtain ⟨z1, ez1, m1, l1⟩ := cut_strs xs none (some ((i : Nat) : Int))
  obtain ⟨z2, ez2, m2, l2⟩ := cut_strs xs (some ((j : Nat) : Int)) none
  refine ⟨_, hv, hA _ _ ⟨_, rfl, q, _, rfl, SqL.of e, fun s1 n1 => ?_⟩⟩
  have k1 := Kp.new (a := a) (o := .lst (cutV (xs.map V.str) none (some ((i : Nat) : Int)))) n1
  have W1 := W.new (o := .lst (cutV (xs.map V.str) none (some ((i : Nat) : Int)))) n1
  have e1 := k1 _ _ qa e
  have f1 : (upd H s1 (.lst (cutV (xs.map V.str) none (some ((i : Nat) : Int))))) s1 = some (.lst (z1.map V.str)) := by rw [upd_same, ez1]
  generalize upd H s1 (.lst (cutV (xs.map V.str) none (some ((i : Nat) : Int)))) = H1 at k1 W1 e1 f1
  refine ⟨_, hv, hB _ _ ⟨_, rfl, q, _, rfl, SqL.of e1, fun s2 n2 => ?_⟩⟩
  have k2 := Kp.new (a := a) (o := .lst (cutV (xs.map V.str) (some ((j : Nat) : Int)) none)) n2
  have W2 := W1.new (o := .lst (cutV (xs.map V.str) (some ((j : Nat) : Int)) none)) n2
  have f2 : (upd H1 s2 (.lst (cutV (xs.map V.str) (some ((j : Nat) : Int)) none))) s2 = some (.lst (z2.map V.str)) := by rw [upd_same, ez2]
  have f1' := k2 _ _ (W1.at'.elim fun n h => ne_of f1 h.2 (by intro z; cases z)) f1
  generalize upd H1 s2 (.lst (cutV (xs.map V.str) (some ((j : Nat) : Int)) none)) = H2 at k2 W2 f2 f1'
  refine ⟨s1, s2, _, _, rfl, rfl, f1', f2, line200 (by rw [List.length_map, List.length_map]; omega), fun p np => ?_⟩
  refine hq _ p (z1 ++ z2) ((k1.trans k2).trans (Kp.new np)) (W2.new np) (by rw [upd_same, List.map_append]) (W2.fresh np) (fun y hy => ?_) (by rw [List.length_append]; omega)
  rcases List.mem_append.mp hy with z | z
  · exact hx y (m1 y z)
  · exact hx y (m2 y z)
theorem ins_te {σ : L2.St} {H : Hp} {v i j b : Nat} {q : Addr} {xs : List Str} {tA tB te : TE} {Q : VK} (hv : σ[v]? = some (some (.ref q))) (e : H q = some (.lst (xs.map V.str))) (W : Wd H a l ds) (qa : q ≠ a)
    (hA : ∀ H1 (R : VK), R (iV i) H1 → tA σ H1 R) (hB : ∀ H1 (R : VK), R (iV j) H1 → tB σ H1 R) (hx : ∀ x ∈ xs, LnB b x) (hl : xs.length ≤ 200)
    (hte : ∀ H1 (R : VK), Kp a H H1 → Wd H1 a l ds → (∀ (y : Str) (H2 : Hp), Kp a H1 H2 → Wd H2 a l ds → LnB b y → R (.str y) H2) → te σ H1 R)
    (hq : ∀ (H' : Hp) (p : Addr) (ys : List Str), Kp a H H' → Wd H' a l ds → H' p = some (.lst (ys.map V.str)) → p ≠ a → (∀ y ∈ ys, LnB b y) → ys.length ≤ 2 * xs.length + 1 → Q (.ref p) H') :
    (tOp rCat (tOp rCat (tSl (rSlL K) (tVar v) tNoPart (tPart tA)) (tLst (tCons te tNil))) (tSl (rSlL K) (tVar v) (tPart tB) tNoPart)) σ H Q := by
  obtain ⟨z1, ez1, m1, l1⟩ := cut_strs xs none (some ((i : Nat) : Int))
  obtain ⟨z2, ez2, m2, l2⟩ := cut_strs xs (some ((j : Nat) : Int)) none
  refine ⟨_, hv, hA _ _ ⟨_, rfl, q, _, rfl, SqL.of e, fun s1 n1 => ?_⟩⟩
  have k1 := Kp.new (a := a) (o := .lst (cutV (xs.map V.str) none (some ((i : Nat) : Int)))) n1
  have W1 := W.new (o := .lst (cutV (xs.map V.str) none (some ((i : Nat) : Int)))) n1
  have e1 := k1 _ _ qa e
  have f1 : (upd H s1 (.lst (cutV (xs.map V.str) none (some ((i : Nat) : Int))))) s1 = some (.lst (z1.map V.str)) := by rw [upd_same, ez1]
  generalize upd H s1 (.lst (cutV (xs.map V.str) none (some ((i : Nat) : Int)))) = H1 at k1 W1 e1 f1
  have a1 : s1 ≠ a := W1.at'.elim fun n h => ne_of f1 h.2 (by intro z; cases z)
  refine hte _ _ k1 W1 fun y H2 k2 W2 hy => ?_
  replace e1 := k2 _ _ qa e1
  replace f1 := k2 _ _ a1 f1
  refine ⟨line200 (show 1 ≤ 1000 by decide), fun p3 n3 => ?_⟩
  have k3 := Kp.new (a := a) (o := .lst [V.str y]) n3
  have W3 := W2.new (o := .lst [V.str y]) n3
  have a3 := W2.fresh n3
  have f3 : (upd H2 p3 (.lst [V.str y])) p3 = some (.lst [V.str y]) := upd_same
  replace e1 := k3 _ _ qa e1
  replace f1 := k3 _ _ a1 f1
  generalize upd H2 p3 (.lst [V.str y]) = H3 at k3 W3 f3 e1 f1
  refine ⟨s1, p3, _, _, rfl, rfl, f1, f3, line200 (by rw [List.length_map]; show _ + 1 ≤ 1000; omega), fun p4 n4 => ?_⟩
  have k4 := Kp.new (a := a) (o := .lst (z1.map V.str ++ [V.str y])) n4
  have W4 := W3.new (o := .lst (z1.map V.str ++ [V.str y])) n4
  have a4 := W3.fresh n4
  have f4 : (upd H3 p4 (.lst (z1.map V.str ++ [V.str y]))) p4 = some (.lst ((z1 ++ [y]).map V.str)) := by rw [upd_same, List.map_append]; rfl
  replace e1 := k4 _ _ qa e1
  generalize upd H3 p4 (.lst (z1.map V.str ++ [V.str y])) = H4 at k4 W4 f4 e1
  refine ⟨_, hv, hB _ _ ⟨_, rfl, q, _, rfl, SqL.of e1, fun s2 n2 => ?_⟩⟩
  have k5 := Kp.new (a := a) (o := .lst (cutV (xs.map V.str) (some ((j : Nat) : Int)) none)) n2
  have W5 := W4.new (o := .lst (cutV (xs.map V.str) (some ((j : Nat) : Int)) none)) n2
  have f2 : (upd H4 s2 (.lst (cutV (xs.map V.str) (some ((j : Nat) : Int)) none))) s2 = some (.lst (z2.map V.str)) := by rw [upd_same, ez2]
  replace f4 := k5 _ _ a4 f4
  generalize upd H4 s2 (.lst (cutV (xs.map V.str) (some ((j : Nat) : Int)) none)) = H5 at k5 W5 f2 f4
  refine ⟨p4, s2, _, _, rfl, rfl, f4, f2, line200 (by rw [List.length_map, List.length_map, List.length_append]; show _ + 1 + _ ≤ 1000; omega), fun p np => ?_⟩
  refine hq _ p ((z1 ++ [y]) ++ z2) (((((k1.trans k2).trans k3).trans k4).trans k5).trans (Kp.new np)) (W5.new np) (by rw [upd_same]; simp only [List.map_append]) (W5.fresh np) (fun x hx2 => ?_) (by rw [List.length_append, List.length_append]; show _ + 1 + _ ≤ _; omega)
  rcases List.mem_append.mp hx2 with z | z
  · rcases List.mem_append.mp z with z | z
    · exact hx x (m1 x z)
    · rw [List.mem_singleton.mp z]
      exact hy
  · exact hx x (m2 x z)
theorem text_bound {xs : List Str} (hl : xs.length ≤ 900) (hx : ∀ x ∈ xs, x.length ≤ 10000) : ((xs.map fun x => x ++ nlS).map (·.length)).sum + (xs.map fun x => x ++ nlS).length * (Str.ofString "").length ≤ 16777216 := by
  have h1 := len_sum (xs := xs.map fun x => x ++ nlS) (b := 10001) fun y hy => by
    obtain ⟨x, h, rfl⟩ := List.mem_map.mp hy
    rw [app_len]
    have : nlS.length = 1 := by decide +kernel
    have := hx x h
    omega
  rw [List.length_map] at h1 ⊢
  have h0 : (Str.ofString "").length = 0 := by decide +kernel
  rw [h0, Nat.mul_zero, Nat.add_zero]
  have h2 : xs.length * 10001 ≤ 900 * 10001 := Nat.mul_le_mul_right _ hl
  omega
theorem text_lc {σ : L2.St} {H : Hp} {j : Nat} {q D : Addr} {xs : List Str} {vs : List Nat} {Qd : Hp → Prop} (e : H q = some (.lst (xs.map V.str))) (hl : xs.length ≤ 900) (hx : ∀ x ∈ xs, x.length ≤ 10000) (nD : H D = none)
    (hj : ∀ v, ((wipe σ vs).set j (some v))[j]? = some (some v) ∧ wipe ((wipe σ vs).set j (some v)) vs = wipe σ vs) (hd : ∀ H', Same H H' → H' D = some (.lst ((xs.map fun x => x ++ nlS).map V.str)) → Qd H') :
    ∃ W : Nat → Nat → Hp → Prop, (∃ m, W 0 m (upd H D (.lst []))) ∧ ∀ i m H, W i m H →
      ((Itl K q).stop i H ∧ Qd H) ∨ ((Itl K q).go i H ∧ ∃ Nx : Hp → Prop, (∀ H', Nx H' → ∃ m', m' < m ∧ W (i + 1) m' H') ∧ ∀ x H', (Itl K q).yld i H x H' → gName j x (wipe σ vs) H' fun σ2 H2 => wipe σ2 vs = wipe σ vs ∧ tYes σ2 H2 fun b H3 =>
        if b = true then (tOp rAddStr (tVar j) (tC (.str "\n"))) σ2 H3 fun y H4 => ∃ acc, H4 D = some (.lst acc) ∧ acc.length < sizeLine ∧ Nx (upd H4 D (.lst (acc ++ [y]))) else Nx H3) := by
  refine lc_listD ((xs.map fun x => x ++ nlS).map .str) (noLs_strs _) (by rw [List.length_map, List.length_map, List.length_map]) (by rw [List.length_map]; omega) (SqL.of e) nD (fun i x d H2 Q2 hxi hdi sm q2 => ?_) (fun H2 acc sm e2 dp => ?_)
  · rw [List.getElem?_map, List.getElem?_map] at hdi
    obtain ⟨s, es, rfl⟩ := Option.map_eq_some_iff.mp hdi
    obtain ⟨z, ez, rfl⟩ := Option.map_eq_some_iff.mp es
    rw [List.getElem?_map, ez] at hxi
    cases hxi
    refine ⟨(hj _).2, _, (hj _).1, z, nlS, rfl, rfl, ?_, q2 _ _ (fun _ _ e => e) (.str _)⟩
    have h1 := hx z (List.mem_of_getElem? ez)
    have : nlS.length = 1 := by decide +kernel
    rw [this, sizeLine_eq]
    omega
  · have ea := strs_dps dp
    subst ea
    exact hd _ sm e2
theorem text_te {σ : L2.St} {H : Hp} {v j : Nat} {q : Addr} {xs : List Str} {Q : VK} (hv : σ[v]? = some (some (.ref q))) (e : H q = some (.lst (xs.map V.str))) (hl : xs.length ≤ 900) (hx : ∀ x ∈ xs, x.length ≤ 10000) (W : Wd H a l ds)
    (hj : ∀ v, ((wipe σ [j]).set j (some v))[j]? = some (some v) ∧ wipe ((wipe σ [j]).set j (some v)) [j] = wipe σ [j]) (hq : ∀ H', Kp a H H' → Wd H' a l ds → Q (.str (textL xs)) H') :
    (L2.tM1 (rJoin K) (tC (.str "")) (tLc (iList K (tVar v)) (gName j) tYes (tOp rAddStr (tVar j) (tC (.str "\n"))) [j])) σ H Q := by
  refine ⟨⟨_, rfl⟩, _, hv, q, rfl, ⟨_, SqL.of e⟩, fun D nD => text_lc e hl hx nD hj fun H2 sm e2 => ?_⟩
  refine ⟨Str.ofString "", D, xs.map fun x => x ++ nlS, rfl, rfl, .inl (SqL.of e2), text_bound hl hx, hq _ (fun b o n h => sm b o h) ?_⟩
  obtain ⟨n, n0, e3⟩ := W.at'
  exact ⟨⟨n, n0, sm _ _ e3⟩, sm _ _ W.dr, W.len⟩
def oddW : List Str := ["0", "1", "01", "-1", "33", "x", "", "row", "told", "op", "+", "<", "99999999999", "7"]
def spBent (K : PySem.W.Frag) : Sp := fun vs H Q _ => ∃ (a l p : Addr) (ds : List Int) (xs : List Str), vs = [.ref a, .ref p] ∧ Wd H a l ds ∧ H p = some (.lst (xs.map V.str)) ∧ xs ≠ [] ∧ xs.length ≤ 90 ∧ (∀ x ∈ xs, LnB 60 x) ∧
  ∀ H' y, Kp a H H' → Wd H' a l ds → TxB y → Q (.str y) H'
theorem ok_bent {f fN : Addr} {fd fdN : FuncData} (F : Fun K "_law_bent" "_law_bent" sLawBent f fd) (B : BT mg)
    (GN : FnOk P w K mg base CX0 1 fN fdN ["w", "many"] spNext) (kN : PySem.W.keepIn K (.ref fN) = true) (bN : Binds K fdN ["w", "many"] []) (gN : mg "_law_next" = some (.ref fN)) :
    FnOk P w K mg base CX0 2 f fd ["w", "lines"] (spBent K) := by
  refine F.ok scLawBent (fun vs H Q E h => ?_) (fun cdv A outer s H vs Q E hr h => ?_)
  · obtain ⟨a, l, p, ds, xs, rfl, _⟩ := h
    rfl
  · obtain ⟨a, l, p, ds, xs, rfl, W, ep, hne, hlen, hx, q⟩ := h
    have nd := scLawBent.nd
    have pa : p ≠ a := W.at'.elim fun n h => ne_of ep h.2 (by intro z; cases z)
    have hpos : 0 < xs.length := List.length_pos_iff.mpr hne
    refine ⟨_, (pss_cons (ps_set (i := 2) nd rfl (.inl rfl) (pe_call GN hr (by rfl) gN kN bN .nil pass0 (pa_cons (pv 0) (pa_cons (pe_callB call_len_seq (by rfl) B.len PySem.boot_len (pa_cons (pv 1) pa_nil)) pa_nil))))
      (pss_cons (ps_set (i := 3) nd rfl (.inl rfl) (pe_split (pe_ix ix_list (pv 1) (pv 2) (fun _ _ => rfl)) (pe_str)))
      (pss_cons (ps_set (i := 4) nd rfl (.inl rfl) (pe_call GN hr (by rfl) gN kN bN .nil pass0 (pa_cons (pv 0) (pa_cons (pe_callB call_len_seq (by rfl) B.len PySem.boot_len (pa_cons (pv 3) pa_nil)) pa_nil))))
      (pss_cons (ps_set (i := 5) nd rfl (.inl rfl) (pe_call GN hr (by rfl) gN kN bN .nil pass0 (pa_cons (pv 0) (pa_cons (pe_int) pa_nil))))
      (pss_cons (ps_if (pt_cmpR op_eq (pv 5) (pe_int) (nomark _)) (pss_one (ps_ret (pe_join (pe_str) (pv 1)))) pss_nil)
      (C8.pss_cut (ps_if (pt_cmpR op_eq (pv 5) (pe_int) (nomark _)) (pss_one (ps_set (i := 1) nd rfl (.inl rfl) (pe_op op_cat (pe_slice sl_list (pv 1) po_none (po_some (pv 2))) (pe_slice sl_list (pv 1) (po_some (pe_op op_add (pv 2) (pe_int))) po_none)))) (pss_one (ps_if (pt_cmpR op_eq (pv 5) (pe_int) (nomark _)) (pss_one (ps_set (i := 1) nd rfl (.inl rfl) (pe_op op_cat (pe_op op_cat (pe_slice sl_list (pv 1) po_none (po_some (pv 2))) (pe_lst (pa_cons (pe_ix ix_list (pv 1) (pv 2) (fun _ _ => rfl)) pa_nil))) (pe_slice sl_list (pv 1) (po_some (pv 2)) po_none)))) (pss_one (ps_if (pt_cmpR op_eq (pv 5) (pe_int) (nomark _)) (pss_cons (ps_set (i := 6) nd rfl (.inl rfl) (pe_call GN hr (by rfl) gN kN bN .nil pass0 (pa_cons (pv 0) (pa_cons (pe_callB call_len_seq (by rfl) B.len PySem.boot_len (pa_cons (pv 1) pa_nil)) pa_nil))))
      (pss_cons (ps_set (i := 7) nd rfl (.inl rfl) (pe_op op_cat (pe_slice sl_list (pv 1) po_none (po_some (pv 2))) (pe_slice sl_list (pv 1) (po_some (pe_op op_add (pv 2) (pe_int))) po_none)))
      (pss_one (ps_set (i := 1) nd rfl (.inl rfl) (pe_op op_cat (pe_op op_cat (pe_slice sl_list (pv 7) po_none (po_some (pv 6))) (pe_lst (pa_cons (pe_ix ix_list (pv 1) (pv 2) (fun _ _ => rfl)) pa_nil))) (pe_slice sl_list (pv 7) (po_some (pv 6)) po_none)))))) (pss_one (ps_if (pt_cmpR op_eq (pv 5) (pe_int) (nomark _)) (pss_one (ps_set (i := 1) nd rfl (.inl rfl) (pe_op op_cat (pe_op op_cat (pe_slice sl_list (pv 1) po_none (po_some (pv 2))) (pe_lst (pa_cons (pe_ix ix_list (pe_lst (pa_cons (pe_op op_add_str (pe_ix ix_list (pv 1) (pv 2) (fun _ _ => rfl)) (pe_str)) (pa_cons (pe_op op_add_str (pe_ix ix_list (pv 1) (pv 2) (fun _ _ => rfl)) (pe_str)) (pa_cons (pe_str) (pa_cons (pe_op op_add_str (pe_ix ix_list (pv 1) (pv 2) (fun _ _ => rfl)) (pe_str)) (pa_cons (pe_str) (pa_cons (pe_str) pa_nil))))))) (pe_call GN hr (by rfl) gN kN bN .nil pass0 (pa_cons (pv 0) (pa_cons (pe_int) pa_nil))) (fun _ _ => rfl)) pa_nil))) (pe_slice sl_list (pv 1) (po_some (pe_op op_add (pv 2) (pe_int))) po_none)))) (pss_cons (ps_asg (pe_ix ix_list (pe_lst (pa_cons (pe_str) (pa_cons (pe_str) (pa_cons (pe_str) (pa_cons (pe_str) (pa_cons (pe_str) (pa_cons (pe_str) (pa_cons (pe_str) (pa_cons (pe_str) (pa_cons (pe_str) (pa_cons (pe_str) (pa_cons (pe_str) (pa_cons (pe_str) (pa_cons (pe_str) (pa_cons (pe_str) pa_nil))))))))))))))) (pe_call GN hr (by rfl) gN kN bN .nil pass0 (pa_cons (pv 0) (pa_cons (pe_int) pa_nil))) (fun _ _ => rfl)) (pg_sub (pv 3) (pv 4) set_list))
      (pss_one (ps_set (i := 1) nd rfl (.inl rfl) (pe_op op_cat (pe_op op_cat (pe_slice sl_list (pv 1) po_none (po_some (pv 2))) (pe_lst (pa_cons (pe_join (pe_str) (pv 3)) pa_nil))) (pe_slice sl_list (pv 1) (po_some (pe_op op_add (pv 2) (pe_int))) po_none))))))))))))
      (pss_one (ps_ret (pe_join (pe_str) (pe_lc (own := [("line", 8)]) (g := gName 8) (tt := tYes) (te := tOp rAddStr (tVar 8) (tC (.str "\n")))  rfl nd (pi_list (pv 1)) (blkOk_by (own := [("line", 8)]) (N := NLB) (sc := defScope sLawBent) (by decide +kernel)) (fun _ _ _ _ _ => pg_name (i := 8) nd rfl (.inl rfl)) (fun _ _ _ _ _ => pts_nil) (fun _ _ _ _ _ => by exact (pe_op op_add_str (pv 8) (pe_str))))))))))))), ?_⟩
    -- at
    refine ⟨_, rfl, _, rfl, p, _, rfl, .inl (SqL.of ep), a, l, ds, _, rfl, by rw [List.length_map]; omega, W, fun at0 H1 hat k1 kp1 W1 => ?_⟩
    rw [List.length_map] at hat
    replace hat : at0 < xs.length := by omega
    have e1 := k1 _ _ pa ep
    obtain ⟨y, ey⟩ : ∃ y, xs[at0]? = some y := ⟨_, List.getElem?_eq_getElem hat⟩
    have hyb := hx y (List.mem_of_getElem? ey)
    have eyV : (xs.map V.str)[at0]? = some (.str y) := by rw [List.getElem?_map, ey]; rfl
    -- parts
    refine ⟨_, rfl, _, rfl, p, _, _, _, rfl, rfl, SqL.of e1, atI_nat (j := at0) eyV, ⟨y, rfl⟩, y, Str.ofString " ", rfl, rfl, rfl, (by show y.cps.size + 2 ≤ sizeLine; have := hyb.sz; rw [sizeLine_eq]; omega), fun pr npr => ?_⟩
    have k2 := k1.trans (Kp.new npr (o := .lst ((Txt.split y (Str.ofString " ")).map V.str)))
    have W2 := W1.new npr (o := .lst ((Txt.split y (Str.ofString " ")).map V.str))
    have e2 := (Kp.new npr (o := .lst ((Txt.split y (Str.ofString " ")).map V.str)) (a := a)) _ _ pa e1
    have er : (upd H1 pr (.lst ((Txt.split y (Str.ofString " ")).map V.str))) pr = some (.lst ((spS y).map V.str)) := upd_same
    have pra := W1.fresh npr
    generalize upd H1 pr (.lst ((Txt.split y (Str.ofString " ")).map V.str)) = H2 at k2 W2 e2 er
    have hsp : 0 < (spS y).length := List.length_pos_iff.mpr (spS_ne y)
    -- k
    refine ⟨_, rfl, _, rfl, pr, _, rfl, .inl (SqL.of er), a, l, ds, _, rfl, by rw [List.length_map]; omega, W2, fun k0 H3 hk k3 _ W3 => ?_⟩
    rw [List.length_map] at hk
    replace hk : k0 < (spS y).length := by omega
    have e3 := k3 _ _ pa e2
    replace er := k3 _ _ pra er
    replace k3 := k2.trans k3
    -- turn
    refine ⟨_, rfl, a, l, ds, _, rfl, by decide, W3, fun tn H4 htn k4 _ W4 => ?_⟩
    have e4 := k4 _ _ pa e3
    replace er := k4 _ _ pra er
    replace k4 := k3.trans k4
    refine ⟨_, rfl, rfl, _, rfl, ?_⟩
    by_cases t0 : tn = 0
    · refine iteT' (decide_eq_true (congrArg V.int (by omega))) ?_
      refine ⟨⟨_, rfl⟩, _, rfl, nlS, p, xs, rfl, rfl, .inl (SqL.of e4), ?_, q _ _ k4 W4 (txb_join hne hx (by decide) (by omega))⟩
      have h1 := len_sum (xs := xs) (b := 60) fun z hz => (hx z hz).sz
      have h0 : nlS.length = 1 := by decide +kernel
      rw [h0]
      omega
    · refine iteF' (decide_eq_false (fun z => t0 (by have := V.int.inj z; omega))) ?_
      refine ⟨fun σ H' => ∃ (p' : Addr) (ys : List Str) (y6 y7 : Option V), σ = [some (.ref a), some (.ref p'), some (iV at0), some (.ref pr), some (iV k0), some (iV tn), y6, y7, none] ∧ Kp a H H' ∧ Wd H' a l ds ∧ H' p' = some (.lst (ys.map V.str)) ∧ (∀ z ∈ ys, LnB 80 z) ∧ ys.length ≤ 400, ?_, ?_⟩
      · have hx80 : ∀ z ∈ xs, LnB 80 z := fun z hz => (hx z hz).up (by decide)
        refine ⟨_, rfl, rfl, _, rfl, ?_⟩
        by_cases t1 : tn = 1
        · refine iteT' (decide_eq_true (congrArg V.int (by omega))) ?_
          refine two_te (i := at0) (j := at0 + 1) rfl e4 W4 pa (fun H1 R h => ⟨_, rfl, h⟩) (fun H1 R h => ⟨_, rfl, _, _, rfl, rfl, h⟩) hx80 (by omega) fun H' p' ys k' W' e' _ hy' hl' => ?_
          exact ⟨p', ys, _, _, rfl, k4.trans k', W', e', hy', by omega⟩
        refine iteF' (decide_eq_false (fun z => t1 (by have := V.int.inj z; omega))) ?_
        refine ⟨_, rfl, rfl, _, rfl, ?_⟩
        by_cases t2 : tn = 2
        · refine iteT' (decide_eq_true (congrArg V.int (by omega))) ?_
          refine ins_te (i := at0) (j := at0) rfl e4 W4 pa (fun H1 R h => ⟨_, rfl, h⟩) (fun H1 R h => ⟨_, rfl, h⟩) hx80 (by omega) (fun H5 R k5 W5 c => ?_) fun H' p' ys k' W' e' _ hy' hl' => ?_
          · exact ⟨_, rfl, _, rfl, p, _, _, _, rfl, rfl, SqL.of (k5 _ _ pa e4), atI_nat (j := at0) eyV, c y _ (Kp.refl _) W5 (hyb.up (by decide))⟩
          · exact ⟨p', ys, _, _, rfl, k4.trans k', W', e', hy', by omega⟩
        refine iteF' (decide_eq_false (fun z => t2 (by have := V.int.inj z; omega))) ?_
        refine ⟨_, rfl, rfl, _, rfl, ?_⟩
        by_cases t3 : tn = 3
        · refine iteT' (decide_eq_true (congrArg V.int (by omega))) ?_
          refine ⟨_, rfl, _, rfl, p, _, rfl, .inl (SqL.of e4), a, l, ds, _, rfl, by rw [List.length_map]; omega, W4, fun gl H5 hgl k5 _ W5 => ?_⟩
          have e5 := k5 _ _ pa e4
          refine two_te (i := at0) (j := at0 + 1) rfl e5 W5 pa (fun H1 R h => ⟨_, rfl, h⟩) (fun H1 R h => ⟨_, rfl, _, _, rfl, rfl, h⟩) hx80 (by omega) fun H6 p6 ys6 k6 W6 e6 a6 hy6 hl6 => ?_
          have ep6 := k6 _ _ pa e5
          refine ins_te (i := gl) (j := gl) rfl e6 W6 a6 (fun H1 R h => ⟨_, rfl, h⟩) (fun H1 R h => ⟨_, rfl, h⟩) hy6 (by omega) (fun H7 R k7 W7 c => ?_) fun H' p' ys k' W' e' _ hy' hl' => ?_
          · exact ⟨_, rfl, _, rfl, p, _, _, _, rfl, rfl, SqL.of (k7 _ _ pa ep6), atI_nat (j := at0) eyV, c y _ (Kp.refl _) W7 (hyb.up (by decide))⟩
          · exact ⟨p', ys, _, _, rfl, k4.trans (k5.trans (k6.trans k')), W', e', hy', by omega⟩
        refine iteF' (decide_eq_false (fun z => t3 (by have := V.int.inj z; omega))) ?_
        refine ⟨_, rfl, rfl, _, rfl, ?_⟩
        by_cases t4 : tn = 4
        · refine iteT' (decide_eq_true (congrArg V.int (by omega))) ?_
          refine ins_te (i := at0) (j := at0 + 1) rfl e4 W4 pa (fun H1 R h => ⟨_, rfl, h⟩) (fun H1 R h => ⟨_, rfl, _, _, rfl, rfl, h⟩) hx80 (by omega) (fun H5 R k5 W5 c => ?_) fun H' p' ys k' W' e' _ hy' hl' => ?_
          · have e5 := k5 _ _ pa e4
            have yl := hyb.sz
            have li : ∀ z : Str, z.length ≤ 10 → y.length + z.length ≤ sizeLine := fun z hz => by
              have : y.length ≤ 60 := yl
              rw [sizeLine_eq]
              omega
            have word : ∀ z ∈ ([" 0", " ", "", " x", "told", "next"] : List Str), LnB 10 z := by
              have : ∀ z ∈ ([" 0", " ", "", " x", "told", "next"] : List Str), z.cps.size ≤ 10 ∧ (∀ c ∈ z.cps.toList, c < 128 ∧ c ≠ 10) := by decide +kernel
              exact fun z hz => ⟨(this z hz).1, fun c hc => ((this z hz).2 c hc).1, fun hc => ((this z hz).2 10 hc).2 rfl⟩
            refine ⟨_, rfl, _, rfl, p, _, _, _, rfl, rfl, SqL.of e5, atI_nat (j := at0) eyV, y, _, rfl, rfl, li _ (by decide +kernel), ?_⟩
            refine ⟨_, rfl, _, rfl, p, _, _, _, rfl, rfl, SqL.of e5, atI_nat (j := at0) eyV, y, _, rfl, rfl, li _ (by decide +kernel), ?_⟩
            refine ⟨_, rfl, _, rfl, p, _, _, _, rfl, rfl, SqL.of e5, atI_nat (j := at0) eyV, y, _, rfl, rfl, li _ (by decide +kernel), ?_⟩
            refine ⟨line200 (show 6 ≤ 1000 by decide), fun ol nol => ?_⟩
            have k6 := Kp.new (a := a) (o := .lst (([y ++ " 0", y ++ " ", "", y ++ " x", "told", "next"] : List Str).map V.str)) nol
            have W6 := W5.new (o := .lst (([y ++ " 0", y ++ " ", "", y ++ " x", "told", "next"] : List Str).map V.str)) nol
            have f6 : (upd H5 ol (.lst (([y ++ " 0", y ++ " ", "", y ++ " x", "told", "next"] : List Str).map V.str))) ol = some (.lst (([y ++ " 0", y ++ " ", "", y ++ " x", "told", "next"] : List Str).map V.str)) := upd_same
            have oa := W5.fresh nol
            refine ⟨_, rfl, a, l, ds, _, rfl, by decide, W6, fun r H7 hr7 k7 _ W7 => ?_⟩
            obtain ⟨z, ez⟩ : ∃ z, ([y ++ " 0", y ++ " ", "", y ++ " x", "told", "next"] : List Str)[r]? = some z := ⟨_, List.getElem?_eq_getElem (by show r < 6; omega)⟩
            refine ⟨ol, _, _, _, rfl, rfl, SqL.of (k7 _ _ oa f6), atI_nat (j := r) (show (List.map V.str _)[r]? = some (.str z) by rw [List.getElem?_map, ez]; rfl), c z _ (k6.trans k7) W7 ?_⟩
            have hz := List.mem_of_getElem? ez
            simp only [List.mem_cons, List.mem_nil_iff, or_false] at hz
            rcases hz with rfl | rfl | rfl | rfl | rfl | rfl
            · exact (ln_app hyb (word " 0" (by decide +kernel))).up (by decide)
            · exact (ln_app hyb (word " " (by decide +kernel))).up (by decide)
            · exact (word "" (by decide +kernel)).up (by decide)
            · exact (ln_app hyb (word " x" (by decide +kernel))).up (by decide)
            · exact (word "told" (by decide +kernel)).up (by decide)
            · exact (word "next" (by decide +kernel)).up (by decide)
          · exact ⟨p', ys, _, _, rfl, k4.trans k', W', e', hy', by omega⟩
        refine iteF' (decide_eq_false (fun z => t4 (by have := V.int.inj z; omega))) ?_
        refine ⟨line200 (show 14 ≤ 1000 by decide), fun ol nol => ?_⟩
        have k5 := Kp.new (a := a) (o := .lst (oddW.map V.str)) nol
        have W5 := W4.new (o := .lst (oddW.map V.str)) nol
        have f5 : (upd H4 ol (.lst (oddW.map V.str))) ol = some (.lst (oddW.map V.str)) := upd_same
        have oa := W4.fresh nol
        refine ⟨_, rfl, a, l, ds, _, rfl, by decide, W5, fun r H6 hr6 k6 _ W6 => ?_⟩
        have wordO : ∀ z ∈ oddW, LnB 11 z := by
          have : ∀ z ∈ oddW, z.cps.size ≤ 11 ∧ (∀ c ∈ z.cps.toList, c < 128 ∧ c ≠ 10) := by decide +kernel
          exact fun z hz => ⟨(this z hz).1, fun c hc => ((this z hz).2 c hc).1, fun hc => ((this z hz).2 10 hc).2 rfl⟩
        obtain ⟨z, ez⟩ : ∃ z, oddW[r]? = some z := ⟨_, List.getElem?_eq_getElem (by show r < 14; omega)⟩
        have hz := wordO z (List.mem_of_getElem? ez)
        have er6 := k6 _ _ pra (k5 _ _ pra er)
        have e6 := k6 _ _ pa (k5 _ _ pa e4)
        have prp : p ≠ pr := fun z => by
          rw [z] at e1
          rw [e1] at npr
          cases npr
        refine ⟨ol, _, _, _, rfl, rfl, SqL.of (k6 _ _ oa f5), atI_nat (j := r) (show (oddW.map V.str)[r]? = some (.str z) by rw [List.getElem?_map, ez]; rfl), _, rfl, _, rfl, pr, _, _, k0, rfl, rfl, er6, ?_, ?_⟩
        · unfold ixN
          rw [if_pos (by omega), if_pos (by rw [List.length_map]; omega)]
          rfl
        have k7 : Kp a H (upd H6 pr (.lst (((spS y).map V.str).set k0 (.str z)))) := fun b o n h => by
          have h1 := k1 b o n h
          rw [upd_ne (ne_of_none h1 npr)]
          exact (k4.trans (k5.trans k6)) b o n h
        have W7 : Wd (upd H6 pr (.lst (((spS y).map V.str).set k0 (.str z)))) a l ds := W6.put pra (ne_of_none W1.dr npr).symm
        have e7 : (upd H6 pr (.lst (((spS y).map V.str).set k0 (.str z)))) p = some (.lst (xs.map V.str)) := by
          rw [upd_ne prp]
          exact e6
        have f7 : (upd H6 pr (.lst (((spS y).map V.str).set k0 (.str z)))) pr = some (.lst (((spS y).set k0 z).map V.str)) := by
          rw [upd_same, List.map_set]
        generalize upd H6 pr (.lst (((spS y).map V.str).set k0 (.str z))) = H7 at k7 W7 e7 f7
        refine ins_te (i := at0) (j := at0 + 1) rfl e7 W7 pa (fun H1 R h => ⟨_, rfl, h⟩) (fun H1 R h => ⟨_, rfl, _, _, rfl, rfl, h⟩) hx80 (by omega) (fun H8 R k8 W8 c => ?_) fun H' p' ys k' W' e' _ hy' hl' => ?_
        · refine ⟨⟨_, rfl⟩, _, rfl, spB, pr, (spS y).set k0 z, rfl, rfl, .inl (SqL.of (k8 _ _ pra f7)), ?_, c _ _ (Kp.refl _) W8 ((join_set hyb hz).up (by decide))⟩
          have h1 := len_sum (xs := (spS y).set k0 z) (b := 60) fun t ht => by
            rcases List.mem_or_eq_of_mem_set ht with v | v
            · exact Nat.le_trans (part_size v) hyb.sz
            · rw [v]
              exact Nat.le_trans hz.sz (by decide)
          have h2 := spS_len y
          have h3 := hyb.sz
          have h0 : spB.length = 1 := rfl
          rw [List.length_set] at h1 ⊢
          rw [h0]
          have : (spS y).length * 60 ≤ 61 * 60 := Nat.mul_le_mul_right _ (by omega)
          omega
        · exact ⟨p', ys, _, _, rfl, k7.trans k', W', e', hy', by omega⟩
      rintro σ H' ⟨p', ys, y6, y7, rfl, k', W', e', hy', hl'⟩
      refine text_te (v := 1) (j := 8) (a := a) rfl e' (by omega) (fun z hz => Nat.le_trans (hy' z hz).sz (by decide)) W' (fun v => ⟨rfl, rfl⟩) fun H9 k9 W9 => ?_
      exact q H9 _ (k'.trans k9) W9 (txb_text hy' (by decide) hl')
end
end C1

/-! What is printed is read back. -/
namespace C1
open PySem PySem.Spec PyProof.Rows L2 SX
open K0 (Cs digs isNum)
theorem readP_app : ∀ (xs ys : List Str) (k : Nat) (s : LSt), readP k s (xs ++ ys) = match readP k s xs with
    | .inl n => .inl n
    | .inr s' => readP (k + xs.length) s' ys
  | [], ys, k, s => rfl
  | x :: xs, ys, k, s => by
    show (match stepP s x with | none => Sum.inl (k + 1) | some s' => readP (k + 1) s' (xs ++ ys)) = match (match stepP s x with | none => Sum.inl (k + 1) | some s' => readP (k + 1) s' xs) with
      | .inl n => .inl n
      | .inr s' => readP (k + (xs.length + 1)) s' ys
    cases stepP s x with
    | none => rfl
    | some s' =>
      show readP (k + 1) s' (xs ++ ys) = match readP (k + 1) s' xs with
        | .inl n => .inl n
        | .inr s' => readP (k + (xs.length + 1)) s' ys
      rw [readP_app xs ys (k + 1) s', show k + 1 + xs.length = k + (xs.length + 1) by omega]
theorem num_back {n : Nat} (h : n < 1000000000) : numB (pS (iD n)) = true ∧ numV (pS (iD n)) = n := by
  have e : cs (pS (iD n)) = TL.numL n := TL.tl_num n
  unfold numB numV
  rw [e]
  refine ⟨?_, TL.numL_val n⟩
  rw [K0.num_isNum, Bool.and_true]
  exact decide_eq_true (TL.numL_len (by decide) (by omega))
theorem nums_back : ∀ {ns : List Nat}, (∀ n ∈ ns, n < 1000000000) → numsS ((ns.map iD).map pS) = some ns := fun {ns} h => by
  have key : ∀ ns : List Nat, (∀ n ∈ ns, n < 1000000000) → ((ns.map iD).map pS).all numB = true ∧ ((ns.map iD).map pS).map numV = ns := fun ns => by
    induction ns with
    | nil => exact fun _ => ⟨rfl, rfl⟩
    | cons n ns ih =>
      intro h
      obtain ⟨a, b⟩ := ih fun x hx => h x (List.mem_cons_of_mem _ hx)
      obtain ⟨c, d⟩ := num_back (h n (List.mem_cons_self ..))
      refine ⟨?_, ?_⟩
      · show (numB (pS (iD n)) && _) = true
        rw [c, a]
        rfl
      · show numV (pS (iD n)) :: _ = _
        rw [d, b]
  obtain ⟨a, b⟩ := key ns h
  unfold numsS
  rw [if_pos a, b]
theorem numsM_back {ns : List Nat} (h : ∀ n ∈ ns, n < 1000000000) {m : Option Nat} (hm : ∀ k, m = some k → ns.length = k) : numsM m ((ns.map iD).map pS) = some ns := by
  cases m with
  | none => exact nums_back h
  | some k =>
    show (if ((ns.map iD).map pS).length = k then numsS ((ns.map iD).map pS) else none) = some ns
    rw [if_pos (by rw [List.length_map, List.length_map]; exact hm k rfl)]
    exact nums_back h
theorem row_back {r : Row} (h : ∀ d ∈ unT r.d, PartOk d) (hs : ∀ s a b, r = .op s a b → s ∈ signW) : rowS ((unT r.d).map pS) = some r.d := by
  have nat : ∀ {n : Nat}, PartOk (iD n) → n < 1000000000 := fun {n} k => by
    have := k.2
    omega
  have key : ∀ (k : Str) (ns : List Nat) (m : Nat), lensOf k = some m → k ≠ "op" → ns.length = m - 1 → (∀ d ∈ ns.map iD, PartOk d) → rowS (k :: (ns.map iD).map pS) = some (.tuple (.str k :: ns.map iD)) := fun k ns m e1 e2 e3 e4 => by
    have z : rowS (k :: (ns.map iD).map pS) = (numsM (some (m - 1)) ((ns.map iD).map pS)).map fun (ns : List Nat) => PyData.tuple (.str k :: ns.map iD) := by
      unfold rowS
      simp only [e1]
      exact if_neg e2
    rw [z, numsM_back (fun n hn => nat (e4 _ (List.mem_map.mpr ⟨n, hn, rfl⟩))) (fun k2 z => by cases z; exact e3)]
    rfl
  have tl : ∀ {k : Str} {ds : List PyData}, (∀ d ∈ PyData.str k :: ds, PartOk d) → ∀ d ∈ ds, PartOk d := fun h d hd => h d (List.mem_cons_of_mem _ hd)
  cases r with
  | lit v w => exact key "lit" [v, w] 3 rfl (by decide +kernel) rfl (tl h)
  | reg i => exact key "reg" [i] 2 rfl (by decide +kernel) rfl (tl h)
  | look m a => exact key "look" [m, a] 3 rfl (by decide +kernel) rfl (tl h)
  | inv a => exact key "not" [a] 2 rfl (by decide +kernel) rfl (tl h)
  | wide a w => exact key "wide" [a, w] 3 rfl (by decide +kernel) rfl (tl h)
  | part a lo hi => exact key "part" [a, lo, hi] 4 rfl (by decide +kernel) rfl (tl h)
  | join a b => exact key "join" [a, b] 3 rfl (by decide +kernel) rfl (tl h)
  | pick t a b => exact key "pick" [t, a, b] 4 rfl (by decide +kernel) rfl (tl h)
  | op s a b =>
    have hg := hs s a b rfl
    have h2 := tl (tl h)
    have e : numsM (some 2) (([a, b].map iD).map pS) = some [a, b] := numsM_back (fun n hn => nat (h2 _ (List.mem_map.mpr ⟨n, hn, rfl⟩))) (fun k2 z => by cases z; rfl)
    show rowS ("op" :: s :: ([a, b].map iD).map pS) = _
    have e4 : lensOf "op" = some 4 := rfl
    unfold rowS
    simp only [e4, if_true]
    rw [if_pos ⟨rfl, hg⟩, e]
    rfl
theorem one_step {wd : Str} {i : Nat} (hi : lineW.idxOf wd = i) {ds : List PyData} (ok : LpOk (.str wd :: ds)) (et : toldS i (ds.map pS) = some (.tuple ds)) {s : LSt} (hc : canF s.place wd = true) : stepP s (lineT (.str wd :: ds)) = some (s.put i (.tuple ds)) := by
  unfold stepP
  rw [ok.spl]
  show (if canF s.place wd = true then (toldS (lineW.idxOf wd) (ds.map pS)).map fun d => s.put (lineW.idxOf wd) d else none) = _
  rw [if_pos hc, hi, et]
  rfl
theorem one_back {wd : Str} {i : Nat} (hi : lineW.idxOf wd = i) {ds : List PyData} (ok : LpOk (.str wd :: ds)) (et : toldS i (ds.map pS) = some (.tuple ds)) {s : LSt} (hc : canF s.place wd = true) (k : Nat) : readP k s [lineT (.str wd :: ds)] = .inr (s.put i (.tuple ds)) := by
  show (match stepP s (lineT (.str wd :: ds)) with | none => Sum.inl (k + 1) | some s' => readP (k + 1) s' []) = _
  rw [one_step hi ok et hc]
  rfl
/-- lines with one word, read one behind the other -/
theorem seg_back {wd : Str} {i : Nat} (P : Nat → Prop) (hi : lineW.idxOf wd = i) (hc : ∀ p, P p → canF p wd = true) (hP : P i) :
    ∀ (dss : List (List PyData)) (s : LSt), P s.place → (∀ ds ∈ dss, LpOk (.str wd :: ds) ∧ toldS i (ds.map pS) = some (.tuple ds)) →
      ∃ s', (∀ k, readP k s (dss.map fun ds => lineT (.str wd :: ds)) = .inr s') ∧ (s'.place = i ∨ s'.place = s.place) ∧ s'.F i = s.F i ++ dss.map .tuple ∧ ∀ j, j ≠ i → s'.F j = s.F j
  | [], s, hs, _ => ⟨s, fun _ => rfl, .inr rfl, by rw [List.map_nil, List.append_nil], fun _ _ => rfl⟩
  | ds :: dss, s, hs, h => by
    obtain ⟨ok, et⟩ := h ds (List.mem_cons_self ..)
    have e1 := one_step hi ok et (hc _ hs)
    obtain ⟨s', a, b, c, d⟩ := seg_back P hi hc hP dss (s.put i (.tuple ds)) hP fun x hx => h x (List.mem_cons_of_mem _ hx)
    refine ⟨s', fun k => ?_, .inl (b.elim id id), ?_, fun j hj => ?_⟩
    · show (match stepP s (lineT (.str wd :: ds)) with | none => Sum.inl (k + 1) | some s' => readP (k + 1) s' (dss.map fun ds => lineT (.str wd :: ds))) = _
      rw [e1]
      exact a (k + 1)
    · rw [c]
      show (if i = i then s.F i ++ [PyData.tuple ds] else s.F i) ++ dss.map .tuple = s.F i ++ (.tuple ds :: dss.map .tuple)
      rw [if_pos rfl, List.append_assoc]
      rfl
    · rw [d j hj]
      exact if_neg hj
theorem rows_signs {regs mems : List (Nat × Nat)} {rows : List Row} {ws : List Nat} (h : RowsOk regs mems rows ws) : ∀ r ∈ rows, ∀ s a b, r = .op s a b → s ∈ signW := by
  have sg : ∀ s ∈ arithL ++ (testL ++ shiftL), s ∈ signW := by decide +kernel
  induction h with
  | nil => intro r h; cases h
  | @snoc rows ws row wd hR hrow h1 h2 ih =>
    intro r hr s a b e
    rcases List.mem_append.mp hr with z | z
    · exact ih r z s a b e
    · rw [List.mem_singleton.mp z] at e
      subst e
      cases hrow with
      | shift hs _ _ => exact sg _ (List.mem_append_right _ (List.mem_append_right _ hs))
      | arith hs _ _ => exact sg _ (List.mem_append_left _ hs)
      | test hs _ _ => exact sg _ (List.mem_append_right _ (List.mem_append_left _ hs))
theorem lines_back {c : Ckt} {ws : List Nat} (h : CktOk c ws) : ∃ s, readP 0 st0 (cLines c) = .inr s ∧ circD s = c.d ∧ (s.F 5).isEmpty = false := by
  have PK := parts_ok h
  have can : ∀ (wd : Str) (i : Nat), wd ∈ lineW → lineW.idxOf wd = i → ∀ p, (if 3 < i then 3 ≤ p ∧ p < 5 else p ≤ i ∧ p ≠ 3) → canF p wd = true := fun wd i hw hi p hp => by
    unfold canF
    rw [decide_eq_true hw, hi, Bool.true_and]
    split
    · rename_i h3
      rw [if_pos h3] at hp
      rw [decide_eq_true hp.1, decide_eq_true hp.2]
      rfl
    · rename_i h3
      rw [if_neg h3] at hp
      rw [decide_eq_true hp.1, decide_eq_true hp.2]
      rfl
  have nat : ∀ {n : Nat}, PartOk (iD n) → n < 1000000000 := fun {n} k => by
    have := k.2
    omega
  have tup : ∀ (i : Nat) (ns : List Nat), i ≠ 2 → (∀ d ∈ ns.map iD, PartOk d) → (∀ k, manyS i = some k → ns.length = k) → toldS i ((ns.map iD).map pS) = some (.tuple (ns.map iD)) := fun i ns h2 hp hm => by
    unfold toldS
    rw [if_neg h2, numsM_back (fun n hn => nat (hp _ (List.mem_map.mpr ⟨n, hn, rfl⟩))) hm]
    rfl
  have tl : ∀ {k : Str} {ds : List PyData}, LpOk (PyData.str k :: ds) → ∀ d ∈ ds, PartOk d := fun h d hd => h.ok d (List.mem_cons_of_mem _ hd)
  have m0 : ∀ x ∈ c.regs, (.str "register" :: unT (pr x)) ∈ cParts c := fun x hx => List.mem_append_left _ (List.mem_map.mpr ⟨x, hx, rfl⟩)
  have m1 : ∀ x ∈ c.mems, (.str "memory" :: unT (pr x)) ∈ cParts c := fun x hx => List.mem_append_right _ (List.mem_append_left _ (List.mem_map.mpr ⟨x, hx, rfl⟩))
  have m2 : ∀ x ∈ c.rows, (.str "row" :: unT x.d) ∈ cParts c := fun x hx => List.mem_append_right _ (List.mem_append_right _ (List.mem_append_left _ (List.mem_map.mpr ⟨x, hx, rfl⟩)))
  have m3 : (PyData.str "next" :: c.nexts.map iD) ∈ cParts c := List.mem_append_right _ (List.mem_append_right _ (List.mem_append_right _ (List.mem_append_left _ (List.mem_singleton.mpr rfl))))
  have m4 : ∀ x ∈ c.stores, (.str "store" :: unT (stD x)) ∈ cParts c := fun x hx => List.mem_append_right _ (List.mem_append_right _ (List.mem_append_right _ (List.mem_append_right _ (List.mem_append_left _ (List.mem_map.mpr ⟨x, hx, rfl⟩)))))
  have m5 : (PyData.str "told" :: c.outs.map iD) ∈ cParts c := List.mem_append_right _ (List.mem_append_right _ (List.mem_append_right _ (List.mem_append_right _ (List.mem_append_right _ (List.mem_singleton.mpr rfl)))))
  -- registers
  obtain ⟨s0, e0, p0, f00, f0⟩ := seg_back (wd := "register") (i := 0) (fun p => p = 0) (by decide +kernel) (fun p hp => can _ 0 (by decide +kernel) (by decide +kernel) p (by rw [if_neg (by decide)]; omega)) rfl (c.regs.map fun x => unT (pr x)) st0 rfl (fun ds hd => by
    obtain ⟨x, hx, rfl⟩ := List.mem_map.mp hd
    have ok := PK _ (m0 x hx)
    exact ⟨ok, tup 0 [x.1, x.2] (by decide) (tl ok) (fun k z => by cases z; rfl)⟩)
  have q0 : s0.place = 0 := p0.elim id id
  -- memories
  obtain ⟨s1, e1, p1, f11, f1⟩ := seg_back (wd := "memory") (i := 1) (fun p => p ≤ 1) (by decide +kernel) (fun p hp => can _ 1 (by decide +kernel) (by decide +kernel) p (by rw [if_neg (by decide)]; omega)) (Nat.le_refl 1) (c.mems.map fun x => unT (pr x)) s0 (by show s0.place ≤ 1; omega) (fun ds hd => by
    obtain ⟨x, hx, rfl⟩ := List.mem_map.mp hd
    have ok := PK _ (m1 x hx)
    exact ⟨ok, tup 1 [x.1, x.2] (by decide) (tl ok) (fun k z => by cases z; rfl)⟩)
  have q1 : s1.place ≤ 1 := by rcases p1 with z | z <;> omega
  -- rows
  obtain ⟨s2, e2, p2, f22, f2⟩ := seg_back (wd := "row") (i := 2) (fun p => p ≤ 2) (by decide +kernel) (fun p hp => can _ 2 (by decide +kernel) (by decide +kernel) p (by rw [if_neg (by decide)]; omega)) (Nat.le_refl 2) (c.rows.map fun x => unT x.d) s1 (by show s1.place ≤ 2; omega) (fun ds hd => by
    obtain ⟨x, hx, rfl⟩ := List.mem_map.mp hd
    have ok := PK _ (m2 x hx)
    refine ⟨ok, ?_⟩
    show rowS _ = _
    rw [row_back (tl ok) (rows_signs h.rw x hx)]
    cases x <;> rfl)
  have q2 : s2.place ≤ 2 := by rcases p2 with z | z <;> omega
  -- nexts
  have ok3 := PK _ m3
  have e3 := one_back (wd := "next") (i := 3) (by decide +kernel) ok3 (tup 3 c.nexts (by decide) (tl ok3) (fun k z => by cases z)) (s := s2) (can _ 3 (by decide +kernel) (by decide +kernel) _ (by rw [if_neg (by decide)]; omega))
  generalize hs3 : s2.put 3 (.tuple (c.nexts.map iD)) = s3 at e3
  have q3 : s3.place = 3 := by rw [← hs3]; rfl
  -- stores
  obtain ⟨s4, e4, p4, f44, f4⟩ := seg_back (wd := "store") (i := 4) (fun p => 3 ≤ p ∧ p < 5) (by decide +kernel) (fun p hp => can _ 4 (by decide +kernel) (by decide +kernel) p (by rw [if_pos (by decide)]; exact hp)) (by decide) (c.stores.map fun x => unT (stD x)) s3 (by show 3 ≤ s3.place ∧ s3.place < 5; omega) (fun ds hd => by
    obtain ⟨x, hx, rfl⟩ := List.mem_map.mp hd
    have ok := PK _ (m4 x hx)
    exact ⟨ok, tup 4 [x.1, x.2.1, x.2.2.1, x.2.2.2] (by decide) (tl ok) (fun k z => by cases z; rfl)⟩)
  have q4 : 3 ≤ s4.place ∧ s4.place < 5 := by rcases p4 with z | z <;> omega
  -- what is told
  have ok5 := PK _ m5
  have e5 := one_back (wd := "told") (i := 5) (by decide +kernel) ok5 (tup 5 c.outs (by decide) (tl ok5) (fun k z => by cases z)) (s := s4) (can _ 5 (by decide +kernel) (by decide +kernel) _ (by rw [if_pos (by decide)]; exact q4))
  have r0 : (c.regs.map fun x => unT (pr x)).map PyData.tuple = c.regs.map pr := by
    rw [List.map_map]
    rfl
  have r1 : (c.mems.map fun x => unT (pr x)).map PyData.tuple = c.mems.map pr := by
    rw [List.map_map]
    rfl
  have r2 : (c.rows.map fun x => unT x.d).map PyData.tuple = c.rows.map Row.d := by
    rw [List.map_map]
    exact List.map_congr_left fun r _ => by cases r <;> rfl
  have r4 : (c.stores.map fun x => unT (stD x)).map PyData.tuple = c.stores.map stD := by
    rw [List.map_map]
    rfl
  have g3 : ∀ j, j ≠ 3 → s3.F j = s2.F j := fun j hj => by
    rw [← hs3]
    exact if_neg hj
  have g33 : s3.F 3 = s2.F 3 ++ [.tuple (c.nexts.map iD)] := by
    rw [← hs3]
    show (if 3 = 3 then s2.F 3 ++ [PyData.tuple (c.nexts.map iD)] else s2.F 3) = _
    rw [if_pos rfl]
  have k5 : ∀ j, j ≠ 5 → (s4.put 5 (.tuple (c.outs.map iD))).F j = s4.F j := fun j hj => if_neg hj
  have k55 : (s4.put 5 (.tuple (c.outs.map iD))).F 5 = s4.F 5 ++ [.tuple (c.outs.map iD)] := by
    show (if 5 = 5 then s4.F 5 ++ [PyData.tuple (c.outs.map iD)] else s4.F 5) = _
    rw [if_pos rfl]
  refine ⟨s4.put 5 (.tuple (c.outs.map iD)), ?_, ?_, ?_⟩
  · have eC : cLines c = (c.regs.map fun x => unT (pr x)).map (fun ds => lineT (.str "register" :: ds)) ++ ((c.mems.map fun x => unT (pr x)).map (fun ds => lineT (.str "memory" :: ds)) ++ ((c.rows.map fun x => unT x.d).map (fun ds => lineT (.str "row" :: ds)) ++ ([lineT (.str "next" :: c.nexts.map iD)] ++ ((c.stores.map fun x => unT (stD x)).map (fun ds => lineT (.str "store" :: ds)) ++ [lineT (.str "told" :: c.outs.map iD)])))) := by
      unfold cLines cParts
      simp only [List.map_append, List.map_map]
      rfl
    rw [eC]
    simp only [readP_app, e0, e1, e2, e3, e4, e5]
  · unfold circD
    rw [k5 0 (by decide), k5 1 (by decide), k5 2 (by decide), k5 3 (by decide), k5 4 (by decide), k55]
    rw [f4 0 (by decide), g3 0 (by decide), f2 0 (by decide), f1 0 (by decide), f00, f4 1 (by decide), g3 1 (by decide), f2 1 (by decide), f11, f0 1 (by decide), f4 2 (by decide), g3 2 (by decide), f22, f1 2 (by decide), f0 2 (by decide),
      f4 3 (by decide), g33, f2 3 (by decide), f1 3 (by decide), f0 3 (by decide), f44, g3 4 (by decide), f2 4 (by decide), f1 4 (by decide), f0 4 (by decide), f4 5 (by decide), g3 5 (by decide), f2 5 (by decide), f1 5 (by decide), f0 5 (by decide), r0, r1, r2, r4]
    rfl
  · rw [k55]
    cases s4.F 5 <;> rfl
theorem text_back {c : Ckt} {ws : List Nat} (h : CktOk c ws) : parseS (ctext c) = .inr c.d ∧ TxB (ctext c) := by
  have PK := parts_ok h
  have hl : ∀ y ∈ cLines c, LnB 60 y := fun y hy => by
    obtain ⟨ds, hd, rfl⟩ := List.mem_map.mp hy
    exact (PK ds hd).line
  have hlen : (cLines c).length ≤ 80 := by
    unfold cLines
    rw [List.length_map]
    exact parts_len h
  have h2 : 2 ≤ (cLines c).length := by
    unfold cLines cParts
    simp only [List.length_append, List.length_map, List.length_cons, List.length_nil]
    omega
  have es : splitL (ctext c) = cLines c ++ [Str.ofString ""] := split_text fun x hx => (hl x hx).nl
  have eW : wholeB (ctext c) = true := by
    unfold wholeB
    rw [es, List.getLast?_concat, List.length_append, decide_eq_true rfl, decide_eq_false (by show ¬ (_ + 1 = 1); omega)]
    rfl
  have eL : linesOf (ctext c) = cLines c := by
    unfold linesOf
    rw [es, List.dropLast_concat]
  obtain ⟨s, e1, e2, e3⟩ := lines_back h
  refine ⟨?_, txb_text hl (by decide) (by omega)⟩
  unfold parseS
  rw [if_pos eW, eL, e1]
  show (if (s.F 5).isEmpty = true then _ else if circB (circD s) = true then Sum.inr (circD s) else _) = _
  rw [if_neg (by rw [e3]; decide), e2, if_pos (ckt_circ h)]
end C1

/-! The law. -/
namespace C1
open PySem PySem.Spec PyProof.Rows L2 SX
open K0 (Cs digs isNum)
open GxR (TabG Tabbed TabB GenS)
abbrev sLaw : Stmt := topS 61
theorem scLaw : FnScope ["script", "w", "circuit", "lines", "text", "turn", "other", "due", "line"] ["script"] (defScope sLaw) := ⟨rfl, rfl, rfl, by decide +kernel, rfl, by decide +kernel, by decide +kernel⟩
abbrev NLW : List Str := ["script", "w", "circuit", "lines", "text", "turn", "other", "due", "line"]
theorem wd_merge2 (l : Addr) : mergeK [] [(Sum.inr ("draws" : Str), V.ref l), (Sum.inr ("at" : Str), V.int 0)] = wdL l 0 := by
  have h1 : ¬ (Sum.inr ("draws" : Str) : Key) = Sum.inr ("at" : Str) := by decide
  unfold mergeK wdL
  simp [putK, h1]
section
variable {K : PySem.W.Frag} {a l T : Addr} {ds : List Int} {H H' : Hp}
theorem Wd.sm (W : Wd H a l ds) (s : Same H H') : Wd H' a l ds := by
  obtain ⟨n, n0, e⟩ := W.at'
  exact ⟨⟨n, n0, s _ _ e⟩, s _ _ W.dr, W.len⟩
theorem Wd.gr (W : Wd H a l ds) (tb : TabG H T) (g : Gr T H H') : Wd H' a l ds := by
  obtain ⟨n, n0, e⟩ := W.at'
  exact ⟨⟨n, n0, g.at tb e (fun ps z => by cases z)⟩, g.at tb W.dr (fun ps z => by cases z), W.len⟩
theorem tab_kp (W : Wd H a l ds) (tb : TabG H T) (k : Kp a H H') : TabG H' T := by
  obtain ⟨n, n0, e⟩ := W.at'
  have nT : a ≠ T := tab_is tb e (fun ps z => by cases z)
  obtain ⟨ps, e2, r⟩ := tb
  exact ⟨ps, k _ _ nT.symm e2, r⟩
theorem tab_sm (tb : TabG H T) (s : Same H H') : TabG H' T := by
  obtain ⟨ps, e2, r⟩ := tb
  exact ⟨ps, s _ _ e2, r⟩
theorem tyx_tup {a : Addr} {xs : List V} (s : SqT K H a xs) : TyX K H (.ref a) (.type "tuple") := by
  rcases s with (s | ⟨u, s⟩) | ⟨o, its, k, s, c, _⟩
  · exact .base (.tup s)
  · exact .fTuple s
  · exact .kTuple s c
end
section
variable {P : Program} {w : World} {K : PySem.W.Frag} {mg : Str → Option Value} {base : Heap} {T : Addr}
def spLaw (K : PySem.W.Frag) (T : Addr) : Sp := fun vs H Q _ => ∃ (a : Addr) (ns : List Int), vs = [.ref a] ∧ SqL K H a (ns.map V.int) ∧ ns.length ≤ 63 ∧ TabG H T ∧ ∀ H', Q (.bl true) H'
theorem ok_law {f fD fC fL fP fT fB fR : Addr} {fd fdD fdC fdL fdP fdT fdB fdR : FuncData} (F : Fun K "law" "law" sLaw f fd) (B : BT mg) (BL : Bl mg) (mi : mg "isinstance" = none)
    (GD : FnOk P w K mg base CX0 1 fD fdD ["script", "many"] (spDraws K)) (kD : PySem.W.keepIn K (.ref fD) = true) (bD : Binds K fdD ["script", "many"] []) (gD : mg "_law_draws" = some (.ref fD))
    (GC : FnOk P w K mg base CX0 3 fC fdC ["w", "most"] (spCircuit K)) (kC : PySem.W.keepIn K (.ref fC) = true) (bC : Binds K fdC ["w", "most"] []) (gC : mg "_law_circuit" = some (.ref fC))
    (GL : FnOk P w K mg base CX0 1 fL fdL ["circuit"] (spLines K)) (kL : PySem.W.keepIn K (.ref fL) = true) (bL : Binds K fdL ["circuit"] []) (gL : mg "_law_lines" = some (.ref fL))
    (GP : FnOk P w K mg base CX0 2 fP fdP ["circuit"] (spPrint K)) (kP : PySem.W.keepIn K (.ref fP) = true) (bP : Binds K fdP ["circuit"] []) (gP : mg "print_circuit" = some (.ref fP))
    (GT : FnOk P w K mg base CX0 7 fT fdT ["text"] (spTold K T)) (kT : PySem.W.keepIn K (.ref fT) = true) (bT : Binds K fdT ["text"] []) (gT : mg "_law_told" = some (.ref fT))
    (GB : FnOk P w K mg base CX0 2 fB fdB ["w", "lines"] (spBent K)) (kB : PySem.W.keepIn K (.ref fB) = true) (bB : Binds K fdB ["w", "lines"] []) (gB : mg "_law_bent" = some (.ref fB))
    (GR : FnOk P w K mg base CX0 6 fR fdR ["text"] (spReadD K)) (kR : PySem.W.keepIn K (.ref fR) = true) (bR : Binds K fdR ["text"] []) (gR : mg "_law_read" = some (.ref fR)) :
    FnOk P w K mg base CX0 8 f fd ["script"] (spLaw K T) := by
  refine F.ok scLaw (fun vs H Q E h => ?_) (fun cdv A outer s H vs Q E hr h => ?_)
  · obtain ⟨a, ns, rfl, _⟩ := h
    rfl
  · obtain ⟨a, ns, rfl, hS, hlen, tb, q⟩ := h
    have nd := scLaw.nd
    have hr7 : Room 7 _ := hr
    have hr6 : Room 6 _ := hr.mono (by decide)
    have hr3 : Room 3 _ := hr.mono (by decide)
    have hr2 : Room 2 _ := hr.mono (by decide)
    have hr1 : Room 1 _ := hr.mono (by decide)
    have hu := hr.units
    refine ⟨_, (pss_cons (ps_set (i := 1) nd rfl (.inl rfl) (pe_disp (pps_cons (pe_str) (pe_call GD hr1 (by rfl) gD kD bD .nil pass0 (pa_cons (pv 0) (pa_cons (pe_int) pa_nil))) (pps_cons (pe_str) (pe_int) pps_nil)) rfl rfl (by intro z; cases z) (by decide)))
      (pss_cons (ps_set (i := 2) nd rfl (.inl rfl) (pe_call GC hr3 (by rfl) gC kC bC .nil pass0 (pa_cons (pv 1) (pa_cons (pe_int) pa_nil))))
      (pss_cons (ps_set (i := 3) nd rfl (.inl rfl) (pe_call GL hr1 (by rfl) gL kL bL .nil pass0 (pa_cons (pv 2) pa_nil)))
      (pss_cons (ps_set (i := 4) nd rfl (.inl rfl) (pe_join (pe_str) (pe_lc (own := [("line", 8)]) (g := gName 8) (tt := tYes) (te := tOp rAddStr (tVar 8) (tC (.str "\n")))  rfl nd (pi_list (pv 3)) (blkOk_by (own := [("line", 8)]) (N := NLW) (sc := defScope sLaw) (by decide +kernel)) (fun _ _ _ _ _ => pg_name (i := 8) nd rfl (.inl rfl)) (fun _ _ _ _ _ => pts_nil) (fun _ _ _ _ _ => by exact (pe_op op_add_str (pv 8) (pe_str))))))
      (C8.pss_cut (ps_if (PW.pt (pw_or (pt_cmpR op_ne (pe_call GP hr2 (by rfl) gP kP bP .nil pass0 (pa_cons (pv 2) pa_nil)) (pv 4) (nomark _)) (pw_or1 (pt_cmpR (op_neD hu) (pe_call GT hr7 (by rfl) gT kT bT .nil pass0 (pa_cons (pv 4) pa_nil)) (pe_tup (pa_cons (pe_str) (pa_cons (pv 2) pa_nil))) (nomark _))))) (pss_one (ps_ret (pe_bl))) pss_nil)
      (C8.pss_cut (ps_for PassesOwn.never rfl (pi_range1 (by rfl) BL.range (pa_cons (pe_int) pa_nil)) (pg_name (i := 5) nd rfl (.inl rfl)) (pss_cons (ps_set (i := 6) nd rfl (.inl rfl) (pe_call GB hr2 (by rfl) gB kB bB .nil pass0 (pa_cons (pv 1) (pa_cons (pv 3) pa_nil))))
      (pss_cons (ps_set (i := 7) nd rfl (.inl rfl) (pe_call GR hr6 (by rfl) gR kR bR .nil pass0 (pa_cons (pv 6) pa_nil)))
      (pss_one (ps_if (pt_cmpR (op_neD hu) (pe_call GT hr7 (by rfl) gT kT bT .nil pass0 (pa_cons (pv 6) pa_nil)) (pe_ifExp (pt_val (pe_callB call_isi (by rfl) mi (by decide +kernel) (pa_cons (pv 7) (pa_cons (pe_bltn (v := .ty "tuple") (by rfl) B.tuple (by decide +kernel) rfl) pa_nil)))) (pe_tup (pa_cons (pe_str) (pa_cons (pv 7) pa_nil))) (pe_tup (pa_cons (pe_str) (pa_cons (pv 7) pa_nil)))) (nomark _)) (pss_one (ps_ret (pe_bl))) pss_nil)))))
      (pss_one (ps_ret (pe_bl))))))))), ?_⟩
    refine fun wa nwa => ?_
    have tb0 := tab_sm tb (Same.up nwa (o := .dK []))
    refine ⟨_, rfl, a, ns, 420, rfl, (same_new nwa).seq hS, hlen, by decide, fun H1 l ds s1 nl el lds => ?_⟩
    have hwa1 : H1 wa = some (.dK []) := s1 _ _ upd_same
    have tb1 := tab_sm tb0 s1
    refine ⟨hwa1, [(.inr ("draws" : Str), .ref l), (.inr ("at" : Str), .int 0)], rfl, (by show 2 ≤ 15; decide), ?_⟩
    rw [wd_merge2]
    have nlw : l ≠ wa := fun z => by
      rw [z, upd_same] at nl
      cases nl
    have W : Wd (upd H1 wa (.dK (wdL l 0))) wa l ds := ⟨⟨0, Int.le_refl 0, upd_same⟩, by rw [upd_ne nlw]; exact el, lds⟩
    have nwT : T ≠ wa := (tab_is tb1 hwa1 (fun ps z => by cases z)).symm
    have tb2 : TabG (upd H1 wa (.dK (wdL l 0))) T := by
      obtain ⟨ps, e, r⟩ := tb1
      exact ⟨ps, by rw [upd_ne nwT]; exact e, r⟩
    generalize upd H1 wa (.dK (wdL l 0)) = H2 at W tb2
    -- the circuit
    refine ⟨_, rfl, wa, l, ds, 14, rfl, by decide, by decide, W, fun H3 p c ws k3 W3 hp hc => ?_⟩
    have tb3 := tab_kp W tb2 k3
    have hnl := (gd_ok 3 _ (ckt_gd hc)).1
    obtain ⟨hback, htx⟩ := text_back hc
    have PK := parts_ok hc
    have hl60 : ∀ y ∈ cLines c, LnB 60 y := fun y hy => by
      obtain ⟨dd, hd, rfl⟩ := List.mem_map.mp hy
      exact (PK dd hd).line
    have hlen80 : (cLines c).length ≤ 80 := by
      unfold cLines
      rw [List.length_map]
      exact parts_len hc
    have hne : cLines c ≠ [] := fun z => by
      have := congrArg List.length z
      unfold cLines cParts at this
      simp only [List.length_append, List.length_map, List.length_cons, List.length_nil] at this
      omega
    -- lines, text
    refine ⟨_, rfl, .ref p, c, ws, rfl, hp, hc, fun H4 lp s4 _ elp => ?_⟩
    have W4 := W3.sm s4
    have tb4 := tab_sm tb3 s4
    have hp4 := dp_stay (same_tup s4) _ _ hp hnl
    have hl10 : ∀ x ∈ cLines c, x.length ≤ 10000 := fun z hz => Nat.le_trans (hl60 z hz).sz (by decide)
    refine ⟨⟨_, rfl⟩, _, rfl, lp, rfl, ⟨_, SqL.of elp⟩, fun D nD => text_lc elp (by omega) hl10 nD (fun v => ⟨rfl, rfl⟩) fun H5 s5 e5 => ?_⟩
    refine ⟨Str.ofString "", D, (cLines c).map fun x => x ++ nlS, rfl, rfl, .inl (SqL.of e5), text_bound (by omega) hl10, ?_⟩
    have k5 : Kp wa H4 H5 := fun b o n h => s5 b o h
    have W5 := W4.sm s5
    have tb5 := tab_kp W4 tb4 k5
    have lpa : lp ≠ wa := W4.at'.elim fun n h => ne_of elp h.2 (by intro z; cases z)
    have elp5 := k5 _ _ lpa elp
    have hp5 : Dp K H5 (.ref p) c.d := dp_stay (kp_tup (W4.at'.choose_spec.2) k5) _ _ hp4 hnl
    refine ⟨fun σ H6 => σ = [some (.ref a), some (.ref wa), some (.ref p), some (.ref lp), some (.str (ctext c)), none, none, none, none] ∧ Wd H6 wa l ds ∧ TabG H6 T ∧ H6 lp = some (.lst ((cLines c).map V.str)), ?_, ?_⟩
    · refine ⟨_, rfl, .ref p, c, ws, rfl, hp5, hc, fun H6 s6 => ⟨_, rfl, rfl, _, rfl, ?_⟩⟩
      refine iteF' (by show (!decide (V.str (ctext c) = V.str (ctext c))) = false; rw [decide_eq_true rfl]; rfl) ?_
      have W6 := W5.sm s6
      have tb6 := tab_sm tb5 s6
      refine ⟨_, rfl, ctext c, rfl, htx, tb6, fun H7 v g7 dv => ?_⟩
      have rg := res_gd htx
      have eR : resD (ctext c) = .tuple [.str "circuit", c.d] := by
        unfold resD
        rw [hback]
      have hp7 : Dp K H7 (.ref p) c.d := dp_stay (fun b xs h => g7.seqT tb6 h) _ _ (dp_stay (same_tup s6) _ _ hp5 hnl) hnl
      refine ⟨_, rfl, line200 (show 2 ≤ 1000 by decide), fun t nt => ?_⟩
      have s8 := Same.up nt (o := .tup [.str "circuit", .ref p])
      refine ⟨resD (ctext c), resD (ctext c), dp_stay (same_tup s8) _ _ dv rg.1, by rw [eR]; exact .tup (SqT.of upd_same) (.cons (.str _) (.cons (dp_stay (same_tup s8) _ _ hp7 hnl) .nil)), rg.2, rg.2, _, rfl, ?_⟩
      rw [SeqAt.eqv_refl _ (SeqAt.canLay_of_shaped rg.2)]
      refine iteF ⟨rfl, (W6.gr tb6 g7).sm s8, tab_sm g7.tab s8, s8 _ _ (g7.at tb6 (s6 _ _ elp5) (fun ps z => by cases z))⟩
    rintro σ H6 ⟨rfl, W6, tb6, elp6⟩
    refine ⟨fun _ _ => True, ?_, fun σ' H' _ => q H'⟩
    refine ⟨_, rfl, by decide, by decide, for_range (n := 8) (fun i σ H' => ∃ y5 y6 y7 : Option V, σ = [some (.ref a), some (.ref wa), some (.ref p), some (.ref lp), some (.str (ctext c)), y5, y6, y7, none] ∧ Wd H' wa l ds ∧ TabG H' T ∧ H' lp = some (.lst ((cLines c).map V.str))) ⟨none, none, none, rfl, W6, tb6, elp6⟩ (fun i σ H' hi h => ?_) (fun _ _ _ => trivial)⟩
    obtain ⟨y5, y6, y7, rfl, W', tb', elp'⟩ := h
    refine ⟨_, rfl, _, rfl, wa, l, lp, ds, cLines c, rfl, W', elp', hne, by omega, hl60, fun H7 y k7 W7 ty => ?_⟩
    have tb7 := tab_kp W' tb' k7
    have elp7 := k7 _ _ lpa elp'
    refine ⟨_, rfl, y, rfl, ty, fun H8 v s8 dv => ?_⟩
    have W8 := W7.sm s8
    have tb8 := tab_sm tb7 s8
    refine ⟨_, rfl, y, rfl, ty, tb8, fun H9 v9 g9 dv9 => ?_⟩
    have rg := res_gd ty
    have W9 := W8.gr tb8 g9
    have elp9 := g9.at tb8 (s8 _ _ elp7) (fun ps z => by cases z)
    have fin : ∀ (H : Hp) (v : V) (d : PyData), d = dueD y → True := fun _ _ _ _ => trivial
    cases hr9 : parseS y with
    | inr d =>
      have eD : dueD y = d := by
        unfold dueD
        rw [hr9]
      have eR : resD y = .tuple [.str "circuit", d] := by
        unfold resD
        rw [hr9]
      rw [eD] at dv
      obtain ⟨gd4, es, rfl⟩ := parse_gd ty hr9
      have dnl := (gd_ok 4 _ gd4).1
      have dv' : Dp K H9 v (.tuple es) := dp_stay (fun b xs h => g9.seqT tb8 h) _ _ dv dnl
      obtain ⟨b, ys, rfl, sq, _⟩ := dp_tup dv'
      refine ⟨_, rfl, .ref b, .ty "tuple", .type "tuple", .type "tuple", true, rfl, .ty _, tyx_tup sq, kit_ty (by decide +kernel), _, rfl, iteT ?_⟩
      refine ⟨_, rfl, line200 (show 2 ≤ 1000 by decide), fun t nt => ?_⟩
      have sA := Same.up nt (o := .tup [.str "circuit", .ref b])
      refine ⟨resD y, resD y, dp_stay (same_tup sA) _ _ dv9 rg.1, by rw [eR]; exact .tup (SqT.of upd_same) (.cons (.str _) (.cons (dp_stay (same_tup sA) _ _ dv' dnl) .nil)), rg.2, rg.2, _, rfl, ?_⟩
      rw [SeqAt.eqv_refl _ (SeqAt.canLay_of_shaped rg.2)]
      exact iteF ⟨_, _, _, rfl, W9.sm sA, tab_sm g9.tab sA, sA _ _ elp9⟩
    | inl n =>
      have eD : dueD y = iD n := by
        unfold dueD
        rw [hr9]
      have eR : resD y = .tuple [.str "line", iD n] := by
        unfold resD
        rw [hr9]
      rw [eD] at dv
      cases dv
      refine ⟨_, rfl, .int (n : Nat), .ty "tuple", .type "int", .type "tuple", false, rfl, .ty _, .base (.int _), kit_ty (by decide +kernel), _, rfl, iteF ?_⟩
      refine ⟨_, rfl, line200 (show 2 ≤ 1000 by decide), fun t nt => ?_⟩
      have sA := Same.up nt (o := .tup [.str "line", iV n])
      refine ⟨resD y, resD y, dp_stay (same_tup sA) _ _ dv9 rg.1, by rw [eR]; exact .tup (SqT.of upd_same) (.cons (.str _) (.cons (.int _) .nil)), rg.2, rg.2, _, rfl, ?_⟩
      rw [SeqAt.eqv_refl _ (SeqAt.canLay_of_shaped rg.2)]
      exact iteF ⟨_, _, _, rfl, W9.sm sA, tab_sm g9.tab sA, sA _ _ elp9⟩
end
end C1

/-! What the top leaves, and the end. -/
namespace C1
open PySem PySem.Spec PyProof.Rows L2 SX
open GxR (TabG Tabbed TabB GenS)
theorem kit_ref {K : PySem.W.Frag} {t : Value} {C : Addr} (hd : PySem.W.hasDictIn K C = true) (ty : PySem.W.typeIn K (.ref C) = some (.type "type")) (s : PySem.W.subIn K t (.ref C) = some true) : PySem.W.kitOne K t (.ref C) = some true := by
  obtain ⟨cd, hc, _⟩ := PySem.W.any_some hd
  have e : ((PySem.W.clsIn K C).isSome && PySem.W.typeIn K (.ref C) == some (.type "type")) = true := by
    rw [hc, ty]
    rfl
  unfold PySem.W.kitOne
  by_cases q : (t == Value.ref C) = true
  · rw [if_pos q]
  · rw [if_neg q]
    show (if ((PySem.W.clsIn K C).isSome && PySem.W.typeIn K (.ref C) == some (.type "type")) = true then PySem.W.subIn K t (.ref C) else none) = some true
    rw [if_pos e]
    exact s
/-- the table of is_number's code is empty at the law's call -/
def OwnT (K : PySem.W.Frag) (mg : Str → Option Value) (h : Heap) : Prop := ∀ (f c P : Addr) (o : Obj) (fd : FuncData) (e : Value) (dd : Option Addr) (vs : Array Value) (sl : Array (Option Value)),
  mg "is_number" = some (.ref f) → K.lookup f = some o → o.data = .func fd → fd.code = .ref c → K.lookup c = some ⟨e, dd, .fields vs, sl⟩ → vs[11]? = some (.ref P) → h.get? P = some { cls := .none, data := .fields #[] } ∧ PySem.W.CodeHd h c P
theorem walk_ofDef {l : PySem.W.OpenLaw} {n k : Nat} {q : Program} {loose : List Str} {XP : (Str → Option Value) → Heap → Prop} {YP : World → Heap → Prop} {d : DefRec} {K : Params → PySem.W.Frag} {CX : World → CXT} {x nm : Str}
    (hn : l.most = some n) (hn2 : n ≤ sizeLine) (hdf : d.params.defaults = []) (hr : Room k callerA) (hrec : ((recsOf q).any fun e => e.name == "is_number") = true) (hY : ∀ (w : World) (h : Heap), YP w h → (K w.params).In h)
    (F : ∀ (w : World) (mg : Str → Option Value) (fa : Addr) (h : Heap), YP w h → (K w.params).In h → h.Ns mainGlobals mg → mg d.name = some (.ref fa) → OwnT (K w.params) mg h → LamX.LawAtS l w (K w.params) (CX w) k n x mg fa h)
    (hCX : ∀ (w : World) (H : Hp) (s : Shared) (e : Value) (s' : Shared), CX w [] H s (fun _ _ _ => False) e s' → False) :
    PySem.W.WalkO q loose XP YP l.row.toRowW d [] (fun f vs => PySem.call f vs) := by
  refine Att.attach_callB hn hdf fun w s0 s1 mg mb fa o pm cd doc a vs ns G Y ho hd hcd hmg hobj hints hlen hbits hg => ?_
  have KX := hY w _ Y
  have own : OwnT (K w.params) mg s1.heap := fun f c P o1 fd1 e dd vs1 sl k0 k1 k2 k3 k4 k5 => by
    obtain ⟨r, hm, hnm⟩ := List.any_eq_true.mp hrec
    have hnm2 : r.name = "is_number" := beq_iff_eq.mp hnm
    obtain ⟨a2, o2, fd2, c2, P2, h1, h2, h3, h4, h5, h6⟩ := G.T.tab r hm
    rw [hnm2, k0] at h1
    cases h1
    have g1 := KX _ _ k1
    rw [g1] at h2
    cases h2
    rw [k2] at h3
    cases h3
    rw [k3] at h4
    cases h4
    have hc := PySem.W.CodeHd.of h5 h6
    obtain ⟨⟨oc, vc, b1, _, b3, b4⟩, hP⟩ := h6
    have g2 := KX _ _ k4
    rw [g2] at b1
    cases b1
    cases b3
    rw [k5] at b4
    cases b4
    exact ⟨hP, hc⟩
  obtain ⟨fd, cs, sp, hT, nT, C, hb, hsp, hF⟩ := F w mg fa _ Y KX G.T.g hmg own
  exact LamX.law_callTs KX G.T.g G.T.b G.T.builtins G.T.nolimit hg hT nT C G.T.bmain hobj hints (Nat.le_trans hlen hn2) hr hF hb (fun H hH hS => hsp H a ns hlen hbits hH hS) fun H e s' => hCX w H s1 e s'
def keyS (e : DictEntry) : Option Str := match e.key with
  | .str x _ => some x
  | _ => none
theorem nsIn_no {K : PySem.W.Frag} {a : Addr} {es : Array DictEntry} {n : Nat} {ks : List (Str × Nat)} {z : Str} (o : K.lookup a = some ⟨.type "dict", none, .dict es n, #[]⟩) (hk : es.toList.map keyS = ks.map fun p => some p.1) (hz : ∀ p ∈ ks, p.1 = z → False) : PySem.W.nsIn K a z = some none := by
  have key : ∀ e ∈ es.toList, ∃ x t, e.key = .str x t ∧ x ≠ z := fun e he => by
    have h1 : keyS e ∈ es.toList.map keyS := List.mem_map.mpr ⟨e, he, rfl⟩
    rw [hk] at h1
    obtain ⟨p, hp, e2⟩ := List.mem_map.mp h1
    unfold keyS at e2
    split at e2
    · rename_i x t ek
      cases e2
      exact ⟨_, t, ek, hz p hp⟩
    · cases e2
  have f1 : es.toList.find? (fun e => e.key.isStr z) = none := List.find?_eq_none.mpr fun e he h => by
    obtain ⟨x, t, ek, hx⟩ := key e he
    rw [ek] at h
    exact hx (beq_iff_eq.mp h)
  have f2 : es.toList.any (fun e => e.refKey) = false := by
    rw [Bool.eq_false_iff]
    intro h
    obtain ⟨e, he, h2⟩ := List.any_eq_true.mp h
    obtain ⟨x, t, ek, _⟩ := key e he
    unfold DictEntry.refKey at h2
    rw [ek] at h2
    cases h2
  unfold PySem.W.nsIn
  rw [o]
  show (match es.toList.find? (fun e => e.key.isStr z) with
    | some e => some (some e.val)
    | none => if es.toList.any (fun e => e.refKey) then none else some none) = _
  rw [f1]
  show (if es.toList.any (fun e => e.refKey) = true then none else some none) = _
  rw [f2]
  rfl
theorem look_at {k : Str} {m : Nat} : ∀ (l : List (Str × Nat)), l.lookup k = some m → ∃ p ∈ l, p.1 = k ∧ p.2 = m := fun l => by
  induction l with
  | nil => intro h; cases h
  | cons a l ih =>
    intro h
    rw [List.lookup_cons] at h
    split at h
    · rename_i e2
      cases h
      exact ⟨a, List.mem_cons_self .., (beq_iff_eq.mp e2).symm, rfl⟩
    · obtain ⟨p, hp, e⟩ := ih h
      exact ⟨p, List.mem_cons_of_mem _ hp, e⟩
theorem lens_at {z : Str} {k : Nat} (h : lensOf z = some k) : ∃ q ∈ rowLens, q.1 = z ∧ q.2 = k := look_at _ h
theorem lens_mem {p : Str × Nat} (hp : p ∈ rowLens) (h : lensOf p.1 = none) : False := by
  have : ∀ p ∈ rowLens, lensOf p.1 ≠ none := by decide +kernel
  exact this p hp h
theorem all_mk {l : PySem.W.OpenLaw} {w : World} {K : PySem.W.Frag} {h : Heap} {mg : Str → Option Value} {fa : Addr} (X : K.In h) (G : h.Ns mainGlobals mg) (hfa : mg "law" = some (.ref fa)) (own : OwnT K mg h)
    {f0 : Addr} {od0 an0 : Option Addr} {sl0 : Array (Option Value)} {oc0 kV0 dc0 pm0 cd0 ct0 : Value}
    {f1 : Addr} {od1 an1 : Option Addr} {sl1 : Array (Option Value)} {oc1 kV1 dc1 pm1 cd1 ct1 : Value}
    {f2 : Addr} {od2 an2 : Option Addr} {sl2 : Array (Option Value)} {oc2 kV2 dc2 pm2 cd2 ct2 : Value}
    {f3 : Addr} {od3 an3 : Option Addr} {sl3 : Array (Option Value)} {oc3 kV3 dc3 pm3 cd3 ct3 : Value}
    {f4 : Addr} {od4 an4 : Option Addr} {sl4 : Array (Option Value)} {oc4 kV4 dc4 pm4 cd4 ct4 : Value}
    {f5 : Addr} {od5 an5 : Option Addr} {sl5 : Array (Option Value)} {oc5 kV5 dc5 pm5 cd5 ct5 : Value}
    {f6 : Addr} {od6 an6 : Option Addr} {sl6 : Array (Option Value)} {oc6 kV6 dc6 pm6 cd6 ct6 : Value}
    {f7 : Addr} {od7 an7 : Option Addr} {sl7 : Array (Option Value)} {oc7 kV7 dc7 pm7 cd7 ct7 : Value}
    {f8 : Addr} {od8 an8 : Option Addr} {sl8 : Array (Option Value)} {oc8 kV8 dc8 pm8 cd8 ct8 : Value}
    {f9 : Addr} {od9 an9 : Option Addr} {sl9 : Array (Option Value)} {oc9 kV9 dc9 pm9 cd9 ct9 : Value}
    {f10 : Addr} {od10 an10 : Option Addr} {sl10 : Array (Option Value)} {oc10 kV10 dc10 pm10 cd10 ct10 : Value}
    {f11 : Addr} {od11 an11 : Option Addr} {sl11 : Array (Option Value)} {oc11 kV11 dc11 pm11 cd11 ct11 : Value}
    {f12 : Addr} {od12 an12 : Option Addr} {sl12 : Array (Option Value)} {oc12 kV12 dc12 pm12 cd12 ct12 : Value}
    {f13 : Addr} {od13 an13 : Option Addr} {sl13 : Array (Option Value)} {oc13 kV13 dc13 pm13 cd13 ct13 : Value}
    {f14 : Addr} {od14 an14 : Option Addr} {sl14 : Array (Option Value)} {oc14 kV14 dc14 pm14 cd14 ct14 : Value}
    {f15 : Addr} {od15 an15 : Option Addr} {sl15 : Array (Option Value)} {oc15 kV15 dc15 pm15  ct15 : Value}
    {f16 : Addr} {od16 an16 : Option Addr} {sl16 : Array (Option Value)} {oc16 kV16 dc16 pm16 cd16 ct16 : Value}
    {f17 : Addr} {od17 an17 : Option Addr} {sl17 : Array (Option Value)} {oc17 kV17 dc17 pm17 cd17 ct17 : Value}
    {f18 : Addr} {od18 an18 : Option Addr} {sl18 : Array (Option Value)} {oc18 kV18 dc18 pm18 cd18 ct18 : Value}
    {f19 : Addr} {od19 an19 : Option Addr} {sl19 : Array (Option Value)} {oc19 kV19 dc19 pm19 cd19 ct19 : Value}
    {f20 : Addr} {od20 an20 : Option Addr} {sl20 : Array (Option Value)} {oc20 kV20 dc20 pm20 cd20 ct20 : Value}
    {f21 : Addr} {od21 an21 : Option Addr} {sl21 : Array (Option Value)} {oc21 kV21 dc21 pm21 cd21 ct21 : Value}
    {f22 : Addr} {od22 an22 : Option Addr} {sl22 : Array (Option Value)} {oc22 kV22 dc22 pm22 cd22 ct22 : Value}
    {f23 : Addr} {od23 an23 : Option Addr} {sl23 : Array (Option Value)} {oc23 kV23 dc23 pm23 cd23 ct23 : Value}
    {f24 : Addr} {od24 an24 : Option Addr} {sl24 : Array (Option Value)} {oc24 kV24 dc24 pm24 cd24 ct24 : Value}
    {f25 : Addr} {od25 an25 : Option Addr} {sl25 : Array (Option Value)} {oc25 kV25 dc25 pm25 cd25 ct25 : Value}
    {f26 : Addr} {od26 an26 : Option Addr} {sl26 : Array (Option Value)} {oc26 kV26 dc26 pm26 cd26 ct26 : Value}
    {f27 : Addr} {od27 an27 : Option Addr} {sl27 : Array (Option Value)} {oc27 kV27 dc27 pm27 cd27 ct27 : Value}
    {f28 : Addr} {od28 an28 : Option Addr} {sl28 : Array (Option Value)} {oc28 kV28 dc28 pm28 cd28 ct28 : Value}
    {f29 : Addr} {od29 an29 : Option Addr} {sl29 : Array (Option Value)} {oc29 kV29 dc29 pm29 cd29 ct29 : Value}
    {f30 : Addr} {od30 an30 : Option Addr} {sl30 : Array (Option Value)} {oc30 kV30 dc30 pm30 cd30 ct30 : Value}
    {f31 : Addr} {od31 an31 : Option Addr} {sl31 : Array (Option Value)} {oc31 kV31 dc31 pm31 cd31 ct31 : Value}
    {f32 : Addr} {od32 an32 : Option Addr} {sl32 : Array (Option Value)} {oc32 kV32 dc32 pm32 cd32 ct32 : Value}
    {f33 : Addr} {od33 an33 : Option Addr} {sl33 : Array (Option Value)} {oc33 kV33 dc33 pm33 cd33 ct33 : Value}
    {f34 : Addr} {od34 an34 : Option Addr} {sl34 : Array (Option Value)} {oc34 kV34 dc34 pm34 cd34 ct34 : Value}
    {f35 : Addr} {od35 an35 : Option Addr} {sl35 : Array (Option Value)} {oc35 kV35 dc35 pm35 cd35 ct35 : Value}
    {f36 : Addr} {od36 an36 : Option Addr} {sl36 : Array (Option Value)} {oc36 kV36 dc36 pm36 cd36 ct36 : Value}
    {cP Tb : Addr} {pe : Value} {pd : Option Addr} {pvs : Array Value} {psl : Array (Option Value)}
    {fI : Addr} {odI anI : Option Addr} {slI : Array (Option Value)} {ocI kVI dcI pmI cdI ctI : Value} {CB CC NCB : Addr} {nmCB qCB : Str} {bsCB : List Value} {snCB : List Str} {subCB : List Value} {abCB : Bool} {colCB : Option Bool} {ddCB : Option Addr} {m0CB m1CB m2CB m3CB m5CB : Option Value}
    {tkD : Tok}
    {tw tb3 t3 t5 : Tok} {aS aT aA aP aL aG aW aM : Addr} {ddS ddT ddA ddG : Option Addr} {nS nT nA nP nL nG nW nM : Nat} {slS slT slA slG slW : Array (Option Value)} {esP esL esM : Array DictEntry} {u0 u1 u2 u3 u4 u5 u6 u7 u8 u9 : Tok} {y0 y1 y2 y3 y4 y5 y6 y7 y8 y9 x0 x1 x2 x3 x4 x5 : Tok}
    {t_look : Addr} {d_look : Option Addr} {n_look : Nat} {s_look : Array (Option Value)} {v_look0 : Tok} {t_not : Addr} {d_not : Option Addr} {n_not : Nat} {s_not : Array (Option Value)} {v_not0 : Tok} {t_op : Addr} {d_op : Option Addr} {n_op : Nat} {s_op : Array (Option Value)} {v_op0 v_op1 : Tok} {t_pick : Addr} {d_pick : Option Addr} {n_pick : Nat} {s_pick : Array (Option Value)} {v_pick0 v_pick1 v_pick2 : Tok} {t_wide : Addr} {d_wide : Option Addr} {n_wide : Nat} {s_wide : Array (Option Value)} {v_wide0 : Tok} {t_part : Addr} {d_part : Option Addr} {n_part : Nat} {s_part : Array (Option Value)} {v_part0 : Tok} {t_join : Addr} {d_join : Option Addr} {n_join : Nat} {s_join : Array (Option Value)} {v_join0 v_join1 : Tok} {w_lit w_reg w_look w_not w_op w_pick w_wide w_part w_join z_register' z_memory' z_store' : Tok}
    (a0 : PySem.W.nsIn K mainGlobals "parts" = some (some (.ref f0)))
    (l0 : K.lookup f0 = some ⟨oc0, od0, .func (PySem.W.fnOf "parts" "parts" (defArgs sParts) (defBody sParts) (defScope sParts) .none kV0 dc0 pm0 an0 cd0 ct0), sl0⟩)
    (c0 : PySem.W.codeIn K cd0 "parts" = true)
    (k0 : PySem.W.keepIn K (.ref f0) = true)
    (a1 : PySem.W.nsIn K mainGlobals "mask" = some (some (.ref f1)))
    (l1 : K.lookup f1 = some ⟨oc1, od1, .func (PySem.W.fnOf "mask" "mask" (defArgs sMask) (defBody sMask) (defScope sMask) .none kV1 dc1 pm1 an1 cd1 ct1), sl1⟩)
    (c1 : PySem.W.codeIn K cd1 "mask" = true)
    (k1 : PySem.W.keepIn K (.ref f1) = true)
    (a2 : PySem.W.nsIn K mainGlobals "fitted_width" = some (some (.ref f2)))
    (l2 : K.lookup f2 = some ⟨oc2, od2, .func (PySem.W.fnOf "fitted_width" "fitted_width" (defArgs sFitted) (defBody sFitted) (defScope sFitted) .none kV2 dc2 pm2 an2 cd2 ct2), sl2⟩)
    (c2 : PySem.W.codeIn K cd2 "fitted_width" = true)
    (k2 : PySem.W.keepIn K (.ref f2) = true)
    (a3 : PySem.W.nsIn K mainGlobals "op_width" = some (some (.ref f3)))
    (l3 : K.lookup f3 = some ⟨oc3, od3, .func (PySem.W.fnOf "op_width" "op_width" (defArgs sOpw) (defBody sOpw) (defScope sOpw) .none kV3 dc3 pm3 an3 cd3 ct3), sl3⟩)
    (c3 : PySem.W.codeIn K cd3 "op_width" = true)
    (k3 : PySem.W.keepIn K (.ref f3) = true)
    (a4 : PySem.W.nsIn K mainGlobals "is_circuit" = some (some (.ref f4)))
    (l4 : K.lookup f4 = some ⟨oc4, od4, .func (PySem.W.fnOf "is_circuit" "is_circuit" (defArgs sIsCircuit) (defBody sIsCircuit) (defScope sIsCircuit) .none kV4 dc4 pm4 an4 cd4 ct4), sl4⟩)
    (c4 : PySem.W.codeIn K cd4 "is_circuit" = true)
    (k4 : PySem.W.keepIn K (.ref f4) = true)
    (a5 : PySem.W.nsIn K mainGlobals "is_tuple" = some (some (.ref f5)))
    (l5 : K.lookup f5 = some ⟨oc5, od5, .func (PySem.W.fnOf "is_tuple" "is_tuple" (defArgs sIsTuple) (defBody sIsTuple) (defScope sIsTuple) .none kV5 dc5 pm5 an5 cd5 ct5), sl5⟩)
    (c5 : PySem.W.codeIn K cd5 "is_tuple" = true)
    (k5 : PySem.W.keepIn K (.ref f5) = true)
    (a6 : PySem.W.nsIn K mainGlobals "is_below" = some (some (.ref f6)))
    (l6 : K.lookup f6 = some ⟨oc6, od6, .func (PySem.W.fnOf "is_below" "is_below" (defArgs sIsBelow) (defBody sIsBelow) (defScope sIsBelow) .none kV6 dc6 pm6 an6 cd6 ct6), sl6⟩)
    (c6 : PySem.W.codeIn K cd6 "is_below" = true)
    (k6 : PySem.W.keepIn K (.ref f6) = true)
    (a7 : PySem.W.nsIn K mainGlobals "is_width" = some (some (.ref f7)))
    (l7 : K.lookup f7 = some ⟨oc7, od7, .func (PySem.W.fnOf "is_width" "is_width" (defArgs sIsWidth) (defBody sIsWidth) (defScope sIsWidth) .none kV7 dc7 pm7 an7 cd7 ct7), sl7⟩)
    (c7 : PySem.W.codeIn K cd7 "is_width" = true)
    (k7 : PySem.W.keepIn K (.ref f7) = true)
    (a8 : PySem.W.nsIn K mainGlobals "is_register" = some (some (.ref f8)))
    (l8 : K.lookup f8 = some ⟨oc8, od8, .func (PySem.W.fnOf "is_register" "is_register" (defArgs sIsRegister) (defBody sIsRegister) (defScope sIsRegister) .none kV8 dc8 pm8 an8 cd8 ct8), sl8⟩)
    (c8 : PySem.W.codeIn K cd8 "is_register" = true)
    (k8 : PySem.W.keepIn K (.ref f8) = true)
    (a9 : PySem.W.nsIn K mainGlobals "is_memory" = some (some (.ref f9)))
    (l9 : K.lookup f9 = some ⟨oc9, od9, .func (PySem.W.fnOf "is_memory" "is_memory" (defArgs sIsMemory) (defBody sIsMemory) (defScope sIsMemory) .none kV9 dc9 pm9 an9 cd9 ct9), sl9⟩)
    (c9 : PySem.W.codeIn K cd9 "is_memory" = true)
    (k9 : PySem.W.keepIn K (.ref f9) = true)
    (a10 : PySem.W.nsIn K mainGlobals "row_width" = some (some (.ref f10)))
    (l10 : K.lookup f10 = some ⟨oc10, od10, .func (PySem.W.fnOf "row_width" "row_width" (defArgs sRowWidth) (defBody sRowWidth) (defScope sRowWidth) .none kV10 dc10 pm10 an10 cd10 ct10), sl10⟩)
    (c10 : PySem.W.codeIn K cd10 "row_width" = true)
    (k10 : PySem.W.keepIn K (.ref f10) = true)
    (a11 : PySem.W.nsIn K mainGlobals "known_row_width" = some (some (.ref f11)))
    (l11 : K.lookup f11 = some ⟨oc11, od11, .func (PySem.W.fnOf "known_row_width" "known_row_width" (defArgs sKnown) (defBody sKnown) (defScope sKnown) .none kV11 dc11 pm11 an11 cd11 ct11), sl11⟩)
    (c11 : PySem.W.codeIn K cd11 "known_row_width" = true)
    (k11 : PySem.W.keepIn K (.ref f11) = true)
    (a12 : PySem.W.nsIn K mainGlobals "are_nexts" = some (some (.ref f12)))
    (l12 : K.lookup f12 = some ⟨oc12, od12, .func (PySem.W.fnOf "are_nexts" "are_nexts" (defArgs sAreNexts) (defBody sAreNexts) (defScope sAreNexts) .none kV12 dc12 pm12 an12 cd12 ct12), sl12⟩)
    (c12 : PySem.W.codeIn K cd12 "are_nexts" = true)
    (k12 : PySem.W.keepIn K (.ref f12) = true)
    (a13 : PySem.W.nsIn K mainGlobals "are_ends" = some (some (.ref f13)))
    (l13 : K.lookup f13 = some ⟨oc13, od13, .func (PySem.W.fnOf "are_ends" "are_ends" (defArgs sAreEnds) (defBody sAreEnds) (defScope sAreEnds) .none kV13 dc13 pm13 an13 cd13 ct13), sl13⟩)
    (c13 : PySem.W.codeIn K cd13 "are_ends" = true)
    (k13 : PySem.W.keepIn K (.ref f13) = true)
    (a14 : PySem.W.nsIn K mainGlobals "is_store" = some (some (.ref f14)))
    (l14 : K.lookup f14 = some ⟨oc14, od14, .func (PySem.W.fnOf "is_store" "is_store" (defArgs sIsStore) (defBody sIsStore) (defScope sIsStore) .none kV14 dc14 pm14 an14 cd14 ct14), sl14⟩)
    (c14 : PySem.W.codeIn K cd14 "is_store" = true)
    (k14 : PySem.W.keepIn K (.ref f14) = true)
    (a15 : PySem.W.nsIn K mainGlobals "is_number" = some (some (.ref f15)))
    (l15 : K.lookup f15 = some ⟨oc15, od15, .func (PySem.W.fnOf "is_number" "is_number" (defArgs sIsNum) (defBody sIsNum) (defScope sIsNum) .none kV15 dc15 pm15 an15 (.ref cP) ct15), sl15⟩)
    (c15 : PySem.W.codeIn K (.ref cP) "is_number" = true)
    (k15 : PySem.W.keepIn K (.ref f15) = true)
    (a16 : PySem.W.nsIn K mainGlobals "is_short_number" = some (some (.ref f16)))
    (l16 : K.lookup f16 = some ⟨oc16, od16, .func (PySem.W.fnOf "is_short_number" "is_short_number" (defArgs sIsShort) (defBody sIsShort) (defScope sIsShort) .none kV16 dc16 pm16 an16 cd16 ct16), sl16⟩)
    (c16 : PySem.W.codeIn K cd16 "is_short_number" = true)
    (k16 : PySem.W.keepIn K (.ref f16) = true)
    (a17 : PySem.W.nsIn K mainGlobals "whole_lines" = some (some (.ref f17)))
    (l17 : K.lookup f17 = some ⟨oc17, od17, .func (PySem.W.fnOf "whole_lines" "whole_lines" (defArgs sWhole) (defBody sWhole) (defScope sWhole) .none kV17 dc17 pm17 an17 cd17 ct17), sl17⟩)
    (c17 : PySem.W.codeIn K cd17 "whole_lines" = true)
    (k17 : PySem.W.keepIn K (.ref f17) = true)
    (a18 : PySem.W.nsIn K mainGlobals "text_of" = some (some (.ref f18)))
    (l18 : K.lookup f18 = some ⟨oc18, od18, .func (PySem.W.fnOf "text_of" "text_of" (defArgs sTextOf) (defBody sTextOf) (defScope sTextOf) .none kV18 dc18 pm18 an18 cd18 ct18), sl18⟩)
    (c18 : PySem.W.codeIn K cd18 "text_of" = true)
    (k18 : PySem.W.keepIn K (.ref f18) = true)
    (a19 : PySem.W.nsIn K mainGlobals "print_circuit" = some (some (.ref f19)))
    (l19 : K.lookup f19 = some ⟨oc19, od19, .func (PySem.W.fnOf "print_circuit" "print_circuit" (defArgs sPrintCircuit) (defBody sPrintCircuit) (defScope sPrintCircuit) .none kV19 dc19 pm19 an19 cd19 ct19), sl19⟩)
    (c19 : PySem.W.codeIn K cd19 "print_circuit" = true)
    (k19 : PySem.W.keepIn K (.ref f19) = true)
    (a20 : PySem.W.nsIn K mainGlobals "parse_circuit" = some (some (.ref f20)))
    (l20 : K.lookup f20 = some ⟨oc20, od20, .func (PySem.W.fnOf "parse_circuit" "parse_circuit" (defArgs sParseCircuit) (defBody sParseCircuit) (defScope sParseCircuit) .none kV20 dc20 pm20 an20 cd20 ct20), sl20⟩)
    (c20 : PySem.W.codeIn K cd20 "parse_circuit" = true)
    (k20 : PySem.W.keepIn K (.ref f20) = true)
    (a21 : PySem.W.nsIn K mainGlobals "read_lines" = some (some (.ref f21)))
    (l21 : K.lookup f21 = some ⟨oc21, od21, .func (PySem.W.fnOf "read_lines" "read_lines" (defArgs sReadLines) (defBody sReadLines) (defScope sReadLines) .none kV21 dc21 pm21 an21 cd21 ct21), sl21⟩)
    (c21 : PySem.W.codeIn K cd21 "read_lines" = true)
    (k21 : PySem.W.keepIn K (.ref f21) = true)
    (a22 : PySem.W.nsIn K mainGlobals "can_follow" = some (some (.ref f22)))
    (l22 : K.lookup f22 = some ⟨oc22, od22, .func (PySem.W.fnOf "can_follow" "can_follow" (defArgs sCanFollow) (defBody sCanFollow) (defScope sCanFollow) .none kV22 dc22 pm22 an22 cd22 ct22), sl22⟩)
    (c22 : PySem.W.codeIn K cd22 "can_follow" = true)
    (k22 : PySem.W.keepIn K (.ref f22) = true)
    (a23 : PySem.W.nsIn K mainGlobals "read_row" = some (some (.ref f23)))
    (l23 : K.lookup f23 = some ⟨oc23, od23, .func (PySem.W.fnOf "read_row" "read_row" (defArgs sReadRow) (defBody sReadRow) (defScope sReadRow) .none kV23 dc23 pm23 an23 cd23 ct23), sl23⟩)
    (c23 : PySem.W.codeIn K cd23 "read_row" = true)
    (k23 : PySem.W.keepIn K (.ref f23) = true)
    (a24 : PySem.W.nsIn K mainGlobals "read_numbers" = some (some (.ref f24)))
    (l24 : K.lookup f24 = some ⟨oc24, od24, .func (PySem.W.fnOf "read_numbers" "read_numbers" (defArgs sReadNumbers) (defBody sReadNumbers) (defScope sReadNumbers) .none kV24 dc24 pm24 an24 cd24 ct24), sl24⟩)
    (c24 : PySem.W.codeIn K cd24 "read_numbers" = true)
    (k24 : PySem.W.keepIn K (.ref f24) = true)
    (a25 : PySem.W.nsIn K mainGlobals "_law_draws" = some (some (.ref f25)))
    (l25 : K.lookup f25 = some ⟨oc25, od25, .func (PySem.W.fnOf "_law_draws" "_law_draws" (defArgs sDraws) (defBody sDraws) (defScope sDraws) .none kV25 dc25 pm25 an25 cd25 ct25), sl25⟩)
    (c25 : PySem.W.codeIn K cd25 "_law_draws" = true)
    (k25 : PySem.W.keepIn K (.ref f25) = true)
    (a26 : PySem.W.nsIn K mainGlobals "_law_next" = some (some (.ref f26)))
    (l26 : K.lookup f26 = some ⟨oc26, od26, .func (PySem.W.fnOf "_law_next" "_law_next" (defArgs sNext) (defBody sNext) (defScope sNext) .none kV26 dc26 pm26 an26 cd26 ct26), sl26⟩)
    (c26 : PySem.W.codeIn K cd26 "_law_next" = true)
    (k26 : PySem.W.keepIn K (.ref f26) = true)
    (a27 : PySem.W.nsIn K mainGlobals "_law_row" = some (some (.ref f27)))
    (l27 : K.lookup f27 = some ⟨oc27, od27, .func (PySem.W.fnOf "_law_row" "_law_row" (defArgs sRow) (defBody sRow) (defScope sRow) .none kV27 dc27 pm27 an27 cd27 ct27), sl27⟩)
    (c27 : PySem.W.codeIn K cd27 "_law_row" = true)
    (k27 : PySem.W.keepIn K (.ref f27) = true)
    (a28 : PySem.W.nsIn K mainGlobals "_law_circuit" = some (some (.ref f28)))
    (l28 : K.lookup f28 = some ⟨oc28, od28, .func (PySem.W.fnOf "_law_circuit" "_law_circuit" (defArgs sCircuit) (defBody sCircuit) (defScope sCircuit) .none kV28 dc28 pm28 an28 cd28 ct28), sl28⟩)
    (c28 : PySem.W.codeIn K cd28 "_law_circuit" = true)
    (k28 : PySem.W.keepIn K (.ref f28) = true)
    (a29 : PySem.W.nsIn K mainGlobals "_law_lines" = some (some (.ref f29)))
    (l29 : K.lookup f29 = some ⟨oc29, od29, .func (PySem.W.fnOf "_law_lines" "_law_lines" (defArgs sLawLines) (defBody sLawLines) (defScope sLawLines) .none kV29 dc29 pm29 an29 cd29 ct29), sl29⟩)
    (c29 : PySem.W.codeIn K cd29 "_law_lines" = true)
    (k29 : PySem.W.keepIn K (.ref f29) = true)
    (a30 : PySem.W.nsIn K mainGlobals "_law_number" = some (some (.ref f30)))
    (l30 : K.lookup f30 = some ⟨oc30, od30, .func (PySem.W.fnOf "_law_number" "_law_number" (defArgs sLawNumber) (defBody sLawNumber) (defScope sLawNumber) .none kV30 dc30 pm30 an30 cd30 ct30), sl30⟩)
    (c30 : PySem.W.codeIn K cd30 "_law_number" = true)
    (k30 : PySem.W.keepIn K (.ref f30) = true)
    (a31 : PySem.W.nsIn K mainGlobals "_law_numbers" = some (some (.ref f31)))
    (l31 : K.lookup f31 = some ⟨oc31, od31, .func (PySem.W.fnOf "_law_numbers" "_law_numbers" (defArgs sLawNumbers) (defBody sLawNumbers) (defScope sLawNumbers) .none kV31 dc31 pm31 an31 cd31 ct31), sl31⟩)
    (c31 : PySem.W.codeIn K cd31 "_law_numbers" = true)
    (k31 : PySem.W.keepIn K (.ref f31) = true)
    (a32 : PySem.W.nsIn K mainGlobals "_law_row_of" = some (some (.ref f32)))
    (l32 : K.lookup f32 = some ⟨oc32, od32, .func (PySem.W.fnOf "_law_row_of" "_law_row_of" (defArgs sLawRowOf) (defBody sLawRowOf) (defScope sLawRowOf) .none kV32 dc32 pm32 an32 cd32 ct32), sl32⟩)
    (c32 : PySem.W.codeIn K cd32 "_law_row_of" = true)
    (k32 : PySem.W.keepIn K (.ref f32) = true)
    (a33 : PySem.W.nsIn K mainGlobals "_law_read" = some (some (.ref f33)))
    (l33 : K.lookup f33 = some ⟨oc33, od33, .func (PySem.W.fnOf "_law_read" "_law_read" (defArgs sLawRead) (defBody sLawRead) (defScope sLawRead) .none kV33 dc33 pm33 an33 cd33 ct33), sl33⟩)
    (c33 : PySem.W.codeIn K cd33 "_law_read" = true)
    (k33 : PySem.W.keepIn K (.ref f33) = true)
    (a34 : PySem.W.nsIn K mainGlobals "_law_told" = some (some (.ref f34)))
    (l34 : K.lookup f34 = some ⟨oc34, od34, .func (PySem.W.fnOf "_law_told" "_law_told" (defArgs sLawTold) (defBody sLawTold) (defScope sLawTold) .none kV34 dc34 pm34 an34 cd34 ct34), sl34⟩)
    (c34 : PySem.W.codeIn K cd34 "_law_told" = true)
    (k34 : PySem.W.keepIn K (.ref f34) = true)
    (a35 : PySem.W.nsIn K mainGlobals "_law_bent" = some (some (.ref f35)))
    (l35 : K.lookup f35 = some ⟨oc35, od35, .func (PySem.W.fnOf "_law_bent" "_law_bent" (defArgs sLawBent) (defBody sLawBent) (defScope sLawBent) .none kV35 dc35 pm35 an35 cd35 ct35), sl35⟩)
    (c35 : PySem.W.codeIn K cd35 "_law_bent" = true)
    (k35 : PySem.W.keepIn K (.ref f35) = true)
    (a36 : PySem.W.nsIn K mainGlobals "law" = some (some (.ref f36)))
    (l36 : K.lookup f36 = some ⟨oc36, od36, .func (PySem.W.fnOf "law" "law" (defArgs sLaw) (defBody sLaw) (defScope sLaw) .none kV36 dc36 pm36 an36 cd36 ct36), sl36⟩)
    (c36 : PySem.W.codeIn K cd36 "law" = true)
    (k36 : PySem.W.keepIn K (.ref f36) = true)
    (lc : K.lookup cP = some ⟨pe, pd, .fields pvs, psl⟩)
    (lp : pvs[11]? = some (.ref Tb))
    (ln : K.lookup Tb = none)
    (gCC : PySem.W.nsIn K mainGlobals "CutError" = some (some (.ref CC)))
    (gCB : PySem.W.nsIn K mainGlobals "BadLine" = some (some (.ref CB)))
    (iCB : PySem.W.findIn K (.ref CB) "__init__" = some (some (.ref fI)))
    (tI : PySem.W.typeIn K (.ref fI) = some (.type "function"))
    (lI : K.lookup fI = some ⟨ocI, odI, .func (PySem.W.fnOf "__init__" "BadLine.__init__" (defArgs sInitB) (defBody sInitB) (defScope sInitB) .none kVI dcI pmI anI cdI ctI), slI⟩)
    (cI : PySem.W.codeIn K cdI "BadLine.__init__" = true)
    (kI : PySem.W.keepIn K (.ref fI) = true)
    (xCB : K.lookup CB = some (excClassObj nmCB qCB CB NCB bsCB [.ref CC, .type "ValueError", .type "Exception", .type "BaseException", .type "object"] true snCB subCB abCB colCB ddCB m0CB m1CB m2CB m3CB m5CB "ValueError.__new__"))
    (saCB : PySem.W.findIn K (.ref CB) "__setattr__" = some (some (.builtin "object.__setattr__")))
    (gaCB : PySem.W.findIn K (.ref CB) "__getattribute__" = some (some (.builtin "BaseException.__getattribute__")))
    (ggCB : PySem.W.findIn K (.ref CB) "__getattr__" = some none)
    (exCB : PySem.W.subIn K (.ref CB) (.type "BaseException") = some true)
    (tyCB : PySem.W.typeIn K (.ref CB) = some (.type "type"))
    (kpCB : PySem.W.keepIn K (.ref CB) = true)
    (hdCB : PySem.W.hasDictIn K CB = true)
    (clCB : PySem.W.findIn K (.ref CB) "__class__" = some (some (.builtin "object.__class__")))
    (moCB : PySem.W.mroIn K CB (.type "object") = some true)
    (nRCB : PySem.W.findIn K (.ref CB) "line" = some none)
    (sg : PySem.W.specialIn K (.builtin "object.__class__") "__get__" = some (some (.builtin "getset_descriptor.__get__")))
    (tk : PySem.W.takesIn K (.builtin "object.__class__") = some true)
    (sp : PySem.W.specialIn K (.ref CC) "__getattribute__" = some (some (.builtin "type.__getattribute__")))
    (rd : PySem.W.readsIn K CC (.type "type") = true)
    (fc : PySem.W.findCls K (.ref CC) (.type "type") "__init__" = some (.val (.builtin "ValueError.__init__")))
    (sCBCB : PySem.W.subIn K (.ref CB) (.ref CB) = some true)
    (qCBCC : PySem.W.subIn K (.ref CB) (.ref CC) = some true)
    (hdCC : PySem.W.hasDictIn K CC = true)
    (tyCC : PySem.W.typeIn K (.ref CC) = some (.type "type"))
    (tDi : PySem.W.nsIn K mainGlobals "DIGITS" = some (some (.str (Str.ofString "0123456789") tkD)))
    (tw' : PySem.W.nsIn K mainGlobals "MOST_WIDTH" = some (some (.int 32 tw)))
    (tb' : PySem.W.nsIn K mainGlobals "MOST_BITS" = some (some (.int 6 tb3)))
    (tNA : PySem.W.nsIn K mainGlobals "NEXT_AT" = some (some (.int 3 t3)))
    (tTA : PySem.W.nsIn K mainGlobals "TOLD_AT" = some (some (.int 5 t5)))
    (gaS : PySem.W.nsIn K mainGlobals "SHIFTS" = some (some (.ref aS)))
    (gaT : PySem.W.nsIn K mainGlobals "TESTS" = some (some (.ref aT)))
    (gaA : PySem.W.nsIn K mainGlobals "SAME_WIDTH" = some (some (.ref aA)))
    (gaP : PySem.W.nsIn K mainGlobals "PARTS" = some (some (.ref aP)))
    (gaL : PySem.W.nsIn K mainGlobals "ROW_LENGTHS" = some (some (.ref aL)))
    (gaG : PySem.W.nsIn K mainGlobals "SIGNS" = some (some (.ref aG)))
    (gaW : PySem.W.nsIn K mainGlobals "LINE_WORDS" = some (some (.ref aW)))
    (gaM : PySem.W.nsIn K mainGlobals "LINE_NUMBERS" = some (some (.ref aM)))
    (oS : K.lookup aS = some ⟨.type "tuple", ddS, .seq #[.str "<<" u0, .str ">>" u1] nS, slS⟩)
    (oT : K.lookup aT = some ⟨.type "tuple", ddT, .seq #[.str "==" u2, .str "<" u3] nT, slT⟩)
    (oA : K.lookup aA = some ⟨.type "tuple", ddA, .seq #[.str "+" u4, .str "-" u5, .str "*" u6, .str "&" u7, .str "|" u8, .str "^" u9] nA, slA⟩)
    (oG : K.lookup aG = some ⟨.type "tuple", ddG, .seq #[.str "+" y0, .str "-" y1, .str "*" y2, .str "&" y3, .str "|" y4, .str "^" y5, .str "==" y6, .str "<" y7, .str "<<" y8, .str ">>" y9] nG, slG⟩)
    (oW : K.lookup aW = some ⟨.type "tuple", none, .seq #[.str "register" x0, .str "memory" x1, .str "row" x2, .str "next" x3, .str "store" x4, .str "told" x5] nW, slW⟩)
    (oP : K.lookup aP = some ⟨.type "dict", none, .dict esP nP, #[]⟩)
    (oL : K.lookup aL = some ⟨.type "dict", none, .dict esL nL, #[]⟩)
    (oM : K.lookup aM = some ⟨.type "dict", none, .dict esM nM, #[]⟩)
    (lP' : PySem.W.KeysLit w.params esP.toList)
    (lL' : PySem.W.KeysLit w.params esL.toList)
    (lM' : PySem.W.KeysLit w.params esM.toList)
    (kL : esL.toList.map keyS = rowLens.map fun p => some p.1)
    (sL : (aL == sysModules) = false)
    (sM : (aM == sysModules) = false)
    (p_look : PySem.W.nsIn K aP "look" = some (some (.ref t_look)))
    (q_look : K.lookup t_look = some ⟨.type "tuple", d_look, .seq #[.int 2 v_look0] n_look, s_look⟩)
    (p_not : PySem.W.nsIn K aP "not" = some (some (.ref t_not)))
    (q_not : K.lookup t_not = some ⟨.type "tuple", d_not, .seq #[.int 1 v_not0] n_not, s_not⟩)
    (p_op : PySem.W.nsIn K aP "op" = some (some (.ref t_op)))
    (q_op : K.lookup t_op = some ⟨.type "tuple", d_op, .seq #[.int 2 v_op0, .int 3 v_op1] n_op, s_op⟩)
    (p_pick : PySem.W.nsIn K aP "pick" = some (some (.ref t_pick)))
    (q_pick : K.lookup t_pick = some ⟨.type "tuple", d_pick, .seq #[.int 1 v_pick0, .int 2 v_pick1, .int 3 v_pick2] n_pick, s_pick⟩)
    (p_wide : PySem.W.nsIn K aP "wide" = some (some (.ref t_wide)))
    (q_wide : K.lookup t_wide = some ⟨.type "tuple", d_wide, .seq #[.int 1 v_wide0] n_wide, s_wide⟩)
    (p_part : PySem.W.nsIn K aP "part" = some (some (.ref t_part)))
    (q_part : K.lookup t_part = some ⟨.type "tuple", d_part, .seq #[.int 1 v_part0] n_part, s_part⟩)
    (p_join : PySem.W.nsIn K aP "join" = some (some (.ref t_join)))
    (q_join : K.lookup t_join = some ⟨.type "tuple", d_join, .seq #[.int 1 v_join0, .int 2 v_join1] n_join, s_join⟩)
    (r00 : PySem.W.nsIn K aL "lit" = some (some (.int 3 w_lit)))
    (r01 : PySem.W.nsIn K aL "reg" = some (some (.int 2 w_reg)))
    (r02 : PySem.W.nsIn K aL "look" = some (some (.int 3 w_look)))
    (r03 : PySem.W.nsIn K aL "not" = some (some (.int 2 w_not)))
    (r04 : PySem.W.nsIn K aL "op" = some (some (.int 4 w_op)))
    (r05 : PySem.W.nsIn K aL "pick" = some (some (.int 4 w_pick)))
    (r06 : PySem.W.nsIn K aL "wide" = some (some (.int 3 w_wide)))
    (r07 : PySem.W.nsIn K aL "part" = some (some (.int 4 w_part)))
    (r08 : PySem.W.nsIn K aL "join" = some (some (.int 3 w_join)))
    (r09 : PySem.W.nsIn K aL "+" = some none)
    (r10 : PySem.W.nsIn K aL "-" = some none)
    (r11 : PySem.W.nsIn K aL "*" = some none)
    (r12 : PySem.W.nsIn K aL "&" = some none)
    (r13 : PySem.W.nsIn K aL "|" = some none)
    (r14 : PySem.W.nsIn K aL "^" = some none)
    (r15 : PySem.W.nsIn K aL "==" = some none)
    (r16 : PySem.W.nsIn K aL "<" = some none)
    (r17 : PySem.W.nsIn K aL "<<" = some none)
    (r18 : PySem.W.nsIn K aL ">>" = some none)
    (r19 : PySem.W.nsIn K aL "none" = some none)
    (n00 : PySem.W.nsIn K aM "register" = some (some (.int 2 z_register')))
    (n01 : PySem.W.nsIn K aM "memory" = some (some (.int 2 z_memory')))
    (n02 : PySem.W.nsIn K aM "row" = some none)
    (n03 : PySem.W.nsIn K aM "next" = some none)
    (n04 : PySem.W.nsIn K aM "store" = some (some (.int 4 z_store')))
    (n05 : PySem.W.nsIn K aM "told" = some none)
    (z_type : PySem.W.nsIn K mainGlobals "type" = some none)
    (z_int : PySem.W.nsIn K mainGlobals "int" = some none)
    (z_tuple : PySem.W.nsIn K mainGlobals "tuple" = some none)
    (z_str : PySem.W.nsIn K mainGlobals "str" = some none)
    (z_len : PySem.W.nsIn K mainGlobals "len" = some none)
    (z_all : PySem.W.nsIn K mainGlobals "all" = some none)
    (z_zip : PySem.W.nsIn K mainGlobals "zip" = some none)
    (z_range : PySem.W.nsIn K mainGlobals "range" = some none)
    (z_abs : PySem.W.nsIn K mainGlobals "abs" = some none)
    (z_isinstance : PySem.W.nsIn K mainGlobals "isinstance" = some none)
    (z_enumerate : PySem.W.nsIn K mainGlobals "enumerate" = some none) :
    LamX.LawAtS l w K CX0 8 63 "script" mg fa h := by
  have M := fun {x : Str} {v : Value} (e : PySem.W.nsIn K mainGlobals x = some (some v)) => PySem.W.mg_of X G e
  have Z := fun {x : Str} (e : PySem.W.nsIn K mainGlobals x = some none) => PySem.W.mg_none_of X G e
  have e := hfa.symm.trans (M a36)
  cases e
  have line : ∀ n : Nat, n ≤ 100 → n ≤ sizeLine := fun n h => by
    rw [sizeLine_eq]
    omega
  have F0 := fun_mk (st := sParts) l0 c0 k0
  have B0 := F0.binds (ps := ["tree"]) fun _ _ _ _ _ _ us hl => match us, hl with | [_], _ => rfl
  have F1 := fun_mk (st := sMask) l1 c1 k1
  have B1 := F1.binds (ps := ["width"]) fun _ _ _ _ _ _ us hl => match us, hl with | [_], _ => rfl
  have F2 := fun_mk (st := sFitted) l2 c2 k2
  have B2 := F2.binds (ps := ["node", "widths"]) fun _ _ _ _ _ _ us hl => match us, hl with | [_, _], _ => rfl
  have F3 := fun_mk (st := sOpw) l3 c3 k3
  have B3 := F3.binds (ps := ["sign", "one", "other"]) fun _ _ _ _ _ _ us hl => match us, hl with | [_, _, _], _ => rfl
  have F4 := fun_mk (st := sIsCircuit) l4 c4 k4
  have B4 := F4.binds (ps := ["thing"]) fun _ _ _ _ _ _ us hl => match us, hl with | [_], _ => rfl
  have F5 := fun_mk (st := sIsTuple) l5 c5 k5
  have B5 := F5.binds (ps := ["thing", "many"]) fun _ _ _ _ _ _ us hl => match us, hl with | [_, _], _ => rfl
  have F6 := fun_mk (st := sIsBelow) l6 c6 k6
  have B6 := F6.binds (ps := ["thing", "limit"]) fun _ _ _ _ _ _ us hl => match us, hl with | [_, _], _ => rfl
  have F7 := fun_mk (st := sIsWidth) l7 c7 k7
  have B7 := F7.binds (ps := ["thing"]) fun _ _ _ _ _ _ us hl => match us, hl with | [_], _ => rfl
  have F8 := fun_mk (st := sIsRegister) l8 c8 k8
  have B8 := F8.binds (ps := ["thing"]) fun _ _ _ _ _ _ us hl => match us, hl with | [_], _ => rfl
  have F9 := fun_mk (st := sIsMemory) l9 c9 k9
  have B9 := F9.binds (ps := ["thing"]) fun _ _ _ _ _ _ us hl => match us, hl with | [_], _ => rfl
  have F10 := fun_mk (st := sRowWidth) l10 c10 k10
  have B10 := F10.binds (ps := ["circuit", "widths", "row"]) fun _ _ _ _ _ _ us hl => match us, hl with | [_, _, _], _ => rfl
  have F11 := fun_mk (st := sKnown) l11 c11 k11
  have B11 := F11.binds (ps := ["circuit", "widths", "row"]) fun _ _ _ _ _ _ us hl => match us, hl with | [_, _, _], _ => rfl
  have F12 := fun_mk (st := sAreNexts) l12 c12 k12
  have B12 := F12.binds (ps := ["registers", "widths", "nexts"]) fun _ _ _ _ _ _ us hl => match us, hl with | [_, _, _], _ => rfl
  have F13 := fun_mk (st := sAreEnds) l13 c13 k13
  have B13 := F13.binds (ps := ["memories", "widths", "stores", "outs"]) fun _ _ _ _ _ _ us hl => match us, hl with | [_, _, _, _], _ => rfl
  have F14 := fun_mk (st := sIsStore) l14 c14 k14
  have B14 := F14.binds (ps := ["memories", "widths", "thing"]) fun _ _ _ _ _ _ us hl => match us, hl with | [_, _, _], _ => rfl
  have F15 := fun_mk (st := sIsNum) l15 c15 k15
  have B15 := F15.binds (ps := ["text"]) fun _ _ _ _ _ _ us hl => match us, hl with | [_], _ => rfl
  have F16 := fun_mk (st := sIsShort) l16 c16 k16
  have B16 := F16.binds (ps := ["text"]) fun _ _ _ _ _ _ us hl => match us, hl with | [_], _ => rfl
  have F17 := fun_mk (st := sWhole) l17 c17 k17
  have B17 := F17.binds (ps := ["text"]) fun _ _ _ _ _ _ us hl => match us, hl with | [_], _ => rfl
  have F18 := fun_mk (st := sTextOf) l18 c18 k18
  have B18 := F18.binds (ps := ["lines"]) fun _ _ _ _ _ _ us hl => match us, hl with | [_], _ => rfl
  have F19 := fun_mk (st := sPrintCircuit) l19 c19 k19
  have B19 := F19.binds (ps := ["circuit"]) fun _ _ _ _ _ _ us hl => match us, hl with | [_], _ => rfl
  have F20 := fun_mk (st := sParseCircuit) l20 c20 k20
  have B20 := F20.binds (ps := ["text"]) fun _ _ _ _ _ _ us hl => match us, hl with | [_], _ => rfl
  have F21 := fun_mk (st := sReadLines) l21 c21 k21
  have B21 := F21.binds (ps := ["lines"]) fun _ _ _ _ _ _ us hl => match us, hl with | [_], _ => rfl
  have F22 := fun_mk (st := sCanFollow) l22 c22 k22
  have B22 := F22.binds (ps := ["place", "word"]) fun _ _ _ _ _ _ us hl => match us, hl with | [_, _], _ => rfl
  have F23 := fun_mk (st := sReadRow) l23 c23 k23
  have B23 := F23.binds (ps := ["parts"]) fun _ _ _ _ _ _ us hl => match us, hl with | [_], _ => rfl
  have F24 := fun_mk (st := sReadNumbers) l24 c24 k24
  have B24 := F24.binds (ps := ["parts", "many"]) fun _ _ _ _ _ _ us hl => match us, hl with | [_, _], _ => rfl
  have F25 := fun_mk (st := sDraws) l25 c25 k25
  have B25 := F25.binds (ps := ["script", "many"]) fun _ _ _ _ _ _ us hl => match us, hl with | [_, _], _ => rfl
  have F26 := fun_mk (st := sNext) l26 c26 k26
  have B26 := F26.binds (ps := ["w", "many"]) fun _ _ _ _ _ _ us hl => match us, hl with | [_, _], _ => rfl
  have F27 := fun_mk (st := sRow) l27 c27 k27
  have B27 := F27.binds (ps := ["w", "c", "widths"]) fun _ _ _ _ _ _ us hl => match us, hl with | [_, _, _], _ => rfl
  have F28 := fun_mk (st := sCircuit) l28 c28 k28
  have B28 := F28.binds (ps := ["w", "most"]) fun _ _ _ _ _ _ us hl => match us, hl with | [_, _], _ => rfl
  have F29 := fun_mk (st := sLawLines) l29 c29 k29
  have B29 := F29.binds (ps := ["circuit"]) fun _ _ _ _ _ _ us hl => match us, hl with | [_], _ => rfl
  have F30 := fun_mk (st := sLawNumber) l30 c30 k30
  have B30 := F30.binds (ps := ["text"]) fun _ _ _ _ _ _ us hl => match us, hl with | [_], _ => rfl
  have F31 := fun_mk (st := sLawNumbers) l31 c31 k31
  have B31 := F31.binds (ps := ["parts_v"]) fun _ _ _ _ _ _ us hl => match us, hl with | [_], _ => rfl
  have F32 := fun_mk (st := sLawRowOf) l32 c32 k32
  have B32 := F32.binds (ps := ["parts_v"]) fun _ _ _ _ _ _ us hl => match us, hl with | [_], _ => rfl
  have F33 := fun_mk (st := sLawRead) l33 c33 k33
  have B33 := F33.binds (ps := ["text"]) fun _ _ _ _ _ _ us hl => match us, hl with | [_], _ => rfl
  have F34 := fun_mk (st := sLawTold) l34 c34 k34
  have B34 := F34.binds (ps := ["text"]) fun _ _ _ _ _ _ us hl => match us, hl with | [_], _ => rfl
  have F35 := fun_mk (st := sLawBent) l35 c35 k35
  have B35 := F35.binds (ps := ["w", "lines"]) fun _ _ _ _ _ _ us hl => match us, hl with | [_, _], _ => rfl
  have F36 := fun_mk (st := sLaw) l36 c36 k36
  have B36 := F36.binds (ps := ["script"]) fun _ _ _ _ _ _ us hl => match us, hl with | [_], _ => rfl
  have FI := fun_mk (st := sInitB) lI cI kI
  have BI := FI.binds (ps := ["self", "line"]) fun _ _ _ _ _ _ us hl => match us, hl with | [_, _], _ => rfl
  have OB : OexC K CB := ⟨⟨_, _, _, _, _, _, _, _, _, _, _, _, _, _, _, xCB, by show PySem.HandSPX.refsVE [.type "ValueError", .type "Exception", .type "BaseException", .type "object"] = true; decide +kernel⟩, saCB, exCB, tyCB, kpCB⟩
  have RB : ErrB K mg CB fI := ⟨OB, iCB, nRCB, M gCB⟩
  have XB : ErrT K mg CB := ⟨M gCB, ⟨gaCB, ggCB, exCB, hdCB⟩, ⟨gaCB, ggCB, exCB, hdCB, clCB, sg, tk, moCB⟩, nRCB⟩
  have GP : Gp mg tw tb3 := ⟨Z z_type, Z z_int, Z z_tuple, Z z_str, Z z_len, Z z_all, Z z_zip, M tw', M tb'⟩
  have GSs : Gs K mg aS aT aA := ⟨M gaS, M gaT, M gaA, fun H => .inr ⟨_, _, _, oS, rfl, rfl, line 2 (by decide), .cons ⟨_, rfl⟩ (.cons ⟨_, rfl⟩ .nil)⟩, fun H => .inr ⟨_, _, _, oT, rfl, rfl, line 2 (by decide), .cons ⟨_, rfl⟩ (.cons ⟨_, rfl⟩ .nil)⟩, fun H => .inr ⟨_, _, _, oA, rfl, rfl, line 6 (by decide), .cons ⟨_, rfl⟩ (.cons ⟨_, rfl⟩ (.cons ⟨_, rfl⟩ (.cons ⟨_, rfl⟩ (.cons ⟨_, rfl⟩ (.cons ⟨_, rfl⟩ .nil)))))⟩⟩
  have BL : Bl mg := ⟨Z z_len, Z z_range, Z z_abs, Z z_int, Z z_str⟩
  have BB : BT mg := ⟨Z z_len, Z z_all, Z z_tuple, Z z_int⟩
  have sG : ∀ H, SqT K H aG (signW.map V.str) := fun H => .inr ⟨_, _, _, oG, rfl, rfl, line 10 (by decide), .cons ⟨_, rfl⟩ (.cons ⟨_, rfl⟩ (.cons ⟨_, rfl⟩ (.cons ⟨_, rfl⟩ (.cons ⟨_, rfl⟩ (.cons ⟨_, rfl⟩ (.cons ⟨_, rfl⟩ (.cons ⟨_, rfl⟩ (.cons ⟨_, rfl⟩ (.cons ⟨_, rfl⟩ .nil)))))))))⟩
  have sW : ∀ H, SqT K H aW (lineW.map V.str) := fun H => .inr ⟨_, _, _, oW, rfl, rfl, line 6 (by decide), .cons ⟨_, rfl⟩ (.cons ⟨_, rfl⟩ (.cons ⟨_, rfl⟩ (.cons ⟨_, rfl⟩ (.cons ⟨_, rfl⟩ (.cons ⟨_, rfl⟩ .nil)))))⟩
  have PT : PtOk K w aP := by
    intro k hk
    have hc : k = "look" ∨ k = "not" ∨ k = "op" ∨ k = "pick" ∨ k = "wide" ∨ k = "part" ∨ k = "join" := by
      unfold kindsP at hk
      simpa using hk
    rcases hc with rfl | rfl | rfl | rfl | rfl | rfl | rfl
    · exact ⟨t_look, ⟨_, _, _, oP, lP', p_look, rfl⟩, fun H => .inr ⟨_, _, _, q_look, rfl, rfl, line 1 (by decide), .cons ⟨_, rfl⟩ .nil⟩⟩
    · exact ⟨t_not, ⟨_, _, _, oP, lP', p_not, rfl⟩, fun H => .inr ⟨_, _, _, q_not, rfl, rfl, line 1 (by decide), .cons ⟨_, rfl⟩ .nil⟩⟩
    · exact ⟨t_op, ⟨_, _, _, oP, lP', p_op, rfl⟩, fun H => .inr ⟨_, _, _, q_op, rfl, rfl, line 2 (by decide), .cons ⟨_, rfl⟩ (.cons ⟨_, rfl⟩ .nil)⟩⟩
    · exact ⟨t_pick, ⟨_, _, _, oP, lP', p_pick, rfl⟩, fun H => .inr ⟨_, _, _, q_pick, rfl, rfl, line 3 (by decide), .cons ⟨_, rfl⟩ (.cons ⟨_, rfl⟩ (.cons ⟨_, rfl⟩ .nil))⟩⟩
    · exact ⟨t_wide, ⟨_, _, _, oP, lP', p_wide, rfl⟩, fun H => .inr ⟨_, _, _, q_wide, rfl, rfl, line 1 (by decide), .cons ⟨_, rfl⟩ .nil⟩⟩
    · exact ⟨t_part, ⟨_, _, _, oP, lP', p_part, rfl⟩, fun H => .inr ⟨_, _, _, q_part, rfl, rfl, line 1 (by decide), .cons ⟨_, rfl⟩ .nil⟩⟩
    · exact ⟨t_join, ⟨_, _, _, oP, lP', p_join, rfl⟩, fun H => .inr ⟨_, _, _, q_join, rfl, rfl, line 2 (by decide), .cons ⟨_, rfl⟩ (.cons ⟨_, rfl⟩ .nil)⟩⟩
  have LN : LnOk K w aL := by
    refine ⟨⟨_, _, oL, lL', sL⟩, fun k hk => ?_⟩
    have hc : k = "lit" ∨ k = "reg" ∨ k = "look" ∨ k = "not" ∨ k = "op" ∨ k = "pick" ∨ k = "wide" ∨ k = "part" ∨ k = "join" ∨ k = "+" ∨ k = "-" ∨ k = "*" ∨ k = "&" ∨ k = "|" ∨ k = "^" ∨ k = "==" ∨ k = "<" ∨ k = "<<" ∨ k = ">>" ∨ k = "none" := by
      unfold strsL at hk
      simpa using hk
    rcases hc with rfl | rfl | rfl | rfl | rfl | rfl | rfl | rfl | rfl | rfl | rfl | rfl | rfl | rfl | rfl | rfl | rfl | rfl | rfl | rfl
    · exact ⟨_, .int 3, r00, ⟨_, rfl⟩, by decide +kernel⟩
    · exact ⟨_, .int 2, r01, ⟨_, rfl⟩, by decide +kernel⟩
    · exact ⟨_, .int 3, r02, ⟨_, rfl⟩, by decide +kernel⟩
    · exact ⟨_, .int 2, r03, ⟨_, rfl⟩, by decide +kernel⟩
    · exact ⟨_, .int 4, r04, ⟨_, rfl⟩, by decide +kernel⟩
    · exact ⟨_, .int 4, r05, ⟨_, rfl⟩, by decide +kernel⟩
    · exact ⟨_, .int 3, r06, ⟨_, rfl⟩, by decide +kernel⟩
    · exact ⟨_, .int 4, r07, ⟨_, rfl⟩, by decide +kernel⟩
    · exact ⟨_, .int 3, r08, ⟨_, rfl⟩, by decide +kernel⟩
    · exact ⟨_, .non, r09, rfl, by decide +kernel⟩
    · exact ⟨_, .non, r10, rfl, by decide +kernel⟩
    · exact ⟨_, .non, r11, rfl, by decide +kernel⟩
    · exact ⟨_, .non, r12, rfl, by decide +kernel⟩
    · exact ⟨_, .non, r13, rfl, by decide +kernel⟩
    · exact ⟨_, .non, r14, rfl, by decide +kernel⟩
    · exact ⟨_, .non, r15, rfl, by decide +kernel⟩
    · exact ⟨_, .non, r16, rfl, by decide +kernel⟩
    · exact ⟨_, .non, r17, rfl, by decide +kernel⟩
    · exact ⟨_, .non, r18, rfl, by decide +kernel⟩
    · exact ⟨_, .non, r19, rfl, by decide +kernel⟩
  have LD : LenD K w aL esL nL := by
    refine ⟨⟨oL, lL', sL⟩, fun z hz => nsIn_no oL kL fun p hp e => ?_, fun z k hz => ?_⟩
    · exact lens_mem hp (by rw [e]; exact hz)
    · obtain ⟨q, hq, e1, e2⟩ := lens_at hz
      subst e1
      subst e2
      have hc : q = (("lit", 3) : Str × Nat) ∨ q = (("reg", 2) : Str × Nat) ∨ q = (("look", 3) : Str × Nat) ∨ q = (("not", 2) : Str × Nat) ∨ q = (("op", 4) : Str × Nat) ∨ q = (("pick", 4) : Str × Nat) ∨ q = (("wide", 3) : Str × Nat) ∨ q = (("part", 4) : Str × Nat) ∨ q = (("join", 3) : Str × Nat) := by
        unfold rowLens at hq
        simpa using hq
      rcases hc with rfl | rfl | rfl | rfl | rfl | rfl | rfl | rfl | rfl
      · exact ⟨_, r00⟩
      · exact ⟨_, r01⟩
      · exact ⟨_, r02⟩
      · exact ⟨_, r03⟩
      · exact ⟨_, r04⟩
      · exact ⟨_, r05⟩
      · exact ⟨_, r06⟩
      · exact ⟨_, r07⟩
      · exact ⟨_, r08⟩
  have MN : ∀ z ∈ lineW, ∃ r v, PySem.W.nsIn K aM z = some r ∧ RelV v (r.getD .none) ∧ v = mV (manyS (lineW.idxOf z)) := by
    intro k hk
    have hc : k = "register" ∨ k = "memory" ∨ k = "row" ∨ k = "next" ∨ k = "store" ∨ k = "told" := by
      unfold lineW at hk
      simpa using hk
    rcases hc with rfl | rfl | rfl | rfl | rfl | rfl
    · exact ⟨_, .int 2, n00, ⟨_, rfl⟩, by decide +kernel⟩
    · exact ⟨_, .int 2, n01, ⟨_, rfl⟩, by decide +kernel⟩
    · exact ⟨_, .non, n02, rfl, by decide +kernel⟩
    · exact ⟨_, .non, n03, rfl, by decide +kernel⟩
    · exact ⟨_, .int 4, n04, ⟨_, rfl⟩, by decide +kernel⟩
    · exact ⟨_, .non, n05, rfl, by decide +kernel⟩
  obtain ⟨hP, hC⟩ := own _ _ _ _ _ _ _ _ _ (M a15) l15 rfl rfl lc lp
  refine ⟨PySem.W.fnOf "law" "law" (defArgs sLaw) (defBody sLaw) (defScope sLaw) .none kV36 dc36 pm36 an36 cd36 ct36, [(cP, Tb)], spLaw K Tb, fun p hp => ?_, fun p hp => ?_, fun p hp => ?_, fun s u => .of_eq rfl, fun H a ns hl _ hH hS => ⟨a, ns, rfl, hS, hl, ⟨#[], hH _ (List.mem_singleton.mpr rfl), trivial⟩, fun _ => rfl⟩, fun base _ _ TB => ?_⟩
  · rw [List.mem_singleton.mp hp]
    exact hP
  · rw [List.mem_singleton.mp hp]
    exact ln
  · rw [List.mem_singleton.mp hp]
    exact hC
  · have tb0 := TB _ (List.mem_singleton.mpr rfl)
    have tb : TabB base mg cP Tb := ⟨tb0.code, tb0.bm, tb0.gP⟩
    have G15 := ok_isnum (P := l.prog) (w := w) (fd := PySem.W.fnOf "is_number" "is_number" (defArgs sIsNum) (defBody sIsNum) (defScope sIsNum) .none kV15 dc15 pm15 an15 (.ref cP) ct15) l15 c15 (M tDi) (Z z_all) tb
    have GI : FnOk l.prog w K mg base CX0 1 fI _ ["self", "line"] (spInitB K) := ok_initB FI (M gCC) sp rd fc
    have G16 : FnOk l.prog w K mg base CX0 2 f16 _ ["text"] (spShort Tb) := ok_short F16 G15 k15 B15 (M a15) (Z z_len)
    have G1 : FnOk l.prog w K mg base CX0 1 f1 _ ["width"] spMask := ok_mask F1
    have G5 : FnOk l.prog w K mg base CX0 1 f5 _ ["thing", "many"] (spIsTuple K) := ok_isTuple F5 GP
    have G6 : FnOk l.prog w K mg base CX0 1 f6 _ ["thing", "limit"] (spIsBelow K) := ok_isBelow F6 GP
    have G7 : FnOk l.prog w K mg base CX0 2 f7 _ ["thing"] (spIsWidth K) := ok_isWidth F7 GP G6 k6 B6 (M a6)
    have G8 : FnOk l.prog w K mg base CX0 3 f8 _ ["thing"] (spD K regB) := ok_isRegister F8 G6 k6 B6 (M a6) G5 k5 B5 (M a5) G7 k7 B7 (M a7) G1 k1 B1 (M a1)
    have G9 : FnOk l.prog w K mg base CX0 3 f9 _ ["thing"] (spD K memB) := ok_isMemory F9 GP G6 k6 B6 (M a6) G5 k5 B5 (M a5) G7 k7 B7 (M a7)
    have G3 : FnOk l.prog w K mg base CX0 1 f3 _ ["sign", "one", "other"] (spOpw K) := ok_opw F3 GSs
    have G2 : FnOk l.prog w K mg base CX0 2 f2 _ ["node", "widths"] (spFitted K) := ok_fitted F2 GP G3 k3 B3 (M a3)
    have G0 : FnOk l.prog w K mg base CX0 1 f0 _ ["tree"] (spParts K w aP) := ok_parts F0 (M gaP)
    have G11 : FnOk l.prog w K mg base CX0 3 f11 _ ["circuit", "widths", "row"] (spKnown K) := ok_known F11 G0 k0 B0 (M a0) G2 k2 B2 (M a2) PT
    have G10 : FnOk l.prog w K mg base CX0 4 f10 _ ["circuit", "widths", "row"] (spRowWidth K) := ok_rowWidth F10 GP (M gaL) LN PT G0 k0 B0 (M a0) G6 k6 B6 (M a6) G7 k7 B7 (M a7) G1 k1 B1 (M a1) G11 k11 B11 (M a11)
    have G12 : FnOk l.prog w K mg base CX0 2 f12 _ ["registers", "widths", "nexts"] (spAreNexts K) := ok_areNexts F12 GP G6 k6 B6 (M a6)
    have G14 : FnOk l.prog w K mg base CX0 2 f14 _ ["memories", "widths", "thing"] (spIsStore K) := ok_isStore F14 GP G6 k6 B6 (M a6) G5 k5 B5 (M a5)
    have G13 : FnOk l.prog w K mg base CX0 3 f13 _ ["memories", "widths", "stores", "outs"] (spAreEnds K) := ok_areEnds F13 GP G6 k6 B6 (M a6) G14 k14 B14 (M a14)
    have G4 : FnOk l.prog w K mg base CX0 5 f4 _ ["thing"] (spIsCircuit K) := ok_isCircuit F4 GP G5 k5 B5 (M a5) G8 k8 B8 (M a8) G9 k9 B9 (M a9) G10 k10 B10 (M a10) G12 k12 B12 (M a12) G13 k13 B13 (M a13)
    have G17 : FnOk l.prog w K mg base (L2.CX l.prog w) 3 f17 _ ["text"] (spWhole K CB) := ok_whole F17 BB RB tI GI BI
    have G18 : FnOk l.prog w K mg base CX0 1 f18 _ ["lines"] (spTextOf K) := ok_textOf F18
    have G19 : FnOk l.prog w K mg base CX0 2 f19 _ ["circuit"] (spPrint K) := ok_print F19 (Z z_str) G18 k18 B18 (M a18)
    have G22 : FnOk l.prog w K mg base CX0 1 f22 _ ["place", "word"] spCanF := ok_canF F22 (M gaW) sW oW rfl rfl (M tNA) (M tTA)
    have G24 : FnOk l.prog w K mg base CX0 3 f24 _ ["parts", "many"] (spRNum K Tb) := ok_readNums F24 BB G16 k16 B16 (M a16)
    have G23 : FnOk l.prog w K mg base CX0 4 f23 _ ["parts"] (spRowL K Tb) := ok_readRow F23 BB LD (M gaL) (M gaG) sG G24 k24 B24 (M a24)
    have G21 : FnOk l.prog w K mg base (L2.CX l.prog w) 5 f21 _ ["lines"] (spReadL K Tb CB) := ok_readLines F21 ⟨Z z_enumerate⟩ (M gaW) sW oW rfl rfl (M gaM) ⟨oM, lM', sM⟩ MN G22 k22 B22 (M a22) G23 k23 B23 (M a23) G24 k24 B24 (M a24) RB tI GI BI
    have G20 : FnOk l.prog w K mg base (L2.CX l.prog w) 6 f20 _ ["text"] (spParse K Tb CB) := ok_parse F20 BB G17 k17 B17 (M a17) G21 k21 B21 (M a21) G4 k4 B4 (M a4) RB tI GI BI
    have G25 : FnOk l.prog w K mg base CX0 1 f25 _ ["script", "many"] (spDraws K) := ok_draws F25 BL
    have G26 : FnOk l.prog w K mg base CX0 1 f26 _ ["w", "many"] spNext := ok_next F26 BL
    have G27 : FnOk l.prog w K mg base CX0 2 f27 _ ["w", "c", "widths"] (spRow K) := ok_row F27 G26 k26 B26 (M a26) BL
    have G28 : FnOk l.prog w K mg base CX0 3 f28 _ ["w", "most"] (spCircuit K) := ok_circuit F28 G26 k26 B26 (M a26) G27 k27 B27 (M a27) BL (Z z_tuple)
    have G29 : FnOk l.prog w K mg base CX0 1 f29 _ ["circuit"] (spLines K) := ok_lines F29 (Z z_str)
    have G30 : FnOk l.prog w K mg base CX0 1 f30 _ ["text"] spLNum := ok_lnumber F30 BB
    have G31 : FnOk l.prog w K mg base CX0 2 f31 _ ["parts_v"] (spLNums K) := ok_lnumbers F31 BB G30 k30 B30 (M a30)
    have G32 : FnOk l.prog w K mg base CX0 3 f32 _ ["parts_v"] (spLRow K) := ok_lrowOf F32 BB G31 k31 B31 (M a31)
    have G33 : FnOk l.prog w K mg base CX0 6 f33 _ ["text"] (spReadD K) := ok_lread F33 BB BL G32 k32 B32 (M a32) G31 k31 B31 (M a31) G4 k4 B4 (M a4)
    have G34 : FnOk l.prog w K mg base CX0 7 f34 _ ["text"] (spTold K Tb) := ok_told F34 XB (M gCC) (Z z_isinstance) G20 k20 B20 (M a20) (PySem.W.exm_ref exCB hdCB tyCB sCBCB) (kit_ref hdCC tyCC qCBCC)
    have G35 : FnOk l.prog w K mg base CX0 2 f35 _ ["w", "lines"] (spBent K) := ok_bent F35 BB G26 k26 B26 (M a26)
    exact ok_law F36 BB BL (Z z_isinstance) G25 k25 B25 (M a25) G28 k28 B28 (M a28) G29 k29 B29 (M a29) G19 k19 B19 (M a19) G34 k34 B34 (M a34) G35 k35 B35 (M a35) G33 k33 B33 (M a33)
end C1

open PySem PySem.W PyProof.Rows
set_option maxRecDepth 100000 in
set_option maxHeartbeats 0 in
theorem PySem.Challenge.cw_stagecut_k13_texts_of_circuits_holds : PySem.Challenge.rw_stagecut_k13_texts_of_circuits.Holds := by
  w_on; o_law; k_head; (case hw => w_witness2)
  k_fill
  refine C1.walk_ofDef (l := PySem.Challenge.rw_stagecut_k13_texts_of_circuits) (n := 63) (k := 8) (x := "script") (nm := "is_number") (CX := fun _ => L2.CX0) rfl (by decide) rfl ⟨rfl, by decide, by decide⟩ (by decide +kernel) (fun w h Y => PySem.W.kIn_of Y) ?F (fun _ _ _ _ _ h => h)
  case F =>
    intro w mg fa h Y KX G hmg own
    refine' C1.all_mk KX G hmg own ?a0 ?l0 ?c0 ?k0 ?a1 ?l1 ?c1 ?k1 ?a2 ?l2 ?c2 ?k2 ?a3 ?l3 ?c3 ?k3 ?a4 ?l4 ?c4 ?k4 ?a5 ?l5 ?c5 ?k5 ?a6 ?l6 ?c6 ?k6 ?a7 ?l7 ?c7 ?k7 ?a8 ?l8 ?c8 ?k8 ?a9 ?l9 ?c9 ?k9 ?a10 ?l10 ?c10 ?k10 ?a11 ?l11 ?c11 ?k11 ?a12 ?l12 ?c12 ?k12 ?a13 ?l13 ?c13 ?k13 ?a14 ?l14 ?c14 ?k14 ?a15 ?l15 ?c15 ?k15 ?a16 ?l16 ?c16 ?k16 ?a17 ?l17 ?c17 ?k17 ?a18 ?l18 ?c18 ?k18 ?a19 ?l19 ?c19 ?k19 ?a20 ?l20 ?c20 ?k20 ?a21 ?l21 ?c21 ?k21 ?a22 ?l22 ?c22 ?k22 ?a23 ?l23 ?c23 ?k23 ?a24 ?l24 ?c24 ?k24 ?a25 ?l25 ?c25 ?k25 ?a26 ?l26 ?c26 ?k26 ?a27 ?l27 ?c27 ?k27 ?a28 ?l28 ?c28 ?k28 ?a29 ?l29 ?c29 ?k29 ?a30 ?l30 ?c30 ?k30 ?a31 ?l31 ?c31 ?k31 ?a32 ?l32 ?c32 ?k32 ?a33 ?l33 ?c33 ?k33 ?a34 ?l34 ?c34 ?k34 ?a35 ?l35 ?c35 ?k35 ?a36 ?l36 ?c36 ?k36 ?lc ?lp ?ln ?gCC ?gCB ?iCB ?tI ?lI ?cI ?kI ?xCB ?saCB ?gaCB ?ggCB ?exCB ?tyCB ?kpCB ?hdCB ?clCB ?moCB ?nRCB ?sg ?tk ?sp ?rd ?fc ?sCBCB ?qCBCC ?hdCC ?tyCC ?tDi ?tw' ?tb' ?tNA ?tTA ?gaS ?gaT ?gaA ?gaP ?gaL ?gaG ?gaW ?gaM ?oS ?oT ?oA ?oG ?oW ?oP ?oL ?oM ?lP' ?lL' ?lM' ?kL ?sL ?sM ?p_look ?q_look ?p_not ?q_not ?p_op ?q_op ?p_pick ?q_pick ?p_wide ?q_wide ?p_part ?q_part ?p_join ?q_join ?r00 ?r01 ?r02 ?r03 ?r04 ?r05 ?r06 ?r07 ?r08 ?r09 ?r10 ?r11 ?r12 ?r13 ?r14 ?r15 ?r16 ?r17 ?r18 ?r19 ?n00 ?n01 ?n02 ?n03 ?n04 ?n05 ?z_type ?z_int ?z_tuple ?z_str ?z_len ?z_all ?z_zip ?z_range ?z_abs ?z_isinstance ?z_enumerate
    (case a0 => k_is)
    (case l0 => k_is)
    (case c0 => k_is)
    (case k0 => k_is)
    (case a1 => k_is)
    (case l1 => k_is)
    (case c1 => k_is)
    (case k1 => k_is)
    (case a2 => k_is)
    (case l2 => k_is)
    (case c2 => k_is)
    (case k2 => k_is)
    (case a3 => k_is)
    (case l3 => k_is)
    (case c3 => k_is)
    (case k3 => k_is)
    (case a4 => k_is)
    (case l4 => k_is)
    (case c4 => k_is)
    (case k4 => k_is)
    (case a5 => k_is)
    (case l5 => k_is)
    (case c5 => k_is)
    (case k5 => k_is)
    (case a6 => k_is)
    (case l6 => k_is)
    (case c6 => k_is)
    (case k6 => k_is)
    (case a7 => k_is)
    (case l7 => k_is)
    (case c7 => k_is)
    (case k7 => k_is)
    (case a8 => k_is)
    (case l8 => k_is)
    (case c8 => k_is)
    (case k8 => k_is)
    (case a9 => k_is)
    (case l9 => k_is)
    (case c9 => k_is)
    (case k9 => k_is)
    (case a10 => k_is)
    (case l10 => k_is)
    (case c10 => k_is)
    (case k10 => k_is)
    (case a11 => k_is)
    (case l11 => k_is)
    (case c11 => k_is)
    (case k11 => k_is)
    (case a12 => k_is)
    (case l12 => k_is)
    (case c12 => k_is)
    (case k12 => k_is)
    (case a13 => k_is)
    (case l13 => k_is)
    (case c13 => k_is)
    (case k13 => k_is)
    (case a14 => k_is)
    (case l14 => k_is)
    (case c14 => k_is)
    (case k14 => k_is)
    (case a15 => k_is)
    (case l15 => k_is)
    (case c15 => k_is)
    (case k15 => k_is)
    (case a16 => k_is)
    (case l16 => k_is)
    (case c16 => k_is)
    (case k16 => k_is)
    (case a17 => k_is)
    (case l17 => k_is)
    (case c17 => k_is)
    (case k17 => k_is)
    (case a18 => k_is)
    (case l18 => k_is)
    (case c18 => k_is)
    (case k18 => k_is)
    (case a19 => k_is)
    (case l19 => k_is)
    (case c19 => k_is)
    (case k19 => k_is)
    (case a20 => k_is)
    (case l20 => k_is)
    (case c20 => k_is)
    (case k20 => k_is)
    (case a21 => k_is)
    (case l21 => k_is)
    (case c21 => k_is)
    (case k21 => k_is)
    (case a22 => k_is)
    (case l22 => k_is)
    (case c22 => k_is)
    (case k22 => k_is)
    (case a23 => k_is)
    (case l23 => k_is)
    (case c23 => k_is)
    (case k23 => k_is)
    (case a24 => k_is)
    (case l24 => k_is)
    (case c24 => k_is)
    (case k24 => k_is)
    (case a25 => k_is)
    (case l25 => k_is)
    (case c25 => k_is)
    (case k25 => k_is)
    (case a26 => k_is)
    (case l26 => k_is)
    (case c26 => k_is)
    (case k26 => k_is)
    (case a27 => k_is)
    (case l27 => k_is)
    (case c27 => k_is)
    (case k27 => k_is)
    (case a28 => k_is)
    (case l28 => k_is)
    (case c28 => k_is)
    (case k28 => k_is)
    (case a29 => k_is)
    (case l29 => k_is)
    (case c29 => k_is)
    (case k29 => k_is)
    (case a30 => k_is)
    (case l30 => k_is)
    (case c30 => k_is)
    (case k30 => k_is)
    (case a31 => k_is)
    (case l31 => k_is)
    (case c31 => k_is)
    (case k31 => k_is)
    (case a32 => k_is)
    (case l32 => k_is)
    (case c32 => k_is)
    (case k32 => k_is)
    (case a33 => k_is)
    (case l33 => k_is)
    (case c33 => k_is)
    (case k33 => k_is)
    (case a34 => k_is)
    (case l34 => k_is)
    (case c34 => k_is)
    (case k34 => k_is)
    (case a35 => k_is)
    (case l35 => k_is)
    (case c35 => k_is)
    (case k35 => k_is)
    (case a36 => k_is)
    (case l36 => k_is)
    (case c36 => k_is)
    (case k36 => k_is)
    (case lc => k_is)
    (case lp => rfl)
    (case ln => first | kernel_rfl | with_unfolding_all rfl | rfl)
    (case gCC => k_is)
    (case gCB => k_is)
    (case iCB => k_is)
    (case tI => k_is)
    (case lI => k_is)
    (case cI => k_is)
    (case kI => k_is)
    (case xCB => k_is)
    (case saCB => k_is)
    (case gaCB => k_is)
    (case ggCB => k_is)
    (case exCB => k_is)
    (case tyCB => k_is)
    (case kpCB => k_is)
    (case hdCB => k_is)
    (case clCB => k_is)
    (case moCB => k_is)
    (case nRCB => k_is)
    (case sg => k_is)
    (case tk => k_is)
    (case sp => k_is)
    (case rd => k_is)
    (case fc => k_is)
    (case sCBCB => k_is)
    (case qCBCC => k_is)
    (case hdCC => k_is)
    (case tyCC => k_is)
    (case tDi => k_is)
    (case tw' => k_is)
    (case tb' => k_is)
    (case tNA => k_is)
    (case tTA => k_is)
    (case gaS => k_is)
    (case gaT => k_is)
    (case gaA => k_is)
    (case gaP => k_is)
    (case gaL => k_is)
    (case gaG => k_is)
    (case gaW => k_is)
    (case gaM => k_is)
    (case oS => k_is)
    (case oT => k_is)
    (case oA => k_is)
    (case oG => k_is)
    (case oW => k_is)
    (case oP => k_is)
    (case oL => k_is)
    (case oM => k_is)
    (case lP' => (show PySem.W.KeysLit _ _); (repeat' (first | exact trivial | refine ⟨⟨_, _, rfl, rfl⟩, ?_⟩)))
    (case lL' => (show PySem.W.KeysLit _ _); (repeat' (first | exact trivial | refine ⟨⟨_, _, rfl, rfl⟩, ?_⟩)))
    (case lM' => (show PySem.W.KeysLit _ _); (repeat' (first | exact trivial | refine ⟨⟨_, _, rfl, rfl⟩, ?_⟩)))
    (case kL => rfl)
    (case sL => rfl)
    (case sM => rfl)
    (case p_look => k_is)
    (case q_look => k_is)
    (case p_not => k_is)
    (case q_not => k_is)
    (case p_op => k_is)
    (case q_op => k_is)
    (case p_pick => k_is)
    (case q_pick => k_is)
    (case p_wide => k_is)
    (case q_wide => k_is)
    (case p_part => k_is)
    (case q_part => k_is)
    (case p_join => k_is)
    (case q_join => k_is)
    (case r00 => k_is)
    (case r01 => k_is)
    (case r02 => k_is)
    (case r03 => k_is)
    (case r04 => k_is)
    (case r05 => k_is)
    (case r06 => k_is)
    (case r07 => k_is)
    (case r08 => k_is)
    (case r09 => k_is)
    (case r10 => k_is)
    (case r11 => k_is)
    (case r12 => k_is)
    (case r13 => k_is)
    (case r14 => k_is)
    (case r15 => k_is)
    (case r16 => k_is)
    (case r17 => k_is)
    (case r18 => k_is)
    (case r19 => k_is)
    (case n00 => k_is)
    (case n01 => k_is)
    (case n02 => k_is)
    (case n03 => k_is)
    (case n04 => k_is)
    (case n05 => k_is)
    (case z_type => k_is)
    (case z_int => k_is)
    (case z_tuple => k_is)
    (case z_str => k_is)
    (case z_len => k_is)
    (case z_all => k_is)
    (case z_zip => k_is)
    (case z_range => k_is)
    (case z_abs => k_is)
    (case z_isinstance => k_is)
    (case z_enumerate => k_is)

