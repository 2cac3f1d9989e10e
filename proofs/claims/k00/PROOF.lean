import PyProof.Rows.All
import Wide.All
import OpenK.AllK
import Wide.FinOn
import PySem.Challenge.RW_stagecut_k00_tokens_of_a_text
import HandS.ForMost
import HandS.Codes
import HandS.StrMore
import HandS.AnyAll
import HandS.ForExc
import HandS.ExcInit
import HandS.ExcField
import HandS.ExcIs
import KE.KExcIs
import HandS.FStr
import HandS.IsInst
import HandS.EndTab
set_option Elab.async false
set_option linter.all false
set_option maxRecDepth 100000
set_option maxHeartbeats 8000000
/-! The mathematics of the tokens: the relation Lx (what a text from a place on gives), words that are read whole, texts put together of gaps and words. -/
namespace K0
open PySem SX
abbrev Cs := List Nat
def lets : Cs := (Str.ofString "abcdefghijklmnopqrstuvwxyzABCDEFGHIJKLMNOPQRSTUVWXYZ").cps.toList
def digs : Cs := (Str.ofString "0123456789").cps.toList
def shorts : Cs := (Str.ofString ":;,()[]=+-*&|^~<?").cps.toList
def kwV : List L2.V := [.str "machine", .str "reg", .str "file", .str "rom", .str "at", .str "let", .str "guess", .str "when", .str "wide", .str "part", .str "join"]
def longV : List L2.V := [.str ":=", .str "<<", .str ">>", .str "=="]
def isKw (t : Cs) : Bool := L2.inV (.str (S t)) kwV
def isLong (t : Cs) : Bool := L2.inV (.str (S t)) longV
def goesOn (c : Nat) : Bool := decide (c ∈ lets) || (decide (c ∈ digs) || decide (c = 95))
def isNum (t : Cs) : Bool := match t with
  | [] => false
  | c :: r => if c = 48 ∧ r ≠ [] then false else (c :: r).all fun d => decide (d ∈ digs)
def small (t : Cs) : Option Nat := if t.length ≤ 10 ∧ isNum t = true then (if NumText.digitsVal t < 4294967296 then some (NumText.digitsVal t) else none) else none
def litOk (v wd : Nat) : Bool := decide (1 ≤ wd) && (decide (wd ≤ 32) && decide (v < 2 ^ wd))
abbrev KP := Str × PyData
def numTok (t : Cs) : Option KP :=
  let p := Txt.partition (S t) (S [119])
  if p.2.1 = S [] then (small p.1.cps.toList).map fun v => ("number", .int (v : Nat))
  else match small p.1.cps.toList, small p.2.2.cps.toList with
    | some v, some wd => if litOk v wd = true then some ("literal", .tuple [.int (v : Nat), .int (wd : Nat)]) else none
    | _, _ => none
def tokOf (t : Cs) : Option KP := match t with
  | [] => none
  | c :: _ => if c ∈ digs then numTok t else if c ∈ lets then (if isKw t = true then some ("keyword", .str (S t)) else some ("name", .str (S t))) else some ("sign", .str (S t))
def tokLen (s : Cs) : Option Nat := match s with
  | [] => none
  | h :: t => if h ∈ lets ∨ h ∈ digs then some (1 + (t.takeWhile goesOn).length)
    else if isLong ((h :: t).take 2) = true then some 2 else if h ∈ shorts then some 1 else none
def mk (kp : KP) (r c : Int) : PyData := .tuple [.str kp.1, kp.2, .int r, .int c]
inductive Out | ok (ts : List PyData) | bad (isChar : Bool) (r c : Int)
inductive Lx : Cs → Int → Int → List PyData → Out → Prop
  | nil {r c acc} : Lx [] r c acc (.ok (acc ++ [mk ("end", .str (S [])) r c]))
  | nl {s r c acc o} : Lx s (r + 1) 1 acc o → Lx (10 :: s) r c acc o
  | sp {s r c acc o} : Lx s r (c + 1) acc o → Lx (32 :: s) r c acc o
  | rem {s r c acc o} : Lx (s.dropWhile fun x => decide (x ≠ 10)) r (c + 1 + ((s.takeWhile fun x => decide (x ≠ 10)).length : Int)) acc o → Lx (35 :: s) r c acc o
  | tok {h t r c acc o n kp} : h ≠ 10 → h ≠ 32 → h ≠ 35 → tokLen (h :: t) = some n → tokOf ((h :: t).take n) = some kp → Lx ((h :: t).drop n) r (c + (n : Int)) (acc ++ [mk kp r c]) o → Lx (h :: t) r c acc o
  | badnum {h t r c acc n} : h ≠ 10 → h ≠ 32 → h ≠ 35 → tokLen (h :: t) = some n → tokOf ((h :: t).take n) = none → Lx (h :: t) r c acc (.bad false r c)
  | badch {h t r c acc} : h ≠ 10 → h ≠ 32 → h ≠ 35 → tokLen (h :: t) = none → Lx (h :: t) r c acc (.bad true r c)
/-- what may stand behind a word -/
inductive Stop : Cs → Prop
  | nil : Stop []
  | sp {s} : Stop (32 :: s)
  | nl {s} : Stop (10 :: s)
  | rem {s} : Stop (35 :: s)
def Good (t : Cs) (kp : KP) : Prop := t.length ≤ 40 ∧ ∀ rest r c acc o, Stop rest → Lx rest r (c + (t.length : Int)) (acc ++ [mk kp r c]) o → Lx (t ++ rest) r c acc o
def Bad (t : Cs) (b : Bool) : Prop := t.length ≤ 40 ∧ ∀ rest r c acc, Stop rest → Lx (t ++ rest) r c acc (.bad b r c)
inductive WordOk (t : Cs) (kp : KP) : Prop
  | good : kp.1 ≠ "bad" → Good t kp → WordOk t kp
  | bad (b : Bool) : kp = ((("bad" : Str), PyData.bool b) : KP) → Bad t b → WordOk t kp

theorem stop_take {rest : Cs} (h : Stop rest) : rest.takeWhile goesOn = [] := by
  cases h with
  | nil => rfl
  | sp => exact List.takeWhile_cons_of_neg (by decide +kernel)
  | nl => exact List.takeWhile_cons_of_neg (by decide +kernel)
  | rem => exact List.takeWhile_cons_of_neg (by decide +kernel)
theorem run_take {t rest : Cs} (h : ∀ c ∈ t, goesOn c = true) (hs : Stop rest) : (t ++ rest).takeWhile goesOn = t := by
  rw [List.takeWhile_append_of_pos h, stop_take hs, List.append_nil]
theorem start_ne {h : Nat} (e : h ∈ lets ∨ h ∈ digs) : h ≠ 10 ∧ h ≠ 32 ∧ h ≠ 35 := by
  refine ⟨?_, ?_, ?_⟩ <;> (rintro rfl; revert e; decide +kernel)
/-- a word that begins with a letter or a digit -/
theorem run_len {h : Nat} {t rest : Cs} (e : h ∈ lets ∨ h ∈ digs) (hg : ∀ c ∈ t, goesOn c = true) (hs : Stop rest) : tokLen (h :: (t ++ rest)) = some (1 + t.length) := by
  unfold tokLen
  simp only []
  rw [if_pos e, run_take hg hs]
theorem good_run {h : Nat} {t : Cs} {kp : KP} (e : h ∈ lets ∨ h ∈ digs) (hg : ∀ c ∈ t, goesOn c = true) (hl : t.length ≤ 39) (hk : tokOf (h :: t) = some kp) : Good (h :: t) kp := by
  refine ⟨by rw [List.length_cons]; omega, fun rest r c acc o hs hL => ?_⟩
  show Lx (h :: (t ++ rest)) _ _ _ _
  obtain ⟨n1, n2, n3⟩ := start_ne e
  have ht : (h :: (t ++ rest)).take (1 + t.length) = h :: t := by
    rw [Nat.add_comm 1 t.length, List.take_succ_cons, List.take_left]
  have hd : (h :: (t ++ rest)).drop (1 + t.length) = rest := by
    rw [Nat.add_comm 1 t.length, List.drop_succ_cons, List.drop_left]
  refine Lx.tok n1 n2 n3 (run_len e hg hs) (by rw [ht]; exact hk) ?_
  rw [hd]
  have el : ((h :: t).length : Int) = ((1 + t.length : Nat) : Int) := by rw [List.length_cons, Nat.add_comm 1 t.length]
  rw [el] at hL
  exact hL
theorem bad_run {h : Nat} {t : Cs} (e : h ∈ lets ∨ h ∈ digs) (hg : ∀ c ∈ t, goesOn c = true) (hl : t.length ≤ 39) (hk : tokOf (h :: t) = none) : Bad (h :: t) false := by
  refine ⟨by rw [List.length_cons]; omega, fun rest r c acc hs => ?_⟩
  show Lx (h :: (t ++ rest)) _ _ _ _
  obtain ⟨n1, n2, n3⟩ := start_ne e
  have ht : (h :: (t ++ rest)).take (1 + t.length) = h :: t := by
    rw [Nat.add_comm 1 t.length, List.take_succ_cons, List.take_left]
  exact Lx.badnum n1 n2 n3 (run_len e hg hs) (by rw [ht]; exact hk)
/-- the same by computation, for a word that is written out -/
def runChk (t : Cs) (kp : Option KP) : Bool := match t with
  | [] => false
  | h :: r => (decide (h ∈ lets) || decide (h ∈ digs)) && (r.all goesOn && (decide (r.length ≤ 39)))
theorem chk_parts {t : Cs} (h : runChk t none = true) : ∃ c r, t = c :: r ∧ (c ∈ lets ∨ c ∈ digs) ∧ (∀ x ∈ r, goesOn x = true) ∧ r.length ≤ 39 := by
  cases t with
  | nil => cases h
  | cons c r =>
    have h' : ((decide (c ∈ lets) || decide (c ∈ digs)) && (r.all goesOn && (decide (r.length ≤ 39)))) = true := h
    rw [Bool.and_eq_true, Bool.and_eq_true, Bool.or_eq_true, decide_eq_true_eq, decide_eq_true_eq, decide_eq_true_eq, List.all_eq_true] at h'
    exact ⟨c, r, rfl, h'.1, h'.2.1, h'.2.2⟩
theorem word_run {t : Cs} {kp : KP} (h : runChk t none = true) (hk : tokOf t = some kp) (hb : kp.1 ≠ "bad") : WordOk t kp := by
  obtain ⟨c, r, rfl, e, hg, hl⟩ := chk_parts h
  exact .good hb (good_run e hg hl hk)
theorem word_badrun {t : Cs} (h : runChk t none = true) (hk : tokOf t = none) : WordOk t (("bad", .bool false) : KP) := by
  obtain ⟨c, r, rfl, e, hg, hl⟩ := chk_parts h
  exact .bad false rfl (bad_run e hg hl hk)
/-- a sign: not a letter, not a digit; what stands behind makes no longer one of it -/
def signChk (h : Nat) : Bool := !decide (h ∈ lets) && (!decide (h ∈ digs) && (!isLong [h] && (!isLong [h, 32] && (!isLong [h, 10] && (!isLong [h, 35] && (!decide (h = 10) && (!decide (h = 32) && !decide (h = 35))))))))
theorem sign_len {h : Nat} {rest : Cs} (hc : signChk h = true) (hs : Stop rest) : tokLen (h :: rest) = if h ∈ shorts then some 1 else none := by
  unfold signChk at hc
  simp only [Bool.and_eq_true, Bool.not_eq_true', decide_eq_false_iff_not] at hc
  obtain ⟨h1, h2, h3, h4, h5, h6, _⟩ := hc
  have hl : isLong ((h :: rest).take 2) = false := by
    cases hs with
    | nil => exact h3
    | sp => exact h4
    | nl => exact h5
    | rem => exact h6
  unfold tokLen
  simp only []
  rw [if_neg (fun z => z.elim h1 h2), hl]
  rfl
theorem sign_ne {h : Nat} (hc : signChk h = true) : h ≠ 10 ∧ h ≠ 32 ∧ h ≠ 35 := by
  unfold signChk at hc
  simp only [Bool.and_eq_true, Bool.not_eq_true', decide_eq_false_iff_not] at hc
  exact ⟨hc.2.2.2.2.2.2.1, hc.2.2.2.2.2.2.2.1, hc.2.2.2.2.2.2.2.2⟩
theorem sign_tok {h : Nat} {t : Cs} (h1 : h ∉ lets) (h2 : h ∉ digs) : tokOf (h :: t) = some (("sign", .str (S (h :: t))) : KP) := by
  unfold tokOf
  simp only []
  rw [if_neg h2, if_neg h1]
theorem word_short {h : Nat} (hc : signChk h = true) (hm : h ∈ shorts) : WordOk [h] (("sign", .str (S [h])) : KP) := by
  obtain ⟨n1, n2, n3⟩ := sign_ne hc
  have hc' := hc
  unfold signChk at hc'
  simp only [Bool.and_eq_true, Bool.not_eq_true', decide_eq_false_iff_not] at hc'
  refine .good (show ("sign" : Str) ≠ "bad" by decide) ⟨(by decide : 1 ≤ 40), fun rest r c acc o hs hL => ?_⟩
  refine Lx.tok (n := 1) n1 n2 n3 ((sign_len hc hs).trans (if_pos hm)) (sign_tok hc'.1 hc'.2.1) ?_
  exact hL
theorem word_badch {h : Nat} (hc : signChk h = true) (hm : h ∉ shorts) : WordOk [h] (("bad", .bool true) : KP) := by
  obtain ⟨n1, n2, n3⟩ := sign_ne hc
  exact .bad true rfl ⟨(by decide : 1 ≤ 40), fun rest r c acc hs => Lx.badch n1 n2 n3 ((sign_len hc hs).trans (if_neg hm))⟩
theorem word_long {a b : Nat} (h1 : a ∉ lets) (h2 : a ∉ digs) (h3 : isLong [a, b] = true) (hn : a ≠ 10 ∧ a ≠ 32 ∧ a ≠ 35) : WordOk [a, b] (("sign", .str (S [a, b])) : KP) := by
  refine .good (show ("sign" : Str) ≠ "bad" by decide) ⟨(by decide : 2 ≤ 40), fun rest r c acc o hs hL => ?_⟩
  refine Lx.tok (n := 2) hn.1 hn.2.1 hn.2.2 ?_ (sign_tok (t := [b]) h1 h2) ?_
  · show tokLen (a :: b :: rest) = some 2
    unfold tokLen
    simp only []
    rw [if_neg (fun z => z.elim h1 h2)]
    show (if isLong [a, b] = true then some 2 else _) = _
    rw [if_pos h3]
  · exact hL
/-! numbers -/
theorem dig_iff {c : Nat} : (48 ≤ c ∧ c ≤ 57) → c ∈ digs := by
  rintro ⟨h1, h2⟩
  have : ∀ d : Nat, d < 58 → 48 ≤ d → d ∈ digs := by decide +kernel
  exact this c (by omega) h1
theorem num_head {n : Nat} (h : 0 < n) : ∃ c r, TL.numL n = c :: r ∧ c ≠ 48 := by
  induction n using Nat.strongRecOn with
  | _ n ih =>
    by_cases h10 : n < 10
    · exact ⟨48 + n, [], TL.numL_lt h10, by omega⟩
    · obtain ⟨c, r, e, hc⟩ := ih (n / 10) (by omega) (by omega)
      refine ⟨c, r ++ [48 + n % 10], ?_, hc⟩
      rw [TL.numL_step (by omega), e]
      rfl
theorem num_isNum (n : Nat) : isNum (TL.numL n) = true := by
  have hd := TL.numL_digits n
  have key : ∀ t : Cs, (∃ c r, t = c :: r ∧ ¬(c = 48 ∧ r ≠ [])) → (∀ x ∈ t, x ∈ digs) → isNum t = true := by
    rintro t ⟨c, r, rfl, hc⟩ hx
    unfold isNum
    simp only []
    rw [if_neg hc, List.all_eq_true]
    intro x hx'
    exact decide_eq_true (hx x hx')
  refine key _ ?_ fun x hx => dig_iff (hd x hx)
  by_cases h0 : n = 0
  · subst h0
    exact ⟨48, [], TL.numL_lt (by decide), fun z => z.2 rfl⟩
  · obtain ⟨c, r, e, hc⟩ := num_head (n := n) (by omega)
    exact ⟨c, r, e, fun z => hc z.1⟩
theorem small_num {n : Nat} (h : n < 4294967296) : small (TL.numL n) = some n := by
  unfold small
  rw [if_pos ⟨TL.numL_len (by decide) (by omega), num_isNum n⟩, TL.numL_val, if_pos h]
theorem num_noW (n : Nat) : (119 : Nat) ∉ TL.numL n := TL.numL_free (by omega)
theorem num_tok {n : Nat} (h : n < 4294967296) : numTok (TL.numL n) = some (("number", .int (n : Nat)) : KP) := by
  have e : Txt.partition (S (TL.numL n)) (S [119]) = (S (TL.numL n), Str.empty, Str.empty) := TL.partition_none (y := S [119]) (s := 119) (S := []) rfl (num_noW n)
  unfold numTok
  simp only [e]
  rw [if_pos (by rfl)]
  show (small (TL.numL n)).map _ = _
  rw [small_num h]
  rfl
theorem lit_tok {v wd : Nat} (h1 : 1 ≤ wd) (h2 : wd ≤ 32) (h3 : v < 2 ^ wd) : numTok (TL.numL v ++ 119 :: TL.numL wd) = some (("literal", .tuple [.int (v : Nat), .int (wd : Nat)]) : KP) := by
  have e : Txt.partition (S (TL.numL v ++ 119 :: TL.numL wd)) (S [119]) = (S (TL.numL v), S [119], S (TL.numL wd)) := by
    have e1 : S (TL.numL v ++ 119 :: TL.numL wd) = S (TL.numL v) ++ S [119] ++ S (TL.numL wd) := by
      rw [S_cat, S_cat, List.append_assoc]
      rfl
    rw [e1]
    exact TL.partition_app (y := S [119]) (s := 119) (S := []) rfl (num_noW v)
  have hv : v < 4294967296 := Nat.lt_of_lt_of_le h3 (Nat.pow_le_pow_right (by decide) h2)
  unfold numTok
  simp only [e]
  rw [if_neg (by decide)]
  show (match small (TL.numL v), small (TL.numL wd) with
    | some v, some wd => if litOk v wd = true then some ((("literal" : Str), PyData.tuple [.int (v : Nat), .int (wd : Nat)]) : KP) else none
    | _, _ => none) = _
  rw [small_num hv, small_num (by omega : wd < 4294967296)]
  have hk : litOk v wd = true := by
    unfold litOk
    rw [decide_eq_true h1, decide_eq_true h2, decide_eq_true h3]
    rfl
  simp only []
  rw [if_pos hk]
theorem dig_goes {c : Nat} (h : c ∈ digs) : goesOn c = true := by
  unfold goesOn
  rw [decide_eq_true h]
  simp
theorem num_cons (n : Nat) : ∃ c r, TL.numL n = c :: r ∧ c ∈ digs ∧ ∀ x ∈ r, x ∈ digs := by
  have hd := TL.numL_digits n
  have hn := TL.numL_ne n
  cases e : TL.numL n with
  | nil => exact absurd e hn
  | cons c r =>
    rw [e] at hd
    exact ⟨c, r, rfl, dig_iff hd.head, fun x hx => dig_iff (hd.tail x hx)⟩
theorem word_num {n : Nat} (h : n < 4294967296) : WordOk (TL.numL n) (("number", .int (n : Nat)) : KP) := by
  obtain ⟨c, r, e, hc, hr⟩ := num_cons n
  have hk := num_tok h
  have hl : (TL.numL n).length ≤ 10 := TL.numL_len (by decide) (by omega)
  rw [e] at hk hl ⊢
  rw [List.length_cons] at hl
  refine .good (show ("number" : Str) ≠ "bad" by decide) (good_run (.inr hc) (fun x hx => dig_goes (hr x hx)) (by omega) ?_)
  unfold tokOf
  simp only []
  rw [if_pos hc]
  exact hk
theorem word_lit {v wd : Nat} (h1 : 1 ≤ wd) (h2 : wd ≤ 32) (h3 : v < 2 ^ wd) : WordOk (TL.numL v ++ 119 :: TL.numL wd) (("literal", .tuple [.int (v : Nat), .int (wd : Nat)]) : KP) := by
  obtain ⟨c, r, e, hc, hr⟩ := num_cons v
  obtain ⟨c2, r2, e2, hc2, hr2⟩ := num_cons wd
  have hv : v < 4294967296 := Nat.lt_of_lt_of_le h3 (Nat.pow_le_pow_right (by decide) h2)
  have hk := lit_tok h1 h2 h3
  have hl : (TL.numL v).length ≤ 10 := TL.numL_len (by decide) (by omega)
  have hl2 : (TL.numL wd).length ≤ 10 := TL.numL_len (by decide) (by omega)
  rw [e] at hk hl ⊢
  rw [e2] at hk hl2 ⊢
  rw [List.length_cons] at hl hl2
  have hw : goesOn 119 = true := by decide +kernel
  refine .good (show ("literal" : Str) ≠ "bad" by decide) (good_run (t := r ++ 119 :: c2 :: r2) (.inr hc) (fun x hx => ?_) (by rw [List.length_append, List.length_cons, List.length_cons]; omega) ?_)
  · rcases List.mem_append.mp hx with h | h
    · exact dig_goes (hr x h)
    · rcases List.mem_cons.mp h with h | h
      · rw [h]; exact hw
      · rcases List.mem_cons.mp h with h | h
        · rw [h]; exact dig_goes hc2
        · exact dig_goes (hr2 x h)
  · show tokOf (c :: (r ++ 119 :: c2 :: r2)) = _
    unfold tokOf
    simp only []
    rw [if_pos hc]
    exact hk
end K0
/-! all(..) of a generator expression over a text whose element reads a global. -/
namespace K0G
open PySem PySem.Spec PyProof.Rows L2 GxR
/-- the element is a test of one sign; it may read the module's names -/
def EltM (X : Cx) (sc : Scope) (x : Str) (elt : Expr) (pb : Nat → Bool) : Prop :=
  ∀ (ce : Env) (B : Around) (Z : Value → Shared → Prop) (c : Nat) (t : Tok) (s2 : Shared) (m2 : Str → Option Value),
    ce.scope = sc → ce.globals = mainGlobals → s2.heap.Ns mainGlobals X.mg → s2.heap.Ns ce.locals m2 → m2 x = some (.str ⟨#[c]⟩ t) →
      wpAny (model X.prog X.w) B (eval elt ce) (fun y s3 => y = .bool (pb c) ∧ Keeps s2 s3) Z s2
/-- x in NAME, NAME a text of the module -/
theorem elt_in {X : Cx} {sc : Scope} {x y : Str} {z : Str} {u : Tok} {p1 p2 p3 : Pos} (hk : sc.kind = .function) (hx : sc.names.lookup x = some .local) (hy : sc.names.lookup y = some .globalImplicit)
    (hg : X.mg y = some (.str z u)) (dx : (x == ("__debug__" : Str)) = false) (dy : (y == ("__debug__" : Str)) = false) :
    EltM X sc x (.Compare (.Name x p1) [.In] [.Name y p2] p3) (fun c => decide (c ∈ z.cps.toList)) := by
  intro ce B Z c t s2 m2 hsc hgl hG hL hm
  have kx : ce.kindOf x = some .local := by
    show ce.scope.names.lookup x = _
    rw [hsc]
    exact hx
  have ky : ce.kindOf y = some .globalImplicit := by
    show ce.scope.names.lookup y = _
    rw [hsc]
    exact hy
  have kf : ce.scope.kind = .function := by
    rw [hsc]
    exact hk
  refine wpAny_Compare1 (wpAny_Name (wpAny_loadName_local kf kx hL hm ?_) dx)
  refine Calls.Name_function_global kf ky (Calls.loadGlobal_global (mg := X.mg) (by rw [hgl]; exact hG) hg ?_) dy
  exact in_str ⟨congrArg Value.bool (PySem.StrLaws.found_one z c), keeps_refl _⟩
theorem pe_allM {X : Cx} {c P : Addr} {elt iter : Expr} {x : Str} {px p pos gpos : Pos} {sc : Scope} {pb : Nat → Bool} {te : TE} {k : Nat}
    (hr : Room k X.A) (hg : Gl X "all") (hm : X.mg "all" = none) (hb : bootBuiltins "all" = some (.builtin "all"))
    (TB : TabB X.base X.mg c P) (hc : X.env.code = .ref c) (S : GenS X.env sc x) (hi : PE X iter te) (hel : EltM X sc x elt pb)
    (hs : ∀ v, genFold iter X.env v = pure v)
    (he : starEach [.GeneratorExp elt [⟨.Name x px, iter, [], 0⟩] sc gpos] X.env = (false, eval (.GeneratorExp elt [⟨.Name x px, iter, [], 0⟩] sc gpos) X.env) :: starEach [] X.env := by rfl) :
    PE X (.Call (.Name "all" p) [.GeneratorExp elt [⟨.Name x px, iter, [], 0⟩] sc gpos] [] pos) (tAllS P pb te) := by
  refine ⟨fun pins s σ H Q I h => ?_⟩
  refine wpAny_Call_Name_kw (ld_blt I hg hm hb (callWith_builtin1 ?_ he (by rfl)))
  rw [he]
  refine Calls.spliced_cons ?_
  refine wpAny_GeneratorExp_walksQ hr.hd S.co (closure_ok S.free) S.cell S.dot S.loc S.kind (by have := hr.dp; omega) ?_ hs
  refine thn (hi.run pins s σ H _ I h) fun xv s1 w1 => ?_
  obtain ⟨v, H1, I1, r1, a, ev, ⟨ps, hP, ht⟩, hQ⟩ := w1
  subst ev
  obtain ⟨t, rfl⟩ := r1
  refine wpAny_pyIter_str fun ob Sg Wk hSg => ?_
  -- the table's object, the walked text's iterator
  have tab1 : s1.heap.get? P = some { cls := .none, data := .fields ps } := I1.hok P _ hP
  have below : ∀ {b : Addr} {u : Obj}, s1.heap.get? b = some u → b < s1.heap.objs.size := fun e => Heap.lt_size e
  have tab2 : (s1.heap.push ob).get? P = some { cls := .none, data := .fields ps } := Heap.get?_push_of_some _ tab1
  have hd := TB.code.keeps (h' := s1.heap.push ob) fun b u e => Heap.get?_push_of_some _ (I1.bk b u e)
  have glob2 : (s1.heap.push ob).Ns mainGlobals X.mg := (I1.mod.glob.keeps I1.bk).push ob
  have lim2 : (s1.heap.push ob).NoLimit := I1.nolimit.push ob
  have stat : cStatics < s1.heap.objs.size ∧ cStatics ≠ P := by
    obtain ⟨m, hn, _⟩ := I1.nolimit
    refine ⟨hn.lt, fun z => ?_⟩
    obtain ⟨o, es, ep, e, d, _⟩ := hn
    rw [z, tab1] at e
    cases e
    cases d
  have size2 : (s1.heap.push ob).objs.size = s1.heap.objs.size + 1 := Heap.size_push ..
  refine ⟨lim2, ?_⟩
  -- both ways: the expression's code is made now, or was made before
  have both : ∀ (R : Value → Shared → Prop), (∀ (cv : Value) (h3 : Heap) (tk : Nat) (more : Array Value), Heap.ExtBut P (s1.heap.push ob) h3 → s1.heap.objs.size < h3.objs.size →
      h3.get? P = some { cls := .none, data := .fields (ps ++ more) } → TriplesOk (ps ++ more).toList → R cv { s1 with heap := h3, toks := tk }) →
      wpAny (model X.prog X.w) X.A (genexprCode X.env gpos (X.env.qual ++ "<genexpr>") sc) R X.xe { s1 with heap := s1.heap.push ob } := by
    intro R hR
    cases q : codeAmong gpos ps.toList with
    | none =>
      refine wpAny_genexprCodeX hc (hd.code tab2 ht) (hd.tab tab2) q fun c2 h2 tk ext ge lt isC _ isT _ => ?_
      obtain ⟨_, _, _, _, _, _, _, _, _, _, _, _, _, _, _, _, _, _, _, trip, _⟩ := isC
      refine hR _ h2 tk _ ext ?_ isT.2 trip
      have ge' : s1.heap.objs.size + 1 ≤ c2 := by
        rw [← size2]
        exact ge
      exact Nat.lt_of_lt_of_le (Nat.lt_of_succ_le ge') (Nat.le_of_lt lt)
    | some cv =>
      refine wpAny_genexprCode_hit hc (hd.code tab2 ht) q (hR cv (s1.heap.push ob) s1.toks #[] (Heap.ExtBut.refl _ _) (by rw [size2]; exact Nat.lt_succ_self _) ?_ ?_)
      · rw [Array.append_empty]
        exact tab2
      · rw [Array.append_empty]
        exact ht
  refine both _ fun cv h3 tk more ext grow tab3 trip => ?_
  obtain ⟨bm, bo, b1, b2, b3, b4, b5, b6, b7, b8⟩ := TB.bm
  have old3 : ∀ b u, b ≠ P → s1.heap.get? b = some u → h3.get? b = some u := fun b u n e => ext b u n (Heap.get?_push_of_some _ e)
  have glob3 : h3.Ns mainGlobals X.mg := glob2.extBut ext TB.gP
  refine wpAny_builtinsFor (m := X.mg) (by rw [I1.ok.glob]; exact glob3) b1 b2 (old3 bm bo b4 (I1.bk _ _ b5)) b6 b7 b8 ?_
  have notIt : ∀ b u, s1.heap.get? b = some u → b ∉ [s1.heap.objs.size] := fun b u e m => by
    have e1 := List.mem_singleton.mp m
    rw [e1] at e
    exact Nat.lt_irrefl _ (below e)
  refine ⟨s1.heap.objs.size, [s1.heap.objs.size], [s1.heap.objs.size], a.cps.size, SignAt a, Sg, (fun _ => true),
    (fun i y => ∃ cc, a.cps[i]? = some cc ∧ y = .bool (pb cc)), rfl, Wk, ?_, ?_, lim2.extBut ext stat.2, ?_, ?_, ?_⟩
  · exact (Wk X.A hr.hd).frame _ _ _ hSg fun b m u e => ext b u (fun z => notIt P _ tab1 (z ▸ m)) e
  · intro b m
    rw [List.mem_singleton.mp m]
    exact grow
  · exact fun m => Nat.ne_of_lt stat.1 (List.mem_singleton.mp m)
  · intro href hh
    refine ⟨fun B Z i v s2 m2 _ _ _ _ _ => ?_, fun B Z i v s2 m2 _ hv _ hn hmx hk => ?_⟩
    · simp only [List.forIn_nil]
      exact wpAny_pure ⟨rfl, keeps_refl _⟩
    · obtain ⟨cc, u, hcc, rfl⟩ := hv
      have gobj : ∀ o, h3.get? mainGlobals = some o → s2.heap.get? mainGlobals = some o := fun o e =>
        hk mainGlobals (List.mem_range.mpr (Heap.lt_size e)) (by
          have g1 := I1.mod.glob.keeps I1.bk
          obtain ⟨o1, _, _, e1, _⟩ := g1
          exact notIt _ _ e1) o (hh _ _ e)
      refine wpAny_mono (hel _ B Z cc u s2 m2 rfl I1.ok.glob (glob3.at gobj) hn hmx) (fun y s3 r => ⟨⟨cc, hcc, r.1⟩, r.2⟩) fun _ _ e => e
  · intro g h5 tk5 gs bare above size5 keep5 W5 at5
    simp only [GxR.passing_true, List.length_range] at W5
    refine Calls.spliced_nil (call_all_walkS (W5.in4_1.self 0 _ _ _ at5 ⟨g, _, _, _, _, _, _, trF pb a.cps.toList, rfl, W5.in4_1, at5, ?_, fun s' mv => ?_⟩))
    · intro j y sj Qj Ej hy hq
      obtain ⟨i, hij, cc, hcc, rfl⟩ := hy
      obtain ⟨hj, ej⟩ := List.getElem?_eq_some_iff.mp hij
      rw [List.getElem_range] at ej
      subst ej
      have e9 : a.cps.toList[j]? = some cc := by
        rw [Array.getElem?_toList]
        exact hcc
      have hq2 : Qj (trF pb a.cps.toList j) sj := hq
      rw [trF_some e9] at hq2
      exact wpAny_truthy_bool hq2
    · have free : ∀ b u, s1.heap.get? b = some u → b ∉ h3.objs.size :: [s1.heap.objs.size] := fun b u e m => by
        rcases List.mem_cons.mp m with z | z
        · have l := below e
          rw [z] at l
          exact Nat.lt_irrefl _ (Nat.lt_trans l grow)
        · exact notIt b u e z
      have J := inv_tab (more := more) (h' := s'.heap) (g' := s'.gens) (d' := s'.drawn) (t' := s'.toks) I1 hP
        (fun b u n e => mv.heap b u (free b u e) (keep5 b u (old3 b u n e))) (mv.heap P _ (free P _ tab1) (keep5 P _ tab3)) (AllBare.movedS (I1.bare.push bare) mv)
      rw [sh_eta s1 s' mv.os] at J
      refine ⟨.bl _, _, J, rfl, ?_⟩
      rw [all_signs a pb]
      exact hQ _ ⟨⟨ps ++ more, upd_same, trip⟩, fun b n => upd_ne n⟩
end K0G
/-! try with several clauses «except C as n», one name for all. -/
namespace K0T
open PySem PySem.Spec PyProof.Rows L2
abbrev Suite := Addr → Value → Option Addr → TS
/-- the ends of a suite: behind it the slot of the clause's name is empty -/
abbrev gone (i : Nat) (D : Ends) : Ends := { nx := fun σ H => D.nx (σ.set i none) H, rt := D.rt, bk := fun σ H => D.bk (σ.set i none) H, ct := fun σ H => D.ct (σ.set i none) H }
def wAll (K : PySem.W.Frag) (i : Nat) (Wo : WX) (D : Ends) : List (Value × Suite) → WX
  | [] => Wo
  | (c, ts) :: r => fun cls d σ H => ∃ b, PySem.W.exmOne K cls c = some b ∧ (b = true → ∀ a, H a = none → ts a cls d (gone i D) (σ.set i (some (.ref a))) H) ∧ (b = false → wAll K i Wo D r cls d σ H)
/-- the clauses, each by its class and its suite's reading -/
inductive Cl (X : Cx) (n : Str) : List ExceptHandler → List (Value × Suite) → Prop
  | nil : Cl X n [] []
  | cons {x : Str} {c : Value} {ts : Suite} {st : Stmt} {sts : List Stmt} {np cp : Pos} {r : List ExceptHandler} {l : List (Value × Suite)} : Names X x c →
      (∀ (a : Addr) (oe : Obj) (cls : Value) (d : Option Addr) (pn : List (Addr × Obj)), Zc cls d oe → (∃ vs, oe.data = .fields vs) → PSs (X.suite a ((a, oe) :: pn)) (st :: sts) (ts a cls d)) →
      Cl X n r l → Cl X n (.ExceptHandler (some (.Name x np)) (some n) (st :: sts) cp :: r) ((c, ts) :: l)
theorem no_frame {B h : Heap} {L : List Env} {a : Addr} {o : Obj} {vs : Array Value} (ff : h.FunFrames B L) (e : h.get? a = some o) (d : o.data = .fields vs) : a ∉ frs L := fun hm => by
  obtain ⟨_, o2, e2, hn⟩ := ff.mem hm
  rw [e] at e2
  cases e2
  exact hn _ d
section
variable {X : Cx} {n : Str} {i : Nat} {body : List Stmt} {h₀ : ExceptHandler} {hds : List ExceptHandler} {l : List (Value × Suite)} {pos : Pos} {tb : WX → TS} {Wo : WX}
theorem ps_try_ases (hs : X.stack = X.env :: X.outer) (hf : X.env.frame = some X.env.locals) (hN : X.N.Nodup) (hi : X.N[i]? = some n) (hln : X.env.kindOf n = some .local) (tk : Takes X Wo)
    (hb : ∀ (W : WX) (pn : List (Addr × Obj)) (xe : Value → Shared → Prop), Takes (X.tr pn xe) W → PassesOwn (model X.prog X.w) X.A X.env xe → PSs (X.tr pn xe) body (tb W))
    (hh : Cl X n (h₀ :: hds) l) : PS X (.Try body (h₀ :: hds) [] [] pos) (fun D σ H => tb (wAll X.K i Wo D l) D σ H) := by
  refine ⟨fun pins s σ H D I h => ?_⟩
  have ok := I.ok
  have frm : X.A.frames = some (X.env :: X.outer) := by
    rw [ok.frames, hs]
  refine wpAny_Try_except (wpAny_mono ((hb _ (X.pn ++ pins) _ (fun u s1 caught => ?_) PassesOwn.looking).run [] s σ H D (I.toTry _) h) (fun f s1 q => ?_) fun _ _ z => z)
  · obtain ⟨a, B, sI, p2, σ2, H2, cls, d, rfl, J0, nb, up, sky, na, os, ag, w⟩ := caught
    have J := J0.ofTry ok
    show wpAny (model X.prog X.w) X.A (noteFrame (.ref a) X.env) _ _ _
    refine Sky.land Zc.steady frm hf (by rw [← hs]; exact sky) fun h3 fl up3 => ?_
    have J3 : Inv X pins σ2 H2 { s1 with heap := h3 } := J.landed nb fl.1 (up.trans up3) os ag
    obtain ⟨oe, vs, he, hz, hd⟩ := fl.there
    have nfr := no_frame fl.2.2.1 he hd
    have nL : a ≠ X.env.locals := fun z => nfr (List.mem_filterMap.mpr ⟨X.env, List.mem_cons_self, by rw [hf, z]⟩)
    have nF : a ∉ X.fs := fun hm => by
      obtain ⟨e, h1, h2⟩ := List.mem_filterMap.mp hm
      exact nfr (List.mem_filterMap.mpr ⟨e, List.mem_cons_of_mem _ h1, h2⟩)
    have S3 := J3.suite he hd na nL nF
    have go : ∀ (hs2 : List ExceptHandler) (l2 : List (Value × Suite)), Cl X n hs2 l2 → wAll X.K i Wo D l2 cls d σ2 H2 →
        wpAny (model X.prog X.w) X.A (handleBy (.ref a) X.env hs2) (SP X pins D) X.xe { s1 with heap := h3 } := by
      intro hs2 l2 hc
      induction hc with
      | nil =>
        intro w2
        refine wpAny_handleBy_nil ?_
        obtain ⟨_, _, _, o5, v5, T, _, _, e5, _, d5, t5, _⟩ := id fl
        unfold PySem.passOn
        refine wpAny_bind (wpAny_field e5 d5 t5 ?_)
        rw [if_neg (show ¬ ((Value.ref T == Value.none) = true) from by simp)]
        have out : wpAny (model X.prog X.w) X.A (setFlight (.ref a) X.env.frame) (fun _ s4 => wpAny (model X.prog X.w) X.A (throw (.ref a) : Sem Flow) (SP X pins D) X.xe s4) X.xe { s1 with heap := h3 } := by
          rw [hf]
          exact HandSPX.setFlight_upZ fl fun h4 g4 up4 => wpAny_throw (tk _ _ ⟨a, B, sI, pins, σ2, H2, cls, d, rfl, J, nb, (up.trans up3).trans up4, .inr (.inr (by rw [hs]; exact g4)), na, os, ag, w2⟩)
        first
          | exact wpAny_bind (wpAny_pure (wpAny_bind out))
          | exact wpAny_bind out
      | @cons x c ts st sts np cp r2 l3 hnm hsu _ ih =>
        intro w2
        obtain ⟨b, hb1, yes, no⟩ := w2
        refine wpAny_handleBy_cons (codeAny_handlers_test ?_) (fun q => nomatch q)
        have look := PySem.W.exm_one (M := model X.prog X.w) J3.kIn (fun A Q E s k q => wpAny_typeOf_ref (k _ _ he) (by rw [hz.1]; exact q)) hb1
        have cname : ∀ {Q E : Value → Shared → Prop}, Q c { s1 with heap := h3 } → wpAny (model X.prog X.w) (X.A.mark (some (.ref a))) (eval (.Name x np) X.env) Q E { s1 with heap := h3 } := fun {Q E} q => by
          obtain ⟨hg, dbg, hm | ⟨hm, hv, hnn⟩⟩ := hnm
          · exact ld_glob (X := X.suite a ((a, oe) :: (X.pn ++ pins))) S3 hg hm q dbg
          · exact ld_blt (X := X.suite a ((a, oe) :: (X.pn ++ pins))) S3 hg hm hv q hnn dbg
        refine cname (look.here ?_)
        cases b with
        | false => exact ih (no rfl)
        | true =>
          refine codeAny_handlers_suite_as (HandSPX.lands_againZ fl fun h4 fl4 up4 => ?_)
          have J4 : Inv X pins σ2 H2 { s1 with heap := h4 } := J.landed nb fl4.1 ((up.trans up3).trans up4) os ag
          obtain ⟨o4, v4, e4, z4, d4⟩ := fl4.there
          refine store_ok (X := X.suite a ((a, o4) :: (X.pn ++ pins))) (v := .ref a) (J4.suite e4 d4 na nL nF) hN hi (.inl hln) rfl (fun s5 S5 => ?_) (.inr hln)
          refine wpAny_mono ((hsu a o4 cls d (X.pn ++ pins) z4 ⟨_, d4⟩).run [] s5 _ H2 _ S5 (yes rfl a na)) (fun f s6 q6 => ?_) fun _ _ z => False.elim z
          have leave : ∀ {σ6 : L2.St} {H6 : Hp} {Q : Shared → Prop}, Inv (X.suite a ((a, o4) :: (X.pn ++ pins))) [] σ6 H6 s6 → (∀ s7, Inv X pins (σ6.set i none) H6 s7 → Q s7) →
              wpAny (model X.prog X.w) X.A (do bindName X.env n .none; unbindBehindTheSuite X.env n cp) (fun _ s7 => Q s7) X.xe s6 := fun {σ6 H6 Q} S6 hq => gone_ok (S6.unsuite ok) hN hi hln hq
          cases f with
          | next => exact let ⟨σ6, H6, S6, q⟩ := q6; leave S6 fun s7 J7 => ⟨_, _, J7, q⟩
          | brk => exact let ⟨σ6, H6, S6, q⟩ := q6; leave S6 fun s7 J7 => ⟨_, _, J7, q⟩
          | cont => exact let ⟨σ6, H6, S6, q⟩ := q6; leave S6 fun s7 J7 => ⟨_, _, J7, q⟩
          | ret u => exact let ⟨v6, σ6, H6, S6, r6, q⟩ := q6; leave S6 fun s7 J7 => ⟨_, _, _, J7, r6, q⟩
    exact go _ _ hh w
  · cases f with
    | next => exact let ⟨σ2, H2, J, q2⟩ := q; wpAny_execs_nil ⟨σ2, H2, J.ofTry ok, q2⟩
    | brk => exact let ⟨σ2, H2, J, q2⟩ := q; ⟨σ2, H2, J.ofTry ok, q2⟩
    | cont => exact let ⟨σ2, H2, J, q2⟩ := q; ⟨σ2, H2, J.ofTry ok, q2⟩
    | ret u => exact let ⟨v, σ2, H2, J, r, q2⟩ := q; ⟨v, σ2, H2, J.ofTry ok, r, q2⟩
end
end K0T
/-! B.__init__(self, ..), B an own error class without an __init__ of its own; isinstance of a caught error that has fields. -/
namespace K0E
open PySem PySem.Spec PyProof.Rows L2
theorem pe_baseinit {X : Cx} {e : Expr} {es : List Expr} {ta : TA} {x : Str} {C : Addr} {mc : Value} {p1 p2 pos : Pos} {pl : Sem Bool} (hg : Gl X x) (hm : X.mg x = some (.ref C)) (dx : (x == ("__debug__" : Str)) = false)
    (h1 : PySem.W.specialIn X.K (.ref C) "__getattribute__" = some (some (.builtin "type.__getattribute__"))) (h2 : PySem.W.readsIn X.K C mc = true)
    (h3 : PySem.W.findCls X.K (.ref C) mc "__init__" = some (.val (.builtin "ValueError.__init__"))) (ha : PA X (e :: es) ta)
    (hc : eval (.Call (.Attribute (.Name x p1) "__init__" p2) (e :: es) [] pos) X.env = (do
      let ov ← eval (.Name x p1) X.env
      standAt p2.atName
      let (f, first) ← holding [ov] (getMethod ov "__init__" pl)
      callWith pos f first (backTo pos (starEach (e :: es) X.env)) (backToKw pos (keywordEach [] X.env))) := by rfl)
    (he : starEach (e :: es) X.env = (false, eval e X.env) :: starEach es X.env := by rfl) (hpl : (backTo pos (starEach es X.env)).any (·.1) = false := by rfl) :
    PE X (.Call (.Attribute (.Name x p1) "__init__" p2) (e :: es) [] pos) (tVeI X.K ta) := by
  refine ⟨fun pins s σ H Q I h => ?_⟩
  refine PySem.W.methodCall_KW (ld_glob I hg hm (PySem.W.method_cls I.kIn h1 (PySem.W.cls_value I.kIn h2 h3 (by decide +kernel) ?_)) dx) hc
  show wpAny _ _ (callWith pos (Value.builtin "ValueError.__init__") [] (backTo pos (starEach (e :: es) X.env)) []) _ _ _
  refine callWith_method1 (thn (ha.run pos pins _ σ H _ (I.tok _) h) fun us s1 w => ?_) he hpl
  obtain ⟨vs, H1, I1, r1, a, D, ws, ev, hl, T, ea, q⟩ := w
  subst ev
  cases r1 with
  | @cons _ u0 _ ur ra rw' =>
    obtain rfl : u0 = Value.ref a := ra
    refine oinit_ok T I1 ea ?_ fun s2 J => ⟨.non, H1, J, rfl, q⟩
    rw [← Paired.length rw', sizeLine_eq]
    exact Nat.le_trans hl (by decide)
/-- isinstance(e, c), e the error that the suite holds (its class D, its dict d) -/
def rIsF (K : PySem.W.Frag) (D a : Addr) (d : Option Addr) : List V → Hp → VK → Prop := fun xs H Q =>
  ∃ (c : V) (cv : Value) (b : Bool) (dd : Addr) (fs : List (Str × V)), xs = [.ref a, c] ∧ (∀ u, RelV c u → u = cv) ∧ PySem.W.kitOne K (.ref D) cv = some b ∧ d = some dd ∧ H dd = some (.xd fs) ∧ Q (.bl b) H
theorem call_isF {X : Cx} {a D : Addr} {oe : Obj} {d : Option Addr} {pn : List (Addr × Obj)} (C : ExcC X.K D) (hz : Zc (.ref D) d oe) (hf : ∃ vs, oe.data = .fields vs) : CallR (X.suite a ((a, oe) :: pn)) (.builtin "isinstance") (rIsF X.K D a d) := by
  intro pins s σ H xs us Q I r h
  obtain ⟨c, cv, b, dd, fs, rfl, hcv, e, ed, ex, q⟩ := h
  obtain ⟨vs, hv⟩ := hf
  obtain ⟨hget, _⟩ := I.pin (a, oe) (List.mem_append.mpr (.inl List.mem_cons_self))
  have hx : ObjOk X.prog X.w H s.heap dd (.xd fs) := I.hok dd _ ex
  obtain ⟨mA, hns, _⟩ := hx
  obtain ⟨od, ho, _⟩ := lookIn_ns hns
  subst ed
  have J : PySem.W.InstAt s.heap a oe D (some od) := ⟨hget, hz.1, by unfold PySem.W.notCls; rw [hv] <;> rfl, by rw [hz.2]; exact ho⟩
  cases r with
  | cons rx rr =>
    cases rr with
    | cons rt rr =>
      cases rr
      cases rx
      have ec := hcv _ rt
      subst ec
      exact PySem.W.kia_one (PySem.W.kitx_exc (by obtain ⟨cd, hc, _⟩ := PySem.W.any_some C.hd; rw [hc]; rfl) C.hg C.hk C.hs C.ha C.hn C.ht C.hm) I.kIn J e (fun z => nomatch z) fun tk => ⟨.bl b, H, I.kept (t' := tk) fun _ _ z => z, rfl, q⟩
end K0E
/-! The text of the program, heaps, and the promises of its smaller defs. -/
namespace K0
open PySem PySem.Spec PyProof.Rows L2 SX
open GxR (TabG Tabbed TabB GenS)
def topS (i : Nat) : Stmt := PySem.Challenge.pw_stagecut_k00_tokens_of_a_text.main.body.getD i (.Pass ⟨0, 0, 0, 0⟩)
abbrev sIsNum : Stmt := topS 2
abbrev sIsShort : Stmt := topS 3
abbrev sTokens : Stmt := topS 16
abbrev sEol : Stmt := topS 17
abbrev sEot : Stmt := topS 18
abbrev sGoes : Stmt := topS 19
abbrev sTokOf : Stmt := topS 20
abbrev sNumTok : Stmt := topS 21
abbrev sSmall : Stmt := topS 22
abbrev sDraws : Stmt := topS 24
abbrev sNext : Stmt := topS 25
abbrev sWord : Stmt := topS 26
abbrev sText : Stmt := topS 27
abbrev sLaw : Stmt := topS 28
abbrev sInit : Stmt := L2.inClass (topS 6) 0
theorem scIsNum : FnScope ["text"] ["text"] (defScope sIsNum) := ⟨rfl, rfl, rfl, by decide +kernel, rfl, by decide +kernel, by decide +kernel⟩
theorem scIsShort : FnScope ["text"] ["text"] (defScope sIsShort) := ⟨rfl, rfl, rfl, by decide +kernel, rfl, by decide +kernel, by decide +kernel⟩
theorem scTokens : FnScope ["text", "found", "at", "row", "line_start", "sign", "column", "end"] ["text"] (defScope sTokens) := ⟨rfl, rfl, rfl, by decide +kernel, rfl, by decide +kernel, by decide +kernel⟩
theorem scEol : FnScope ["text", "at", "end"] ["text", "at"] (defScope sEol) := ⟨rfl, rfl, rfl, by decide +kernel, rfl, by decide +kernel, by decide +kernel⟩
theorem scEot : FnScope ["text", "at", "row", "column", "end"] ["text", "at", "row", "column"] (defScope sEot) := ⟨rfl, rfl, rfl, by decide +kernel, rfl, by decide +kernel, by decide +kernel⟩
theorem scGoes : FnScope ["sign"] ["sign"] (defScope sGoes) := ⟨rfl, rfl, rfl, by decide +kernel, rfl, by decide +kernel, by decide +kernel⟩
theorem scTokOf : FnScope ["text", "row", "column"] ["text", "row", "column"] (defScope sTokOf) := ⟨rfl, rfl, rfl, by decide +kernel, rfl, by decide +kernel, by decide +kernel⟩
theorem scNumTok : FnScope ["text", "row", "column", "digits", "sign", "width_digits", "worth", "width"] ["text", "row", "column"] (defScope sNumTok) := ⟨rfl, rfl, rfl, by decide +kernel, rfl, by decide +kernel, by decide +kernel⟩
theorem scSmall : FnScope ["digits"] ["digits"] (defScope sSmall) := ⟨rfl, rfl, rfl, by decide +kernel, rfl, by decide +kernel, by decide +kernel⟩
theorem scInit : FnScope ["self", "row", "column"] ["self", "row", "column"] (defScope sInit) := ⟨rfl, rfl, rfl, by decide +kernel, rfl, by decide +kernel, by decide +kernel⟩
/-! ### heaps: what stood stands, but for the table at P, which may grow -/
structure Gr (P : Addr) (H H' : Hp) : Prop where
  tab : TabG H' P
  old : ∀ b o, b ≠ P → H b = some o → H' b = some o
section
variable {P : Addr} {H H1 H2 : Hp}
theorem Gr.refl (t : TabG H P) : Gr P H H := ⟨t, fun _ _ _ e => e⟩
theorem Gr.trans (a : Gr P H H1) (b : Gr P H1 H2) : Gr P H H2 := ⟨b.tab, fun c o n e => b.old c o n (a.old c o n e)⟩
theorem Gr.of (t : Tabbed P H H1) : Gr P H H1 := ⟨t.1, fun b o n e => by rw [t.2 b n]; exact e⟩
theorem tab_ne (t : TabG H P) {p : Addr} (n : H p = none) : p ≠ P := fun z => by
  obtain ⟨ps, e, _⟩ := t
  rw [z, e] at n
  cases n
theorem tab_is (t : TabG H P) {p : Addr} {o : HO} (e : H p = some o) (d : ∀ ps, o ≠ .tbl ps) : p ≠ P := fun z => by
  obtain ⟨ps, e2, _⟩ := t
  rw [z, e2] at e
  exact d ps (Option.some.inj e).symm
theorem Gr.laid (t : TabG H P) {p : Addr} {o : HO} (n : H p = none) : Gr P H (upd H p o) := by
  have np := tab_ne t n
  obtain ⟨ps, e, r⟩ := t
  exact ⟨⟨ps, by rw [upd_ne np.symm]; exact e, r⟩, fun b u _ hb => by rw [upd_ne (ne_of_none hb n)]; exact hb⟩
theorem Gr.at (g : Gr P H H1) (t : TabG H P) {p : Addr} {o : HO} (e : H p = some o) (d : ∀ ps, o ≠ .tbl ps) : H1 p = some o := g.old p o (tab_is t e d) e
theorem Gr.none (g : Gr P H H1) (t : TabG H P) {p : Addr} (n : H1 p = none) : H p = none := by
  have np := tab_ne g.tab n
  cases e : H p with
  | none => rfl
  | some o =>
    rw [g.old p o np e] at n
    cases n
theorem Gr.seqT (g : Gr P H H1) (t : TabG H P) {K : PySem.W.Frag} {a : Addr} {xs : List V} (h : SqT K H a xs) : SqT K H1 a xs := by
  rcases h with (h | ⟨o, h⟩) | h
  · exact .inl (.inl (g.at t h (fun ps z => by cases z)))
  · exact .inl (.inr ⟨o, g.at t h (fun ps z => by cases z)⟩)
  · exact .inr h
theorem Gr.seqL (g : Gr P H H1) (t : TabG H P) {K : PySem.W.Frag} {a : Addr} {xs : List V} (h : SqL K H a xs) : SqL K H1 a xs := by
  rcases h with (h | ⟨o, h⟩) | h
  · exact .inl (.inl (g.at t h (fun ps z => by cases z)))
  · exact .inl (.inr ⟨o, g.at t h (fun ps z => by cases z)⟩)
  · exact .inr h
end
theorem beq_S (a b : Cs) : (V.str (S a) = V.str (S b)) ↔ a = b := ⟨fun e => S_inj (V.str.inj e), fun e => by rw [e]⟩
theorem at_S {t : Cs} {i : Nat} {c : Nat} (h : t[i]? = some c) : atI (S t).cps.toList ((i : Nat) : Int) = some c := atI_nat (j := i) h
theorem len_S {t : Cs} (h : t.length ≤ sizeLine) : (S t).length ≤ sizeLine := by
  rw [S_len]
  exact h
theorem dec_sig {c k : Nat} {x : Str} (hx : x = S [k]) : decide (V.str ⟨#[c]⟩ = V.str x) = decide (c = k) := by
  subst hx
  by_cases h : c = k
  · subst h
    rw [decide_eq_true rfl, decide_eq_true rfl]
  · rw [decide_eq_false h, decide_eq_false (fun z => h (by
      have z2 := S_inj (a := [c]) (b := [k]) (V.str.inj z)
      exact (List.cons.inj z2).1))]
theorem dec_S {a b : Cs} {x : Str} (hx : x = S b) : decide (V.str (S a) = V.str x) = decide (a = b) := by
  subst hx
  by_cases h : a = b
  · subst h
    rw [decide_eq_true rfl, decide_eq_true rfl]
  · rw [decide_eq_false h, decide_eq_false (fun z => h (S_inj (V.str.inj z)))]
theorem of_sig {c k : Nat} {x : Str} (hx : x = S [k]) (e : decide (V.str ⟨#[c]⟩ = V.str x) = true) : c = k := by
  rw [dec_sig hx] at e
  exact of_decide_eq_true e
theorem not_sig {c k : Nat} {x : Str} (hx : x = S [k]) (e : ¬ decide (V.str ⟨#[c]⟩ = V.str x) = true) : c ≠ k := fun z => by
  rw [dec_sig hx, decide_eq_true z] at e
  exact e rfl
theorem noFree : ∀ y ∈ ([((".0" : Str), NameKind.local), ("sign", .local), ("DIGITS", .globalImplicit)] : List (Str × NameKind)), y.2 ≠ .free := by decide +kernel
section
variable {P : Program} {w : World} {K : PySem.W.Frag} {mg : Str → Option Value} {base : Heap} {T : Addr}
/-! ### is_number -/
def spNum (T : Addr) : Sp := fun vs H Q _ => ∃ t : Cs, vs = [.str (S t)] ∧ t.length ≤ sizeLine ∧ TabG H T ∧ ∀ H', Gr T H H' → Q (.bl (isNum t)) H'
theorem ok_isnum {f cP : Addr} {fd : FuncData} {oc : Value} {od an : Option Addr} {osl : Array (Option Value)} {kV doc pm ct : Value} {tk : Tok}
    (lk : K.lookup f = some ⟨oc, od, .func (PySem.W.fnOf "is_number" "is_number" (defArgs sIsNum) (defBody sIsNum) (defScope sIsNum) .none kV doc pm an (.ref cP) ct), osl⟩) (hcd : PySem.W.codeIn K (.ref cP) "is_number" = true)
    (gD : mg "DIGITS" = some (.str (Str.ofString "0123456789") tk)) (ma : mg "all" = none) (TB : TabB base mg cP T) :
    FnOk P w K mg base CX0 1 f (PySem.W.fnOf "is_number" "is_number" (defArgs sIsNum) (defBody sIsNum) (defScope sIsNum) .none kV doc pm an (.ref cP) ct) ["text"] (spNum T) := by
  refine fn_of lk hcd scIsNum (fun vs H Q E h => ?_) fun A outer s H vs Q E hr h => ?_
  · obtain ⟨t, rfl, _⟩ := h
    rfl
  · obtain ⟨t, rfl, hl, tb, q⟩ := h
    refine ⟨_, pss_cons (ps_if (PW.pt (pw_or (pt_not (pt_truth (pv 0) (by intro _; rfl))) (pw_or1 (PW.pt (pw_and (pt_cmpR op_eq (pe_ix ix_str (pv 0) pe_int (fun _ _ => rfl)) pe_str (nomark _)) (pw_and1 (pt_cmpR op_ne (pv 0) pe_str (nomark _))))))))
        (pss_one (ps_ret pe_bl)) pss_nil)
      (pss_one (ps_ret (K0G.pe_allM (pb := fun c => decide (c ∈ digs)) hr (by rfl) ma (by decide +kernel) TB rfl ⟨rfl, rfl, by decide +kernel, rfl, rfl, fun y hy e => absurd e (noFree y hy)⟩ (pv 0) (K0G.elt_in rfl rfl rfl gD (by decide) (by decide)) (by intro v; rfl)))), ?_⟩
    refine ⟨_, rfl, _, ⟨len_S hl, rfl⟩, ?_⟩
    rw [S_len]
    cases t with
    | nil =>
      refine iteT ?_
      refine iteT ?_
      exact q H (Gr.refl tb)
    | cons c r =>
      have hk : (((c :: r).length : Int) != 0) = true := by
        rw [List.length_cons]
        simp
        omega
      rw [hk]
      refine iteF ?_
      have last : ¬ (c = 48 ∧ r ≠ []) → tRet (GxR.tAllS T (fun c => decide (c ∈ digs)) (tVar 0)) { nx := fun x H' => Q V.non H', rt := Q } (L2.start ["text"] [V.str (S (c :: r))]) H := fun n => by
        refine ⟨_, rfl, S (c :: r), rfl, tb, fun H2 t2 => ?_⟩
        have e := q H2 (Gr.of t2)
        have e2 : isNum (c :: r) = (S (c :: r)).cps.toList.all fun c => decide (c ∈ digs) := if_neg n
        rw [e2] at e
        exact e
      refine ⟨_, rfl, _, _, c, rfl, rfl, len_S hl, at_S (i := 0) rfl, rfl, _, rfl, ite2 (fun e => ?_) (fun e => ?_)⟩
      · have hc := of_sig (k := 48) rfl e
        refine ⟨_, rfl, rfl, _, rfl, ite2 (fun e2 => ?_) (fun e2 => ?_)⟩
        · have hr2 : r ≠ [] := fun z => by
            subst z
            subst hc
            exact absurd e2 (by decide)
          have e3 := q H (Gr.refl tb)
          have e4 : isNum (c :: r) = false := if_pos ⟨hc, hr2⟩
          rw [e4] at e3
          exact e3
        · refine last fun z => ?_
          rw [dec_S (b := [48]) (x := "0") rfl, decide_eq_false (fun y => z.2 (List.cons.inj y).2)] at e2
          exact e2 rfl
      · refine iteF (last fun z => not_sig (k := 48) rfl e z.1)
end
end K0
/-! text.find of a newline from a place on; slices. -/
namespace K0
open PySem SX PySem.StrLaws
def notNl (x : Nat) : Bool := decide (x ≠ 10)
theorem tw_len : ∀ (l : Cs) (k : Nat), l[k]? = some 10 → (∀ j, j < k → l[j]? ≠ some 10) → (l.takeWhile notNl).length = k
  | [], k, h, _ => by simp at h
  | a :: l, 0, h, _ => by
    have e : a = 10 := Option.some.inj h
    subst e
    rfl
  | a :: l, k + 1, h, hn => by
    have ha : a ≠ 10 := fun e => hn 0 (Nat.succ_pos k) (by rw [e]; rfl)
    have hp : notNl a = true := decide_eq_true ha
    rw [List.takeWhile_cons_of_pos hp, List.length_cons, tw_len l k h fun j hj => hn (j + 1) (by omega)]
theorem tw_all : ∀ (l : Cs), (∀ j : Nat, l[j]? ≠ some 10) → (l.takeWhile notNl).length = l.length
  | [], _ => rfl
  | a :: l, hn => by
    have ha : a ≠ 10 := fun e => hn 0 (by rw [e]; rfl)
    have hp : notNl a = true := decide_eq_true ha
    rw [List.takeWhile_cons_of_pos hp, List.length_cons, tw_all l fun j => hn (j + 1), List.length_cons]
theorem find_nl (t : Cs) (p : Nat) (hp : p ≤ t.length) : (if Txt.find3 (S t) (S [10]) ((p : Nat) : Int) < 0 then ((t.length : Nat) : Int) else Txt.find3 (S t) (S [10]) ((p : Nat) : Int)) = ((p + ((t.drop p).takeWhile notNl).length : Nat) : Int) := by
  have hf : PySem.fromIndex (S t).length ((p : Nat) : Int) = p := by
    unfold PySem.fromIndex
    rw [if_neg (by omega)]
    omega
  have hl : (S t).length = t.length := S_len t
  have hd : ∀ j : Nat, (t.drop p)[j]? = t[p + j]? := fun j => List.getElem?_drop
  unfold Txt.find3
  rw [hf, occ_eq]
  rcases occ_first (S t) (S [10]) (S t).length 1 (Nat.le_refl 1) (List.range' p ((S t).length + 1 - p)) p (fun i hi => (List.mem_range'_1.mp hi).1) with ⟨h0, hn⟩ | ⟨pre, a, post, e, h0, ha, hn⟩
  · rw [h0]
    have hall : ∀ j : Nat, (t.drop p)[j]? ≠ some 10 := fun j hj => by
      rw [hd] at hj
      have hlt : p + j < t.length := (List.getElem?_eq_some_iff.mp hj).1
      exact hn (p + j) (List.mem_range'_1.mpr ⟨by omega, by rw [hl]; omega⟩) ((subAt_one (S t) 10 (p + j)).mpr hj)
    rw [tw_all _ hall, List.length_drop]
    show (if (-1 : Int) < 0 then _ else _) = _
    rw [if_pos (by decide)]
    congr 1
    omega
  · have hL := congrArg List.length e
    rw [List.length_range', List.length_append, List.length_cons] at hL
    have ea : a = p + pre.length := by
      have h1 : (List.range' p ((S t).length + 1 - p))[pre.length]? = some a := by rw [e]; simp
      rw [List.getElem?_range' (by omega)] at h1
      have h2 := Option.some.inj h1
      omega
    have hk : ∀ j : Nat, j < pre.length → (t.drop p)[j]? ≠ some 10 := fun j hj hj2 => by
      rw [hd] at hj2
      have hm : p + j ∈ pre := by
        have h1 : (List.range' p ((S t).length + 1 - p))[j]? = pre[j]? := by rw [e, List.getElem?_append_left hj]
        rw [List.getElem?_range' (by omega)] at h1
        have h3 : pre[j]? = some (p + j) := by
          rw [← h1]
          congr 1
          omega
        exact List.mem_of_getElem? h3
      exact hn _ hm ((subAt_one (S t) 10 (p + j)).mpr hj2)
    have ht : (t.drop p)[pre.length]? = some 10 := by
      rw [hd, ← ea]
      exact (subAt_one (S t) 10 a).mp ha
    rw [tw_len _ _ ht hk]
    generalize (forIn (List.range' p ((S t).length + 1 - p)) ((#[] : Array Nat), p) (occBody (S t) (S [10]) (S t).length 1)).run.fst = arr at h0
    have h1 : arr.toList[0]? = some a := by simpa using h0
    cases hA : arr.toList with
    | nil => rw [hA] at h1; cases h1
    | cons b r =>
      rw [hA] at h1
      have eb : b = a := Option.some.inj h1
      subst eb
      show (if ((b : Nat) : Int) < 0 then _ else ((b : Nat) : Int)) = _
      rw [if_neg (by omega), ea]
/-- t[a:b] -/
theorem cut_S {t : Cs} {a b : Nat} (h1 : a ≤ b) (h2 : b ≤ t.length) : L2.cutS (S t) (some ((a : Nat) : Int)) (some ((b : Nat) : Int)) = S ((t.drop a).take (b - a)) := by
  unfold L2.cutS
  rw [S_len]
  have e1 : HT.sIx t.length 0 (some ((a : Nat) : Int)) = a := by
    rw [show HT.sIx t.length 0 (some ((a : Nat) : Int)) = min a t.length from HT.sIx_nat t.length 0 a]
    omega
  have e2 : HT.sIx t.length t.length (some ((b : Nat) : Int)) = b := by
    rw [show HT.sIx t.length t.length (some ((b : Nat) : Int)) = min b t.length from HT.sIx_nat t.length t.length b]
    omega
  rw [e1, e2]
/-- t[a:a + 2], it may end ahead -/
theorem cut_two {t : Cs} {a : Nat} (h1 : a ≤ t.length) : L2.cutS (S t) (some ((a : Nat) : Int)) (some ((a : Nat) + 2 : Int)) = S ((t.drop a).take 2) := by
  unfold L2.cutS
  rw [S_len]
  have e1 : HT.sIx t.length 0 (some ((a : Nat) : Int)) = a := by
    rw [show HT.sIx t.length 0 (some ((a : Nat) : Int)) = min a t.length from HT.sIx_nat t.length 0 a]
    omega
  have e2 : HT.sIx t.length t.length (some ((a : Nat) + 2 : Int)) = min (a + 2) t.length := by
    have := HT.sIx_nat t.length t.length (a + 2)
    exact this
  rw [e1, e2]
  show S ((t.drop a).take (min (a + 2) t.length - a)) = S ((t.drop a).take 2)
  by_cases h : a + 2 ≤ t.length
  · rw [show min (a + 2) t.length - a = 2 by omega]
  · have hlen : (t.drop a).length ≤ 2 := by rw [List.length_drop]; omega
    rw [List.take_of_length_le hlen, List.take_of_length_le (by rw [List.length_drop]; omega)]
end K0
/-! The smaller defs. -/
namespace K0
open PySem PySem.Spec PyProof.Rows L2 SX
open GxR (TabG Tabbed TabB GenS)
section
variable {P : Program} {w : World} {K : PySem.W.Frag} {mg : Str → Option Value} {base : Heap} {T : Addr}
/-! ### is_short_number -/
def spShort (T : Addr) : Sp := fun vs H Q _ => ∃ t : Cs, vs = [.str (S t)] ∧ t.length ≤ sizeLine ∧ TabG H T ∧ ∀ H', Gr T H H' → Q (.bl (decide (t.length ≤ 10) && isNum t)) H'
theorem ok_short {f fN : Addr} {fd fdN : FuncData} (F : Fun K "is_short_number" "is_short_number" sIsShort f fd) (GN : FnOk P w K mg base CX0 1 fN fdN ["text"] (spNum T)) (kN : PySem.W.keepIn K (.ref fN) = true) (bN : Binds K fdN ["text"] [])
    (gN : mg "is_number" = some (.ref fN)) (ml : mg "len" = none) : FnOk P w K mg base CX0 2 f fd ["text"] (spShort T) := by
  refine F.ok scIsShort (fun vs H Q E h => ?_) (fun cdv A outer s H vs Q E hr h => ?_)
  · obtain ⟨t, rfl, _⟩ := h
    rfl
  · obtain ⟨t, rfl, hl, tb, q⟩ := h
    refine ⟨_, pss_one (ps_ret (pe_and (pe_cmpR op_le (pe_callB call_len_str (by rfl) ml PySem.boot_len (pa_cons (pv 0) pa_nil)) pe_int (nomark _)) (pe_one (pe_call GN hr (by rfl) gN kN bN .nil pass0 (pa_cons (pv 0) pa_nil))))), ?_⟩
    refine ⟨_, rfl, _, rfl, len_S hl, _, _, rfl, rfl, _, rfl, ite2 (fun e => ?_) (fun e => ?_)⟩
    · refine ⟨_, rfl, t, rfl, hl, tb, fun H' g => ?_⟩
      have e2 := of_decide_eq_true e
      rw [S_len] at e2
      have z := q H' g
      rw [decide_eq_true (show t.length ≤ 10 by omega)] at z
      exact z
    · have z := q H (Gr.refl tb)
      rw [S_len] at e
      rw [decide_eq_false (show ¬ t.length ≤ 10 from fun y => e (decide_eq_true (by omega)))] at z
      exact z
/-! ### goes_on -/
def spGoes : Sp := fun vs H Q _ => ∃ c : Nat, vs = [.str ⟨#[c]⟩] ∧ Q (.bl (goesOn c)) H
theorem ok_goes {f : Addr} {fd : FuncData} {t1 t2 : Tok} (F : Fun K "goes_on" "goes_on" sGoes f fd) (gL : mg "LETTERS" = some (.str (Str.ofString "abcdefghijklmnopqrstuvwxyzABCDEFGHIJKLMNOPQRSTUVWXYZ") t1)) (gD : mg "DIGITS" = some (.str (Str.ofString "0123456789") t2)) :
    FnOk P w K mg base CX0 1 f fd ["sign"] spGoes := by
  refine F.ok scGoes (fun vs H Q E h => ?_) (fun cdv A outer s H vs Q E hr h => ?_)
  · obtain ⟨c, rfl, _⟩ := h
    rfl
  · obtain ⟨c, rfl, q⟩ := h
    refine ⟨_, pss_one (ps_ret (pe_or (pe_cmpR op_in_sign (pv 0) (pe_glob (v := .str (Str.ofString "abcdefghijklmnopqrstuvwxyzABCDEFGHIJKLMNOPQRSTUVWXYZ")) (by rfl) gL ⟨_, rfl⟩) (by rfl))
      (pe_or (pe_cmpR op_in_sign (pv 0) (pe_glob (v := .str (Str.ofString "0123456789")) (by rfl) gD ⟨_, rfl⟩) (by rfl)) (pe_one (pe_cmpR op_eq (pv 0) pe_str (nomark _)))))), ?_⟩
    refine ⟨_, rfl, c, _, rfl, rfl, _, rfl, ite2 (fun e => ?_) (fun e => ?_)⟩
    · have h1 : c ∈ lets := of_decide_eq_true e
      unfold goesOn at q
      rw [decide_eq_true h1] at q
      exact q
    · have h1 : c ∉ lets := fun z => e (decide_eq_true z)
      refine ⟨_, rfl, c, _, rfl, rfl, _, rfl, ite2 (fun e2 => ?_) (fun e2 => ?_)⟩
      · have h2 : c ∈ digs := of_decide_eq_true e2
        unfold goesOn at q
        rw [decide_eq_false h1, decide_eq_true h2] at q
        exact q
      · have h2 : c ∉ digs := fun z => e2 (decide_eq_true z)
        unfold goesOn at q
        rw [decide_eq_false h1, decide_eq_false h2] at q
        refine ⟨_, rfl, rfl, ?_⟩
        rw [dec_sig (k := 95) (x := "_") rfl]
        exact q
/-! ### end_of_line -/
def spEol : Sp := fun vs H Q _ => ∃ (t : Cs) (p : Nat), vs = [.str (S t), .int ((p : Nat) : Int)] ∧ t.length ≤ sizeLine ∧ p ≤ t.length ∧ Q (.int ((p + ((t.drop p).takeWhile notNl).length : Nat) : Int)) H
theorem ok_eol {f : Addr} {fd : FuncData} (F : Fun K "end_of_line" "end_of_line" sEol f fd) (ml : mg "len" = none) : FnOk P w K mg base CX0 1 f fd ["text", "at"] spEol := by
  refine F.ok scEol (fun vs H Q E h => ?_) (fun cdv A outer s H vs Q E hr h => ?_)
  · obtain ⟨t, p, rfl, _⟩ := h
    rfl
  · obtain ⟨t, p, rfl, hl, hp, q⟩ := h
    refine ⟨_, pss_cons (ps_set (i := 2) scEol.nd rfl (.inl rfl) (pe_bm PySem.F.plainAttrs_str PySem.F.slot_str_find PySem.F.type_str_find mt_find3 (pv 0) (pa_cons pe_str (pa_cons (pv 1) pa_nil))))
      (pss_one (ps_ret (pe_ifExp (pt_cmpR op_lt (pv 2) pe_int (nomark _)) (pe_callB call_len_str (by rfl) ml PySem.boot_len (pa_cons (pv 0) pa_nil)) (pv 2)))), ?_⟩
    rw [← find_nl t p hp] at q
    refine ⟨_, rfl, rfl, _, rfl, _, _, _, rfl, rfl, ?_⟩
    refine ⟨_, rfl, _, _, rfl, rfl, _, rfl, ite2 (fun e => ?_) (fun e => ?_)⟩
    · have e2 : Txt.find3 (S t) (S [10]) ((p : Nat) : Int) < 0 := of_decide_eq_true e
      rw [if_pos e2] at q
      refine ⟨_, rfl, _, rfl, len_S hl, ?_⟩
      rw [S_len]
      exact q
    · have e2 : ¬ Txt.find3 (S t) (S [10]) ((p : Nat) : Int) < 0 := fun z => e (decide_eq_true z)
      rw [if_neg e2] at q
      exact ⟨_, rfl, q⟩
/-! ### small_number -/
def optV : Option Nat → V
  | none => .non
  | some n => .int ((n : Nat) : Int)
def spSmall (T : Addr) : Sp := fun vs H Q _ => ∃ t : Cs, vs = [.str (S t)] ∧ t.length ≤ sizeLine ∧ TabG H T ∧ ∀ H', Gr T H H' → Q (optV (small t)) H'
theorem isNum_all {t : Cs} (h : isNum t = true) : t ≠ [] ∧ t.all (fun c => decide (48 ≤ c) && decide (c ≤ 57)) = true := by
  cases t with
  | nil => cases h
  | cons c r =>
    refine ⟨List.cons_ne_nil _ _, ?_⟩
    unfold isNum at h
    simp only [] at h
    split at h
    · cases h
    · rw [List.all_eq_true] at h ⊢
      intro x hx
      have h1 : x ∈ digs := of_decide_eq_true (h x hx)
      have h2 : ∀ d ∈ digs, (decide (48 ≤ d) && decide (d ≤ 57)) = true := by decide +kernel
      exact h2 x h1
theorem ok_small {f fS : Addr} {fd fdS : FuncData} {tk : Tok} (F : Fun K "small_number" "small_number" sSmall f fd) (GS : FnOk P w K mg base CX0 2 fS fdS ["text"] (spShort T)) (kS : PySem.W.keepIn K (.ref fS) = true) (bS : Binds K fdS ["text"] [])
    (gS : mg "is_short_number" = some (.ref fS)) (mi : mg "int" = none) (gW : mg "WORD_LIMIT" = some (.int 4294967296 tk)) : FnOk P w K mg base CX0 3 f fd ["digits"] (spSmall T) := by
  refine F.ok scSmall (fun vs H Q E h => ?_) (fun cdv A outer s H vs Q E hr h => ?_)
  · obtain ⟨t, rfl, _⟩ := h
    rfl
  · obtain ⟨t, rfl, hl, tb, q⟩ := h
    refine ⟨_, pss_cons (ps_if (PW.pt (pw_or (pt_not (pt_val (pe_call GS hr (by rfl) gS kS bS .nil pass0 (pa_cons (pv 0) pa_nil)))) (pw_or1 (pt_cmpR op_ge (pe_callTy call_int_str (by rfl) mi (by decide +kernel) (pa_cons (pv 0) pa_nil)) (pe_glob (v := .int 4294967296) (by rfl) gW ⟨_, rfl⟩) (nomark _)))))
        (pss_one (ps_ret pe_non)) pss_nil)
      (pss_one (ps_ret (pe_callTy call_int_str (by rfl) mi (by decide +kernel) (pa_cons (pv 0) pa_nil)))), ?_⟩
    refine ⟨_, rfl, t, rfl, hl, tb, fun H1 g1 => ?_⟩
    cases hk : (decide (t.length ≤ 10) && isNum t) with
    | false =>
      have e : small t = none := by
        unfold small
        rw [if_neg]
        rintro ⟨h1, h2⟩
        rw [decide_eq_true h1, h2] at hk
        cases hk
      have z := q H1 g1
      rw [e] at z
      exact ⟨_, rfl, iteT (iteT z)⟩
    | true =>
      rw [Bool.and_eq_true, decide_eq_true_eq] at hk
      obtain ⟨hne, hall⟩ := isNum_all hk.2
      have hi : intText? (S t) = some ((NumText.digitsVal t : Nat) : Int) := int_S hall hne (by omega)
      have h640 : (S t).length ≤ 640 := by
        rw [S_len]
        omega
      refine ⟨_, rfl, iteF ?_⟩
      refine ⟨_, rfl, _, _, rfl, hi, h640, _, _, rfl, rfl, _, rfl, ite2 (fun e => ?_) (fun e => ?_)⟩
      · have e2 : (4294967296 : Int) ≤ ((NumText.digitsVal t : Nat) : Int) := of_decide_eq_true e
        have es : small t = none := by
          unfold small
          rw [if_pos hk, if_neg (by omega)]
        have z := q H1 g1
        rw [es] at z
        exact z
      · have e2 : ¬ (4294967296 : Int) ≤ ((NumText.digitsVal t : Nat) : Int) := fun y => e (decide_eq_true y)
        have es : small t = some (NumText.digitsVal t) := by
          unfold small
          rw [if_pos hk, if_pos (by omega)]
        have z := q H1 g1
        rw [es] at z
        exact ⟨_, rfl, _, _, rfl, hi, h640, z⟩
end
end K0
/-! The errors, number_token, end_of_token, token_of. -/
namespace K0
open PySem PySem.Spec PyProof.Rows L2 SX
open GxR (TabG Tabbed TabB GenS)
/-- an int that is a place in a text -/
def Pl (i : Int) : Prop := 0 ≤ i ∧ i < 1000000000
theorem Pl.log {i : Int} (h : Pl i) : i.natAbs.log2 < 1920 := by
  obtain ⟨h1, h2⟩ := h
  by_cases h0 : i.natAbs = 0
  · rw [h0]
    decide
  · exact (Nat.log2_lt h0).mpr (Nat.lt_of_lt_of_le (show i.natAbs < 2 ^ 30 by omega) (Nat.pow_le_pow_right (by decide) (by decide)))
theorem Pl.len {i : Int} (h : Pl i) : (Str.ofString (toString i)).length ≤ 9 := PyProof.Rows.toString_length_le h.1 (by decide) (by have := h.2; omega)
theorem app_len (a b : Str) : (a ++ b).length = a.length + b.length := by
  show (a.cps ++ b.cps).size = _
  rw [Array.size_append]
  rfl
section
variable {P : Program} {w : World} {K : PySem.W.Frag} {mg : Str → Option Value} {base : Heap} {T : Addr}
/-! ### TextError.__init__ -/
def fsOf (r c : Int) : List (Str × V) := [("column", .int c), ("row", .int r)]
def spInit (K : PySem.W.Frag) : Sp := fun vs H Q _ => ∃ (a C : Addr) (r c : Int), vs = [.ref a, .int r, .int c] ∧ OexC K C ∧ PySem.W.findIn K (.ref C) "row" = some none ∧ PySem.W.findIn K (.ref C) "column" = some none ∧ Pl r ∧ Pl c ∧
  H a = some (exo a C none) ∧ ∀ dx H', H dx = none → dx ≠ a → H' a = some (exo a C (some dx)) → H' dx = some (exd dx (fsOf r c)) → (∀ b, b ≠ a → b ≠ dx → H' b = H b) → Q .non H'
theorem ok_init {f C0 : Addr} {fd : FuncData} (F : Fun K "__init__" "TextError.__init__" sInit f fd) (g0 : mg "CutError" = some (.ref C0)) (h1 : PySem.W.specialIn K (.ref C0) "__getattribute__" = some (some (.builtin "type.__getattribute__")))
    (h2 : PySem.W.readsIn K C0 (.type "type") = true) (h3 : PySem.W.findCls K (.ref C0) (.type "type") "__init__" = some (.val (.builtin "ValueError.__init__"))) :
    FnOk P w K mg base CX0 1 f fd ["self", "row", "column"] (spInit K) := by
  refine F.ok scInit (fun vs H Q E h => ?_) (fun cdv A outer s H vs Q E hr h => ?_)
  · obtain ⟨a, C, r, c, rfl, _⟩ := h
    rfl
  · obtain ⟨a, C, r, c, rfl, O, n1, n2, p1, p2, ea, q⟩ := h
    refine ⟨_, pss_cons (ps_expr (K0E.pe_baseinit (mc := .type "type") (by rfl) g0 (by decide) h1 h2 h3 (pa_cons (pv 0) (pa_cons (pe_joined (PJ.cons pe_str (PJ.cons (pe_fmt (pv 1)) (PJ.cons pe_str (PJ.cons (pe_fmt (pv 2)) PJ.nil))))) pa_nil))))
      (pss_cons (ps_ost (pv 0) (pv 1)) (pss_one (ps_ost (pv 0) (pv 2)))), ?_⟩
    have l1 : (Str.empty ++ ("row " : Str)).length = 4 := by decide +kernel
    have l3 : (Str.ofString ", column ").length = 9 := by decide +kernel
    have e1 := p1.len
    have e2 := p2.len
    have big : (100 : Nat) ≤ sizeLine := by
      rw [sizeLine_eq]
      decide
    refine ⟨_, rfl, _, rfl, Nat.le_trans (Nat.le_of_eq l1) (by omega), _, rfl, .inr ⟨_, rfl, p1.log, _, rfl, ?_, _, rfl, ?_, _, rfl, .inr ⟨_, rfl, p2.log, _, rfl, ?_, ?_⟩⟩⟩
    · rw [app_len, l1]
      omega
    · rw [app_len, app_len, l1, l3]
      omega
    · rw [app_len, app_len, app_len, l1, l3]
      omega
    · refine ⟨a, C, _, rfl, (by show 1 ≤ 1000; decide), O, ea, ?_⟩
      refine ⟨_, rfl, _, rfl, a, C, rfl, O, n1, .inl ⟨ea, fun dx nd ne => ?_⟩⟩
      refine ⟨_, rfl, _, rfl, a, C, rfl, O, n2, .inr ⟨dx, _, upd_same, (by rw [upd_ne ne]; exact upd_same), (by show 1 ≤ 900; decide), ?_⟩⟩
      refine q dx _ nd ne (by rw [upd_ne (Ne.symm ne)]; exact upd_same) upd_same fun b na nb => ?_
      rw [upd_ne nb, upd_ne na, upd_ne nb]
/-- what the written part says of an error's class at C -/
structure ErrC (K : PySem.W.Frag) (mg : Str → Option Value) (x : Str) (C fI : Addr) : Prop where
  o : OexC K C
  iC : PySem.W.findIn K (.ref C) "__init__" = some (some (.ref fI))
  nR : PySem.W.findIn K (.ref C) "row" = some none
  nC : PySem.W.findIn K (.ref C) "column" = some none
  g : mg x = some (.ref C)
theorem raise_read {C fI : Addr} {x : Str} {r c : Int} {H : Hp} {Qx : XK} (R : ErrC K mg x C fI) (tb : TabG H T) (p1 : Pl r) (p2 : Pl c) (q : ∀ d H', Gr T H H' → H d = none → H' d = some (.xd (fsOf r c)) → Qx (.ref C) (some d) H') :
    ∀ a, H a = none → spInit K (.ref a :: ([.int r, .int c] ++ [])) (upd H a (exo a C none))
      (fun v H2 => v = .non ∧ ∃ (d : Addr) (fs : List (Str × V)), H2 a = some (exo a C (some d)) ∧ H2 d = some (exd d fs) ∧ H d = none ∧ Qx (.ref C) (some d) (upd (del H2 a) d (.xd fs))) (fun _ _ _ => False) := by
  intro a na
  refine ⟨a, C, r, c, rfl, R.o, R.nR, R.nC, p1, p2, upd_same, fun dx H2 nd ne e1 e2 e3 => ⟨rfl, dx, _, e1, e2, ?_, ?_⟩⟩
  · rw [upd_ne ne] at nd
    exact nd
  · have nd' : H dx = none := by
      rw [upd_ne ne] at nd
      exact nd
    have stays : ∀ b o, H b = some o → (upd (del H2 a) dx (.xd (fsOf r c))) b = some o := fun b o e => by
      have n1 : b ≠ a := ne_of_none e na
      have n2 : b ≠ dx := ne_of_none e nd'
      rw [upd_ne n2, del_ne n1, e3 b n1 n2, upd_ne n1]
      exact e
    refine q dx _ ⟨?_, fun b o _ e => stays b o e⟩ nd' upd_same
    obtain ⟨ps, e, ht⟩ := tb
    exact ⟨ps, stays _ _ e, ht⟩
/-! ### number_token -/
theorem part_len (t : Cs) : (Txt.partition (S t) (S [119])).1.cps.toList.length ≤ t.length ∧ (Txt.partition (S t) (S [119])).2.2.cps.toList.length ≤ t.length := by
  have h := PyProof.Rows.fact_partition (S t) (S [119])
  rw [S_len] at h
  exact ⟨by rw [Array.length_toList]; exact h.1, by rw [Array.length_toList]; exact h.2.2⟩
theorem numTok_eq (t : Cs) : numTok t = (let p := Txt.partition (S t) (S [119])
  if p.2.1 = S [] then (small p.1.cps.toList).map fun v => (("number", .int (v : Nat)) : KP)
  else match small p.1.cps.toList, small p.2.2.cps.toList with
    | some v, some wd => if litOk v wd = true then some (("literal", .tuple [.int (v : Nat), .int (wd : Nat)]) : KP) else none
    | _, _ => none) := rfl
def spNumTok (K : PySem.W.Frag) (T CN : Addr) : Sp := fun vs H Q E => ∃ (t : Cs) (r c : Int), vs = [.str (S t), .int r, .int c] ∧ t.length ≤ sizeLine ∧ TabG H T ∧ Pl r ∧ Pl c ∧
  (∀ kp, numTok t = some kp → ∀ H' p, Gr T H H' → Dp K H' (.ref p) (mk kp r c) → Q (.ref p) H') ∧
  (numTok t = none → ∀ H' d, Gr T H H' → H' d = some (.xd (fsOf r c)) → E (.ref CN) (some d) H')
theorem tup_dp {K : PySem.W.Frag} {H : Hp} {p : Addr} {xs : List V} {ds : List PyData} (h : DpAll K H xs ds) (e : H p = some (.tup xs)) : Dp K H (.ref p) (.tuple ds) := .tup (SqT.of e) h
theorem ok_numtok {f fS CN fI : Addr} {fd fdS fdI : FuncData} {tk : Tok} (F : Fun K "number_token" "number_token" sNumTok f fd) (GS : FnOk P w K mg base CX0 3 fS fdS ["digits"] (spSmall T)) (kS : PySem.W.keepIn K (.ref fS) = true) (bS : Binds K fdS ["digits"] [])
    (gS : mg "small_number" = some (.ref fS)) (gM : mg "MOST_WIDTH" = some (.int 32 tk)) (R : ErrC K mg "BadNumber" CN fI) (tI : PySem.W.typeIn K (.ref fI) = some (.type "function")) (GI : FnOk P w K mg base CX0 1 fI fdI ["self", "row", "column"] (spInit K)) (bI : Binds K fdI ["self", "row", "column"] []) :
    FnOk P w K mg base (L2.CX P w) 4 f fd ["text", "row", "column"] (spNumTok K T CN) := by
  refine F.okX scNumTok (fun vs H Q E h => ?_) (fun cdv A outer s H vs Q E hr h => ?_)
  · obtain ⟨t, r, c, rfl, _⟩ := h
    rfl
  · obtain ⟨t, r, c, rfl, hl, tb, p1, p2, q, qe⟩ := h
    have hr2 : Room 2 _ := hr.mono (by decide)
    refine ⟨_, pss_cons (ps_asg (pe_bm PySem.F.plainAttrs_str PySem.F.slot_str_partition PySem.F.type_str_partition mt_partition (pv 0) (pa_cons pe_str pa_nil))
        (pg_tup (by rfl) (pgs_cons (pg_name (i := 3) scNumTok.nd rfl (.inl rfl)) (pgs_cons (pg_name (i := 4) scNumTok.nd rfl (.inl rfl)) (pgs_cons (pg_name (i := 5) scNumTok.nd rfl (.inl rfl)) pgs_nil)))))
      (pss_cons (ps_set (i := 6) scNumTok.nd rfl (.inl rfl) (pe_call GS hr (by rfl) gS kS bS .nil pass0 (pa_cons (pv 3) pa_nil)))
      (pss_cons (ps_if (pt_cmpR op_eq (pv 4) pe_str (nomark _))
        (pss_cons (ps_if (pt_cmpR op_isN (pv 6) pe_non (nomark _)) (pss_one (ps_raise rfl (takes_of rfl rfl rfl rfl) (pmk_oex R.o R.iC tI GI hr2 bI .nil pass0 (by rfl) R.g (pa_cons (pv 1) (pa_cons (pv 2) pa_nil))))) pss_nil)
          (pss_one (ps_ret (pe_tup (pa_cons pe_str (pa_cons (pv 6) (pa_cons (pv 1) (pa_cons (pv 2) pa_nil)))))))) pss_nil)
      (pss_cons (ps_set (i := 7) scNumTok.nd rfl (.inl rfl) (pe_call GS hr (by rfl) gS kS bS .nil pass0 (pa_cons (pv 5) pa_nil)))
      (pss_cons (ps_if (PW.pt (pw_or (pt_cmpR op_isN (pv 6) pe_non (nomark _)) (pw_or (pt_cmpR op_isN (pv 7) pe_non (nomark _)) (pw_or (pt_not (pt_chain op_le op_le pe_int (pv 7) (pe_glob (v := .int 32) (by rfl) gM ⟨_, rfl⟩)))
          (pw_or1 (pt_cmpR op_ge (pv 6) (pe_op op_shl pe_int (pv 7)) (nomark _)))))))
        (pss_one (ps_raise rfl (takes_of rfl rfl rfl rfl) (pmk_oex R.o R.iC tI GI hr2 bI .nil pass0 (by rfl) R.g (pa_cons (pv 1) (pa_cons (pv 2) pa_nil))))) pss_nil)
      (pss_one (ps_ret (pe_tup (pa_cons pe_str (pa_cons (pe_tup (pa_cons (pv 6) (pa_cons (pv 7) pa_nil))) (pa_cons (pv 1) (pa_cons (pv 2) pa_nil)))))))))))
      , ?_⟩
    have hp := numTok_eq t
    obtain ⟨ln1, ln3⟩ := part_len t
    obtain ⟨d, sg, wd, hpt⟩ : ∃ d sg wd, Txt.partition (S t) (S [119]) = (d, sg, wd) := ⟨_, _, _, rfl⟩
    rw [hpt] at hp ln1 ln3
    refine ⟨_, rfl, rfl, S t, S [119], rfl, rfl, (by decide), len_S hl, fun p np => ?_⟩
    rw [hpt]
    have g0 : Gr T H (upd H p (.tup [.str d, .str sg, .str wd])) := Gr.laid tb np
    refine ⟨p, _, rfl, SqT.of upd_same, rfl, _, _, rfl, _, _, rfl, _, _, rfl, rfl, ?_⟩
    -- worth = small_number(digits)
    refine ⟨_, rfl, d.cps.toList, (by rw [S_tl]; rfl), Nat.le_trans ln1 hl, g0.tab, fun H1 g1 => ?_⟩
    have G1 := g0.trans g1
    simp only [] at hp
    -- what is returned, what is raised
    have raise : ∀ H2, Gr T H H2 → numTok t = none → ∀ a, H2 a = none → _ := fun H2 g2 e => raise_read (Qx := fun cls d H' => E cls d H') R g2.tab p1 p2 fun d H' g3 _ e3 => qe e H' d (g2.trans g3) e3
    refine ⟨_, rfl, rfl, _, rfl, ite2 (fun e => ?_) (fun e => ?_)⟩
    · have es : sg = S [] := V.str.inj (of_decide_eq_true e)
      rw [if_pos es] at hp
      refine ⟨_, rfl, rfl, _, rfl, ite2 (fun e2 => ?_) (fun e2 => ?_)⟩
      · have e3 : small d.cps.toList = none := by
          cases h : small d.cps.toList with
          | none => rfl
          | some v =>
            rw [h] at e2
            cases of_decide_eq_true e2
        rw [e3] at hp
        exact ⟨_, rfl, _, rfl, (by show 2 ≤ 1000; decide), raise H1 G1 hp⟩
      · cases h : small d.cps.toList with
        | none =>
          rw [h] at e2
          exact absurd (decide_eq_true rfl) e2
        | some v =>
          rw [h] at hp
          refine ⟨_, rfl, _, rfl, _, rfl, (by show 4 ≤ sizeLine; decide), fun z nz => ?_⟩
          refine q _ hp _ z (G1.trans (Gr.laid G1.tab nz)) (tup_dp (.cons (.str _) (.cons ?_ (.cons (.int _) (.cons (.int _) .nil)))) upd_same)
          exact .int _
    · have es : sg ≠ S [] := fun z => e (decide_eq_true (by rw [z]; rfl))
      rw [if_neg es] at hp
      -- width = small_number(width_digits)
      refine ⟨_, rfl, wd.cps.toList, (by rw [S_tl]; rfl), Nat.le_trans ln3 hl, G1.tab, fun H2 g2 => ?_⟩
      have G2 := G1.trans g2
      refine ⟨_, rfl, rfl, _, rfl, ite2 (fun e2 => ?_) (fun e2 => ?_)⟩
      · have e3 : small d.cps.toList = none := by
          cases h : small d.cps.toList with
          | none => rfl
          | some v =>
            rw [h] at e2
            cases of_decide_eq_true e2
        rw [e3] at hp
        exact iteT ⟨_, rfl, _, rfl, (by show 2 ≤ 1000; decide), raise H2 G2 hp⟩
      · cases h : small d.cps.toList with
        | none =>
          rw [h] at e2
          exact absurd (decide_eq_true rfl) e2
        | some v =>
          rw [h] at hp
          cases h2 : small wd.cps.toList with
          | none =>
            rw [h2] at hp
            refine ⟨_, rfl, rfl, _, rfl, iteT ?_⟩
            exact iteT ⟨_, rfl, _, rfl, (by show 2 ≤ 1000; decide), raise H2 G2 hp⟩
          | some n =>
            rw [h2] at hp
            simp only [] at hp
            refine ⟨_, rfl, rfl, _, rfl, iteF ?_⟩
            -- 1 <= width <= 32
            have out : litOk v n = false → _ := fun z => by
              rw [z] at hp
              exact raise H2 G2 hp
            refine ⟨_, rfl, _, _, rfl, rfl, _, rfl, ite2 (fun a1 => ?_) (fun a1 => ?_)⟩
            · have b1 : 1 ≤ n := by
                have := of_decide_eq_true a1
                omega
              refine ⟨_, _, rfl, rfl, _, rfl, ?_⟩
              by_cases b2 : n ≤ 32
              · have d2 : decide (((n : Nat) : Int) ≤ 32) = true := decide_eq_true (by omega)
                rw [d2]
                refine iteF ?_
                have big : (2 : Nat) ^ n ≤ 2 ^ 32 := Nat.pow_le_pow_right (by decide) b2
                refine ⟨_, rfl, _, rfl, _, _, rfl, rfl, ⟨by omega, by omega, by decide⟩, _, _, rfl, rfl, _, rfl, ?_⟩
                have ep : (1 : Int) * 2 ^ (((n : Nat) : Int)).toNat = ((2 ^ n : Nat) : Int) := by
                  rw [Int.one_mul, Int.toNat_natCast, Int.natCast_pow]
                  rfl
                rw [ep]
                refine ite2 (fun a3 => ?_) (fun a3 => ?_)
                · have b3 : 2 ^ n ≤ v := by
                    have := of_decide_eq_true a3
                    omega
                  have z : litOk v n = false := by
                    unfold litOk
                    rw [decide_eq_false (show ¬ v < 2 ^ n by omega)]
                    simp
                  exact ⟨_, rfl, _, rfl, (by show 2 ≤ 1000; decide), out z⟩
                · have b3 : v < 2 ^ n := by
                    have : ¬ ((2 ^ n : Nat) : Int) ≤ ((v : Nat) : Int) := fun y => a3 (decide_eq_true y)
                    omega
                  have z : litOk v n = true := by
                    unfold litOk
                    rw [decide_eq_true b1, decide_eq_true b2, decide_eq_true b3]
                    rfl
                  rw [if_pos z] at hp
                  refine ⟨_, rfl, _, rfl, (by show 2 ≤ sizeLine; decide), fun i ni => ?_⟩
                  have G3 := G2.trans (Gr.laid (o := .tup [.int ((v : Nat) : Int), .int ((n : Nat) : Int)]) G2.tab ni)
                  refine ⟨_, rfl, _, rfl, (by show 4 ≤ sizeLine; decide), fun z nz => ?_⟩
                  refine q _ hp _ z (G3.trans (Gr.laid G3.tab nz)) (tup_dp (.cons (.str _) (.cons ?_ (.cons (.int _) (.cons (.int _) .nil)))) upd_same)
                  refine tup_dp (.cons (.int _) (.cons (.int _) .nil)) ?_
                  have ne : i ≠ z := fun y => by
                    rw [y] at nz
                    rw [upd_same] at nz
                    cases nz
                  rw [upd_ne ne]
                  exact upd_same
              · have d2 : decide (((n : Nat) : Int) ≤ 32) = false := decide_eq_false (by omega)
                rw [d2]
                refine iteT ?_
                have z : litOk v n = false := by
                  unfold litOk
                  rw [decide_eq_false b2]
                  simp
                exact iteT ⟨_, rfl, _, rfl, (by show 2 ≤ 1000; decide), out z⟩
            · have b1 : ¬ 1 ≤ n := fun y => a1 (decide_eq_true (by omega))
              have z : litOk v n = false := by
                unfold litOk
                rw [decide_eq_false b1]
                rfl
              refine ⟨_, rfl, iteT ?_⟩
              exact iteT ⟨_, rfl, _, rfl, (by show 2 ≤ 1000; decide), out z⟩
end
end K0
/-! end_of_token, token_of. -/
namespace K0
open PySem PySem.Spec PyProof.Rows L2 SX
open GxR (TabG Tabbed TabB GenS)
theorem tw_get (f : Nat → Bool) : ∀ (l : Cs) (j : Nat), j ≤ (l.takeWhile f).length → (j < (l.takeWhile f).length ↔ ∃ ch, l[j]? = some ch ∧ f ch = true)
  | [], j, h => by
    simp at h
    subst h
    simp
  | a :: l, 0, _ => by
    by_cases h : f a = true
    · rw [List.takeWhile_cons_of_pos h, List.length_cons]
      simp [h]
    · rw [List.takeWhile_cons_of_neg h]
      simp [h]
  | a :: l, j + 1, hj => by
    by_cases h : f a = true
    · rw [List.takeWhile_cons_of_pos h, List.length_cons] at hj ⊢
      have ih := tw_get f l j (by omega)
      rw [show ((a :: l)[j + 1]? : Option Nat) = l[j]? from rfl, ← ih]
      omega
    · rw [List.takeWhile_cons_of_neg h] at hj
      simp at hj
section
variable {P : Program} {w : World} {K : PySem.W.Frag} {mg : Str → Option Value} {base : Heap} {T : Addr}
abbrev lettersS : Str := Str.ofString "abcdefghijklmnopqrstuvwxyzABCDEFGHIJKLMNOPQRSTUVWXYZ"
abbrev digitsS : Str := Str.ofString "0123456789"
abbrev shortS : Str := Str.ofString ":;,()[]=+-*&|^~<?"
/-- the module's texts -/
structure Gls (K : PySem.W.Frag) (mg : Str → Option Value) (aL aK : Addr) : Prop where
  le : ∃ t, mg "LETTERS" = some (.str lettersS t)
  di : ∃ t, mg "DIGITS" = some (.str digitsS t)
  sh : ∃ t, mg "SHORT_SIGNS" = some (.str shortS t)
  lo : mg "LONG_SIGNS" = some (.ref aL)
  kw : mg "KEYWORDS" = some (.ref aK)
  qL : ∀ H, SqT K H aL longV
  qK : ∀ H, SqT K H aK kwV
  ml : mg "len" = none
def spEot (T CB : Addr) : Sp := fun vs H Q E => ∃ (t : Cs) (p : Nat) (r c : Int), vs = [.str (S t), .int ((p : Nat) : Int), .int r, .int c] ∧ t.length ≤ 1000000 ∧ p < t.length ∧ TabG H T ∧ Pl r ∧ Pl c ∧
  (∀ n, tokLen (t.drop p) = some n → Q (.int ((p + n : Nat) : Int)) H) ∧ (tokLen (t.drop p) = none → ∀ H' d, Gr T H H' → H' d = some (.xd (fsOf r c)) → E (.ref CB) (some d) H')
theorem line_big {n : Nat} (h : n ≤ 1000000) : n ≤ sizeLine := by
  rw [sizeLine_eq]
  omega
theorem ok_eot {f fG CB fI aL aK : Addr} {fd fdG fdI : FuncData} (F : Fun K "end_of_token" "end_of_token" sEot f fd) (G : Gls K mg aL aK) (GG : FnOk P w K mg base CX0 1 fG fdG ["sign"] spGoes) (kG : PySem.W.keepIn K (.ref fG) = true) (bG : Binds K fdG ["sign"] [])
    (gG : mg "goes_on" = some (.ref fG)) (R : ErrC K mg "BadCharacter" CB fI) (tI : PySem.W.typeIn K (.ref fI) = some (.type "function")) (GI : FnOk P w K mg base CX0 1 fI fdI ["self", "row", "column"] (spInit K)) (bI : Binds K fdI ["self", "row", "column"] []) :
    FnOk P w K mg base (L2.CX P w) 3 f fd ["text", "at", "row", "column"] (spEot T CB) := by
  obtain ⟨tL, gL⟩ := G.le
  obtain ⟨tD, gD⟩ := G.di
  obtain ⟨tS, gS⟩ := G.sh
  refine F.okX scEot (fun vs H Q E h => ?_) (fun cdv A outer s H vs Q E hr h => ?_)
  · obtain ⟨t, p, r, c, rfl, _⟩ := h
    rfl
  · obtain ⟨t, p, r, c, rfl, hl, hp, tb, p1, p2, q, qe⟩ := h
    have hr1 : Room 1 _ := hr.mono (by decide)
    have hls : t.length ≤ sizeLine := line_big hl
    refine ⟨_, pss_cons (ps_if (PW.pt (pw_or (pt_cmpR op_in_sign (pe_ix ix_str (pv 0) (pv 1) (fun _ _ => rfl)) (pe_glob (v := .str lettersS) (by rfl) gL ⟨_, rfl⟩) (by rfl)) (pw_or1 (pt_cmpR op_in_sign (pe_ix ix_str (pv 0) (pv 1) (fun _ _ => rfl)) (pe_glob (v := .str digitsS) (by rfl) gD ⟨_, rfl⟩) (by rfl)))))
        (pss_cons (ps_set (i := 4) scEot.nd rfl (.inl rfl) (pe_op op_add (pv 1) pe_int))
          (pss_cons (ps_while (passes_of rfl) (PW.pt (pw_and (pt_cmpR op_lt (pv 4) (pe_callB call_len_str (by rfl) G.ml PySem.boot_len (pa_cons (pv 0) pa_nil)) (nomark _)) (pw_and1 (pt_val (pe_call GG hr1 (by rfl) gG kG bG .nil pass0 (pa_cons (pe_ix ix_str (pv 0) (pv 4) (fun _ _ => rfl)) pa_nil))))))
            (pss_one (ps_aug (i := 4) scEot.nd rfl (.inl rfl) pe_int ip_add)))
          (pss_one (ps_ret (pv 4))))) pss_nil)
      (pss_cons (ps_if (pt_cmpR op_in_seq (pe_slice sl_str (pv 0) (po_some (pv 1)) (po_some (pe_op op_add (pv 1) pe_int))) (pe_glob (v := .ref aL) (by rfl) G.lo rfl) (by rfl)) (pss_one (ps_ret (pe_op op_add (pv 1) pe_int))) pss_nil)
      (pss_cons (ps_if (pt_cmpR op_in_sign (pe_ix ix_str (pv 0) (pv 1) (fun _ _ => rfl)) (pe_glob (v := .str shortS) (by rfl) gS ⟨_, rfl⟩) (by rfl)) (pss_one (ps_ret (pe_op op_add (pv 1) pe_int))) pss_nil)
      (pss_one (ps_raise rfl (takes_of rfl rfl rfl rfl) (pmk_oex R.o R.iC tI GI hr bI .nil pass0 (by rfl) R.g (pa_cons (pv 2) (pa_cons (pv 3) pa_nil))))))), ?_⟩
    obtain ⟨h, rest, ed⟩ : ∃ h rest, t.drop p = h :: rest := by
      cases e : t.drop p with
      | nil =>
        have := congrArg List.length e
        rw [List.length_drop] at this
        simp at this
        omega
      | cons h rest => exact ⟨h, rest, rfl⟩
    have gp : t[p]? = some h := by
      have e : (t.drop p)[0]? = t[p + 0]? := List.getElem?_drop
      rw [ed] at e
      exact e.symm
    rw [ed] at q qe
    refine ⟨_, rfl, _, rfl, _, _, h, rfl, rfl, len_S hls, at_S gp, h, _, rfl, rfl, _, rfl, ?_⟩
    by_cases hd : h ∈ lets ∨ h ∈ digs
    · -- a run of letters and digits
      have el : tokLen (h :: rest) = some (1 + (rest.takeWhile goesOn).length) := by
        unfold tokLen
        simp only []
        rw [if_pos hd]
      have qq := q _ el
      have sides : h ∈ lets ∨ (h ∉ lets ∧ h ∈ digs) := by
        by_cases h1 : h ∈ lets
        · exact .inl h1
        · exact .inr ⟨h1, hd.resolve_left h1⟩
      have hdr : ∀ j : Nat, rest[j]? = t[p + 1 + j]? := fun j => by
        have e1 : (t.drop p)[j + 1]? = t[p + (j + 1)]? := List.getElem?_drop
        rw [ed] at e1
        have e2 : rest[j]? = t[p + (j + 1)]? := e1
        rw [e2]
        congr 1
        omega
      have hlen : rest.length + 1 + p = t.length := by
        have e1 := congrArg List.length ed
        rw [List.length_drop, List.length_cons] at e1
        omega
      have hle : (rest.takeWhile goesOn).length ≤ rest.length := (List.takeWhile_prefix goesOn).length_le
      rcases sides with h1 | ⟨h0, h1⟩
      all_goals
        first
          | (have d1 : decide (h ∈ (lettersS).cps.toList) = true := decide_eq_true h1
             rw [d1]
             refine iteT (iteT ?_))
          | (have d0 : decide (h ∈ (lettersS).cps.toList) = false := decide_eq_false h0
             have d1 : decide (h ∈ (digitsS).cps.toList) = true := decide_eq_true h1
             rw [d0]
             refine iteF ⟨_, rfl, _, rfl, _, _, h, rfl, rfl, len_S hls, at_S gp, h, _, rfl, rfl, _, rfl, ?_⟩
             rw [d1]
             refine iteT ?_)
      all_goals
        refine ⟨_, rfl, _, _, rfl, rfl, ?_⟩
        refine ⟨fun m σ H' => ∃ e : Nat, σ = [some (.str (S t)), some (.int ((p : Nat) : Int)), some (.int r), some (.int c), some (.int ((p + 1 + e : Nat) : Int))] ∧ H' = H ∧ e ≤ (rest.takeWhile goesOn).length ∧ m = (rest.takeWhile goesOn).length - e,
          ⟨_, 0, rfl, rfl, Nat.zero_le _, rfl⟩, ?_⟩
        rintro m σ H' ⟨e, rfl, rfl, he, rfl⟩
        have key := tw_get goesOn rest e he
        refine ⟨_, rfl, _, rfl, _, rfl, len_S hls, _, _, rfl, rfl, _, rfl, ite2 (fun a1 => ?_) (fun a1 => ?_)⟩
        · have b1 : p + 1 + e < t.length := by
            have := of_decide_eq_true a1
            rw [S_len] at this
            omega
          obtain ⟨ch, hch⟩ : ∃ ch, t[p + 1 + e]? = some ch := ⟨_, List.getElem?_eq_getElem b1⟩
          refine ⟨_, rfl, _, rfl, _, _, ch, rfl, rfl, len_S hls, at_S hch, ch, rfl, _, rfl, ite2 (fun a2 => ?_) (fun a2 => ?_)⟩
          · have b2 : e < (rest.takeWhile goesOn).length := key.mpr ⟨ch, by rw [hdr]; exact hch, a2⟩
            refine ⟨fun σ2 H2 => σ2 = [some (.str (S t)), some (.int ((p : Nat) : Int)), some (.int r), some (.int c), some (.int ((p + 1 + (e + 1) : Nat) : Int))] ∧ H2 = H', ?_, _, rfl, _, _, rfl, rfl, rfl, rfl⟩
            rintro σ2 H2 ⟨rfl, rfl⟩
            exact ⟨_, by omega, e + 1, rfl, rfl, b2, rfl⟩
          · have b2 : ¬ e < (rest.takeWhile goesOn).length := fun y => by
              obtain ⟨ch2, e1, e2⟩ := key.mp y
              rw [hdr, hch] at e1
              rw [← Option.some.inj e1] at e2
              exact a2 e2
            have ee : e = (rest.takeWhile goesOn).length := by omega
            refine ⟨_, rfl, ?_⟩
            rw [ee, Nat.add_assoc]
            exact qq
        · have b1 : ¬ p + 1 + e < t.length := fun y => a1 (decide_eq_true (by rw [S_len]; omega))
          have ee : e = (rest.takeWhile goesOn).length := by omega
          refine ⟨_, rfl, ?_⟩
          rw [ee, Nat.add_assoc]
          exact qq
    · have h0 : h ∉ lets := fun z => hd (.inl z)
      have h1 : h ∉ digs := fun z => hd (.inr z)
      have d0 : decide (h ∈ (lettersS).cps.toList) = false := decide_eq_false h0
      have d1 : decide (h ∈ (digitsS).cps.toList) = false := decide_eq_false h1
      rw [d0]
      refine iteF ⟨_, rfl, _, rfl, _, _, h, rfl, rfl, len_S hls, at_S gp, h, _, rfl, rfl, _, rfl, ?_⟩
      rw [d1]
      refine iteF ?_
      have unf : tokLen (h :: rest) = if isLong ((h :: rest).take 2) = true then some 2 else if h ∈ shorts then some 1 else none := by
        unfold tokLen
        simp only []
        rw [if_neg hd]
      have cut := cut_two (t := t) (a := p) (Nat.le_of_lt hp)
      rw [ed] at cut
      refine ⟨_, rfl, _, rfl, _, rfl, _, rfl, _, _, rfl, rfl, _, rfl, _, rfl, len_S hls, ?_⟩
      rw [cut]
      refine ⟨aL, longV, rfl, .inr (G.qL _), rfl, rfl, _, rfl, ite2 (fun a1 => ?_) (fun a1 => ?_)⟩
      · have e1 : isLong ((h :: rest).take 2) = true := a1
        rw [if_pos e1] at unf
        exact ⟨_, rfl, _, _, rfl, rfl, q 2 unf⟩
      · have e1 : ¬ isLong ((h :: rest).take 2) = true := a1
        rw [if_neg e1] at unf
        refine ⟨_, rfl, _, rfl, _, _, h, rfl, rfl, len_S hls, at_S gp, h, _, rfl, rfl, _, rfl, ite2 (fun a2 => ?_) (fun a2 => ?_)⟩
        · have e2 : h ∈ shorts := of_decide_eq_true a2
          rw [if_pos e2] at unf
          exact ⟨_, rfl, _, _, rfl, rfl, q 1 unf⟩
        · have e2 : h ∉ shorts := fun z => a2 (decide_eq_true z)
          rw [if_neg e2] at unf
          exact ⟨_, rfl, _, rfl, (by show 2 ≤ 1000; decide), raise_read (Qx := fun cls d H' => E cls d H') R tb p1 p2 fun d H' g _ e3 => qe unf H' d g e3⟩
/-! ### token_of -/
def spTokOf (K : PySem.W.Frag) (T CN : Addr) : Sp := fun vs H Q E => ∃ (t : Cs) (r c : Int), vs = [.str (S t), .int r, .int c] ∧ t ≠ [] ∧ t.length ≤ sizeLine ∧ TabG H T ∧ Pl r ∧ Pl c ∧
  (∀ kp, tokOf t = some kp → ∀ H' p, Gr T H H' → Dp K H' (.ref p) (mk kp r c) → Q (.ref p) H') ∧
  (tokOf t = none → ∀ H' d, Gr T H H' → H' d = some (.xd (fsOf r c)) → E (.ref CN) (some d) H')
theorem ok_tokof {f fN CN aL aK : Addr} {fd fdN : FuncData} (F : Fun K "token_of" "token_of" sTokOf f fd) (G : Gls K mg aL aK) (GN : FnOk P w K mg base (L2.CX P w) 4 fN fdN ["text", "row", "column"] (spNumTok K T CN)) (kN : PySem.W.keepIn K (.ref fN) = true) (bN : Binds K fdN ["text", "row", "column"] [])
    (gN : mg "number_token" = some (.ref fN)) : FnOk P w K mg base (L2.CX P w) 5 f fd ["text", "row", "column"] (spTokOf K T CN) := by
  obtain ⟨tL, gL⟩ := G.le
  obtain ⟨tD, gD⟩ := G.di
  refine F.okX scTokOf (fun vs H Q E h => ?_) (fun cdv A outer s H vs Q E hr h => ?_)
  · obtain ⟨t, r, c, rfl, _⟩ := h
    rfl
  · obtain ⟨t, r, c, rfl, hne, hl, tb, p1, p2, q, qe⟩ := h
    refine ⟨_, pss_cons (ps_if (pt_cmpR op_in_sign (pe_ix ix_str (pv 0) pe_int (fun _ _ => rfl)) (pe_glob (v := .str digitsS) (by rfl) gD ⟨_, rfl⟩) (by rfl))
        (pss_one (ps_ret (pe_callS GN hr (by rfl) gN kN bN (fun σ => passAt (takes_of rfl rfl rfl rfl) σ) (pa_cons (pv 0) (pa_cons (pv 1) (pa_cons (pv 2) pa_nil)))))) pss_nil)
      (pss_cons (ps_if (pt_cmpR op_notIn_sign (pe_ix ix_str (pv 0) pe_int (fun _ _ => rfl)) (pe_glob (v := .str lettersS) (by rfl) gL ⟨_, rfl⟩) (by rfl))
        (pss_one (ps_ret (pe_tup (pa_cons pe_str (pa_cons (pv 0) (pa_cons (pv 1) (pa_cons (pv 2) pa_nil))))))) pss_nil)
      (pss_cons (ps_if (pt_cmpR op_in_seq (pv 0) (pe_glob (v := .ref aK) (by rfl) G.kw rfl) (by rfl))
        (pss_one (ps_ret (pe_tup (pa_cons pe_str (pa_cons (pv 0) (pa_cons (pv 1) (pa_cons (pv 2) pa_nil))))))) pss_nil)
      (pss_one (ps_ret (pe_tup (pa_cons pe_str (pa_cons (pv 0) (pa_cons (pv 1) (pa_cons (pv 2) pa_nil))))))))), ?_⟩
    cases t with
    | nil => exact absurd rfl hne
    | cons h rest =>
      have ans : ∀ (k : Str), tokOf (h :: rest) = some (k, .str (S (h :: rest))) → ∀ p, H p = none → Q (.ref p) (upd H p (.tup [.str k, .str (S (h :: rest)), .int r, .int c])) := fun k e p np =>
        q _ e _ p (Gr.laid tb np) (tup_dp (.cons (.str _) (.cons (.str _) (.cons (.int _) (.cons (.int _) .nil)))) upd_same)
      have line4 : 4 ≤ sizeLine := by
        rw [sizeLine_eq]
        decide
      refine ⟨_, rfl, _, _, h, rfl, rfl, len_S hl, at_S (i := 0) rfl, h, _, rfl, rfl, _, rfl, ite2 (fun a1 => ?_) (fun a1 => ?_)⟩
      · have h1 : h ∈ digs := of_decide_eq_true a1
        have unf : tokOf (h :: rest) = numTok (h :: rest) := if_pos h1
        rw [unf] at q qe
        exact ⟨_, rfl, _, rfl, _, rfl, h :: rest, r, c, rfl, hl, tb, p1, p2, q, qe⟩
      · have h1 : h ∉ digs := fun z => a1 (decide_eq_true z)
        refine ⟨_, rfl, _, _, h, rfl, rfl, len_S hl, at_S (i := 0) rfl, h, _, rfl, rfl, _, rfl, ite2 (fun a2 => ?_) (fun a2 => ?_)⟩
        · have h2 : h ∉ lets := fun z => by
            have d : decide (h ∈ (lettersS).cps.toList) = true := decide_eq_true z
            rw [d] at a2
            cases a2
          exact ⟨_, rfl, _, rfl, _, rfl, line4, ans _ (sign_tok h2 h1)⟩
        · have h2 : h ∈ lets := by
            by_cases z : h ∈ lets
            · exact z
            · have d : decide (h ∈ (lettersS).cps.toList) = false := decide_eq_false z
              rw [d] at a2
              exact absurd rfl a2
          have unf : tokOf (h :: rest) = if isKw (h :: rest) = true then some (("keyword", .str (S (h :: rest))) : KP) else some ("name", .str (S (h :: rest))) := by
            unfold tokOf
            simp only []
            rw [if_neg h1, if_pos h2]
          refine ⟨_, rfl, aK, kwV, rfl, .inr (G.qK _), rfl, rfl, _, rfl, ite2 (fun a3 => ?_) (fun a3 => ?_)⟩
          · have e : isKw (h :: rest) = true := a3
            rw [if_pos e] at unf
            exact ⟨_, rfl, _, rfl, _, rfl, line4, ans _ unf⟩
          · have e : ¬ isKw (h :: rest) = true := a3
            rw [if_neg e] at unf
            exact ⟨_, rfl, _, rfl, _, rfl, line4, ans _ unf⟩
end
end K0
/-! tokens. -/
namespace K0
open PySem PySem.Spec PyProof.Rows L2 SX
open GxR (TabG Tabbed TabB GenS)
/-! data without lists: it stays where tuples stay -/
mutual
def noL : PyData → Bool
  | .list _ => false
  | .dict _ => false
  | .tuple ds => noLs ds
  | _ => true
def noLs : List PyData → Bool
  | [] => true
  | d :: ds => noL d && noLs ds
end
mutual
theorem dp_stay {K : PySem.W.Frag} {H H' : Hp} (st : ∀ a xs, SqT K H a xs → SqT K H' a xs) : ∀ (d : PyData) (v : V), Dp K H v d → noL d = true → Dp K H' v d
  | .none, _, h, _ => by cases h; exact .non
  | .bool _, _, h, _ => by cases h; exact .bl _
  | .int _, _, h, _ => by cases h; exact .int _
  | .str _, _, h, _ => by cases h; exact .str _
  | .list _, _, _, n => by cases n
  | .dict _, _, _, n => by cases n
  | .tuple ds, _, h, n => by
    cases h with
    | tup s a => exact .tup (st _ _ s) (dps_stay st ds _ a n)
theorem dps_stay {K : PySem.W.Frag} {H H' : Hp} (st : ∀ a xs, SqT K H a xs → SqT K H' a xs) : ∀ (ds : List PyData) (vs : List V), DpAll K H vs ds → noLs ds = true → DpAll K H' vs ds
  | [], _, h, _ => by cases h; exact .nil
  | d :: ds, _, h, n => by
    cases h with
    | cons a b =>
      have n2 : (noL d && noLs ds) = true := n
      rw [Bool.and_eq_true] at n2
      exact .cons (dp_stay st d _ a n2.1) (dps_stay st ds _ b n2.2)
end
theorem noLs_app : ∀ (a b : List PyData), noLs (a ++ b) = (noLs a && noLs b)
  | [], b => rfl
  | d :: a, b => by
    show (noL d && noLs (a ++ b)) = ((noL d && noLs a) && noLs b)
    rw [noLs_app a b, Bool.and_assoc]
theorem dps_app {K : PySem.W.Frag} {H : Hp} : ∀ {vs : List V} {ds : List PyData} {us : List V} {es : List PyData}, DpAll K H vs ds → DpAll K H us es → DpAll K H (vs ++ us) (ds ++ es)
  | _, _, _, _, .nil, h => h
  | _, _, _, _, .cons a b, h => .cons a (dps_app b h)
theorem dps_len {K : PySem.W.Frag} {H : Hp} : ∀ {vs : List V} {ds : List PyData}, DpAll K H vs ds → vs.length = ds.length
  | _, _, .nil => rfl
  | _, _, .cons _ b => by rw [List.length_cons, List.length_cons, dps_len b]
theorem numTok_noL {t : Cs} {kp : KP} (h : numTok t = some kp) : noL kp.2 = true := by
  rw [numTok_eq] at h
  generalize Txt.partition (S t) (S [119]) = p at h
  simp only [] at h
  split at h
  · cases e : small p.1.cps.toList with
    | none =>
      rw [e] at h
      cases h
    | some v =>
      rw [e] at h
      cases h
      rfl
  · split at h
    · split at h
      · cases h
        rfl
      · cases h
    · cases h
theorem tokOf_noL {t : Cs} {kp : KP} (h : tokOf t = some kp) : noL kp.2 = true := by
  cases t with
  | nil => cases h
  | cons c r =>
    unfold tokOf at h
    simp only [] at h
    split at h
    · exact numTok_noL h
    · split at h
      · split at h
        · cases h
          rfl
        · cases h
          rfl
      · cases h
        rfl
theorem mk_noL {kp : KP} (h : noL kp.2 = true) (r c : Int) : noL (mk kp r c) = true := by
  show (noL (.str kp.1) && (noL kp.2 && (noL (.int r) && (noL (.int c) && true)))) = true
  rw [h]
  rfl
/-- a new object at p, the list at l grown: tuples stay -/
theorem tups_upd {K : PySem.W.Frag} {H : Hp} {l : Addr} {xs : List V} {o : HO} (e : H l = some (.lst xs)) : ∀ a ys, SqT K H a ys → SqT K (upd H l o) a ys := fun a ys h => by
  rcases h with (h | ⟨u, h⟩) | h
  · refine .inl (.inl ?_)
    rw [upd_ne (ne_of h e (by intro z; cases z))]
    exact h
  · refine .inl (.inr ⟨u, ?_⟩)
    rw [upd_ne (ne_of h e (by intro z; cases z))]
    exact h
  · exact .inr h
theorem scanLen {t : Cs} {p n : Nat} (h : tokLen (t.drop p) = some n) : 1 ≤ n ∧ p + n ≤ t.length := by
  cases e : t.drop p with
  | nil =>
    rw [e] at h
    cases h
  | cons c r =>
    rw [e] at h
    have hl := congrArg List.length e
    rw [List.length_drop, List.length_cons] at hl
    have hw : (r.takeWhile goesOn).length ≤ r.length := (List.takeWhile_prefix goesOn).length_le
    unfold tokLen at h
    simp only [] at h
    split at h
    · cases h
      omega
    · split at h
      · rename_i hi
        cases h
        cases r with
        | nil => exact absurd hi (by
            have : isLong [c] = false := by
              unfold isLong L2.inV longV
              simp only [List.any_cons, List.any_nil, Bool.or_false]
              have q : ∀ (a b : Nat), L2.eqV (.str (S [a, b])) (.str (S [c])) = false := fun a b => by
                show (S [a, b] == S [c]) = false
                rw [S_beq_eq]
                exact decide_eq_false (fun z => by cases z)
              have q1 := q 58 61
              have q2 := q 60 60
              have q3 := q 62 62
              have q4 := q 61 61
              exact (congr (congrArg or q1) (congr (congrArg or q2) (congr (congrArg or q3) q4))).trans rfl
            rw [show (List.take 2 [c]) = [c] from rfl, this]
            exact Bool.false_ne_true)
        | cons d r2 =>
          rw [List.length_cons] at hl
          omega
      · split at h
        · cases h
          omega
        · cases h
end K0
/-! tokens(text). -/
namespace K0
open PySem PySem.Spec PyProof.Rows L2 SX
open GxR (TabG Tabbed TabB GenS)
section
variable {P : Program} {w : World} {K : PySem.W.Frag} {mg : Str → Option Value} {base : Heap} {T : Addr}
def spTokens (K : PySem.W.Frag) (T CB CN : Addr) : Sp := fun vs H Q E => ∃ (t : Cs) (o : Out), vs = [.str (S t)] ∧ t.length ≤ 100000 ∧ TabG H T ∧ Lx t 1 1 [] o ∧
  (∀ ts, o = .ok ts → ∀ H' p items, Gr T H H' → H' p = some (.lst items) → DpAll K H' items ts → noLs ts = true → Q (.ref p) H') ∧
  (∀ b r c, o = .bad b r c → ∀ H' d, Gr T H H' → H' d = some (.xd (fsOf r c)) → E (.ref (if b = true then CB else CN)) (some d) H')
theorem Gr.put {H H1 : Hp} {l : Addr} {xs : List V} {o : HO} (g : Gr T H H1) (n : H l = Option.none) (e : H1 l = some (.lst xs)) : Gr T H (upd H1 l o) := by
  have nT : l ≠ T := tab_is g.tab e (fun ps z => by cases z)
  obtain ⟨ps, e2, r⟩ := g.tab
  exact ⟨⟨ps, by rw [upd_ne nT.symm]; exact e2, r⟩, fun b u nb hb => by rw [upd_ne (ne_of_none hb n)]; exact g.old b u nb hb⟩
theorem push_dp {H1 H2 : Hp} {l : Addr} {items : List V} {acc : List PyData} {v : V} {d : PyData} {o : HO} (t1 : TabG H1 T) (g : Gr T H1 H2) (hD : DpAll K H1 items acc) (hN : noLs acc = true) (e : H2 l = some (.lst items)) (hd : Dp K H2 v d) (nd : noL d = true) :
    DpAll K (upd H2 l o) (items ++ [v]) (acc ++ [d]) :=
  dps_app (dps_stay (fun a ys h => tups_upd e a ys (g.seqT t1 h)) _ _ hD hN) (.cons (dp_stay (tups_upd e) _ _ hd nd) .nil)
/-- between two turns -/
structure TkInv (K : PySem.W.Frag) (T : Addr) (H : Hp) (t : Cs) (o : Out) (l : Addr) (m : Nat) (σ : L2.St) (H' : Hp) : Prop where
  ex : ∃ (p : Nat) (r ls : Nat) (acc : List PyData) (items : List V) (y5 y6 y7 : Option V), σ = [some (.str (S t)), some (.ref l), some (.int ((p : Nat) : Int)), some (.int ((r : Nat) : Int)), some (.int ((ls : Nat) : Int)), y5, y6, y7] ∧
    p ≤ t.length ∧ ls ≤ p ∧ r ≤ p + 1 ∧ Lx (t.drop p) ((r : Nat) : Int) ((p : Int) - (ls : Int) + 1) acc o ∧ Gr T H H' ∧ H' l = some (.lst items) ∧ DpAll K H' items acc ∧ noLs acc = true ∧ items.length ≤ p ∧ m = t.length - p
theorem ok_tokens {f fE fT fO CB CN aL aK : Addr} {fd fdE fdT fdO : FuncData} (F : Fun K "tokens" "tokens" sTokens f fd) (G : Gls K mg aL aK)
    (GE : FnOk P w K mg base CX0 1 fE fdE ["text", "at"] spEol) (kE : PySem.W.keepIn K (.ref fE) = true) (bE : Binds K fdE ["text", "at"] []) (gE : mg "end_of_line" = some (.ref fE))
    (GT : FnOk P w K mg base (L2.CX P w) 3 fT fdT ["text", "at", "row", "column"] (spEot T CB)) (kT : PySem.W.keepIn K (.ref fT) = true) (bT : Binds K fdT ["text", "at", "row", "column"] []) (gT : mg "end_of_token" = some (.ref fT))
    (GO : FnOk P w K mg base (L2.CX P w) 5 fO fdO ["text", "row", "column"] (spTokOf K T CN)) (kO : PySem.W.keepIn K (.ref fO) = true) (bO : Binds K fdO ["text", "row", "column"] []) (gO : mg "token_of" = some (.ref fO)) :
    FnOk P w K mg base (L2.CX P w) 6 f fd ["text"] (spTokens K T CB CN) := by
  refine F.okX scTokens (fun vs H Q E h => ?_) (fun cdv A outer s H vs Q E hr h => ?_)
  · obtain ⟨t, o, rfl, _⟩ := h
    rfl
  · obtain ⟨t, o, rfl, hl, tb, hL, q, qe⟩ := h
    have hr1 : Room 1 _ := hr.mono (by decide)
    have hr3 : Room 3 _ := hr.mono (by decide)
    have hls : t.length ≤ sizeLine := line_big (by omega)
    have nd := scTokens.nd
    refine ⟨_, (pss_cons (ps_set (i := 1) nd rfl (.inl rfl) (pe_lst pa_nil))
      (pss_cons (ps_set (i := 2) nd rfl (.inl rfl) (pe_int))
      (pss_cons (ps_set (i := 3) nd rfl (.inl rfl) (pe_int))
      (pss_cons (ps_set (i := 4) nd rfl (.inl rfl) (pe_int))
      (pss_cons (ps_while (passes_of rfl) (pt_cmpR op_lt (pv 2) (pe_callB call_len_str (by rfl) G.ml PySem.boot_len (pa_cons (pv 0) pa_nil)) (nomark _)) (pss_cons (ps_set (i := 5) nd rfl (.inl rfl) (pe_ix ix_str (pv 0) (pv 2) (fun _ _ => rfl)))
      (pss_one (ps_if (pt_cmpR op_eq (pv 5) pe_str (nomark _)) (pss_cons (ps_aug (i := 2) nd rfl (.inl rfl) pe_int ip_add)
      (pss_cons (ps_aug (i := 3) nd rfl (.inl rfl) pe_int ip_add)
      (pss_one (ps_set (i := 4) nd rfl (.inl rfl) (pv 2)))))
      (pss_one (ps_if (pt_cmpR op_eq (pv 5) pe_str (nomark _)) (pss_one (ps_aug (i := 2) nd rfl (.inl rfl) pe_int ip_add))
      (pss_one (ps_if (pt_cmpR op_eq (pv 5) pe_str (nomark _)) (pss_one (ps_set (i := 2) nd rfl (.inl rfl) (pe_call GE hr1 (by rfl) gE kE bE .nil pass0 (pa_cons (pv 0) (pa_cons (pv 2) pa_nil)))))
      (pss_cons (ps_set (i := 6) nd rfl (.inl rfl) (pe_op op_add (pe_op op_sub (pv 2) (pv 4)) pe_int))
      (pss_cons (ps_set (i := 7) nd rfl (.inl rfl) (pe_callS GT hr3 (by rfl) gT kT bT (fun σ => passAt (takes_of rfl rfl rfl rfl) σ) (pa_cons (pv 0) (pa_cons (pv 2) (pa_cons (pv 3) (pa_cons (pv 6) pa_nil))))))
      (pss_cons (ps_expr (pe_bm PySem.F.plainAttrs_list PySem.F.slot_list_append PySem.F.type_list_append mt_append (pv 1) (pa_cons (pe_callS GO hr (by rfl) gO kO bO (fun σ => passAt (takes_of rfl rfl rfl rfl) σ) (pa_cons (pe_slice sl_str (pv 0) (po_some (pv 2)) (po_some (pv 7))) (pa_cons (pv 3) (pa_cons (pv 6) pa_nil)))) pa_nil)))
      (pss_one (ps_set (i := 2) nd rfl (.inl rfl) (pv 7))))))))))))))
      (pss_cons (ps_expr (pe_bm PySem.F.plainAttrs_list PySem.F.slot_list_append PySem.F.type_list_append mt_append (pv 1) (pa_cons (pe_tup (pa_cons (pe_str) (pa_cons (pe_str) (pa_cons (pv 3) (pa_cons (pe_op op_add (pe_op op_sub (pv 2) (pv 4)) pe_int) pa_nil))))) pa_nil)))
      (pss_one (ps_ret (pv 1))))))))), ?_⟩
    refine ⟨Nat.zero_le _, fun l nl => ?_⟩
    refine ⟨fun m σ H' => TkInv K T H t o l m σ H', ⟨_, ⟨0, 1, 0, [], [], none, none, none, rfl, Nat.zero_le _, Nat.le_refl 0, Nat.le_refl 1, hL, Gr.laid tb nl, upd_same, .nil, rfl, Nat.le_refl 0, rfl⟩⟩, ?_⟩
    rintro m σ H' ⟨p, r, ls, acc, items, y5, y6, y7, rfl, hp, hls2, hr2, hX, g, el, hD, hN, hi, rfl⟩
    have line : items.length < sizeLine := Nat.lt_of_le_of_lt hi (by rw [sizeLine_eq]; omega)
    refine ⟨_, rfl, _, rfl, _, rfl, len_S hls, _, _, rfl, rfl, _, rfl, ite2 (fun a1 => ?_) (fun a1 => ?_)⟩
    · have hlt : p < t.length := by
        have := of_decide_eq_true a1
        rw [S_len] at this
        omega
      refine ⟨fun σ2 H2 => ∃ m2, m2 < t.length - p ∧ TkInv K T H t o l m2 σ2 H2, fun σ2 H2 z => z, ?_⟩
      obtain ⟨h, s, ed⟩ : ∃ h s, t.drop p = h :: s := by
        cases e : t.drop p with
        | nil =>
          have := congrArg List.length e
          rw [List.length_drop] at this
          simp at this
          omega
        | cons h rest => exact ⟨h, rest, rfl⟩
      have gp : t[p]? = some h := by
        have e : (t.drop p)[0]? = t[p + 0]? := List.getElem?_drop
        rw [ed] at e
        exact e.symm
      have dr : ∀ k : Nat, t.drop (p + 1 + k) = s.drop k := fun k => by
        rw [Nat.add_assoc, ← List.drop_drop, ed, Nat.add_comm 1 k, List.drop_succ_cons]
      have dr0 : t.drop (p + 1) = s := dr 0
      have hlen : s.length + 1 + p = t.length := by
        have e1 := congrArg List.length ed
        rw [List.length_drop, List.length_cons] at e1
        omega
      have pr : Pl ((r : Nat) : Int) := ⟨by omega, by omega⟩
      have pc : Pl (((p : Nat) : Int) - ((ls : Nat) : Int) + 1) := ⟨by omega, by omega⟩
      rw [ed] at hX
      refine ⟨_, rfl, _, rfl, _, _, h, rfl, rfl, len_S hls, at_S gp, ?_⟩
      have sg : ∀ (k : Nat) (x : Str), x = S [k] → h ≠ k → decide (V.str ⟨#[h]⟩ = V.str x) = false := fun k x hx n => by
        rw [dec_sig hx]
        exact decide_eq_false n
      cases hX with
      | nl hX =>
        refine ⟨_, rfl, rfl, _, rfl, iteT ?_⟩
        refine ⟨_, rfl, _, _, rfl, rfl, _, rfl, _, _, rfl, rfl, _, rfl, t.length - (p + 1), by omega, p + 1, r + 1, p + 1, acc, items, _, _, _, rfl, by omega, Nat.le_refl _, by omega, ?_, g, el, hD, hN, by omega, rfl⟩
        rw [dr0, show (((p + 1 : Nat) : Int) - ((p + 1 : Nat) : Int) + 1) = 1 by omega, show (((r + 1 : Nat)) : Int) = ((r : Nat) : Int) + 1 by omega]
        exact hX
      | sp hX =>
        refine ⟨_, rfl, rfl, _, rfl, iteF ?_⟩
        refine ⟨_, rfl, rfl, _, rfl, iteT ?_⟩
        refine ⟨_, rfl, _, _, rfl, rfl, t.length - (p + 1), by omega, p + 1, r, ls, acc, items, _, _, _, rfl, by omega, by omega, by omega, ?_, g, el, hD, hN, by omega, rfl⟩
        rw [dr0, show (((p + 1 : Nat) : Int) - ((ls : Nat) : Int) + 1) = ((p : Nat) : Int) - ((ls : Nat) : Int) + 1 + 1 by omega]
        exact hX
      | rem hX =>
        refine ⟨_, rfl, rfl, _, rfl, iteF ?_⟩
        refine ⟨_, rfl, rfl, _, rfl, iteF ?_⟩
        refine ⟨_, rfl, rfl, _, rfl, iteT ?_⟩
        have tw : (t.drop p).takeWhile notNl = 35 :: s.takeWhile notNl := by
          rw [ed]
          exact List.takeWhile_cons_of_pos (by decide)
        have hw : (s.takeWhile notNl).length ≤ s.length := (List.takeWhile_prefix notNl).length_le
        have hdw : s.dropWhile notNl = s.drop (s.takeWhile notNl).length := by
          have e1 := List.takeWhile_append_dropWhile (p := notNl) (l := s)
          have e2 : (s.takeWhile notNl ++ s.dropWhile notNl).drop (s.takeWhile notNl).length = s.dropWhile notNl := List.drop_left
          rw [e1] at e2
          exact e2.symm
        refine ⟨_, rfl, _, rfl, t, p, rfl, hls, by omega, ?_⟩
        rw [tw, List.length_cons]
        refine ⟨t.length - (p + ((s.takeWhile notNl).length + 1)), by omega, p + ((s.takeWhile notNl).length + 1), r, ls, acc, items, _, _, _, rfl, by omega, by omega, by omega, ?_, g, el, hD, hN, by omega, rfl⟩
        have e3 : t.drop (p + ((s.takeWhile notNl).length + 1)) = s.dropWhile notNl := by
          rw [show p + ((s.takeWhile notNl).length + 1) = p + 1 + (s.takeWhile notNl).length by omega, dr, hdw]
        rw [e3, show (((p + ((s.takeWhile notNl).length + 1) : Nat) : Int) - ((ls : Nat) : Int) + 1) = ((p : Nat) : Int) - ((ls : Nat) : Int) + 1 + 1 + (((s.takeWhile notNl).length : Nat) : Int) by omega]
        exact hX
      | @tok _ _ _ _ _ _ n kp n1 n2 n3 hT hK hX =>
        refine ⟨_, rfl, rfl, _, rfl, ?_⟩
        rw [sg 10 "\n" rfl n1]
        refine iteF ⟨_, rfl, rfl, _, rfl, ?_⟩
        rw [sg 32 " " rfl n2]
        refine iteF ⟨_, rfl, rfl, _, rfl, ?_⟩
        rw [sg 35 "#" rfl n3]
        refine iteF ?_
        have hT2 : tokLen (t.drop p) = some n := by
          rw [ed]
          exact hT
        obtain ⟨b1, b2⟩ := scanLen hT2
        refine ⟨_, rfl, _, rfl, _, _, rfl, rfl, _, _, rfl, rfl, ?_⟩
        refine ⟨_, rfl, _, rfl, _, rfl, _, rfl, t, p, _, _, rfl, by omega, hlt, g.tab, pr, pc, fun n' e' => ?_, fun z => ?_⟩
        · have en : n = n' := Option.some.inj (hT2.symm.trans e')
          subst en
          refine ⟨_, rfl, .inl ⟨rfl, _, SqL.of el⟩, ?_⟩
          refine ⟨_, rfl, _, rfl, _, rfl, _, rfl, _, rfl, _, rfl, len_S hls, ?_⟩
          rw [cut_S (t := t) (a := p) (b := p + n) (by omega) b2, Nat.add_sub_cancel_left]
          have tk : (t.drop p).take n = (h :: s).take n := by rw [ed]
          rw [tk]
          have tkl : ((h :: s).take n).length ≤ t.length := by
            rw [List.length_take, List.length_cons]
            omega
          refine ⟨_, rfl, _, rfl, (h :: s).take n, _, _, rfl, ?_, Nat.le_trans tkl hls, g.tab, pr, pc, fun kp' e2 H2 z g2 d2 => ?_, fun z => ?_⟩
          · intro z
            have := congrArg List.length z
            rw [List.length_take, List.length_cons, List.length_nil] at this
            omega
          · have ek : kp = kp' := Option.some.inj (hK.symm.trans e2)
            subst ek
            have el2 := g2.at g.tab el (fun ps z => by cases z)
            refine ⟨l, _, _, rfl, rfl, el2, line, _, rfl, t.length - (p + n), by omega, p + n, r, ls, acc ++ [mk kp ((r : Nat) : Int) (((p : Nat) : Int) - ((ls : Nat) : Int) + 1)], items ++ [.ref z], _, _, _, rfl, b2, by omega, by omega, ?_, (g.trans g2).put nl el2, upd_same,
              push_dp g.tab g2 hD hN el2 d2 (mk_noL (tokOf_noL hK) _ _), ?_, ?_, rfl⟩
            · have e3 : t.drop (p + n) = (h :: s).drop n := by rw [← List.drop_drop, ed]
              rw [e3, show (((p + n : Nat) : Int) - ((ls : Nat) : Int) + 1) = ((p : Nat) : Int) - ((ls : Nat) : Int) + 1 + ((n : Nat) : Int) by omega]
              exact hX
            · rw [noLs_app, hN]
              show (noL _ && true) = true
              rw [mk_noL (tokOf_noL hK)]
              rfl
            · rw [List.length_append, List.length_singleton]
              omega
          · rw [hK] at z
            cases z
        · rw [hT2] at z
          cases z
      | @badnum _ _ _ _ _ n n1 n2 n3 hT hK =>
        refine ⟨_, rfl, rfl, _, rfl, ?_⟩
        rw [sg 10 "\n" rfl n1]
        refine iteF ⟨_, rfl, rfl, _, rfl, ?_⟩
        rw [sg 32 " " rfl n2]
        refine iteF ⟨_, rfl, rfl, _, rfl, ?_⟩
        rw [sg 35 "#" rfl n3]
        refine iteF ?_
        have hT2 : tokLen (t.drop p) = some n := by
          rw [ed]
          exact hT
        obtain ⟨b1, b2⟩ := scanLen hT2
        refine ⟨_, rfl, _, rfl, _, _, rfl, rfl, _, _, rfl, rfl, ?_⟩
        refine ⟨_, rfl, _, rfl, _, rfl, _, rfl, t, p, _, _, rfl, by omega, hlt, g.tab, pr, pc, fun n' e' => ?_, fun z => ?_⟩
        · have en : n = n' := Option.some.inj (hT2.symm.trans e')
          subst en
          refine ⟨_, rfl, .inl ⟨rfl, _, SqL.of el⟩, ?_⟩
          refine ⟨_, rfl, _, rfl, _, rfl, _, rfl, _, rfl, _, rfl, len_S hls, ?_⟩
          rw [cut_S (t := t) (a := p) (b := p + n) (by omega) b2, Nat.add_sub_cancel_left]
          have tk : (t.drop p).take n = (h :: s).take n := by rw [ed]
          rw [tk]
          have tkl : ((h :: s).take n).length ≤ t.length := by
            rw [List.length_take, List.length_cons]
            omega
          refine ⟨_, rfl, _, rfl, (h :: s).take n, _, _, rfl, ?_, Nat.le_trans tkl hls, g.tab, pr, pc, fun kp' e2 H2 z g2 d2 => ?_, fun _ H2 d g2 e2 => ?_⟩
          · intro z
            have := congrArg List.length z
            rw [List.length_take, List.length_cons, List.length_nil] at this
            omega
          · rw [hK] at e2
            cases e2
          · exact qe false _ _ rfl H2 d (g.trans g2) e2
        · rw [hT2] at z
          cases z
      | badch n1 n2 n3 hT =>
        refine ⟨_, rfl, rfl, _, rfl, ?_⟩
        rw [sg 10 "\n" rfl n1]
        refine iteF ⟨_, rfl, rfl, _, rfl, ?_⟩
        rw [sg 32 " " rfl n2]
        refine iteF ⟨_, rfl, rfl, _, rfl, ?_⟩
        rw [sg 35 "#" rfl n3]
        refine iteF ?_
        have hT2 : tokLen (t.drop p) = none := by
          rw [ed]
          exact hT
        refine ⟨_, rfl, _, rfl, _, _, rfl, rfl, _, _, rfl, rfl, ?_⟩
        refine ⟨_, rfl, _, rfl, _, rfl, _, rfl, t, p, _, _, rfl, by omega, hlt, g.tab, pr, pc, fun n' e' => ?_, fun _ H2 d g2 e2 => ?_⟩
        · rw [hT2] at e'
          cases e'
        · exact qe true _ _ rfl H2 d (g.trans g2) e2
    · -- the end
      have ep : p = t.length := by
        have : ¬ ((p : Nat) : Int) < (((S t).length : Nat) : Int) := fun z => a1 (decide_eq_true z)
        rw [S_len] at this
        omega
      have ed : t.drop p = [] := by
        rw [ep]
        exact List.drop_length
      rw [ed] at hX
      cases hX with
      | nil =>
        refine ⟨_, rfl, .inl ⟨rfl, _, SqL.of el⟩, _, rfl, _, rfl, _, rfl, _, _, rfl, rfl, _, _, rfl, rfl, (by show 4 ≤ sizeLine; decide), fun z nz => ?_⟩
        have nlz : l ≠ z := ne_of_none el nz
        refine ⟨l, _, _, rfl, rfl, (by rw [upd_ne nlz]; exact el), line, _, rfl, ?_⟩
        have g1 := Gr.laid (o := .tup [.str ("end" : Str), .str ("" : Str), .int ((r : Nat) : Int), .int (((p : Nat) : Int) - ((ls : Nat) : Int) + 1)]) g.tab nz
        have el1 : (upd H' z (.tup [.str ("end" : Str), .str ("" : Str), .int ((r : Nat) : Int), .int (((p : Nat) : Int) - ((ls : Nat) : Int) + 1)])) l = some (.lst items) := by
          rw [upd_ne nlz]
          exact el
        refine q _ rfl _ l _ ((g.trans g1).put nl el1) upd_same (push_dp g.tab g1 hD hN el1 (tup_dp (.cons (.str _) (.cons (.str _) (.cons (.int _) (.cons (.int _) .nil)))) upd_same) rfl) ?_
        rw [noLs_app, hN]
        rfl
end
end K0
/-! The law's own draws. -/
namespace K0
open PySem PySem.Spec PyProof.Rows L2 SX
theorem scDraws : FnScope ["script", "many", "draws", "mixed", "k", "cell", "rest", "turn"] ["script", "many"] (defScope sDraws) := ⟨rfl, rfl, rfl, by decide +kernel, rfl, by decide +kernel, by decide +kernel⟩
theorem scNext : FnScope ["w", "many"] ["w", "many"] (defScope sNext) := ⟨rfl, rfl, rfl, by decide +kernel, rfl, by decide +kernel, by decide +kernel⟩
theorem cut_ints (ds : List Int) (lo hi : Option Int) : ∃ es : List Int, cutV (ds.map V.int) lo hi = es.map V.int ∧ es.length ≤ ds.length := by
  refine ⟨(ds.drop (HT.sIx ds.length 0 lo)).take (HT.sIx ds.length ds.length hi - HT.sIx ds.length 0 lo), ?_, ?_⟩
  · unfold cutV
    rw [List.length_map, List.map_take, List.map_drop]
  · rw [List.length_take, List.length_drop]
    omega
theorem ap_int (ds : List Int) (z : Int) : ds.map V.int ++ [V.int z] = (ds ++ [z]).map V.int := by
  rw [List.map_append]
  rfl
theorem same_new {H : Hp} {p : Addr} {o : HO} (n : H p = none) : Same H (upd H p o) := fun b x e => by
  rw [upd_ne (ne_of_none e n)]
  exact e
theorem same_put {H H1 : Hp} {l : Addr} {o : HO} (g : Same H H1) (n : H l = none) : Same H (upd H1 l o) := fun b x e => by
  rw [upd_ne (ne_of_none e n)]
  exact g b x e
section
variable {P : Program} {w : World} {K : PySem.W.Frag} {mg : Str → Option Value} {base : Heap}
/-- the built-ins that the law calls -/
structure Bl (mg : Str → Option Value) : Prop where
  len : mg "len" = none
  range : mg "range" = none
  abs : mg "abs" = none
  int : mg "int" = none
  str : mg "str" = none
def spDraws (K : PySem.W.Frag) : Sp := fun vs H Q _ => ∃ (a : Addr) (ns : List Int) (m : Nat), vs = [.ref a, .int ((m : Nat) : Int)] ∧ SqL K H a (ns.map V.int) ∧ ns.length ≤ 63 ∧ m ≤ 1000 ∧
  ∀ (H' : Hp) (p : Addr) (ds : List Int), Same H H' → H p = none → H' p = some (.lst (ds.map V.int)) → ds.length ≤ 10000 → Q (.ref p) H'
theorem ok_draws {f : Addr} {fd : FuncData} (F : Fun K "_law_draws" "_law_draws" sDraws f fd) (B : Bl mg) : FnOk P w K mg base CX0 1 f fd ["script", "many"] (spDraws K) := by
  refine F.ok scDraws (fun vs H Q E h => ?_) (fun cdv A outer s H vs Q E hr h => ?_)
  · obtain ⟨a, ns, m, rfl, _⟩ := h
    rfl
  · obtain ⟨a, ns, m, rfl, hS, hlen, hm, q⟩ := h
    have nd := scDraws.nd
    refine ⟨_, (pss_cons (ps_set (i := 2) nd rfl (.inl rfl) (pe_lst pa_nil))
      (pss_cons (ps_set (i := 3) nd rfl (.inl rfl) (pe_int))
      (pss_cons (ps_for PassesOwn.never rfl (pi_range1 (by rfl) B.range (pa_cons (pe_callB call_len_seq (by rfl) B.len PySem.boot_len (pa_cons (pv 0) pa_nil)) pa_nil)) (pg_name (i := 4) nd rfl (.inl rfl)) (pss_cons (ps_set (i := 5) nd rfl (.inl rfl) (pe_callB call_abs (by rfl) B.abs (by decide +kernel) (pa_cons (pe_callTy call_int1 (by rfl) B.int (by decide +kernel) (pa_cons (pe_ix ix_list (pv 0) (pv 4) (fun _ _ => rfl)) pa_nil)) pa_nil)))
      (pss_cons (ps_set (i := 3) nd rfl (.inl rfl) (pe_op op_mod (pe_callTy call_int1 (by rfl) B.int (by decide +kernel) (pa_cons (pe_op op_add (pe_op op_add (pe_op op_mul (pv 3) (pe_int)) (pe_op op_mod (pv 5) (pe_int))) (pv 4)) pa_nil)) (pe_int)))
      (pss_cons (ps_set (i := 6) nd rfl (.inl rfl) (pe_int))
      (C8.pss_cut (ps_if (pt_cmpR op_ge (pv 5) (pe_op op_pow pe_int pe_int) (nomark _)) (pss_one (ps_set (i := 6) nd rfl (.inl rfl) (pv 5)))
      (pss_cons (ps_expr (pe_bm PySem.F.plainAttrs_list PySem.F.slot_list_append PySem.F.type_list_append mt_append (pv 2) (pa_cons (pe_op op_mod (pe_callTy call_int1 (by rfl) B.int (by decide +kernel) (pa_cons (pv 5) pa_nil)) (pe_int)) pa_nil)))
      (pss_one (ps_expr (pe_bm PySem.F.plainAttrs_list PySem.F.slot_list_append PySem.F.type_list_append mt_append (pv 2) (pa_cons (pe_op op_mod (pe_op op_mod (pe_callTy call_int1 (by rfl) B.int (by decide +kernel) (pa_cons (pe_op op_add (pe_op op_mul (pv 3) (pe_int)) (pe_int)) pa_nil)) (pe_int)) (pe_int)) pa_nil))))))
      (pss_one (ps_for PassesOwn.never rfl (pi_range1 (by rfl) B.range (pa_cons (pe_int) pa_nil)) (pg_name (i := 7) nd rfl (.inl rfl)) (pss_one (ps_if (pt_cmpR op_gt (pv 6) pe_int (nomark _)) (pss_cons (ps_expr (pe_bm PySem.F.plainAttrs_list PySem.F.slot_list_append PySem.F.type_list_append mt_append (pv 2) (pa_cons (pe_op op_mod (pe_callTy call_int1 (by rfl) B.int (by decide +kernel) (pa_cons (pv 6) pa_nil)) (pe_int)) pa_nil)))
      (pss_one (ps_set (i := 6) nd rfl (.inl rfl) (pe_op op_fdiv (pv 6) (pe_int))))) pss_nil)))))))))
      (pss_cons (ps_for PassesOwn.never rfl (pi_range1 (by rfl) B.range (pa_cons (pv 1) pa_nil)) (pg_name (i := 4) nd rfl (.inl rfl)) (pss_cons (ps_set (i := 3) nd rfl (.inl rfl) (pe_op op_mod (pe_callTy call_int1 (by rfl) B.int (by decide +kernel) (pa_cons (pe_op op_add (pe_op op_add (pe_op op_mul (pv 3) (pe_int)) (pv 4)) (pe_int)) pa_nil)) (pe_int)))
      (pss_one (ps_expr (pe_bm PySem.F.plainAttrs_list PySem.F.slot_list_append PySem.F.type_list_append mt_append (pv 2) (pa_cons (pe_op op_mod (pe_callTy call_int1 (by rfl) B.int (by decide +kernel) (pa_cons (pv 3) pa_nil)) (pe_int)) pa_nil))))))
      (pss_one (ps_ret (pe_slice sl_list (pv 2) po_none (po_some (pv 1))))))))), ?_⟩
    refine ⟨Nat.zero_le _, fun l nl => ?_⟩
    have big : 100000 ≤ sizeLine := by
      rw [sizeLine_eq]
      decide
    let Iv : Nat → L2.St → Hp → Prop := fun n σ H' => ∃ (mixed : Int) (ds : List Int) (y4 y5 y6 y7 : Option V), σ = [some (.ref a), some (.int ((m : Nat) : Int)), some (.ref l), some (.int mixed), y4, y5, y6, y7] ∧ Same H H' ∧ H' l = some (.lst (ds.map V.int)) ∧ ds.length ≤ n ∧ 0 ≤ mixed ∧ mixed < 65537
    have h65 : ∀ x : Int, 0 ≤ x % 65537 ∧ x % 65537 < 65537 := fun x => ⟨Int.emod_nonneg x (by decide), Int.emod_lt_of_pos x (by decide)⟩
    refine ⟨_, rfl, a, ns.map V.int, rfl, .inl ((same_new nl).seq hS), ?_⟩
    rw [List.length_map]
    refine ⟨_, rfl, by omega, by omega, for_range (fun i σ H' => Iv (62 * i) σ H') ⟨7, [], none, none, none, none, rfl, same_new nl, upd_same, Nat.le_refl 0, by decide, by decide⟩ (fun i σ H1 hi h1 => ?_) (fun σ H1 h1 => ?_)⟩
    · obtain ⟨mixed, ds, y4, y5, y6, y7, rfl, g, el, dl, m0, m1⟩ := h1
      have hi2 : i < ns.length := by omega
      have hg : (ns.map V.int)[i]? = some (.int ns[i]) := by
        rw [List.getElem?_map, List.getElem?_eq_getElem hi2]
        rfl
      rw [Int.zero_add]
      refine ⟨_, rfl, _, rfl, a, _, _, _, rfl, rfl, g.seq hS, atI_nat (j := i) hg, .inl ⟨_, rfl, _, rfl, ?_⟩⟩
      generalize (if ns[i] < 0 then -ns[i] else ns[i]) = c
      refine ⟨_, rfl, _, _, rfl, rfl, .inl ⟨by omega, by omega⟩, _, rfl, _, _, rfl, rfl, (show (0 : Int) < 1000003 by decide), _, _, rfl, rfl, _, rfl, _, _, rfl, rfl, .inl ⟨_, rfl, _, _, rfl, rfl, (show (0 : Int) < 65537 by decide), ?_⟩⟩
      have mx := h65 (mixed * 48271 + c % 1000003 + ((i : Nat) : Int))
      -- behind the if: what the loop over 60 turns asks
      refine ⟨fun σ H2 => ∃ (ds : List Int) (rest : Int) (y7 : Option V), σ = [some (.ref a), some (.int ((m : Nat) : Int)), some (.ref l), some (.int ((mixed * 48271 + c % 1000003 + ((i : Nat) : Int)) % 65537)), some (.int ((i : Nat) : Int)), some (.int c), some (.int rest), y7] ∧ Same H H2 ∧ H2 l = some (.lst (ds.map V.int)) ∧ ds.length ≤ 62 * i + 2, ?_, ?_⟩
      · refine ⟨_, rfl, _, _, rfl, rfl, ⟨by decide, by decide, by decide⟩, _, _, rfl, rfl, _, rfl, ite2 (fun a1 => ?_) (fun a1 => ?_)⟩
        · exact ⟨_, rfl, ds, c, _, rfl, g, el, by omega⟩
        · refine ⟨_, rfl, .inl ⟨rfl, _, SqL.of el⟩, _, rfl, .inl ⟨_, rfl, _, _, rfl, rfl, (show (0 : Int) < 997 by decide), l, _, _, rfl, rfl, el, ?_, ?_⟩⟩
          · rw [List.length_map]
            omega
          · rw [ap_int]
            refine ⟨_, rfl, .inl ⟨rfl, _, SqL.of upd_same⟩, _, rfl, _, _, rfl, rfl, .inl ⟨by omega, by omega⟩, _, _, rfl, rfl, .inl ⟨_, rfl, _, _, rfl, rfl, (show (0 : Int) < 65521 by decide), _, _, rfl, rfl, (show (0 : Int) < 997 by decide), l, _, _, rfl, rfl, upd_same, ?_, ?_⟩⟩
            · rw [List.length_map, List.length_append]
              show ds.length + 1 < sizeLine
              omega
            · rw [ap_int]
              refine ⟨_, 0, _, rfl, same_put (same_put g nl) nl, upd_same, ?_⟩
              rw [List.length_append, List.length_append]
              show ds.length + 1 + 1 ≤ _
              omega
      · rintro σ H2 ⟨ds, rest, y7, rfl, g, el, dl⟩
        refine ⟨_, rfl, by decide, by decide, for_range (fun j σ H3 => ∃ (ds : List Int) (rest : Int) (y7 : Option V), σ = [some (.ref a), some (.int ((m : Nat) : Int)), some (.ref l), some (.int ((mixed * 48271 + c % 1000003 + ((i : Nat) : Int)) % 65537)), some (.int ((i : Nat) : Int)), some (.int c), some (.int rest), y7] ∧ Same H H3 ∧ H3 l = some (.lst (ds.map V.int)) ∧ ds.length ≤ 62 * i + 2 + j)
          ⟨ds, rest, y7, rfl, g, el, dl⟩ (fun j σ H3 hj h3 => ?_) (fun σ H3 h3 => ?_)⟩
        · obtain ⟨ds, rest, y7, rfl, g, el, dl⟩ := h3
          have hj2 : j < 60 := hj
          refine ⟨_, rfl, _, _, rfl, rfl, _, rfl, ite2 (fun a1 => ?_) (fun a1 => ?_)⟩
          · refine ⟨_, rfl, .inl ⟨rfl, _, SqL.of el⟩, _, rfl, .inl ⟨_, rfl, _, _, rfl, rfl, (show (0 : Int) < 997 by decide), l, _, _, rfl, rfl, el, ?_, ?_⟩⟩
            · rw [List.length_map]
              omega
            · rw [ap_int]
              refine ⟨_, rfl, _, _, rfl, rfl, ⟨by decide, by decide⟩, _, _, _, rfl, same_put g nl, upd_same, ?_⟩
              rw [List.length_append]
              show ds.length + 1 ≤ _
              omega
          · exact ⟨ds, rest, _, rfl, g, el, by omega⟩
        · obtain ⟨ds, rest, y7, rfl, g, el, dl⟩ := h3
          have dl2 : ds.length ≤ 62 * i + 2 + 60 := dl
          exact ⟨_, ds, _, _, _, _, rfl, g, el, by omega, mx.1, mx.2⟩
    · obtain ⟨mixed, ds, y4, y5, y6, y7, rfl, g, el, dl, m0, m1⟩ := h1
      have dl2 : ds.length ≤ 4000 := by omega
      refine ⟨_, rfl, _, rfl, by omega, by omega, for_range (fun j σ H2 => Iv (4000 + j) σ H2) ⟨mixed, ds, y4, y5, y6, y7, rfl, g, el, by omega, m0, m1⟩ (fun j σ H2 hj h2 => ?_) (fun σ H2 h2 => ?_)⟩
      · obtain ⟨mixed, ds, y4, y5, y6, y7, rfl, g, el, dl, m0, m1⟩ := h2
        have hj2 : j < m := by omega
        refine ⟨_, rfl, _, _, rfl, rfl, .inl ⟨by omega, by omega⟩, _, rfl, _, _, rfl, rfl, _, _, rfl, rfl, .inl ⟨_, rfl, _, _, rfl, rfl, (show (0 : Int) < 65537 by decide), ?_⟩⟩
        have mx := h65 (mixed * 16807 + (0 + ((j : Nat) : Int)) + 1)
        refine ⟨_, rfl, .inl ⟨rfl, _, SqL.of el⟩, _, rfl, .inl ⟨_, rfl, _, _, rfl, rfl, (show (0 : Int) < 997 by decide), l, _, _, rfl, rfl, el, ?_, ?_⟩⟩
        · rw [List.length_map]
          omega
        · rw [ap_int]
          refine ⟨_, _, _, _, _, _, rfl, same_put g nl, upd_same, ?_, mx.1, mx.2⟩
          rw [List.length_append]
          show ds.length + 1 ≤ _
          omega
      · obtain ⟨mixed, ds, y4, y5, y6, y7, rfl, g, el, dl, m0, m1⟩ := h2
        have dl3 : ds.length ≤ 5000 := by omega
        refine ⟨_, rfl, _, rfl, _, rfl, l, _, rfl, SqL.of el, fun p np => ?_⟩
        obtain ⟨es, e1, e2⟩ := cut_ints ds none (some ((m : Nat) : Int))
        rw [e1]
        exact q _ p es (fun b o e => same_new np b o (g b o e)) (g.free np) upd_same (by omega)
end
end K0
/-! The law's next draw. -/
namespace K0
open PySem PySem.Spec PyProof.Rows L2 SX
/-- the law's world: its draws and how many are taken -/
def wdL (l : Addr) (n : Int) : List (Key × V) := [(.inr ("draws" : Str), .ref l), (.inr ("at" : Str), .int n)]
theorem wd_draws (l : Addr) (n : Int) : valV (wdL l n) (.inr "draws") = some (.ref l) := valV_pos rfl
theorem wd_at (l : Addr) (n : Int) : valV (wdL l n) (.inr "at") = some (.int n) := (valV_neg (show ¬ (Sum.inr ("draws" : Str) : Key) = Sum.inr ("at" : Str) by decide)).trans (valV_pos rfl)
theorem wd_put (l : Addr) (n k : Int) : putK (wdL l n) (.inr ("at" : Str)) (.int k) = wdL l k := by
  have h1 : ¬ (Sum.inr ("draws" : Str) : Key) = Sum.inr ("at" : Str) := by decide
  unfold putK wdL
  simp [h1]
theorem get_draws {H : Hp} {a l : Addr} {n : Int} (h : H a = some (.dK (wdL l n))) : DGet H a (.str "draws") (some (.ref l)) := by
  have g := DGet.k (k := .inr "draws") h
  rw [wd_draws] at g
  exact g
theorem get_at {H : Hp} {a l : Addr} {n : Int} (h : H a = some (.dK (wdL l n))) : DGet H a (.str "at") (some (.int n)) := by
  have g := DGet.k (k := .inr "at") h
  rw [wd_at] at g
  exact g
theorem put_at {H : Hp} {a l : Addr} {n k : Int} (h : H a = some (.dK (wdL l n))) : DPut H a (.str "at") (.int k) (upd H a (.dK (wdL l k))) := by
  have g := DPut.k (k := .inr "at") (v := .int k) h (by rw [sizeLine_eq]; exact (by decide : 2 < 16777216))
  rw [wd_put] at g
  exact g
structure Wd (H : Hp) (a l : Addr) (ds : List Int) : Prop where
  at' : ∃ n : Int, 0 ≤ n ∧ H a = some (.dK (wdL l n))
  dr : H l = some (.lst (ds.map V.int))
  len : ds.length ≤ 10000
/-- all but the world at a is as it was -/
def Kp (a : Addr) (H H' : Hp) : Prop := ∀ b o, b ≠ a → H b = some o → H' b = some o
section
variable {a l : Addr} {ds : List Int} {H H1 H2 : Hp}
theorem Kp.refl (H : Hp) : Kp a H H := fun _ _ _ e => e
theorem Kp.trans (x : Kp a H H1) (y : Kp a H1 H2) : Kp a H H2 := fun b o n e => y b o n (x b o n e)
theorem Wd.ne (W : Wd H a l ds) : l ≠ a := by
  obtain ⟨n, _, e⟩ := W.at'
  exact ne_of W.dr e (by intro z; cases z)
theorem Kp.new {p : Addr} {o : HO} (n : H p = none) : Kp a H (upd H p o) := fun b u _ e => by
  rw [upd_ne (ne_of_none e n)]
  exact e
theorem Wd.new (W : Wd H a l ds) {p : Addr} {o : HO} (n : H p = none) : Wd (upd H p o) a l ds := by
  obtain ⟨k, k0, e⟩ := W.at'
  refine ⟨⟨k, k0, ?_⟩, ?_, W.len⟩
  · rw [upd_ne (ne_of_none e n)]
    exact e
  · rw [upd_ne (ne_of_none W.dr n)]
    exact W.dr
theorem Kp.step {o : HO} : Kp a H (upd H a o) := fun b u n e => by
  rw [upd_ne n]
  exact e
theorem Wd.step (W : Wd H a l ds) {n : Int} (h : 0 ≤ n) : Wd (upd H a (.dK (wdL l n))) a l ds := by
  refine ⟨⟨n, h, upd_same⟩, ?_, W.len⟩
  rw [upd_ne W.ne]
  exact W.dr
theorem Wd.fresh (W : Wd H a l ds) {p : Addr} (n : H p = none) : p ≠ a := fun z => by
  obtain ⟨k, _, e⟩ := W.at'
  rw [z, e] at n
  cases n
end
section
variable {P : Program} {w : World} {K : PySem.W.Frag} {mg : Str → Option Value} {base : Heap}
def spNext : Sp := fun vs H Q _ => ∃ (a l : Addr) (ds : List Int) (m : Int), vs = [.ref a, .int m] ∧ 0 < m ∧ Wd H a l ds ∧ ∀ (r : Nat) H', ((r : Nat) : Int) < m → Kp a H H' → (∀ b, b ≠ a → H' b = H b) → Wd H' a l ds → Q (.int ((r : Nat) : Int)) H'
theorem ok_next {f : Addr} {fd : FuncData} (F : Fun K "_law_next" "_law_next" sNext f fd) (B : Bl mg) : FnOk P w K mg base CX0 1 f fd ["w", "many"] spNext := by
  refine F.ok scNext (fun vs H Q E h => ?_) (fun cdv A outer s H vs Q E hr h => ?_)
  · obtain ⟨a, l, ds, m, rfl, _⟩ := h
    rfl
  · obtain ⟨a, l, ds, m, rfl, hm, W, q⟩ := h
    have hu := hu_of hr
    refine ⟨_, pss_cons (ps_daug hu (pv 0) pe_str pe_int in_add (fun _ _ _ => rfl))
      (pss_cons (ps_if (pt_cmpR op_gt (pe_dget hu (pv 0) pe_str (fun _ _ => rfl)) (pe_callB call_len_seq (by rfl) B.len PySem.boot_len (pa_cons (pe_dget hu (pv 0) pe_str (fun _ _ => rfl)) pa_nil)) (nomark _)) (pss_one (ps_ret pe_int)) pss_nil)
      (pss_one (ps_ret (pe_op op_mod (pe_callTy call_int1 (by rfl) B.int (by decide +kernel) (pa_cons (pe_ix ix_list (pe_dget hu (pv 0) pe_str (fun _ _ => rfl)) (pe_op op_sub (pe_dget hu (pv 0) pe_str (fun _ _ => rfl)) pe_int) (fun _ _ => rfl)) pa_nil)) (pv 1))))), ?_⟩
    obtain ⟨n, n0, e⟩ := W.at'
    refine ⟨_, rfl, a, _, rfl, get_at e, _, _, rfl, rfl, _, put_at e, ?_⟩
    have W1 : Wd (upd H a (.dK (wdL l (n + 1)))) a l ds := W.step (by omega)
    have e1 : (upd H a (.dK (wdL l (n + 1)))) a = some (.dK (wdL l (n + 1))) := upd_same
    refine ⟨_, rfl, a, _, rfl, get_at e1, _, rfl, a, _, rfl, get_draws e1, l, _, rfl, .inl (SqL.of W1.dr), _, _, rfl, rfl, _, rfl, ite2 (fun a1 => ?_) (fun a1 => ?_)⟩
    · exact q 0 _ hm Kp.step (fun b hb => upd_ne hb) W1
    · have b1 : ¬ ((ds.map V.int).length : Int) < n + 1 := fun z => a1 (decide_eq_true z)
      rw [List.length_map] at b1
      obtain ⟨j, ej⟩ : ∃ j : Nat, n + 1 - 1 = ((j : Nat) : Int) := ⟨n.toNat, by omega⟩
      have hj : j < ds.length := by omega
      have hg : (ds.map V.int)[j]? = some (.int ds[j]) := by
        rw [List.getElem?_map, List.getElem?_eq_getElem hj]
        rfl
      refine ⟨_, rfl, a, _, rfl, get_draws e1, _, rfl, a, _, rfl, get_at e1, _, _, rfl, rfl, l, _, _, .int ds[j], rfl, rfl, SqL.of W1.dr, ?_, .inl ⟨_, rfl, _, rfl, _, _, rfl, rfl, hm, ?_⟩⟩
      · rw [ej]
        exact atI_nat (j := j) hg
      · have z0 := Int.emod_nonneg ds[j] (show m ≠ 0 by omega)
        have z1 := Int.emod_lt_of_pos ds[j] hm
        obtain ⟨r, er⟩ : ∃ r : Nat, ds[j] % m = ((r : Nat) : Int) := ⟨(ds[j] % m).toNat, by omega⟩
        show Q (.int (ds[j] % m)) _
        rw [er]
        exact q r _ (by omega) Kp.step (fun b hb => upd_ne hb) W1
end
end K0
/-! The law's menus of words. -/
namespace K0
open PySem SX
def namesL : List Str := ["a", "x7", "pc", "A_b", "reg1", "wide_", "w8", "lets", "Z"]
def kwL : List Str := ["machine", "reg", "file", "rom", "at", "let", "guess", "when", "wide", "part", "join"]
def wrongL : List Str := ["$", "'", "!", ".", "01", "4294967296", "00", "5w0", "5w33", "4w2", "5w", "7x", "3w4w", "3w04", "12a", "99999999999", "_"]
def signsL : List Str := [":=", "<<", ">>", "==", ":", ";", ",", "(", ")", "[", "]", "=", "+", "-", "*", "&", "|", "^", "~", "<", "?"]
def badV : List L2.V := [.str "$", .str "'", .str "!", .str ".", .str "_"]
def headL (t : Cs) : Bool := match t with
  | [] => false
  | c :: _ => decide (c ∈ lets) && !decide (c ∈ digs)
/-- numTok by lists alone, for computing -/
def numTokL (t : Cs) : Option KP :=
  match TL.par [119] [] t with
  | some (a, b) => (match small a, small b with
    | some v, some wd => if litOk v wd = true then some ("literal", .tuple [.int (v : Nat), .int (wd : Nat)]) else none
    | _, _ => none)
  | none => (small t).map fun v => ("number", .int (v : Nat))
theorem numTok_L (t : Cs) : numTok t = numTokL t := by
  unfold numTok numTokL
  have e := TL.partition_par (S t) (S [119]) (by decide)
  rw [e]
  show (let p : Str × Str × Str := (match TL.par [119] [] t with | some (a, b) => (⟨a.toArray⟩, S [119], ⟨b.toArray⟩) | none => (S t, Str.empty, Str.empty)); _) = _
  cases TL.par [119] [] t with
  | none =>
    simp only []
    rw [if_pos (by rfl)]
  | some ab =>
    obtain ⟨a, b⟩ := ab
    simp only []
    rw [if_neg (by decide)]
    all_goals rfl
def noTok (t : Cs) : Bool := match t with
  | [] => true
  | c :: _ => decide (c ∈ digs) && (numTokL t).isNone
theorem noTok_ok {t : Cs} (h : noTok t = true) : tokOf t = none := by
  cases t with
  | nil => rfl
  | cons c r =>
    have h' : (decide (c ∈ digs) && (numTokL (c :: r)).isNone) = true := h
    rw [Bool.and_eq_true, decide_eq_true_eq] at h'
    unfold tokOf
    simp only []
    rw [if_pos h'.1, numTok_L]
    exact Option.isNone_iff_eq_none.mp h'.2
theorem head_tok {t : Cs} (h : headL t = true) : tokOf t = if isKw t = true then some (("keyword", .str (S t)) : KP) else some ("name", .str (S t)) := by
  cases t with
  | nil => cases h
  | cons c r =>
    have h' : (decide (c ∈ lets) && !decide (c ∈ digs)) = true := h
    rw [Bool.and_eq_true, decide_eq_true_eq, Bool.not_eq_true', decide_eq_false_iff_not] at h'
    unfold tokOf
    simp only []
    rw [if_neg h'.2, if_pos h'.1]
def nameChk (x : Str) : Bool := runChk x.cps.toList none && (headL x.cps.toList && !isKw x.cps.toList)
def kwChk (x : Str) : Bool := runChk x.cps.toList none && (headL x.cps.toList && isKw x.cps.toList)
def signChkL (x : Str) : Bool := match x.cps.toList with
  | [h] => signChk h && decide (h ∈ shorts)
  | [a, b] => !decide (a ∈ lets) && (!decide (a ∈ digs) && (isLong [a, b] && (!decide (a = 10) && (!decide (a = 32) && !decide (a = 35)))))
  | _ => false
def oneBad (t : Cs) : Bool := match t with
  | [h] => signChk h && !decide (h ∈ shorts)
  | _ => false
def wrongChk (x : Str) : Bool := if L2.inV (.str x) badV = true then oneBad x.cps.toList else runChk x.cps.toList none && noTok x.cps.toList
theorem name_ok {x : Str} (h : nameChk x = true) : WordOk x.cps.toList (("name", .str x) : KP) := by
  unfold nameChk at h
  rw [Bool.and_eq_true, Bool.and_eq_true, Bool.not_eq_true'] at h
  refine word_run h.1 ?_ (show ("name" : Str) ≠ "bad" by decide)
  rw [head_tok h.2.1, h.2.2, S_tl]
  rfl
theorem kw_ok {x : Str} (h : kwChk x = true) : WordOk x.cps.toList (("keyword", .str x) : KP) := by
  unfold kwChk at h
  rw [Bool.and_eq_true, Bool.and_eq_true] at h
  refine word_run h.1 ?_ (show ("keyword" : Str) ≠ "bad" by decide)
  rw [head_tok h.2.1, h.2.2, S_tl]
  rfl
theorem sign_ok {x : Str} (h : signChkL x = true) : WordOk x.cps.toList (("sign", .str x) : KP) := by
  have ex := S_tl x
  unfold signChkL at h
  generalize x.cps.toList = t at h ex ⊢
  subst ex
  match t, h with
  | [c], h =>
    have h' : (signChk c && decide (c ∈ shorts)) = true := h
    rw [Bool.and_eq_true, decide_eq_true_eq] at h'
    exact word_short h'.1 h'.2
  | [a, b], h =>
    have h' : (!decide (a ∈ lets) && (!decide (a ∈ digs) && (isLong [a, b] && (!decide (a = 10) && (!decide (a = 32) && !decide (a = 35)))))) = true := h
    simp only [Bool.and_eq_true, Bool.not_eq_true', decide_eq_false_iff_not] at h'
    exact word_long h'.1 h'.2.1 h'.2.2.1 h'.2.2.2
theorem wrong_ok {x : Str} (h : wrongChk x = true) : WordOk x.cps.toList (("bad", .bool (L2.inV (.str x) badV)) : KP) := by
  unfold wrongChk at h
  split at h
  · rename_i hv
    rw [hv]
    match e : x.cps.toList, h with
    | [c], h =>
      have h' : (signChk c && !decide (c ∈ shorts)) = true := h
      rw [Bool.and_eq_true, Bool.not_eq_true', decide_eq_false_iff_not] at h'
      exact word_badch h'.1 h'.2
  · rename_i hv
    have hv' : L2.inV (.str x) badV = false := by simpa using hv
    rw [hv']
    rw [Bool.and_eq_true] at h
    exact word_badrun h.1 (noTok_ok h.2)
def LayOk (kp : KP) : Prop := PyData.canLay0 (.tuple [.str kp.1, kp.2]) = true ∧ PyData.depth (.tuple [.str kp.1, kp.2]) ≤ 5
theorem lay_str {k x : Str} (h1 : PyData.strOk k = true) (h2 : PyData.strOk x = true) : LayOk (k, .str x) := by
  refine ⟨?_, ?_⟩
  · simp [PyData.canLay0, PyData.canLayAll0, h1, h2]
  · simp [PyData.depth, PyData.depthAll]
theorem lay_bool {k : Str} {b : Bool} (h1 : PyData.strOk k = true) : LayOk (k, .bool b) := by
  refine ⟨?_, ?_⟩
  · simp [PyData.canLay0, PyData.canLayAll0, h1]
  · simp [PyData.depth, PyData.depthAll]
theorem lay_int {k : Str} {i : Int} (h1 : PyData.strOk k = true) : LayOk (k, .int i) := by
  refine ⟨?_, ?_⟩
  · simp [PyData.canLay0, PyData.canLayAll0, h1]
  · simp [PyData.depth, PyData.depthAll]
theorem lay_two {k : Str} {i j : Int} (h1 : PyData.strOk k = true) : LayOk (k, .tuple [.int i, .int j]) := by
  refine ⟨?_, ?_⟩
  · simp [PyData.canLay0, PyData.canLayAll0, h1]
  · simp [PyData.depth, PyData.depthAll]
theorem lay_mk {kp : KP} {r c : Int} (h : LayOk kp) : PyData.canLay0 (mk kp r c) = true ∧ PyData.depth (mk kp r c) ≤ 5 := by
  obtain ⟨h1, h2⟩ := h
  unfold mk
  simp [PyData.canLay0, PyData.canLayAll0, PyData.depth, PyData.depthAll] at h1 h2 ⊢
  exact ⟨h1, h2⟩
theorem names_str : namesL.all PyData.strOk = true := by decide +kernel
theorem kws_str : kwL.all PyData.strOk = true := by decide +kernel
theorem signs_str : signsL.all PyData.strOk = true := by decide +kernel
theorem kinds_str : PyData.strOk "name" = true ∧ PyData.strOk "keyword" = true ∧ PyData.strOk "number" = true ∧ PyData.strOk "literal" = true ∧ PyData.strOk "bad" = true ∧ PyData.strOk "sign" = true ∧ PyData.strOk "end" = true ∧ PyData.strOk "" = true := by decide +kernel
theorem names_all : namesL.all nameChk = true := by decide +kernel
theorem kws_all : kwL.all kwChk = true := by decide +kernel
theorem signs_all : signsL.all signChkL = true := by decide +kernel
theorem wrong_all : wrongL.all wrongChk = true := by decide +kernel
end K0
/-! The law's word. -/
namespace K0
open PySem PySem.Spec PyProof.Rows L2 SX
theorem scWord : FnScope ["w", "turn", "text", "number", "width", "value", "wrong", "signs"] ["w"] (defScope sWord) := ⟨rfl, rfl, rfl, by decide +kernel, rfl, by decide +kernel, by decide +kernel⟩
theorem menu_at {L : List Str} {r : Nat} (h : r < L.length) : (L.map V.str)[r]? = some (.str L[r]) := by
  rw [List.getElem?_map, List.getElem?_eq_getElem h]
  rfl
theorem menu_chk {L : List Str} {f : Str → Bool} (h : L.all f = true) {r : Nat} (hr : r < L.length) : f L[r] = true := List.all_eq_true.mp h _ (List.getElem_mem hr)
theorem nat_log {n : Nat} (h : n < 4294967296) : (((n : Nat) : Int)).natAbs.log2 < 1920 := by
  rw [Int.natAbs_natCast]
  by_cases h0 : n = 0
  · rw [h0]
    decide
  · exact (Nat.log2_lt h0).mpr (Nat.lt_of_lt_of_le (show n < 2 ^ 32 by omega) (Nat.pow_le_pow_right (by decide) (by decide)))
theorem nat_len {n : Nat} (h : n < 4294967296) : (Str.ofString (toString ((n : Nat) : Int))).length ≤ 10 := PyProof.Rows.toString_length_le (by omega) (by decide) (by omega)
section
variable {P : Program} {w : World} {K : PySem.W.Frag} {mg : Str → Option Value} {base : Heap}
def spWord (K : PySem.W.Frag) : Sp := fun vs H Q _ => ∃ (a l : Addr) (ds : List Int), vs = [.ref a] ∧ Wd H a l ds ∧
  ∀ (H' : Hp) (p q : Addr) (t : Cs) (kp : KP) (v : V), Kp a H H' → Wd H' a l ds → H' p = some (.tup [.str (S t), .ref q]) → H' q = some (.tup [.str kp.1, v]) → Dp K H' v kp.2 → noL kp.2 = true → LayOk kp → WordOk t kp → Q (.ref p) H'
theorem ok_word {f fN : Addr} {fd fdN : FuncData} (F : Fun K "_law_word" "_law_word" sWord f fd) (GN : FnOk P w K mg base CX0 1 fN fdN ["w", "many"] spNext) (kN : PySem.W.keepIn K (.ref fN) = true) (bN : Binds K fdN ["w", "many"] []) (gN : mg "_law_next" = some (.ref fN)) (B : Bl mg) :
    FnOk P w K mg base CX0 2 f fd ["w"] (spWord K) := by
  refine F.ok scWord (fun vs H Q E h => ?_) (fun cdv A outer s H vs Q E hr h => ?_)
  · obtain ⟨a, l, ds, rfl, _⟩ := h
    rfl
  · obtain ⟨a, l, ds, rfl, W, q⟩ := h
    have nd := scWord.nd
    refine ⟨_, (pss_cons (ps_set (i := 1) nd rfl (.inl rfl) (pe_call GN hr (by rfl) gN kN bN .nil pass0 (pa_cons (pv 0) (pa_cons (pe_int) pa_nil))))
      (pss_cons (ps_if (pt_cmpR op_lt (pv 1) pe_int (nomark _)) (pss_cons (ps_set (i := 2) nd rfl (.inl rfl) (pe_ix ix_list (pe_lst (pa_cons (pe_str) (pa_cons (pe_str) (pa_cons (pe_str) (pa_cons (pe_str) (pa_cons (pe_str) (pa_cons (pe_str) (pa_cons (pe_str) (pa_cons (pe_str) (pa_cons (pe_str) pa_nil)))))))))) (pe_call GN hr (by rfl) gN kN bN .nil pass0 (pa_cons (pv 0) (pa_cons (pe_int) pa_nil))) (fun _ _ => rfl)))
      (pss_one (ps_ret (pe_tup (pa_cons (pv 2) (pa_cons (pe_tup (pa_cons (pe_str) (pa_cons (pv 2) pa_nil))) pa_nil)))))) pss_nil)
      (pss_cons (ps_if (pt_cmpR op_lt (pv 1) pe_int (nomark _)) (pss_cons (ps_set (i := 2) nd rfl (.inl rfl) (pe_ix ix_list (pe_lst (pa_cons (pe_str) (pa_cons (pe_str) (pa_cons (pe_str) (pa_cons (pe_str) (pa_cons (pe_str) (pa_cons (pe_str) (pa_cons (pe_str) (pa_cons (pe_str) (pa_cons (pe_str) (pa_cons (pe_str) (pa_cons (pe_str) pa_nil)))))))))))) (pe_call GN hr (by rfl) gN kN bN .nil pass0 (pa_cons (pv 0) (pa_cons (pe_int) pa_nil))) (fun _ _ => rfl)))
      (pss_one (ps_ret (pe_tup (pa_cons (pv 2) (pa_cons (pe_tup (pa_cons (pe_str) (pa_cons (pv 2) pa_nil))) pa_nil)))))) pss_nil)
      (pss_cons (ps_if (pt_cmpR op_eq (pv 1) pe_int (nomark _)) (pss_cons (ps_set (i := 3) nd rfl (.inl rfl) (pe_ix ix_list (pe_lst (pa_cons (pe_int) (pa_cons (pe_int) (pa_cons (pe_int) (pa_cons (pe_int) (pa_cons (pe_call GN hr (by rfl) gN kN bN .nil pass0 (pa_cons (pv 0) (pa_cons (pe_int) pa_nil))) pa_nil)))))) (pe_call GN hr (by rfl) gN kN bN .nil pass0 (pa_cons (pv 0) (pa_cons (pe_int) pa_nil))) (fun _ _ => rfl)))
      (pss_one (ps_ret (pe_tup (pa_cons (pe_callTy call_str_int (by rfl) B.str (by decide +kernel) (pa_cons (pv 3) pa_nil)) (pa_cons (pe_tup (pa_cons (pe_str) (pa_cons (pv 3) pa_nil))) pa_nil)))))) pss_nil)
      (pss_cons (ps_if (pt_cmpR op_eq (pv 1) pe_int (nomark _)) (pss_cons (ps_set (i := 4) nd rfl (.inl rfl) (pe_op op_add pe_int (pe_call GN hr (by rfl) gN kN bN .nil pass0 (pa_cons (pv 0) (pa_cons (pe_int) pa_nil)))))
      (pss_cons (ps_set (i := 5) nd rfl (.inl rfl) (pe_ix ix_list (pe_lst (pa_cons (pe_int) (pa_cons (pe_int) (pa_cons (pe_op op_sub (pe_op op_shl pe_int (pv 4)) pe_int) (pa_cons (pe_op op_mod (pe_call GN hr (by rfl) gN kN bN .nil pass0 (pa_cons (pv 0) (pa_cons (pe_int) pa_nil))) (pe_op op_shl pe_int (pv 4))) pa_nil))))) (pe_call GN hr (by rfl) gN kN bN .nil pass0 (pa_cons (pv 0) (pa_cons (pe_int) pa_nil))) (fun _ _ => rfl)))
      (pss_one (ps_ret (pe_tup (pa_cons (pe_op op_add_str (pe_op op_add_str (pe_callTy call_str_int (by rfl) B.str (by decide +kernel) (pa_cons (pv 5) pa_nil)) pe_str) (pe_callTy call_str_int (by rfl) B.str (by decide +kernel) (pa_cons (pv 4) pa_nil))) (pa_cons (pe_tup (pa_cons (pe_str) (pa_cons (pe_tup (pa_cons (pv 5) (pa_cons (pv 4) pa_nil))) pa_nil))) pa_nil))))))) pss_nil)
      (C8.pss_cut (ps_if (PW.pt (pw_and (pt_cmpR op_eq (pv 1) pe_int (nomark _)) (pw_and1 (pt_cmpR op_eq (pe_call GN hr (by rfl) gN kN bN .nil pass0 (pa_cons (pv 0) (pa_cons (pe_int) pa_nil))) pe_int (nomark _))))) (pss_cons (ps_set (i := 6) nd rfl (.inl rfl) (pe_lst (pa_cons (pe_str) (pa_cons (pe_str) (pa_cons (pe_str) (pa_cons (pe_str) (pa_cons (pe_str) (pa_cons (pe_str) (pa_cons (pe_str) (pa_cons (pe_str) (pa_cons (pe_str) (pa_cons (pe_str) (pa_cons (pe_str) (pa_cons (pe_str) (pa_cons (pe_str) (pa_cons (pe_str) (pa_cons (pe_str) (pa_cons (pe_str) (pa_cons (pe_str) pa_nil)))))))))))))))))))
      (pss_cons (ps_set (i := 2) nd rfl (.inl rfl) (pe_ix ix_list (pv 6) (pe_call GN hr (by rfl) gN kN bN .nil pass0 (pa_cons (pv 0) (pa_cons (pe_callB call_len_seq (by rfl) B.len PySem.boot_len (pa_cons (pv 6) pa_nil)) pa_nil))) (fun _ _ => rfl)))
      (pss_one (ps_ret (pe_tup (pa_cons (pv 2) (pa_cons (pe_tup (pa_cons (pe_str) (pa_cons (pe_cmpR op_in_seq (pv 2) (pe_tup (pa_cons (pe_str) (pa_cons (pe_str) (pa_cons (pe_str) (pa_cons (pe_str) (pa_cons (pe_str) pa_nil)))))) (by rfl)) pa_nil))) pa_nil))))))) pss_nil)
      (pss_cons (ps_set (i := 7) nd rfl (.inl rfl) (pe_lst (pa_cons (pe_str) (pa_cons (pe_str) (pa_cons (pe_str) (pa_cons (pe_str) (pa_cons (pe_str) (pa_cons (pe_str) (pa_cons (pe_str) (pa_cons (pe_str) (pa_cons (pe_str) (pa_cons (pe_str) (pa_cons (pe_str) (pa_cons (pe_str) (pa_cons (pe_str) (pa_cons (pe_str) (pa_cons (pe_str) (pa_cons (pe_str) (pa_cons (pe_str) (pa_cons (pe_str) (pa_cons (pe_str) (pa_cons (pe_str) (pa_cons (pe_str) pa_nil)))))))))))))))))))))))
      (pss_cons (ps_set (i := 2) nd rfl (.inl rfl) (pe_ix ix_list (pv 7) (pe_call GN hr (by rfl) gN kN bN .nil pass0 (pa_cons (pv 0) (pa_cons (pe_callB call_len_seq (by rfl) B.len PySem.boot_len (pa_cons (pv 7) pa_nil)) pa_nil))) (fun _ _ => rfl)))
      (pss_one (ps_ret (pe_tup (pa_cons (pv 2) (pa_cons (pe_tup (pa_cons (pe_str) (pa_cons (pv 2) pa_nil))) pa_nil))))))))))))), ?_⟩
    have line : ∀ n : Nat, n ≤ 100 → n ≤ sizeLine := fun n h => by
      rw [sizeLine_eq]
      omega
    have fin : ∀ (H1 : Hp) (x k : Str) (v : V) (d : PyData), Kp a H H1 → Wd H1 a l ds → Dp K H1 v d → noL d = true → LayOk (k, d) → WordOk x.cps.toList (k, d) → ∀ q', H1 q' = none → ∀ p', (upd H1 q' (.tup [.str k, v])) p' = none →
        Q (.ref p') (upd (upd H1 q' (.tup [.str k, v])) p' (.tup [.str x, .ref q'])) := fun H1 x k v d k1 W1 hd hn hy hw q' nq p' np => by
      have s1 : Same H1 (upd (upd H1 q' (.tup [.str k, v])) p' (.tup [.str x, .ref q'])) := fun b o e => same_new np b o (same_new nq b o e)
      have ne : q' ≠ p' := fun z => by
        rw [← z, upd_same] at np
        cases np
      refine q _ p' q' x.cps.toList (k, d) v ((k1.trans (Kp.new nq)).trans (Kp.new np)) ((W1.new nq).new np) ?_ ?_ (dp_stay (fun b xs h => ?_) _ _ hd hn) hn hy hw
      · rw [S_tl]
        exact upd_same
      · rw [upd_ne ne]
        exact upd_same
      · rcases h with (h | ⟨o, h⟩) | h
        · exact .inl (.inl (s1 _ _ h))
        · exact .inl (.inr ⟨o, s1 _ _ h⟩)
        · exact .inr h
    refine ⟨_, rfl, a, l, ds, 12, rfl, by decide, W, fun r H1 hr1 k1 _ W1 => ?_⟩
    refine ⟨_, rfl, _, _, rfl, rfl, _, rfl, ite2 (fun a1 => ?_) (fun a1 => ?_)⟩
    · -- a name
      refine ⟨line 9 (by decide), fun z nz => ?_⟩
      refine ⟨_, rfl, a, l, ds, 9, rfl, by decide, W1.new nz, fun r H2 hr2 k2 e2 W2 => ?_⟩
      have hz : H2 z = some (.lst (namesL.map V.str)) := by
        rw [e2 z (W1.fresh nz)]
        exact upd_same
      have hlt : r < namesL.length := by
        show r < 9
        omega
      refine ⟨z, _, _, _, rfl, rfl, SqL.of hz, atI_nat (j := r) (menu_at hlt), ?_⟩
      refine ⟨_, rfl, _, rfl, line 2 (by decide), fun q' nq => ⟨line 2 (by decide), fun p' np => ?_⟩⟩
      exact fin H2 _ _ _ _ ((k1.trans (Kp.new nz)).trans k2) W2 (.str _) rfl (lay_str kinds_str.1 (menu_chk names_str hlt)) (name_ok (menu_chk names_all hlt)) q' nq p' np
    refine ⟨_, rfl, _, _, rfl, rfl, _, rfl, ite2 (fun a1 => ?_) (fun a1 => ?_)⟩
    · -- a keyword
      refine ⟨line 11 (by decide), fun z nz => ?_⟩
      refine ⟨_, rfl, a, l, ds, 11, rfl, by decide, W1.new nz, fun r H2 hr2 k2 e2 W2 => ?_⟩
      have hz : H2 z = some (.lst (kwL.map V.str)) := by
        rw [e2 z (W1.fresh nz)]
        exact upd_same
      have hlt : r < kwL.length := by
        show r < 11
        omega
      refine ⟨z, _, _, _, rfl, rfl, SqL.of hz, atI_nat (j := r) (menu_at hlt), ?_⟩
      refine ⟨_, rfl, _, rfl, line 2 (by decide), fun q' nq => ⟨line 2 (by decide), fun p' np => ?_⟩⟩
      exact fin H2 _ _ _ _ ((k1.trans (Kp.new nz)).trans k2) W2 (.str _) rfl (lay_str kinds_str.2.1 (menu_chk kws_str hlt)) (kw_ok (menu_chk kws_all hlt)) q' nq p' np
    refine ⟨_, rfl, rfl, _, rfl, ite2 (fun a1 => ?_) (fun a1 => ?_)⟩
    · -- a number
      refine ⟨_, rfl, a, l, ds, 997, rfl, by decide, W1, fun r5 H2 hr5 k2 _ W2 => ⟨line 5 (by decide), fun z nz => ?_⟩⟩
      refine ⟨_, rfl, a, l, ds, 5, rfl, by decide, W2.new nz, fun r H3 hr3 k3 e3 W3 => ?_⟩
      obtain ⟨n, hn, hlt⟩ : ∃ n : Nat, ([.int 0, .int 7, .int 10, .int 4294967295, .int ((r5 : Nat) : Int)] : List V)[r]? = some (.int ((n : Nat) : Int)) ∧ n < 4294967296 := by
        have hr6 : r < 5 := by omega
        match r, hr6 with
        | 0, _ => exact ⟨0, rfl, by decide⟩
        | 1, _ => exact ⟨7, rfl, by decide⟩
        | 2, _ => exact ⟨10, rfl, by decide⟩
        | 3, _ => exact ⟨4294967295, rfl, by decide⟩
        | 4, _ => exact ⟨r5, rfl, by omega⟩
      have hz : H3 z = some (.lst [.int 0, .int 7, .int 10, .int 4294967295, .int ((r5 : Nat) : Int)]) := by
        rw [e3 z (W2.fresh nz)]
        exact upd_same
      refine ⟨z, _, _, _, rfl, rfl, SqL.of hz, atI_nat (j := r) hn, ?_⟩
      refine ⟨_, rfl, _, rfl, nat_log hlt, _, rfl, line 2 (by decide), fun q' nq => ⟨line 2 (by decide), fun p' np => ?_⟩⟩
      refine fin H3 _ _ _ (.int ((n : Nat) : Int)) (((k1.trans k2).trans (Kp.new nz)).trans k3) W3 (.int _) rfl (lay_int kinds_str.2.2.1) ?_ q' nq p' np
      have e := TL.tl_num n
      have e2 : (Str.ofString (toString ((n : Nat) : Int))).cps.toList = TL.numL n := e
      rw [e2]
      exact word_num hlt
    refine ⟨_, rfl, rfl, _, rfl, ite2 (fun a1 => ?_) (fun a1 => ?_)⟩
    · -- a literal
      refine ⟨_, rfl, a, l, ds, 32, rfl, by decide, W1, fun rw' H2 hrw k2 _ W2 => ⟨_, _, rfl, rfl, ?_⟩⟩
      have ew : (1 + ((rw' : Nat) : Int)) = ((1 + rw' : Nat) : Int) := by omega
      have et : (1 + ((rw' : Nat) : Int)).toNat = 1 + rw' := by omega
      have ep : (1 : Int) * 2 ^ (1 + ((rw' : Nat) : Int)).toNat = ((2 ^ (1 + rw') : Nat) : Int) := by
        rw [et, Int.one_mul, Int.natCast_pow]
        rfl
      have big : 2 ^ (1 + rw') ≤ 2 ^ 32 := Nat.pow_le_pow_right (by decide) (by omega)
      have pos : 0 < 2 ^ (1 + rw') := Nat.pow_pos (by decide)
      refine ⟨_, rfl, _, _, rfl, rfl, ⟨by omega, by omega, by decide⟩, _, _, rfl, rfl, _, rfl, a, l, ds, 997, rfl, by decide, W2, fun rv H3 hrv k3 _ W3 => ?_⟩
      refine ⟨_, rfl, _, _, rfl, rfl, ⟨by omega, by omega, by decide⟩, _, _, rfl, rfl, ?_, line 4 (by decide), fun z nz => ?_⟩
      · show (0 : Int) < 1 * 2 ^ (1 + ((rw' : Nat) : Int)).toNat
        rw [ep]
        omega
      refine ⟨_, rfl, a, l, ds, 4, rfl, by decide, W3.new nz, fun r H4 hr4 k4 e4 W4 => ?_⟩
      obtain ⟨n, hn, hlt⟩ : ∃ n : Nat, ([.int 0, .int 1, .int (1 * 2 ^ (1 + ((rw' : Nat) : Int)).toNat - 1), .int (((rv : Nat) : Int) % (1 * 2 ^ (1 + ((rw' : Nat) : Int)).toNat))] : List V)[r]? = some (.int ((n : Nat) : Int)) ∧ n < 2 ^ (1 + rw') := by
        have hr6 : r < 4 := by omega
        have two : 2 ≤ 2 ^ (1 + rw') := by
          have : 2 ^ 1 ≤ 2 ^ (1 + rw') := Nat.pow_le_pow_right (by decide) (by omega)
          omega
        rw [ep]
        match r, hr6 with
        | 0, _ => exact ⟨0, rfl, by omega⟩
        | 1, _ => exact ⟨1, rfl, by omega⟩
        | 2, _ =>
          refine ⟨2 ^ (1 + rw') - 1, ?_, by omega⟩
          show some (V.int (((2 ^ (1 + rw') : Nat) : Int) - 1)) = _
          rw [show (((2 ^ (1 + rw') : Nat) : Int) - 1) = ((2 ^ (1 + rw') - 1 : Nat) : Int) by omega]
        | 3, _ =>
          refine ⟨rv % 2 ^ (1 + rw'), ?_, Nat.mod_lt _ pos⟩
          show some (V.int (((rv : Nat) : Int) % ((2 ^ (1 + rw') : Nat) : Int))) = _
          rw [← Int.natCast_emod]
      have hz : H4 z = some (.lst [.int 0, .int 1, .int (1 * 2 ^ (1 + ((rw' : Nat) : Int)).toNat - 1), .int (((rv : Nat) : Int) % (1 * 2 ^ (1 + ((rw' : Nat) : Int)).toNat))]) := by
        rw [e4 z (W3.fresh nz)]
        exact upd_same
      have hn32 : n < 4294967296 := by omega
      have hw32 : 1 + rw' < 4294967296 := by omega
      have l1 := nat_len hn32
      have l2 := nat_len hw32
      have lw : (Str.ofString "w").length = 1 := by decide
      refine ⟨z, _, _, _, rfl, rfl, SqL.of hz, atI_nat (j := r) hn, ?_⟩
      refine ⟨_, rfl, _, rfl, nat_log hn32, _, _, rfl, rfl, ?_, _, rfl, 1 + ((rw' : Nat) : Int), rfl, ?_, _, _, rfl, rfl, ?_, _, rfl, _, rfl, line 2 (by decide), fun i ni => ⟨line 2 (by decide), fun q' nq => ⟨line 2 (by decide), fun p' np => ?_⟩⟩⟩
      · rw [lw]
        exact Nat.le_trans (Nat.add_le_add_right l1 1) (line 11 (by decide))
      · rw [ew]
        exact nat_log hw32
      · rw [ew, app_len, lw]
        exact Nat.le_trans (Nat.add_le_add (Nat.add_le_add_right l1 1) l2) (line 21 (by decide))
      · refine fin _ _ _ _ (.tuple [.int ((n : Nat) : Int), .int (1 + ((rw' : Nat) : Int))]) (((((k1.trans k2).trans k3).trans (Kp.new nz)).trans k4).trans (Kp.new ni)) (W4.new ni) (tup_dp (.cons (.int _) (.cons (.int _) .nil)) upd_same) rfl (lay_two kinds_str.2.2.2.1) ?_ q' nq p' np
        rw [ew]
        have e : (Str.ofString (toString ((n : Nat) : Int)) ++ Str.ofString "w" ++ Str.ofString (toString (((1 + rw' : Nat)) : Int))).cps.toList = TL.numL n ++ 119 :: TL.numL (1 + rw') := by
          have h1 := TL.tl_append (Str.ofString (toString ((n : Nat) : Int)) ++ Str.ofString "w") (Str.ofString (toString (((1 + rw' : Nat)) : Int)))
          have h2 := TL.tl_append (Str.ofString (toString ((n : Nat) : Int))) (Str.ofString "w")
          rw [h2, TL.tl_num, TL.tl_num] at h1
          have h3 : TL.tl (Str.ofString "w") = [119] := by decide
          rw [h3, List.append_assoc] at h1
          exact h1
        rw [e]
        exact word_lit (by omega) (by omega) hlt
    -- something wrong, or a sign
    refine ⟨fun σ H' => ∃ y : V, σ = [some (.ref a), some y, none, none, none, none, none, none] ∧ Kp a H H' ∧ Wd H' a l ds, ?_, ?_⟩
    · refine ⟨_, rfl, rfl, _, rfl, ite2 (fun a2 => ?_) (fun a2 => ?_)⟩
      · refine ⟨_, rfl, a, l, ds, 5, rfl, by decide, W1, fun r5 H2 hr5 k2 _ W2 => ⟨rfl, _, rfl, ite2 (fun a3 => ?_) (fun a3 => ?_)⟩⟩
        · refine ⟨line 17 (by decide), fun z nz => ?_⟩
          have hz0 : (upd H2 z (.lst (wrongL.map V.str))) z = some (.lst (wrongL.map V.str)) := upd_same
          refine ⟨_, rfl, _, rfl, _, rfl, z, wrongL.map V.str, rfl, .inl (SqL.of hz0), a, l, ds, _, rfl, (by decide), W2.new nz, fun r H3 hr3 k3 e3 W3 => ?_⟩
          have hz : H3 z = some (.lst (wrongL.map V.str)) := by
            rw [e3 z (W2.fresh nz)]
            exact upd_same
          have hlt : r < wrongL.length := by
            rw [List.length_map] at hr3
            omega
          refine ⟨z, _, _, _, rfl, rfl, SqL.of hz, atI_nat (j := r) (menu_at hlt), ?_⟩
          refine ⟨_, rfl, _, rfl, line 5 (by decide), fun y ny => ⟨y, badV, rfl, .inr (SqT.of upd_same), rfl, rfl, line 2 (by decide), fun q' nq => ⟨line 2 (by decide), fun p' np => ?_⟩⟩⟩
          exact fin _ _ _ _ _ ((((k1.trans k2).trans (Kp.new nz)).trans k3).trans (Kp.new ny)) (W3.new ny) (.bl _) rfl (lay_bool kinds_str.2.2.2.2.1) (wrong_ok (menu_chk wrong_all hlt)) q' nq p' np
        · exact ⟨_, rfl, k1.trans k2, W2⟩
      · exact ⟨_, rfl, k1, W1⟩
    · rintro σ H2 ⟨y, rfl, k2, W2⟩
      refine ⟨line 21 (by decide), fun z nz => ?_⟩
      have hz0 : (upd H2 z (.lst (signsL.map V.str))) z = some (.lst (signsL.map V.str)) := upd_same
      refine ⟨_, rfl, _, rfl, _, rfl, z, signsL.map V.str, rfl, .inl (SqL.of hz0), a, l, ds, _, rfl, (by decide), W2.new nz, fun r H3 hr3 k3 e3 W3 => ?_⟩
      have hz : H3 z = some (.lst (signsL.map V.str)) := by
        rw [e3 z (W2.fresh nz)]
        exact upd_same
      have hlt : r < signsL.length := by
        rw [List.length_map] at hr3
        omega
      refine ⟨z, _, _, _, rfl, rfl, SqL.of hz, atI_nat (j := r) (menu_at hlt), ?_⟩
      refine ⟨_, rfl, _, rfl, line 2 (by decide), fun q' nq => ⟨line 2 (by decide), fun p' np => ?_⟩⟩
      exact fin H3 _ _ _ _ ((k2.trans (Kp.new nz)).trans k3) W3 (.str _) rfl (lay_str kinds_str.2.2.2.2.2.1 (menu_chk signs_str hlt)) (sign_ok (menu_chk signs_all hlt)) q' nq p' np
end
end K0
/-! Texts put together of gaps and words; a walk over a text. -/
namespace K0
open PySem SX
def posStep (p : Int × Int) (ch : Nat) : Int × Int := if ch = 10 then (p.1 + 1, 1) else (p.1, p.2 + 1)
def posOf (g : Cs) (r c : Int) : Int × Int := g.foldl posStep (r, c)
def gapsL : List Str := [" ", " ", "\n", "  ", " # : x $\n", "\n\n "]
def endsL : List Str := ["", " ", "\n", "#"]
def GapOk (g : Cs) : Prop := (∀ rest, Stop (g ++ rest)) ∧ g.length ≤ 40 ∧ ∀ rest r c acc o, Lx rest (posOf g r c).1 (posOf g r c).2 acc o → Lx (g ++ rest) r c acc o
theorem gap_sp : GapOk [32] := ⟨fun _ => .sp, by decide, fun _ _ _ _ _ h => .sp h⟩
theorem gap_nl : GapOk [10] := ⟨fun _ => .nl, by decide, fun _ _ _ _ _ h => .nl h⟩
theorem gap_spsp : GapOk [32, 32] := ⟨fun _ => .sp, by decide, fun _ _ _ _ _ h => .sp (.sp h)⟩
theorem gap_nls : GapOk [10, 10, 32] := ⟨fun _ => .nl, by decide, fun _ _ _ _ _ h => .nl (.nl (.sp h))⟩
theorem gap_rem : GapOk [32, 35, 32, 58, 32, 120, 32, 36, 10] := ⟨fun _ => .sp, by decide, fun rest r c acc o h => by
  refine .sp (.rem ?_)
  exact .nl h⟩
theorem gaps_ok {x : Str} (h : x ∈ gapsL) : GapOk x.cps.toList := by
  simp only [gapsL, List.mem_cons, List.not_mem_nil, or_false] at h
  rcases h with rfl | rfl | rfl | rfl | rfl | rfl
  · exact gap_sp
  · exact gap_sp
  · exact gap_nl
  · exact gap_spsp
  · exact gap_rem
  · exact gap_nls
def endTok (p : Int × Int) : PyData := mk ("end", .str (S [])) p.1 p.2
def EndOk (e : Cs) : Prop := Stop e ∧ e.length ≤ 40 ∧ ∀ r c acc, Lx e r c acc (.ok (acc ++ [endTok (posOf e r c)]))
theorem end_rem : EndOk [35] := by
  refine ⟨.rem, by decide, fun r c acc => .rem ?_⟩
  have e : c + 1 + ((List.takeWhile (fun x => decide (x ≠ 10)) ([] : Cs)).length : Int) = c + 1 := by
    show c + 1 + 0 = c + 1
    omega
  rw [e]
  exact .nil
theorem ends_ok {x : Str} (h : x ∈ endsL) : EndOk x.cps.toList := by
  simp only [endsL, List.mem_cons, List.not_mem_nil, or_false] at h
  rcases h with rfl | rfl | rfl | rfl
  · exact ⟨.nil, by decide, fun _ _ _ => .nil⟩
  · exact ⟨.sp, by decide, fun _ _ _ => .sp .nil⟩
  · exact ⟨.nl, by decide, fun _ _ _ => .nl .nil⟩
  · exact end_rem
/-- the first thing that is wrong -/
def badOf : PyData → Option (Bool × Int × Int)
  | .tuple [.str k, .bool b, .int r, .int c] => if k = ("bad" : Str) then some (b, r, c) else none
  | _ => none
def outOf (F : List PyData) (e : PyData) : Out := match F.findSome? badOf with
  | none => .ok (F ++ [e])
  | some (b, r, c) => .bad b r c
def TextOk (T : Cs) (F : List PyData) (r c : Int) : Prop := match F.findSome? badOf with
  | none => ∀ rest o, Stop rest → Lx rest r c F o → Lx (T ++ rest) 1 1 [] o
  | some (b, r0, c0) => ∀ rest, Stop rest → Lx (T ++ rest) 1 1 [] (.bad b r0 c0)
def ItemOk (d : PyData) : Prop := ∃ kp r c, d = mk kp r c ∧ noL kp.2 = true ∧ LayOk kp ∧ (kp.1 = ("bad" : Str) → ∃ b, kp.2 = .bool b)
theorem bad_good {kp : KP} {r c : Int} (h : kp.1 ≠ ("bad" : Str)) : badOf (mk kp r c) = none := by
  obtain ⟨k, p⟩ := kp
  show badOf (.tuple [.str k, p, .int r, .int c]) = none
  unfold badOf
  split
  · rename_i k2 b2 r2 c2 e
    cases e
    rw [if_neg h]
  · rfl
theorem bad_bad {b : Bool} {r c : Int} : badOf (mk ("bad", .bool b) r c) = some (b, r, c) := rfl
theorem text_start : TextOk [] [] 1 1 := fun rest o _ h => h
theorem text_step {T : Cs} {F : List PyData} {r c : Int} {g t : Cs} {kp : KP} (h : TextOk T F r c) (hg : GapOk g) (hw : WordOk t kp) :
    TextOk (T ++ g ++ t) (F ++ [mk kp (posOf g r c).1 (posOf g r c).2]) (posOf g r c).1 ((posOf g r c).2 + (t.length : Int)) := by
  have as : ∀ rest : Cs, T ++ g ++ t ++ rest = T ++ (g ++ (t ++ rest)) := fun rest => by simp only [List.append_assoc]
  unfold TextOk at h ⊢
  rw [List.findSome?_append]
  cases e : F.findSome? badOf with
  | some v =>
    obtain ⟨b, r0, c0⟩ := v
    rw [e] at h
    simp only [Option.some_or]
    intro rest hs
    rw [as]
    exact h _ (hg.1 _)
  | none =>
    rw [e] at h
    simp only [Option.none_or]
    cases hw with
    | good hb G =>
      have e2 : ([mk kp (posOf g r c).1 (posOf g r c).2] : List PyData).findSome? badOf = none := by
        rw [List.findSome?_cons, bad_good hb]
        rfl
      rw [e2]
      simp only []
      intro rest o hs hL
      rw [as]
      exact h _ _ (hg.1 _) (hg.2.2 _ _ _ _ _ (G.2 rest _ _ F o hs hL))
    | bad b ek B =>
      subst ek
      have e2 : ([mk ((("bad" : Str), PyData.bool b) : KP) (posOf g r c).1 (posOf g r c).2] : List PyData).findSome? badOf = some (b, (posOf g r c).1, (posOf g r c).2) := by
        rw [List.findSome?_cons, bad_bad]
      rw [e2]
      simp only []
      intro rest hs
      rw [as]
      exact h _ _ (hg.1 _) (hg.2.2 _ _ _ _ _ (B.2 rest _ _ F hs))
theorem text_end {T : Cs} {F : List PyData} {r c : Int} {e : Cs} (h : TextOk T F r c) (he : EndOk e) : Lx (T ++ e) 1 1 [] (outOf F (endTok (posOf e r c))) := by
  unfold TextOk at h
  unfold outOf
  cases q : F.findSome? badOf with
  | some v =>
    obtain ⟨b, r0, c0⟩ := v
    rw [q] at h
    exact h e he.1
  | none =>
    rw [q] at h
    exact h e _ he.1 (he.2.2 r c F)
theorem item_word {t : Cs} {kp : KP} {r c : Int} (hw : WordOk t kp) (hn : noL kp.2 = true) (hy : LayOk kp) : ItemOk (mk kp r c) := by
  refine ⟨kp, r, c, rfl, hn, hy, fun hb => ?_⟩
  cases hw with
  | good h _ => exact absurd hb h
  | bad b e _ =>
    rw [e]
    exact ⟨b, rfl⟩
theorem word_len {t : Cs} {kp : KP} (hw : WordOk t kp) : t.length ≤ 40 := by
  cases hw with
  | good _ G => exact G.1
  | bad _ _ B => exact B.1
theorem pos_snoc (g : Cs) (n : Nat) (ch : Nat) (r c : Int) (h : g[n]? = some ch) : posOf (g.take (n + 1)) r c = posStep (posOf (g.take n) r c) ch := by
  unfold posOf
  rw [List.take_add_one, h, List.foldl_append]
  rfl
end K0
namespace L2
open PySem PySem.Spec PyProof.Rows
/-- a walk over a text, sign by sign -/
theorem for_signs {x : Str} {g : TG} {tb : TS} {D : Ends} {σ : L2.St} {H : Hp} (Pv : Nat → L2.St → Hp → Prop) (h0 : Pv 0 σ H)
    (hs : ∀ i c σ H, x.cps.toList[i]? = some c → Pv i σ H → g (.str ⟨#[c]⟩) σ H fun σ2 H2 => tb { D with nx := Pv (i + 1), ct := Pv (i + 1), bk := D.nx } σ2 H2) (hd : ∀ σ H, Pv x.cps.toList.length σ H → D.nx σ H) :
    ∃ W : Nat → Nat → L2.St → Hp → Prop, (∃ m, W 0 m σ H) ∧ ∀ i m σ H, W i m σ H →
      ((Its x).stop i H ∧ D.nx σ H) ∨ ((Its x).go i H ∧ ∃ N : L2.St → Hp → Prop, (∀ σ' H', N σ' H' → ∃ m', m' < m ∧ W (i + 1) m' σ' H') ∧ ∀ v H', (Its x).yld i H v H' → g v σ H' fun σ2 H2 => tb { D with nx := N, ct := N, bk := D.nx } σ2 H2) := by
  refine ⟨fun i m σ H => m = x.cps.size - i ∧ i ≤ x.cps.size ∧ Pv i σ H, ⟨_, rfl, Nat.zero_le _, h0⟩, ?_⟩
  rintro i m σ1 H1 ⟨rfl, hi, p⟩
  by_cases hlt : i < x.cps.size
  · refine .inr ⟨hlt, Pv (i + 1), fun σ2 H2 p2 => ⟨_, by omega, rfl, hlt, p2⟩, fun v H2 y => ?_⟩
    obtain ⟨e, c, hc, ev⟩ := y
    subst e
    subst ev
    exact hs i c σ1 _ (by rw [Array.getElem?_toList]; exact hc) p
  · have e : i = x.cps.toList.length := by
      rw [Array.length_toList]
      omega
    refine .inl ⟨by show x.cps.size ≤ i; omega, hd σ1 H1 (e ▸ p)⟩
end L2
/-! The law's text. -/
namespace K0
open PySem PySem.Spec PyProof.Rows L2 SX
theorem scText : FnScope ["w", "text", "found", "row", "column", "turn", "gap", "sign", "word", "told", "end"] ["w"] (defScope sText) := ⟨rfl, rfl, rfl, by decide +kernel, rfl, by decide +kernel, by decide +kernel⟩
section
variable {a l : Addr} {ds : List Int} {H H1 : Hp}
theorem Kp.seqT {K : PySem.W.Frag} (k : Kp a H H1) (W : Wd H a l ds) : ∀ b xs, SqT K H b xs → SqT K H1 b xs := fun b xs h => by
  obtain ⟨n, _, e⟩ := W.at'
  rcases h with (h | ⟨o, h⟩) | h
  · exact .inl (.inl (k _ _ (ne_of h e (by intro z; cases z)) h))
  · exact .inl (.inr ⟨o, k _ _ (ne_of h e (by intro z; cases z)) h⟩)
  · exact .inr h
theorem new_seqT {K : PySem.W.Frag} {p : Addr} {o : HO} (n : H p = none) : ∀ b xs, SqT K H b xs → SqT K (upd H p o) b xs := fun b xs h => by
  rcases h with (h | ⟨u, h⟩) | h
  · exact .inl (.inl (same_new n _ _ h))
  · exact .inl (.inr ⟨u, same_new n _ _ h⟩)
  · exact .inr h
end
theorem Kp.put {a p : Addr} {o : HO} {H H1 : Hp} (k : Kp a H H1) (n : H p = Option.none) : Kp a H (upd H1 p o) := fun b u nb e => by
  rw [upd_ne (ne_of_none e n)]
  exact k b u nb e
theorem Wd.put {a l p : Addr} {ds : List Int} {o : HO} {H : Hp} (W : Wd H a l ds) (na : p ≠ a) (nl : p ≠ l) : Wd (upd H p o) a l ds := by
  obtain ⟨k, k0, e⟩ := W.at'
  refine ⟨⟨k, k0, ?_⟩, ?_, W.len⟩
  · rw [upd_ne na.symm]
    exact e
  · rw [upd_ne nl.symm]
    exact W.dr
theorem Wd.same {a l : Addr} {ds : List Int} {H H1 : Hp} (W : Wd H a l ds) (s : Same H H1) : Wd H1 a l ds := by
  obtain ⟨k, k0, e⟩ := W.at'
  exact ⟨⟨k, k0, s _ _ e⟩, s _ _ W.dr, W.len⟩
theorem Kp.same {a : Addr} {H H1 : Hp} (s : Same H H1) : Kp a H H1 := fun b o _ e => s b o e
theorem same_seqT {K : PySem.W.Frag} {H H1 : Hp} (s : Same H H1) : ∀ b xs, SqT K H b xs → SqT K H1 b xs := fun b xs h => by
  rcases h with (h | ⟨u, h⟩) | h
  · exact .inl (.inl (s _ _ h))
  · exact .inl (.inr ⟨u, s _ _ h⟩)
  · exact .inr h
/-- row and column behind the signs of a text -/
def stepT (K : PySem.W.Frag) : TS := tAsg (tIf (tTest (tOp rEq (tVar 7) (tC (.str "\n")))) (tTup (tCons (tOp (rI0 fun i j => .int (i + j)) (tVar 3) (tC (.int 1))) (tCons (tC (.int 1)) tNil)))
  (tTup (tCons (tVar 3) (tCons (tOp (rI0 fun i j => .int (i + j)) (tVar 4) (tC (.int 1))) tNil)))) (gTup K 2 (gCons (gName 3) (gCons (gName 4) gNil)))
theorem loop_read {K : PySem.W.Frag} {i : Nat} {gx : Str} {D : Ends} {y0 y1 y2 y5 y6 y7 y8 y9 y10 : Option V} {r c : Int} {H : Hp} (hx : ([y0, y1, y2, some (.int r), some (.int c), y5, y6, y7, y8, y9, y10] : L2.St)[i]? = some (some (.str gx)))
    (q : ∀ H' z7, Same H H' → D.nx [y0, y1, y2, some (.int (posOf gx.cps.toList r c).1), some (.int (posOf gx.cps.toList r c).2), y5, y6, z7, y8, y9, y10] H') :
    tFor (iStr (tVar i)) (gName 7) (stepT K) D [y0, y1, y2, some (.int r), some (.int c), y5, y6, y7, y8, y9, y10] H := by
  have two : 2 ≤ sizeLine := by
    rw [sizeLine_eq]
    decide
  refine ⟨_, hx, gx, rfl, for_signs (fun j σ H' => ∃ z7, σ = [y0, y1, y2, some (.int (posOf (gx.cps.toList.take j) r c).1), some (.int (posOf (gx.cps.toList.take j) r c).2), y5, y6, z7, y8, y9, y10] ∧ Same H H') ⟨y7, rfl, Same.refl H⟩ (fun j ch σ H1 hc h1 => ?_) (fun σ H1 h1 => ?_)⟩
  · obtain ⟨z7, rfl, s1⟩ := h1
    have ps := pos_snoc gx.cps.toList j ch r c hc
    refine ⟨_, rfl, rfl, _, rfl, ite2 (fun a1 => ?_) (fun a1 => ?_)⟩
    · have e10 := of_sig (k := 10) rfl a1
      have e2 : posOf (gx.cps.toList.take (j + 1)) r c = ((posOf (gx.cps.toList.take j) r c).1 + 1, 1) := by
        rw [ps]
        exact if_pos e10
      refine ⟨_, rfl, _, _, rfl, rfl, two, fun t nt => ⟨t, _, rfl, SqT.of upd_same, rfl, _, _, rfl, _, _, rfl, rfl, some (.str ⟨#[ch]⟩), ?_, fun b o e => same_new nt b o (s1 b o e)⟩⟩
      rw [e2]
      rfl
    · have e10 := not_sig (k := 10) rfl a1
      have e2 : posOf (gx.cps.toList.take (j + 1)) r c = ((posOf (gx.cps.toList.take j) r c).1, (posOf (gx.cps.toList.take j) r c).2 + 1) := by
        rw [ps]
        exact if_neg e10
      refine ⟨_, rfl, _, rfl, _, _, rfl, rfl, two, fun t nt => ⟨t, _, rfl, SqT.of upd_same, rfl, _, _, rfl, _, _, rfl, rfl, some (.str ⟨#[ch]⟩), ?_, fun b o e => same_new nt b o (s1 b o e)⟩⟩
      rw [e2]
      rfl
  · obtain ⟨z7, rfl, s1⟩ := h1
    rw [List.take_length]
    exact q H1 z7 s1
theorem one_sign {c : Nat} : (S [c]).cps = #[c] := rfl
section
variable {P : Program} {w : World} {K : PySem.W.Frag} {mg : Str → Option Value} {base : Heap}
/-- what the law's text hands back at p -/
structure TextAt (K : PySem.W.Frag) (H : Hp) (p : Addr) (T : Cs) (F : List PyData) (e : PyData) : Prop where
  ex : ∃ (fo en : Addr) (items : List V), H p = some (.tup [.str (S T), .ref fo, .ref en]) ∧ H fo = some (.lst items) ∧ DpAll K H items F ∧ Dp K H (.ref en) e
  no : noLs F = true
  it : ∀ d ∈ F, ItemOk d
  len : T.length ≤ 10000
  many : F.length ≤ 50
  en : noL e = true
  ly : PyData.canLay0 e = true ∧ PyData.depth e ≤ 5
  lx : Lx T 1 1 [] (outOf F e)
def spText (K : PySem.W.Frag) : Sp := fun vs H Q _ => ∃ (a l : Addr) (ds : List Int), vs = [.ref a] ∧ Wd H a l ds ∧
  ∀ (H' : Hp) (p : Addr) (T : Cs) (F : List PyData) (e : PyData), Kp a H H' → TextAt K H' p T F e → Q (.ref p) H'
/-- between two words -/
structure TxInv (K : PySem.W.Frag) (H : Hp) (a l fo : Addr) (ds : List Int) (n : Nat) (σ : L2.St) (H' : Hp) : Prop where
  ex : ∃ (T : Cs) (F : List PyData) (items : List V) (r c : Int) (y5 y6 y7 y8 y9 y10 : Option V), σ = [some (.ref a), some (.str (S T)), some (.ref fo), some (.int r), some (.int c), y5, y6, y7, y8, y9, y10] ∧
    Kp a H H' ∧ Wd H' a l ds ∧ H' fo = some (.lst items) ∧ DpAll K H' items F ∧ noLs F = true ∧ (∀ d ∈ F, ItemOk d) ∧ F.length ≤ n ∧ T.length ≤ 80 * n ∧ TextOk T F r c
theorem ok_text {f fN fW : Addr} {fd fdN fdW : FuncData} (F : Fun K "_law_text" "_law_text" sText f fd) (GN : FnOk P w K mg base CX0 1 fN fdN ["w", "many"] spNext) (kN : PySem.W.keepIn K (.ref fN) = true) (bN : Binds K fdN ["w", "many"] []) (gN : mg "_law_next" = some (.ref fN))
    (GW : FnOk P w K mg base CX0 2 fW fdW ["w"] (spWord K)) (kW : PySem.W.keepIn K (.ref fW) = true) (bW : Binds K fdW ["w"] []) (gW : mg "_law_word" = some (.ref fW)) (B : Bl mg) : FnOk P w K mg base CX0 3 f fd ["w"] (spText K) := by
  refine F.ok scText (fun vs H Q E h => ?_) (fun cdv A outer s H vs Q E hr h => ?_)
  · obtain ⟨a, l, ds, rfl, _⟩ := h
    rfl
  · obtain ⟨a, l, ds, rfl, W, q⟩ := h
    have nd := scText.nd
    have hr1 : Room 1 _ := hr.mono (by decide)
    refine ⟨_, (pss_cons (ps_set (i := 1) nd rfl (.inl rfl) (pe_str))
      (pss_cons (ps_set (i := 2) nd rfl (.inl rfl) (pe_lst pa_nil))
      (pss_cons (ps_asg (pe_tup (pa_cons pe_int (pa_cons pe_int pa_nil))) (pg_tup (by rfl) (pgs_cons (pg_name (i := 3) nd rfl (.inl rfl)) (pgs_cons (pg_name (i := 4) nd rfl (.inl rfl)) pgs_nil))))
      (pss_cons (ps_for PassesOwn.never rfl (pi_range1 (by rfl) B.range (pa_cons (pe_call GN hr1 (by rfl) gN kN bN .nil pass0 (pa_cons (pv 0) (pa_cons (pe_int) pa_nil))) pa_nil)) (pg_name (i := 5) nd rfl (.inl rfl)) (pss_cons (ps_set (i := 6) nd rfl (.inl rfl) (pe_ix ix_list (pe_lst (pa_cons (pe_str) (pa_cons (pe_str) (pa_cons (pe_str) (pa_cons (pe_str) (pa_cons (pe_str) (pa_cons (pe_str) pa_nil))))))) (pe_call GN hr1 (by rfl) gN kN bN .nil pass0 (pa_cons (pv 0) (pa_cons (pe_int) pa_nil))) (fun _ _ => rfl)))
      (pss_cons (ps_for PassesOwn.never rfl (pi_str (pv 6)) (pg_name (i := 7) nd rfl (.inl rfl)) (pss_one (ps_asg (pe_ifExp (pt_cmpR op_eq (pv 7) pe_str (nomark _)) (pe_tup (pa_cons (pe_op op_add (pv 3) (pe_int)) (pa_cons (pe_int) pa_nil))) (pe_tup (pa_cons (pv 3) (pa_cons (pe_op op_add (pv 4) (pe_int)) pa_nil)))) (pg_tup (by rfl) (pgs_cons (pg_name (i := 3) nd rfl (.inl rfl)) (pgs_cons (pg_name (i := 4) nd rfl (.inl rfl)) pgs_nil))))))
      (pss_cons (ps_asg (pe_call GW hr (by rfl) gW kW bW .nil pass0 (pa_cons (pv 0) pa_nil)) (pg_tup (by rfl) (pgs_cons (pg_name (i := 8) nd rfl (.inl rfl)) (pgs_cons (pg_name (i := 9) nd rfl (.inl rfl)) pgs_nil))))
      (pss_cons (ps_expr (pe_bm PySem.F.plainAttrs_list PySem.F.slot_list_append PySem.F.type_list_append mt_append (pv 2) (pa_cons (pe_op op_catT (pv 9) (pe_tup (pa_cons (pv 3) (pa_cons (pv 4) pa_nil)))) pa_nil)))
      (pss_cons (ps_set (i := 1) nd rfl (.inl rfl) (pe_op op_add_str (pe_op op_add_str (pv 1) (pv 6)) (pv 8)))
      (pss_one (ps_set (i := 4) nd rfl (.inl rfl) (pe_op op_add (pv 4) (pe_callB call_len_str (by rfl) B.len PySem.boot_len (pa_cons (pv 8) pa_nil)))))))))))
      (pss_cons (ps_set (i := 10) nd rfl (.inl rfl) (pe_ix ix_list (pe_lst (pa_cons (pe_str) (pa_cons (pe_str) (pa_cons (pe_str) (pa_cons (pe_str) pa_nil))))) (pe_call GN hr1 (by rfl) gN kN bN .nil pass0 (pa_cons (pv 0) (pa_cons (pe_int) pa_nil))) (fun _ _ => rfl)))
      (pss_cons (ps_for PassesOwn.never rfl (pi_str (pv 10)) (pg_name (i := 7) nd rfl (.inl rfl)) (pss_one (ps_asg (pe_ifExp (pt_cmpR op_eq (pv 7) pe_str (nomark _)) (pe_tup (pa_cons (pe_op op_add (pv 3) (pe_int)) (pa_cons (pe_int) pa_nil))) (pe_tup (pa_cons (pv 3) (pa_cons (pe_op op_add (pv 4) (pe_int)) pa_nil)))) (pg_tup (by rfl) (pgs_cons (pg_name (i := 3) nd rfl (.inl rfl)) (pgs_cons (pg_name (i := 4) nd rfl (.inl rfl)) pgs_nil))))))
      (pss_one (ps_ret (pe_tup (pa_cons (pe_op op_add_str (pv 1) (pv 10)) (pa_cons (pv 2) (pa_cons (pe_tup (pa_cons (pe_str) (pa_cons (pe_str) (pa_cons (pv 3) (pa_cons (pv 4) pa_nil))))) pa_nil)))))))))))), ?_⟩
    have line : ∀ n : Nat, n ≤ 100000 → n ≤ sizeLine := fun n h => by
      rw [sizeLine_eq]
      omega
    refine ⟨line 0 (by decide), fun fo nfo => ?_⟩
    have nfa : fo ≠ a := W.fresh nfo
    refine ⟨line 2 (by decide), fun u nu => ⟨u, _, rfl, SqT.of upd_same, rfl, _, _, rfl, _, _, rfl, rfl, ?_⟩⟩
    have nfu : fo ≠ u := fun z => by
      rw [← z, upd_same] at nu
      cases nu
    refine ⟨_, rfl, a, l, ds, 41, rfl, by decide, (W.new nfo).new nu, fun m H1 hm k1 e1 W1 => ?_⟩
    have hfo1 : H1 fo = some (.lst []) := by
      rw [e1 fo nfa, upd_ne nfu]
      exact upd_same
    refine ⟨_, rfl, by omega, by omega, for_range (fun i σ H' => i ≤ m ∧ TxInv K H a l fo ds i σ H') ⟨Nat.zero_le _, ⟨[], [], [], 1, 1, none, none, none, none, none, none, rfl, ((Kp.new nfo).trans (Kp.new nu)).trans k1, W1, hfo1, .nil, rfl, (by intro d hd; cases hd), Nat.le_refl _, Nat.le_refl _, text_start⟩⟩ (fun i σ H2 hi h2 => ?_) (fun σ H2 h2 => ?_)⟩
    · obtain ⟨him, T, F, items, r, c, y5, y6, y7, y8, y9, y10, rfl, k2, W2, hfo, hD, hN, hI, lF, lT, hX⟩ := h2
      have hi2 : i < m := by omega
      refine ⟨line 6 (by decide), fun z nz => ?_⟩
      refine ⟨_, rfl, a, l, ds, 6, rfl, by decide, W2.new nz, fun r6 H3 hr6 k3 e3 W3 => ?_⟩
      have hz : H3 z = some (.lst (gapsL.map V.str)) := by
        rw [e3 z (W2.fresh nz)]
        exact upd_same
      have hlt : r6 < gapsL.length := by
        show r6 < 6
        omega
      have hg : GapOk (gapsL[r6]).cps.toList := gaps_ok (List.getElem_mem hlt)
      refine ⟨z, _, _, _, rfl, rfl, SqL.of hz, atI_nat (j := r6) (menu_at hlt), ?_⟩
      generalize gapsL[r6] = gx at hg
      have hfo3 : H3 fo = some (.lst items) := by
        rw [e3 fo nfa, upd_ne (ne_of_none hfo nz)]
        exact hfo
      refine loop_read (i := 6) (gx := gx) rfl fun H4 z7 s4 => ?_
      have W4 := W3.same s4
      have hfo4 := s4 _ _ hfo3
      refine ⟨_, rfl, a, l, ds, rfl, W4, fun H5 p q' t kp v k5 W5 hp hq hd hn hy hw => ⟨p, _, rfl, SqT.of hp, rfl, _, _, rfl, _, _, rfl, rfl, ?_⟩⟩
      have hfo5 : H5 fo = some (.lst items) := k5 _ _ nfa hfo4
      have lw := word_len hw
      have lg := hg.2.1
      -- found.append(told + (row, column))
      refine ⟨_, rfl, .inl ⟨rfl, _, SqL.of hfo5⟩, _, rfl, _, rfl, _, rfl, line 2 (by decide), fun t2 nt2 => ?_⟩
      have nqt : q' ≠ t2 := ne_of_none hq nt2
      refine ⟨q', t2, [.str kp.1, v], [.int (posOf gx.cps.toList r c).1, .int (posOf gx.cps.toList r c).2], rfl, rfl, SqT.of (by rw [upd_ne nqt]; exact hq), SqT.of upd_same, List.cons_ne_nil _ _, line 4 (by decide), (fun y => nomatch y), fun _ p9 np9 => ?_⟩
      have nft : fo ≠ t2 := ne_of_none hfo5 nt2
      have hfo6 : (upd H5 t2 (.tup [.int (posOf gx.cps.toList r c).1, .int (posOf gx.cps.toList r c).2])) fo = some (.lst items) := by
        rw [upd_ne nft]
        exact hfo5
      have nfp : fo ≠ p9 := ne_of_none hfo6 np9
      have hfo7 : (upd (upd H5 t2 (.tup [.int (posOf gx.cps.toList r c).1, .int (posOf gx.cps.toList r c).2])) p9 (.tup ([.str kp.1, v] ++ [.int (posOf gx.cps.toList r c).1, .int (posOf gx.cps.toList r c).2]))) fo = some (.lst items) := by
        rw [upd_ne nfp]
        exact hfo6
      have ilen : items.length = F.length := dps_len hD
      refine ⟨fo, _, _, rfl, rfl, hfo7, Nat.lt_of_le_of_lt (show items.length ≤ 50 by omega) (by rw [sizeLine_eq]; decide), ?_⟩
      -- text = text + gap + word
      have sT : (S T).length = T.length := S_len T
      have st' : (S t).length = t.length := S_len t
      have sg : gx.length = gx.cps.toList.length := by rw [Array.length_toList]; rfl
      refine ⟨_, rfl, _, rfl, _, _, rfl, rfl, ?_, _, rfl, _, _, rfl, rfl, ?_, ?_⟩
      · rw [sT, sg]
        exact line _ (by omega)
      · rw [app_len, sT, sg, st']
        exact line _ (by omega)
      refine ⟨_, rfl, _, rfl, _, rfl, ?_, _, _, rfl, rfl, ?_⟩
      · rw [st']
        exact line _ (by omega)
      have eS : S T ++ gx ++ S t = S (T ++ gx.cps.toList ++ t) := by
        have h1 := S_cat T gx.cps.toList
        rw [S_tl] at h1
        rw [h1, S_cat]
      have g6 : ∀ b xs, SqT K H2 b xs → SqT K H5 b xs := fun b xs h => k5.seqT W4 _ _ (same_seqT s4 _ _ (k3.seqT (W2.new nz) _ _ (new_seqT nz _ _ h)))
      have g7 : ∀ b xs, SqT K H5 b xs → SqT K (upd (upd H5 t2 (.tup [.int (posOf gx.cps.toList r c).1, .int (posOf gx.cps.toList r c).2])) p9 (.tup ([.str kp.1, v] ++ [.int (posOf gx.cps.toList r c).1, .int (posOf gx.cps.toList r c).2]))) b xs := fun b xs h => new_seqT np9 _ _ (new_seqT nt2 _ _ h)
      have nkp : noL (mk kp (posOf gx.cps.toList r c).1 (posOf gx.cps.toList r c).2) = true := mk_noL hn _ _
      have hdp : Dp K (upd (upd H5 t2 (.tup [.int (posOf gx.cps.toList r c).1, .int (posOf gx.cps.toList r c).2])) p9 (.tup ([.str kp.1, v] ++ [.int (posOf gx.cps.toList r c).1, .int (posOf gx.cps.toList r c).2]))) (.ref p9) (mk kp (posOf gx.cps.toList r c).1 (posOf gx.cps.toList r c).2) :=
        tup_dp (.cons (.str _) (.cons (dp_stay g7 _ _ hd hn) (.cons (.int _) (.cons (.int _) .nil)))) upd_same
      refine ⟨by omega, ⟨T ++ gx.cps.toList ++ t, F ++ [mk kp (posOf gx.cps.toList r c).1 (posOf gx.cps.toList r c).2], items ++ [.ref p9], (posOf gx.cps.toList r c).1, (posOf gx.cps.toList r c).2 + ((t.length : Nat) : Int), some (.int (0 + ((i : Nat) : Int))), some (.str gx), z7, some (.str (S t)), some (.ref q'), y10, ?_, ?_, ?_, upd_same, ?_, ?_, ?_, ?_, ?_, text_step hX hg hw⟩⟩
      · rw [← eS]
        rfl
      · exact ((((((k2.trans (Kp.new nz)).trans k3).trans (Kp.same s4)).trans k5).trans (Kp.new nt2)).trans (Kp.new np9)).put nfo
      · exact ((W5.new nt2).new np9).put nfa (fun z => by
          have := W.dr
          rw [← z, nfo] at this
          cases this)
      · exact dps_app (dps_stay (fun b xs h => tups_upd hfo7 _ _ (g7 _ _ (g6 _ _ h))) _ _ hD hN) (.cons (dp_stay (tups_upd hfo7) _ _ hdp nkp) .nil)
      · rw [noLs_app, hN]
        show (noL _ && true) = true
        rw [nkp]
        rfl
      · intro d hd2
        rcases List.mem_append.mp hd2 with h | h
        · exact hI d h
        · rw [List.mem_singleton.mp h]
          exact item_word hw hn hy
      · rw [List.length_append]
        show F.length + 1 ≤ i + 1
        omega
      · rw [List.length_append, List.length_append]
        omega
    · obtain ⟨him, T, F, items, r, c, y5, y6, y7, y8, y9, y10, rfl, k2, W2, hfo, hD, hN, hI, lF, lT, hX⟩ := h2
      have hm2 : m ≤ 40 := by omega
      have lF2 : F.length ≤ 40 := by omega
      have lT2 : T.length ≤ 80 * 40 := by omega
      refine ⟨line 4 (by decide), fun z nz => ?_⟩
      refine ⟨_, rfl, a, l, ds, 4, rfl, by decide, W2.new nz, fun r6 H3 hr6 k3 e3 W3 => ?_⟩
      have hz : H3 z = some (.lst (endsL.map V.str)) := by
        rw [e3 z (W2.fresh nz)]
        exact upd_same
      have hlt : r6 < endsL.length := by
        show r6 < 4
        omega
      have hg : EndOk (endsL[r6]).cps.toList := ends_ok (List.getElem_mem hlt)
      refine ⟨z, _, _, _, rfl, rfl, SqL.of hz, atI_nat (j := r6) (menu_at hlt), ?_⟩
      generalize endsL[r6] = gx at hg
      have hfo3 : H3 fo = some (.lst items) := by
        rw [e3 fo nfa, upd_ne (ne_of_none hfo nz)]
        exact hfo
      refine loop_read (i := 10) (gx := gx) rfl fun H4 z7 s4 => ?_
      have hfo4 := s4 _ _ hfo3
      have sT : (S T).length = T.length := S_len T
      have sg : gx.length = gx.cps.toList.length := by rw [Array.length_toList]; rfl
      have lg := hg.2.1
      refine ⟨_, rfl, _, rfl, _, _, rfl, rfl, ?_, _, rfl, _, rfl, _, rfl, line 4 (by decide), fun en nen => ⟨line 3 (by decide), fun p np => ?_⟩⟩
      · rw [sT, sg]
        exact line _ (by omega)
      have eS : S T ++ gx = S (T ++ gx.cps.toList) := by
        have h1 := S_cat T gx.cps.toList
        rw [S_tl] at h1
        exact h1
      have nenp : en ≠ p := fun y => by
        rw [← y, upd_same] at np
        cases np
      have g4 : ∀ b xs, SqT K H2 b xs → SqT K H4 b xs := fun b xs h => same_seqT s4 _ _ (k3.seqT (W2.new nz) _ _ (new_seqT nz _ _ h))
      have hfo5 : H4 fo = some (.lst items) := hfo4
      have s5 : Same H4 (upd (upd H4 en (.tup [.str ("end" : Str), .str ("" : Str), .int (posOf gx.cps.toList r c).1, .int (posOf gx.cps.toList r c).2])) p (.tup [.str (S T ++ gx), .ref fo, .ref en])) := fun b o e => same_new np b o (same_new nen b o e)
      refine q _ p (T ++ gx.cps.toList) F (endTok (posOf gx.cps.toList r c)) ((((k2.trans (Kp.new nz)).trans k3).trans (Kp.same s4)).trans (Kp.same s5)) ⟨⟨fo, en, items, ?_, s5 _ _ hfo5, ?_, ?_⟩, hN, hI, ?_, by omega, rfl, lay_mk (lay_str kinds_str.2.2.2.2.2.2.1 kinds_str.2.2.2.2.2.2.2), text_end hX hg⟩
      · rw [← eS]
        exact upd_same
      · exact dps_stay (fun b xs h => same_seqT s5 _ _ (g4 _ _ h)) _ _ hD hN
      · refine tup_dp (.cons (.str _) (.cons (.str _) (.cons (.int _) (.cons (.int _) .nil)))) ?_
        rw [upd_ne nenp]
        exact upd_same
      · rw [List.length_append]
        omega
end
end K0
/-! The law. -/
namespace K0
open PySem PySem.Spec PyProof.Rows L2 SX
open GxR (TabG Tabbed TabB GenS)
abbrev NL : List Str := ["script", "w", "text", "found", "end", "bad", "told", "e", "one"]
theorem scLaw : FnScope NL ["script"] (defScope sLaw) := ⟨rfl, rfl, rfl, by decide +kernel, rfl, by decide +kernel, by decide +kernel⟩
def isBadD : PyData → Bool
  | .tuple (.str k :: _) => decide (k = ("bad" : Str))
  | _ => false
theorem isBad_mk {kp : KP} {r c : Int} : isBadD (mk kp r c) = decide (kp.1 = ("bad" : Str)) := rfl
theorem bad_filter : ∀ (F : List PyData), (∀ d ∈ F, ItemOk d) → (F.findSome? badOf = none → F.filter isBadD = []) ∧ (∀ b r c, F.findSome? badOf = some (b, r, c) → ∃ rest, F.filter isBadD = mk ("bad", .bool b) r c :: rest)
  | [], _ => ⟨fun _ => rfl, fun _ _ _ h => by cases h⟩
  | d :: F, hI => by
    obtain ⟨ih1, ih2⟩ := bad_filter F fun x hx => hI x (List.mem_cons_of_mem _ hx)
    obtain ⟨kp, r0, c0, ed, _, _, hb⟩ := hI d (List.mem_cons_self ..)
    subst ed
    by_cases h : kp.1 = ("bad" : Str)
    · obtain ⟨b0, eb⟩ := hb h
      obtain ⟨k, p⟩ := kp
      dsimp only at h eb
      subst h eb
      refine ⟨fun z => ?_, fun b r c z => ?_⟩
      · rw [List.findSome?_cons, bad_bad] at z
        cases z
      · rw [List.findSome?_cons, bad_bad] at z
        cases z
        exact ⟨F.filter isBadD, List.filter_cons_of_pos (by rw [isBad_mk]; exact decide_eq_true rfl)⟩
    · have e1 : isBadD (mk kp r0 c0) = false := by
        rw [isBad_mk]
        exact decide_eq_false h
      have e2 : (mk kp r0 c0 :: F).filter isBadD = F.filter isBadD := List.filter_cons_of_neg (by rw [e1]; exact Bool.false_ne_true)
      rw [List.findSome?_cons, bad_good h, e2]
      exact ⟨ih1, ih2⟩
theorem mk_at {K : PySem.W.Frag} {H : Hp} {v : V} {kp : KP} {r c : Int} (h : Dp K H v (mk kp r c)) : ∃ a v2, v = .ref a ∧ SqT K H a [.str kp.1, v2, .int r, .int c] ∧ Dp K H v2 kp.2 := by
  cases h with
  | tup s all =>
    cases all with
    | cons d1 r1 =>
      cases d1
      cases r1 with
      | cons d2 r2 =>
        cases r2 with
        | cons d3 r3 =>
          cases d3
          cases r3 with
          | cons d4 r4 =>
            cases d4
            cases r4
            exact ⟨_, _, rfl, s, d2⟩
theorem pss_cls {X : Cx} {sts : List Stmt} {t : TS} {cls : Value} {C : Addr} (h : cls = .ref C → PSs X sts t) : PSs X sts (fun D σ H => cls = .ref C ∧ t D σ H) :=
  ⟨fun pins s σ H D I q => (h q.1).run pins s σ H D I q.2⟩
theorem noLs_filter (f : PyData → Bool) : ∀ (F : List PyData), noLs F = true → noLs (F.filter f) = true
  | [], _ => rfl
  | d :: F, h => by
    have h' : (noL d && noLs F) = true := h
    rw [Bool.and_eq_true] at h'
    by_cases q : f d = true
    · rw [List.filter_cons_of_pos q]
      show (noL d && noLs (F.filter f)) = true
      rw [h'.1, noLs_filter f F h'.2]
      rfl
    · rw [List.filter_cons_of_neg q]
      exact noLs_filter f F h'.2
theorem noLs_mem : ∀ {F : List PyData}, noLs F = true → ∀ d ∈ F, noL d = true
  | x :: F, h, d, hd => by
    have h' : (noL x && noLs F) = true := h
    rw [Bool.and_eq_true] at h'
    rcases List.mem_cons.mp hd with e | e
    · rw [e]
      exact h'.1
    · exact noLs_mem h'.2 d e
theorem dps_get {K : PySem.W.Frag} {H : Hp} : ∀ {vs : List V} {ds : List PyData} {i : Nat} {x : V}, DpAll K H vs ds → vs[i]? = some x → ∃ d, ds[i]? = some d ∧ Dp K H x d
  | _, _, _, _, .nil, h => by simp at h
  | _, _, 0, _, .cons a _, h => by
    have e := Option.some.inj h
    subst e
    exact ⟨_, rfl, a⟩
  | _, _, i + 1, _, .cons _ b, h => dps_get (i := i) b h
def LayAll (F : List PyData) : Prop := ∀ d ∈ F, PyData.canLay0 d = true ∧ PyData.depth d ≤ 5
theorem shaped_list : ∀ (F : List PyData), LayAll F → SeqAt.shaped (.list F) = true := by
  have h1 : ∀ F : List PyData, LayAll F → PyData.canLayAll0 F = true ∧ PyData.depthAll F ≤ 5 := by
    intro F
    induction F with
    | nil => exact fun _ => ⟨rfl, Nat.zero_le _⟩
    | cons d F ih =>
      intro h
      obtain ⟨a, b⟩ := ih fun x hx => h x (List.mem_cons_of_mem _ hx)
      obtain ⟨c, e⟩ := h d (List.mem_cons_self ..)
      refine ⟨?_, ?_⟩
      · show (PyData.canLay0 d && PyData.canLayAll0 F) = true
        rw [c, a]
        rfl
      · show max (PyData.depth d) (PyData.depthAll F) ≤ 5
        exact Nat.max_le.mpr ⟨e, b⟩
  intro F h
  obtain ⟨a, b⟩ := h1 F h
  unfold SeqAt.shaped
  rw [Bool.and_eq_true]
  refine ⟨a, decide_eq_true ?_⟩
  show PyData.depthAll F + 1 ≤ 64
  omega
theorem lay_items {F : List PyData} (hI : ∀ d ∈ F, ItemOk d) : LayAll F := fun d hd => by
  obtain ⟨kp, r, c, e, _, hy, _⟩ := hI d hd
  rw [e]
  exact lay_mk hy
theorem shaped_two (r c : Int) : SeqAt.shaped (.tuple [.int r, .int c]) = true := by
  unfold SeqAt.shaped
  simp [PyData.canLay0, PyData.canLayAll0, PyData.depth, PyData.depthAll]
theorem wd_merge (l : Addr) : mergeK [] [(Sum.inr ("draws" : Str), V.ref l), (Sum.inr ("at" : Str), V.int 0)] = wdL l 0 := by
  have h1 : ¬ (Sum.inr ("draws" : Str) : Key) = Sum.inr ("at" : Str) := by decide
  unfold mergeK wdL
  simp [putK, h1]
section
variable {P : Program} {w : World} {K : PySem.W.Frag} {mg : Str → Option Value} {base : Heap} {T : Addr}
/-- an error's class as the law asks it -/
structure ErrL (K : PySem.W.Frag) (mg : Str → Option Value) (x : Str) (C : Addr) : Prop where
  g : mg x = some (.ref C)
  x : XfC K C
  c : ExcC K C
  nR : PySem.W.findIn K (.ref C) "row" = some none
  nC : PySem.W.findIn K (.ref C) "column" = some none
abbrev tBad0 (K : PySem.W.Frag) : TE := tOp (rIxL K) (tVar 5) (tC (.int 0))
abbrev tSpot (K : PySem.W.Frag) (C a : Addr) (cls : Value) (d : Option Addr) : TE := tOp (rEqD K) (tTup (tCons (tXf a cls d C "row" (tVar 7)) (tCons (tXf a cls d C "column" (tVar 7)) tNil))) (tSl (rSlT K) (tBad0 K) (tPart (tC (.int 2))) tNoPart)
abbrev tIs (K : PySem.W.Frag) (D C a : Addr) (d : Option Addr) : TE := tCB (K0E.rIsF K D a d) (tCons (tVar 7) (tCons (tC (.ref C)) tNil))
abbrev sufB (K : PySem.W.Frag) (CB CT CC : Addr) : K0T.Suite := fun a cls d => fun D σ H => cls = .ref CB ∧ tRet (tAndV (tOp (rNeD K) (tVar 5) (tLst tNil)) (tAndV (tOp (rIxT K) (tBad0 K) (tC (.int 1))) (tAndV (tSpot K CB a cls d) (tAndV (tIs K CB CT a d) (tIs K CB CC a d))))) D σ H
abbrev sufN (K : PySem.W.Frag) (CN CT : Addr) : K0T.Suite := fun a cls d => fun D σ H => cls = .ref CN ∧ tRet (tAndV (tOp (rNeD K) (tVar 5) (tLst tNil)) (tAndV (tNotV (tOp (rIxT K) (tBad0 K) (tC (.int 1)))) (tAndV (tSpot K CN a cls d) (tIs K CN CT a d)))) D σ H
def spLaw (K : PySem.W.Frag) (T : Addr) : Sp := fun vs H Q _ => ∃ (a : Addr) (ns : List Int), vs = [.ref a] ∧ SqL K H a (ns.map V.int) ∧ ns.length ≤ 63 ∧ TabG H T ∧ ∀ H', Q (.bl true) H'
theorem ok_law {f fD fX fK CB CN CT CC : Addr} {fd fdD fdX fdK : FuncData} (F : Fun K "law" "law" sLaw f fd)
    (GD : FnOk P w K mg base CX0 1 fD fdD ["script", "many"] (spDraws K)) (kD : PySem.W.keepIn K (.ref fD) = true) (bD : Binds K fdD ["script", "many"] []) (gD : mg "_law_draws" = some (.ref fD))
    (GX : FnOk P w K mg base CX0 3 fX fdX ["w"] (spText K)) (kX : PySem.W.keepIn K (.ref fX) = true) (bX : Binds K fdX ["w"] []) (gX : mg "_law_text" = some (.ref fX))
    (GK : FnOk P w K mg base (L2.CX P w) 6 fK fdK ["text"] (spTokens K T CB CN)) (kK : PySem.W.keepIn K (.ref fK) = true) (bK : Binds K fdK ["text"] []) (gK : mg "tokens" = some (.ref fK))
    (XB : ErrL K mg "BadCharacter" CB) (XN : ErrL K mg "BadNumber" CN) (gT : mg "TextError" = some (.ref CT)) (gC : mg "CutError" = some (.ref CC)) (mi : mg "isinstance" = none) (ml : mg "list" = none)
    (e1 : PySem.W.exmOne K (.ref CB) (.ref CB) = some true) (e2 : PySem.W.exmOne K (.ref CN) (.ref CB) = some false) (e3 : PySem.W.exmOne K (.ref CN) (.ref CN) = some true)
    (i1 : PySem.W.kitOne K (.ref CB) (.ref CT) = some true) (i2 : PySem.W.kitOne K (.ref CB) (.ref CC) = some true) (i3 : PySem.W.kitOne K (.ref CN) (.ref CT) = some true) :
    FnOk P w K mg base CX0 7 f fd ["script"] (spLaw K T) := by
  refine F.ok scLaw (fun vs H Q E h => ?_) (fun cdv A outer s H vs Q E hr h => ?_)
  · obtain ⟨a, ns, rfl, _⟩ := h
    rfl
  · obtain ⟨a, ns, rfl, hS, hlen, tb, q⟩ := h
    have nd := scLaw.nd
    have hr1 : Room 1 _ := hr.mono (by decide)
    have hr3 : Room 3 _ := hr.mono (by decide)
    have hr6 : Room 6 _ := hr.mono (by decide)
    have hu := hr.units
    refine ⟨_, (pss_cons (ps_set (i := 1) nd rfl (.inl rfl) (pe_disp (pps_cons pe_str (pe_call GD hr1 (by rfl) gD kD bD .nil pass0 (pa_cons (pv 0) (pa_cons (pe_int) pa_nil))) (pps_cons pe_str pe_int pps_nil)) rfl rfl (by intro z; cases z) (by decide)))
      (pss_cons (ps_asg (pe_call GX hr3 (by rfl) gX kX bX .nil pass0 (pa_cons (pv 1) pa_nil)) (pg_tup (by rfl) (pgs_cons (pg_name (i := 2) nd rfl (.inl rfl)) (pgs_cons (pg_name (i := 3) nd rfl (.inl rfl)) (pgs_cons (pg_name (i := 4) nd rfl (.inl rfl)) pgs_nil)))))
      (pss_cons (ps_setLc (i := 5) (own := [("one", 8)]) (g := gName 8) (tt := tTest (tOp rEq (tOp (rIxT K) (tVar 8) (tC (.int 0))) (tC (.str "bad")))) rfl nd rfl rfl (sw_true rfl rfl rfl (by decide +kernel)) (pi_list (pv 3)) (blkOk_by (N := NL) (sc := defScope sLaw) (by decide +kernel)) (fun _ _ _ _ _ => pg_name (i := 8) nd rfl (.inl rfl)) (fun _ _ _ _ _ => pts_one (pt_cmpR op_eq (pe_ix ix_tup (pv 8) pe_int (fun _ _ => rfl)) pe_str (nomark _))) (fun _ _ _ _ _ => pv 8))
      (pss_cons (K0T.ps_try_ases (i := 7) (tb := fun W => tAsg (tCallS (spTokens K T CB CN) (WE W) (tCons (tVar 2) tNil)) (gName 6)) (Wo := fun _ _ _ _ => False) rfl rfl nd rfl rfl takes0 (fun W pn xe tk _ => pss_one (ps_set (i := 6) nd rfl (.inl rfl) (by exact (pe_callS GK hr6 rfl gK kK bK (fun σ => passAt tk σ) (by exact (pa_cons (pv 2) pa_nil)))))) (.cons (ts := sufB K CB CT CC) ⟨rfl, by decide, .inl XB.g⟩ (fun a oe cls d pn hz hf => by exact (pss_cls (C := CB) fun hcls => pss_one (ps_ret (pe_and (pe_cmpR (op_neD hu) (pv 5) (pe_lst pa_nil) (nomark _)) (pe_and (pe_ix ix_tup (pe_ix ix_list (pv 5) pe_int (fun _ _ => rfl)) pe_int (fun _ _ => rfl)) (pe_and (pe_cmpR (op_eqD hu) (pe_tup (pa_cons (pe_xf XB.x XB.nR hz hf (pv 7)) (pa_cons (pe_xf XB.x XB.nC hz hf (pv 7)) pa_nil))) (pe_slice sl_tup (pe_ix ix_list (pv 5) pe_int (fun _ _ => rfl)) (po_some pe_int) po_none) (nomark _)) (pe_and (pe_callB (K0E.call_isF XB.c (hcls ▸ hz) hf) (by rfl) mi (by decide +kernel) (pa_cons (pv 7) (pa_cons (pe_glob (v := .ref CT) (by rfl) gT rfl) pa_nil))) (pe_one (pe_callB (K0E.call_isF XB.c (hcls ▸ hz) hf) (by rfl) mi (by decide +kernel) (pa_cons (pv 7) (pa_cons (pe_glob (v := .ref CC) (by rfl) gC rfl) pa_nil))))))))))) (.cons (ts := sufN K CN CT) ⟨rfl, by decide, .inl XN.g⟩ (fun a oe cls d pn hz hf => by exact (pss_cls (C := CN) fun hcls => pss_one (ps_ret (pe_and (pe_cmpR (op_neD hu) (pv 5) (pe_lst pa_nil) (nomark _)) (pe_and (pe_not (pe_ix ix_tup (pe_ix ix_list (pv 5) pe_int (fun _ _ => rfl)) pe_int (fun _ _ => rfl))) (pe_and (pe_cmpR (op_eqD hu) (pe_tup (pa_cons (pe_xf XN.x XN.nR hz hf (pv 7)) (pa_cons (pe_xf XN.x XN.nC hz hf (pv 7)) pa_nil))) (pe_slice sl_tup (pe_ix ix_list (pv 5) pe_int (fun _ _ => rfl)) (po_some pe_int) po_none) (nomark _)) (pe_one (pe_callB (K0E.call_isF XN.c (hcls ▸ hz) hf) (by rfl) mi (by decide +kernel) (pa_cons (pv 7) (pa_cons (pe_glob (v := .ref CT) (by rfl) gT rfl) pa_nil)))))))))) (.nil))))
      (pss_one (ps_ret (pe_and (pe_cmpR (op_eqD hu) (pv 5) (pe_lst pa_nil) (nomark _)) (pe_and (pe_callB call_isi (by rfl) mi (by decide +kernel) (pa_cons (pv 6) (pa_cons (pe_bltn (v := .ty "list") (by rfl) ml (by decide +kernel) rfl) pa_nil))) (pe_one (pe_cmpR (op_eqD hu) (pv 6) (pe_op op_cat (pv 3) (pe_lst (pa_cons (pv 4) pa_nil))) (nomark _))))))))))), ?_⟩
    have line : ∀ n : Nat, n ≤ 100000 → n ≤ sizeLine := fun n h => by
      rw [sizeLine_eq]
      omega
    obtain ⟨ps, eT, hT⟩ := tb
    -- w = {..}
    refine fun wa nwa => ?_
    refine ⟨_, rfl, a, ns, 300, rfl, (same_new nwa).seq hS, hlen, by decide, fun H1 l ds s1 nl el lds => ?_⟩
    have hwa1 : H1 wa = some (.dK []) := s1 _ _ upd_same
    refine ⟨hwa1, [(.inr ("draws" : Str), .ref l), (.inr ("at" : Str), .int 0)], rfl, (by show 2 ≤ 15; decide), ?_⟩
    rw [wd_merge]
    have nlw : l ≠ wa := fun z => by
      rw [z, upd_same] at nl
      cases nl
    have nTw : T ≠ wa := ne_of_none eT nwa
    have eT1 : H1 T = some (.tbl ps) := s1 _ _ (by rw [upd_ne nTw]; exact eT)
    have W : Wd (upd H1 wa (.dK (wdL l 0))) wa l ds := ⟨⟨0, Int.le_refl 0, upd_same⟩, by rw [upd_ne nlw]; exact el, lds⟩
    -- text, found, end
    refine ⟨_, rfl, wa, l, ds, rfl, W, fun H3 p Tx F' e k3 TA => ?_⟩
    obtain ⟨⟨fo, en, items, hp, hfo, hD, hE⟩, hN, hI, hTl, hF, hEn, hLy, hL⟩ := TA
    have eT3 : H3 T = some (.tbl ps) := k3 _ _ nTw (by rw [upd_ne nTw]; exact eT1)
    refine ⟨p, _, rfl, SqT.of hp, rfl, _, _, rfl, _, _, rfl, _, _, rfl, rfl, ?_⟩
    -- bad
    refine ⟨_, rfl, fo, rfl, ⟨_, SqL.of hfo⟩, fun D nD => lc_list (xs := items) (fun i H' => ∃ acc : List V, H' = upd H3 D (.lst acc) ∧ DpAll K H3 acc ((F'.take i).filter isBadD) ∧ acc.length ≤ i) ⟨[], rfl, .nil, Nat.le_refl 0⟩ (fun i H' _ h => ?_) (fun i x H' hx h => ?_) (fun H' h => ?_)⟩
    · obtain ⟨acc, rfl, _⟩ := h
      exact SqL.of (by rw [upd_ne (ne_of_none hfo nD)]; exact hfo)
    · obtain ⟨acc, rfl, hA, la⟩ := h
      obtain ⟨d, hd, hxd⟩ := dps_get hD hx
      obtain ⟨kp, r, c, rfl, _⟩ := hI d (List.mem_of_getElem? hd)
      obtain ⟨b, v2, rfl, hb, _⟩ := mk_at hxd
      have tk : F'.take (i + 1) = F'.take i ++ [mk kp r c] := by
        rw [List.take_add_one, hd]
        rfl
      have li : i < items.length := (List.getElem?_eq_some_iff.mp hx).1
      have lF : items.length = F'.length := dps_len hD
      refine ⟨rfl, _, rfl, b, _, _, .str kp.1, rfl, rfl, new_seqT nD _ _ hb, atI_nat (j := 0) rfl, rfl, _, rfl, ite2 (fun a1 => ?_) (fun a1 => ?_)⟩
      · have h1 : isBadD (mk kp r c) = true := by
          rw [isBad_mk]
          exact decide_eq_true (V.str.inj (of_decide_eq_true a1))
        refine ⟨_, rfl, acc, upd_same, Nat.lt_of_le_of_lt (show acc.length ≤ 50 by omega) (by rw [sizeLine_eq]; decide), acc ++ [.ref b], upd_upd, ?_, ?_⟩
        · rw [tk, List.filter_append, List.filter_cons_of_pos h1]
          exact dps_app hA (.cons hxd .nil)
        · rw [List.length_append]
          show acc.length + 1 ≤ i + 1
          omega
      · have h1 : ¬ isBadD (mk kp r c) = true := fun z => a1 (by
          rw [isBad_mk] at z
          rw [of_decide_eq_true z]
          exact decide_eq_true rfl)
        refine ⟨acc, rfl, ?_, by omega⟩
        rw [tk, List.filter_append, List.filter_cons_of_neg h1]
        show DpAll K H3 acc ((F'.take i).filter isBadD ++ [])
        rw [List.append_nil]
        exact hA
    · obtain ⟨acc, rfl, hA, la⟩ := h
      have tkF : F'.take items.length = F' := by
        rw [dps_len hD]
        exact List.take_length
      rw [tkF] at hA
      have hAn : noLs (F'.filter isBadD) = true := noLs_filter _ _ hN
      have hA4 : DpAll K (upd H3 D (.lst acc)) acc (F'.filter isBadD) := dps_stay (new_seqT nD) _ _ hA hAn
      have nTD : T ≠ D := ne_of_none eT3 nD
      have tb4 : TabG (upd H3 D (.lst acc)) T := ⟨ps, by rw [upd_ne nTD]; exact eT3, hT⟩
      have hD4 : (upd H3 D (.lst acc)) D = some (.lst acc) := upd_same
      have hfo4 : (upd H3 D (.lst acc)) fo = some (.lst items) := by
        rw [upd_ne (ne_of_none hfo nD)]
        exact hfo
      have hDD : DpAll K (upd H3 D (.lst acc)) items F' := dps_stay (new_seqT nD) _ _ hD hN
      have hEE : Dp K (upd H3 D (.lst acc)) (.ref en) e := dp_stay (new_seqT nD) _ _ hE hEn
      generalize upd H3 D (.lst acc) = H4 at hA4 tb4 hD4 hfo4 hDD hEE ⊢
      have layF := lay_items hI
      have layB : LayAll (F'.filter isBadD) := fun d hd => layF d (List.mem_filter.mp hd).1
      have kFst := bad_filter F' hI
      refine ⟨_, rfl, Tx, outOf F' e, rfl, by omega, tb4, hL, fun ts ho H5 r its g5 hr5 hD5 hn5 => ?_, fun b r c ho H5 d g5 hxd => ?_⟩
      · -- it is read: bad == [] and isinstance(told, list) and told == found + [end]
        unfold outOf at ho
        cases qf : F'.findSome? badOf with
        | some v =>
          obtain ⟨b, r, c⟩ := v
          rw [qf] at ho
          cases ho
        | none =>
          rw [qf] at ho
          cases ho
          have e0 := kFst.1 qf
          rw [e0] at hA4
          have eacc : acc = [] := List.eq_nil_of_length_eq_zero (dps_len hA4)
          subst eacc
          have hD5' := g5.at tb4 hD4 (fun ps z => by cases z)
          have hfo5 := g5.at tb4 hfo4 (fun ps z => by cases z)
          have hD5F : DpAll K H5 items F' := dps_stay (fun b xs h => g5.seqT tb4 h) _ _ hDD hN
          have hE5 : Dp K H5 (.ref en) e := dp_stay (fun b xs h => g5.seqT tb4 h) _ _ hEE hEn
          have layE : LayAll (F' ++ [e]) := fun d hd => by
            rcases List.mem_append.mp hd with h | h
            · exact layF d h
            · rw [List.mem_singleton.mp h]
              exact hLy
          refine ⟨_, rfl, line 0 (by decide), fun p0 np0 => ?_⟩
          have hD6 : (upd H5 p0 (.lst [])) D = some (.lst []) := by
            rw [upd_ne (ne_of_none hD5' np0)]
            exact hD5'
          have hr6 : (upd H5 p0 (.lst [])) r = some (.lst its) := by
            rw [upd_ne (ne_of_none hr5 np0)]
            exact hr5
          have hfo6 : (upd H5 p0 (.lst [])) fo = some (.lst items) := by
            rw [upd_ne (ne_of_none hfo5 np0)]
            exact hfo5
          refine ⟨.list [], .list [], .lst (SqL.of hD6) .nil, .lst (SqL.of upd_same) .nil, shaped_list [] (fun d hd => by cases hd), shaped_list [] (fun d hd => by cases hd), _, rfl, ?_⟩
          rw [SeqAt.eqv_refl (.list []) rfl]
          refine iteT ⟨_, rfl, .ref r, .ty "list", .type "list", .type "list", true, rfl, .ty _, .base (.lst hr6), kit_ty (by decide +kernel), _, rfl, iteT ?_⟩
          have lenF : items.length = F'.length := dps_len hD5F
          refine ⟨_, rfl, _, rfl, _, rfl, line 1 (by decide), fun p1 np1 => ?_⟩
          have hfo7 : (upd (upd H5 p0 (.lst [])) p1 (.lst [.ref en])) fo = some (.lst items) := by
            rw [upd_ne (ne_of_none hfo6 np1)]
            exact hfo6
          refine ⟨fo, p1, items, [.ref en], rfl, rfl, hfo7, upd_same, line _ (by show items.length + 1 ≤ 100000; omega), fun p2 np2 => ?_⟩
          have st7 : ∀ b xs, SqT K H5 b xs → SqT K (upd (upd (upd H5 p0 (.lst [])) p1 (.lst [.ref en])) p2 (.lst (items ++ [.ref en]))) b xs := fun b xs h => new_seqT np2 _ _ (new_seqT np1 _ _ (new_seqT np0 _ _ h))
          have hr8 : (upd (upd (upd H5 p0 (.lst [])) p1 (.lst [.ref en])) p2 (.lst (items ++ [.ref en]))) r = some (.lst its) := by
            have hr7 : (upd (upd H5 p0 (.lst [])) p1 (.lst [.ref en])) r = some (.lst its) := by
              rw [upd_ne (ne_of_none hr6 np1)]
              exact hr6
            rw [upd_ne (ne_of_none hr7 np2)]
            exact hr7
          have sh := shaped_list _ layE
          refine ⟨.list (F' ++ [e]), .list (F' ++ [e]), .lst (SqL.of hr8) (dps_stay st7 _ _ hD5 hn5), .lst (SqL.of upd_same) (dps_app (dps_stay st7 _ _ hD5F hN) (.cons (dp_stay st7 _ _ hE5 hEn) .nil)), sh, sh, ?_⟩
          rw [SeqAt.eqv_refl _ (SeqAt.canLay_of_shaped sh)]
          exact q _
      · -- it is refused
        unfold outOf at ho
        cases qf : F'.findSome? badOf with
        | none =>
          rw [qf] at ho
          cases ho
        | some v =>
          obtain ⟨b', r', c'⟩ := v
          rw [qf] at ho
          cases ho
          obtain ⟨more, e0⟩ := kFst.2 _ _ _ qf
          rw [e0] at hA4 layB hAn
          cases hA4 with
          | @cons bv accs _ _ hb1 hb2 =>
            obtain ⟨bx, v2, rfl, hbx, hv2⟩ := mk_at hb1
            cases hv2
            have hD5' := g5.at tb4 hD4 (fun ps z => by cases z)
            have hbx5 := g5.seqT tb4 hbx
            have hAll5 : DpAll K H5 (.ref bx :: accs) (mk ("bad", .bool b) r c :: more) := dps_stay (fun b xs h => g5.seqT tb4 h) _ _ (.cons hb1 hb2) hAn
            have shB := shaped_list _ layB
            have sh0 := shaped_list [] (fun d hd => by cases hd)
            cases b with
            | true =>
              refine ⟨true, e1, fun _ ax nax => ⟨rfl, ?_⟩, fun z => nomatch z⟩
              refine ⟨_, rfl, line 0 (by decide), fun p0 np0 => ?_⟩
              have s6 : Same H5 (upd H5 p0 (.lst [])) := same_new np0
              refine ⟨.list (mk ("bad", .bool true) r c :: more), .list [], .lst (SqL.of (s6 _ _ hD5')) (dps_stay (same_seqT s6) _ _ hAll5 hAn), .lst (SqL.of upd_same) .nil, shB, sh0, _, rfl, ?_⟩
              have ev : (!PyData.eqv (.list (mk ("bad", .bool true) r c :: more)) (.list [])) = true := rfl
              rw [ev]
              refine iteT ⟨_, rfl, D, _, _, .ref bx, rfl, rfl, SqL.of (s6 _ _ hD5'), atI_nat (j := 0) rfl, bx, _, _, .bl true, rfl, rfl, same_seqT s6 _ _ hbx5, atI_nat (j := 1) rfl, _, rfl, iteT ?_⟩
              refine ⟨_, rfl, rfl, rfl, d, fsOf r c, .int r, rfl, s6 _ _ hxd, rfl, _, rfl, rfl, rfl, d, fsOf r c, .int c, rfl, s6 _ _ hxd, rfl, line 2 (by decide), fun tp ntp => ?_⟩
              have s7 : Same (upd H5 p0 (.lst [])) (upd (upd H5 p0 (.lst [])) tp (.tup [.int r, .int c])) := same_new ntp
              refine ⟨_, rfl, D, _, _, .ref bx, rfl, rfl, SqL.of (s7 _ _ (s6 _ _ hD5')), atI_nat (j := 0) rfl, _, rfl, bx, _, rfl, same_seqT s7 _ _ (same_seqT s6 _ _ hbx5), (by show ¬ (HT.sIx 4 0 (some 2) = 0 ∧ HT.sIx 4 4 none = 4); decide), fun sp nsp => ?_⟩
              have s8 : Same (upd (upd H5 p0 (.lst [])) tp (.tup [.int r, .int c])) (upd (upd (upd H5 p0 (.lst [])) tp (.tup [.int r, .int c])) sp (.tup [.int r, .int c])) := same_new nsp
              refine ⟨.tuple [.int r, .int c], .tuple [.int r, .int c], tup_dp (.cons (.int _) (.cons (.int _) .nil)) (s8 _ _ upd_same), tup_dp (.cons (.int _) (.cons (.int _) .nil)) upd_same, shaped_two r c, shaped_two r c, _, rfl, ?_⟩
              rw [SeqAt.eqv_refl (.tuple [.int r, .int c]) rfl]
              have hx9 := s8 _ _ (s7 _ _ (s6 _ _ hxd))
              refine iteT ?_
              refine ⟨_, rfl, .ref CT, .ref CT, true, d, fsOf r c, rfl, (fun u h => h), i1, rfl, hx9, _, rfl, iteT ?_⟩
              exact ⟨_, rfl, .ref CC, .ref CC, true, d, fsOf r c, rfl, (fun u h => h), i2, rfl, hx9, q _⟩
            | false =>
              refine ⟨false, e2, (fun z => nomatch z), fun _ => ⟨true, e3, fun _ ax nax => ⟨rfl, ?_⟩, fun z => nomatch z⟩⟩
              refine ⟨_, rfl, line 0 (by decide), fun p0 np0 => ?_⟩
              have s6 : Same H5 (upd H5 p0 (.lst [])) := same_new np0
              refine ⟨.list (mk ("bad", .bool false) r c :: more), .list [], .lst (SqL.of (s6 _ _ hD5')) (dps_stay (same_seqT s6) _ _ hAll5 hAn), .lst (SqL.of upd_same) .nil, shB, sh0, _, rfl, ?_⟩
              have ev : (!PyData.eqv (.list (mk ("bad", .bool false) r c :: more)) (.list [])) = true := rfl
              rw [ev]
              refine iteT ⟨_, rfl, D, _, _, .ref bx, rfl, rfl, SqL.of (s6 _ _ hD5'), atI_nat (j := 0) rfl, bx, _, _, .bl false, rfl, rfl, same_seqT s6 _ _ hbx5, atI_nat (j := 1) rfl, _, rfl, _, rfl, iteT ?_⟩
              refine ⟨_, rfl, rfl, rfl, d, fsOf r c, .int r, rfl, s6 _ _ hxd, rfl, _, rfl, rfl, rfl, d, fsOf r c, .int c, rfl, s6 _ _ hxd, rfl, line 2 (by decide), fun tp ntp => ?_⟩
              have s7 : Same (upd H5 p0 (.lst [])) (upd (upd H5 p0 (.lst [])) tp (.tup [.int r, .int c])) := same_new ntp
              refine ⟨_, rfl, D, _, _, .ref bx, rfl, rfl, SqL.of (s7 _ _ (s6 _ _ hD5')), atI_nat (j := 0) rfl, _, rfl, bx, _, rfl, same_seqT s7 _ _ (same_seqT s6 _ _ hbx5), (by show ¬ (HT.sIx 4 0 (some 2) = 0 ∧ HT.sIx 4 4 none = 4); decide), fun sp nsp => ?_⟩
              have s8 : Same (upd (upd H5 p0 (.lst [])) tp (.tup [.int r, .int c])) (upd (upd (upd H5 p0 (.lst [])) tp (.tup [.int r, .int c])) sp (.tup [.int r, .int c])) := same_new nsp
              refine ⟨.tuple [.int r, .int c], .tuple [.int r, .int c], tup_dp (.cons (.int _) (.cons (.int _) .nil)) (s8 _ _ upd_same), tup_dp (.cons (.int _) (.cons (.int _) .nil)) upd_same, shaped_two r c, shaped_two r c, _, rfl, ?_⟩
              rw [SeqAt.eqv_refl (.tuple [.int r, .int c]) rfl]
              have hx9 := s8 _ _ (s7 _ _ (s6 _ _ hxd))
              refine iteT ?_
              exact ⟨_, rfl, .ref CT, .ref CT, true, d, fsOf r c, rfl, (fun u h => h), i3, rfl, hx9, q _⟩
end
end K0
/-! What the top leaves, and the end. -/
namespace K0
open PySem PySem.Spec PyProof.Rows L2 SX
open GxR (TabG Tabbed TabB GenS)
theorem kit_ref {K : PySem.W.Frag} {t : Value} {C : Addr} (hd : PySem.W.hasDictIn K C = true) (ty : PySem.W.typeIn K (.ref C) = some (.type "type")) (s : PySem.W.subIn K t (.ref C) = some true) : PySem.W.kitOne K t (.ref C) = some true := by
  obtain ⟨cd, hc, _⟩ := PySem.W.any_some hd
  have e : ((PySem.W.clsIn K C).isSome && PySem.W.typeIn K (.ref C) == some (.type "type")) = true := by
    rw [hc, ty]
    rfl
  unfold PySem.W.kitOne
  by_cases q : (t == Value.ref C) = true
  · rw [if_pos q]
  · rw [if_neg q]
    show (if ((PySem.W.clsIn K C).isSome && PySem.W.typeIn K (.ref C) == some (.type "type")) = true then PySem.W.subIn K t (.ref C) else none) = some true
    rw [if_pos e]
    exact s
/-- the table of is_number's code is empty at the law's call -/
def OwnT (K : PySem.W.Frag) (mg : Str → Option Value) (h : Heap) : Prop := ∀ (f c P : Addr) (o : Obj) (fd : FuncData) (e : Value) (dd : Option Addr) (vs : Array Value) (sl : Array (Option Value)),
  mg "is_number" = some (.ref f) → K.lookup f = some o → o.data = .func fd → fd.code = .ref c → K.lookup c = some ⟨e, dd, .fields vs, sl⟩ → vs[11]? = some (.ref P) → h.get? P = some { cls := .none, data := .fields #[] } ∧ PySem.W.CodeHd h c P
theorem walk_ofDef {l : PySem.W.OpenLaw} {n k : Nat} {q : Program} {loose : List Str} {XP : (Str → Option Value) → Heap → Prop} {YP : World → Heap → Prop} {d : DefRec} {K : Params → PySem.W.Frag} {CX : World → CXT} {x nm : Str}
    (hn : l.most = some n) (hn2 : n ≤ sizeLine) (hdf : d.params.defaults = []) (hr : Room k callerA) (hrec : ((recsOf q).any fun e => e.name == "is_number") = true) (hY : ∀ (w : World) (h : Heap), YP w h → (K w.params).In h)
    (F : ∀ (w : World) (mg : Str → Option Value) (fa : Addr) (h : Heap), YP w h → (K w.params).In h → h.Ns mainGlobals mg → mg d.name = some (.ref fa) → OwnT (K w.params) mg h → LamX.LawAtS l w (K w.params) (CX w) k n x mg fa h)
    (hCX : ∀ (w : World) (H : Hp) (s : Shared) (e : Value) (s' : Shared), CX w [] H s (fun _ _ _ => False) e s' → False) :
    PySem.W.WalkO q loose XP YP l.row.toRowW d [] (fun f vs => PySem.call f vs) := by
  refine Att.attach_callB hn hdf fun w s0 s1 mg mb fa o pm cd doc a vs ns G Y ho hd hcd hmg hobj hints hlen hbits hg => ?_
  have KX := hY w _ Y
  have own : OwnT (K w.params) mg s1.heap := fun f c P o1 fd1 e dd vs1 sl k0 k1 k2 k3 k4 k5 => by
    obtain ⟨r, hm, hnm⟩ := List.any_eq_true.mp hrec
    have hnm2 : r.name = "is_number" := beq_iff_eq.mp hnm
    obtain ⟨a2, o2, fd2, c2, P2, h1, h2, h3, h4, h5, h6⟩ := G.T.tab r hm
    rw [hnm2, k0] at h1
    cases h1
    have g1 := KX _ _ k1
    rw [g1] at h2
    cases h2
    rw [k2] at h3
    cases h3
    rw [k3] at h4
    cases h4
    have hc := PySem.W.CodeHd.of h5 h6
    obtain ⟨⟨oc, vc, b1, _, b3, b4⟩, hP⟩ := h6
    have g2 := KX _ _ k4
    rw [g2] at b1
    cases b1
    cases b3
    rw [k5] at b4
    cases b4
    exact ⟨hP, hc⟩
  obtain ⟨fd, cs, sp, hT, nT, C, hb, hsp, hF⟩ := F w mg fa _ Y KX G.T.g hmg own
  exact LamX.law_callTs KX G.T.g G.T.b G.T.builtins G.T.nolimit hg hT nT C G.T.bmain hobj hints (Nat.le_trans hlen hn2) hr hF hb (fun H hH hS => hsp H a ns hlen hbits hH hS) fun H e s' => hCX w H s1 e s'
theorem all_mk {l : PySem.W.OpenLaw} {w : World} {K : PySem.W.Frag} {h : Heap} {mg : Str → Option Value} {fa : Addr} (X : K.In h) (G : h.Ns mainGlobals mg) (hfa : mg "law" = some (.ref fa)) (own : OwnT K mg h)
    {fN : Addr} {od0 an0 : Option Addr} {sl0 : Array (Option Value)} {oc0 kV0 dc0 pm0  ct0 : Value}
    {fS : Addr} {od1 an1 : Option Addr} {sl1 : Array (Option Value)} {oc1 kV1 dc1 pm1 cd1 ct1 : Value}
    {fK : Addr} {od2 an2 : Option Addr} {sl2 : Array (Option Value)} {oc2 kV2 dc2 pm2 cd2 ct2 : Value}
    {fE : Addr} {od3 an3 : Option Addr} {sl3 : Array (Option Value)} {oc3 kV3 dc3 pm3 cd3 ct3 : Value}
    {fT : Addr} {od4 an4 : Option Addr} {sl4 : Array (Option Value)} {oc4 kV4 dc4 pm4 cd4 ct4 : Value}
    {fG : Addr} {od5 an5 : Option Addr} {sl5 : Array (Option Value)} {oc5 kV5 dc5 pm5 cd5 ct5 : Value}
    {fO : Addr} {od6 an6 : Option Addr} {sl6 : Array (Option Value)} {oc6 kV6 dc6 pm6 cd6 ct6 : Value}
    {fM : Addr} {od7 an7 : Option Addr} {sl7 : Array (Option Value)} {oc7 kV7 dc7 pm7 cd7 ct7 : Value}
    {fL : Addr} {od8 an8 : Option Addr} {sl8 : Array (Option Value)} {oc8 kV8 dc8 pm8 cd8 ct8 : Value}
    {fD : Addr} {od9 an9 : Option Addr} {sl9 : Array (Option Value)} {oc9 kV9 dc9 pm9 cd9 ct9 : Value}
    {fX : Addr} {od10 an10 : Option Addr} {sl10 : Array (Option Value)} {oc10 kV10 dc10 pm10 cd10 ct10 : Value}
    {fW : Addr} {od11 an11 : Option Addr} {sl11 : Array (Option Value)} {oc11 kV11 dc11 pm11 cd11 ct11 : Value}
    {fZ : Addr} {od12 an12 : Option Addr} {sl12 : Array (Option Value)} {oc12 kV12 dc12 pm12 cd12 ct12 : Value}
    {fA : Addr} {od13 an13 : Option Addr} {sl13 : Array (Option Value)} {oc13 kV13 dc13 pm13 cd13 ct13 : Value}
    {cP Tb : Addr} {pe : Value} {pd : Option Addr} {pvs : Array Value} {psl : Array (Option Value)}
    {fI : Addr} {odI anI : Option Addr} {slI : Array (Option Value)} {ocI kVI dcI pmI cdI ctI : Value}
    {CC CT CB CN : Addr}
    {nmCB qCB : Str} {NCB : Addr} {bsCB : List Value} {snCB : List Str} {subCB : List Value} {abCB : Bool} {colCB : Option Bool} {ddCB : Option Addr} {m0CB m1CB m2CB m3CB m5CB : Option Value}
    {nmCN qCN : Str} {NCN : Addr} {bsCN : List Value} {snCN : List Str} {subCN : List Value} {abCN : Bool} {colCN : Option Bool} {ddCN : Option Addr} {m0CN m1CN m2CN m3CN m5CN : Option Value}
    {t1 t2 t3 t4 t5 : Tok} {aL aK : Addr}
    {u0 u1 u2 u3 v0 v1 v2 v3 v4 v5 v6 v7 v8 v9 v10 : Tok} {ddL ddK : Option Addr} {nL nK : Nat} {slL slK : Array (Option Value)}
    (a0 : PySem.W.nsIn K mainGlobals "is_number" = some (some (.ref fN)))
    (l0 : K.lookup fN = some ⟨oc0, od0, .func (PySem.W.fnOf "is_number" "is_number" (defArgs sIsNum) (defBody sIsNum) (defScope sIsNum) .none kV0 dc0 pm0 an0 (.ref cP) ct0), sl0⟩)
    (c0 : PySem.W.codeIn K (.ref cP) "is_number" = true)
    (k0 : PySem.W.keepIn K (.ref fN) = true)
    (a1 : PySem.W.nsIn K mainGlobals "is_short_number" = some (some (.ref fS)))
    (l1 : K.lookup fS = some ⟨oc1, od1, .func (PySem.W.fnOf "is_short_number" "is_short_number" (defArgs sIsShort) (defBody sIsShort) (defScope sIsShort) .none kV1 dc1 pm1 an1 cd1 ct1), sl1⟩)
    (c1 : PySem.W.codeIn K cd1 "is_short_number" = true)
    (k1 : PySem.W.keepIn K (.ref fS) = true)
    (a2 : PySem.W.nsIn K mainGlobals "tokens" = some (some (.ref fK)))
    (l2 : K.lookup fK = some ⟨oc2, od2, .func (PySem.W.fnOf "tokens" "tokens" (defArgs sTokens) (defBody sTokens) (defScope sTokens) .none kV2 dc2 pm2 an2 cd2 ct2), sl2⟩)
    (c2 : PySem.W.codeIn K cd2 "tokens" = true)
    (k2 : PySem.W.keepIn K (.ref fK) = true)
    (a3 : PySem.W.nsIn K mainGlobals "end_of_line" = some (some (.ref fE)))
    (l3 : K.lookup fE = some ⟨oc3, od3, .func (PySem.W.fnOf "end_of_line" "end_of_line" (defArgs sEol) (defBody sEol) (defScope sEol) .none kV3 dc3 pm3 an3 cd3 ct3), sl3⟩)
    (c3 : PySem.W.codeIn K cd3 "end_of_line" = true)
    (k3 : PySem.W.keepIn K (.ref fE) = true)
    (a4 : PySem.W.nsIn K mainGlobals "end_of_token" = some (some (.ref fT)))
    (l4 : K.lookup fT = some ⟨oc4, od4, .func (PySem.W.fnOf "end_of_token" "end_of_token" (defArgs sEot) (defBody sEot) (defScope sEot) .none kV4 dc4 pm4 an4 cd4 ct4), sl4⟩)
    (c4 : PySem.W.codeIn K cd4 "end_of_token" = true)
    (k4 : PySem.W.keepIn K (.ref fT) = true)
    (a5 : PySem.W.nsIn K mainGlobals "goes_on" = some (some (.ref fG)))
    (l5 : K.lookup fG = some ⟨oc5, od5, .func (PySem.W.fnOf "goes_on" "goes_on" (defArgs sGoes) (defBody sGoes) (defScope sGoes) .none kV5 dc5 pm5 an5 cd5 ct5), sl5⟩)
    (c5 : PySem.W.codeIn K cd5 "goes_on" = true)
    (k5 : PySem.W.keepIn K (.ref fG) = true)
    (a6 : PySem.W.nsIn K mainGlobals "token_of" = some (some (.ref fO)))
    (l6 : K.lookup fO = some ⟨oc6, od6, .func (PySem.W.fnOf "token_of" "token_of" (defArgs sTokOf) (defBody sTokOf) (defScope sTokOf) .none kV6 dc6 pm6 an6 cd6 ct6), sl6⟩)
    (c6 : PySem.W.codeIn K cd6 "token_of" = true)
    (k6 : PySem.W.keepIn K (.ref fO) = true)
    (a7 : PySem.W.nsIn K mainGlobals "number_token" = some (some (.ref fM)))
    (l7 : K.lookup fM = some ⟨oc7, od7, .func (PySem.W.fnOf "number_token" "number_token" (defArgs sNumTok) (defBody sNumTok) (defScope sNumTok) .none kV7 dc7 pm7 an7 cd7 ct7), sl7⟩)
    (c7 : PySem.W.codeIn K cd7 "number_token" = true)
    (k7 : PySem.W.keepIn K (.ref fM) = true)
    (a8 : PySem.W.nsIn K mainGlobals "small_number" = some (some (.ref fL)))
    (l8 : K.lookup fL = some ⟨oc8, od8, .func (PySem.W.fnOf "small_number" "small_number" (defArgs sSmall) (defBody sSmall) (defScope sSmall) .none kV8 dc8 pm8 an8 cd8 ct8), sl8⟩)
    (c8 : PySem.W.codeIn K cd8 "small_number" = true)
    (k8 : PySem.W.keepIn K (.ref fL) = true)
    (a9 : PySem.W.nsIn K mainGlobals "_law_draws" = some (some (.ref fD)))
    (l9 : K.lookup fD = some ⟨oc9, od9, .func (PySem.W.fnOf "_law_draws" "_law_draws" (defArgs sDraws) (defBody sDraws) (defScope sDraws) .none kV9 dc9 pm9 an9 cd9 ct9), sl9⟩)
    (c9 : PySem.W.codeIn K cd9 "_law_draws" = true)
    (k9 : PySem.W.keepIn K (.ref fD) = true)
    (a10 : PySem.W.nsIn K mainGlobals "_law_next" = some (some (.ref fX)))
    (l10 : K.lookup fX = some ⟨oc10, od10, .func (PySem.W.fnOf "_law_next" "_law_next" (defArgs sNext) (defBody sNext) (defScope sNext) .none kV10 dc10 pm10 an10 cd10 ct10), sl10⟩)
    (c10 : PySem.W.codeIn K cd10 "_law_next" = true)
    (k10 : PySem.W.keepIn K (.ref fX) = true)
    (a11 : PySem.W.nsIn K mainGlobals "_law_word" = some (some (.ref fW)))
    (l11 : K.lookup fW = some ⟨oc11, od11, .func (PySem.W.fnOf "_law_word" "_law_word" (defArgs sWord) (defBody sWord) (defScope sWord) .none kV11 dc11 pm11 an11 cd11 ct11), sl11⟩)
    (c11 : PySem.W.codeIn K cd11 "_law_word" = true)
    (k11 : PySem.W.keepIn K (.ref fW) = true)
    (a12 : PySem.W.nsIn K mainGlobals "_law_text" = some (some (.ref fZ)))
    (l12 : K.lookup fZ = some ⟨oc12, od12, .func (PySem.W.fnOf "_law_text" "_law_text" (defArgs sText) (defBody sText) (defScope sText) .none kV12 dc12 pm12 an12 cd12 ct12), sl12⟩)
    (c12 : PySem.W.codeIn K cd12 "_law_text" = true)
    (k12 : PySem.W.keepIn K (.ref fZ) = true)
    (a13 : PySem.W.nsIn K mainGlobals "law" = some (some (.ref fA)))
    (l13 : K.lookup fA = some ⟨oc13, od13, .func (PySem.W.fnOf "law" "law" (defArgs sLaw) (defBody sLaw) (defScope sLaw) .none kV13 dc13 pm13 an13 cd13 ct13), sl13⟩)
    (c13 : PySem.W.codeIn K cd13 "law" = true)
    (k13 : PySem.W.keepIn K (.ref fA) = true)
    (lc : K.lookup cP = some ⟨pe, pd, .fields pvs, psl⟩)
    (lp : pvs[11]? = some (.ref Tb))
    (ln : K.lookup Tb = none)
    (gCC : PySem.W.nsIn K mainGlobals "CutError" = some (some (.ref CC)))
    (gCT : PySem.W.nsIn K mainGlobals "TextError" = some (some (.ref CT)))
    (gCB : PySem.W.nsIn K mainGlobals "BadCharacter" = some (some (.ref CB)))
    (gCN : PySem.W.nsIn K mainGlobals "BadNumber" = some (some (.ref CN)))
    (iCB : PySem.W.findIn K (.ref CB) "__init__" = some (some (.ref fI)))
    (iCN : PySem.W.findIn K (.ref CN) "__init__" = some (some (.ref fI)))
    (tI : PySem.W.typeIn K (.ref fI) = some (.type "function"))
    (lI : K.lookup fI = some ⟨ocI, odI, .func (PySem.W.fnOf "__init__" "TextError.__init__" (defArgs sInit) (defBody sInit) (defScope sInit) .none kVI dcI pmI anI cdI ctI), slI⟩)
    (cI : PySem.W.codeIn K cdI "TextError.__init__" = true)
    (kI : PySem.W.keepIn K (.ref fI) = true)
    (xCB : K.lookup CB = some (excClassObj nmCB qCB CB NCB bsCB [.ref CT, .ref CC, .type "ValueError", .type "Exception", .type "BaseException", .type "object"] true snCB subCB abCB colCB ddCB m0CB m1CB m2CB m3CB m5CB "ValueError.__new__"))
    (saCB : PySem.W.findIn K (.ref CB) "__setattr__" = some (some (.builtin "object.__setattr__")))
    (gaCB : PySem.W.findIn K (.ref CB) "__getattribute__" = some (some (.builtin "BaseException.__getattribute__")))
    (ggCB : PySem.W.findIn K (.ref CB) "__getattr__" = some none)
    (exCB : PySem.W.subIn K (.ref CB) (.type "BaseException") = some true)
    (tyCB : PySem.W.typeIn K (.ref CB) = some (.type "type"))
    (kpCB : PySem.W.keepIn K (.ref CB) = true)
    (hdCB : PySem.W.hasDictIn K CB = true)
    (clCB : PySem.W.findIn K (.ref CB) "__class__" = some (some (.builtin "object.__class__")))
    (moCB : PySem.W.mroIn K CB (.type "object") = some true)
    (nRCB : PySem.W.findIn K (.ref CB) "row" = some none)
    (nCCB : PySem.W.findIn K (.ref CB) "column" = some none)
    (xCN : K.lookup CN = some (excClassObj nmCN qCN CN NCN bsCN [.ref CT, .ref CC, .type "ValueError", .type "Exception", .type "BaseException", .type "object"] true snCN subCN abCN colCN ddCN m0CN m1CN m2CN m3CN m5CN "ValueError.__new__"))
    (saCN : PySem.W.findIn K (.ref CN) "__setattr__" = some (some (.builtin "object.__setattr__")))
    (gaCN : PySem.W.findIn K (.ref CN) "__getattribute__" = some (some (.builtin "BaseException.__getattribute__")))
    (ggCN : PySem.W.findIn K (.ref CN) "__getattr__" = some none)
    (exCN : PySem.W.subIn K (.ref CN) (.type "BaseException") = some true)
    (tyCN : PySem.W.typeIn K (.ref CN) = some (.type "type"))
    (kpCN : PySem.W.keepIn K (.ref CN) = true)
    (hdCN : PySem.W.hasDictIn K CN = true)
    (clCN : PySem.W.findIn K (.ref CN) "__class__" = some (some (.builtin "object.__class__")))
    (moCN : PySem.W.mroIn K CN (.type "object") = some true)
    (nRCN : PySem.W.findIn K (.ref CN) "row" = some none)
    (nCCN : PySem.W.findIn K (.ref CN) "column" = some none)
    (sg : PySem.W.specialIn K (.builtin "object.__class__") "__get__" = some (some (.builtin "getset_descriptor.__get__")))
    (tk : PySem.W.takesIn K (.builtin "object.__class__") = some true)
    (sp : PySem.W.specialIn K (.ref CC) "__getattribute__" = some (some (.builtin "type.__getattribute__")))
    (rd : PySem.W.readsIn K CC (.type "type") = true)
    (fc : PySem.W.findCls K (.ref CC) (.type "type") "__init__" = some (.val (.builtin "ValueError.__init__")))
    (sCBCB : PySem.W.subIn K (.ref CB) (.ref CB) = some true)
    (sCNCB : PySem.W.subIn K (.ref CN) (.ref CB) = some false)
    (sCNCN : PySem.W.subIn K (.ref CN) (.ref CN) = some true)
    (qCBCT : PySem.W.subIn K (.ref CB) (.ref CT) = some true)
    (qCBCC : PySem.W.subIn K (.ref CB) (.ref CC) = some true)
    (qCNCT : PySem.W.subIn K (.ref CN) (.ref CT) = some true)
    (hdCT : PySem.W.hasDictIn K CT = true)
    (tyCT : PySem.W.typeIn K (.ref CT) = some (.type "type"))
    (hdCC : PySem.W.hasDictIn K CC = true)
    (tyCC : PySem.W.typeIn K (.ref CC) = some (.type "type"))
    (tLe : PySem.W.nsIn K mainGlobals "LETTERS" = some (some (.str lettersS t1)))
    (tDi : PySem.W.nsIn K mainGlobals "DIGITS" = some (some (.str digitsS t2)))
    (tSh : PySem.W.nsIn K mainGlobals "SHORT_SIGNS" = some (some (.str shortS t3)))
    (tMo : PySem.W.nsIn K mainGlobals "MOST_WIDTH" = some (some (.int 32 t4)))
    (tWo : PySem.W.nsIn K mainGlobals "WORD_LIMIT" = some (some (.int 4294967296 t5)))
    (tLo : PySem.W.nsIn K mainGlobals "LONG_SIGNS" = some (some (.ref aL)))
    (tKw : PySem.W.nsIn K mainGlobals "KEYWORDS" = some (some (.ref aK)))
    (oL : K.lookup aL = some ⟨.type "tuple", ddL, .seq #[.str ":=" u0, .str "<<" u1, .str ">>" u2, .str "==" u3] nL, slL⟩)
    (oK : K.lookup aK = some ⟨.type "tuple", ddK, .seq #[.str "machine" v0, .str "reg" v1, .str "file" v2, .str "rom" v3, .str "at" v4, .str "let" v5, .str "guess" v6, .str "when" v7, .str "wide" v8, .str "part" v9, .str "join" v10] nK, slK⟩)
    (z_len : PySem.W.nsIn K mainGlobals "len" = some none)
    (z_all : PySem.W.nsIn K mainGlobals "all" = some none)
    (z_int : PySem.W.nsIn K mainGlobals "int" = some none)
    (z_range : PySem.W.nsIn K mainGlobals "range" = some none)
    (z_abs : PySem.W.nsIn K mainGlobals "abs" = some none)
    (z_str : PySem.W.nsIn K mainGlobals "str" = some none)
    (z_isinstance : PySem.W.nsIn K mainGlobals "isinstance" = some none)
    (z_list : PySem.W.nsIn K mainGlobals "list" = some none) :
    LamX.LawAtS l w K CX0 7 63 "script" mg fa h := by
  have M := fun {x : Str} {v : Value} (e : PySem.W.nsIn K mainGlobals x = some (some v)) => PySem.W.mg_of X G e
  have Z := fun {x : Str} (e : PySem.W.nsIn K mainGlobals x = some none) => PySem.W.mg_none_of X G e
  have e := hfa.symm.trans (M a13)
  cases e
  have F0 := fun_mk (st := sIsNum) l0 c0 k0
  have B0 := F0.binds (ps := ["text"]) fun _ _ _ _ _ _ us hl => match us, hl with | [_], _ => rfl
  have F1 := fun_mk (st := sIsShort) l1 c1 k1
  have B1 := F1.binds (ps := ["text"]) fun _ _ _ _ _ _ us hl => match us, hl with | [_], _ => rfl
  have F2 := fun_mk (st := sTokens) l2 c2 k2
  have B2 := F2.binds (ps := ["text"]) fun _ _ _ _ _ _ us hl => match us, hl with | [_], _ => rfl
  have F3 := fun_mk (st := sEol) l3 c3 k3
  have B3 := F3.binds (ps := ["text", "at"]) fun _ _ _ _ _ _ us hl => match us, hl with | [_, _], _ => rfl
  have F4 := fun_mk (st := sEot) l4 c4 k4
  have B4 := F4.binds (ps := ["text", "at", "row", "column"]) fun _ _ _ _ _ _ us hl => match us, hl with | [_, _, _, _], _ => rfl
  have F5 := fun_mk (st := sGoes) l5 c5 k5
  have B5 := F5.binds (ps := ["sign"]) fun _ _ _ _ _ _ us hl => match us, hl with | [_], _ => rfl
  have F6 := fun_mk (st := sTokOf) l6 c6 k6
  have B6 := F6.binds (ps := ["text", "row", "column"]) fun _ _ _ _ _ _ us hl => match us, hl with | [_, _, _], _ => rfl
  have F7 := fun_mk (st := sNumTok) l7 c7 k7
  have B7 := F7.binds (ps := ["text", "row", "column"]) fun _ _ _ _ _ _ us hl => match us, hl with | [_, _, _], _ => rfl
  have F8 := fun_mk (st := sSmall) l8 c8 k8
  have B8 := F8.binds (ps := ["digits"]) fun _ _ _ _ _ _ us hl => match us, hl with | [_], _ => rfl
  have F9 := fun_mk (st := sDraws) l9 c9 k9
  have B9 := F9.binds (ps := ["script", "many"]) fun _ _ _ _ _ _ us hl => match us, hl with | [_, _], _ => rfl
  have F10 := fun_mk (st := sNext) l10 c10 k10
  have B10 := F10.binds (ps := ["w", "many"]) fun _ _ _ _ _ _ us hl => match us, hl with | [_, _], _ => rfl
  have F11 := fun_mk (st := sWord) l11 c11 k11
  have B11 := F11.binds (ps := ["w"]) fun _ _ _ _ _ _ us hl => match us, hl with | [_], _ => rfl
  have F12 := fun_mk (st := sText) l12 c12 k12
  have B12 := F12.binds (ps := ["w"]) fun _ _ _ _ _ _ us hl => match us, hl with | [_], _ => rfl
  have F13 := fun_mk (st := sLaw) l13 c13 k13
  have B13 := F13.binds (ps := ["script"]) fun _ _ _ _ _ _ us hl => match us, hl with | [_], _ => rfl
  have FI := fun_mk (st := sInit) lI cI kI
  have BI := FI.binds (ps := ["self", "row", "column"]) fun _ _ _ _ _ _ us hl => match us, hl with | [_, _, _], _ => rfl
  have OB : OexC K CB := ⟨⟨_, _, _, _, _, _, _, _, _, _, _, _, _, _, _, xCB, by show PySem.HandSPX.refsVE [.type "ValueError", .type "Exception", .type "BaseException", .type "object"] = true; decide +kernel⟩, saCB, exCB, tyCB, kpCB⟩
  have ON : OexC K CN := ⟨⟨_, _, _, _, _, _, _, _, _, _, _, _, _, _, _, xCN, by show PySem.HandSPX.refsVE [.type "ValueError", .type "Exception", .type "BaseException", .type "object"] = true; decide +kernel⟩, saCN, exCN, tyCN, kpCN⟩
  have RB : ErrC K mg "BadCharacter" CB fI := ⟨OB, iCB, nRCB, nCCB, M gCB⟩
  have RN : ErrC K mg "BadNumber" CN fI := ⟨ON, iCN, nRCN, nCCN, M gCN⟩
  have LB : ErrL K mg "BadCharacter" CB := ⟨M gCB, ⟨gaCB, ggCB, exCB, hdCB⟩, ⟨gaCB, ggCB, exCB, hdCB, clCB, sg, tk, moCB⟩, nRCB, nCCB⟩
  have LN : ErrL K mg "BadNumber" CN := ⟨M gCN, ⟨gaCN, ggCN, exCN, hdCN⟩, ⟨gaCN, ggCN, exCN, hdCN, clCN, sg, tk, moCN⟩, nRCN, nCCN⟩
  have line : ∀ n : Nat, n ≤ 100 → n ≤ sizeLine := fun n h => by
    rw [sizeLine_eq]
    omega
  have GL : Gls K mg aL aK := ⟨⟨_, M tLe⟩, ⟨_, M tDi⟩, ⟨_, M tSh⟩, M tLo, M tKw, fun H => .inr ⟨_, _, _, oL, rfl, rfl, line 4 (by decide), .cons ⟨_, rfl⟩ (.cons ⟨_, rfl⟩ (.cons ⟨_, rfl⟩ (.cons ⟨_, rfl⟩ .nil)))⟩,
    fun H => .inr ⟨_, _, _, oK, rfl, rfl, line 11 (by decide), .cons ⟨_, rfl⟩ (.cons ⟨_, rfl⟩ (.cons ⟨_, rfl⟩ (.cons ⟨_, rfl⟩ (.cons ⟨_, rfl⟩ (.cons ⟨_, rfl⟩ (.cons ⟨_, rfl⟩ (.cons ⟨_, rfl⟩ (.cons ⟨_, rfl⟩ (.cons ⟨_, rfl⟩ (.cons ⟨_, rfl⟩ .nil))))))))))⟩, Z z_len⟩
  have BL : Bl mg := ⟨Z z_len, Z z_range, Z z_abs, Z z_int, Z z_str⟩
  obtain ⟨hP, hC⟩ := own _ _ _ _ _ _ _ _ _ (M a0) l0 rfl rfl lc lp
  refine ⟨PySem.W.fnOf "law" "law" (defArgs sLaw) (defBody sLaw) (defScope sLaw) .none kV13 dc13 pm13 an13 cd13 ct13, [(cP, Tb)], spLaw K Tb, fun p hp => ?_, fun p hp => ?_, fun p hp => ?_, fun s u => .of_eq rfl, fun H a ns hl _ hH hS => ⟨a, ns, rfl, hS, hl, ⟨#[], hH _ (List.mem_singleton.mpr rfl), trivial⟩, fun _ => rfl⟩, fun base _ _ TB => ?_⟩
  · rw [List.mem_singleton.mp hp]
    exact hP
  · rw [List.mem_singleton.mp hp]
    exact ln
  · rw [List.mem_singleton.mp hp]
    exact hC
  · have tb0 := TB _ (List.mem_singleton.mpr rfl)
    have tb : TabB base mg cP Tb := ⟨tb0.code, tb0.bm, tb0.gP⟩
    have G0 := ok_isnum (P := l.prog) (w := w) (fd := PySem.W.fnOf "is_number" "is_number" (defArgs sIsNum) (defBody sIsNum) (defScope sIsNum) .none kV0 dc0 pm0 an0 (.ref cP) ct0) l0 c0 (M tDi) (Z z_all) tb
    have G1 := ok_short F1 G0 k0 B0 (M a0) (Z z_len)
    have G8 := ok_small F8 G1 k1 B1 (M a1) (Z z_int) (M tWo)
    have GI : FnOk l.prog w K mg base CX0 1 fI _ ["self", "row", "column"] (spInit K) := ok_init FI (M gCC) sp rd fc
    have G7 := ok_numtok F7 G8 k8 B8 (M a8) (M tMo) RN tI GI BI
    have G5 : FnOk l.prog w K mg base CX0 1 fG _ ["sign"] spGoes := ok_goes F5 (M tLe) (M tDi)
    have G4 := ok_eot (T := Tb) F4 GL G5 k5 B5 (M a5) RB tI GI BI
    have G6 := ok_tokof F6 GL G7 k7 B7 (M a7)
    have G3 : FnOk l.prog w K mg base CX0 1 fE _ ["text", "at"] spEol := ok_eol F3 (Z z_len)
    have G2 := ok_tokens F2 GL G3 k3 B3 (M a3) G4 k4 B4 (M a4) G6 k6 B6 (M a6)
    have G9 : FnOk l.prog w K mg base CX0 1 fD _ ["script", "many"] (spDraws K) := ok_draws F9 BL
    have G10 : FnOk l.prog w K mg base CX0 1 fX _ ["w", "many"] spNext := ok_next F10 BL
    have G11 := ok_word F11 G10 k10 B10 (M a10) BL
    have G12 := ok_text F12 G10 k10 B10 (M a10) G11 k11 B11 (M a11) BL
    exact ok_law F13 G9 k9 B9 (M a9) G12 k12 B12 (M a12) G2 k2 B2 (M a2) LB LN (M gCT) (M gCC) (Z z_isinstance) (Z z_list)
      (PySem.W.exm_ref exCB hdCB tyCB sCBCB) (PySem.W.exm_ref exCB hdCB tyCB sCNCB) (PySem.W.exm_ref exCN hdCN tyCN sCNCN) (kit_ref hdCT tyCT qCBCT) (kit_ref hdCC tyCC qCBCC) (kit_ref hdCT tyCT qCNCT)
end K0
open PySem PySem.W PyProof.Rows
set_option maxRecDepth 100000 in
set_option maxHeartbeats 0 in
theorem PySem.Challenge.cw_stagecut_k00_tokens_of_a_text_holds : PySem.Challenge.rw_stagecut_k00_tokens_of_a_text.Holds := by
  w_on; o_law; k_head; (case hw => w_witness2)
  k_fill
  refine K0.walk_ofDef (l := PySem.Challenge.rw_stagecut_k00_tokens_of_a_text) (n := 63) (k := 7) (x := "script") (nm := "is_number") (CX := fun _ => L2.CX0) rfl (by decide) rfl ⟨rfl, by decide, by decide⟩ (by decide +kernel) (fun w h Y => PySem.W.kIn_of Y) ?F (fun _ _ _ _ _ h => h)
  case F =>
    intro w mg fa h Y KX G hmg own
    refine' K0.all_mk KX G hmg own ?a0 ?l0 ?c0 ?k0 ?a1 ?l1 ?c1 ?k1 ?a2 ?l2 ?c2 ?k2 ?a3 ?l3 ?c3 ?k3 ?a4 ?l4 ?c4 ?k4 ?a5 ?l5 ?c5 ?k5 ?a6 ?l6 ?c6 ?k6 ?a7 ?l7 ?c7 ?k7 ?a8 ?l8 ?c8 ?k8 ?a9 ?l9 ?c9 ?k9 ?a10 ?l10 ?c10 ?k10 ?a11 ?l11 ?c11 ?k11 ?a12 ?l12 ?c12 ?k12 ?a13 ?l13 ?c13 ?k13 ?lc ?lp ?ln ?gCC ?gCT ?gCB ?gCN ?iCB ?iCN ?tI ?lI ?cI ?kI ?xCB ?saCB ?gaCB ?ggCB ?exCB ?tyCB ?kpCB ?hdCB ?clCB ?moCB ?nRCB ?nCCB ?xCN ?saCN ?gaCN ?ggCN ?exCN ?tyCN ?kpCN ?hdCN ?clCN ?moCN ?nRCN ?nCCN ?sg ?tk ?sp ?rd ?fc ?sCBCB ?sCNCB ?sCNCN ?qCBCT ?qCBCC ?qCNCT ?hdCT ?tyCT ?hdCC ?tyCC ?tLe ?tDi ?tSh ?tMo ?tWo ?tLo ?tKw ?oL ?oK ?z_len ?z_all ?z_int ?z_range ?z_abs ?z_str ?z_isinstance ?z_list
    (case a0 => k_is)
    (case l0 => k_is)
    (case c0 => k_is)
    (case k0 => k_is)
    (case a1 => k_is)
    (case l1 => k_is)
    (case c1 => k_is)
    (case k1 => k_is)
    (case a2 => k_is)
    (case l2 => k_is)
    (case c2 => k_is)
    (case k2 => k_is)
    (case a3 => k_is)
    (case l3 => k_is)
    (case c3 => k_is)
    (case k3 => k_is)
    (case a4 => k_is)
    (case l4 => k_is)
    (case c4 => k_is)
    (case k4 => k_is)
    (case a5 => k_is)
    (case l5 => k_is)
    (case c5 => k_is)
    (case k5 => k_is)
    (case a6 => k_is)
    (case l6 => k_is)
    (case c6 => k_is)
    (case k6 => k_is)
    (case a7 => k_is)
    (case l7 => k_is)
    (case c7 => k_is)
    (case k7 => k_is)
    (case a8 => k_is)
    (case l8 => k_is)
    (case c8 => k_is)
    (case k8 => k_is)
    (case a9 => k_is)
    (case l9 => k_is)
    (case c9 => k_is)
    (case k9 => k_is)
    (case a10 => k_is)
    (case l10 => k_is)
    (case c10 => k_is)
    (case k10 => k_is)
    (case a11 => k_is)
    (case l11 => k_is)
    (case c11 => k_is)
    (case k11 => k_is)
    (case a12 => k_is)
    (case l12 => k_is)
    (case c12 => k_is)
    (case k12 => k_is)
    (case a13 => k_is)
    (case l13 => k_is)
    (case c13 => k_is)
    (case k13 => k_is)
    (case lc => k_is)
    (case lp => rfl)
    (case ln => first | kernel_rfl | with_unfolding_all rfl | rfl)
    (case gCC => k_is)
    (case gCT => k_is)
    (case gCB => k_is)
    (case gCN => k_is)
    (case iCB => k_is)
    (case iCN => k_is)
    (case tI => k_is)
    (case lI => k_is)
    (case cI => k_is)
    (case kI => k_is)
    (case xCB => k_is)
    (case saCB => k_is)
    (case gaCB => k_is)
    (case ggCB => k_is)
    (case exCB => k_is)
    (case tyCB => k_is)
    (case kpCB => k_is)
    (case hdCB => k_is)
    (case clCB => k_is)
    (case moCB => k_is)
    (case nRCB => k_is)
    (case nCCB => k_is)
    (case xCN => k_is)
    (case saCN => k_is)
    (case gaCN => k_is)
    (case ggCN => k_is)
    (case exCN => k_is)
    (case tyCN => k_is)
    (case kpCN => k_is)
    (case hdCN => k_is)
    (case clCN => k_is)
    (case moCN => k_is)
    (case nRCN => k_is)
    (case nCCN => k_is)
    (case sg => k_is)
    (case tk => k_is)
    (case sp => k_is)
    (case rd => k_is)
    (case fc => k_is)
    (case sCBCB => k_is)
    (case sCNCB => k_is)
    (case sCNCN => k_is)
    (case qCBCT => k_is)
    (case qCBCC => k_is)
    (case qCNCT => k_is)
    (case hdCT => k_is)
    (case tyCT => k_is)
    (case hdCC => k_is)
    (case tyCC => k_is)
    (case tLe => k_is)
    (case tDi => k_is)
    (case tSh => k_is)
    (case tMo => k_is)
    (case tWo => k_is)
    (case tLo => k_is)
    (case tKw => k_is)
    (case oL => k_is)
    (case oK => k_is)
    (case z_len => k_is)
    (case z_all => k_is)
    (case z_int => k_is)
    (case z_range => k_is)
    (case z_abs => k_is)
    (case z_str => k_is)
    (case z_isinstance => k_is)
    (case z_list => k_is)
