import PyProof.Rows.All
import Wide.All
import OpenK.AllK
import Wide.FinOn
import HandS.ForMost
import HandS.Wide
import HandS.IsInst
import HandS.ExcInit
import HandS.Flow
import HandS.Codes
import KE.KExcIs
import KE.KExcInit
import HandS.ExcValue
import PyProof.ExcBaseAll.OverflowError
import PyProof.ExcBaseAll.ArithmeticError
import PyProof.ExcBaseAll.RuntimeError
import PyProof.ExcBaseAll.IndexError
import PyProof.ExcBaseAll.LookupError
import PyProof.ReprRoads
import PySem.Challenge.RW_watchkinds_k00_errors_and_what_they_keep
set_option Elab.async false
set_option linter.all false
set_option maxRecDepth 100000
set_option maxHeartbeats 4000000
/-! The dice of a law: where they stand, what a roll leaves of them. -/
namespace WK
open PySem L2 PyProof.Rows
def top (i : Nat) : Stmt := PySem.Challenge.pw_watchkinds_k00_errors_and_what_they_keep.main.body.getD i (.Pass ⟨0, 0, 0, 0⟩)
abbrev sDice : Stmt := top 13
abbrev sRoll : Stmt := top 14
abbrev sOne : Stmt := top 15
/-- a power of any two numbers of which the result is not too long -/
def CPowW (i j : Int) : Prop := 0 ≤ j ∧ (Builtin.Int.intBits i : Int) * j ≤ 2 ^ 27
theorem op_powW {X : Cx} : OpR X (binaryOp .Pow) (rI CPowW fun i j => .int (i ^ j.toNat)) := opI fun _ _ _ _ _ _ _ hc q => pow_int hc.1 hc.2 q
/-- the dice stand at p -/
def DiceAt (H : Hp) (p : Addr) : Prop := ∃ a b c : Int, H p = some (.lst [.int a, .int b, .int c]) ∧ 0 ≤ a ∧ 0 ≤ b ∧ 0 ≤ c
/-- all that was tracked stands, but for what is at p -/
def But (p : Addr) (H H' : Hp) : Prop := ∀ b o, H b = some o → b ≠ p → H' b = some o
theorem But.refl (p : Addr) (H : Hp) : But p H H := fun _ _ h _ => h
theorem But.trans {p : Addr} {H H1 H2 : Hp} (a : But p H H1) (b : But p H1 H2) : But p H H2 := fun c o h n => b c o (a c o h n) n
theorem But.ofSame {p : Addr} {H H' : Hp} (s : Same H H') : But p H H' := fun b o h _ => s b o h
theorem But.upd {p : Addr} {H : Hp} {o : HO} : But p H (upd H p o) := fun b u h n => by rw [upd_ne n]; exact h
/-- law's number of a cell -/
def big : Int := (10 ^ 60) ^ 10
theorem big_pos : 0 < big := by decide +kernel
def spDice (K : PySem.W.Frag) : Sp := fun vs H Q _ => ∃ (s : Addr) (ns : List Int) (k : Int), vs = [.ref s, .int k] ∧ SqL K H s (ns.map V.int) ∧ 0 ≤ k ∧
  ∀ (p : Addr) (H' : Hp), H p = none → Same H H' → DiceAt H' p → Q (.ref p) H'
def spRoll : Sp := fun vs H Q _ => ∃ (p : Addr) (n : Int), vs = [.ref p, .int n] ∧ DiceAt H p ∧ 0 < n ∧ n < 1073741824 ∧
  ∀ (r : Int) (H' : Hp), 0 ≤ r → r < n → DiceAt H' p → But p H H' → Q (.int r) H'
def spOne : Sp := fun vs H Q _ => ∃ (p q : Addr) (xs : List V), vs = [.ref p, .ref q] ∧ DiceAt H p ∧ q ≠ p ∧ H q = some (.lst xs) ∧ 0 < xs.length ∧ xs.length < 1000000 ∧
  ∀ (v : V) (H' : Hp), v ∈ xs → DiceAt H' p → But p H H' → Q v H'
structure TDice (mg : Str → Option Value) : Prop where
  len : mg "len" = none
  int : mg "int" = none
  abs : mg "abs" = none
section
variable {P : Program} {w : World} {K : PySem.W.Frag} {mg : Str → Option Value} {base : Heap}
theorem scD : FnScope ["_law_script", "_law_at", "_law_cell", "_law_great", "_law_left", "_law_mixed"] ["_law_script", "_law_at"] (defScope sDice) := ⟨rfl, rfl, rfl, by decide +kernel, rfl, by decide +kernel, by decide +kernel⟩
theorem ok_dice {f : Addr} {fd : FuncData} (F : Fun K "_law_dice" "_law_dice" sDice f fd) (T : TDice mg) : FnOk P w K mg base CX0 1 f fd ["_law_script", "_law_at"] (spDice K) := by
  refine F.ok scD (fun vs H Q E h => ?_) (fun cdv A outer s H vs Q E hr h => ?_)
  · obtain ⟨s, ns, k, rfl, _⟩ := h
    rfl
  · obtain ⟨s, ns, k, rfl, hS, hk, q⟩ := h
    refine ⟨_, pss_cons (ps_set (i := 2) scD.nd rfl (Or.inl rfl) (pe_op op_add (pe_op op_mul pe_int (pv 1)) pe_int))
      (C8.pss_cut (ps_if (pt_cmpR op_lt (pv 1) (pe_callB call_len_seq (by rfl) T.len PySem.boot_len (pa_cons (pv 0) pa_nil)) (nomark _))
        (pss_one (ps_set (i := 2) scD.nd rfl (Or.inl rfl) (pe_ix ix_list (pv 0) (pv 1) (fun _ _ => rfl)))) pss_nil)
      (pss_cons (ps_set (i := 3) scD.nd rfl (Or.inl rfl) (pe_op op_mod (pe_callTy call_int1 (by rfl) T.int (by decide +kernel) (pa_cons (pe_callB call_abs (by rfl) T.abs (by decide +kernel) (pa_cons (pv 2) pa_nil)) pa_nil)) (pe_op op_powW (pe_op op_pow pe_int pe_int) pe_int)))
      (pss_cons (ps_set (i := 4) scD.nd rfl (Or.inl rfl) (pe_op op_fdivW (pv 3) (pe_op op_pow pe_int pe_int)))
      (pss_cons (ps_set (i := 5) scD.nd rfl (Or.inl rfl) (pe_op op_add (pe_op op_add (pe_op op_add (pe_op op_mul (pe_op op_mod (pv 3) pe_int) pe_int) (pe_op op_mul pe_int (pv 1)))
          (pe_op op_mul pe_int (pe_callTy call_int1 (by rfl) T.int (by decide +kernel) (pa_cons (pe_cmpR op_lt (pv 2) pe_int (nomark _)) pa_nil)))) pe_int))
      (pss_one (ps_ret (pe_lst (pa_cons (pv 4) (pa_cons (pe_op op_mod (pv 5) pe_int) (pa_cons pe_int pa_nil)))))))))), ?_⟩
    refine ⟨_, rfl, _, _, rfl, rfl, .inl ⟨by decide, by decide⟩, _, _, rfl, rfl, ?_⟩
    -- behind the if: some cell
    refine ⟨fun σ H' => H' = H ∧ ∃ c : Int, σ = [some (.ref s), some (.int k), some (.int c), none, none, none], ?_, ?_⟩
    · refine ⟨_, rfl, _, rfl, s, _, rfl, .inl hS, _, _, rfl, rfl, _, rfl, ?_⟩
      refine ite2 (fun hc => ?_) (fun _ => ?_)
      · have hl : k < ((ns.map V.int).length : Int) := of_decide_eq_true hc
        rw [List.length_map] at hl
        have hj : k.toNat < ns.length := by omega
        have e1 : (ns.map V.int)[k.toNat]? = some (V.int ns[k.toNat]) := by
          rw [List.getElem?_map, List.getElem?_eq_getElem hj]
          rfl
        have e2 := atI_nat e1
        rw [Int.toNat_of_nonneg hk] at e2
        exact ⟨_, rfl, _, rfl, s, _, _, _, rfl, rfl, hS, e2, rfl, _, rfl⟩
      · exact ⟨rfl, _, rfl⟩
    · rintro σ H' ⟨rfl, c, rfl⟩
      refine ⟨_, rfl, _, rfl, .inl ⟨_, rfl, ?_⟩⟩
      refine ⟨_, _, rfl, rfl, ⟨by decide, by decide, by decide +kernel⟩, _, _, rfl, rfl, ⟨by decide, by decide +kernel⟩, _, _, rfl, rfl, big_pos, ?_⟩
      refine ⟨_, rfl, _, _, rfl, rfl, ⟨by decide, by decide, by decide +kernel⟩, _, _, rfl, rfl, wide_div (b := 64) (by decide +kernel) (by decide +kernel) (by decide) (by decide), ?_⟩
      refine ⟨_, rfl, _, _, rfl, rfl, (by show (0 : Int) < 2147483059; decide), _, _, rfl, rfl, .inr ⟨by decide, by decide⟩, _, rfl, _, _, rfl, rfl, .inl ⟨by decide, by decide⟩, _, _, rfl, rfl, ?_⟩
      refine ⟨_, rfl, _, _, rfl, rfl, .inr ⟨_, rfl, ?_⟩⟩
      refine ⟨_, _, rfl, rfl, .inl ⟨by decide, by decide⟩, _, _, rfl, rfl, _, _, rfl, rfl, ?_⟩
      refine ⟨_, rfl, _, rfl, _, _, rfl, rfl, (by show (0 : Int) < 2147483053; decide), (by show 3 ≤ sizeLine; decide), fun p hp => q p _ hp (fun b o e => by rw [upd_ne (ne_of_none e hp)]; exact e) ⟨_, _, _, upd_same, ?_, ?_, Int.le_refl 0⟩⟩
      · exact Int.ediv_nonneg (Int.emod_nonneg _ (Int.ne_of_gt big_pos)) (by decide)
      · exact Int.emod_nonneg _ (by decide)
/-- of a roll -/
theorem scR : FnScope ["_law_dice_here", "_law_total", "_law_number", "_law_drawn", "_law_one", "_law_two"] ["_law_dice_here", "_law_total"] (defScope sRoll) := ⟨rfl, rfl, rfl, by decide +kernel, rfl, by decide +kernel, by decide +kernel⟩
theorem ok_roll {f : Addr} {fd : FuncData} (F : Fun K "_law_roll" "_law_roll" sRoll f fd) (T : TDice mg) : FnOk P w K mg base CX0 1 f fd ["_law_dice_here", "_law_total"] spRoll := by
  refine F.ok scR (fun vs H Q E h => ?_) (fun cdv A outer s H vs Q E hr h => ?_)
  · obtain ⟨p, n, rfl, _⟩ := h
    rfl
  · obtain ⟨p, n, rfl, ⟨a, b, c, hD, ha, hb, hc⟩, hn, hn2, q⟩ := h
    refine ⟨_, pss_cons (ps_set (i := 2) scR.nd rfl (Or.inl rfl) (pe_callTy call_int1 (by rfl) T.int (by decide +kernel) (pa_cons (pv 1) pa_nil)))
      (pss_cons (ps_if (pt_cmpR op_gt (pe_ix ix_list (pv 0) pe_int (fun _ _ => rfl)) pe_int (nomark _))
        (pss_cons (ps_set (i := 3) scR.nd rfl (Or.inl rfl) (pe_op op_mod (pe_ix ix_list (pv 0) pe_int (fun _ _ => rfl)) (pv 2)))
        (pss_cons (ps_asg (pe_op op_fdiv (pe_ix ix_list (pv 0) pe_int (fun _ _ => rfl)) (pv 2)) (pg_sub (pv 0) pe_int set_list))
        (pss_one (ps_ret (pe_callTy call_int1 (by rfl) T.int (by decide +kernel) (pa_cons (pv 3) pa_nil)))))) pss_nil)
      (pss_cons (ps_asg (pe_op op_add (pe_ix ix_list (pv 0) pe_int (fun _ _ => rfl)) pe_int) (pg_sub (pv 0) pe_int set_list))
      (pss_cons (ps_set (i := 4) scR.nd rfl (Or.inl rfl) (pe_op op_mod (pe_op op_add (pe_ix ix_list (pv 0) pe_int (fun _ _ => rfl)) (pe_op op_mul pe_int (pe_ix ix_list (pv 0) pe_int (fun _ _ => rfl)))) pe_int))
      (pss_cons (ps_set (i := 5) scR.nd rfl (Or.inl rfl) (pe_op op_add (pe_op op_mul (pe_op op_mod (pe_op op_mul (pv 4) (pv 4)) pe_int) (pv 4)) (pe_op op_mul pe_int (pe_ix ix_list (pv 0) pe_int (fun _ _ => rfl)))))
      (pss_cons (ps_set (i := 5) scR.nd rfl (Or.inl rfl) (pe_op op_mod (pv 5) pe_int))
      (pss_one (ps_ret (pe_callTy call_int1 (by rfl) T.int (by decide +kernel) (pa_cons (pe_op op_mod (pe_op op_fdiv (pv 5) pe_int) (pv 2)) pa_nil))))))))), ?_⟩
    refine ⟨_, rfl, .inl ⟨_, rfl, ?_⟩⟩
    refine ⟨_, rfl, p, _, _, _, rfl, rfl, SqL.of hD, atI_nat (j := 0) rfl, _, _, rfl, rfl, _, rfl, ?_⟩
    refine ite2 (fun hc' => ?_) (fun hc' => ?_)
    · refine ⟨_, rfl, p, _, _, _, rfl, rfl, SqL.of hD, atI_nat (j := 0) rfl, _, rfl, _, _, rfl, rfl, hn, ?_⟩
      refine ⟨_, rfl, p, _, _, _, rfl, rfl, SqL.of hD, atI_nat (j := 0) rfl, _, rfl, _, _, rfl, rfl, ⟨hn, hn2⟩, ?_⟩
      refine ⟨_, rfl, p, _, _, 0, rfl, rfl, hD, rfl, ?_⟩
      refine ⟨_, rfl, .inl ⟨_, rfl, ?_⟩⟩
      exact q _ _ (Int.emod_nonneg _ (Int.ne_of_gt hn)) (Int.emod_lt_of_pos _ hn) ⟨_, _, _, upd_same, Int.ediv_nonneg ha (Int.le_of_lt hn), hb, hc⟩ But.upd
    · refine ⟨_, rfl, p, _, _, _, rfl, rfl, SqL.of hD, atI_nat (j := 2) rfl, _, _, rfl, rfl, _, rfl, p, _, _, 2, rfl, rfl, hD, rfl, ?_⟩
      have h2 : (upd H p (.lst [.int a, .int b, .int (c + 1)])) p = some (.lst [.int a, .int b, .int (c + 1)]) := upd_same
      refine ⟨_, rfl, p, _, _, _, rfl, rfl, SqL.of h2, atI_nat (j := 1) rfl, _, rfl, p, _, _, _, rfl, rfl, SqL.of h2, atI_nat (j := 2) rfl, _, _, rfl, rfl, .inl ⟨by decide, by decide⟩, _, _, rfl, rfl, _, _, rfl, rfl, (by show (0 : Int) < 2305843009213693951; decide), ?_⟩
      have one0 : ∀ x : Int, -(2 ^ 64) < x % 2305843009213693951 ∧ x % 2305843009213693951 < 2 ^ 64 := fun x => by
        have l := Int.emod_nonneg x (show (2305843009213693951 : Int) ≠ 0 by decide)
        have u := Int.emod_lt_of_pos x (show (0 : Int) < 2305843009213693951 by decide)
        exact ⟨by omega, by omega⟩
      refine ⟨_, rfl, _, rfl, _, _, rfl, rfl, .inl (one0 _), _, _, rfl, rfl, (by show (0 : Int) < 2305843009213693921; decide), _, rfl, _, _, rfl, rfl, .inr (one0 _), _, rfl, p, _, _, _, rfl, rfl, SqL.of h2, atI_nat (j := 2) rfl, _, _, rfl, rfl, .inl ⟨by decide, by decide⟩, _, _, rfl, rfl, ?_⟩
      refine ⟨_, rfl, _, _, rfl, rfl, (by show (0 : Int) < 2305843009213693907; decide), ?_⟩
      refine ⟨_, rfl, _, _, rfl, rfl, ⟨by decide, by decide⟩, _, rfl, _, _, rfl, rfl, hn, .inl ⟨_, rfl, ?_⟩⟩
      exact q _ _ (Int.emod_nonneg _ (Int.ne_of_gt hn)) (Int.emod_lt_of_pos _ hn) ⟨_, _, _, upd_same, ha, hb, by omega⟩ But.upd
theorem scO : FnScope ["_law_dice_here", "_law_items"] ["_law_dice_here", "_law_items"] (defScope sOne) := ⟨rfl, rfl, rfl, by decide +kernel, rfl, by decide +kernel, by decide +kernel⟩
theorem ok_one {f fR : Addr} {fd fdR : FuncData} (F : Fun K "_law_one_of" "_law_one_of" sOne f fd) (T : TDice mg) (gR : mg "_law_roll" = some (.ref fR)) (FR : Fun K "_law_roll" "_law_roll" sRoll fR fdR) (bR : Binds K fdR ["_law_dice_here", "_law_total"] []) :
    FnOk P w K mg base CX0 2 f fd ["_law_dice_here", "_law_items"] spOne := by
  have GR : FnOk P w K mg base CX0 1 fR fdR ["_law_dice_here", "_law_total"] spRoll := ok_roll FR T
  refine F.ok scO (fun vs H Q E h => ?_) (fun cdv A outer s H vs Q E hr h => ?_)
  · obtain ⟨p, n, _, rfl, _⟩ := h
    rfl
  · obtain ⟨p, a, xs, rfl, hD, hne, hx, h0, h1, q⟩ := h
    refine ⟨_, pss_one (ps_ret (pe_ix ix_list (pv 1) (pe_call GR hr rfl gR FR.kp bR .nil pass0 (pa_cons (pv 0) (pa_cons (pe_callB call_len_seq (by rfl) T.len PySem.boot_len (pa_cons (pv 1) pa_nil)) pa_nil))) (fun _ _ => rfl))), ?_⟩
    refine ⟨_, rfl, _, rfl, _, rfl, a, _, rfl, .inl (SqL.of hx), p, _, rfl, hD, by omega, by omega, fun r H' hr0 hr1 hD' hB => ?_⟩
    have hj : r.toNat < xs.length := by omega
    have e1 : xs[r.toNat]? = some xs[r.toNat] := List.getElem?_eq_getElem hj
    have e2 := atI_nat e1
    rw [Int.toNat_of_nonneg hr0] at e2
    exact ⟨a, _, _, _, rfl, rfl, SqL.of (hB _ _ hx hne), e2, q _ _ (List.getElem_mem hj) hD' hB⟩
end
end WK

set_option Elab.async false
set_option linter.all false
set_option maxRecDepth 100000
set_option maxHeartbeats 4000000
/-! Errors of own classes as values: made (with an __init__ of their own or without), a field of theirs read, asked for their kind. Over any built-in base. -/
namespace WE
open PySem L2 PyProof.Rows PySem.W
/-- what the written part says of a class of errors at C -/
def errB (K : Frag) (C : Addr) : Bool :=
  (clsIn K C).isSome && (findIn K (.ref C) "__getattribute__" == some (some (.builtin "BaseException.__getattribute__"))) && (findIn K (.ref C) "__getattr__" == some none)
    && (subIn K (.ref C) (.type "BaseException") == some true) && hasDictIn K C && (findIn K (.ref C) "__class__" == some (some (.builtin "object.__class__")))
    && (mroIn K C (.type "object") == some true) && keepIn K (.ref C) && (specialIn K (.builtin "object.__class__") "__get__" == some (some (.builtin "getset_descriptor.__get__")))
    && (takesIn K (.builtin "object.__class__") == some true)
structure ErrT (K : Frag) (C : Addr) : Prop where
  cl : (clsIn K C).isSome = true
  ga : findIn K (.ref C) "__getattribute__" = some (some (.builtin "BaseException.__getattribute__"))
  gg : findIn K (.ref C) "__getattr__" = some none
  sb : subIn K (.ref C) (.type "BaseException") = some true
  hd : hasDictIn K C = true
  ca : findIn K (.ref C) "__class__" = some (some (.builtin "object.__class__"))
  ob : mroIn K C (.type "object") = some true
  kp : keepIn K (.ref C) = true
  gs : specialIn K (.builtin "object.__class__") "__get__" = some (some (.builtin "getset_descriptor.__get__"))
  tk : takesIn K (.builtin "object.__class__") = some true
theorem ErrT.of {K : Frag} {C : Addr} (h : errB K C = true) : ErrT K C := by
  unfold errB at h
  simp only [Bool.and_eq_true, beq_iff_eq] at h
  obtain ⟨⟨⟨⟨⟨⟨⟨⟨⟨h1, h2⟩, h3⟩, h4⟩, h5⟩, h6⟩, h7⟩, h8⟩, h9⟩, h10⟩ := h
  exact ⟨h1, h2, h3, h4, h5, h6, h7, h8, h9, h10⟩
/-- with an __init__ of its own at f, over the built-in class with the chain bm, that stores the field nm -/
def errI (K : Frag) (C f : Addr) (bm : List Value) (newId : String) (nm : Str) : Bool :=
  excInitIn K C bm newId && excOver K C bm && (findIn K (.ref C) "__setattr__" == some (some (.builtin "object.__setattr__"))) && (findIn K (.ref C) "__init__" == some (some (.ref f)))
    && (typeIn K (.ref f) == some (.type "function")) && (takerIn K C nm == some none) && (findIn K (.ref C) nm == some none)
structure ErrI (K : Frag) (C f : Addr) (bm : List Value) (newId : String) (nm : Str) : Prop where
  im : excInitIn K C bm newId = true
  ov : excOver K C bm = true
  sa : findIn K (.ref C) "__setattr__" = some (some (.builtin "object.__setattr__"))
  fi : findIn K (.ref C) "__init__" = some (some (.ref f))
  tf : typeIn K (.ref f) = some (.type "function")
  tn : takerIn K C nm = some none
  no : findIn K (.ref C) nm = some none
theorem ErrI.of {K : Frag} {C f : Addr} {bm : List Value} {newId : String} {nm : Str} (h : errI K C f bm newId nm = true) : ErrI K C f bm newId nm := by
  unfold errI at h
  simp only [Bool.and_eq_true, beq_iff_eq] at h
  exact let ⟨⟨⟨⟨⟨⟨im, ov⟩, sa⟩, fi⟩, tf⟩, tn⟩, no⟩ := h; ⟨im, ov, sa, fi, tf, tn, no⟩
theorem ErrT.kit {K : Frag} {C x : Addr} {ox : Obj} {od : Option Obj} (T : ErrT K C) : KitX K (.ref x) (.ref C) (fun h => InstAt h x ox C od) :=
  kitx_exc T.cl T.ga T.gg T.sb T.ca T.gs T.tk T.ob
/-- an error of the class at C stands at a, with its dict or without one -/
def ErrAt (H : Hp) (a C : Addr) : Prop := ∃ d, H a = some (exo a C d) ∧ (d = none ∨ ∃ dx fs, d = some dx ∧ H dx = some (exd dx fs))
theorem ErrAt.inst {P : Program} {w : World} {H : Hp} {h : Heap} {a C : Addr} (hok : HOk P w H h) (e : ErrAt H a C) : ∃ ox od, InstAt h a ox C od := by
  obtain ⟨d, ha, hd⟩ := e
  obtain ⟨t1, ho⟩ := exo_at hok ha
  rcases hd with rfl | ⟨dx, fs, rfl, hx⟩
  · exact ⟨_, none, ho, rfl, rfl, trivial⟩
  · obtain ⟨mA, hn, _⟩ := exd_at hok hx
    obtain ⟨od, hod, _⟩ := lookIn_ns hn
    exact ⟨_, some od, ho, rfl, rfl, hod⟩
theorem ErrAt.same {H H' : Hp} {a C : Addr} (s : Same H H') (e : ErrAt H a C) : ErrAt H' a C := by
  obtain ⟨d, ha, hd⟩ := e
  refine ⟨d, s _ _ ha, ?_⟩
  rcases hd with h | ⟨dx, fs, h, hx⟩
  · exact .inl h
  · exact .inr ⟨dx, fs, h, s _ _ hx⟩
section
variable {X : Cx}
/-- isinstance(e, c), e an error that stands -/
def rIsErr (K : Frag) : List V → Hp → VK → Prop := fun xs H Q => ∃ (a C : Addr) (c : V) (u : Value) (b : Bool), xs = [.ref a, c] ∧ ErrAt H a C ∧ ErrT K C ∧ ClsV c u ∧ kitOne K (.ref C) u = some b ∧ Q (.bl b) H
theorem call_isErr : CallR X (.builtin "isinstance") (rIsErr X.K) := by
  rintro pins s σ H _ us Q I r ⟨a, C, c, u, b, rfl, e, T, k, ek, q⟩
  rcases vals2 r with ⟨u1, u2, rfl, r1, r2⟩
  cases k.eq r2
  cases (r1 : u1 = Value.ref a)
  obtain ⟨ox, od, J⟩ := e.inst I.hok
  exact kia_one T.kit I.kIn J ek (fun z => nomatch z) fun tk => ⟨.bl b, H, I.tok tk, rfl, q⟩
/-- e.nm, e an error with a dict -/
def tErrF (K : Frag) (te : TE) (nm : Str) : TE := fun σ H Q => te σ H fun x H1 => ∃ (a C dx : Addr) (fs : List (Str × V)) (v : V), x = .ref a ∧ H1 a = some (exo a C (some dx)) ∧ H1 dx = some (exd dx fs) ∧ fs.lookup nm = some v ∧ ErrT K C ∧
  findIn K (.ref C) nm = some none ∧ Q v H1
theorem pe_errF {e : Expr} {te : TE} {nm : Str} {pos : Pos} (he : PE X e te) (hb : attributeBase e nm X.env (eval e X.env) = eval e X.env := by rfl) : PE X (.Attribute e nm pos) (tErrF X.K te nm) := by
  refine ⟨fun pins s σ H Q I h => ?_⟩
  refine attr_of hb (thn (he.run pins s σ H _ I h) fun u s1 hh => ?_)
  obtain ⟨x, H1, I1, rx, a, C, dx, fs, v, ex, ea, ed, hl, T, no, q⟩ := hh
  subst ex
  obtain rfl : u = Value.ref a := rx
  obtain ⟨t1, ho⟩ := exo_at I1.hok ea
  obtain ⟨mA, hn, hr⟩ := exd_at I1.hok ed
  obtain ⟨od, hod, hlk⟩ := lookIn_ns hn
  obtain ⟨u, hu, ru⟩ := RelO.some_of (v := v) (o := mA nm) (by rw [← hl]; exact hr nm)
  have J : InstAt s1.heap a _ C (some od) := ⟨ho, rfl, rfl, hod⟩
  exact HandSPX.exc_get I1.kIn J T.ga T.gg T.sb (findObj_own T.hd no rfl (by rw [hlk, hu])) (handed_of ru) ⟨v, H1, I1.tok _, ru, q⟩
/-- C(e): an error without an __init__ of its own -/
def tErr1 (C : Addr) (ta : TA) : TE := fun σ H Q => ta σ H fun vs H1 => vs.length ≤ 1000 ∧ ∀ a, H1 a = none → Q (.ref a) (upd H1 a (exo a C none))
theorem made_err {pins : List (Addr × Obj)} {σ : L2.St} {H : Hp} {s : Shared} {Q : VK} {C : Addr} {bmB : List Value} {B newId initId : String} {us : List Value} (F : ExcBaseFacts B newId initId bmB) (q : excIn X.K C bmB newId = true)
    (I : Inv X pins σ H s) (hz : us.length ≤ sizeLine) (h : ∀ a, H a = none → Q (.ref a) (upd H a (exo a C none))) : wpAny (model X.prog X.w) X.A (call (.ref C) us) (EP X pins σ Q) X.xe s := by
  obtain ⟨bm, N, nm, qn, bs, hdct, sn, sub, ab, col, dd, k0, k1, k2, k3, k5, mN, hC, hN, hni, T⟩ := exc_obj I.kIn q
  obtain ⟨hp, g, dr, tk, os⟩ := s
  refine wpAny_call_exc_subT F T hC hN hni (fun h' a hm => ?_) hz
  have hn : H a = none := I.hok.gone hm.new
  have ⟨t, ht, _⟩ := hm.there
  exact ⟨.ref a, _, I.laidN hm.keeps hm.new hn (exo_ok ht), rfl, h a hn⟩
theorem pe_err1 {C : Addr} {bmB : List Value} {B newId initId : String} {x : Str} {e : Expr} {ta : TA} {p pos : Pos} (F : ExcBaseFacts B newId initId bmB) (q : excIn X.K C bmB newId = true) (gC : X.mg x = some (.ref C)) (kC : keepIn X.K (.ref C) = true) (ha : PA X [e] ta) (hg : Gl X x := by rfl)
    (hs : starEach [e] X.env = (false, eval e X.env) :: starEach [] X.env := by rfl) (hpl : (backTo pos (starEach [] X.env)).any (·.1) = false := by rfl) (hdb : (x == ("__debug__" : Str)) = false := by decide) : PE X (.Call (.Name x p) [e] [] pos) (tErr1 C ta) := by
  refine ⟨fun pins s σ H Q I h => ?_⟩
  refine wpAny_Call_Name_kw (ld_glob I hg gC (callWith_K (h₀ := X.base) I.ok.mod.kin kC (thn (ha.run pos pins s σ H _ I h) fun us s1 ⟨vs, H1, I1, r1, hz, q1⟩ => ⟨I1.kIn, ?_⟩) hs hpl) hdb)
  exact made_err F q I1 (by rw [List.nil_append, ← Paired.length r1, sizeLine_eq]; omega) q1
theorem pe_err0 {C : Addr} {bmB : List Value} {B newId initId : String} {x : Str} {p pos : Pos} (F : ExcBaseFacts B newId initId bmB) (q : excIn X.K C bmB newId = true) (gC : X.mg x = some (.ref C)) (kC : keepIn X.K (.ref C) = true) (hg : Gl X x := by rfl)
    (hdb : (x == ("__debug__" : Str)) = false := by decide) : PE X (.Call (.Name x p) [] [] pos) (tErr1 C tNil) := by
  refine ⟨fun pins s σ H Q I h => ?_⟩
  exact wpAny_Call_Name_kw (ld_glob I hg gC (callWith_K0 I.kIn kC (made_err (us := []) F q I (by rw [sizeLine_eq]; exact Nat.zero_le _) h.2)) hdb)
end
/-! ### a class over a built-in one whose maker is that of a class above it (KeyError is made by LookupError's) -/
section
variable {M : Model} {A : Around} {E : Value → Shared → Prop} {h : Heap} {g : Array GenState} {d : Drawn} {t : Nat} {os : OsState}
variable {nm q : Str} {C N : Addr} {bs bm mb : List Value} {hdct : Bool} {sn : List Str} {sub : List Value} {ab : Bool} {col : Option Bool} {dd : Option Addr} {k0 k1 k2 k3 k5 : Option Value} {B newId initId : String}
theorem thin_check (F : ExcBaseFacts B newId initId mb) (hB : bm.contains (.type B) = true) {rest : List Value} {Q : Unit → Shared → Prop}
    (hC : h.get? C = some (excClassObj nm q C N bs bm hdct sn sub ab col dd k0 k1 k2 k3 k5 newId)) (hq : Q () ⟨h, g, d, t, os⟩) : wpAny M A (checkBuiltinCall newId ⟨.ref C :: rest, []⟩) Q E ⟨h, g, d, t, os⟩ := by
  have w1 : (Value.ref C :: bm).contains (.type B) = true := by rw [List.contains_cons, hB, Bool.or_true]
  have w2 := F.noStar
  simp only [checkBuiltinCall, F.newSplit, F.newRow, F.newKind]
  repeat (first | refine wpAny_staticBase_exc hC ?_ | refine wpAny_madeBy_exc hC ?_ | refine wpAny_loadPart_at hC ?_ | (refine wpAny_isSubtype_exc hC ?_; rw [w1]) | simp only [bne_self_eq_false, if_false, Bool.false_eq_true] | wp_step)
  exact hq
end
section
variable {prog : Program} {w : World} {A : Around} {E : Value → Shared → Prop} {R : Result → Shared → Prop} {h : Heap} {g : Array GenState} {d : Drawn} {t : Nat} {os : OsState}
variable {nm q : Str} {C N : Addr} {bs bm mb : List Value} {hdct : Bool} {sn : List Str} {sub : List Value} {ab : Bool} {col : Option Bool} {dd : Option Addr} {k0 k1 k2 k3 k5 : Option Value} {B newId initId : String}
theorem thin_new (F : ExcBaseFacts B newId initId mb) (hB : bm.contains (.type B) = true) (hA : bm.contains (.type "AttributeError") = false) (hN : bm.contains (.type "NameError") = false) {rest : List Value}
    (hC : h.get? C = some (excClassObj nm q C N bs bm hdct sn sub ab col dd k0 k1 k2 k3 k5 newId)) (hz : rest.length ≤ sizeLine)
    (hq : R (.ok (.ret (.ref (h.objs.size + 1)))) ⟨(h.push (kdv_tup rest)).push (HandSPX.excO C h.objs.size), g, d, t, os⟩) : codeAny (model prog w) A (.builtin newId ⟨.ref C :: rest, []⟩) R ⟨h, g, d, t, os⟩ := by
  have w0 := F.ends
  have w1 : (Value.ref C :: bm).contains (.type B) = true := by rw [List.contains_cons, hB, Bool.or_true]
  have w2 : (Value.ref C :: bm).contains (.type "AttributeError") = false := by rw [List.contains_cons, hA]; rfl
  have w3 : (Value.ref C :: bm).contains (.type "NameError") = false := by rw [List.contains_cons, hN]; rfl
  refine codeAny_builtinAt F.entry ?_
  unfold Builtin.«BaseException.__new__»
  refine PySem.wpAt_bind ?_
  show PySem.wpAt _ _ _ (stack >>= _) _ _ _
  refine PySem.wpAt_bind (PySem.wpAt_stack fun p below => PySem.wpAt_of_wpAny ?_)
  wp_walk
  refine PySem.wpAt_of_wpAny ?_
  rw [F.owner]
  repeat (first | with_reducible refine wpAny_madeHere_exc F.canon hC ?_ | with_reducible refine wpAny_loadPart_at hC ?_ | (with_reducible refine wpAny_isSubtype_exc hC ?_; first | rw [w1] | rw [w2] | rw [w3]) | wp_step)
  show R _ _
  rw [Heap.size_push]
  exact hq
theorem thin_type (F : ExcBaseFacts B newId initId mb) (hB : bm.contains (.type B) = true) (hA : bm.contains (.type "AttributeError") = false) (hN : bm.contains (.type "NameError") = false) {rest : List Value} {fI : Addr} {Q : Fin → Shared → Prop}
    (hC : h.get? C = some (excClassObj nm q C N bs bm hdct sn sub ab col dd k0 k1 k2 k3 k5 newId)) (hi : Looks (model prog w) h (typeLookup (.ref C) "__init__") (some (.ref fI)))
    (hb : ∀ self, Looks (model prog w) h (bindSpecial (.ref fI) self) (.ref fI, [self])) (hz : rest.length ≤ sizeLine)
    (hq : codeAny (model prog w) A (.call (.ref fI) ⟨.ref (h.objs.size + 1) :: rest, []⟩) (fun r s' => match r with | .ok (.ret v) => v = .none ∧ Q (.done (.ret (.ref (h.objs.size + 1)))) s' | .ok _ => False | .error e => E e s')
      ⟨(h.push (kdv_tup rest)).push (HandSPX.excO C h.objs.size), g, d, t, os⟩) : wpAny (model prog w) A (Builtin.«type.__call__» ⟨.ref C :: rest, []⟩) Q E ⟨h, g, d, t, os⟩ := by
  repeat (first | with_reducible refine wpAny_madeBy_exc hC ?_ | with_reducible refine wpAny_loadPart_at hC ?_ | wp_step)
  refine codeAny_call_builtin_code (Code.quiet_builtin _ F.quiet) (thin_check F hB hC (thin_new F hB hA hN hC hz ?_))
  show wpAny _ _ _ _ _ _
  have k : ∀ b o, h.get? b = some o → ((h.push (kdv_tup rest)).push (HandSPX.excO C h.objs.size)).get? b = some o := fun b o e => Heap.get?_push_of_some _ (Heap.get?_push_of_some _ e)
  have c1 := k _ _ hC
  have c2 : ((h.push (kdv_tup rest)).push (HandSPX.excO C h.objs.size)).get? (h.objs.size + 1) = some (HandSPX.excO C h.objs.size) := by heap_get
  have c3 : (Value.ref C :: bm).contains (.ref C) = true := by simp
  have i1 := hi.keeps k
  have bound := (hb (Value.ref (h.objs.size + 1))).keeps k
  unfold isInstance
  repeat (first | with_reducible refine wpAny_loadPart_at c2 ?_ | (with_reducible refine wpAny_isSubtype_exc c1 ?_; rw [c3]) | wp_step)
  show wpAny _ _ (typeLookup (.ref C) _) _ _ _
  refine i1.at (wpAny_holding (wpAny_bind (bound.at (wpAny_bind (wpAny_call (codeAny_mono hq fun r s' z => ?_))))))
  rcases r with e | (v | _ | _ | _)
  all_goals first | exact z | exact z.elim | skip
  obtain ⟨rfl, z⟩ := z
  first
    | exact wpAny_pure (wpAny_pure z)
    | (wp_walk; exact z)
end
/-- how an instance of a class over such a chain is made, its own __init__ run -/
def MakesBy (bmB : List Value) (newId : String) : Prop := ∀ {prog : Program} {w : World} {A : Around} {R : Result → Shared → Prop} {h : Heap} {g : Array GenState} {d : Drawn} {t : Nat} {os : OsState} {nm q : Str} {C N : Addr} {bs bm : List Value} {hdct : Bool} {sn : List Str} {sub : List Value}
    {ab : Bool} {col : Option Bool} {dd : Option Addr} {k0 k1 k2 k3 k5 : Option Value} {rest : List Value} {fI : Addr}, (∀ X : String, bm.contains (.type X) = bmB.contains (.type X)) →
    h.get? C = some (excClassObj nm q C N bs bm hdct sn sub ab col dd k0 k1 k2 k3 k5 newId) → Looks (model prog w) h (typeLookup (.ref C) "__init__") (some (.ref fI)) → (∀ self, Looks (model prog w) h (bindSpecial (.ref fI) self) (.ref fI, [self])) → rest.length ≤ sizeLine →
    codeAny (model prog w) (A.under (.builtin "type.__call__" ⟨.ref C :: rest, []⟩)) (.call (.ref fI) ⟨.ref (h.objs.size + 1) :: rest, []⟩) (InitBack (h.objs.size + 1) R) ⟨(h.push (kdv_tup rest)).push (HandSPX.excO C h.objs.size), g, d, t, os⟩ →
    codeAny (model prog w) A (.call (.ref C) ⟨rest, []⟩) R ⟨h, g, d, t, os⟩
theorem MakesBy.of {bmB : List Value} {B newId initId : String} (F : ExcBaseFacts B newId initId bmB) : MakesBy bmB newId := fun hT hC hi hb hz hq => HandSPX.call_own F hT hC hi hb hz hq
theorem MakesBy.thin {bmB mb : List Value} {B newId initId : String} (F : ExcBaseFacts B newId initId mb) (c1 : bmB.contains (.type B) = true) (c2 : bmB.contains (.type "AttributeError") = false) (c3 : bmB.contains (.type "NameError") = false) : MakesBy bmB newId := by
  intro prog w A R h g d t os nm q C N bs bm hdct sn sub ab col dd k0 k1 k2 k3 k5 rest fI hT hC hi hb hz hq
  have f1 := tc_lookup
  have f2 := tc_bind (.ref C)
  have f3 : (⟨h, g, d, t, os⟩ : Shared).TypeIs (.ref C) "type" := ⟨_, hC, rfl⟩
  refine codeAny_of_tree ?_
  show wpAny _ _ (callAny (.ref C) _) _ _ _
  repeat (any_goals (first | assumption | with_reducible refine wpAny_loadPart_at hC ?_ | wp_step))
  refine ⟨rfl, codeAny_call_builtin_at (Code.quiet_builtin _ (by decide +kernel)) entry_typeCall (wpAny_check_type_call_sub hC (thin_type F (by rw [hT]; exact c1) (by rw [hT]; exact c2) (by rw [hT]; exact c3) hC hi hb hz (codeAny_mono hq fun r s' z => ?_)))⟩
  rcases r with e | (v | _ | _ | _)
  all_goals exact z
/-! ### the store of a field into an error that has no dict yet -/
section
variable {prog : Program} {w : World} {A : Around} {R : Result → Shared → Prop} {hp : Heap} {g : Array GenState} {d : Drawn} {t : Nat} {os : OsState}
theorem osa_err {K : Frag} {name : Str} {tk : Tok} {v : Value} {x C : Addr} {fv : Array Value} {bmB : List Value} {B : String} (SF : StoreFacts B bmB "object.__setattr__" "object")
    (X : K.In hp) (hx : hp.get? x = some { cls := .ref C, data := .fields fv }) (ov : excOver K C bmB = true) (tn : takerIn K C name = some none) (hdc : hasDictIn K C = true)
    (done : ∀ k u dx, (∀ b q, b ≠ x → hp.get? b = some q → k.get? b = some q) → hp.objs.size ≤ dx → dx ≠ x → k.get? x = some { cls := .ref C, dict := some dx, data := .fields fv } → k.Ns1 dx (fun y => if y = name then some v else none) →
      R (.ok (.ret .none)) ⟨k, g, d, u, os⟩) : codeAny (model prog w) A (.call (.builtin "object.__setattr__") ⟨[.ref x, .str name tk, v], []⟩) R ⟨hp, g, d, t, os⟩ := by
  have I : InstAt hp x { cls := .ref C, data := .fields fv } C none := ⟨hx, rfl, rfl, trivial⟩
  refine osa_openX (s := ⟨hp, g, d, t, os⟩) SF X I ov tn fun b => ?_
  obtain ⟨cd, hcd, dictful⟩ := any_some hdc
  have isCls : Looks (model prog w) hp (classData C) cd := looks_clsIn X hcd
  have old : x ≠ hp.objs.size := Nat.ne_of_lt (Heap.lt_size hx)
  show wpAny _ _ (Builtin.ObjectAttr.storeInOwnDict (.ref x) (.ref C) (.str name tk) name v b) _ _ _
  rcases cd with ⟨_, _, _, _, _, hd, _, _, _, _, _⟩
  cases (dictful : hd = true)
  unfold Builtin.ObjectAttr.storeInOwnDict; unfold Builtin.ObjectAttr.ownDictForStores
  repeat first | with_reducible refine HandSPX.store_in_new ?_ ?_ | with_reducible refine isCls.at ?_ | with_reducible refine wpAny_loadPart_at hx ?_ | wp_step
  · exact ⟨_, #[], _, (Heap.get?_update_ne _ _ _ _ old.symm).trans (Heap.get?_push_at rfl rfl), rfl, (fun e at_e => (show False by simp at at_e).elim), fun _ => rfl⟩
  · intro k u ns same
    have there : (hp.push { cls := .type "dict", data := .dict #[] }).get? x = some { cls := .ref C, data := .fields fv } := Heap.get?_push_of_some _ hx
    refine done k u hp.objs.size (fun c q nx at_c => (same.2 c (Nat.ne_of_lt (Heap.lt_size at_c))).trans ?_) (Nat.le_refl _) old.symm ((same.2 x old).trans (Heap.get?_update_self _ there rfl)) ns
    exact (Heap.get?_update_ne _ _ _ _ nx).trans (Heap.get?_push_of_some _ at_c)
end
section
variable {X : Cx}
/-- self.nm = e on such an error -/
theorem set_err {pins : List (Addr × Obj)} {σ : L2.St} {H : Hp} {s : Shared} {a C fI : Addr} {nm : Str} {y : V} {u : Value} {bmB : List Value} {B newId : String} {Q : Unit → Shared → Prop} {E : Value → Shared → Prop} {A : Around}
    (SF : StoreFacts B bmB "object.__setattr__" "object") (T : ErrT X.K C) (TI : ErrI X.K C fI bmB newId nm) (I : L2.Inv X pins σ H s) (e : H a = some (exo a C none)) (ry : RelV y u)
    (h : ∀ dx s', H dx = none → dx ≠ a → L2.Inv X pins σ (upd (upd H dx (exd dx [(nm, y)])) a (exo a C (some dx))) s' → Q () s') : wpAny (model X.prog X.w) A (setAttr (.ref a) nm u) Q E s := by
  have ⟨t1, ho⟩ := exo_at I.hok e
  obtain ⟨hp, g, d, t, os⟩ := s
  refine set_plain I.kIn (od := none) ⟨ho, rfl, rfl, trivial⟩ TI.sa ?_
  refine osa_err SF I.kIn ho TI.ov TI.tn T.hd fun h' tk' dx k dxNew dne hx hn => ?_
  have dxFree : H dx = none := I.hok.fresh dxNew
  have offDx : ∀ {b : Addr} {o : Obj}, hp.get? b = some o → b ≠ dx := fun {b o} q => Nat.ne_of_lt (Nat.lt_of_lt_of_le (Heap.lt_size q) dxNew)
  have offA : ∀ {b : Addr}, H b = none → b ≠ a := fun {b} n z => nomatch (z ▸ n).symm.trans e
  have un : Un X.fs [] H (upd (upd H dx (exd dx [(nm, y)])) a (exo a C (some dx))) hp h' :=
    ⟨fun b o q n _ _ => k b o (offA n) q, fun b o q n _ _ => ⟨o.slots, k b o (offA n) q⟩, fun b o q n _ => by rw [upd_ne (offA n), upd_ne (offDx q)]; exact n,
      fun b o q _ => if hb : b = a then ⟨_, hb ▸ hx⟩ else ⟨o, k b o hb q⟩,
      fun b xs q => by rw [upd_ne (at_ne e q exo_tup), upd_ne (ne_of_none q dxFree)]; exact q, fun b o v q => by rw [upd_ne (at_ne e q exo_frz), upd_ne (ne_of_none q dxFree)]; exact q,
      fun b ps q => ⟨#[], by rw [upd_ne (at_ne e q exo_tbl), upd_ne (ne_of_none q dxFree), q]; simp⟩⟩
  refine h dx _ dxFree dne (I.un (t' := tk') un fun b o q => ?_)
  by_cases hb : b = a
  · subst hb
    rw [upd_same] at q
    cases q
    exact exo_ok hx
  · rw [upd_ne hb] at q
    by_cases hd : b = dx
    · subst hd
      rw [upd_same] at q
      cases q
      exact exd_ok hn (relO_put (fs := []) ry fun _ => trivial)
    · rw [upd_ne hd] at q
      refine (I.hok b o q).stay (fun c v hc z => k c v ?_ z) (fun c hc => by rw [upd_ne (at_ne e hc exo_own), upd_ne (ne_of_none hc dxFree)]; exact hc) fun c xs hc => by rw [upd_ne (at_ne e hc exo_tup), upd_ne (ne_of_none hc dxFree)]; exact hc
      rcases hc with hc | hc
      · rw [hc]
        exact hb
      · exact at_ne e hc exo_own
def tSetE (nm : Str) (C : Addr) (to te : TE) : TS := fun D σ H => te σ H fun y H1 => to σ H1 fun x H2 => ∃ a : Addr, x = .ref a ∧ H2 a = some (exo a C none) ∧
  ∀ dx, H2 dx = none → dx ≠ a → D.nx σ (upd (upd H2 dx (exd dx [(nm, y)])) a (exo a C (some dx)))
theorem ps_setE {C fI : Addr} {nm : Str} {bmB : List Value} {B newId : String} {o e : Expr} {to te : TE} {p' pos : Pos} (SF : StoreFacts B bmB "object.__setattr__" "object") (T : ErrT X.K C) (TI : ErrI X.K C fI bmB newId nm) (ho : PE X o to) (he : PE X e te)
    (hs : swapsWith e (some (.Attribute o nm p')) pos.line X.env = pure false := by rfl) : PS X (.Assign [.Attribute o nm p'] e pos) (tSetE nm C to te) := by
  refine ⟨fun pins s σ H D I h => ?_⟩
  refine plainObj_wpAny_Assign_Attribute (thn (he.run pins s σ H _ I h) fun v s1 ⟨y, H1, I1, r1, q1⟩ => thn (ho.run pins s1 σ H1 _ I1 q1) fun u s2 ⟨x, H2, I2, r2, a, ex, ea, q⟩ => ?_) hs
  subst ex
  cases (r2 : u = Value.ref a)
  exact set_err SF T TI I2 ea r1 fun dx s' n ne J => ⟨σ, _, J, q dx n ne⟩
/-- what such an __init__ promises -/
def spErrI (C : Addr) (nm : Str) : Sp := fun vs H Q _ => ∃ (a : Addr) (v : V), vs = [.ref a, v] ∧ H a = some (exo a C none) ∧ ∀ d, H d = none → d ≠ a → Q .non (upd (upd H d (exd d [(nm, v)])) a (exo a C (some d)))
/-- C(e): an error with such an __init__ -/
def tErrI (C : Addr) (nm : Str) (ta : TA) : TE := fun σ H Q => ta σ H fun vs H1 => ∃ v, vs = [v] ∧ ∀ a d, H1 a = none → H1 d = none → d ≠ a → Q (.ref a) (upd (upd H1 d (exd d [(nm, v)])) a (exo a C (some d)))
theorem upd_swap {H : Hp} {a b : Addr} {o u : HO} (n : a ≠ b) : upd (upd H a o) b u = upd (upd H b u) a o := by
  funext c
  by_cases ha : c = a
  · rw [ha, upd_ne n, upd_same, upd_same]
  · by_cases hb : c = b
    · rw [hb, upd_same, upd_ne n.symm, upd_same]
    · rw [upd_ne hb, upd_ne ha, upd_ne ha, upd_ne hb]
theorem pe_errI {C fI : Addr} {nm : Str} {bmB : List Value} {newId : String} {x : Str} {k : Nat} {fd : FuncData} {ps : List Str} {e : Expr} {ta : TA} {p pos : Pos} (MB : MakesBy bmB newId) (T : ErrT X.K C) (TI : ErrI X.K C fI bmB newId nm)
    (G : FnOk X.prog X.w X.K X.mg X.base CX0 k fI fd ps (spErrI C nm)) (hr : Room (k + 1) X.A) (b : L2.Binds X.K fd ps []) (gC : X.mg x = some (.ref C)) (ha : PA X [e] ta) (hg : Gl X x := by rfl)
    (hs : starEach [e] X.env = (false, eval e X.env) :: starEach [] X.env := by rfl) (hpl : (backTo pos (starEach [] X.env)).any (·.1) = false := by rfl) (hdb : (x == ("__debug__" : Str)) = false := by decide) : PE X (.Call (.Name x p) [e] [] pos) (tErrI C nm ta) := by
  refine ⟨fun pins s σ H Q I h => ?_⟩
  refine wpAny_Call_Name_kw (ld_glob I hg gC (callWith_K (h₀ := X.base) I.ok.mod.kin T.kp (thn (ha.run pos pins s σ H _ I h) fun us s1 ⟨vs, H1, I1, r1, v, ev, q1⟩ => ⟨I1.kIn, ?_⟩) hs hpl) hdb)
  subst ev
  obtain ⟨nm0, N, qn, bs, bm, hdct, sn, sub, ab, col, dd, k0, k1, k2, k3, k5, hC, hT⟩ := excInit_of I1.kIn TI.im
  rw [List.nil_append]
  obtain ⟨hp, g, dr, tk, os⟩ := s1
  have hn : H1 (hp.objs.size + 1) = none := I1.hok.fresh (Nat.le_succ _)
  have kk : ∀ c o, hp.get? c = some o → ((hp.push (kdv_tup us)).push (HandSPX.excO C hp.objs.size)).get? c = some o := fun c o z => Heap.get?_push_of_some _ (Heap.get?_push_of_some _ z)
  have hget : ((hp.push (kdv_tup us)).push (HandSPX.excO C hp.objs.size)).get? (hp.objs.size + 1) = some (HandSPX.excO C hp.objs.size) := by heap_get
  have I2 : L2.Inv X pins σ (upd H1 (hp.objs.size + 1) (exo (hp.objs.size + 1) C none)) ⟨(hp.push (kdv_tup us)).push (HandSPX.excO C hp.objs.size), g, dr, tk, os⟩ :=
    I1.laid (t' := tk) (a := hp.objs.size + 1) (o := exo (hp.objs.size + 1) C none) (h' := (hp.push (kdv_tup us)).push (HandSPX.excO C hp.objs.size)) kk (Nat.le_succ _) (exo_ok hget)
  have r2 : Vals [V.ref (hp.objs.size + 1), v] (Value.ref (hp.objs.size + 1) :: us) := .cons rfl r1
  have want : spErrI C nm [V.ref (hp.objs.size + 1), v] (upd H1 (hp.objs.size + 1) (exo (hp.objs.size + 1) C none)) (fun z H2 => z = .non ∧ Q (.ref (hp.objs.size + 1)) H2) (fun _ _ _ => False) := by
    refine ⟨_, _, rfl, upd_same, fun d hd hne => ⟨rfl, ?_⟩⟩
    rw [upd_ne hne] at hd
    have z := q1 (hp.objs.size + 1) d hn hd hne
    rw [upd_swap (Ne.symm hne), L2.upd_upd]
    exact z
  have hl : (Value.ref (hp.objs.size + 1) :: us).length = ps.length := by
    rw [← r2.length]
    exact G.len _ _ _ _ want
  have hus : us.length ≤ sizeLine := (Paired.length r1) ▸ (by rw [sizeLine_eq]; exact (by decide : 1 ≤ 16777216))
  refine wpAny_call (MB hT hC (looks_findIn I1.kIn TI.fi) (fun self => bind_fn I1.kIn self TI.tf) hus
    (codeAny_mono (G.run _ X.stack _ _ ⟨Value.ref (hp.objs.size + 1) :: us, []⟩ (Value.ref (hp.objs.size + 1) :: us) _ _ _ (hr.make C us []) (I2.env0.make C us []) (by have z := b _ (Value.ref (hp.objs.size + 1) :: us) I2.kIn (by simpa using hl); simpa using z) r2 want) fun r s' hq' => ?_))
  cases r with
  | error er => exact pass0 pins σ _ _ er s' I2 hq'
  | ok fl =>
    cases fl with
    | ret u =>
      obtain ⟨z, H2, J, rv, ez, q⟩ := I2.after hq'
      subst ez
      exact ⟨rv, .ref (hp.objs.size + 1), H2, J, rfl, q⟩
    | _ => exact (show False from hq').elim
end
/-! ### KeyError: made by LookupError's maker -/
def keChain : List Value := [.type "KeyError", .type "LookupError", .type "Exception", .type "BaseException", .type "object"]
theorem store_KE : StoreFacts "KeyError" keChain "object.__setattr__" "object" where
  mro := by kernel_rfl
  slot := .of (owner := "object") (n := "__setattr__") (by rw [typeLookup_type, builtinLookup_eq_fast]; kernel_rfl) (by decide +kernel) (by decide +kernel) (by decide +kernel) (by first | exact .inl (by decide +kernel) | exact .inr (by decide +kernel)) (by rw [isSubtype_type]; kernel_rfl)
  entry := PySem.F.entry_object_sa
  kind := by decide +kernel
  split := by decide +kernel
  hasOwner := by decide +kernel
  args _ _ _ := by unfold argsOk; kernel_rfl
  passes _ := by kernel_rfl
theorem makes_KE : MakesBy keChain "LookupError.__new__" := MakesBy.thin PySem.F.excBase_LookupError (by decide +kernel) (by decide +kernel) (by decide +kernel)
end WE

set_option Elab.async false
set_option linter.all false
set_option maxRecDepth 100000
set_option maxHeartbeats 8000000
/-! What an error is, one letter for each class. -/
namespace WK
open PySem L2 PyProof.Rows WE
open PySem.W (Frag kitOne)
abbrev sKinds : Stmt := top 16
/-- the classes by number: the ten of the package, WatchError the sixth -/
def onE (k : Nat) : List Nat := [[0, 5, 6], [1, 5, 6], [2, 5, 6], [3, 5, 6], [4, 5, 6], [5, 6], [7, 12, 17], [8, 13], [9, 14, 16], [10, 15, 17], [11, 16]].getD k []
def bitE (k j : Nat) : Bool := (onE k).contains j
def bitsE (k : Nat) : List Bool := [bitE k 0, bitE k 1, bitE k 2, bitE k 3, bitE k 4, bitE k 5, bitE k 6, bitE k 7, bitE k 8, bitE k 9, bitE k 10, bitE k 11, bitE k 12, bitE k 13, bitE k 14, bitE k 15, bitE k 16, bitE k 17]
def signE (b : Bool) : Str := if b = true then "x" else "."
def dueE (k : Nat) : Str := Txt.join "" ((bitsE k).map signE)
def testedE (C : Nat → Addr) (j : Nat) : Value := [Value.ref (C 0), .ref (C 1), .ref (C 2), .ref (C 3), .ref (C 4), .ref (C 5), .type "ValueError", .ref (C 6), .ref (C 7), .ref (C 8), .ref (C 9), .ref (C 10), .type "KeyError", .type "RuntimeError", .type "OverflowError",
  .type "IndexError", .type "ArithmeticError", .type "LookupError"].getD j .none
def kitAll (K : Frag) (C : Nat → Addr) : Bool := (List.range 11).all fun k => (List.range 18).all fun j => kitOne K (.ref (C k)) (testedE C j) == some (bitE k j)
theorem kitAll_at {K : Frag} {C : Nat → Addr} (h : kitAll K C = true) {k j : Nat} (hk : k < 11) (hj : j < 18) : kitOne K (.ref (C k)) (testedE C j) = some (bitE k j) := by
  have h1 := List.all_eq_true.mp h k (List.mem_range.mpr hk)
  have h2 := List.all_eq_true.mp h1 j (List.mem_range.mpr hj)
  exact beq_iff_eq.mp h2
structure TErr (K : Frag) (mg : Str → Option Value) (C : Nat → Addr) : Prop where
  g0 : mg "InvalidWord" = some (.ref (C 0))
  g1 : mg "InvalidMachine" = some (.ref (C 1))
  g2 : mg "InvalidBox" = some (.ref (C 2))
  g3 : mg "InvalidOperation" = some (.ref (C 3))
  g4 : mg "ParseError" = some (.ref (C 4))
  g5 : mg "WatchError" = some (.ref (C 5))
  g6 : mg "UnknownName" = some (.ref (C 6))
  g7 : mg "InvalidNumber" = some (.ref (C 7))
  g8 : mg "TooMany" = some (.ref (C 8))
  g9 : mg "NothingToUndo" = some (.ref (C 9))
  g10 : mg "Refused" = some (.ref (C 10))
  nV : mg "ValueError" = none
  nK : mg "KeyError" = none
  nR : mg "RuntimeError" = none
  nO : mg "OverflowError" = none
  nI : mg "IndexError" = none
  nA : mg "ArithmeticError" = none
  nL : mg "LookupError" = none
  isi : mg "isinstance" = none
  err : ∀ k, k < 11 → ErrT K (C k)
  kit : kitAll K C = true
def spKinds (C : Nat → Addr) : Sp := fun vs H Q _ => ∃ (e : Addr) (k : Nat), vs = [.ref e] ∧ k < 11 ∧ ErrAt H e (C k) ∧ ∀ H', Same H H' → Q (.str (dueE k)) H'
section
variable {P : Program} {w : World} {K : PySem.W.Frag} {mg : Str → Option Value} {base : Heap} {C : Nat → Addr}
theorem scK : FnScope ["_law_error", "_law_told", "_law_one"] ["_law_error"] (defScope sKinds) := ⟨rfl, rfl, rfl, by decide +kernel, rfl, by decide +kernel, by decide +kernel⟩
theorem same_upd {H : Hp} {p : Addr} {o : HO} (h : H p = none) : Same H (upd H p o) := fun b u e => by rw [upd_ne (ne_of_none e h)]; exact e
theorem pe_own {X : Cx} {x : Str} {a : Addr} {pos : Pos} (hm : X.mg x = some (.ref a)) (hg : Gl X x := by rfl) (hd : (x == ("__debug__" : Str)) = false := by decide) : PE X (.Name x pos) (tC (.ref a)) := pe_glob hg hm rfl hd
theorem pe_ty {X : Cx} {x : Str} {pos : Pos} (n : String) (hm : X.mg x = none) (hv : bootBuiltins x = some (.type n)) (hg : Gl X x := by rfl) (hn : x ≠ "__name__" := by decide) (hd : (x == ("__debug__" : Str)) = false := by decide) : PE X (.Name x pos) (tC (.ty n)) := pe_bltn hg hm hv rfl hn hd
theorem isi {X : Cx} {o c : Expr} {to tc : TE} {p pos : Pos} (hm : X.mg "isinstance" = none) (ho : PE X o to) (hc : PE X c tc) (hg : Gl X "isinstance" := by rfl) (h1 : starEach [o, c] X.env = (false, eval o X.env) :: starEach [c] X.env := by rfl)
    (h2 : starEach [c] X.env = (false, eval c X.env) :: starEach [] X.env := by rfl) (hpl : (backTo pos (starEach [c] X.env)).any (·.1) = false := by rfl) :
    PE X (.Call (.Name "isinstance" p) [o, c] [] pos) (tCB (rIsErr X.K) (tCons to (tCons tc tNil))) :=
  pe_callB call_isErr hg hm (by decide +kernel) (pa_cons ho (pa_cons hc pa_nil h2) h1) (he := h1) (hpl := hpl)
theorem ok_kinds {f : Addr} {fd : FuncData} (F : Fun K "_law_kinds" "_law_kinds" sKinds f fd) (T : TErr K mg C) : FnOk P w K mg base CX0 1 f fd ["_law_error"] (spKinds C) := by
  refine F.ok scK (fun vs H Q E h => ?_) (fun cdv A outer s H vs Q E hr h => ?_)
  · obtain ⟨e, k, rfl, _⟩ := h
    rfl
  · obtain ⟨e, k, rfl, hk, hE, q⟩ := h
    refine ⟨_, pss_cons (ps_set (i := 1) scK.nd rfl (Or.inl rfl) (pe_lst (pa_cons (isi T.isi (pv 0) (pe_own T.g0)) (pa_cons (isi T.isi (pv 0) (pe_own T.g1)) (pa_cons (isi T.isi (pv 0) (pe_own T.g2)) pa_nil)))))
      (pss_cons (ps_set (i := 1) scK.nd rfl (Or.inl rfl) (pe_op op_cat (pv 1) (pe_lst (pa_cons (isi T.isi (pv 0) (pe_own T.g3)) (pa_cons (isi T.isi (pv 0) (pe_own T.g4)) (pa_cons (isi T.isi (pv 0) (pe_own T.g5)) pa_nil))))))
      (pss_cons (ps_set (i := 1) scK.nd rfl (Or.inl rfl) (pe_op op_cat (pv 1) (pe_lst (pa_cons (isi T.isi (pv 0) (pe_ty "ValueError" T.nV (by decide +kernel))) (pa_cons (isi T.isi (pv 0) (pe_own T.g6)) (pa_cons (isi T.isi (pv 0) (pe_own T.g7)) pa_nil))))))
      (pss_cons (ps_set (i := 1) scK.nd rfl (Or.inl rfl) (pe_op op_cat (pv 1) (pe_lst (pa_cons (isi T.isi (pv 0) (pe_own T.g8)) (pa_cons (isi T.isi (pv 0) (pe_own T.g9)) (pa_cons (isi T.isi (pv 0) (pe_own T.g10)) pa_nil))))))
      (pss_cons (ps_set (i := 1) scK.nd rfl (Or.inl rfl) (pe_op op_cat (pv 1) (pe_lst (pa_cons (isi T.isi (pv 0) (pe_ty "KeyError" T.nK (by decide +kernel))) (pa_cons (isi T.isi (pv 0) (pe_ty "RuntimeError" T.nR (by decide +kernel))) pa_nil)))))
      (pss_cons (ps_expr (pe_bm PySem.F.plainAttrs_list PySem.F.slot_list_append PySem.F.type_list_append mt_append (pv 1) (pa_cons (isi T.isi (pv 0) (pe_ty "OverflowError" T.nO (by decide +kernel))) pa_nil)))
      (pss_cons (ps_set (i := 1) scK.nd rfl (Or.inl rfl) (pe_op op_cat (pv 1) (pe_lst (pa_cons (isi T.isi (pv 0) (pe_ty "IndexError" T.nI (by decide +kernel))) (pa_cons (isi T.isi (pv 0) (pe_ty "ArithmeticError" T.nA (by decide +kernel))) (pa_cons (isi T.isi (pv 0) (pe_ty "LookupError" T.nL (by decide +kernel))) pa_nil))))))
      (pss_one (ps_ret (pe_join pe_str (pe_lc (own := [("_law_one", 2)]) (g := gName 2) (tt := tYes) rfl scK.nd (pi_list (pv 1)) (blkOk_by (N := ["_law_error", "_law_told", "_law_one"]) (sc := defScope sKinds) (by decide +kernel))
        (fun _ _ _ _ _ => pg_name (i := 2) scK.nd rfl (Or.inl rfl)) (fun _ _ _ _ _ => pts_nil) (fun _ _ _ _ _ => pe_ifExp (pt_val (pv 2)) pe_str pe_str))))))))))), ?_⟩
    -- told = [..]
    refine ⟨_, rfl, e, C k, _, _, _, rfl, hE, T.err k hk, .own _, kitAll_at T.kit hk (show 0 < 18 by decide), ?_⟩
    refine ⟨_, rfl, e, C k, _, _, _, rfl, hE, T.err k hk, .own _, kitAll_at T.kit hk (show 1 < 18 by decide), ?_⟩
    refine ⟨_, rfl, e, C k, _, _, _, rfl, hE, T.err k hk, .own _, kitAll_at T.kit hk (show 2 < 18 by decide), ?_⟩
    refine ⟨(by show 3 ≤ sizeLine; decide), fun p1 h1 => ?_⟩
    -- told + [..], four times
    refine ⟨_, rfl, _, rfl, e, C k, _, _, _, rfl, (hE.same (same_upd h1)), T.err k hk, .own _, kitAll_at T.kit hk (show 3 < 18 by decide), ?_⟩
    refine ⟨_, rfl, e, C k, _, _, _, rfl, (hE.same (same_upd h1)), T.err k hk, .own _, kitAll_at T.kit hk (show 4 < 18 by decide), ?_⟩
    refine ⟨_, rfl, e, C k, _, _, _, rfl, (hE.same (same_upd h1)), T.err k hk, .own _, kitAll_at T.kit hk (show 5 < 18 by decide), ?_⟩
    refine ⟨(by show 3 ≤ sizeLine; decide), fun p2 h2 => ?_⟩
    refine ⟨p1, p2, _, _, rfl, rfl, same_upd h2 _ _ upd_same, upd_same, (by show 6 ≤ sizeLine; decide), fun p3 h3 => ?_⟩
    refine ⟨_, rfl, _, rfl, e, C k, _, _, _, rfl, (hE.same (((same_upd h1).trans (same_upd h2)).trans (same_upd h3))), T.err k hk, .ty _, kitAll_at T.kit hk (show 6 < 18 by decide), ?_⟩
    refine ⟨_, rfl, e, C k, _, _, _, rfl, (hE.same (((same_upd h1).trans (same_upd h2)).trans (same_upd h3))), T.err k hk, .own _, kitAll_at T.kit hk (show 7 < 18 by decide), ?_⟩
    refine ⟨_, rfl, e, C k, _, _, _, rfl, (hE.same (((same_upd h1).trans (same_upd h2)).trans (same_upd h3))), T.err k hk, .own _, kitAll_at T.kit hk (show 8 < 18 by decide), ?_⟩
    refine ⟨(by show 3 ≤ sizeLine; decide), fun p4 h4 => ?_⟩
    refine ⟨p3, p4, _, _, rfl, rfl, same_upd h4 _ _ upd_same, upd_same, (by show 9 ≤ sizeLine; decide), fun p5 h5 => ?_⟩
    refine ⟨_, rfl, _, rfl, e, C k, _, _, _, rfl, (hE.same (((((same_upd h1).trans (same_upd h2)).trans (same_upd h3)).trans (same_upd h4)).trans (same_upd h5))), T.err k hk, .own _, kitAll_at T.kit hk (show 9 < 18 by decide), ?_⟩
    refine ⟨_, rfl, e, C k, _, _, _, rfl, (hE.same (((((same_upd h1).trans (same_upd h2)).trans (same_upd h3)).trans (same_upd h4)).trans (same_upd h5))), T.err k hk, .own _, kitAll_at T.kit hk (show 10 < 18 by decide), ?_⟩
    refine ⟨_, rfl, e, C k, _, _, _, rfl, (hE.same (((((same_upd h1).trans (same_upd h2)).trans (same_upd h3)).trans (same_upd h4)).trans (same_upd h5))), T.err k hk, .own _, kitAll_at T.kit hk (show 11 < 18 by decide), ?_⟩
    refine ⟨(by show 3 ≤ sizeLine; decide), fun p6 h6 => ?_⟩
    refine ⟨p5, p6, _, _, rfl, rfl, same_upd h6 _ _ upd_same, upd_same, (by show 12 ≤ sizeLine; decide), fun p7 h7 => ?_⟩
    refine ⟨_, rfl, _, rfl, e, C k, _, _, _, rfl, (hE.same (((((((same_upd h1).trans (same_upd h2)).trans (same_upd h3)).trans (same_upd h4)).trans (same_upd h5)).trans (same_upd h6)).trans (same_upd h7))), T.err k hk, .ty _, kitAll_at T.kit hk (show 12 < 18 by decide), ?_⟩
    refine ⟨_, rfl, e, C k, _, _, _, rfl, (hE.same (((((((same_upd h1).trans (same_upd h2)).trans (same_upd h3)).trans (same_upd h4)).trans (same_upd h5)).trans (same_upd h6)).trans (same_upd h7))), T.err k hk, .ty _, kitAll_at T.kit hk (show 13 < 18 by decide), ?_⟩
    refine ⟨(by show 2 ≤ sizeLine; decide), fun p8 h8 => ?_⟩
    refine ⟨p7, p8, _, _, rfl, rfl, same_upd h8 _ _ upd_same, upd_same, (by show 14 ≤ sizeLine; decide), fun p9 h9 => ?_⟩
    -- told.append(..)
    refine ⟨_, rfl, .inl ⟨rfl, _, SqL.of upd_same⟩, _, rfl, e, C k, _, _, _, rfl, (hE.same (((((((((same_upd h1).trans (same_upd h2)).trans (same_upd h3)).trans (same_upd h4)).trans (same_upd h5)).trans (same_upd h6)).trans (same_upd h7)).trans (same_upd h8)).trans (same_upd h9))), T.err k hk, .ty _, kitAll_at T.kit hk (show 14 < 18 by decide), ?_⟩
    refine ⟨p9, _, _, rfl, rfl, upd_same, (by show 14 < sizeLine; decide), ?_⟩
    rw [L2.upd_upd]
    refine ⟨_, rfl, _, rfl, e, C k, _, _, _, rfl, (hE.same (((((((((same_upd h1).trans (same_upd h2)).trans (same_upd h3)).trans (same_upd h4)).trans (same_upd h5)).trans (same_upd h6)).trans (same_upd h7)).trans (same_upd h8)).trans (same_upd h9))), T.err k hk, .ty _, kitAll_at T.kit hk (show 15 < 18 by decide), ?_⟩
    refine ⟨_, rfl, e, C k, _, _, _, rfl, (hE.same (((((((((same_upd h1).trans (same_upd h2)).trans (same_upd h3)).trans (same_upd h4)).trans (same_upd h5)).trans (same_upd h6)).trans (same_upd h7)).trans (same_upd h8)).trans (same_upd h9))), T.err k hk, .ty _, kitAll_at T.kit hk (show 16 < 18 by decide), ?_⟩
    refine ⟨_, rfl, e, C k, _, _, _, rfl, (hE.same (((((((((same_upd h1).trans (same_upd h2)).trans (same_upd h3)).trans (same_upd h4)).trans (same_upd h5)).trans (same_upd h6)).trans (same_upd h7)).trans (same_upd h8)).trans (same_upd h9))), T.err k hk, .ty _, kitAll_at T.kit hk (show 17 < 18 by decide), ?_⟩
    refine ⟨(by show 3 ≤ sizeLine; decide), fun pA hA => ?_⟩
    refine ⟨p9, pA, _, _, rfl, rfl, same_upd hA _ _ upd_same, upd_same, (by show 18 ≤ sizeLine; decide), fun pB hB => ?_⟩
    -- the signs joined
    have nB := hB
    refine ⟨⟨_, rfl⟩, _, rfl, pB, rfl, ⟨_, SqL.of upd_same⟩, fun D hD => ?_⟩
    refine lc_list (K := K) (a := pB) (xs := (bitsE k).map V.bl) (fun i H' => Same _ H' ∧ H' D = some (.lst (((bitsE k).take i).map fun b => V.str (signE b)))) ⟨same_upd hD, upd_same⟩ (fun i H' _ h => h.1.seq (SqL.of upd_same)) ?_ ?_
    · rintro i x H' hx ⟨hs, hd⟩
      obtain ⟨b, hb, rfl⟩ : ∃ b, (bitsE k)[i]? = some b ∧ x = V.bl b := by
        rw [List.getElem?_map] at hx
        cases z : (bitsE k)[i]? with
        | none =>
          rw [z] at hx
          cases hx
        | some b =>
          rw [z] at hx
          exact ⟨b, rfl, (Option.some.inj hx).symm⟩
      have hi : i < 18 := (List.getElem?_eq_some_iff.mp hb).1
      have sz : (((bitsE k).take i).map fun b => V.str (signE b)).length < sizeLine := by
        rw [List.length_map, List.length_take, sizeLine_eq]
        have l : (bitsE k).length = 18 := rfl
        omega
      have go : ∀ y : V, y = .str (signE b) → Same _ (upd H' D (.lst ((((bitsE k).take i).map fun b => V.str (signE b)) ++ [y]))) ∧ (upd H' D (.lst ((((bitsE k).take i).map fun b => V.str (signE b)) ++ [y]))) D = some (.lst (((bitsE k).take (i + 1)).map fun b => V.str (signE b))) := fun y hy => by
        refine ⟨fun c o z => by rw [upd_ne (ne_of_none z hD)]; exact hs c o z, ?_⟩
        rw [upd_same, List.take_add_one, hb, hy, List.map_append]
        rfl
      refine ⟨rfl, _, rfl, b, rfl, ?_⟩
      cases b with
      | true => exact iteT ⟨_, hd, sz, go _ rfl⟩
      | false => exact iteF ⟨_, hd, sz, go _ rfl⟩
    · rintro H' ⟨hs, hd⟩
      have e1 : ((bitsE k).map V.bl).length = 18 := rfl
      rw [e1] at hd
      have e2 : ((bitsE k).take 18).map (fun b => V.str (signE b)) = ((bitsE k).map signE).map V.str := rfl
      rw [e2] at hd
      have l1 : ∀ b, (signE b).length = 1 := fun b => by cases b <;> rfl
      refine ⟨_, D, (bitsE k).map signE, rfl, rfl, .inl (SqL.of hd), ?_, q _ ?_⟩
      · show ((signE _).length + ((signE _).length + ((signE _).length + ((signE _).length + ((signE _).length + ((signE _).length + ((signE _).length + ((signE _).length + ((signE _).length + ((signE _).length + ((signE _).length + ((signE _).length + ((signE _).length + ((signE _).length + ((signE _).length + ((signE _).length + ((signE _).length + ((signE _).length + 0)))))))))))))))))) + 18 * 0 ≤ 16777216
        simp only [l1]
        decide
      · exact (((((((((((same_upd h1).trans (same_upd h2)).trans (same_upd h3)).trans (same_upd h4)).trans (same_upd h5)).trans (same_upd h6)).trans (same_upd h7)).trans (same_upd h8)).trans (same_upd h9)).trans (same_upd hA)).trans (same_upd hB)).trans hs
end
end WK

set_option Elab.async false
set_option linter.all false
set_option maxRecDepth 100000
set_option maxHeartbeats 4000000
/-! repr of a list of six times the same thing. -/
namespace WT
open PySem L2 PyProof.Rows
/-- a thing that can be written out: data, or a dict of one text and the empty tuple -/
inductive Thg (K : PySem.W.Frag) (H : Hp) : V → PyData → Prop
  | dp {v : V} {d : PyData} (h : Dp K H v d) (n : d.hasDict = false) : Thg K H v d
  | dic {a t : Addr} {x : Str} (h : H a = some (.dK [(Sum.inr x, V.ref t)])) (ht : H t = some (.tup [])) : Thg K H (.ref a) (.dict [(.str x, .tuple [])])
section
variable {X : Cx} {pins : List (Addr × Obj)} {σ : L2.St} {H : Hp} {s : Shared}
theorem Thg.reads {v : V} {u : Value} {d : PyData} (I : L2.Inv X pins σ H s) (h : Thg X.K H v d) (r : L2.RelV v u) : ∃ as, Reads s.heap u d as ∧ (d.hasDict = true → sysModules ∉ as) := by
  cases h with
  | dp h n =>
    obtain ⟨as, hr⟩ := Dp.reads I d v u h r
    exact ⟨as, hr, fun z => by rw [n] at z; cases z⟩
  | @dic a t x h ht =>
    obtain rfl : u = Value.ref a := r
    obtain ⟨z, hs, vs, rel, ⟨o, es, ep, ho, hx, hd, hk, hp, hn⟩⟩ := dk_of I.hok h
    obtain ⟨_, its, rv, ot, e1, e2, n, e3⟩ := (show ObjOk X.prog X.w H s.heap t (.tup []) from I.hok t _ ht)
    cases rv
    obtain ⟨oc, od, dt, sl⟩ := ot
    dsimp only at e2 e3
    subst e2 e3
    cases rel with
    | @cons _ q _ _ r1 r2 =>
      cases r2
      obtain ⟨qk, qv⟩ := q
      obtain ⟨k1, k2⟩ := r1
      dsimp only at k1 k2
      subst k1
      obtain rfl : qv = Value.ref t := k2
      obtain ⟨esl⟩ := es
      dsimp only at hp
      cases hp with
      | @cons en _ _ _ c1 c2 c3 =>
        cases c3
        rcases keyIs_shape (k := Sum.inr x) (v := en.key) c1 with ⟨i, tk, y, _⟩ | ⟨x', tk, y, ek⟩
        · cases y
        · obtain rfl := Sum.inr.inj y
          obtain ⟨eh, ekey, eval⟩ := en
          dsimp only at ek c2
          subst ek c2
          have R2 : Reads s.heap (.ref t) (.tuple []) [] := Reads.tuple e1 rfl rfl ReadsAll.nil
          refine ⟨_, Reads.dict ho hx.1 hd (.cons (Reads.str _ tk) .nil) (.cons R2 .nil), fun _ hm => ?_⟩
          simp only [List.append_nil, List.mem_cons, List.not_mem_nil, or_false] at hm
          rw [hm] at hs
          simp at hs
end
section
variable {X : Cx} {es : List Expr} {t : TA} {pos : Pos}
def tLstN (t : TA) : TE := fun σ H Q => t σ H fun xs H1 => xs.length ≤ sizeLine ∧ ∀ p, H1 p = none → p ≠ sysModules → Q (.ref p) (upd H1 p (.lst xs))
/-- a list written out, its place not that of the modules' dict -/
theorem pe_lstN (h : PA X es t) : PE X (.List es pos) (tLstN t) := by
  constructor
  intro pins s σ H Q I here
  refine wpAny_List_spliced (thn (h.run pos pins s σ H _ I here) fun us s1 ⟨_, H1, I1, r, z, q⟩ => ⟨r.length ▸ z, ?_⟩)
  exact ⟨.ref s1.heap.objs.size, _, I1.lnew (t' := s1.toks) r z, rfl, q _ I1.fresh (Nat.ne_of_gt I1.big)⟩
/-- [x] * 6, likewise -/
def rRep6 : R2 := fun x y H Q => ∃ l v, x = .ref l ∧ y = .int 6 ∧ H l = some (.lst [v]) ∧ ∀ p, H p = none → p ≠ sysModules → Q (.ref p) (upd H p (.lst [v, v, v, v, v, v]))
theorem op_rep6 : OpR X (binaryOp .Mult) rRep6 := by
  rintro pins s σ H _ _ v u Q I rx ry ⟨l, c, rfl, rfl, hH, q⟩
  cases rx
  obtain ⟨t, rfl⟩ := ry
  rcases I.lstM hH with ⟨z, its, n, r, hl, e⟩
  cases r with
  | @cons _ w _ its' rw' rr =>
    cases rr
    refine wpAny_binaryOp_repeat_ref (T := "list") (U := "int") (by decide) ⟨_, e, rfl⟩ (fun s' => typeIs_int s' 6 t) noFill_list_mul PySem.F.fills_int_mul PySem.F.slot_int_rmul repeat_list PySem.F.slot_int_index.lookup
      (call_meets PySem.F.slot_int_rmul (typeIs_int s 6 t) PySem.F.entry_int_rmul (PySem.F.args_int_rmul_2 _ _) (int___rmul___int_list 6 t l _ n)
        ⟨e, rfl, ⟨_, e, rfl⟩, call_meets PySem.F.slot_list_mul ⟨_, e, rfl⟩ PySem.F.entry_list_mul (PySem.F.args_list_mul_2 _ _) (AutoListH.list___mul___list_int_3 l _ n 6 t (by decide) (by show ¬ 1 * 6 > _; decide) (by show ¬ Builtin.List.listTooLong (1 * 6) = true; decide)) ⟨e, ?_⟩⟩)
    exact ⟨.ref _, _, I.lnew (its := [w, w, w, w, w, w]) (t' := s.toks) (.cons rw' (.cons rw' (.cons rw' (.cons rw' (.cons rw' (.cons rw' .nil)))))) (by show 6 ≤ sizeLine; decide), rfl, q _ I.fresh (Nat.ne_of_gt I.big)⟩
/-- repr of such a list -/
def six (d : PyData) : PyData := .list [d, d, d, d, d, d]
def rRepr6 (K : PySem.W.Frag) : List V → Hp → VK → Prop := fun xs H Q => ∃ p v d, xs = [.ref p] ∧ H p = some (.lst [v, v, v, v, v, v]) ∧ p ≠ sysModules ∧ Thg K H v d ∧ (six d).showable = true ∧ (six d).depth < 20 ∧ (six d).shown.length ≤ sizeLine ∧ Q (.str (six d).shown) H
theorem call_repr6 (hg : X.A.guards = some []) (hu : X.A.units + 100 < cLine) : CallR X (.builtin "repr") (rRepr6 X.K) := by
  rintro pins s σ H _ us Q I r ⟨p, v, d, rfl, hp, hne, hT, hs, hd, hz, q⟩
  obtain ⟨u, rfl, e⟩ := vals1 r
  obtain rfl : u = Value.ref p := e
  obtain ⟨z, its, n, rv, hl, ho⟩ := I.lstM hp
  have ra : ∃ as, ReadsAll s.heap its [d, d, d, d, d, d] as ∧ (d.hasDict = true → sysModules ∉ as) := by
    cases rv with
    | cons r1 rv => cases rv with
      | cons r2 rv => cases rv with
        | cons r3 rv => cases rv with
          | cons r4 rv => cases rv with
            | cons r5 rv => cases rv with
              | cons r6 rv =>
                cases rv
                obtain ⟨a1, p1, m1⟩ := hT.reads I r1
                obtain ⟨a2, p2, m2⟩ := hT.reads I r2
                obtain ⟨a3, p3, m3⟩ := hT.reads I r3
                obtain ⟨a4, p4, m4⟩ := hT.reads I r4
                obtain ⟨a5, p5, m5⟩ := hT.reads I r5
                obtain ⟨a6, p6, m6⟩ := hT.reads I r6
                refine ⟨_, .cons p1 (.cons p2 (.cons p3 (.cons p4 (.cons p5 (.cons p6 .nil))))), fun hd => ?_⟩
                simp only [List.mem_append, List.not_mem_nil, or_false, not_or]
                exact ⟨m1 hd, m2 hd, m3 hd, m4 hd, m5 hd, m6 hd⟩
  obtain ⟨as, hr, hm⟩ := ra
  have R : Reads s.heap (.ref p) (six d) (p :: as) := Reads.list ho rfl rfl hr
  refine repr_of_reads' R hs (fun hx => ?_) hg (by omega) (fun b o e => e) (fun h' u tk k => ?_) hz
  · have hx' : d.hasDict = true := by
      have y : (d.hasDict || (d.hasDict || (d.hasDict || (d.hasDict || (d.hasDict || (d.hasDict || false)))))) = true := hx
      cases c : d.hasDict with
      | true => rfl
      | false =>
        rw [c] at y
        cases y
    exact fun hmem => (List.mem_cons.mp hmem).elim (fun z => hne z.symm) (hm hx')
  · exact ⟨.str _, H, I.kept (t' := tk) k, ⟨_, rfl⟩, q⟩
end
end WT

set_option Elab.async false
set_option linter.all false
set_option maxRecDepth 100000
set_option maxHeartbeats 4000000
/-! Promises that hold where no object is being written out around the call (repr asks for that). -/
namespace WG
open PySem L2 PyProof.Rows
/-- as FnOk, where nothing is being written out around -/
structure FnG (P : Program) (w : World) (K : PySem.W.Frag) (mg : Str → Option Value) (base : Heap) (k : Nat) (f : Addr) (fd : FuncData) (ps : List Str) (sp : Sp) : Prop where
  len : ∀ us H Q E, sp us H Q E → us.length = ps.length
  run : ∀ (A : Around) (outer : List Env) (s : Shared) (H : Hp) (args : Args) (us : List Value) (vs : List V) (Q : VK) (E : XK), Room k A → A.guards = some [] → Env0 P w K mg base A outer s H → BindsTo s fd args (ps.zip us) → Vals vs us →
    sp vs H Q E → codeAny (model P w) A (.call (.ref f) args) (CR CX0 outer P w H s Q E) s
section
variable {P : Program} {w : World} {K : PySem.W.Frag} {mg mb : Str → Option Value} {base : Heap} {k : Nat} {f : Addr} {N ps : List Str} {sp : Sp}
theorem okG {x qual : Str} {st : Stmt} {fd : FuncData} (F : Fun K x qual st f fd) (S : FnScope N ps (defScope st)) (len : ∀ vs H Q E, sp vs H Q E → vs.length = ps.length)
    (hbody : ∀ (cdv : Value) (A : Around) (outer : List Env) (s : Shared) (H : Hp) (vs : List V) (Q : VK) (E : XK), Room k (A.deeper (envOfC qual (defScope st) s.heap.objs.size f cdv)) → A.guards = some [] → sp vs H Q E →
      ∃ t, PSs (cxOf CX0 P w K mg base N qual (defScope st) f cdv A outer s H E).nox (defBody st) t ∧ t { nx := fun _ H' => Q .non H', rt := Q } (start N vs) H) : FnG P w K mg base (k + 1) f fd ps sp := by
  rcases F.ex with ⟨_, _, kV, doc, pm, an, cdv, ct, osl, rfl, lk, hcd⟩
  refine ⟨len, fun A outer s H args us vs Q E hr hg e0 hb r hsp => ?_⟩
  have hl := len _ _ _ _ hsp
  have stays : ∀ b o, base.get? b = some o → s.heap.get? b = some o := fun b o e => (e0.bs b o e).1
  have KX : K.In s.heap := e0.mod.kin.keeps stays
  have kinds : ∀ y ∈ ps.zip us, (defScope st).names.lookup y.1 = some .local ∨ ((defScope st).names.lookup y.1 = some .cell ∧ ((cellsFrom (s.heap.objs.size + 1) (defScope st).names []).lookup y.1).isSome = true) := fun y hy => by
    rcases S.par y.1 (List.of_mem_zip (show (y.1, y.2) ∈ ps.zip us from hy)).1 with q | q
    · exact Or.inl q
    · exact Or.inr (And.intro q (PySem.W.cellsFrom_some _ _ _ (.inl q)))
  refine codeAny_call_function hr.depth (KX _ _ lk) rfl S.co S.gen rfl (PySem.W.codeRec_of KX hcd) (hb _ _ _ _ (wpAny_newFunctionEnv_cells S.kind kinds fun env he s1 x => ?_))
  subst he
  refine ⟨(e0.mod.nolimit.keeps stays).keeps x.toInCall.keep, codeAny_func ?_⟩
  obtain ⟨t, ht, hq⟩ := hbody cdv A outer s H vs Q E (hr.deeper _) hg hsp
  have I := inv_start (CX := CX0) S hr.hd e0 hl (E := E) r x
  refine wpAny_mono (ht.nox.run [] s1 (start N vs) H _ I hq) (fun fl s' hs => ?_) fun e s' hs => hs
  cases fl with
  | next => exact let ⟨_, H', J, q⟩ := hs; ⟨.non, H', J.os, J.bare, J.base, J.hok, rfl, q⟩
  | ret u => exact let ⟨v, _, H', J, rv, q⟩ := hs; ⟨v, H', J.os, J.bare, J.base, J.hok, rv, q⟩
  | brk => exact let ⟨_, _, _, q⟩ := hs; q.elim
  | cont => exact let ⟨_, _, _, q⟩ := hs; q.elim
end
section
variable {X : Cx} {k : Nat} {f : Addr} {fd : FuncData} {ps : List Str} {sp : Sp} {E : XK} {x : Str} {e : Expr} {es : List Expr} {t : TA} {p pos : Pos}
theorem pe_callG (F : FnG X.prog X.w X.K X.mg X.base k f fd ps sp) (hr : Room k X.A) (hgd : X.A.guards = some []) (hm : X.mg x = some (.ref f)) (hk : PySem.W.keepIn X.K (.ref f) = true) (hb : L2.Binds X.K fd ps []) (ha : PA X (e :: es) t) (hg : Gl X x := by rfl)
    (hdb : (x == ("__debug__" : Str)) = false := by decide) (he : starEach (e :: es) X.env = (false, eval e X.env) :: starEach es X.env := by rfl) (hpl : (backTo pos (starEach es X.env)).any (·.1) = false := by rfl) :
    PE X (.Call (.Name x p) (e :: es) [] pos) (tCall sp [] E t) := by
  refine ⟨fun pins s σ H Q I h => ?_⟩
  refine wpAny_Call_Name_kw (ld_glob I hg hm (PySem.W.callWith_K (h₀ := X.base) I.ok.mod.kin hk (thn (ha.run pos pins s σ H _ I h) fun us s1 ⟨vs, H1, I1, r, q⟩ => ⟨I1.kIn, ?_⟩) he hpl) hdb)
  have r2 : Vals (vs ++ []) (us ++ []) := r.append .nil
  have hl : (us ++ []).length = ps.length := by rw [← r2.length]; exact F.len _ _ _ _ q
  refine wpAny_call (codeAny_mono (F.run X.A X.stack s1 H1 ⟨us, []⟩ (us ++ []) (vs ++ []) Q E hr hgd I1.env0 (hb s1 us I1.kIn hl) r2 q) fun r' s' hq => ?_)
  cases r' with
  | error er => exact pass0 pins σ H1 s1 er s' I1 hq
  | ok fl =>
    cases fl with
    | ret u => exact I1.after hq
    | _ => exact (show False from hq).elim
end
/-! ### the end -/
section
variable {P : Program} {w : World} {K : PySem.W.Frag} {mg mb : Str → Option Value} {k : Nat} {fa a : Addr} {fd : FuncData} {x : Str} {sp : Sp} {s1 : Shared} {vs : List Value} {ns : List Int}
/-- from an abstract heap that tracks the script alone, or nothing -/
theorem endG_from (H : Hp) (hO : Only H) (hS : SqL K H a (ns.map V.int)) (hok : HOk P w H s1.heap) (hA : ∀ b, H b ≠ none → b = a) (hK : H a ≠ none → K.lookup a = none) (KX : K.In s1.heap) (hns : s1.heap.Ns mainGlobals mg) (hb : s1.heap.Ns builtinsNs mb)
    (hbb : ∀ x : Str, x ≠ "__name__" → mb x = bootBuiltins x) (hlim : s1.heap.NoLimit) (hg : s1.gens = #[]) (ha : s1.heap.get? a = some { cls := .type "list", data := .seq vs.toArray }) (hr : Room k callerA)
    (F : ∀ base : Heap, K.In base → base.Ns mainGlobals mg → FnG P w K mg base k fa fd [x] sp) (hbind : ∀ (s : Shared) (u : Value), BindsTo s fd ⟨[u], []⟩ [(x, u)]) (hsp : sp [.ref a] H (fun v _ => v = .bl true) fun _ _ _ => False) :
    codeAny (model P w) callerA (.call (.ref fa) ⟨[.ref a], []⟩) (fun r s' => r = .ok (.ret (.bool true)) ∧ OldK s1.heap s'.heap ∧ s'.os = s1.os ∧ AllBare s'.gens) s1 := by
  have free : ∀ {b : Addr}, (∀ {o : Obj}, s1.heap.get? b = some o → b = a → False) → ∀ {o : Obj}, s1.heap.get? b = some o → H b = none := fun {b} hn o e => by
    cases q : H b with
    | none => rfl
    | some u => exact (hn e (hA b (by rw [q]; simp))).elim
  have dict : ∀ {b : Addr} {m : Str → Option Value}, s1.heap.Ns b m → (hidT s1.heap H).Ns b m := fun {b m} ⟨o, es, ep, e, d, r⟩ => by
    refine ⟨o, es, ep, hidT_get e (free (fun {o'} e' eb => ?_) e), d, r⟩
    subst eb
    rw [ha] at e
    cases e
    exact nomatch (show Data.seq vs.toArray _ = Data.dict es ep from d)
  have kin : K.In (hidT s1.heap H) := fun b o e => by
    refine hidT_get (KX b o e) ?_
    cases q : H b with
    | none => rfl
    | some u =>
      have eb : b = a := hA b (by rw [q]; simp)
      exact nomatch (eb ▸ e).symm.trans (hK (by rw [← eb, q]; simp))
  have md : Mod K mg (hidT s1.heap H) := ⟨kin, dict hns, ⟨mb, dict hb, hbb⟩, let ⟨mc, h1, h2⟩ := hlim; ⟨mc, dict h1, h2⟩⟩
  have e0 : Env0 P w K mg (hidT s1.heap H) callerA [] s1 H := ⟨rfl, md, fun b o e => of_hidT e, Nat.le_of_eq (hidT_size _ _), trivial, fun b hb => absurd (show b ∈ ([] : List Addr) from hb) (by simp), hok, .of_eq hg⟩
  refine codeAny_mono ((F _ kin (dict hns)).run callerA [] s1 H ⟨[.ref a], []⟩ [.ref a] [.ref a] _ _ hr rfl e0 (hbind s1 (.ref a)) (.cons rfl .nil) hsp) fun r s' h => ?_
  cases r with
  | error e => exact False.elim (show False from h)
  | ok fl =>
    cases fl with
    | next => exact False.elim h
    | brk => exact False.elim h
    | cont => exact False.elim h
    | ret u =>
      rcases h with ⟨v, H', os, bare, un, hok', r', q⟩
      cases (q : v = .bl true)
      cases (r' : u = Value.bool true)
      refine And.intro rfl (And.intro (OldK.of_keep fun b o e => ?_) ⟨os, bare⟩)
      rcases hO b with z | ⟨ob, _, z⟩
      · exact un.keep b o e z (by intro y; exact absurd (show b ∈ ([] : List Addr) from y) (by simp)) (by simp)
      · obtain ⟨e1, _⟩ := hok b _ z
        obtain ⟨e2, _⟩ := hok' b _ (un.frzs b ob _ z)
        rw [e] at e1
        cases e1
        exact e2
theorem walkG {l : PySem.W.OpenLaw} {n : Nat} {q : Program} {loose : List Str} {XP : (Str → Option Value) → Heap → Prop} {YP : World → Heap → Prop} {d : DefRec} {KP : Params → PySem.W.Frag} {spL : PySem.W.Frag → Sp}
    (hn : l.most = some n) (hn2 : n ≤ sizeLine) (hdf : d.params.defaults = []) (hr : Room k callerA) (hY : ∀ (w : World) (h : Heap), YP w h → (KP w.params).In h)
    (F : ∀ (w : World) (mg : Str → Option Value) (fa : Addr) (h : Heap), (KP w.params).In h → h.Ns mainGlobals mg → mg d.name = some (.ref fa) →
      ∃ fd : FuncData, (∀ (s : Shared) (u : Value), BindsTo s fd ⟨[u], []⟩ [(x, u)]) ∧ ∀ base : Heap, (KP w.params).In base → base.Ns mainGlobals mg → FnG l.prog w (KP w.params) mg base k fa fd [x] (spL (KP w.params)))
    (hsp : ∀ (K : PySem.W.Frag) (H : Hp) (a : Addr) (ns : List Int), ns.length ≤ n → Only H → SqL K H a (ns.map V.int) → spL K [.ref a] H (fun v _ => v = .bl true) fun _ _ _ => False) :
    PySem.W.WalkO q loose XP YP l.row.toRowW d [] (fun f vs => PySem.call f vs) := by
  refine Att.attach_call hn hdf fun w s0 s1 mg mb fa o pm cd doc a vs ns G Y ho hd hcd hmg ha hi hlen hg => ?_
  have KX := hY w _ Y
  have hl := Nat.le_trans hlen hn2
  have rv := vals_ints hi
  have lenV := hi.length
  obtain ⟨fd, hbind, hF⟩ := F w mg fa _ KX G.T.g hmg
  cases hk : (KP w.params).lookup a with
  | some ob =>
    have e := KX a ob hk
    rw [ha] at e
    cases e
    have hS : SqL (KP w.params) (fun _ => none) a (ns.map V.int) := .inr ⟨_, vs.toArray, _, hk, rfl, rfl, rfl, by rw [List.size_toArray, lenV]; exact hl, by simpa using rv⟩
    exact endG_from (fun _ => none) (fun _ => .inl rfl) hS (fun b u z => by cases (show (none : Option HO) = some u from z)) (fun b z => absurd rfl z) (fun z => absurd rfl z) KX G.T.g G.T.b G.T.builtins G.T.nolimit hg ha hr hF hbind (hsp _ _ a ns hlen (fun _ => .inl rfl) hS)
  | none =>
    have hin : (fun b => if b = a then some (HO.frz { cls := .type "list", data := .seq vs.toArray } (.lst (ns.map V.int))) else none : Hp) a = some (.frz { cls := .type "list", data := .seq vs.toArray } (.lst (ns.map V.int))) := if_pos rfl
    have out : ∀ b, b ≠ a → (fun b => if b = a then some (HO.frz { cls := .type "list", data := .seq vs.toArray } (.lst (ns.map V.int))) else none : Hp) b = none := fun b hb => if_neg hb
    have hO : Only (fun b => if b = a then some (HO.frz { cls := .type "list", data := .seq vs.toArray } (.lst (ns.map V.int))) else none) := fun b => by
      by_cases hb : b = a
      · rw [hb]
        exact .inr ⟨_, _, hin⟩
      · exact .inl (out b hb)
    have hS : SqL (KP w.params) (fun b => if b = a then some (HO.frz { cls := .type "list", data := .seq vs.toArray } (.lst (ns.map V.int))) else none) a (ns.map V.int) := .inl (.inr ⟨_, hin⟩)
    refine endG_from _ hO hS (fun b u z => ?_) (fun b z => ?_) (fun _ => hk) KX G.T.g G.T.b G.T.builtins G.T.nolimit hg ha hr hF hbind (hsp _ _ a ns hlen hO hS)
    · by_cases hb : b = a
      · subst hb
        have z' := hin.symm.trans z
        cases z'
        exact ⟨ha, Nat.le_trans (Nat.le_of_eq (List.length_map ..)) hl, vs, _, rv, ha⟩
      · have z' := (out b hb).symm.trans z
        cases z'
    · by_cases hb : b = a
      · exact hb
      · exact absurd (out b hb) z
end
end WG

set_option Elab.async false
set_option linter.all false
set_option maxRecDepth 100000
set_option maxHeartbeats 8000000
/-! Errors with drawn arguments: right, and law. -/
namespace WK
open PySem L2 PyProof.Rows WE WT WG
open PySem.W (Frag kitOne)
abbrev sRight : Stmt := top 17
abbrev sLaw : Stmt := top 18
def veC : List Value := [.type "ValueError", .type "Exception", .type "BaseException", .type "object"]
def reC : List Value := [.type "RuntimeError", .type "Exception", .type "BaseException", .type "object"]
def oeC : List Value := [.type "OverflowError", .type "ArithmeticError", .type "Exception", .type "BaseException", .type "object"]
def ieC : List Value := [.type "IndexError", .type "LookupError", .type "Exception", .type "BaseException", .type "object"]
def aeC : List Value := [.type "ArithmeticError", .type "Exception", .type "BaseException", .type "object"]
abbrev sI4 : Stmt := inClass (top 6) 0
abbrev sI6 : Stmt := inClass (top 7) 0
abbrev sI7 : Stmt := inClass (top 8) 0
abbrev sI8 : Stmt := inClass (top 9) 0
abbrev sI9 : Stmt := inClass (top 10) 0
abbrev sI10 : Stmt := inClass (top 11) 0
/-- how the classes are made -/
structure TMk (K : Frag) (mg : Str → Option Value) (C I : Nat → Addr) : Prop where
  m0 : PySem.W.excIn K (C 0) veC "ValueError.__new__" = true
  m1 : PySem.W.excIn K (C 1) veC "ValueError.__new__" = true
  m2 : PySem.W.excIn K (C 2) veC "ValueError.__new__" = true
  m3 : PySem.W.excIn K (C 3) veC "ValueError.__new__" = true
  m5 : PySem.W.excIn K (C 5) veC "ValueError.__new__" = true
  i4 : ErrI K (C 4) (I 4) veC "ValueError.__new__" "line"
  i6 : ErrI K (C 6) (I 6) keChain "LookupError.__new__" "name"
  i7 : ErrI K (C 7) (I 7) reC "RuntimeError.__new__" "value"
  i8 : ErrI K (C 8) (I 8) oeC "OverflowError.__new__" "limit"
  i9 : ErrI K (C 9) (I 9) ieC "IndexError.__new__" "many"
  i10 : ErrI K (C 10) (I 10) aeC "ArithmeticError.__new__" "reason"
  rep : mg "repr" = none
section
variable {P : Program} {w : World} {K : PySem.W.Frag} {mg : Str → Option Value} {base : Heap} {C I : Nat → Addr}
theorem scI4 : FnScope ["self", "line"] ["self", "line"] (defScope sI4) := ⟨rfl, rfl, rfl, by decide +kernel, rfl, by decide +kernel, by decide +kernel⟩
theorem ok_i4 {f : Addr} {fd : FuncData} (F : Fun K "__init__" "ParseError.__init__" sI4 f fd) (T : ErrT K (C 4)) (M : ErrI K (C 4) (I 4) veC "ValueError.__new__" "line") : FnOk P w K mg base CX0 1 f fd ["self", "line"] (spErrI (C 4) "line") := by
  refine F.ok scI4 (fun vs H Q E h => ?_) (fun cdv A outer s H vs Q E hr h => ?_)
  · obtain ⟨a, v, rfl, _⟩ := h
    rfl
  · obtain ⟨a, v, rfl, ha, q⟩ := h
    refine ⟨_, pss_one (ps_setE PySem.F.store_ValueError T M (pv 0) (pv 1)), ?_⟩
    exact ⟨_, rfl, _, rfl, a, rfl, ha, fun dx hd hne => q dx hd hne⟩
theorem scI6 : FnScope ["self", "name"] ["self", "name"] (defScope sI6) := ⟨rfl, rfl, rfl, by decide +kernel, rfl, by decide +kernel, by decide +kernel⟩
theorem ok_i6 {f : Addr} {fd : FuncData} (F : Fun K "__init__" "UnknownName.__init__" sI6 f fd) (T : ErrT K (C 6)) (M : ErrI K (C 6) (I 6) keChain "LookupError.__new__" "name") : FnOk P w K mg base CX0 1 f fd ["self", "name"] (spErrI (C 6) "name") := by
  refine F.ok scI6 (fun vs H Q E h => ?_) (fun cdv A outer s H vs Q E hr h => ?_)
  · obtain ⟨a, v, rfl, _⟩ := h
    rfl
  · obtain ⟨a, v, rfl, ha, q⟩ := h
    refine ⟨_, pss_one (ps_setE store_KE T M (pv 0) (pv 1)), ?_⟩
    exact ⟨_, rfl, _, rfl, a, rfl, ha, fun dx hd hne => q dx hd hne⟩
theorem scI7 : FnScope ["self", "value"] ["self", "value"] (defScope sI7) := ⟨rfl, rfl, rfl, by decide +kernel, rfl, by decide +kernel, by decide +kernel⟩
theorem ok_i7 {f : Addr} {fd : FuncData} (F : Fun K "__init__" "InvalidNumber.__init__" sI7 f fd) (T : ErrT K (C 7)) (M : ErrI K (C 7) (I 7) reC "RuntimeError.__new__" "value") : FnOk P w K mg base CX0 1 f fd ["self", "value"] (spErrI (C 7) "value") := by
  refine F.ok scI7 (fun vs H Q E h => ?_) (fun cdv A outer s H vs Q E hr h => ?_)
  · obtain ⟨a, v, rfl, _⟩ := h
    rfl
  · obtain ⟨a, v, rfl, ha, q⟩ := h
    refine ⟨_, pss_one (ps_setE PySem.F.store_RuntimeError T M (pv 0) (pv 1)), ?_⟩
    exact ⟨_, rfl, _, rfl, a, rfl, ha, fun dx hd hne => q dx hd hne⟩
theorem scI8 : FnScope ["self", "limit"] ["self", "limit"] (defScope sI8) := ⟨rfl, rfl, rfl, by decide +kernel, rfl, by decide +kernel, by decide +kernel⟩
theorem ok_i8 {f : Addr} {fd : FuncData} (F : Fun K "__init__" "TooMany.__init__" sI8 f fd) (T : ErrT K (C 8)) (M : ErrI K (C 8) (I 8) oeC "OverflowError.__new__" "limit") : FnOk P w K mg base CX0 1 f fd ["self", "limit"] (spErrI (C 8) "limit") := by
  refine F.ok scI8 (fun vs H Q E h => ?_) (fun cdv A outer s H vs Q E hr h => ?_)
  · obtain ⟨a, v, rfl, _⟩ := h
    rfl
  · obtain ⟨a, v, rfl, ha, q⟩ := h
    refine ⟨_, pss_one (ps_setE PySem.F.store_OverflowError T M (pv 0) (pv 1)), ?_⟩
    exact ⟨_, rfl, _, rfl, a, rfl, ha, fun dx hd hne => q dx hd hne⟩
theorem scI9 : FnScope ["self", "many"] ["self", "many"] (defScope sI9) := ⟨rfl, rfl, rfl, by decide +kernel, rfl, by decide +kernel, by decide +kernel⟩
theorem ok_i9 {f : Addr} {fd : FuncData} (F : Fun K "__init__" "NothingToUndo.__init__" sI9 f fd) (T : ErrT K (C 9)) (M : ErrI K (C 9) (I 9) ieC "IndexError.__new__" "many") : FnOk P w K mg base CX0 1 f fd ["self", "many"] (spErrI (C 9) "many") := by
  refine F.ok scI9 (fun vs H Q E h => ?_) (fun cdv A outer s H vs Q E hr h => ?_)
  · obtain ⟨a, v, rfl, _⟩ := h
    rfl
  · obtain ⟨a, v, rfl, ha, q⟩ := h
    refine ⟨_, pss_one (ps_setE PySem.F.store_IndexError T M (pv 0) (pv 1)), ?_⟩
    exact ⟨_, rfl, _, rfl, a, rfl, ha, fun dx hd hne => q dx hd hne⟩
theorem scI10 : FnScope ["self", "reason"] ["self", "reason"] (defScope sI10) := ⟨rfl, rfl, rfl, by decide +kernel, rfl, by decide +kernel, by decide +kernel⟩
theorem ok_i10 {f : Addr} {fd : FuncData} (F : Fun K "__init__" "Refused.__init__" sI10 f fd) (T : ErrT K (C 10)) (M : ErrI K (C 10) (I 10) aeC "ArithmeticError.__new__" "reason") : FnOk P w K mg base CX0 1 f fd ["self", "reason"] (spErrI (C 10) "reason") := by
  refine F.ok scI10 (fun vs H Q E h => ?_) (fun cdv A outer s H vs Q E hr h => ?_)
  · obtain ⟨a, v, rfl, _⟩ := h
    rfl
  · obtain ⟨a, v, rfl, ha, q⟩ := h
    refine ⟨_, pss_one (ps_setE PySem.F.store_ArithmeticError T M (pv 0) (pv 1)), ?_⟩
    exact ⟨_, rfl, _, rfl, a, rfl, ha, fun dx hd hne => q dx hd hne⟩
def nmQ : List Str := ["_law_dice_here", "_law_thing", "_law_base", "_law_due", "_law_none", "_law_others", "_law_kept", "_law_one"]
theorem scQ : FnScope nmQ ["_law_dice_here"] (defScope sRight) := ⟨rfl, rfl, rfl, by decide +kernel, rfl, by decide +kernel, by decide +kernel⟩
def spRight : Sp := fun vs H Q _ => ∃ p : Addr, vs = [.ref p] ∧ DiceAt H p ∧ ∀ H', DiceAt H' p → But p H H' → Q (.bl true) H'
theorem _root_.L2.Room.units200 {k : Nat} {A : Around} (r : Room k A) : A.units + 200 < cLine := by
  have h := r.un
  omega
/-- a thing that can be written out, whatever becomes of the dice -/
def Good (K : Frag) (p : Addr) (H : Hp) (v : V) : Prop := ∃ d, (six d).showable = true ∧ (six d).depth < 20 ∧ (six d).shown.length ≤ sizeLine ∧ ∀ H', But p H H' → Thg K H' v d
theorem Good.but {p : Addr} {H H1 : Hp} {v : V} (g : Good K p H v) (b : But p H H1) : Good K p H1 v := by
  obtain ⟨d, g1, g2, g3, g4⟩ := g
  exact ⟨d, g1, g2, g3, fun H' b' => g4 H' (b.trans b')⟩
def things (t0 t1 l1 d1 : Addr) : List V := [.int 0, .str "", .str "a", .non, .ref t0, .ref t1, .int (10 ^ (30 : Int).toNat), .bl true, .ref l1, .ref d1, .int (-7)]
theorem things_good {p t0 t1 l1 d1 t2 : Addr} {H : Hp} (h0 : H t0 = some (.tup [])) (h1 : H t1 = some (.tup [.str "a", .int 1])) (h2 : H l1 = some (.lst [.int 1])) (h3 : H d1 = some (.dK [(Sum.inr "a", .ref t2)])) (h4 : H t2 = some (.tup []))
    (n0 : t0 ≠ p) (n1 : t1 ≠ p) (n2 : l1 ≠ p) (n3 : d1 ≠ p) (n4 : t2 ≠ p) : ∀ v ∈ things t0 t1 l1 d1, Good K p H v := by
  intro v hv
  unfold things at hv
  simp only [List.mem_cons, List.not_mem_nil, or_false] at hv
  rcases hv with rfl | rfl | rfl | rfl | rfl | rfl | rfl | rfl | rfl | rfl | rfl
  · exact ⟨.int 0, by decide +kernel, by decide +kernel, by decide +kernel, fun H' _ => .dp (.int 0) rfl⟩
  · exact ⟨.str "", by decide +kernel, by decide +kernel, by decide +kernel, fun H' _ => .dp (.str "") rfl⟩
  · exact ⟨.str "a", by decide +kernel, by decide +kernel, by decide +kernel, fun H' _ => .dp (.str "a") rfl⟩
  · exact ⟨.none, by decide +kernel, by decide +kernel, by decide +kernel, fun H' _ => .dp .non rfl⟩
  · exact ⟨.tuple [], by decide +kernel, by decide +kernel, by decide +kernel, fun H' b => .dp (.tup (SqT.of (b _ _ h0 n0)) .nil) rfl⟩
  · exact ⟨.tuple [.str "a", .int 1], by decide +kernel, by decide +kernel, by decide +kernel, fun H' b => .dp (.tup (SqT.of (b _ _ h1 n1)) (.cons (.str "a") (.cons (.int 1) .nil))) rfl⟩
  · exact ⟨.int (10 ^ (30 : Int).toNat), by decide +kernel, by decide +kernel, by decide +kernel, fun H' _ => .dp (.int _) rfl⟩
  · exact ⟨.bool true, by decide +kernel, by decide +kernel, by decide +kernel, fun H' _ => .dp (.bl true) rfl⟩
  · exact ⟨.list [.int 1], by decide +kernel, by decide +kernel, by decide +kernel, fun H' b => .dp (.lst (SqL.of (b _ _ h2 n2)) (.cons (.int 1) .nil)) rfl⟩
  · exact ⟨.dict [(.str "a", .tuple [])], by decide +kernel, by decide +kernel, by decide +kernel, fun H' b => .dic (b _ _ h3 n3) (b _ _ h4 n4)⟩
  · exact ⟨.int (-7), by decide +kernel, by decide +kernel, by decide +kernel, fun H' _ => .dp (.int (-7)) rfl⟩
theorem dpAll_strs {H : Hp} : ∀ ws : List Str, DpAll K H (ws.map V.str) (ws.map PyData.str)
  | [] => .nil
  | w :: ws => .cons (.str w) (dpAll_strs ws)
/-- the test of what was told against what is due -/
theorem ne_due {H : Hp} {D z : Addr} {ks : List Nat} {ws : List Str} {Q : VK} (hD : H D = some (.lst (ks.map fun k => V.str (dueE k)))) (hz : H z = some (.lst (ws.map V.str))) (e : ks.map dueE = ws) (sh : SeqAt.shaped (.list (ws.map PyData.str)) = true)
    (q : Q (.bl false) H) : rNeD K (.ref D) (.ref z) H Q := by
  have e1 : (ks.map fun k => V.str (dueE k)) = ws.map V.str := by rw [← e, List.map_map]; rfl
  rw [e1] at hD
  refine ⟨_, _, .lst (SqL.of hD) (dpAll_strs ws), .lst (SqL.of hz) (dpAll_strs ws), sh, sh, ?_⟩
  rw [SeqAt.eqv_refl _ (SeqAt.canLay_of_shaped sh)]
  exact q
/-- errors and what they are -/
def ErrsOn (C : Nat → Addr) (H : Hp) (es : List Addr) (ks : List Nat) : Prop := Paired (fun (e : Addr) (k : Nat) => k < 11 ∧ ErrAt H e (C k)) es ks
theorem ErrsOn.at {H : Hp} : ∀ {es : List Addr} {ks : List Nat} {j : Nat} {e : Addr}, ErrsOn C H es ks → es[j]? = some e → ∃ k, ks[j]? = some k ∧ k < 11 ∧ ErrAt H e (C k)
  | _, _, j, e, .nil, h => by simp at h
  | _, _, 0, e, .cons h _, hj => by
    obtain rfl := Option.some.inj hj
    exact ⟨_, rfl, h.1, h.2⟩
  | _, _, j + 1, e, .cons _ t, hj => by
    obtain ⟨k, h1, h2⟩ := ErrsOn.at t (j := j) (e := e) hj
    exact ⟨k, h1, h2⟩
theorem comp_kinds {H : Hp} {Q : VK} {i : Nat} {b : Addr} {es : List Addr} {ks : List Nat} {E : XK} {s0 s1 s2 s3 s4 s5 s6 s7 : Option V} (hi : ([s0, s1, s2, s3, s4, s5, s6, s7] : L2.St)[i]? = some (some (.ref b))) (hb : H b = some (.lst (es.map V.ref))) (hk : ErrsOn C H es ks) (hz : ks.length < 1000)
    (q : ∀ D H', H D = none → Same H H' → H' D = some (.lst (ks.map fun k => V.str (dueE k))) → Q (.ref D) H') :
    tLc (iList K (tVar i)) (gName 7) tYes (tCall (spKinds C) [] E (tCons (tVar 7) tNil)) (([(("_law_one" : Str), 7)] : List (Str × Nat)).map (·.2)) [s0, s1, s2, s3, s4, s5, s6, s7] H Q := by
  have hl : es.length = ks.length := Paired.length hk
  refine ⟨_, hi, b, rfl, ⟨_, SqL.of hb⟩, fun D hD => ?_⟩
  refine lc_list (K := K) (a := b) (xs := es.map V.ref) (fun j H' => Same H H' ∧ H' D = some (.lst ((ks.take j).map fun k => V.str (dueE k)))) ⟨same_upd hD, upd_same⟩ (fun j H' _ h => h.1.seq (SqL.of hb)) ?_ ?_
  · rintro j x H' hx ⟨hs, hd⟩
    obtain ⟨e, he, rfl⟩ : ∃ e, es[j]? = some e ∧ x = V.ref e := by
      rw [List.getElem?_map] at hx
      cases z : es[j]? with
      | none =>
        rw [z] at hx
        cases hx
      | some e =>
        rw [z] at hx
        exact ⟨e, rfl, (Option.some.inj hx).symm⟩
    obtain ⟨k, hkj, hk1, hE⟩ := hk.at he
    refine ⟨rfl, _, rfl, e, k, rfl, hk1, hE.same hs, fun H2 hs2 => ⟨_, hs2 _ _ hd, ?_, ?_, ?_⟩⟩
    · rw [List.length_map, List.length_take, sizeLine_eq]
      omega
    · intro c o z
      rw [upd_ne (ne_of_none z hD)]
      exact hs2 c o (hs c o z)
    · rw [upd_same, List.take_add_one, hkj, List.map_append]
      rfl
  · rintro H' ⟨hs, hd⟩
    rw [List.length_map, hl, List.take_length] at hd
    exact q D H' hD hs hd
theorem same_errI {H : Hp} {a d : Addr} {o u : HO} (ha : H a = none) (hd : H d = none) : Same H (upd (upd H d o) a u) := fun b x e => by
  rw [upd_ne (ne_of_none e ha), upd_ne (ne_of_none e hd)]
  exact e
theorem same_app {H : Hp} {b a : Addr} {o o' u : HO} (hb : H b = none) (ha : upd H b o a = none) : Same H (upd (upd (upd H b o) a u) b o') := fun c x e => by
  have n1 := ne_of_none e hb
  have n2 : c ≠ a := ne_of_none (show upd H b o c = some x by rw [upd_ne n1]; exact e) ha
  rw [upd_ne n1, upd_ne n2, upd_ne n1]
  exact e
def dueA : List Str := ["x....xx...........", ".x...xx...........", "..x..xx...........", "...x.xx...........", "....xxx..........."]
theorem test_go {r : R2} {ta tb : TE} {x y : TS} {D : Ends} {σ : L2.St} {H : Hp} (h : ta σ H fun c H1 => tb σ H1 fun d H2 => r c d H2 fun z H3 => ∃ k, z = .bl k ∧ if k = true then x D σ H3 else y D σ H3) : tIfS (tTest (tOp r ta tb)) x y D σ H := h
def dueB : List Str := [".......x....x....x", "........x....x....", ".........x....x.x.", "..........x....x.x", "...........x....x."]
theorem ok_right {f fK fO : Addr} {fd fdK fdO fd4 fd6 fd7 fd8 fd9 fd10 : FuncData} (F : Fun K "_law_right" "_law_right" sRight f fd) (T : TErr K mg C) (M : TMk K mg C I)
    (gK : mg "_law_kinds" = some (.ref fK)) (FK : Fun K "_law_kinds" "_law_kinds" sKinds fK fdK) (bK : L2.Binds K fdK ["_law_error"] [])
    (gO : mg "_law_one_of" = some (.ref fO)) (FO : Fun K "_law_one_of" "_law_one_of" sOne fO fdO) (bO : L2.Binds K fdO ["_law_dice_here", "_law_items"] []) (GO : FnOk P w K mg base CX0 2 fO fdO ["_law_dice_here", "_law_items"] spOne)
    (G4 : FnOk P w K mg base CX0 1 (I 4) fd4 ["self", "line"] (spErrI (C 4) "line")) (b4 : L2.Binds K fd4 ["self", "line"] []) (G6 : FnOk P w K mg base CX0 1 (I 6) fd6 ["self", "name"] (spErrI (C 6) "name")) (b6 : L2.Binds K fd6 ["self", "name"] []) (G7 : FnOk P w K mg base CX0 1 (I 7) fd7 ["self", "value"] (spErrI (C 7) "value")) (b7 : L2.Binds K fd7 ["self", "value"] []) (G8 : FnOk P w K mg base CX0 1 (I 8) fd8 ["self", "limit"] (spErrI (C 8) "limit")) (b8 : L2.Binds K fd8 ["self", "limit"] []) (G9 : FnOk P w K mg base CX0 1 (I 9) fd9 ["self", "many"] (spErrI (C 9) "many")) (b9 : L2.Binds K fd9 ["self", "many"] []) (G10 : FnOk P w K mg base CX0 1 (I 10) fd10 ["self", "reason"] (spErrI (C 10) "reason")) (b10 : L2.Binds K fd10 ["self", "reason"] []) : FnG P w K mg base 4 f fd ["_law_dice_here"] spRight := by
  have GK : FnOk P w K mg base CX0 1 fK fdK ["_law_error"] (spKinds C) := ok_kinds FK T
  refine okG F scQ (fun vs H Q E h => ?_) (fun cdv A outer s H vs Q E hr hgd h => ?_)
  · obtain ⟨p, rfl, _⟩ := h
    rfl
  · obtain ⟨p, rfl, hD, q⟩ := h
    have hr1 : Room 1 _ := hr.mono (by decide)
    have hr2 : Room 2 _ := hr.mono (by decide)
    have hu := Nat.lt_of_le_of_lt (Nat.add_le_add_left (by decide : 64 ≤ 200) _) hr1.units200
    have hu2 := Nat.lt_of_le_of_lt (Nat.add_le_add_left (by decide : 100 ≤ 200) _) hr1.units200
    refine ⟨_, (C8.pss_cut (ps_set (i := 1) scQ.nd rfl (Or.inl rfl) (pe_call GO hr2 rfl gO FO.kp bO .nil pass0 (pa_cons (pv 0) (pa_cons (pe_lst (pa_cons pe_int (pa_cons pe_str (pa_cons pe_str (pa_cons pe_non (pa_cons (pe_tup pa_nil) (pa_cons (pe_tup (pa_cons pe_str (pa_cons pe_int pa_nil))) (pa_cons (pe_op op_pow pe_int pe_int) (pa_cons pe_bl (pa_cons (pe_lst (pa_cons pe_int pa_nil)) (pa_cons (pe_disp (pps_cons pe_str (pe_tup pa_nil) pps_nil) (by rfl) (by rfl) (fun z => by cases z) (by decide)) (pa_cons (pe_un un_neg pe_int) pa_nil)))))))))))) pa_nil))))
      (pss_cons (ps_set (i := 2) scQ.nd rfl (Or.inl rfl) (pe_lst (pa_cons (pe_err1 PySem.F.excBase_ValueError M.m0 T.g0 (T.err 0 (by decide)).kp (pa_cons (pv 1) pa_nil)) (pa_cons (pe_err1 PySem.F.excBase_ValueError M.m1 T.g1 (T.err 1 (by decide)).kp (pa_cons (pv 1) pa_nil)) (pa_cons (pe_err1 PySem.F.excBase_ValueError M.m2 T.g2 (T.err 2 (by decide)).kp (pa_cons (pv 1) pa_nil)) (pa_cons (pe_err1 PySem.F.excBase_ValueError M.m3 T.g3 (T.err 3 (by decide)).kp (pa_cons (pv 1) pa_nil)) (pa_cons (pe_errI (MakesBy.of PySem.F.excBase_ValueError) (T.err 4 (by decide)) M.i4 G4 hr2 b4 T.g4 (pa_cons (pv 1) pa_nil)) pa_nil)))))))
      (pss_cons (ps_expr (pe_bm PySem.F.plainAttrs_list PySem.F.slot_list_append PySem.F.type_list_append mt_append (pv 2) (pa_cons (pe_err1 PySem.F.excBase_ValueError M.m5 T.g5 (T.err 5 (by decide)).kp (pa_cons (pv 1) pa_nil)) pa_nil)))
      (pss_cons (ps_set (i := 3) scQ.nd rfl (Or.inl rfl) (pe_lst (pa_cons pe_str (pa_cons pe_str (pa_cons pe_str (pa_cons pe_str pa_nil))))))
      (pss_cons (ps_expr (pe_bm PySem.F.plainAttrs_list PySem.F.slot_list_append PySem.F.type_list_append mt_append (pv 3) (pa_cons pe_str pa_nil)))
      (C8.pss_cut (ps_if (pt_cmpR (op_neD hu) (pe_lc (own := [("_law_one", 7)]) (g := gName 7) (tt := tYes) rfl scQ.nd (pi_list (pv 2)) (blkOk_by (N := nmQ) (sc := defScope sRight) (by decide +kernel)) (fun _ _ _ _ _ => pg_name (i := 7) scQ.nd rfl (Or.inl rfl)) (fun _ _ _ _ _ => pts_nil) (fun _ _ _ _ _ => pe_call GK hr1 rfl gK FK.kp bK .nil pass0 (pa_cons (pv 7) pa_nil))) (pe_op op_cat (pv 3) (pe_lst (pa_cons pe_str pa_nil))) (nomark _)) (pss_one (ps_ret pe_bl)) pss_nil)
      (pss_cons (ps_set (i := 4) scQ.nd rfl (Or.inl rfl) (pe_lst (pa_cons (pe_err0 PySem.F.excBase_ValueError M.m0 T.g0 (T.err 0 (by decide)).kp) (pa_cons (pe_err0 PySem.F.excBase_ValueError M.m1 T.g1 (T.err 1 (by decide)).kp) (pa_cons (pe_err0 PySem.F.excBase_ValueError M.m2 T.g2 (T.err 2 (by decide)).kp) (pa_cons (pe_err0 PySem.F.excBase_ValueError M.m3 T.g3 (T.err 3 (by decide)).kp) (pa_cons (pe_err0 PySem.F.excBase_ValueError M.m5 T.g5 (T.err 5 (by decide)).kp) pa_nil)))))))
      (C8.pss_cut (ps_if (pt_cmpR (op_neD hu) (pe_lc (own := [("_law_one", 7)]) (g := gName 7) (tt := tYes) rfl scQ.nd (pi_list (pv 4)) (blkOk_by (N := nmQ) (sc := defScope sRight) (by decide +kernel)) (fun _ _ _ _ _ => pg_name (i := 7) scQ.nd rfl (Or.inl rfl)) (fun _ _ _ _ _ => pts_nil) (fun _ _ _ _ _ => pe_call GK hr1 rfl gK FK.kp bK .nil pass0 (pa_cons (pv 7) pa_nil))) (pe_op op_cat (pe_slice sl_list (pv 3) po_none (po_some pe_int)) (pe_lst (pa_cons pe_str pa_nil))) (nomark _)) (pss_one (ps_ret pe_bl)) pss_nil)
      (pss_cons (ps_set (i := 5) scQ.nd rfl (Or.inl rfl) (pe_lst (pa_cons (pe_errI (makes_KE) (T.err 6 (by decide)) M.i6 G6 hr2 b6 T.g6 (pa_cons (pv 1) pa_nil)) (pa_cons (pe_errI (MakesBy.of PySem.F.excBase_RuntimeError) (T.err 7 (by decide)) M.i7 G7 hr2 b7 T.g7 (pa_cons (pv 1) pa_nil)) (pa_cons (pe_errI (MakesBy.of PySem.F.excBase_OverflowError) (T.err 8 (by decide)) M.i8 G8 hr2 b8 T.g8 (pa_cons (pv 1) pa_nil)) (pa_cons (pe_errI (MakesBy.of PySem.F.excBase_IndexError) (T.err 9 (by decide)) M.i9 G9 hr2 b9 T.g9 (pa_cons (pv 1) pa_nil)) (pa_cons (pe_errI (MakesBy.of PySem.F.excBase_ArithmeticError) (T.err 10 (by decide)) M.i10 G10 hr2 b10 T.g10 (pa_cons (pv 1) pa_nil)) pa_nil)))))))
      (pss_cons (ps_set (i := 3) scQ.nd rfl (Or.inl rfl) (pe_lst (pa_cons pe_str (pa_cons pe_str (pa_cons pe_str (pa_cons pe_str (pa_cons pe_str pa_nil)))))))
      (C8.pss_cut (ps_if (pt_cmpR (op_neD hu) (pe_lc (own := [("_law_one", 7)]) (g := gName 7) (tt := tYes) rfl scQ.nd (pi_list (pv 5)) (blkOk_by (N := nmQ) (sc := defScope sRight) (by decide +kernel)) (fun _ _ _ _ _ => pg_name (i := 7) scQ.nd rfl (Or.inl rfl)) (fun _ _ _ _ _ => pts_nil) (fun _ _ _ _ _ => pe_call GK hr1 rfl gK FK.kp bK .nil pass0 (pa_cons (pv 7) pa_nil))) (pv 3) (nomark _)) (pss_one (ps_ret pe_bl)) pss_nil)
      (pss_cons (ps_set (i := 6) scQ.nd rfl (Or.inl rfl) (pe_lstN (pa_cons (pe_errF (pe_ix ix_list (pv 2) pe_int (fun _ _ => rfl))) (pa_cons (pe_errF (pe_ix ix_list (pv 5) pe_int (fun _ _ => rfl))) (pa_cons (pe_errF (pe_ix ix_list (pv 5) pe_int (fun _ _ => rfl))) (pa_cons (pe_errF (pe_ix ix_list (pv 5) pe_int (fun _ _ => rfl))) (pa_cons (pe_errF (pe_ix ix_list (pv 5) pe_int (fun _ _ => rfl))) (pa_cons (pe_errF (pe_ix ix_list (pv 5) pe_int (fun _ _ => rfl))) pa_nil))))))))
      (pss_one (ps_ret (pe_cmpR op_eq (pe_callB (call_repr6 hgd hu2) (by rfl) M.rep (by decide +kernel) (pa_cons (pv 6) pa_nil)) (pe_callB (call_repr6 hgd hu2) (by rfl) M.rep (by decide +kernel) (pa_cons (pe_op op_rep6 (pe_lst (pa_cons (pv 1) pa_nil)) pe_int) pa_nil)) (nomark _)))))))))))))))), ?_⟩
    -- the thing
    refine ⟨fun σ H1 => ∃ v, σ = [some (.ref p), some v, none, none, none, none, none, none] ∧ DiceAt H1 p ∧ But p H H1 ∧ Good K p H1 v, ?_, ?_⟩
    · have np : ∀ {t : Addr} {G : Hp}, Same H G → G t = none → t ≠ p := fun {t G} s n z => by
        obtain ⟨_, _, _, e, _⟩ := hD
        rw [z, s _ _ e] at n
        cases n
      refine ⟨_, rfl, (by show 0 ≤ sizeLine; decide), fun t0 h0 => ?_⟩
      have n0 := np (Same.refl H) h0
      have s0 := same_upd (o := .tup []) h0
      have a0 : upd H t0 (.tup []) t0 = some (.tup []) := upd_same
      generalize upd H t0 (.tup []) = G0 at s0 a0 ⊢
      refine ⟨(by show 2 ≤ sizeLine; decide), fun t1 h1 => ?_⟩
      have n1 := np s0 h1
      have s1 := same_upd (o := .tup [.str "a", .int 1]) h1
      have a1 : upd G0 t1 (.tup [.str "a", .int 1]) t1 = some (.tup [.str "a", .int 1]) := upd_same
      generalize upd G0 t1 (.tup [.str "a", .int 1]) = G1 at s1 a1 ⊢
      refine ⟨_, _, rfl, rfl, ⟨by decide, by decide, by decide +kernel⟩, (by show 1 ≤ sizeLine; decide), fun l1 h2 => ?_⟩
      have n2 := np (s0.trans s1) h2
      have s2 := same_upd (o := .lst [.int 1]) h2
      have a2 : upd G1 l1 (.lst [.int 1]) l1 = some (.lst [.int 1]) := upd_same
      generalize upd G1 l1 (.lst [.int 1]) = G2 at s2 a2 ⊢
      refine fun d1 h3 => ⟨(by show 0 ≤ sizeLine; decide), fun t2 h4 => ?_⟩
      have n3 := np ((s0.trans s1).trans s2) h3
      have d12 : d1 ≠ t2 := ne_of_none upd_same h4
      have n4 := np (((s0.trans s1).trans s2).trans (same_upd h3)) h4
      refine ⟨by rw [upd_ne d12]; exact upd_same, [(Sum.inr "a", .ref t2)], rfl, (by show 1 ≤ 15; decide), ?_⟩
      have s3 : Same G2 (upd (upd (upd G2 d1 (.dK [])) t2 (.tup [])) d1 (.dK [(Sum.inr "a", .ref t2)])) := same_app h3 h4
      have a3 : (upd (upd (upd G2 d1 (.dK [])) t2 (.tup [])) d1 (.dK [(Sum.inr "a", .ref t2)])) d1 = some (.dK [(Sum.inr "a", .ref t2)]) := upd_same
      have a4 : (upd (upd (upd G2 d1 (.dK [])) t2 (.tup [])) d1 (.dK [(Sum.inr "a", .ref t2)])) t2 = some (.tup []) := by rw [upd_ne d12.symm]; exact upd_same
      refine ⟨_, rfl, (by show 11 ≤ sizeLine; decide), fun q0 h5 => ?_⟩
      have h5' : (upd (upd (upd G2 d1 (.dK [])) t2 (.tup [])) d1 (.dK [(Sum.inr "a", .ref t2)])) q0 = none := h5
      have s5 := same_upd (o := .lst (things t0 t1 l1 d1)) h5'
      have n5 := np (((s0.trans s1).trans s2).trans s3) h5'
      have S : Same H _ := (((s0.trans s1).trans s2).trans s3).trans s5
      have good := things_good (K := K) (H := upd (upd (upd (upd G2 d1 (.dK [])) t2 (.tup [])) d1 (.dK [(Sum.inr "a", .ref t2)])) q0 (.lst (things t0 t1 l1 d1))) (s5 _ _ (s3 _ _ (s2 _ _ (s1 _ _ a0)))) (s5 _ _ (s3 _ _ (s2 _ _ a1))) (s5 _ _ (s3 _ _ a2)) (s5 _ _ a3) (s5 _ _ a4) n0 n1 n2 n3 n4
      have dice : DiceAt (upd (upd (upd (upd G2 d1 (.dK [])) t2 (.tup [])) d1 (.dK [(Sum.inr "a", .ref t2)])) q0 (.lst (things t0 t1 l1 d1))) p := by
        obtain ⟨a, b, c, e, l⟩ := hD
        exact ⟨a, b, c, S _ _ e, l⟩
      exact ⟨p, q0, things t0 t1 l1 d1, rfl, dice, n5, upd_same, (by show 0 < 11; decide), (by show 11 < 1000000; decide), fun v H' hv hD' hB => ⟨v, rfl, hD', (But.ofSame S).trans hB, (good v hv).but hB⟩⟩
    rintro σ H1 ⟨v, rfl, hD1, hB1, g1⟩
    -- errors of the package's own base
    refine ⟨_, rfl, (by show 1 ≤ 1000; decide), fun a0 h0 => ?_⟩
    have s0 := same_upd (o := exo a0 (C 0) none) h0
    have e0 : ErrAt (upd H1 a0 (exo a0 (C 0) none)) a0 (C 0) := ⟨none, upd_same, .inl rfl⟩
    generalize upd H1 a0 (exo a0 (C 0) none) = G0 at s0 e0 ⊢
    refine ⟨_, rfl, (by show 1 ≤ 1000; decide), fun a1 h1 => ?_⟩
    have s1 := same_upd (o := exo a1 (C 1) none) h1
    have e1 : ErrAt (upd G0 a1 (exo a1 (C 1) none)) a1 (C 1) := ⟨none, upd_same, .inl rfl⟩
    generalize upd G0 a1 (exo a1 (C 1) none) = G1 at s1 e1 ⊢
    refine ⟨_, rfl, (by show 1 ≤ 1000; decide), fun a2 h2 => ?_⟩
    have s2 := same_upd (o := exo a2 (C 2) none) h2
    have e2 : ErrAt (upd G1 a2 (exo a2 (C 2) none)) a2 (C 2) := ⟨none, upd_same, .inl rfl⟩
    generalize upd G1 a2 (exo a2 (C 2) none) = G2 at s2 e2 ⊢
    refine ⟨_, rfl, (by show 1 ≤ 1000; decide), fun a3 h3 => ?_⟩
    have s3 := same_upd (o := exo a3 (C 3) none) h3
    have e3 : ErrAt (upd G2 a3 (exo a3 (C 3) none)) a3 (C 3) := ⟨none, upd_same, .inl rfl⟩
    generalize upd G2 a3 (exo a3 (C 3) none) = G3 at s3 e3 ⊢
    refine ⟨_, rfl, _, rfl, fun a4 d4 h4 h4' hne => ?_⟩
    have s4 := same_errI (o := exd d4 [("line", v)]) (u := exo a4 (C 4) (some d4)) h4 h4'
    have x4 : (upd (upd G3 d4 (exd d4 [("line", v)])) a4 (exo a4 (C 4) (some d4))) a4 = some (exo a4 (C 4) (some d4)) := upd_same
    have y4 : (upd (upd G3 d4 (exd d4 [("line", v)])) a4 (exo a4 (C 4) (some d4))) d4 = some (exd d4 [("line", v)]) := by rw [upd_ne hne]; exact upd_same
    generalize upd (upd G3 d4 (exd d4 [("line", v)])) a4 (exo a4 (C 4) (some d4)) = G4 at s4 x4 y4 ⊢
    refine ⟨(by show 5 ≤ sizeLine; decide), fun b hb => ?_⟩
    refine ⟨_, rfl, .inl ⟨rfl, _, SqL.of upd_same⟩, _, rfl, (by show 1 ≤ 1000; decide), fun a5 h5 => ?_⟩
    have nb : b ≠ a5 := ne_of_none upd_same h5
    refine ⟨b, _, _, rfl, rfl, by rw [upd_ne nb]; exact upd_same, (by show 5 < sizeLine; decide), ?_⟩
    have s5 := same_app (o := .lst [.ref a0, .ref a1, .ref a2, .ref a3, .ref a4]) (u := exo a5 (C 5) none) (o' := .lst ([.ref a0, .ref a1, .ref a2, .ref a3, .ref a4] ++ [.ref a5])) hb h5
    have x5 : (upd (upd (upd G4 b (.lst [.ref a0, .ref a1, .ref a2, .ref a3, .ref a4])) a5 (exo a5 (C 5) none)) b (.lst ([.ref a0, .ref a1, .ref a2, .ref a3, .ref a4] ++ [.ref a5]))) a5 = some (exo a5 (C 5) none) := by rw [upd_ne nb.symm]; exact upd_same
    have xb : (upd (upd (upd G4 b (.lst [.ref a0, .ref a1, .ref a2, .ref a3, .ref a4])) a5 (exo a5 (C 5) none)) b (.lst ([.ref a0, .ref a1, .ref a2, .ref a3, .ref a4] ++ [.ref a5]))) b = some (.lst ([a0, a1, a2, a3, a4, a5].map V.ref)) := upd_same
    generalize upd (upd (upd G4 b (.lst [.ref a0, .ref a1, .ref a2, .ref a3, .ref a4])) a5 (exo a5 (C 5) none)) b (.lst ([.ref a0, .ref a1, .ref a2, .ref a3, .ref a4] ++ [.ref a5])) = G5 at s5 x5 xb ⊢
    -- what is due
    refine ⟨(by show 4 ≤ sizeLine; decide), fun u hu0 => ?_⟩
    refine ⟨_, rfl, .inl ⟨rfl, _, SqL.of upd_same⟩, u, _, _, rfl, rfl, upd_same, (by show 4 < sizeLine; decide), ?_⟩
    rw [L2.upd_upd]
    have S5 := ((((s0.trans s1).trans s2).trans s3).trans s4).trans s5
    have SX : Same H1 (upd G5 u (.lst (dueA.map V.str))) := S5.trans (same_upd hu0)
    have on6 : ErrsOn C (upd G5 u (.lst (dueA.map V.str))) [a0, a1, a2, a3, a4, a5] [0, 1, 2, 3, 4, 5] :=
      .cons ⟨by decide, ((((((e0.same s1).same s2).same s3).same s4).same s5).same (same_upd hu0))⟩ (.cons ⟨by decide, (((((e1.same s2).same s3).same s4).same s5).same (same_upd hu0))⟩ (.cons ⟨by decide, ((((e2.same s3).same s4).same s5).same (same_upd hu0))⟩
        (.cons ⟨by decide, (((e3.same s4).same s5).same (same_upd hu0))⟩ (.cons ⟨by decide, ⟨some d4, same_upd hu0 _ _ (s5 _ _ x4), .inr ⟨d4, _, rfl, same_upd hu0 _ _ (s5 _ _ y4)⟩⟩⟩ (.cons ⟨by decide, ⟨none, same_upd hu0 _ _ x5, .inl rfl⟩⟩ .nil)))))
    have fb : (upd G5 u (.lst (dueA.map V.str))) b = some (.lst ([a0, a1, a2, a3, a4, a5].map V.ref)) := same_upd hu0 _ _ xb
    have f4 : (upd G5 u (.lst (dueA.map V.str))) a4 = some (exo a4 (C 4) (some d4)) := same_upd hu0 _ _ (s5 _ _ x4)
    have g4 : (upd G5 u (.lst (dueA.map V.str))) d4 = some (exd d4 [("line", v)]) := same_upd hu0 _ _ (s5 _ _ y4)
    have fu : (upd G5 u (.lst (dueA.map V.str))) u = some (.lst (dueA.map V.str)) := upd_same
    -- the first test
    refine ⟨fun σ H2 => σ = [some (.ref p), some v, some (.ref b), some (.ref u), none, none, none, none] ∧ Same H1 H2 ∧ H2 b = some (.lst ([a0, a1, a2, a3, a4, a5].map V.ref)) ∧ H2 a4 = some (exo a4 (C 4) (some d4)) ∧ H2 d4 = some (exd d4 [("line", v)]) ∧ H2 u = some (.lst (dueA.map V.str)), ?_, ?_⟩
    · refine test_go ?_
      refine comp_kinds (K := K) (H := upd G5 u (.lst (dueA.map V.str))) (i := 2) (ks := [0, 1, 2, 3, 4, 5]) rfl fb on6 (by decide) fun D H2 hDn hS hDl => ?_
      refine ⟨_, rfl, (by show 1 ≤ sizeLine; decide), fun z0 hz0 => ⟨u, z0, _, _, rfl, rfl, same_upd hz0 _ _ (hS _ _ fu), upd_same, (by show 6 ≤ sizeLine; decide), fun z1 hz1 => ?_⟩⟩
      have hS2 := (same_upd (o := .lst [.str ".....xx..........."]) hz0).trans (same_upd (o := .lst (dueA.map V.str ++ [.str ".....xx..........."])) hz1)
      refine ne_due (ks := [0, 1, 2, 3, 4, 5]) (ws := dueA ++ [(".....xx..........." : Str)]) (hS2 _ _ hDl) upd_same (by decide +kernel) (by decide +kernel) ⟨_, rfl, iteF ?_⟩
      have hS3 := hS.trans hS2
      exact ⟨rfl, SX.trans hS3, hS3 _ _ fb, hS3 _ _ f4, hS3 _ _ g4, hS3 _ _ fu⟩
    rintro σ H2 ⟨rfl, s12, fb, f4, g4, fu⟩
    -- errors without an argument
    refine ⟨(by show 0 ≤ 1000; decide), fun m0 h0 => ?_⟩
    have s0 := same_upd (o := exo m0 (C 0) none) h0
    have e0 : ErrAt (upd H2 m0 (exo m0 (C 0) none)) m0 (C 0) := ⟨none, upd_same, .inl rfl⟩
    generalize upd H2 m0 (exo m0 (C 0) none) = G0 at s0 e0 ⊢
    refine ⟨(by show 0 ≤ 1000; decide), fun m1 h1 => ?_⟩
    have s1 := same_upd (o := exo m1 (C 1) none) h1
    have e1 : ErrAt (upd G0 m1 (exo m1 (C 1) none)) m1 (C 1) := ⟨none, upd_same, .inl rfl⟩
    generalize upd G0 m1 (exo m1 (C 1) none) = G1 at s1 e1 ⊢
    refine ⟨(by show 0 ≤ 1000; decide), fun m2 h2 => ?_⟩
    have s2 := same_upd (o := exo m2 (C 2) none) h2
    have e2 : ErrAt (upd G1 m2 (exo m2 (C 2) none)) m2 (C 2) := ⟨none, upd_same, .inl rfl⟩
    generalize upd G1 m2 (exo m2 (C 2) none) = G2 at s2 e2 ⊢
    refine ⟨(by show 0 ≤ 1000; decide), fun m3 h3 => ?_⟩
    have s3 := same_upd (o := exo m3 (C 3) none) h3
    have e3 : ErrAt (upd G2 m3 (exo m3 (C 3) none)) m3 (C 3) := ⟨none, upd_same, .inl rfl⟩
    generalize upd G2 m3 (exo m3 (C 3) none) = G3 at s3 e3 ⊢
    refine ⟨(by show 0 ≤ 1000; decide), fun m5 h5 => ?_⟩
    have s5 := same_upd (o := exo m5 (C 5) none) h5
    have e5 : ErrAt (upd G3 m5 (exo m5 (C 5) none)) m5 (C 5) := ⟨none, upd_same, .inl rfl⟩
    generalize upd G3 m5 (exo m5 (C 5) none) = G5 at s5 e5 ⊢
    refine ⟨(by show 5 ≤ sizeLine; decide), fun nb hnb => ?_⟩
    have sn := same_upd (o := .lst ([m0, m1, m2, m3, m5].map V.ref)) hnb
    have S5 := (((((s0.trans s1).trans s2).trans s3).trans s5).trans sn)
    have on5 : ErrsOn C (upd G5 nb (.lst ([m0, m1, m2, m3, m5].map V.ref))) [m0, m1, m2, m3, m5] [0, 1, 2, 3, 5] :=
      .cons ⟨by decide, (((((e0.same s1).same s2).same s3).same s5).same sn)⟩ (.cons ⟨by decide, ((((e1.same s2).same s3).same s5).same sn)⟩ (.cons ⟨by decide, (((e2.same s3).same s5).same sn)⟩ (.cons ⟨by decide, ((e3.same s5).same sn)⟩ (.cons ⟨by decide, e5.same sn⟩ .nil))))
    have fn : (upd G5 nb (.lst ([m0, m1, m2, m3, m5].map V.ref))) nb = some (.lst ([m0, m1, m2, m3, m5].map V.ref)) := upd_same
    refine ⟨fun σ H3 => σ = [some (.ref p), some v, some (.ref b), some (.ref u), some (.ref nb), none, none, none] ∧ Same H2 H3, ?_, ?_⟩
    · refine test_go ?_
      refine comp_kinds (K := K) (H := upd G5 nb (.lst ([m0, m1, m2, m3, m5].map V.ref))) (i := 4) (ks := [0, 1, 2, 3, 5]) rfl fn on5 (by decide) fun D H3 hDn hS hDl => ?_
      have fu3 := hS _ _ (S5 _ _ fu)
      refine ⟨_, rfl, _, rfl, u, _, rfl, SqL.of fu3, fun zs hzs => ⟨(by show 1 ≤ sizeLine; decide), fun z0 hz0 => ⟨zs, z0, _, _, rfl, rfl, same_upd hz0 _ _ upd_same, upd_same, (by decide +kernel), fun z1 hz1 => ?_⟩⟩⟩
      have hS2 : Same H3 _ := ((same_upd hzs).trans (same_upd hz0)).trans (same_upd (o := .lst (cutV (dueA.map V.str) none (some 4) ++ [.str ".....xx..........."])) hz1)
      refine ne_due (ks := [0, 1, 2, 3, 5]) (ws := ["x....xx...........", ".x...xx...........", "..x..xx...........", "...x.xx...........", ".....xx..........."]) (hS2 _ _ hDl) upd_same (by decide +kernel) (by decide +kernel) ⟨_, rfl, iteF ?_⟩
      exact ⟨rfl, (S5.trans hS).trans hS2⟩
    rintro σ H3 ⟨rfl, s23⟩
    have s13 := s12.trans s23
    have fb3 := s23 _ _ fb
    have f43 := s23 _ _ f4
    have g43 := s23 _ _ g4
    -- the other errors
    refine ⟨_, rfl, _, rfl, fun o6 c6 w6 w6' q6 => ?_⟩
    have t6 := same_errI (o := exd c6 [("name", v)]) (u := exo o6 (C 6) (some c6)) w6 w6'
    have x6 : (upd (upd H3 c6 (exd c6 [("name", v)])) o6 (exo o6 (C 6) (some c6))) o6 = some (exo o6 (C 6) (some c6)) := upd_same
    have y6 : (upd (upd H3 c6 (exd c6 [("name", v)])) o6 (exo o6 (C 6) (some c6))) c6 = some (exd c6 [("name", v)]) := by rw [upd_ne q6]; exact upd_same
    generalize upd (upd H3 c6 (exd c6 [("name", v)])) o6 (exo o6 (C 6) (some c6)) = J6 at t6 x6 y6 ⊢
    refine ⟨_, rfl, _, rfl, fun o7 c7 w7 w7' q7 => ?_⟩
    have t7 := same_errI (o := exd c7 [("value", v)]) (u := exo o7 (C 7) (some c7)) w7 w7'
    have x7 : (upd (upd J6 c7 (exd c7 [("value", v)])) o7 (exo o7 (C 7) (some c7))) o7 = some (exo o7 (C 7) (some c7)) := upd_same
    have y7 : (upd (upd J6 c7 (exd c7 [("value", v)])) o7 (exo o7 (C 7) (some c7))) c7 = some (exd c7 [("value", v)]) := by rw [upd_ne q7]; exact upd_same
    generalize upd (upd J6 c7 (exd c7 [("value", v)])) o7 (exo o7 (C 7) (some c7)) = J7 at t7 x7 y7 ⊢
    refine ⟨_, rfl, _, rfl, fun o8 c8 w8 w8' q8 => ?_⟩
    have t8 := same_errI (o := exd c8 [("limit", v)]) (u := exo o8 (C 8) (some c8)) w8 w8'
    have x8 : (upd (upd J7 c8 (exd c8 [("limit", v)])) o8 (exo o8 (C 8) (some c8))) o8 = some (exo o8 (C 8) (some c8)) := upd_same
    have y8 : (upd (upd J7 c8 (exd c8 [("limit", v)])) o8 (exo o8 (C 8) (some c8))) c8 = some (exd c8 [("limit", v)]) := by rw [upd_ne q8]; exact upd_same
    generalize upd (upd J7 c8 (exd c8 [("limit", v)])) o8 (exo o8 (C 8) (some c8)) = J8 at t8 x8 y8 ⊢
    refine ⟨_, rfl, _, rfl, fun o9 c9 w9 w9' q9 => ?_⟩
    have t9 := same_errI (o := exd c9 [("many", v)]) (u := exo o9 (C 9) (some c9)) w9 w9'
    have x9 : (upd (upd J8 c9 (exd c9 [("many", v)])) o9 (exo o9 (C 9) (some c9))) o9 = some (exo o9 (C 9) (some c9)) := upd_same
    have y9 : (upd (upd J8 c9 (exd c9 [("many", v)])) o9 (exo o9 (C 9) (some c9))) c9 = some (exd c9 [("many", v)]) := by rw [upd_ne q9]; exact upd_same
    generalize upd (upd J8 c9 (exd c9 [("many", v)])) o9 (exo o9 (C 9) (some c9)) = J9 at t9 x9 y9 ⊢
    refine ⟨_, rfl, _, rfl, fun o10 c10 w10 w10' q10 => ?_⟩
    have t10 := same_errI (o := exd c10 [("reason", v)]) (u := exo o10 (C 10) (some c10)) w10 w10'
    have x10 : (upd (upd J9 c10 (exd c10 [("reason", v)])) o10 (exo o10 (C 10) (some c10))) o10 = some (exo o10 (C 10) (some c10)) := upd_same
    have y10 : (upd (upd J9 c10 (exd c10 [("reason", v)])) o10 (exo o10 (C 10) (some c10))) c10 = some (exd c10 [("reason", v)]) := by rw [upd_ne q10]; exact upd_same
    generalize upd (upd J9 c10 (exd c10 [("reason", v)])) o10 (exo o10 (C 10) (some c10)) = J10 at t10 x10 y10 ⊢
    refine ⟨(by show 5 ≤ sizeLine; decide), fun ob hob => ?_⟩
    have so := same_upd (o := .lst ([o6, o7, o8, o9, o10].map V.ref)) hob
    have fo0 : (upd J10 ob (.lst ([o6, o7, o8, o9, o10].map V.ref))) ob = some (.lst ([o6, o7, o8, o9, o10].map V.ref)) := upd_same
    refine ⟨(by show 5 ≤ sizeLine; decide), fun u2 hu2' => ?_⟩
    have su := same_upd (o := .lst (dueB.map V.str)) hu2'
    have fu2 : (upd (upd J10 ob (.lst ([o6, o7, o8, o9, o10].map V.ref))) u2 (.lst (dueB.map V.str))) u2 = some (.lst (dueB.map V.str)) := upd_same
    have fo := su _ _ fo0
    have z10 := so.trans su
    have z9 := t10.trans z10
    have z8 := t9.trans z9
    have z7 := t8.trans z8
    have z6 := t7.trans z7
    have z3 := t6.trans z6
    have on10 : ErrsOn C (upd (upd J10 ob (.lst ([o6, o7, o8, o9, o10].map V.ref))) u2 (.lst (dueB.map V.str))) [o6, o7, o8, o9, o10] [6, 7, 8, 9, 10] :=
      .cons ⟨by decide, ⟨some c6, z6 _ _ x6, .inr ⟨c6, _, rfl, z6 _ _ y6⟩⟩⟩ (.cons ⟨by decide, ⟨some c7, z7 _ _ x7, .inr ⟨c7, _, rfl, z7 _ _ y7⟩⟩⟩ (.cons ⟨by decide, ⟨some c8, z8 _ _ x8, .inr ⟨c8, _, rfl, z8 _ _ y8⟩⟩⟩
        (.cons ⟨by decide, ⟨some c9, z9 _ _ x9, .inr ⟨c9, _, rfl, z9 _ _ y9⟩⟩⟩ (.cons ⟨by decide, ⟨some c10, z10 _ _ x10, .inr ⟨c10, _, rfl, z10 _ _ y10⟩⟩⟩ .nil))))
    refine ⟨fun σ H4 => σ = [some (.ref p), some v, some (.ref b), some (.ref u2), some (.ref nb), some (.ref ob), none, none] ∧ Same (upd (upd J10 ob (.lst ([o6, o7, o8, o9, o10].map V.ref))) u2 (.lst (dueB.map V.str))) H4, ?_, ?_⟩
    · refine test_go ?_
      refine comp_kinds (K := K) (H := upd (upd J10 ob (.lst ([o6, o7, o8, o9, o10].map V.ref))) u2 (.lst (dueB.map V.str))) (i := 5) (ks := [6, 7, 8, 9, 10]) rfl fo on10 (by decide) fun D H4 hDn hS hDl => ?_
      refine ⟨_, rfl, ?_⟩
      refine ne_due (ks := [6, 7, 8, 9, 10]) (ws := dueB) hDl (hS _ _ fu2) (by decide +kernel) (by decide +kernel) ⟨_, rfl, iteF ?_⟩
      exact ⟨rfl, hS⟩
    rintro σ H4 ⟨rfl, s4⟩
    have r3 := z3.trans s4
    have gB := r3 _ _ fb3
    have gO := s4 _ _ fo
    -- what is kept
    refine ⟨_, rfl, b, _, _, _, rfl, rfl, SqL.of gB, atI_nat (j := 4) rfl, a4, C 4, d4, _, v, rfl, r3 _ _ f43, r3 _ _ g43, rfl, T.err 4 (by decide), M.i4.no, ?_⟩
    refine ⟨_, rfl, ob, _, _, _, rfl, rfl, SqL.of gO, atI_nat (j := 0) rfl, o6, C 6, c6, _, v, rfl, s4 _ _ (z6 _ _ x6), s4 _ _ (z6 _ _ y6), rfl, T.err 6 (by decide), M.i6.no, ?_⟩
    refine ⟨_, rfl, ob, _, _, _, rfl, rfl, SqL.of gO, atI_nat (j := 1) rfl, o7, C 7, c7, _, v, rfl, s4 _ _ (z7 _ _ x7), s4 _ _ (z7 _ _ y7), rfl, T.err 7 (by decide), M.i7.no, ?_⟩
    refine ⟨_, rfl, ob, _, _, _, rfl, rfl, SqL.of gO, atI_nat (j := 2) rfl, o8, C 8, c8, _, v, rfl, s4 _ _ (z8 _ _ x8), s4 _ _ (z8 _ _ y8), rfl, T.err 8 (by decide), M.i8.no, ?_⟩
    refine ⟨_, rfl, ob, _, _, _, rfl, rfl, SqL.of gO, atI_nat (j := 3) rfl, o9, C 9, c9, _, v, rfl, s4 _ _ (z9 _ _ x9), s4 _ _ (z9 _ _ y9), rfl, T.err 9 (by decide), M.i9.no, ?_⟩
    refine ⟨_, rfl, ob, _, _, _, rfl, rfl, SqL.of gO, atI_nat (j := 4) rfl, o10, C 10, c10, _, v, rfl, s4 _ _ (z10 _ _ x10), s4 _ _ (z10 _ _ y10), rfl, T.err 10 (by decide), M.i10.no, ?_⟩
    refine ⟨(by show 6 ≤ sizeLine; decide), fun kp hkp nkp => ?_⟩
    have s5 := same_upd (o := .lst [v, v, v, v, v, v]) hkp
    have S := (s13.trans r3).trans s5
    obtain ⟨d, gd1, gd2, gd3, gd4⟩ := g1
    refine ⟨_, rfl, kp, v, d, rfl, upd_same, nkp, gd4 _ (But.ofSame S), gd1, gd2, gd3, ?_⟩
    refine ⟨_, rfl, (by show 1 ≤ sizeLine; decide), fun l hl => ⟨l, v, rfl, rfl, upd_same, fun r hr nr => ?_⟩⟩
    have s6 := (same_upd (o := .lst [v]) hl).trans (same_upd (o := .lst [v, v, v, v, v, v]) hr)
    refine ⟨r, v, d, rfl, upd_same, nr, gd4 _ (But.ofSame (S.trans s6)), gd1, gd2, gd3, rfl, ?_⟩
    rw [decide_eq_true rfl]
    have S2 := S.trans s6
    refine q _ ?_ (hB1.trans (But.ofSame S2))
    obtain ⟨x, y, z, e, l1⟩ := hD1
    exact ⟨x, y, z, S2 _ _ e, l1⟩
end
end WK

set_option Elab.async false
set_option linter.all false
set_option maxRecDepth 100000
set_option maxHeartbeats 8000000
namespace WK
open PySem L2 PyProof.Rows WE WT WG
open PySem.W (Frag kitOne)
structure TLaw (mg : Str → Option Value) : Prop where
  rng : mg "range" = none
  max : mg "max" = none
  min : mg "min" = none
  len : mg "len" = none
def spLaw (K : Frag) : Sp := fun vs H Q _ => ∃ (s : Addr) (ns : List Int), vs = [.ref s] ∧ SqL K H s (ns.map V.int) ∧ ns.length ≤ 63 ∧ ∀ H', Q (.bl true) H'
section
variable {P : Program} {w : World} {K : PySem.W.Frag} {mg : Str → Option Value} {base : Heap} {C I : Nat → Addr}
theorem scL : FnScope ["_law_script", "_law_spot", "_law_dice_here", "_law_turn"] ["_law_script"] (defScope sLaw) := ⟨rfl, rfl, rfl, by decide +kernel, rfl, by decide +kernel, by decide +kernel⟩
theorem ok_law {f fD fR : Addr} {fd fdD fdR fd4 fd8 : FuncData} (F : Fun K "law" "law" sLaw f fd) (TL : TLaw mg) (T : TErr K mg C) (M : TMk K mg C I)
    (gD : mg "_law_dice" = some (.ref fD)) (kD : PySem.W.keepIn K (.ref fD) = true) (bD : L2.Binds K fdD ["_law_script", "_law_at"] []) (GD : FnOk P w K mg base CX0 1 fD fdD ["_law_script", "_law_at"] (spDice K))
    (gR : mg "_law_right" = some (.ref fR)) (kR : PySem.W.keepIn K (.ref fR) = true) (bR : L2.Binds K fdR ["_law_dice_here"] []) (GR : FnG P w K mg base 4 fR fdR ["_law_dice_here"] spRight)
    (G4 : FnOk P w K mg base CX0 1 (I 4) fd4 ["self", "line"] (spErrI (C 4) "line")) (b4 : L2.Binds K fd4 ["self", "line"] [])
    (G8 : FnOk P w K mg base CX0 1 (I 8) fd8 ["self", "limit"] (spErrI (C 8) "limit")) (b8 : L2.Binds K fd8 ["self", "limit"] []) : FnG P w K mg base 5 f fd ["_law_script"] (spLaw K) := by
  refine okG F scL (fun vs H Q E h => ?_) (fun cdv A outer s H vs Q E hr hgd h => ?_)
  · obtain ⟨s, ns, rfl, _⟩ := h
    rfl
  · obtain ⟨s, ns, rfl, hS, hl, q⟩ := h
    have hr1 : Room 1 _ := hr.mono (by decide)
    have hr2 : Room 2 _ := hr.mono (by decide)
    have hr4 : Room 4 _ := hr.mono (by decide)
    have hu := Nat.lt_of_le_of_lt (Nat.add_le_add_left (by decide : 64 ≤ 200) _) hr1.units200
    refine ⟨_, pss_cons (ps_for PassesOwn.never rfl (pi_range1 rfl TL.rng (pa_cons (pe_callB (call_max2 rfl) (by rfl) TL.max (by decide +kernel) (pa_cons pe_int (pa_cons (pe_callB (call_min2 rfl) (by rfl) TL.min (by decide +kernel) (pa_cons pe_int (pa_cons (pe_callB call_len_seq (by rfl) TL.len PySem.boot_len (pa_cons (pv 0) pa_nil)) pa_nil))) pa_nil))) pa_nil)) (pg_name (i := 1) scL.nd rfl (Or.inl rfl))
        (pss_cons (ps_set (i := 2) scL.nd rfl (Or.inl rfl) (pe_call GD hr1 rfl gD kD bD .nil pass0 (pa_cons (pv 0) (pa_cons (pv 1) pa_nil))))
        (pss_one (ps_for PassesOwn.never rfl (pi_range1 rfl TL.rng (pa_cons pe_int pa_nil)) (pg_name (i := 3) scL.nd rfl (Or.inl rfl))
          (pss_one (ps_if (pt_not (pt_val (pe_callG (E := fun _ _ _ => False) GR hr4 hgd gR kR bR (pa_cons (pv 2) pa_nil)))) (pss_one (ps_ret pe_bl)) pss_nil))))))
      (pss_one (ps_ret (pe_cmpR (op_eqD hu) (pe_lst (pa_cons (pe_errF (pe_errI (MakesBy.of PySem.F.excBase_ValueError) (T.err 4 (by decide)) M.i4 G4 hr2 b4 T.g4 (pa_cons pe_non pa_nil))) (pa_cons (pe_errF (pe_errI (MakesBy.of PySem.F.excBase_ValueError) (T.err 4 (by decide)) M.i4 G4 hr2 b4 T.g4 (pa_cons pe_int pa_nil))) (pa_cons (pe_errF (pe_errI (MakesBy.of PySem.F.excBase_OverflowError) (T.err 8 (by decide)) M.i8 G8 hr2 b8 T.g8 (pa_cons pe_int pa_nil))) pa_nil)))) (pe_lst (pa_cons pe_non (pa_cons pe_int (pa_cons pe_int pa_nil)))) (nomark _)))), ?_⟩
    have len : ((ns.map V.int).length : Int) ≤ 63 := by
      rw [List.length_map]
      omega
    have len0 : (0 : Int) ≤ ((ns.map V.int).length : Int) := Int.natCast_nonneg _
    refine ⟨_, rfl, s, _, rfl, .inl hS, _, _, rfl, _, _, rfl, _, rfl, by split <;> split <;> omega, by split <;> split <;> omega, ?_⟩
    refine for_range (lo := 0) (fun i σ H1 => ∃ a b c, σ = [some (.ref s), a, b, c] ∧ Same H H1) ⟨_, _, _, rfl, Same.refl H⟩ ?_ ?_
    · rintro i σ H1 hi ⟨a, b, c, rfl, s1⟩
      refine ⟨_, rfl, _, rfl, s, ns, _, rfl, s1.seq hS, by omega, fun p H2 hp s2 hD => ?_⟩
      have np : H p = none := s1.free hp
      refine ⟨4, rfl, by decide, by decide, ?_⟩
      refine for_range (lo := 0) (n := 4) (fun j σ H3 => ∃ a c, σ = [some (.ref s), a, some (.ref p), c] ∧ Same H H3 ∧ DiceAt H3 p) ⟨_, _, rfl, s1.trans s2, hD⟩ ?_ ?_
      · rintro j σ H3 hj ⟨a, c, rfl, s3, hD3⟩
        refine ⟨_, rfl, p, rfl, hD3, fun H4 hD4 hB => ⟨true, rfl, ?_⟩⟩
        exact ⟨_, _, rfl, fun x o e => hB _ _ (s3 _ _ e) (ne_of_none e np), hD4⟩
      · rintro σ H3 ⟨a, c, rfl, s3, _⟩
        exact ⟨_, _, _, rfl, s3⟩
    · rintro σ H1 ⟨a, b, c, rfl, s1⟩
      refine ⟨_, rfl, fun a1 d1 ha1 hd1 n1 => ⟨a1, C 4, d1, _, _, rfl, upd_same, by rw [upd_ne n1]; exact upd_same, rfl, T.err 4 (by decide), M.i4.no, ?_⟩⟩
      refine ⟨_, rfl, fun a2 d2 ha2 hd2 n2 => ⟨a2, C 4, d2, _, _, rfl, upd_same, by rw [upd_ne n2]; exact upd_same, rfl, T.err 4 (by decide), M.i4.no, ?_⟩⟩
      refine ⟨_, rfl, fun a3 d3 ha3 hd3 n3 => ⟨a3, C 8, d3, _, _, rfl, upd_same, by rw [upd_ne n3]; exact upd_same, rfl, T.err 8 (by decide), M.i8.no, ?_⟩⟩
      refine ⟨(by show 3 ≤ sizeLine; decide), fun l1 h1 => ⟨(by show 3 ≤ sizeLine; decide), fun l2 h2 => ?_⟩⟩
      have e1 := same_upd (o := .lst [.non, .int 3, .int 2000]) h2 _ _ upd_same
      refine ⟨.list [.none, .int 3, .int 2000], .list [.none, .int 3, .int 2000], .lst (SqL.of e1) (.cons .non (.cons (.int 3) (.cons (.int 2000) .nil))), .lst (SqL.of upd_same) (.cons .non (.cons (.int 3) (.cons (.int 2000) .nil))), by decide +kernel, by decide +kernel, ?_⟩
      exact q _
end
end WK

set_option Elab.async false
set_option linter.all false
set_option maxRecDepth 100000
set_option maxHeartbeats 8000000
namespace WK
open PySem L2 PyProof.Rows WE WT WG
open PySem.W (Frag kitOne)
def pick (l : List Addr) (k : Nat) : Addr := l.getD k 0
theorem all_mk {l : PySem.W.OpenLaw} {w : World} {K : Frag} {h : Heap} {mg : Str → Option Value} {fa c0 c1 c2 c3 c4 c5 c6 c7 c8 c9 c10 j4 j6 j7 j8 j9 j10 f0 f1 f2 f3 f4 f5 : Addr} (X : K.In h) (G : h.Ns mainGlobals mg) (hfa : mg "law" = some (.ref fa))
    {odI4 anI4 odI6 anI6 odI7 anI7 odI8 anI8 odI9 anI9 odI10 anI10 od0 an0 od1 an1 od2 an2 od3 an3 od4 an4 od5 an5 : Option Addr} {slI4 slI6 slI7 slI8 slI9 slI10 sl0 sl1 sl2 sl3 sl4 sl5 : Array (Option Value)} {ocI4 kVI4 dcI4 pmI4 cdI4 ctI4 ocI6 kVI6 dcI6 pmI6 cdI6 ctI6 ocI7 kVI7 dcI7 pmI7 cdI7 ctI7 ocI8 kVI8 dcI8 pmI8 cdI8 ctI8 ocI9 kVI9 dcI9 pmI9 cdI9 ctI9 ocI10 kVI10 dcI10 pmI10 cdI10 ctI10 oc0 kV0 dc0 pm0 cd0 ct0 oc1 kV1 dc1 pm1 cd1 ct1 oc2 kV2 dc2 pm2 cd2 ct2 oc3 kV3 dc3 pm3 cd3 ct3 oc4 kV4 dc4 pm4 cd4 ct4 oc5 kV5 dc5 pm5 cd5 ct5 : Value}
        (a0 : PySem.W.nsIn K mainGlobals "InvalidWord" = some (some (.ref c0)))
    (a1 : PySem.W.nsIn K mainGlobals "InvalidMachine" = some (some (.ref c1)))
    (a2 : PySem.W.nsIn K mainGlobals "InvalidBox" = some (some (.ref c2)))
    (a3 : PySem.W.nsIn K mainGlobals "InvalidOperation" = some (some (.ref c3)))
    (a4 : PySem.W.nsIn K mainGlobals "ParseError" = some (some (.ref c4)))
    (a5 : PySem.W.nsIn K mainGlobals "WatchError" = some (some (.ref c5)))
    (a6 : PySem.W.nsIn K mainGlobals "UnknownName" = some (some (.ref c6)))
    (a7 : PySem.W.nsIn K mainGlobals "InvalidNumber" = some (some (.ref c7)))
    (a8 : PySem.W.nsIn K mainGlobals "TooMany" = some (some (.ref c8)))
    (a9 : PySem.W.nsIn K mainGlobals "NothingToUndo" = some (some (.ref c9)))
    (a10 : PySem.W.nsIn K mainGlobals "Refused" = some (some (.ref c10)))
    (u4 : PySem.W.findIn K (.ref c4) "__init__" = some (some (.ref j4)))
    (lI4 : K.lookup j4 = some ⟨ocI4, odI4, .func (PySem.W.fnOf "__init__" "ParseError.__init__" (defArgs sI4) (defBody sI4) (defScope sI4) .none kVI4 dcI4 pmI4 anI4 cdI4 ctI4), slI4⟩)
    (qI4 : PySem.W.codeIn K cdI4 "ParseError.__init__" = true)
    (kI4 : PySem.W.keepIn K (.ref j4) = true)
    (u6 : PySem.W.findIn K (.ref c6) "__init__" = some (some (.ref j6)))
    (lI6 : K.lookup j6 = some ⟨ocI6, odI6, .func (PySem.W.fnOf "__init__" "UnknownName.__init__" (defArgs sI6) (defBody sI6) (defScope sI6) .none kVI6 dcI6 pmI6 anI6 cdI6 ctI6), slI6⟩)
    (qI6 : PySem.W.codeIn K cdI6 "UnknownName.__init__" = true)
    (kI6 : PySem.W.keepIn K (.ref j6) = true)
    (u7 : PySem.W.findIn K (.ref c7) "__init__" = some (some (.ref j7)))
    (lI7 : K.lookup j7 = some ⟨ocI7, odI7, .func (PySem.W.fnOf "__init__" "InvalidNumber.__init__" (defArgs sI7) (defBody sI7) (defScope sI7) .none kVI7 dcI7 pmI7 anI7 cdI7 ctI7), slI7⟩)
    (qI7 : PySem.W.codeIn K cdI7 "InvalidNumber.__init__" = true)
    (kI7 : PySem.W.keepIn K (.ref j7) = true)
    (u8 : PySem.W.findIn K (.ref c8) "__init__" = some (some (.ref j8)))
    (lI8 : K.lookup j8 = some ⟨ocI8, odI8, .func (PySem.W.fnOf "__init__" "TooMany.__init__" (defArgs sI8) (defBody sI8) (defScope sI8) .none kVI8 dcI8 pmI8 anI8 cdI8 ctI8), slI8⟩)
    (qI8 : PySem.W.codeIn K cdI8 "TooMany.__init__" = true)
    (kI8 : PySem.W.keepIn K (.ref j8) = true)
    (u9 : PySem.W.findIn K (.ref c9) "__init__" = some (some (.ref j9)))
    (lI9 : K.lookup j9 = some ⟨ocI9, odI9, .func (PySem.W.fnOf "__init__" "NothingToUndo.__init__" (defArgs sI9) (defBody sI9) (defScope sI9) .none kVI9 dcI9 pmI9 anI9 cdI9 ctI9), slI9⟩)
    (qI9 : PySem.W.codeIn K cdI9 "NothingToUndo.__init__" = true)
    (kI9 : PySem.W.keepIn K (.ref j9) = true)
    (u10 : PySem.W.findIn K (.ref c10) "__init__" = some (some (.ref j10)))
    (lI10 : K.lookup j10 = some ⟨ocI10, odI10, .func (PySem.W.fnOf "__init__" "Refused.__init__" (defArgs sI10) (defBody sI10) (defScope sI10) .none kVI10 dcI10 pmI10 anI10 cdI10 ctI10), slI10⟩)
    (qI10 : PySem.W.codeIn K cdI10 "Refused.__init__" = true)
    (kI10 : PySem.W.keepIn K (.ref j10) = true)
    (d0 : PySem.W.nsIn K mainGlobals "_law_dice" = some (some (.ref f0)))
    (l0 : K.lookup f0 = some ⟨oc0, od0, .func (PySem.W.fnOf "_law_dice" "_law_dice" (defArgs sDice) (defBody sDice) (defScope sDice) .none kV0 dc0 pm0 an0 cd0 ct0), sl0⟩)
    (q0 : PySem.W.codeIn K cd0 "_law_dice" = true)
    (k0 : PySem.W.keepIn K (.ref f0) = true)
    (d1 : PySem.W.nsIn K mainGlobals "_law_roll" = some (some (.ref f1)))
    (l1 : K.lookup f1 = some ⟨oc1, od1, .func (PySem.W.fnOf "_law_roll" "_law_roll" (defArgs sRoll) (defBody sRoll) (defScope sRoll) .none kV1 dc1 pm1 an1 cd1 ct1), sl1⟩)
    (q1 : PySem.W.codeIn K cd1 "_law_roll" = true)
    (k1 : PySem.W.keepIn K (.ref f1) = true)
    (d2 : PySem.W.nsIn K mainGlobals "_law_one_of" = some (some (.ref f2)))
    (l2 : K.lookup f2 = some ⟨oc2, od2, .func (PySem.W.fnOf "_law_one_of" "_law_one_of" (defArgs sOne) (defBody sOne) (defScope sOne) .none kV2 dc2 pm2 an2 cd2 ct2), sl2⟩)
    (q2 : PySem.W.codeIn K cd2 "_law_one_of" = true)
    (k2 : PySem.W.keepIn K (.ref f2) = true)
    (d3 : PySem.W.nsIn K mainGlobals "_law_kinds" = some (some (.ref f3)))
    (l3 : K.lookup f3 = some ⟨oc3, od3, .func (PySem.W.fnOf "_law_kinds" "_law_kinds" (defArgs sKinds) (defBody sKinds) (defScope sKinds) .none kV3 dc3 pm3 an3 cd3 ct3), sl3⟩)
    (q3 : PySem.W.codeIn K cd3 "_law_kinds" = true)
    (k3 : PySem.W.keepIn K (.ref f3) = true)
    (d4 : PySem.W.nsIn K mainGlobals "_law_right" = some (some (.ref f4)))
    (l4 : K.lookup f4 = some ⟨oc4, od4, .func (PySem.W.fnOf "_law_right" "_law_right" (defArgs sRight) (defBody sRight) (defScope sRight) .none kV4 dc4 pm4 an4 cd4 ct4), sl4⟩)
    (q4 : PySem.W.codeIn K cd4 "_law_right" = true)
    (k4 : PySem.W.keepIn K (.ref f4) = true)
    (d5 : PySem.W.nsIn K mainGlobals "law" = some (some (.ref f5)))
    (l5 : K.lookup f5 = some ⟨oc5, od5, .func (PySem.W.fnOf "law" "law" (defArgs sLaw) (defBody sLaw) (defScope sLaw) .none kV5 dc5 pm5 an5 cd5 ct5), sl5⟩)
    (q5 : PySem.W.codeIn K cd5 "law" = true)
    (k5 : PySem.W.keepIn K (.ref f5) = true)
    (e0 : errB K c0 = true)
    (e1 : errB K c1 = true)
    (e2 : errB K c2 = true)
    (e3 : errB K c3 = true)
    (e4 : errB K c4 = true)
    (e5 : errB K c5 = true)
    (e6 : errB K c6 = true)
    (e7 : errB K c7 = true)
    (e8 : errB K c8 = true)
    (e9 : errB K c9 = true)
    (e10 : errB K c10 = true)
    (m0 : PySem.W.excIn K c0 veC "ValueError.__new__" = true)
    (m1 : PySem.W.excIn K c1 veC "ValueError.__new__" = true)
    (m2 : PySem.W.excIn K c2 veC "ValueError.__new__" = true)
    (m3 : PySem.W.excIn K c3 veC "ValueError.__new__" = true)
    (m5 : PySem.W.excIn K c5 veC "ValueError.__new__" = true)
    (n4 : errI K c4 j4 veC "ValueError.__new__" "line" = true)
    (n6 : errI K c6 j6 keChain "LookupError.__new__" "name" = true)
    (n7 : errI K c7 j7 reC "RuntimeError.__new__" "value" = true)
    (n8 : errI K c8 j8 oeC "OverflowError.__new__" "limit" = true)
    (n9 : errI K c9 j9 ieC "IndexError.__new__" "many" = true)
    (n10 : errI K c10 j10 aeC "ArithmeticError.__new__" "reason" = true)
    (kit : kitAll K (pick [c0, c1, c2, c3, c4, c5, c6, c7, c8, c9, c10]) = true)
    (zValueError : PySem.W.nsIn K mainGlobals "ValueError" = some none)
    (zKeyError : PySem.W.nsIn K mainGlobals "KeyError" = some none)
    (zRuntimeError : PySem.W.nsIn K mainGlobals "RuntimeError" = some none)
    (zOverflowError : PySem.W.nsIn K mainGlobals "OverflowError" = some none)
    (zIndexError : PySem.W.nsIn K mainGlobals "IndexError" = some none)
    (zArithmeticError : PySem.W.nsIn K mainGlobals "ArithmeticError" = some none)
    (zLookupError : PySem.W.nsIn K mainGlobals "LookupError" = some none)
    (zisinstance : PySem.W.nsIn K mainGlobals "isinstance" = some none)
    (zrepr : PySem.W.nsIn K mainGlobals "repr" = some none)
    (zrange : PySem.W.nsIn K mainGlobals "range" = some none)
    (zmax : PySem.W.nsIn K mainGlobals "max" = some none)
    (zmin : PySem.W.nsIn K mainGlobals "min" = some none)
    (zlen : PySem.W.nsIn K mainGlobals "len" = some none)
    (zint : PySem.W.nsIn K mainGlobals "int" = some none)
    (zabs : PySem.W.nsIn K mainGlobals "abs" = some none) :
    ∃ fd : FuncData, (∀ (s : Shared) (v : Value), BindsTo s fd ⟨[v], []⟩ [("_law_script", v)]) ∧ ∀ base : Heap, K.In base → base.Ns mainGlobals mg → FnG l.prog w K mg base 5 fa fd ["_law_script"] (spLaw K) := by
  have e := hfa.symm.trans (PySem.W.mg_of X G d5)
  cases e
  have T : TErr K mg (pick [c0, c1, c2, c3, c4, c5, c6, c7, c8, c9, c10]) := ⟨PySem.W.mg_of X G a0, PySem.W.mg_of X G a1, PySem.W.mg_of X G a2, PySem.W.mg_of X G a3, PySem.W.mg_of X G a4, PySem.W.mg_of X G a5, PySem.W.mg_of X G a6, PySem.W.mg_of X G a7, PySem.W.mg_of X G a8, PySem.W.mg_of X G a9, PySem.W.mg_of X G a10, PySem.W.mg_none_of X G zValueError, PySem.W.mg_none_of X G zKeyError, PySem.W.mg_none_of X G zRuntimeError, PySem.W.mg_none_of X G zOverflowError, PySem.W.mg_none_of X G zIndexError, PySem.W.mg_none_of X G zArithmeticError, PySem.W.mg_none_of X G zLookupError, PySem.W.mg_none_of X G zisinstance, fun k hk => ?_, kit⟩
  · have M : TMk K mg (pick [c0, c1, c2, c3, c4, c5, c6, c7, c8, c9, c10]) (pick [0, 0, 0, 0, j4, 0, j6, j7, j8, j9, j10]) := ⟨m0, m1, m2, m3, m5, .of n4, .of n6, .of n7, .of n8, .of n9, .of n10, PySem.W.mg_none_of X G zrepr⟩
    have TD : TDice mg := ⟨PySem.W.mg_none_of X G zlen, PySem.W.mg_none_of X G zint, PySem.W.mg_none_of X G zabs⟩
    have TL : TLaw mg := ⟨PySem.W.mg_none_of X G zrange, PySem.W.mg_none_of X G zmax, PySem.W.mg_none_of X G zmin, PySem.W.mg_none_of X G zlen⟩
    have F0 := fun_mk (st := sDice) l0 q0 k0
    have b0 := F0.binds (ps := ["_law_script", "_law_at"]) fun _ _ _ _ _ _ us hl => match us, hl with | [_, _], _ => rfl
    have F1 := fun_mk (st := sRoll) l1 q1 k1
    have b1 := F1.binds (ps := ["_law_dice_here", "_law_total"]) fun _ _ _ _ _ _ us hl => match us, hl with | [_, _], _ => rfl
    have F2 := fun_mk (st := sOne) l2 q2 k2
    have b2 := F2.binds (ps := ["_law_dice_here", "_law_items"]) fun _ _ _ _ _ _ us hl => match us, hl with | [_, _], _ => rfl
    have F3 := fun_mk (st := sKinds) l3 q3 k3
    have b3 := F3.binds (ps := ["_law_error"]) fun _ _ _ _ _ _ us hl => match us, hl with | [_], _ => rfl
    have F4 := fun_mk (st := sRight) l4 q4 k4
    have b4 := F4.binds (ps := ["_law_dice_here"]) fun _ _ _ _ _ _ us hl => match us, hl with | [_], _ => rfl
    have F5 := fun_mk (st := sLaw) l5 q5 k5
    have FI4 := fun_mk (st := sI4) lI4 qI4 kI4
    have bI4 := FI4.binds (ps := ["self", "line"]) fun _ _ _ _ _ _ us hl => match us, hl with | [_, _], _ => rfl
    have FI6 := fun_mk (st := sI6) lI6 qI6 kI6
    have bI6 := FI6.binds (ps := ["self", "name"]) fun _ _ _ _ _ _ us hl => match us, hl with | [_, _], _ => rfl
    have FI7 := fun_mk (st := sI7) lI7 qI7 kI7
    have bI7 := FI7.binds (ps := ["self", "value"]) fun _ _ _ _ _ _ us hl => match us, hl with | [_, _], _ => rfl
    have FI8 := fun_mk (st := sI8) lI8 qI8 kI8
    have bI8 := FI8.binds (ps := ["self", "limit"]) fun _ _ _ _ _ _ us hl => match us, hl with | [_, _], _ => rfl
    have FI9 := fun_mk (st := sI9) lI9 qI9 kI9
    have bI9 := FI9.binds (ps := ["self", "many"]) fun _ _ _ _ _ _ us hl => match us, hl with | [_, _], _ => rfl
    have FI10 := fun_mk (st := sI10) lI10 qI10 kI10
    have bI10 := FI10.binds (ps := ["self", "reason"]) fun _ _ _ _ _ _ us hl => match us, hl with | [_, _], _ => rfl
    refine ⟨PySem.W.fnOf "law" "law" (defArgs sLaw) (defBody sLaw) (defScope sLaw) .none kV5 dc5 pm5 an5 cd5 ct5, fun s v => .of_eq rfl, fun base _ _ => ?_⟩
    have GI4 := ok_i4 (P := l.prog) (w := w) (mg := mg) (base := base) (C := (pick [c0, c1, c2, c3, c4, c5, c6, c7, c8, c9, c10])) (I := (pick [0, 0, 0, 0, j4, 0, j6, j7, j8, j9, j10])) FI4 (T.err 4 (by decide)) M.i4
    have GI6 := ok_i6 (P := l.prog) (w := w) (mg := mg) (base := base) (C := (pick [c0, c1, c2, c3, c4, c5, c6, c7, c8, c9, c10])) (I := (pick [0, 0, 0, 0, j4, 0, j6, j7, j8, j9, j10])) FI6 (T.err 6 (by decide)) M.i6
    have GI7 := ok_i7 (P := l.prog) (w := w) (mg := mg) (base := base) (C := (pick [c0, c1, c2, c3, c4, c5, c6, c7, c8, c9, c10])) (I := (pick [0, 0, 0, 0, j4, 0, j6, j7, j8, j9, j10])) FI7 (T.err 7 (by decide)) M.i7
    have GI8 := ok_i8 (P := l.prog) (w := w) (mg := mg) (base := base) (C := (pick [c0, c1, c2, c3, c4, c5, c6, c7, c8, c9, c10])) (I := (pick [0, 0, 0, 0, j4, 0, j6, j7, j8, j9, j10])) FI8 (T.err 8 (by decide)) M.i8
    have GI9 := ok_i9 (P := l.prog) (w := w) (mg := mg) (base := base) (C := (pick [c0, c1, c2, c3, c4, c5, c6, c7, c8, c9, c10])) (I := (pick [0, 0, 0, 0, j4, 0, j6, j7, j8, j9, j10])) FI9 (T.err 9 (by decide)) M.i9
    have GI10 := ok_i10 (P := l.prog) (w := w) (mg := mg) (base := base) (C := (pick [c0, c1, c2, c3, c4, c5, c6, c7, c8, c9, c10])) (I := (pick [0, 0, 0, 0, j4, 0, j6, j7, j8, j9, j10])) FI10 (T.err 10 (by decide)) M.i10
    have GR := ok_right (P := l.prog) (w := w) (base := base) (C := (pick [c0, c1, c2, c3, c4, c5, c6, c7, c8, c9, c10])) (I := (pick [0, 0, 0, 0, j4, 0, j6, j7, j8, j9, j10])) F4 T M (PySem.W.mg_of X G d3) F3 b3 (PySem.W.mg_of X G d2) F2 b2 (ok_one F2 TD (PySem.W.mg_of X G d1) F1 b1) GI4 bI4 GI6 bI6 GI7 bI7 GI8 bI8 GI9 bI9 GI10 bI10
    exact ok_law (C := (pick [c0, c1, c2, c3, c4, c5, c6, c7, c8, c9, c10])) (I := (pick [0, 0, 0, 0, j4, 0, j6, j7, j8, j9, j10])) F5 TL T M (PySem.W.mg_of X G d0) k0 b0 (ok_dice F0 TD) (PySem.W.mg_of X G d4) k4 b4 GR GI4 bI4 GI8 bI8
  · match k, hk with
    | 0, _ => exact .of e0
    | 1, _ => exact .of e1
    | 2, _ => exact .of e2
    | 3, _ => exact .of e3
    | 4, _ => exact .of e4
    | 5, _ => exact .of e5
    | 6, _ => exact .of e6
    | 7, _ => exact .of e7
    | 8, _ => exact .of e8
    | 9, _ => exact .of e9
    | 10, _ => exact .of e10
    | n + 11, hk => exact absurd hk (by omega)
end WK
open PySem PySem.W PyProof.Rows
set_option maxRecDepth 100000 in
set_option maxHeartbeats 0 in
theorem PySem.Challenge.cw_watchkinds_k00_errors_and_what_they_keep_holds : PySem.Challenge.rw_watchkinds_k00_errors_and_what_they_keep.Holds := by
  w_on; o_law; k_head; (case hw => w_witness2)
  k_fill
  refine WG.walkG (l := PySem.Challenge.rw_watchkinds_k00_errors_and_what_they_keep) (n := 63) (k := 5) (x := "_law_script") (spL := WK.spLaw) rfl (by decide) rfl ⟨rfl, by decide, by decide⟩ (fun w h Y => PySem.W.kIn_of Y) ?F (fun K H a ns hl _ hS => ⟨a, ns, rfl, hS, hl, fun _ => rfl⟩)
  case F =>
    intro w mg fa h KX G hmg
    refine' WK.all_mk KX G hmg ?a0 ?a1 ?a2 ?a3 ?a4 ?a5 ?a6 ?a7 ?a8 ?a9 ?a10 ?u4 ?lI4 ?qI4 ?kI4 ?u6 ?lI6 ?qI6 ?kI6 ?u7 ?lI7 ?qI7 ?kI7 ?u8 ?lI8 ?qI8 ?kI8 ?u9 ?lI9 ?qI9 ?kI9 ?u10 ?lI10 ?qI10 ?kI10 ?d0 ?l0 ?q0 ?k0 ?d1 ?l1 ?q1 ?k1 ?d2 ?l2 ?q2 ?k2 ?d3 ?l3 ?q3 ?k3 ?d4 ?l4 ?q4 ?k4 ?d5 ?l5 ?q5 ?k5 ?e0 ?e1 ?e2 ?e3 ?e4 ?e5 ?e6 ?e7 ?e8 ?e9 ?e10 ?m0 ?m1 ?m2 ?m3 ?m5 ?n4 ?n6 ?n7 ?n8 ?n9 ?n10 ?kit ?zValueError ?zKeyError ?zRuntimeError ?zOverflowError ?zIndexError ?zArithmeticError ?zLookupError ?zisinstance ?zrepr ?zrange ?zmax ?zmin ?zlen ?zint ?zabs
    (case a0 => k_is)
    (case a1 => k_is)
    (case a2 => k_is)
    (case a3 => k_is)
    (case a4 => k_is)
    (case a5 => k_is)
    (case a6 => k_is)
    (case a7 => k_is)
    (case a8 => k_is)
    (case a9 => k_is)
    (case a10 => k_is)
    (case u4 => k_is)
    (case lI4 => k_is)
    (case qI4 => k_is)
    (case kI4 => k_is)
    (case u6 => k_is)
    (case lI6 => k_is)
    (case qI6 => k_is)
    (case kI6 => k_is)
    (case u7 => k_is)
    (case lI7 => k_is)
    (case qI7 => k_is)
    (case kI7 => k_is)
    (case u8 => k_is)
    (case lI8 => k_is)
    (case qI8 => k_is)
    (case kI8 => k_is)
    (case u9 => k_is)
    (case lI9 => k_is)
    (case qI9 => k_is)
    (case kI9 => k_is)
    (case u10 => k_is)
    (case lI10 => k_is)
    (case qI10 => k_is)
    (case kI10 => k_is)
    (case d0 => k_is)
    (case l0 => k_is)
    (case q0 => k_is)
    (case k0 => k_is)
    (case d1 => k_is)
    (case l1 => k_is)
    (case q1 => k_is)
    (case k1 => k_is)
    (case d2 => k_is)
    (case l2 => k_is)
    (case q2 => k_is)
    (case k2 => k_is)
    (case d3 => k_is)
    (case l3 => k_is)
    (case q3 => k_is)
    (case k3 => k_is)
    (case d4 => k_is)
    (case l4 => k_is)
    (case q4 => k_is)
    (case k4 => k_is)
    (case d5 => k_is)
    (case l5 => k_is)
    (case q5 => k_is)
    (case k5 => k_is)
    (case e0 => kernel_rfl)
    (case e1 => kernel_rfl)
    (case e2 => kernel_rfl)
    (case e3 => kernel_rfl)
    (case e4 => kernel_rfl)
    (case e5 => kernel_rfl)
    (case e6 => kernel_rfl)
    (case e7 => kernel_rfl)
    (case e8 => kernel_rfl)
    (case e9 => kernel_rfl)
    (case e10 => kernel_rfl)
    (case m0 => kernel_rfl)
    (case m1 => kernel_rfl)
    (case m2 => kernel_rfl)
    (case m3 => kernel_rfl)
    (case m5 => kernel_rfl)
    (case n4 => kernel_rfl)
    (case n6 => kernel_rfl)
    (case n7 => kernel_rfl)
    (case n8 => kernel_rfl)
    (case n9 => kernel_rfl)
    (case n10 => kernel_rfl)
    (case kit => kernel_rfl)
    (case zValueError => k_is)
    (case zKeyError => k_is)
    (case zRuntimeError => k_is)
    (case zOverflowError => k_is)
    (case zIndexError => k_is)
    (case zArithmeticError => k_is)
    (case zLookupError => k_is)
    (case zisinstance => k_is)
    (case zrepr => k_is)
    (case zrange => k_is)
    (case zmax => k_is)
    (case zmin => k_is)
    (case zlen => k_is)
    (case zint => k_is)
    (case zabs => k_is)
#print axioms PySem.Challenge.cw_watchkinds_k00_errors_and_what_they_keep_holds

