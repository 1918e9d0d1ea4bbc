import PyProof.Rows.All
import Wide.All
import OpenK.AllK
import Wide.FinOn
import HandS.ForMost
import HandS.Wide
import HandS.IsInst
import HandS.ExcInit
import HandS.Flow
import HandS.Codes
import KE.KExcIs
import KE.KExcInit
import PyProof.Rows.SetFrom
import PyProof.StrWalks
import HandS.Set
import HandS.TupSets
import HandS.SetTxt0
import HandS.SetTxtIn
import HandS.Strs
import HandS.Style
import HandS.StrMore
import HandS.Text
import PyProof.StrLawsFrom
import PyProof.Rows.StrCountLaw
import PyProof.Rows.StrRev
import PyProof.Rows.StrMul
import HandS.Conv
import HandS.Walk
import HandS.WordsExc
import HandS.Words
import HandS.Nested
import HandS.Lambda
import HandS.Dict
import PyProof.Rows.TupDisplay
import KE.GoesNew
import HandS.DictComp
import HandS.More
import HandS.Zip
import KE.GoesEnum
import HandS.SlotsOwn
import HandS.Property
import KE.KCallOwn
import KE.KFmtOwn
import PyProof.InstNe
import HandS.FStr
import HandS.Star
import KE.KDictZip
import HandS.Zip0
import HandS.Defaults
import HandS.Exc
import HandS.TryOnly
import HandS.ExcOwn
import KE.KeyNested
import KE.KDictCopyH
import HandS.TupLen
import KE.KDictPairs
import HandS.SetFor
import PyProof.Rows.MinMaxN
import HandS.ExcValue
import PyProof.ExcBaseAll.OverflowError
import PyProof.ExcBaseAll.ArithmeticError
import PyProof.ExcBaseAll.RuntimeError
import PyProof.ExcBaseAll.IndexError
import PyProof.ExcBaseAll.LookupError
import HandS.ClsMeth
import HandS.HeadHook3
import HandS.EndTab
import PySem.Challenge.RW_watchkinds_k07_boxes_of_tables_led
set_option Elab.async false
set_option linter.all false
set_option maxRecDepth 100000
set_option maxHeartbeats 4000000
namespace WK
open PySem L2 PyProof.Rows
def top (i : Nat) : Stmt := PySem.Challenge.pw_watchkinds_k07_boxes_of_tables_led.main.body.getD i (.Pass ⟨0, 0, 0, 0⟩)
abbrev sDice : Stmt := top 56
abbrev sRoll : Stmt := top 57
abbrev sOne : Stmt := top 58
/-- a power of any two numbers of which the result is not too long -/
def CPowW (i j : Int) : Prop := 0 ≤ j ∧ (Builtin.Int.intBits i : Int) * j ≤ 2 ^ 27
theorem op_powW {X : Cx} : OpR X (binaryOp .Pow) (rI CPowW fun i j => .int (i ^ j.toNat)) := opI fun _ _ _ _ _ _ _ hc q => pow_int hc.1 hc.2 q
/-- the dice stand at p -/
def DiceAt (H : Hp) (p : Addr) : Prop := ∃ a b c : Int, H p = some (.lst [.int a, .int b, .int c]) ∧ 0 ≤ a ∧ 0 ≤ b ∧ 0 ≤ c
/-- all that was tracked stands, but for what is at p -/
def But (p : Addr) (H H' : Hp) : Prop := ∀ b o, H b = some o → b ≠ p → H' b = some o
theorem But.refl (p : Addr) (H : Hp) : But p H H := fun _ _ h _ => h
theorem But.trans {p : Addr} {H H1 H2 : Hp} (a : But p H H1) (b : But p H1 H2) : But p H H2 := fun c o h n => b c o (a c o h n) n
theorem But.ofSame {p : Addr} {H H' : Hp} (s : Same H H') : But p H H' := fun b o h _ => s b o h
theorem But.upd {p : Addr} {H : Hp} {o : HO} : But p H (upd H p o) := fun b u h n => by rw [upd_ne n]; exact h
/-- law's number of a cell -/
def big : Int := (10 ^ 60) ^ 10
theorem big_pos : 0 < big := by decide +kernel
def spDice (K : PySem.W.Frag) : Sp := fun vs H Q _ => ∃ (s : Addr) (ns : List Int) (k : Int), vs = [.ref s, .int k] ∧ SqL K H s (ns.map V.int) ∧ 0 ≤ k ∧
  ∀ (p : Addr) (H' : Hp), H p = none → Same H H' → DiceAt H' p → Q (.ref p) H'
def spRoll : Sp := fun vs H Q _ => ∃ (p : Addr) (n : Int), vs = [.ref p, .int n] ∧ DiceAt H p ∧ 0 < n ∧ n < 1073741824 ∧
  ∀ (r : Int) (H' : Hp), 0 ≤ r → r < n → DiceAt H' p → But p H H' → Q (.int r) H'
def spOne : Sp := fun vs H Q _ => ∃ (p q : Addr) (xs : List V), vs = [.ref p, .ref q] ∧ DiceAt H p ∧ q ≠ p ∧ H q = some (.lst xs) ∧ 0 < xs.length ∧ xs.length < 1000000 ∧
  ∀ (v : V) (H' : Hp), v ∈ xs → DiceAt H' p → But p H H' → Q v H'
structure TDice (mg : Str → Option Value) : Prop where
  len : mg "len" = none
  int : mg "int" = none
  abs : mg "abs" = none
section
variable {P : Program} {w : World} {K : PySem.W.Frag} {mg : Str → Option Value} {base : Heap}
theorem scD : FnScope ["_law_script", "_law_at", "_law_cell", "_law_great", "_law_left", "_law_mixed_here"] ["_law_script", "_law_at"] (defScope sDice) := ⟨rfl, rfl, rfl, by decide +kernel, rfl, by decide +kernel, by decide +kernel⟩
theorem ok_dice {f : Addr} {fd : FuncData} (F : Fun K "_law_dice" "_law_dice" sDice f fd) (T : TDice mg) : FnOk P w K mg base CX0 1 f fd ["_law_script", "_law_at"] (spDice K) := by
  refine F.ok scD (fun vs H Q E h => ?_) (fun cdv A outer s H vs Q E hr h => ?_)
  · obtain ⟨s, ns, k, rfl, _⟩ := h
    rfl
  · obtain ⟨s, ns, k, rfl, hS, hk, q⟩ := h
    refine ⟨_, pss_cons (ps_set (i := 2) scD.nd rfl (Or.inl rfl) (pe_op op_add (pe_op op_mul pe_int (pv 1)) pe_int))
      (C8.pss_cut (ps_if (pt_cmpR op_lt (pv 1) (pe_callB call_len_seq (by rfl) T.len PySem.boot_len (pa_cons (pv 0) pa_nil)) (nomark _))
        (pss_one (ps_set (i := 2) scD.nd rfl (Or.inl rfl) (pe_ix ix_list (pv 0) (pv 1) (fun _ _ => rfl)))) pss_nil)
      (pss_cons (ps_set (i := 3) scD.nd rfl (Or.inl rfl) (pe_op op_mod (pe_callTy call_int1 (by rfl) T.int (by decide +kernel) (pa_cons (pe_callB call_abs (by rfl) T.abs (by decide +kernel) (pa_cons (pv 2) pa_nil)) pa_nil)) (pe_op op_powW (pe_op op_pow pe_int pe_int) pe_int)))
      (pss_cons (ps_set (i := 4) scD.nd rfl (Or.inl rfl) (pe_op op_fdivW (pv 3) (pe_op op_pow pe_int pe_int)))
      (pss_cons (ps_set (i := 5) scD.nd rfl (Or.inl rfl) (pe_op op_add (pe_op op_add (pe_op op_add (pe_op op_mul (pe_op op_mod (pv 3) pe_int) pe_int) (pe_op op_mul pe_int (pv 1)))
          (pe_op op_mul pe_int (pe_callTy call_int1 (by rfl) T.int (by decide +kernel) (pa_cons (pe_cmpR op_lt (pv 2) pe_int (nomark _)) pa_nil)))) pe_int))
      (pss_one (ps_ret (pe_lst (pa_cons (pv 4) (pa_cons (pe_op op_mod (pv 5) pe_int) (pa_cons pe_int pa_nil)))))))))), ?_⟩
    refine ⟨_, rfl, _, _, rfl, rfl, .inl ⟨by decide, by decide⟩, _, _, rfl, rfl, ?_⟩
    -- behind the if: some cell
    refine ⟨fun σ H' => H' = H ∧ ∃ c : Int, σ = [some (.ref s), some (.int k), some (.int c), none, none, none], ?_, ?_⟩
    · refine ⟨_, rfl, _, rfl, s, _, rfl, .inl hS, _, _, rfl, rfl, _, rfl, ?_⟩
      refine ite2 (fun hc => ?_) (fun _ => ?_)
      · have hl : k < ((ns.map V.int).length : Int) := of_decide_eq_true hc
        rw [List.length_map] at hl
        have hj : k.toNat < ns.length := by omega
        have e1 : (ns.map V.int)[k.toNat]? = some (V.int ns[k.toNat]) := by
          rw [List.getElem?_map, List.getElem?_eq_getElem hj]
          rfl
        have e2 := atI_nat e1
        rw [Int.toNat_of_nonneg hk] at e2
        exact ⟨_, rfl, _, rfl, s, _, _, _, rfl, rfl, hS, e2, rfl, _, rfl⟩
      · exact ⟨rfl, _, rfl⟩
    · rintro σ H' ⟨rfl, c, rfl⟩
      refine ⟨_, rfl, _, rfl, .inl ⟨_, rfl, ?_⟩⟩
      refine ⟨_, _, rfl, rfl, ⟨by decide, by decide, by decide +kernel⟩, _, _, rfl, rfl, ⟨by decide, by decide +kernel⟩, _, _, rfl, rfl, big_pos, ?_⟩
      refine ⟨_, rfl, _, _, rfl, rfl, ⟨by decide, by decide, by decide +kernel⟩, _, _, rfl, rfl, wide_div (b := 64) (by decide +kernel) (by decide +kernel) (by decide) (by decide), ?_⟩
      refine ⟨_, rfl, _, _, rfl, rfl, (by show (0 : Int) < 2147483059; decide), _, _, rfl, rfl, .inr ⟨by decide, by decide⟩, _, rfl, _, _, rfl, rfl, .inl ⟨by decide, by decide⟩, _, _, rfl, rfl, ?_⟩
      refine ⟨_, rfl, _, _, rfl, rfl, .inr ⟨_, rfl, ?_⟩⟩
      refine ⟨_, _, rfl, rfl, .inl ⟨by decide, by decide⟩, _, _, rfl, rfl, _, _, rfl, rfl, ?_⟩
      refine ⟨_, rfl, _, rfl, _, _, rfl, rfl, (by show (0 : Int) < 2147483053; decide), (by show 3 ≤ sizeLine; decide), fun p hp => q p _ hp (fun b o e => by rw [upd_ne (ne_of_none e hp)]; exact e) ⟨_, _, _, upd_same, ?_, ?_, Int.le_refl 0⟩⟩
      · exact Int.ediv_nonneg (Int.emod_nonneg _ (Int.ne_of_gt big_pos)) (by decide)
      · exact Int.emod_nonneg _ (by decide)
/-- of a roll -/
theorem scR : FnScope ["_law_dice_here", "_law_total", "_law_number", "_law_drawn", "_law_one", "_law_two"] ["_law_dice_here", "_law_total"] (defScope sRoll) := ⟨rfl, rfl, rfl, by decide +kernel, rfl, by decide +kernel, by decide +kernel⟩
theorem ok_roll {f : Addr} {fd : FuncData} (F : Fun K "_law_roll" "_law_roll" sRoll f fd) (T : TDice mg) : FnOk P w K mg base CX0 1 f fd ["_law_dice_here", "_law_total"] spRoll := by
  refine F.ok scR (fun vs H Q E h => ?_) (fun cdv A outer s H vs Q E hr h => ?_)
  · obtain ⟨p, n, rfl, _⟩ := h
    rfl
  · obtain ⟨p, n, rfl, ⟨a, b, c, hD, ha, hb, hc⟩, hn, hn2, q⟩ := h
    refine ⟨_, pss_cons (ps_set (i := 2) scR.nd rfl (Or.inl rfl) (pe_callTy call_int1 (by rfl) T.int (by decide +kernel) (pa_cons (pv 1) pa_nil)))
      (pss_cons (ps_if (pt_cmpR op_gt (pe_ix ix_list (pv 0) pe_int (fun _ _ => rfl)) pe_int (nomark _))
        (pss_cons (ps_set (i := 3) scR.nd rfl (Or.inl rfl) (pe_op op_mod (pe_ix ix_list (pv 0) pe_int (fun _ _ => rfl)) (pv 2)))
        (pss_cons (ps_asg (pe_op op_fdiv (pe_ix ix_list (pv 0) pe_int (fun _ _ => rfl)) (pv 2)) (pg_sub (pv 0) pe_int set_list))
        (pss_one (ps_ret (pe_callTy call_int1 (by rfl) T.int (by decide +kernel) (pa_cons (pv 3) pa_nil)))))) pss_nil)
      (pss_cons (ps_asg (pe_op op_add (pe_ix ix_list (pv 0) pe_int (fun _ _ => rfl)) pe_int) (pg_sub (pv 0) pe_int set_list))
      (pss_cons (ps_set (i := 4) scR.nd rfl (Or.inl rfl) (pe_op op_mod (pe_op op_add (pe_ix ix_list (pv 0) pe_int (fun _ _ => rfl)) (pe_op op_mul pe_int (pe_ix ix_list (pv 0) pe_int (fun _ _ => rfl)))) pe_int))
      (pss_cons (ps_set (i := 5) scR.nd rfl (Or.inl rfl) (pe_op op_add (pe_op op_mul (pe_op op_mod (pe_op op_mul (pv 4) (pv 4)) pe_int) (pv 4)) (pe_op op_mul pe_int (pe_ix ix_list (pv 0) pe_int (fun _ _ => rfl)))))
      (pss_cons (ps_set (i := 5) scR.nd rfl (Or.inl rfl) (pe_op op_mod (pv 5) pe_int))
      (pss_one (ps_ret (pe_callTy call_int1 (by rfl) T.int (by decide +kernel) (pa_cons (pe_op op_mod (pe_op op_fdiv (pv 5) pe_int) (pv 2)) pa_nil))))))))), ?_⟩
    refine ⟨_, rfl, .inl ⟨_, rfl, ?_⟩⟩
    refine ⟨_, rfl, p, _, _, _, rfl, rfl, SqL.of hD, atI_nat (j := 0) rfl, _, _, rfl, rfl, _, rfl, ?_⟩
    refine ite2 (fun hc' => ?_) (fun hc' => ?_)
    · refine ⟨_, rfl, p, _, _, _, rfl, rfl, SqL.of hD, atI_nat (j := 0) rfl, _, rfl, _, _, rfl, rfl, hn, ?_⟩
      refine ⟨_, rfl, p, _, _, _, rfl, rfl, SqL.of hD, atI_nat (j := 0) rfl, _, rfl, _, _, rfl, rfl, ⟨hn, hn2⟩, ?_⟩
      refine ⟨_, rfl, p, _, _, 0, rfl, rfl, hD, rfl, ?_⟩
      refine ⟨_, rfl, .inl ⟨_, rfl, ?_⟩⟩
      exact q _ _ (Int.emod_nonneg _ (Int.ne_of_gt hn)) (Int.emod_lt_of_pos _ hn) ⟨_, _, _, upd_same, Int.ediv_nonneg ha (Int.le_of_lt hn), hb, hc⟩ But.upd
    · refine ⟨_, rfl, p, _, _, _, rfl, rfl, SqL.of hD, atI_nat (j := 2) rfl, _, _, rfl, rfl, _, rfl, p, _, _, 2, rfl, rfl, hD, rfl, ?_⟩
      have h2 : (upd H p (.lst [.int a, .int b, .int (c + 1)])) p = some (.lst [.int a, .int b, .int (c + 1)]) := upd_same
      refine ⟨_, rfl, p, _, _, _, rfl, rfl, SqL.of h2, atI_nat (j := 1) rfl, _, rfl, p, _, _, _, rfl, rfl, SqL.of h2, atI_nat (j := 2) rfl, _, _, rfl, rfl, .inl ⟨by decide, by decide⟩, _, _, rfl, rfl, _, _, rfl, rfl, (by show (0 : Int) < 2305843009213693951; decide), ?_⟩
      have one0 : ∀ x : Int, -(2 ^ 64) < x % 2305843009213693951 ∧ x % 2305843009213693951 < 2 ^ 64 := fun x => by
        have l := Int.emod_nonneg x (show (2305843009213693951 : Int) ≠ 0 by decide)
        have u := Int.emod_lt_of_pos x (show (0 : Int) < 2305843009213693951 by decide)
        exact ⟨by omega, by omega⟩
      refine ⟨_, rfl, _, rfl, _, _, rfl, rfl, .inl (one0 _), _, _, rfl, rfl, (by show (0 : Int) < 2305843009213693921; decide), _, rfl, _, _, rfl, rfl, .inr (one0 _), _, rfl, p, _, _, _, rfl, rfl, SqL.of h2, atI_nat (j := 2) rfl, _, _, rfl, rfl, .inl ⟨by decide, by decide⟩, _, _, rfl, rfl, ?_⟩
      refine ⟨_, rfl, _, _, rfl, rfl, (by show (0 : Int) < 2305843009213693907; decide), ?_⟩
      refine ⟨_, rfl, _, _, rfl, rfl, ⟨by decide, by decide⟩, _, rfl, _, _, rfl, rfl, hn, .inl ⟨_, rfl, ?_⟩⟩
      exact q _ _ (Int.emod_nonneg _ (Int.ne_of_gt hn)) (Int.emod_lt_of_pos _ hn) ⟨_, _, _, upd_same, ha, hb, by omega⟩ But.upd
theorem scO : FnScope ["_law_dice_here", "_law_items"] ["_law_dice_here", "_law_items"] (defScope sOne) := ⟨rfl, rfl, rfl, by decide +kernel, rfl, by decide +kernel, by decide +kernel⟩
theorem ok_one {f fR : Addr} {fd fdR : FuncData} (F : Fun K "_law_one_of" "_law_one_of" sOne f fd) (T : TDice mg) (gR : mg "_law_roll" = some (.ref fR)) (FR : Fun K "_law_roll" "_law_roll" sRoll fR fdR) (bR : Binds K fdR ["_law_dice_here", "_law_total"] []) :
    FnOk P w K mg base CX0 2 f fd ["_law_dice_here", "_law_items"] spOne := by
  have GR : FnOk P w K mg base CX0 1 fR fdR ["_law_dice_here", "_law_total"] spRoll := ok_roll FR T
  refine F.ok scO (fun vs H Q E h => ?_) (fun cdv A outer s H vs Q E hr h => ?_)
  · obtain ⟨p, n, _, rfl, _⟩ := h
    rfl
  · obtain ⟨p, a, xs, rfl, hD, hne, hx, h0, h1, q⟩ := h
    refine ⟨_, pss_one (ps_ret (pe_ix ix_list (pv 1) (pe_call GR hr rfl gR FR.kp bR .nil pass0 (pa_cons (pv 0) (pa_cons (pe_callB call_len_seq (by rfl) T.len PySem.boot_len (pa_cons (pv 1) pa_nil)) pa_nil))) (fun _ _ => rfl))), ?_⟩
    refine ⟨_, rfl, _, rfl, _, rfl, a, _, rfl, .inl (SqL.of hx), p, _, rfl, hD, by omega, by omega, fun r H' hr0 hr1 hD' hB => ?_⟩
    have hj : r.toNat < xs.length := by omega
    have e1 : xs[r.toNat]? = some xs[r.toNat] := List.getElem?_eq_getElem hj
    have e2 := atI_nat e1
    rw [Int.toNat_of_nonneg hr0] at e2
    exact ⟨a, _, _, _, rfl, rfl, SqL.of (hB _ _ hx hne), e2, q _ _ (List.getElem_mem hj) hD' hB⟩
end
end WK
set_option Elab.async false
set_option linter.all false
set_option maxRecDepth 100000
set_option maxHeartbeats 4000000
namespace TX
open PySem PySem.Spec PyProof.Rows L2
/-- the text of an entry -/
def txOf (e : Int × Value) : Str := strOf e.2
def GoodX (w : World) (e : Int × Value) : Prop := ∃ k tk, e.2 = Value.str k tk ∧ e.1 = hashStr w k
/-- what holds of the entries of a set of texts, whatever object bears them: T says its members -/
structure Fine (w : World) (T : Str → Bool) (es : Array (Int × Value)) (t : SetTable) : Prop where
  good : ∀ e ∈ es.toList, GoodX w e
  once : (es.toList.map txOf).Nodup
  mem : ∀ k, T k = true ↔ k ∈ es.toList.map txOf
  few : es.size < scanBound
  fit : t.fits es.size = true
  ris : Ris t.place.toList
  led : t.led = true ∨ w.params.followText "set-order" = true
/-- a set of n texts at a -/
structure SetX (w : World) (h : Heap) (a : Addr) (T : Str → Bool) (n : Nat) (o : Obj) (es : Array (Int × Value)) (ep : Nat) (t : SetTable) : Prop where
  ob : h.get? a = some o
  ex : o.ExactSet
  dat : o.data = .set es ep t
  sz : es.size = n
  fine : Fine w T es t
def HasX (w : World) (h : Heap) (a : Addr) (T : Str → Bool) (n : Nat) : Prop := ∃ o es ep t, SetX w h a T n o es ep t
section
variable {P : Program} {w : World} {h h' : Heap} {a : Addr} {T : Str → Bool} {n : Nat}
theorem HasX.at (R : HasX w h a T n) (k : ∀ o, h.get? a = some o → h'.get? a = some o) : HasX w h' a T n := by
  obtain ⟨o, es, ep, t, r⟩ := R
  exact ⟨o, es, ep, t, { r with ob := k o r.ob }⟩
theorem good_elems {l : List (Int × Value)} (g : ∀ e ∈ l, GoodX w e) : ElemsOf (PySem.strKind P w) l := fun e at_e =>
  match e, g e at_e with
  | (_, _), ⟨k, tk, rfl, hash⟩ => ⟨⟨k, Froz.is_str k tk, hash⟩, by rfl⟩
theorem good_is {e : Int × Value} (g : GoodX w e) (k : Str) : (PySem.strKind P w).is k e.2 = true ↔ txOf e = k :=
  match e, g with
  | (_, _), ⟨j, tk, rfl, _⟩ => ⟨fun q => (PySem.strKind P w).inj (.str j tk) j k (Froz.is_str j tk) q, fun q => q ▸ Froz.is_str j tk⟩
/-- the scan of the entries finds a text just where T says so -/
theorem Fine.look {es : Array (Int × Value)} {t : SetTable} (F : Fine w T es t) (k : Str) : (es.toList.findIdx? fun e => (PySem.strKind P w).is k e.2).isSome = T k := by
  rw [List.findIdx?_isSome, Bool.eq_iff_iff, List.any_eq_true, F.mem k, List.mem_map]
  exact ⟨fun ⟨e, at_e, q⟩ => ⟨e, at_e, (good_is (F.good e at_e) k).mp q⟩, fun ⟨e, at_e, q⟩ => ⟨e, at_e, (good_is (F.good e at_e) k).mpr q⟩⟩
theorem Fine.moved {es fs : Array (Int × Value)} {t u : SetTable} (F : Fine w T es t) (p : fs.toList.Perm es.toList) (fit : u.fits fs.size = true) (ris : Ris u.place.toList) (led : u.led = t.led) : Fine w T fs u ∧ fs.size = es.size := by
  have size := p.length_eq
  rw [Array.length_toList, Array.length_toList] at size
  exact ⟨⟨fun e at_e => F.good e (p.mem_iff.mp at_e), (p.map txOf).nodup_iff.mpr F.once, fun k => (F.mem k).trans (p.map txOf).mem_iff.symm, size ▸ F.few, fit, ris, led ▸ F.led⟩, size⟩
theorem Fine.more {es fs : Array (Int × Value)} {t u : SetTable} {k : Str} {tk : Tok} (F : Fine w T es t) (out : T k = false) (room : es.size + 1 < scanBound)
    (p : fs.toList.Perm (es.push ((PySem.strKind P w).hash k, .str k tk)).toList) (fit : u.fits fs.size = true) (ris : Ris u.place.toList) (led : u.led = t.led) :
    Fine w (fun j => T j || decide (j = k)) fs u ∧ fs.size = es.size + 1 := by
  have pe : fs.toList.Perm (((PySem.strKind P w).hash k, Value.str k tk) :: es.toList) := p.trans (by rw [Array.toList_push]; exact List.perm_append_singleton _ _)
  have pt : (fs.toList.map txOf).Perm (k :: es.toList.map txOf) := pe.map txOf
  have size := pe.length_eq
  rw [List.length_cons, Array.length_toList, Array.length_toList] at size
  refine ⟨⟨fun e at_e => ?_, pt.nodup_iff.mpr (List.nodup_cons.mpr ⟨fun z => ?_, F.once⟩), fun j => ?_, size ▸ room, fit, ris, led ▸ F.led⟩, size⟩
  · cases pe.mem_iff.mp at_e with
    | head => exact ⟨k, tk, rfl, rfl⟩
    | tail _ old => exact F.good e old
  · exact Bool.false_ne_true (out.symm.trans ((F.mem k).mpr z))
  · simp only [pt.mem_iff, List.mem_cons, Bool.or_eq_true, decide_eq_true_eq, F.mem j]
    exact Or.comm
theorem Fine.plainOff {es : Array (Int × Value)} {t : SetTable} (F : Fine w T es t) : Fine w T es { t with plain := false } := { F with fit := SetTable.fits_plain_off F.fit }
end
section
variable {P : Program} {w : World} {A : Around} {E : Value → Shared → Prop} {s : Shared} {a : Addr} {T : Str → Bool} {n : Nat}
/-- the entries are laid down, and laid anew where the table is too full -/
theorem lay {g : Bool → Sem Unit} (calm : ∀ (b : Bool) (r : Shared) (K : Unit → Shared → Prop), K () r → wpAny (model P w) A (g b) K E r) {o : Obj} {es fs : Array (Int × Value)} {ep : Nat} {t u : SetTable}
    (ob : s.heap.get? a = some o) (ex : o.ExactSet) (dat : o.data = .set es ep t) (F : Fine w T fs u) {again : Bool} {R : Option Bool → Shared → Prop}
    (done : ∀ k, Heap.SameBut a s.heap k → HasX w k a T fs.size → R (some true) { s with heap := k }) :
    wpAny (model P w) A (storeSet a fs u >>= fun _ => if (!again && u.tooFull) = true then
        g (relayAll u fs (SetTable.grown fs.size)).2.2 >>= fun _ => storeSet a (relayAll u fs (SetTable.grown fs.size)).1 (relayAll u fs (SetTable.grown fs.size)).2.1 >>= fun _ => pure (some true)
      else pure (some true)) R E s := by
  have same1 := Heap.SameBut.update s.heap a (Obj.putSet fs u)
  have at1 := store_at (es' := fs) (t' := u) ob dat
  refine wpAny_bind (wpAny_storeSet_of ob dat ?_ (fits_of_scanBound F.few))
  by_cases full : (!again && u.tooFull) = true
  · rw [if_pos full]
    obtain ⟨F2, size2⟩ := F.moved (relayAll_perm u fs (SetTable.grown fs.size)) (relayAll_fits u fs _) (relayAll_ris u fs _) (relayAll_led u fs _)
    exact wpAny_bind (calm _ _ _ (wpAny_bind (wpAny_storeSet_of at1 rfl (wpAny_pure (done _ (same1.trans (Heap.SameBut.update _ a _)) ⟨_, _, _, _, store_at at1 rfl, ex, rfl, size2, F2⟩)) (fits_of_scanBound F2.few))))
  · rw [if_neg full]
    exact wpAny_pure (done _ same1 ⟨_, fs, _, u, at1, ex, rfl, rfl, F⟩)
theorem add {k : Str} {tk : Tok} {Q : Bool → Shared → Prop} (R : HasX w s.heap a T n) (room : n + 1 < scanBound)
    (hQ : ∀ h', Heap.SameBut a s.heap h' → HasX w h' a (fun j => T j || decide (j = k)) (if T k = true then n else n + 1) → Q (!T k) { s with heap := h' }) :
    wpAny (model P w) A (setAddHashed a (.str k tk) ((PySem.strKind P w).hash k)) Q E s := by
  obtain ⟨o, es, ep, t, ob, ex, dat, rfl, F⟩ := R
  have scans : (Value.str k tk).scannable = true := rfl
  have els := good_elems (P := P) F.good
  have calm : ∀ (b : Bool) (r : Shared) (K : Unit → Shared → Prop), K () r → wpAny (model P w) A (match b with | true => rule "set.scan.the-table-gave-way" | false => pure ()) K E r
    | true, _, _, q => wpAny_rule q
    | false, _, _, q => wpAny_pure q
  unfold setAddHashed; unfold setAddHashedIn
  refine wpAny_holding (wpAny_bind (wpAny_setState_of ob dat F.fit ?_))
  simp only [byScan_of scans F.few els, ↓reduceIte]
  unfold setAddByScan
  refine wpAny_bind (wpAny_bind (wpAny_rule (wpAny_bind (wpAny_setScan_of (Froz.is_str k tk) ob dat F.fit els ?_))))
  have seen := F.look (P := P) k
  cases found : es.toList.findIdx? (fun e => (PySem.strKind P w).is k e.2) with
  | some j =>
    rw [found] at seen
    have inT : T k = true := seen.symm
    have q := hQ s.heap (Heap.SameBut.refl a s.heap) ⟨o, es, ep, t, ob, ex, dat, (if_pos inT).symm, { F with mem := fun i => (F.mem i).symm.trans ?_ |>.symm }⟩
    · rw [inT] at q
      exact wpAny_pure (wpAny_pure q)
    · simp only [Bool.or_eq_true, decide_eq_true_eq]
      exact ⟨.inl, fun z => z.elim id fun e => e ▸ inT⟩
  | none =>
    rw [found] at seen
    have out : T k = false := seen.symm
    have F1 := F.more (P := P) (k := k) (tk := tk) out room (layNew_perm t es _ _) (layNew_fits t es _ _) (layNew_ris t es _ _ F.ris) (layNew_led t es _ _)
    revert F1
    generalize layNew t es ((PySem.strKind P w).hash k) (.str k tk) = Z
    rcases Z with ⟨fs, u, again, gave⟩
    rintro ⟨F1, size1⟩
    have fin : ∀ g, Heap.SameBut a s.heap g → HasX w g a (fun j => T j || decide (j = k)) fs.size → Q true { s with heap := g } := fun g same r => by
      have q := hQ g same
      simp only [out, Bool.false_eq_true, if_false, Bool.not_false] at q
      exact q (size1 ▸ r)
    dsimp only
    refine wpAny_bind (calm _ _ _ ?_)
    split
    · rw [hashByValue_scannable 8 scans]
      refine wpAny_bind (wpAny_pure (lay (T := fun j => T j || decide (j = k)) ?_ ob ex dat ?_ fun g same r => ?_))
      · exact fun b r K q => by cases b <;> first | exact wpAny_rule q | exact wpAny_pure q
      · first | exact F1 | (split <;> first | exact F1 | exact F1.plainOff)
      · dsimp only
        exact wpAny_pure (fin g same r)
    · refine wpAny_bind (wpAny_pure ?_)
      simp only [↓reduceIte]
      refine lay (T := fun j => T j || decide (j = k)) ?_ ob ex dat F1 fun g same r => ?_
      · exact fun b r K q => by cases b <;> first | exact wpAny_rule q | exact wpAny_pure q
      · dsimp only
        exact wpAny_pure (fin g same r)
end
/-- a set as it is made -/
abbrev newSet (w : World) : Obj := { cls := .type "set", dict := none, data := .set #[] 0 (.fresh 0 0 (!w.params.followText "set-order")) }
theorem fresh {h : Heap} (w : World) : HasX w (h.push (newSet w)) h.objs.size (fun _ => false) 0 := by
  refine ⟨_, #[], 0, _, Heap.get?_push_size _ rfl, ⟨rfl, rfl, rfl⟩, rfl, rfl, ⟨fun e at_e => by simp at at_e, by simp, fun k => by simp, by decide, by rfl, List.Pairwise.nil, ?_⟩⟩
  show (!w.params.followText "set-order") = true ∨ _
  cases w.params.followText "set-order" <;> simp
section
variable {prog : Program} {w : World} {A : Around} {R : Result → Shared → Prop} {I : Addr} {fp wr : List Addr} {n : Nat} {x : Str} {St : Nat → Heap → Prop}
/-- the signs of a text, one after the other, into the set: left of them are still to come -/
theorem loop (W : Walks prog w A.in1 I fp wr n (SignAt x) St) (hn : n = x.cps.size) (S : Addr) (away : S ∉ fp) (room : n + 1 < scanBound) :
    ∀ (left i : Nat) (s : Shared) (T : Str → Bool) (c : Nat), n - i = left → i ≤ n → St i s.heap → HasX w s.heap S T c → c ≤ i →
      (∀ g tk T' c', HasX w g S T' c' → c' ≤ n → (∀ k, T' k = (T k || (x.cps.toList.drop i).any fun z => decide (k = ⟨#[z]⟩))) → (∀ b q, b ∉ S :: wr → s.heap.get? b = some q → g.get? b = some q) →
        R (.ok (.ret .none)) { s with heap := g, toks := tk }) →
      codeAny (model prog w) A (.builtin "set.update.loop" ⟨[.ref S, .ref I], []⟩) R s := by
  have apart : S ∉ wr := fun z => away (W.sub _ z)
  intro left
  induction left with
  | zero =>
    intro i s T c hm hi st isSet hc done
    obtain rfl : i = n := by omega
    refine codeAny_builtin PyProof.Rows.F.entry_set_update_loop (Around.under_plainId PyProof.Rows.F.plain_set_update_loop _ ▸ wpAny_bind (m := pyNext (.ref I)) (W.done s _ _ st fun g tk keep => ?_))
    refine wpAny_pure (done g tk T c (isSet.at fun q at_S => keep S q apart at_S) hc (fun k => ?_) fun b q nb at_b => keep b q (fun z => nb (.tail _ z)) at_b)
    rw [List.drop_of_length_le (by rw [hn]; simp)]
    simp
  | succ left ih =>
    intro i s T c hm hi st isSet hc done
    have more : i < n := by omega
    refine codeAny_builtin PyProof.Rows.F.entry_set_update_loop (Around.under_plainId PyProof.Rows.F.plain_set_update_loop _ ▸ wpAny_bind (m := pyNext (.ref I)) (W.item i s _ _ more st fun v g tk isSign st' keep => ?_))
    obtain ⟨z, t, hz, rfl⟩ := isSign
    refine wpAny_bind (m := holding [Value.str ⟨#[z]⟩ t] (setAdd S (.str ⟨#[z]⟩ t))) (wpAny_holding ?_)
    unfold setAdd
    refine wpAny_holding (wpAny_bind ((PySem.strKind prog w).pyHash (k := ⟨#[z]⟩) (Froz.is_str _ _) ?_))
    refine add (s := { s with heap := g, toks := tk + 1 }) (isSet.at fun q at_S => keep S q apart at_S) (by omega) fun g2 same isSet2 => ?_
    have keep2 : ∀ b q, b ∉ S :: wr → s.heap.get? b = some q → g2.get? b = some q := fun b q nb at_b => (same.2 b fun z => nb (z ▸ List.mem_cons_self)).trans (keep b q (fun z => nb (.tail _ z)) at_b)
    refine wpAny_pure ⟨plainId_quiet PyProof.Rows.F.plain_set_update_loop _, ih (i + 1) { s with heap := g2, toks := tk + 1 } _ _ (by omega) more (W.frame _ g _ st' fun b hb q at_b => ?_) isSet2 (by split <;> omega) fun g3 tk3 T3 c3 r3 l3 m3 k3 => ?_⟩
    · exact (same.2 b fun z : b = S => away (z ▸ hb)).trans at_b
    · refine done g3 tk3 T3 c3 r3 l3 (fun k => ?_) fun b q nb at_b => k3 b q nb (keep2 b q nb at_b)
      rw [m3 k, Fz.drop_at hz, List.any_cons, Bool.or_assoc]
end
section
variable {P : Program} {w : World} {A : Around} {E : Value → Shared → Prop} {s : Shared}
set_option maxHeartbeats 6400000 in
/-- set(text) -/
theorem call_set {x : Str} {t : Tok} {Q : Value → Shared → Prop} (calm : A.handled = none) (room : x.cps.size + 1 < scanBound)
    (h : ∀ (g : Heap) (tk : Nat) T c, HasX w g s.heap.objs.size T c → c ≤ x.cps.size → (∀ k, T k = x.cps.toList.any fun z => decide (k = ⟨#[z]⟩)) → (∀ b q, s.heap.get? b = some q → g.get? b = some q) → Q (.ref s.heap.objs.size) { s with heap := g, toks := tk }) :
    wpAny (model P w) A (call (.type "set") [.str x t]) Q E s := by
  have made := F.called_set.made; have isSub := F.called_set.sub; have noType := F.called_set.notType; have creates := F.called_set.canCreate
  obtain ⟨_, _, _⟩ := F.called_set.mro
  have typeCall := F.typeCall_set_1 (.str x t)
  refine wpAny_call (codeAny_of_tree ?_)
  change wpAny _ _ (callAny (.type "set") _) _ _ s
  refine wpAny_pure (And.intro (Code.quiet_builtin _ (by decide +kernel)) (codeAny_builtin F.entry_type_call ?_))
  rw [Around.under_plain (weight_type_call_type "set" [.str x t] []) rfl]
  repeat any_goals first | assumption | wp_step
  refine codeAny_mono (code_set_led1 (.str x t) (E := E) (Q₁ := fun v r => v = .ref s.heap.objs.size ∧ r = { s with heap := s.heap.push (newSet w) }) ⟨rfl, rfl⟩) fun
    | .error _, _, hr => hr
    | .ok (.ret _), _, ⟨rfl, rfl⟩ => ?_
    | .ok .next, _, hr => hr.elim
    | .ok .brk, _, hr => hr.elim
    | .ok .cont, _, hr => hr.elim
  have isTy : Shared.TypeIs { s with heap := s.heap.push (newSet w) } (.ref s.heap.objs.size) "set" := ⟨_, Heap.get?_push_size _ rfl, rfl⟩
  have found := F.called_set.init.lookup
  have bound := F.called_set.init.bind (.ref s.heap.objs.size)
  repeat any_goals first | assumption | wp_step
  refine codeAny_mono (codeAny_call_builtin (R := wants (fun v r => v = .none ∧ ∃ g tk T c, r = { s with heap := g, toks := tk } ∧ HasX w g s.heap.objs.size T c ∧ c ≤ x.cps.size ∧ (∀ k, T k = x.cps.toList.any fun z => decide (k = ⟨#[z]⟩)) ∧
      ∀ b q, s.heap.get? b = some q → g.get? b = some q) E) F.called_set.init.plain F.entry_set_init (check_set_init_1 isTy ?_)) fun
    | .error _, _, hr => hr
    | .ok (.ret _), _, ⟨rfl, _, _, _, _, rfl, r1, r2, r3, r4⟩ => ?_
    | .ok .next, _, hr => hr.elim
    | .ok .brk, _, hr => hr.elim
    | .ok .cont, _, hr => hr.elim
  · have f1 := F.sub_str_set; have f2 := F.sub_str_frozenset; have f3 := typeIs_str
    have f4 : (Value.type "str" == Value.type "dict") = false := by decide
    unfold Builtin.«set.__init__» noKeywords; unfold Builtin.Frozenset.updateFrom
    generalize asIter : pyIter = PI
    wp_walk
    subst asIter
    have size1 : (s.heap.push (newSet w)).objs.size = s.heap.objs.size + 1 := Heap.size_push ..
    refine wpAny_pyIter_str fun o St W st => wpAny_bind (wpAny_runValue (loop (W _ (by simp [calm])) rfl s.heap.objs.size ?_ room _ 0 _ (fun _ => false) 0 rfl (Nat.zero_le _) st ((fresh w).at fun q at_b => Heap.get?_push_of_some _ at_b) (Nat.le_refl _) fun g tk T c r lc m keep => ?_))
    · rw [List.mem_singleton, size1]
      exact Nat.ne_of_lt (Nat.lt_succ_self _)
    · show wpAny _ _ _ _ _ _
      refine wpAny_pure (wpAny_pure ⟨rfl, g, tk, T, c, rfl, r, lc, fun z => by rw [m z, List.drop_zero, Bool.false_or], fun b q at_b => keep b q ?_ (Heap.get?_push_of_some _ (Heap.get?_push_of_some _ at_b))⟩)
      have below := Heap.lt_size at_b
      simp only [List.mem_cons, List.mem_singleton, List.not_mem_nil, or_false, not_or, size1]
      exact ⟨Nat.ne_of_lt below, Nat.ne_of_lt (Nat.lt_succ_of_lt below)⟩
  · repeat any_goals first | assumption | wp_step
    exact h _ _ _ _ r1 r2 r3 r4
end
end TX
set_option Elab.async false
set_option linter.all false
set_option maxRecDepth 100000
set_option maxHeartbeats 4000000
namespace TX
open PySem PySem.Spec PyProof.Rows L2
def ins (c : Nat) : List Nat → List Nat
  | [] => [c]
  | d :: r => if c < d then c :: d :: r else if c = d then d :: r else d :: ins c r
/-- the numbers of a list, each once, ascending -/
def sigs : List Nat → List Nat
  | [] => []
  | c :: r => ins c (sigs r)
theorem mem_ins (c k : Nat) : ∀ l : List Nat, k ∈ ins c l ↔ k = c ∨ k ∈ l
  | [] => by simp [ins]
  | d :: r => by
    unfold ins
    split
    · simp
    · split
      · rename_i _ e
        subst e
        simp
      · simp only [List.mem_cons, mem_ins c k r]
        exact ⟨fun h => h.elim (fun e => .inr (.inl e)) (fun h => h.elim .inl fun h => .inr (.inr h)), fun h => h.elim (fun e => .inr (.inl e)) fun h => h.elim .inl fun h => .inr (.inr h)⟩
theorem mem_sigs (k : Nat) : ∀ l : List Nat, k ∈ sigs l ↔ k ∈ l
  | [] => Iff.rfl
  | c :: r => by rw [sigs, mem_ins, mem_sigs k r, List.mem_cons]
theorem asc_ins (c : Nat) : ∀ l : List Nat, l.Pairwise (· < ·) → (ins c l).Pairwise (· < ·)
  | [], _ => List.pairwise_singleton ..
  | d :: r, h => by
    have ⟨h1, h2⟩ := List.pairwise_cons.mp h
    unfold ins
    split
    · rename_i q
      exact List.pairwise_cons.mpr ⟨fun y hy => by
        rcases List.mem_cons.mp hy with z | z
        · omega
        · have := h1 y z
          omega, h⟩
    · split
      · exact h
      · refine List.pairwise_cons.mpr ⟨fun y hy => ?_, asc_ins c r h2⟩
        rcases (mem_ins c y r).mp hy with z | z
        · omega
        · exact h1 y z
theorem asc_sigs : ∀ l : List Nat, (sigs l).Pairwise (· < ·)
  | [] => List.Pairwise.nil
  | c :: r => asc_ins c _ (asc_sigs r)
theorem asc_eq : ∀ l m : List Nat, l.Pairwise (· < ·) → m.Pairwise (· < ·) → (∀ k, k ∈ l ↔ k ∈ m) → l = m
  | [], [], _, _, _ => rfl
  | [], d :: m, _, _, h => absurd ((h d).mpr List.mem_cons_self) (by simp)
  | c :: l, [], _, _, h => absurd ((h c).mp List.mem_cons_self) (by simp)
  | c :: l, d :: m, hl, hm, h => by
    obtain ⟨l1, l2⟩ := List.pairwise_cons.mp hl
    obtain ⟨m1, m2⟩ := List.pairwise_cons.mp hm
    have e : c = d := by
      rcases List.mem_cons.mp ((h c).mp List.mem_cons_self) with z | z
      · exact z
      · rcases List.mem_cons.mp ((h d).mpr List.mem_cons_self) with y | y
        · exact y.symm
        · have := l1 d y
          have := m1 c z
          omega
    subst e
    rw [asc_eq l m l2 m2 fun k => ?_]
    constructor
    · intro hk
      rcases List.mem_cons.mp ((h k).mp (List.mem_cons_of_mem _ hk)) with z | z
      · have := l1 k hk
        omega
      · exact z
    · intro hk
      rcases List.mem_cons.mp ((h k).mpr (List.mem_cons_of_mem _ hk)) with z | z
      · have := m1 k hk
        omega
      · exact z
/-- a text of one sign -/
abbrev sg (c : Nat) : Str := ⟨#[c]⟩
def hd1 (x : Str) : Nat := x.cps.toList.headD 0
theorem sg_inj {a b : Nat} (h : sg a = sg b) : a = b := congrArg hd1 h
theorem lt_sg (a b : Nat) : ltCps (sg a).cps.toList (sg b).cps.toList = decide (a < b) := by
  rw [ltCps_eq]
  show decide ([a] < [b]) = decide (a < b)
  by_cases h : a < b
  · rw [decide_eq_true h, decide_eq_true]
    exact List.Lex.rel h
  · rw [decide_eq_false h, decide_eq_false]
    intro q
    cases q with
    | rel r => exact h r
    | cons r => cases r
theorem rising_le : ∀ (l : List Nat) (p : Nat), risingS (sg p) (l.map sg) = true → (p :: l).Pairwise (· ≤ ·)
  | [], p, _ => List.pairwise_singleton ..
  | c :: l, p, h => by
    have h' : (!ltCps (sg c).cps.toList (sg p).cps.toList && risingS (sg c) (l.map sg)) = true := h
    rw [Bool.and_eq_true, lt_sg, Bool.not_eq_true', decide_eq_false_iff_not] at h'
    have ih := rising_le l c h'.2
    obtain ⟨i1, _⟩ := List.pairwise_cons.mp ih
    refine List.pairwise_cons.mpr ⟨fun y hy => ?_, ih⟩
    rcases List.mem_cons.mp hy with z | z
    · omega
    · have := i1 y z
      omega
theorem sorted_le (l : List Nat) (h : sortedS (l.map sg) = true) : l.Pairwise (· ≤ ·) := by
  cases l with
  | nil => exact List.Pairwise.nil
  | cons p r => exact rising_le r p h
theorem lt_of_le : ∀ l : List Nat, l.Pairwise (· ≤ ·) → l.Nodup → l.Pairwise (· < ·)
  | [], _, _ => .nil
  | x :: l, .cons up rest, .cons new once => .cons (fun y at_y => Nat.lt_of_le_of_ne (up y at_y) (new y at_y)) (lt_of_le l rest once)
theorem all_sg : ∀ l : List Str, (∀ x ∈ l, ∃ c, x = sg c) → l = (l.map hd1).map sg
  | [], _ => rfl
  | x :: l, h => by
    obtain ⟨c, rfl⟩ := h x List.mem_cons_self
    rw [List.map_cons, List.map_cons, ← all_sg l fun y hy => h y (List.mem_cons_of_mem _ hy)] <;> rfl
theorem sorted_is {ss : List Str} {l : List Nat} (hs : sortedS ss = true) (hn : ss.Nodup) (hm : ∀ k, k ∈ ss ↔ ∃ z ∈ l, k = sg z) : ss = (sigs l).map sg := by
  have e := all_sg ss fun x hx => let ⟨z, _, q⟩ := (hm x).mp hx; ⟨z, q⟩
  have hn2 : (ss.map hd1).Nodup := by
    rw [e] at hn
    exact (List.pairwise_map.mp hn).imp fun h q => h (by rw [q])
  have hs2 : sortedS ((ss.map hd1).map sg) = true := by rw [← e]; exact hs
  have q : ss.map hd1 = sigs l := by
    refine asc_eq _ _ (lt_of_le _ (sorted_le _ hs2) hn2) (asc_sigs l) fun k => ?_
    rw [mem_sigs, List.mem_map]
    constructor
    · rintro ⟨x, hx, rfl⟩
      obtain ⟨z, hz, rfl⟩ := (hm x).mp hx
      exact hz
    · intro hk
      exact ⟨sg k, (hm _).mpr ⟨k, hk, rfl⟩, rfl⟩
  rw [e, q]
theorem len_sigs (l : List Nat) : (sigs l).length ≤ l.length := by
  induction l with
  | nil => exact Nat.le_refl _
  | cons c r ih =>
    have h : ∀ m : List Nat, (ins c m).length ≤ m.length + 1 := by
      intro m
      induction m with
      | nil => exact Nat.le_refl _
      | cons d m ih2 =>
        unfold ins
        split
        · simp
        · split
          · simp
          · simp only [List.length_cons]
            omega
    show (ins c (sigs r)).length ≤ r.length + 1
    have := h (sigs r)
    omega
section
variable {P : Program} {w : World} {A : Around} {E : Value → Shared → Prop} {s : Shared} {a : Addr}
/-- sorted(the set of the signs of x): its signs, rising -/
theorem sorted_set {x : Str} {T : Str → Bool} {n : Nat} {Q : Value → Shared → Prop} (R : HasX w s.heap a T n) (hT : ∀ k, T k = x.cps.toList.any fun z => decide (k = ⟨#[z]⟩)) (calm : A.handled = none) (h64 : n < 64)
    (hQ : ∀ r p (out : Array Value) (c : Nat), (∀ b q, s.heap.get? b = some q → r.heap.get? b = some q) → r.gens = s.gens → r.os = s.os → s.heap.objs.size ≤ p →
      r.heap.get? p = some (seqObj "list" out c) → StrsAre out.toList ((sigs x.cps.toList).map sg) → Q (.ref p) r) : wpAny (model P w) A (call (.builtin "sorted") [.ref a]) Q E s := by
  obtain ⟨o, es, ep, t, ob, ex, dat, sz, F⟩ := R
  refine Calls.call_function_entry kind_sorted plain_sorted entry_sorted (args_sorted1 _) (wpAny_bind (m := checkCount "sorted" 1 1 _) (wpAny_pure (wpAny_bind ?_)))
  refine collect_set (A := A.in1) calm ⟨o, ob, ex.1, dat⟩ F.fit F.few F.ris F.led.symm fun r vs keep grows gens os perm => ?_
  have count : vs.length = n := by rw [← sz, perm.length_eq, List.length_map, Array.length_toList]
  have texts : StrsAre vs (vs.map strOf) := strsAre_map vs fun v at_v =>
    let ⟨e, at_e, q⟩ := List.mem_map.mp (perm.mem_iff.mp at_v)
    let ⟨k, tk, isStr, _⟩ := F.good e at_e
    ⟨k, tk, q ▸ isStr⟩
  have perm2 : (vs.map strOf).Perm (es.toList.map txOf) := by have := perm.map strOf; rw [List.map_map] at this; exact this
  refine wpAny_bind (wpAny_newList (wpAny_bind ?_) (by have := count; rw [sizeLine_eq]; omega))
  have listAt : (r.heap.push (seqObj "list" vs.toArray 0)).get? r.heap.objs.size = some (seqObj "list" vs.toArray 0) := Heap.get?_push_size _ rfl
  refine wpAny_holding (wpAny_call_entry slot_list_sort ⟨_, listAt, rfl⟩ entry_list_sort (list_sort_treeK (κ := PyProof.Rows.strKind) strKind_oneLt listAt texts.keysOf (fun v₁ v₂ rest e => keyKind_strs (e ▸ texts)) (by omega) fun st done isSorted => ⟨_, rfl, wpAny_pure ⟨_, rfl, ?_⟩⟩) (args_list_sort _))
  obtain ⟨ss, are, perm3, up⟩ := sorted_out_str texts done isSorted
  obtain ⟨c, outAt⟩ := sortedHeap_at (vs := vs) (out := (arrOf st).map (·.2)) listAt
  have all : ss.Perm (es.toList.map txOf) := perm3.trans perm2
  have eq : ss = (sigs x.cps.toList).map sg := sorted_is up (all.nodup_iff.mpr F.once) fun k => by
    rw [all.mem_iff, ← F.mem k, hT k, List.any_eq_true]
    exact ⟨fun ⟨z, at_z, e⟩ => ⟨z, at_z, of_decide_eq_true e⟩, fun ⟨z, at_z, e⟩ => ⟨z, at_z, decide_eq_true e⟩⟩
  refine hQ _ r.heap.objs.size _ c (fun b q at_b => ?_) gens os grows outAt (eq ▸ are)
  have below := Heap.lt_size (keep b q at_b)
  exact (sortedHeap_old (Nat.ne_of_lt below) (by rw [size_push']; exact Nat.lt_succ_of_lt below)).trans (Heap.get?_push_of_some _ (keep b q at_b))
end
/-- the set of the signs of x at a -/
def SetO (w : World) (a : Addr) (x : Str) : HO := .ext fun h => ∃ T n, HasX w h a T n ∧ n ≤ x.cps.size ∧ ∀ k, T k = x.cps.toList.any fun z => decide (k = ⟨#[z]⟩)
theorem setO_new {P : Program} {w : World} {H : Hp} {h : Heap} {a : Addr} {x : Str} {T : Str → Bool} {n : Nat} (R : HasX w h a T n) (hn : n ≤ x.cps.size) (hT : ∀ k, T k = x.cps.toList.any fun z => decide (k = ⟨#[z]⟩)) : ObjOk P w H h a (SetO w a x) := by
  refine ⟨⟨T, n, R, hn, hT⟩, ?_, fun h1 h2 p k => ?_⟩
  · exact let ⟨o, _, _, _, r⟩ := R; ⟨o, r.ob⟩
  · obtain ⟨T', n', R', q⟩ := p
    exact ⟨T', n', R'.at k, q⟩
theorem vals_strs : ∀ {vs : List Value} {ss : List Str}, StrsAre vs ss → Vals (ss.map V.str) vs
  | _, _, .nil => .nil
  | _, _, .cons x t r => .cons ⟨t, rfl⟩ (vals_strs r)
section
variable {X : Cx}
def rSetX (w : World) : List V → Hp → VK → Prop := fun xs H Q => ∃ x : Str, xs = [V.str x] ∧ x.cps.size < 64 ∧ ∀ a o, H a = none → o = SetO w a x → Q (.ref a) (upd H a o)
theorem call_setX (hc : X.calm = true) : CallR X (.type "set") (rSetX X.w) := by
  rintro pins s σ H _ us Q I r ⟨x, rfl, hx, q⟩
  rcases vals1 r with ⟨_, rfl, t, rfl⟩
  refine call_set (P := X.prog) (w := X.w) (I.ok.hd hc) (by unfold scanBound; omega) fun h' tk T c r1 r2 r3 k => ?_
  exact ⟨.ref s.heap.objs.size, upd H s.heap.objs.size (SetO X.w s.heap.objs.size x), I.laid (t' := tk) k (Nat.le_refl _) (setO_new r1 r2 r3), rfl, q _ _ (I.hok.fresh (Nat.le_refl _)) rfl⟩
def rSortX (w : World) : List V → Hp → VK → Prop := fun xs H Q => ∃ (a : Addr) (x : Str) (o : HO), xs = [V.ref a] ∧ H a = some o ∧ o = SetO w a x ∧ x.cps.size < 64 ∧ ∀ p, H p = none → Q (.ref p) (upd H p (.lst ((sigs x.cps.toList).map fun c => V.str (sg c))))
theorem cr_sortX (hc : X.calm = true) : CallR X (.builtin "sorted") (rSortX X.w) := by
  rintro pins s σ H _ us Q I r ⟨a, x, _, rfl, ha, rfl, hx, q⟩
  obtain ⟨T, n, R, hn, hT⟩ := (I.hok a _ ha).1
  rw [Vals.ref1 r]
  refine sorted_set (x := x) R hT (I.ok.hd hc) (by omega) fun s' p out c k g o hp hg hS => ?_
  have hlen : ((sigs x.cps.toList).map fun c => V.str (sg c)).length ≤ sizeLine := by
    have h1 : (sigs x.cps.toList).length ≤ x.cps.toList.length := len_sigs _
    have h2 : x.cps.toList.length = x.cps.size := Array.length_toList
    have h3 := sizeLine_eq
    rw [List.length_map]
    omega
  have free : H p = none := I.hok.fresh hp
  have hv : Vals ((sigs x.cps.toList).map fun c => V.str (sg c)) out.toList := by
    have := vals_strs hS
    rw [List.map_map] at this
    exact this
  have J : Inv X pins σ (upd H p (.lst ((sigs x.cps.toList).map fun c => V.str (sg c)))) { s with heap := s'.heap, gens := s'.gens, drawn := s'.drawn, toks := s'.toks } :=
    I.call (ch := []) (Un.laid k hp free) (I.hok.laid k hp ⟨hlen, _, c, hv, hg⟩) (g ▸ I.bare) nofun
  have same : { s with heap := s'.heap, gens := s'.gens, drawn := s'.drawn, toks := s'.toks } = s' := by
    rcases s with ⟨⟩; rcases s' with ⟨⟩; cases o; rfl
  exact same ▸ ⟨.ref p, _, J, rfl, q p free⟩
/-- list(text) -/
theorem vals_signs {x : Str} : ∀ (l : List Value) (cs : List Nat), l.length = cs.length → (∀ (i : Nat) (v : Value), l[i]? = some v → ∃ (c : Nat) (u : Tok), cs[i]? = some c ∧ v = Value.str ⟨#[c]⟩ u) → Vals (cs.map fun c => V.str (sg c)) l
  | [], [], _, _ => .nil
  | v :: l, c :: cs, h, q => by
    obtain ⟨c', u, e1, e2⟩ := q 0 v rfl
    have e3 : c = c' := Option.some.inj e1
    subst e3
    exact .cons ⟨u, e2⟩ (vals_signs (x := x) l cs (Nat.succ.inj h) fun i v' e => q (i + 1) v' e)
  | [], _ :: _, h, _ => nomatch h
  | _ :: _, [], h, _ => nomatch h
theorem call_listX (hc : X.calm = true) : CallR X (.type "list") (fun xs H Q => ∃ x : Str, xs = [V.str x] ∧ x.cps.size ≤ sizeLine ∧ ∀ l, H l = none → Q (.ref l) (upd H l (.lst (x.cps.toList.map fun c => V.str (sg c))))) := by
  rintro pins s σ H _ us Q I r ⟨x, rfl, hx, q⟩
  rcases vals1 r with ⟨_, rfl, t, rfl⟩
  refine call_list_str (I.ok.hd hc) x t (fun h' tk acc c k hS hacc => ?_) hx
  have hlen : (x.cps.toList.map fun c => V.str (sg c)).length ≤ sizeLine := by
    have h2 : x.cps.toList.length = x.cps.size := Array.length_toList
    rw [List.length_map, h2]
    exact hx
  have hv : Vals (x.cps.toList.map fun c => V.str (sg c)) acc.toList := by
    refine vals_signs (x := x) _ _ (by rw [Array.length_toList, hacc.1, Array.length_toList]) fun i v e => ?_
    rw [Array.getElem?_toList] at e
    obtain ⟨c, u, h1, h2⟩ := hacc.2 i v e
    exact ⟨c, u, by rw [Array.getElem?_toList]; exact h1, h2⟩
  exact ⟨.ref s.heap.objs.size, _, I.laid (t' := tk) k (Nat.le_refl _) (show ObjOk X.prog X.w _ h' _ (.lst _) from ⟨hlen, acc.toList, c, hv, hS⟩), rfl, q _ (I.hok.fresh (Nat.le_refl _))⟩
end
end TX
set_option Elab.async false
set_option linter.all false
set_option maxRecDepth 100000
set_option maxHeartbeats 4000000
namespace K1
abbrev W := List Nat
/-- the words of just k letters, and of at most k -/
def lay (L : W) : Nat → List W
  | 0 => [[]]
  | k + 1 => (lay L k).flatMap fun u => L.map fun c => u ++ [c]
def allW (L : W) : Nat → List W
  | 0 => [[]]
  | k + 1 => allW L k ++ lay L (k + 1)
/-- what is left behind the first c -/
def after (c : Nat) : W → Option W
  | [] => none
  | d :: r => if d = c then some r else after c r
/-- what is left behind the first place of a piece -/
def rest : W → W → Option W
  | [], w => some w
  | a :: u, w => (after a w).bind (rest u)
def isP (u w : W) : Bool := (rest u w).isSome
/-- what is left of a word, by the law's walk -/
def lp : W → W → W
  | u, [] => u
  | [], _ :: _ => []
  | a :: u, c :: w => if a = c then lp u w else lp (a :: u) w
/-- the pieces of just k letters, each with what is left behind it -/
def pl (S w : W) : Nat → List (W × W)
  | 0 => [([], w)]
  | k + 1 => (pl S w k).flatMap fun p => S.filterMap fun c => (after c p.2).map fun r => (p.1 ++ [c], r)
theorem mem_lay (L : W) : ∀ (k : Nat) (u : W), u ∈ lay L k ↔ u.length = k ∧ ∀ c ∈ u, c ∈ L
  | 0, u => by
    show u ∈ [[]] ↔ _
    rw [List.mem_singleton]
    exact ⟨fun h => by subst h; exact ⟨rfl, fun c hc => nomatch hc⟩, fun h => List.length_eq_zero_iff.mp h.1⟩
  | k + 1, u => by
    show u ∈ (lay L k).flatMap _ ↔ _
    rw [List.mem_flatMap]
    constructor
    · rintro ⟨v, hv, hu⟩
      obtain ⟨c, hc, rfl⟩ := List.mem_map.mp hu
      obtain ⟨h1, h2⟩ := (mem_lay L k v).mp hv
      refine ⟨by rw [List.length_append, h1] <;> rfl, fun d hd => ?_⟩
      rcases List.mem_append.mp hd with z | z
      · exact h2 d z
      · rw [List.mem_singleton.mp z]
        exact hc
    · rintro ⟨h1, h2⟩
      have hne : u ≠ [] := fun e => by subst e; cases h1
      refine ⟨u.dropLast, (mem_lay L k _).mpr ⟨by rw [List.length_dropLast]; omega, fun c hc => h2 c (List.dropLast_subset u hc)⟩, List.mem_map.mpr ⟨u.getLast hne, h2 _ (List.getLast_mem hne), List.dropLast_concat_getLast hne⟩⟩
theorem mem_allW (L : W) : ∀ (k : Nat) (u : W), u ∈ allW L k ↔ u.length ≤ k ∧ ∀ c ∈ u, c ∈ L
  | 0, u => by
    show u ∈ [[]] ↔ _
    rw [List.mem_singleton]
    exact ⟨fun h => by subst h; exact ⟨Nat.le_refl _, fun c hc => nomatch hc⟩, fun h => List.length_eq_zero_iff.mp (by omega)⟩
  | k + 1, u => by
    show u ∈ allW L k ++ lay L (k + 1) ↔ _
    rw [List.mem_append, mem_allW L k u, mem_lay]
    constructor
    · rintro (⟨h1, h2⟩ | ⟨h1, h2⟩)
      · exact ⟨by omega, h2⟩
      · exact ⟨by omega, h2⟩
    · rintro ⟨h1, h2⟩
      by_cases h : u.length ≤ k
      · exact .inl ⟨h, h2⟩
      · exact .inr ⟨by omega, h2⟩
/-- the pieces of a word, as it is told -/
def told (w : W) (m : Nat) : List W := (allW (TX.sigs w) m).filter fun u => isP u w
/-- the place behind the first c from e on -/
def nx (w : W) (c e : Nat) : Option Nat := (after c (w.drop e)).map fun r => w.length - r.length
end K1
set_option Elab.async false
set_option linter.all false
set_option maxRecDepth 100000
set_option maxHeartbeats 4000000
namespace K1
open PySem PySem.Spec PyProof.Rows L2
open TX (sg sigs)
/-- the text of a word -/
def tx (w : W) : Str := ⟨w.toArray⟩
theorem tx_of (x : Str) : tx x.cps.toList = x := by
  unfold tx
  rw [Array.toArray_toList]
theorem tx_list (w : W) : (tx w).cps.toList = w := by
  show w.toArray.toList = w
  rw [List.toList_toArray]
theorem tx_inj {u v : W} (h : tx u = tx v) : u = v := by
  have := congrArg (fun x : Str => x.cps.toList) h
  simpa [tx_list] using this
theorem tx_len (w : W) : (tx w).length = w.length := by
  show w.toArray.size = w.length
  rw [List.size_toArray]
theorem tx_app (u v : W) : tx u ++ tx v = tx (u ++ v) := by
  show (⟨u.toArray ++ v.toArray⟩ : Str) = ⟨(u ++ v).toArray⟩
  rw [List.append_toArray]
theorem join_eq0 (ps : List W) : Txt.join (tx []) (ps.map tx) = tx ps.flatten := by
  rw [TL.join_eq]
  have h := TL.tl_join (tx []) (ps.map tx)
  have e : ∀ qs : List (List Nat), TL.joinL [] qs = qs.flatten := by
    intro qs
    induction qs with
    | nil => rfl
    | cons p r ih =>
      cases r with
      | nil => simp [TL.joinL]
      | cons q r => simp [TL.joinL] at ih ⊢; exact ih
  have e1 : TL.tl (tx []) = [] := rfl
  rw [e1, e, List.map_map] at h
  have e2 : (TL.tl ∘ tx) = (id : W → W) := by
    funext u
    exact tx_list u
  rw [e2, List.map_id] at h
  have h2 : (Str.join (tx []) (ps.map tx)).cps.toList = ps.flatten := h
  rw [← tx_of (Str.join (tx []) (ps.map tx)), h2]
/-- the letters a to z -/
def Low (w : W) : Prop := ∀ c ∈ w, 97 ≤ c ∧ c ≤ 122
theorem uni : ∀ k : Fin 26, Unicode.isAlpha (97 + k.val) = true ∧ Unicode.isLower (97 + k.val) = true ∧ Unicode.isUpper (97 + k.val) = false ∧ Unicode.isTitle (97 + k.val) = false := by decide +kernel
theorem uni_low {c : Nat} (h : 97 ≤ c ∧ c ≤ 122) : Unicode.isAlpha c = true ∧ Unicode.isLower c = true ∧ Unicode.isUpper c = false ∧ Unicode.isTitle c = false := by
  have := uni ⟨c - 97, by omega⟩
  have e : 97 + (c - 97) = c := by omega
  simp only [e] at this
  exact this
theorem low_facts {w : W} (h : Low w) (hne : w ≠ []) : Txt.isascii (tx w) = true ∧ Txt.isalpha (tx w) = true ∧ Txt.islower (tx w) = true := by
  refine ⟨?_, ?_, ?_⟩
  · show (w.toArray).all _ = true
    rw [List.all_toArray, List.all_eq_true]
    intro c hc
    have := h c hc
    simp only [decide_eq_true_eq]
    omega
  · show ((decide ((tx w).length > 0)) && (w.toArray).all _) = true
    rw [List.all_toArray, tx_len, Bool.and_eq_true]
    refine ⟨decide_eq_true (List.length_pos_iff.mpr hne), ?_⟩
    rw [List.all_eq_true]
    exact fun c hc => (uni_low (h c hc)).1
  · show ((w.toArray).any _ && !(w.toArray).any _) = true
    rw [List.any_toArray, List.any_toArray, Bool.and_eq_true]
    constructor
    · rw [List.any_eq_true]
      obtain ⟨c, r, rfl⟩ : ∃ c r, w = c :: r := by
        cases w with
        | nil => exact absurd rfl hne
        | cons c r => exact ⟨c, r, rfl⟩
      exact ⟨c, List.mem_cons_self, (uni_low (h c List.mem_cons_self)).2.1⟩
    · rw [Bool.not_eq_true', List.any_eq_false]
      intro c hc
      have := uni_low (h c hc)
      rw [this.2.2.1, this.2.2.2]
      exact Bool.false_ne_true
end K1
set_option Elab.async false
set_option linter.all false
set_option maxRecDepth 100000
set_option maxHeartbeats 8000000
namespace WK
open PySem L2 PyProof.Rows K1
open TX (sg sigs)
open PySem.W (Frag kitOne)
/-- a def of the module by its name -/
structure Fn (K : Frag) (mg : Str → Option Value) (nm : Str) (st : Stmt) (ps : List Str) (f : Addr) (fd : FuncData) : Prop where
  g : mg nm = some (.ref f)
  F : Fun K nm nm st f fd
  b : L2.Binds K fd ps []
structure TN (mg : Str → Option Value) : Prop where
  len : mg "len" = none
  int : mg "int" = none
  abs : mg "abs" = none
  isi : mg "isinstance" = none
  bool : mg "bool" = none
  str : mg "str" = none
  all : mg "all" = none
  rng : mg "range" = none
  sorted : mg "sorted" = none
  set : mg "set" = none
  tuple : mg "tuple" = none
  list : mg "list" = none
  max : mg "max" = none
  min : mg "min" = none
  zip : mg "zip" = none
  most : ∃ t, mg "MAX_LETTERS" = some (.int 3 t)
theorem TN.dice {mg : Str → Option Value} (T : TN mg) : TDice mg := ⟨T.len, T.int, T.abs⟩
abbrev sIsInt : Stmt := top 22
abbrev sIsNum : Stmt := top 23
abbrev sNeedNum : Stmt := top 24
abbrev sAsc : Stmt := top 25
abbrev sIsLet : Stmt := top 31
abbrev sIsWord : Stmt := top 32
abbrev sIsOver : Stmt := top 33
abbrev sNeedLet : Stmt := top 34
abbrev sNeedWord : Stmt := top 35
abbrev sNeedOver : Stmt := top 36
theorem same_upd {H : Hp} {p : Addr} {o : HO} (h : H p = none) : Same H (upd H p o) := fun b u e => by rw [upd_ne (ne_of_none e h)]; exact e
theorem same_at {H H1 : Hp} {p : Addr} {o : HO} (s : Same H H1) (h : H p = none) : Same H (upd H1 p o) := fun b u e => by rw [upd_ne (ne_of_none e h)]; exact s b u e
theorem same_two {H H1 : Hp} {p : Addr} {o : HO} (s : Same H H1) (h : H1 p = none) : Same H (upd H1 p o) := s.trans (same_upd h)
theorem pe_ty {X : Cx} {x : Str} {pos : Pos} (n : String) (hm : X.mg x = none) (hv : bootBuiltins x = some (.type n)) (hg : Gl X x := by rfl) (hn : x ≠ "__name__" := by decide) (hd : (x == ("__debug__" : Str)) = false := by decide) : PE X (.Name x pos) (tC (.ty n)) := pe_bltn hg hm hv rfl hn hd
/-- a set of letters: one to three, ascending, of a to z -/
structure Let (L : W) : Prop where
  low : Low L
  asc : L.Pairwise (· < ·)
  ne : L ≠ []
  few : L.length ≤ 3
/-- what is told of a text: whether it is a word -/
def wordB (x : Str) : Bool := if x = "" then true else if Txt.isascii x = true then if Txt.isalpha x = true then Txt.islower x else false else false
theorem wordB_low {w : W} (h : Low w) : wordB (tx w) = true := by
  unfold wordB
  by_cases e : tx w = ""
  · rw [if_pos e]
  · rw [if_neg e]
    have hne : w ≠ [] := fun z => e (by rw [z] <;> rfl)
    obtain ⟨h1, h2, h3⟩ := low_facts h hne
    rw [if_pos h1, if_pos h2, h3]
def ascB (w : W) : Bool := decide (w.Pairwise (· < ·))
def letB (x : Str) : Bool := wordB x && (decide (1 ≤ x.length) && decide (x.length ≤ 3)) && ascB x.cps.toList
theorem letB_let {L : W} (h : Let L) : letB (tx L) = true := by
  unfold letB
  rw [wordB_low h.low, tx_len, tx_list]
  have h1 : ascB L = true := decide_eq_true h.asc
  have h2 := List.length_pos_iff.mpr h.ne
  rw [h1, decide_eq_true (show 1 ≤ L.length from h2), decide_eq_true h.few] <;> rfl
def spIsNum : Sp := fun vs H Q _ => ∃ i a b : Int, vs = [.int i, .int a, .int b] ∧ Q (.bl (decide (a ≤ i) && decide (i ≤ b))) H
def spNeedNum : Sp := fun vs H Q _ => ∃ i a b : Int, vs = [.int i, .int a, .int b] ∧ a ≤ i ∧ i ≤ b ∧ Q .non H
def spAsc : Sp := fun vs H Q _ => ∃ w : W, vs = [.str (tx w)] ∧ w ≠ [] ∧ w.length ≤ 1000 ∧ ∀ H', Same H H' → Q (.bl (ascB w)) H'
/-- no text -/
def NoText (K : Frag) (H : Hp) (v : V) : Prop := ∃ t, TyX K H v (.type t) ∧ PySem.W.kitOne K (.type t) (.type "str") = some false
def spIsWord (K : Frag) : Sp := fun vs H Q _ => ∃ v, vs = [v] ∧ ((∃ x, v = .str x ∧ Q (.bl (wordB x)) H) ∨ (NoText K H v ∧ Q (.bl false) H))
def spIsLet (K : Frag) : Sp := fun vs H Q _ => ∃ v, vs = [v] ∧ ((∃ x : Str, v = .str x ∧ x.length ≤ 1000 ∧ ∀ H', Same H H' → Q (.bl (letB x)) H') ∨ (NoText K H v ∧ Q (.bl false) H))
section
variable {P : Program} {w : World} {K : PySem.W.Frag} {mg : Str → Option Value} {base : Heap}
theorem scII : FnScope ["value"] ["value"] (defScope sIsInt) := ⟨rfl, rfl, rfl, by decide +kernel, rfl, by decide +kernel, by decide +kernel⟩
def spIsInt : Sp := fun vs H Q _ => ∃ i : Int, vs = [.int i] ∧ Q (.bl true) H
theorem ok_isint {f : Addr} {fd : FuncData} (F : Fun K "is_integer" "is_integer" sIsInt f fd) (T : TN mg) : FnOk P w K mg base CX0 1 f fd ["value"] spIsInt := by
  refine F.ok scII (fun vs H Q E h => ?_) (fun cdv A outer s H vs Q E hr h => ?_)
  · obtain ⟨i, rfl, _⟩ := h
    rfl
  · obtain ⟨i, rfl, q⟩ := h
    refine ⟨_, pss_one (ps_ret (pe_and (pe_callB call_isi (by rfl) T.isi (by decide +kernel) (pa_cons (pv 0) (pa_cons (pe_ty "int" T.int (by decide +kernel)) pa_nil)))
      (pe_one (pe_not (pe_callB call_isi (by rfl) T.isi (by decide +kernel) (pa_cons (pv 0) (pa_cons (pe_ty "bool" T.bool (by decide +kernel)) pa_nil))))))), ?_⟩
    refine ⟨_, rfl, _, _, _, _, true, rfl, .ty "int", .base (.int _), kit_ty (by decide +kernel), true, rfl, ?_⟩
    exact ⟨_, rfl, _, _, _, _, false, rfl, .ty "bool", .base (.int _), kit_ty (by decide +kernel), false, rfl, q⟩
theorem scIN : FnScope ["value", "least", "most"] ["value", "least", "most"] (defScope sIsNum) := ⟨rfl, rfl, rfl, by decide +kernel, rfl, by decide +kernel, by decide +kernel⟩
theorem ok_isnum {f g : Addr} {fd gd : FuncData} (F : Fun K "is_number" "is_number" sIsNum f fd) (T : TN mg) (A0 : Fn K mg "is_integer" sIsInt ["value"] g gd) : FnOk P w K mg base CX0 2 f fd ["value", "least", "most"] spIsNum := by
  have G0 : FnOk P w K mg base CX0 1 g gd ["value"] spIsInt := ok_isint A0.F T
  refine F.ok scIN (fun vs H Q E h => ?_) (fun cdv A outer s H vs Q E hr h => ?_)
  · obtain ⟨i, a, b, rfl, _⟩ := h
    rfl
  · obtain ⟨i, a, b, rfl, q⟩ := h
    refine ⟨_, pss_one (ps_ret (pe_and (pe_call G0 hr rfl A0.g A0.F.kp A0.b .nil pass0 (pa_cons (pv 0) pa_nil)) (pe_one (pe_chain op_le op_le (pv 1) (pv 0) (pv 2))))), ?_⟩
    refine ⟨_, rfl, i, rfl, true, rfl, ?_⟩
    refine ⟨_, rfl, _, rfl, _, _, rfl, rfl, _, rfl, ?_⟩
    by_cases h1 : a ≤ i
    · rw [decide_eq_true h1] at q ⊢
      exact ⟨_, rfl, _, _, rfl, rfl, q⟩
    · rw [decide_eq_false h1] at q ⊢
      exact q
theorem scNN : FnScope ["value", "least", "most"] ["value", "least", "most"] (defScope sNeedNum) := ⟨rfl, rfl, rfl, by decide +kernel, rfl, by decide +kernel, by decide +kernel⟩
theorem ok_neednum {f g e : Addr} {fd gd ed : FuncData} (F : Fun K "need_number" "need_number" sNeedNum f fd) (T : TN mg) (A0 : Fn K mg "is_integer" sIsInt ["value"] e ed) (A1 : Fn K mg "is_number" sIsNum ["value", "least", "most"] g gd) : FnOk P w K mg base CX0 3 f fd ["value", "least", "most"] spNeedNum := by
  have G1 : FnOk P w K mg base CX0 2 g gd _ spIsNum := ok_isnum A1.F T A0
  refine F.ok scNN (fun vs H Q E h => ?_) (fun cdv A outer s H vs Q E hr h => ?_)
  · obtain ⟨i, a, b, rfl, _⟩ := h
    rfl
  · obtain ⟨i, a, b, rfl, h1, h2, q⟩ := h
    refine ⟨_, pss_one (ps_if (pt_not (pt_val (pe_call G1 hr rfl A1.g A1.F.kp A1.b .nil pass0 (pa_cons (pv 0) (pa_cons (pv 1) (pa_cons (pv 2) pa_nil)))))) (pss_one ps_never) pss_nil), ?_⟩
    refine ⟨_, rfl, _, rfl, _, rfl, _, _, _, rfl, _, rfl, ?_⟩
    rw [decide_eq_true h1, decide_eq_true h2]
    exact q
theorem scAs : FnScope ["values", "at"] ["values"] (defScope sAsc) := ⟨rfl, rfl, rfl, by decide +kernel, rfl, by decide +kernel, by decide +kernel⟩
theorem lt_one (a b : Nat) : decide ((sg a).cps.toList < (sg b).cps.toList) = decide (a < b) := by
  rw [← ltCps_eq, TX.lt_sg]
/-- each less than the next -/
def adj (w : W) (i : Nat) : Bool := decide (w.getD i 0 < w.getD (i + 1) 0)
theorem adj_asc : ∀ (w : W), w ≠ [] → ((List.range (w.length - 1)).map (adj w)).all id = ascB w
  | [], h => absurd rfl h
  | [a], _ => by simp [ascB]
  | a :: b :: r, _ => by
    have ih := adj_asc (b :: r) (by simp)
    have e : (a :: b :: r).length - 1 = (b :: r).length - 1 + 1 := by simp
    rw [e, List.range_succ_eq_map, List.map_cons, List.all_cons, List.map_map]
    have e2 : (adj (a :: b :: r) ∘ Nat.succ) = adj (b :: r) := by
      funext i
      rfl
    rw [e2, ih]
    show (decide (a < b) && ascB (b :: r)) = ascB (a :: b :: r)
    unfold ascB
    rw [← Bool.decide_and]
    apply decide_eq_decide.mpr
    rw [List.pairwise_cons (a := a)]
    constructor
    · rintro ⟨h1, h2⟩
      refine ⟨fun y hy => ?_, h2⟩
      rcases List.mem_cons.mp hy with z | z
      · omega
      · have := (List.pairwise_cons.mp h2).1 y z
        omega
    · rintro ⟨h1, h2⟩
      exact ⟨h1 b List.mem_cons_self, h2⟩
theorem ok_asc {f : Addr} {fd : FuncData} (F : Fun K "ascends" "ascends" sAsc f fd) (T : TN mg) : FnOk P w K mg base CX0 1 f fd ["values"] spAsc := by
  refine F.ok scAs (fun vs H Q E h => ?_) (fun cdv A outer s H vs Q E hr h => ?_)
  · obtain ⟨w, rfl, _⟩ := h
    rfl
  · obtain ⟨w, rfl, hne, hl, q⟩ := h
    have hpos := List.length_pos_iff.mpr hne
    refine ⟨_, pss_one (ps_ret (pe_callB (cr_all rfl) (by rfl) T.all (by decide +kernel) (pa_cons (pe_lc (own := [("at", 1)]) (g := gName 1) (tt := tYes) rfl scAs.nd
      (pi_range1 rfl T.rng (pa_cons (pe_op op_sub (pe_callB call_len_str (by rfl) T.len PySem.boot_len (pa_cons (pv 0) pa_nil)) pe_int) pa_nil))
      (blkOk_by (own := [("at", 1)]) (N := ["values", "at"]) (sc := defScope sAsc) (by decide +kernel)) (fun _ _ _ _ _ => pg_name (i := 1) scAs.nd rfl (Or.inl rfl)) (fun _ _ _ _ _ => pts_nil)
      (fun _ _ _ _ _ => pe_cmpR op_lt_str (pe_ix ix_str (pv 0) (pv 1) (fun _ _ => rfl)) (pe_ix ix_str (pv 0) (pe_op op_add (pv 1) pe_int) (fun _ _ => rfl)) (nomark _))) pa_nil))), ?_⟩
    refine ⟨_, rfl, _, rfl, ?_, _, _, rfl, rfl, _, rfl, ?_, ?_, fun D hD => ?_⟩
    · rw [tx_len, sizeLine_eq]; omega
    · rw [tx_len]; omega
    · rw [tx_len]; omega
    · rw [tx_len]
      have e1 : ((w.length : Int) - 1) = ((w.length - 1 : Nat) : Int) := by omega
      rw [e1]
      refine lc_range (lo := 0) (n := w.length - 1) (fun i H1 => Same H H1 ∧ H1 D = some (.lst (((List.range i).map (adj w)).map V.bl))) ?_ ?_ ?_
      · exact ⟨same_upd hD, upd_same⟩
      · rintro i H1 hi ⟨s1, hd⟩
        have hz : (tx w).length ≤ sizeLine := by rw [tx_len, sizeLine_eq]; omega
        have at1 : atI (tx w).cps.toList (0 + (i : Int)) = some (w.getD i 0) := by
          rw [tx_list, Int.zero_add]
          exact atI_nat (by rw [List.getD_eq_getElem?_getD, List.getElem?_eq_getElem (by omega)] <;> rfl)
        have at2 : atI (tx w).cps.toList (0 + (i : Int) + 1) = some (w.getD (i + 1) 0) := by
          have e2 : (0 + (i : Int) + 1) = ((i + 1 : Nat) : Int) := by omega
          rw [tx_list, e2]
          exact atI_nat (by rw [List.getD_eq_getElem?_getD, List.getElem?_eq_getElem (by omega)] <;> rfl)
        refine ⟨rfl, _, rfl, _, rfl, _, _, w.getD i 0, rfl, rfl, hz, at1, _, rfl, _, rfl, _, _, rfl, rfl, _, _, w.getD (i + 1) 0, rfl, rfl, hz, at2, _, _, rfl, rfl, _, hd, ?_, same_at s1 hD, ?_⟩
        · rw [List.length_map, List.length_map, List.length_range, sizeLine_eq]
          omega
        · have e3 := lt_one (w.getD i 0) (w.getD (i + 1) 0)
          rw [e3, upd_same, List.range_succ, List.map_append, List.map_append] <;> rfl
      · rintro H1 ⟨s1, hd⟩
        refine ⟨D, _, rfl, SqL.of hd, ?_⟩
        rw [adj_asc w hne]
        exact q _ s1
theorem scIW : FnScope ["value"] ["value"] (defScope sIsWord) := ⟨rfl, rfl, rfl, by decide +kernel, rfl, by decide +kernel, by decide +kernel⟩
theorem ok_isword {f : Addr} {fd : FuncData} (F : Fun K "is_word" "is_word" sIsWord f fd) (T : TN mg) : FnOk P w K mg base CX0 1 f fd ["value"] (spIsWord K) := by
  refine F.ok scIW (fun vs H Q E h => ?_) (fun cdv A outer s H vs Q E hr h => ?_)
  · obtain ⟨v, rfl, _⟩ := h
    rfl
  · obtain ⟨v, rfl, h⟩ := h
    refine ⟨_, pss_cons (ps_if (pt_not (pt_val (pe_callB call_isi (by rfl) T.isi (by decide +kernel) (pa_cons (pv 0) (pa_cons (pe_ty "str" T.str (by decide +kernel)) pa_nil))))) (pss_one (ps_ret pe_bl)) pss_nil)
      (pss_one (ps_ret (pe_or (pe_cmpR op_eq (pv 0) pe_str (nomark _))
        (pe_one (pe_and (pe_m0 PySem.F.slot_str_isascii PySem.F.type_str_isascii mt_isascii (pv 0))
          (pe_and (pe_m0 PySem.F.slot_str_isalpha PySem.F.type_str_isalpha mt_isalpha (pv 0)) (pe_one (pe_m0 PySem.F.slot_str_islower PySem.F.type_str_islower mt_islower (pv 0))))))))), ?_⟩
    rcases h with ⟨x, rfl, q⟩ | ⟨⟨t, ty, hk⟩, q⟩
    · refine ⟨_, rfl, _, _, _, _, true, rfl, .ty "str", .base (.str _), kit_ty (by decide +kernel), true, rfl, ?_⟩
      refine ⟨_, rfl, rfl, _, rfl, ?_⟩
      unfold wordB at q
      by_cases h1 : x = ""
      · rw [if_pos h1] at q
        rw [if_pos (decide_eq_true (by rw [h1]))]
        exact q
      · rw [if_neg h1] at q
        rw [if_neg (fun z => h1 (V.str.inj (of_decide_eq_true z)))]
        refine ⟨_, rfl, ⟨_, rfl⟩, _, rfl, rfl, trivial, _, rfl, ?_⟩
        by_cases h2 : Txt.isascii x = true
        · rw [if_pos h2] at q ⊢
          refine ⟨_, rfl, ⟨_, rfl⟩, _, rfl, rfl, trivial, _, rfl, ?_⟩
          by_cases h3 : Txt.isalpha x = true
          · rw [if_pos h3] at q ⊢
            exact ⟨_, rfl, ⟨_, rfl⟩, _, rfl, rfl, trivial, q⟩
          · rw [if_neg h3] at q ⊢
            exact q
        · rw [if_neg h2] at q ⊢
          exact q
    · refine ⟨_, rfl, _, _, _, _, false, rfl, .ty "str", ty, hk, false, rfl, ?_⟩
      exact q
theorem scIL : FnScope ["value"] ["value"] (defScope sIsLet) := ⟨rfl, rfl, rfl, by decide +kernel, rfl, by decide +kernel, by decide +kernel⟩
theorem ok_islet {f g h : Addr} {fd gd hd : FuncData} (F : Fun K "is_letters" "is_letters" sIsLet f fd) (T : TN mg) (A1 : Fn K mg "is_word" sIsWord ["value"] g gd) (A2 : Fn K mg "ascends" sAsc ["values"] h hd) : FnOk P w K mg base CX0 2 f fd ["value"] (spIsLet K) := by
  have G1 : FnOk P w K mg base CX0 1 g gd _ (spIsWord K) := ok_isword A1.F T
  have G2 : FnOk P w K mg base CX0 1 h hd _ spAsc := ok_asc A2.F T
  obtain ⟨tM, hM⟩ := T.most
  refine F.ok scIL (fun vs H Q E h => ?_) (fun cdv A outer s H vs Q E hr h => ?_)
  · obtain ⟨v, rfl, _⟩ := h
    rfl
  · obtain ⟨v, rfl, h⟩ := h
    refine ⟨_, pss_one (ps_ret (pe_and (pe_call G1 hr rfl A1.g A1.F.kp A1.b .nil pass0 (pa_cons (pv 0) pa_nil))
      (pe_and (pe_chain op_le op_le pe_int (pe_callB call_len_str (by rfl) T.len PySem.boot_len (pa_cons (pv 0) pa_nil)) (pe_glob rfl hM (show RelV (.int 3) (.int 3 tM) from ⟨tM, rfl⟩)))
        (pe_one (pe_call G2 hr rfl A2.g A2.F.kp A2.b .nil pass0 (pa_cons (pv 0) pa_nil)))))), ?_⟩
    rcases h with ⟨x, rfl, hx, q⟩ | ⟨hn, q⟩
    · unfold letB at q
      refine ⟨_, rfl, _, rfl, .inl ⟨x, rfl, ?_⟩⟩
      refine ⟨_, rfl, ?_⟩
      by_cases h1 : wordB x = true
      · rw [if_pos h1]
        rw [h1] at q
        have hz : x.length ≤ sizeLine := by rw [sizeLine_eq]; omega
        refine ⟨_, rfl, _, rfl, hz, _, _, rfl, rfl, _, rfl, ?_⟩
        by_cases h2 : 1 ≤ x.length
        · have h2' : ((1 : Int) ≤ (x.length : Int)) := by omega
          rw [if_pos (decide_eq_true h2')]
          refine ⟨_, _, rfl, rfl, _, rfl, ?_⟩
          by_cases h3 : x.length ≤ 3
          · have h3' : ((x.length : Int) ≤ 3) := by omega
            rw [if_pos (decide_eq_true h3')]
            rw [decide_eq_true h2, decide_eq_true h3] at q
            refine ⟨_, rfl, x.cps.toList, (by rw [tx_of]; rfl), ?_, ?_, fun H' s1 => q H' s1⟩
            · intro z
              have : x.cps.toList.length = x.length := Array.length_toList
              rw [z] at this
              have h0 : x.length = 0 := this.symm
              omega
            · have : x.cps.toList.length = x.length := Array.length_toList
              omega
          · have h3' : ¬ ((x.length : Int) ≤ 3) := by omega
            rw [decide_eq_true h2, decide_eq_false h3] at q
            rw [if_neg (fun z => h3' (of_decide_eq_true z))]
            exact q _ (Same.refl _)
        · have h2' : ¬ ((1 : Int) ≤ (x.length : Int)) := by omega
          rw [if_neg (fun z => h2' (of_decide_eq_true z))]
          rw [decide_eq_false h2] at q
          exact ⟨_, rfl, q _ (Same.refl _)⟩
      · have h1' : wordB x = false := eq_false_of_ne_true h1
        rw [if_neg h1]
        rw [h1'] at q
        exact q _ (Same.refl _)
    · refine ⟨_, rfl, _, rfl, .inr ⟨hn, ?_⟩⟩
      exact ⟨_, rfl, q⟩
def spOver : Sp := fun vs H Q _ => ∃ L u : W, vs = [.str (tx L), .str (tx u)] ∧ u.length < 64 ∧ (∀ c ∈ u, c ∈ L) ∧ ∀ H', Same H H' → Q (.bl true) H'
def spNeedOver : Sp := fun vs H Q _ => ∃ L u : W, vs = [.str (tx L), .str (tx u)] ∧ u.length < 64 ∧ (∀ c ∈ u, c ∈ L) ∧ ∀ H', Same H H' → Q .non H'
def spNeedWord : Sp := fun vs H Q _ => ∃ u : W, vs = [.str (tx u)] ∧ Low u ∧ Q .non H
def spNeedLet : Sp := fun vs H Q _ => ∃ L : W, vs = [.str (tx L)] ∧ Let L ∧ ∀ H', Same H H' → Q .non H'
theorem scIO : FnScope ["letters", "word", "letter"] ["letters", "word"] (defScope sIsOver) := ⟨rfl, rfl, rfl, by decide +kernel, rfl, by decide +kernel, by decide +kernel⟩
theorem size_tx (u : W) : (tx u).cps.size = u.length := List.size_toArray
theorem all_true : ∀ n : Nat, ((List.replicate n true).all id) = true
  | 0 => rfl
  | n + 1 => by rw [List.replicate_succ, List.all_cons, all_true n] <;> rfl
theorem ok_over {f : Addr} {fd : FuncData} (F : Fun K "is_over" "is_over" sIsOver f fd) (T : TN mg) : FnOk P w K mg base CX0 1 f fd ["letters", "word"] spOver := by
  refine F.ok scIO (fun vs H Q E h => ?_) (fun cdv A outer s H vs Q E hr h => ?_)
  · obtain ⟨L, u, rfl, _⟩ := h
    rfl
  · obtain ⟨L, u, rfl, hu, hL, q⟩ := h
    refine ⟨_, pss_one (ps_ret (pe_callB (cr_all rfl) (by rfl) T.all (by decide +kernel) (pa_cons (pe_lc (own := [("letter", 2)]) (g := gName 2) (tt := tYes) rfl scIO.nd
      (pi_list (pe_callB (TX.cr_sortX rfl) (by rfl) T.sorted (by decide +kernel) (pa_cons (pe_callTy (TX.call_setX rfl) (by rfl) T.set (by decide +kernel) (pa_cons (pv 1) pa_nil)) pa_nil)))
      (blkOk_by (own := [("letter", 2)]) (N := ["letters", "word", "letter"]) (sc := defScope sIsOver) (by decide +kernel)) (fun _ _ _ _ _ => pg_name (i := 2) scIO.nd rfl (Or.inl rfl)) (fun _ _ _ _ _ => pts_nil)
      (fun _ _ _ _ _ => pe_cmpR op_in_sign (pv 2) (pv 0) rfl)) pa_nil))), ?_⟩
    have hz : (tx u).cps.size < 64 := by rw [size_tx]; exact hu
    refine ⟨_, rfl, tx u, rfl, hz, fun a o ha ho => ?_⟩
    refine ⟨a, tx u, o, rfl, upd_same, ho, hz, fun p hp => ?_⟩
    rw [tx_list]
    refine ⟨p, rfl, ⟨_, SqL.of upd_same⟩, fun D hD => ?_⟩
    have sp : Same H (upd (upd H a o) p (.lst ((sigs u).map fun c => V.str (sg c)))) := same_two (same_upd ha) hp
    have hq : (upd (upd H a o) p (.lst ((sigs u).map fun c => V.str (sg c)))) p = some (.lst ((sigs u).map fun c => V.str (sg c))) := upd_same
    generalize upd (upd H a o) p (.lst ((sigs u).map fun c => V.str (sg c))) = G at sp hq hD ⊢
    refine lc_list (xs := (sigs u).map fun c => V.str (sg c)) (fun i H1 => Same G H1 ∧ H1 D = some (.lst ((List.replicate i true).map V.bl))) ⟨same_upd hD, upd_same⟩ (fun i H1 _ ⟨s1, _⟩ => SqL.of (s1 _ _ hq)) ?_ ?_
    · rintro i x H1 hx ⟨s1, hd⟩
      rw [List.getElem?_map] at hx
      cases hc : (sigs u)[i]? with
      | none => rw [hc] at hx; cases hx
      | some c =>
        rw [hc] at hx
        obtain rfl : V.str (sg c) = x := Option.some.inj hx
        have hm : c ∈ sigs u := List.mem_of_getElem? hc
        have hi : i < (sigs u).length := (List.getElem?_eq_some_iff.mp hc).1
        have hi2 := TX.len_sigs u
        refine ⟨rfl, _, rfl, _, rfl, c, tx L, rfl, rfl, _, hd, ?_, same_at s1 hD, ?_⟩
        · rw [List.length_map, List.length_replicate, sizeLine_eq]
          omega
        · have e : c ∈ (tx L).cps.toList := by rw [tx_list]; exact hL c ((TX.mem_sigs c u).mp hm)
          rw [decide_eq_true e, upd_same, List.replicate_succ', List.map_append] <;> rfl
    · rintro H1 ⟨s1, hd⟩
      refine ⟨D, _, rfl, SqL.of hd, ?_⟩
      rw [all_true]
      exact q _ (sp.trans s1)
theorem scNL : FnScope ["letters"] ["letters"] (defScope sNeedLet) := ⟨rfl, rfl, rfl, by decide +kernel, rfl, by decide +kernel, by decide +kernel⟩
theorem ok_needlet {f g : Addr} {fd gd : FuncData} (F : Fun K "need_letters" "need_letters" sNeedLet f fd) (A1 : Fn K mg "is_letters" sIsLet ["value"] g gd) (G1 : FnOk P w K mg base CX0 2 g gd ["value"] (spIsLet K)) : FnOk P w K mg base CX0 3 f fd ["letters"] spNeedLet := by
  refine F.ok scNL (fun vs H Q E h => ?_) (fun cdv A outer s H vs Q E hr h => ?_)
  · obtain ⟨L, rfl, _⟩ := h
    rfl
  · obtain ⟨L, rfl, hL, q⟩ := h
    refine ⟨_, pss_one (ps_if (pt_not (pt_val (pe_call G1 hr rfl A1.g A1.F.kp A1.b .nil pass0 (pa_cons (pv 0) pa_nil)))) (pss_one ps_never) pss_nil), ?_⟩
    refine ⟨_, rfl, _, rfl, .inl ⟨tx L, rfl, ?_, fun H' s1 => ⟨_, rfl, ?_⟩⟩⟩
    · rw [tx_len]
      have := hL.few
      omega
    · rw [letB_let hL]
      exact q _ s1
theorem scNW : FnScope ["word"] ["word"] (defScope sNeedWord) := ⟨rfl, rfl, rfl, by decide +kernel, rfl, by decide +kernel, by decide +kernel⟩
theorem ok_needword {f g : Addr} {fd gd : FuncData} (F : Fun K "need_word" "need_word" sNeedWord f fd) (A1 : Fn K mg "is_word" sIsWord ["value"] g gd) (G1 : FnOk P w K mg base CX0 1 g gd ["value"] (spIsWord K)) : FnOk P w K mg base CX0 2 f fd ["word"] spNeedWord := by
  refine F.ok scNW (fun vs H Q E h => ?_) (fun cdv A outer s H vs Q E hr h => ?_)
  · obtain ⟨L, rfl, _⟩ := h
    rfl
  · obtain ⟨u, rfl, hu, q⟩ := h
    refine ⟨_, pss_one (ps_if (pt_not (pt_val (pe_call G1 hr rfl A1.g A1.F.kp A1.b .nil pass0 (pa_cons (pv 0) pa_nil)))) (pss_one ps_never) pss_nil), ?_⟩
    refine ⟨_, rfl, _, rfl, .inl ⟨tx u, rfl, _, rfl, ?_⟩⟩
    rw [wordB_low hu]
    exact q
theorem scNO : FnScope ["letters", "word"] ["letters", "word"] (defScope sNeedOver) := ⟨rfl, rfl, rfl, by decide +kernel, rfl, by decide +kernel, by decide +kernel⟩
theorem ok_needover {f g : Addr} {fd gd : FuncData} (F : Fun K "need_over" "need_over" sNeedOver f fd) (A1 : Fn K mg "is_over" sIsOver ["letters", "word"] g gd) (G1 : FnOk P w K mg base CX0 1 g gd ["letters", "word"] spOver) : FnOk P w K mg base CX0 2 f fd ["letters", "word"] spNeedOver := by
  refine F.ok scNO (fun vs H Q E h => ?_) (fun cdv A outer s H vs Q E hr h => ?_)
  · obtain ⟨L, u, rfl, _⟩ := h
    rfl
  · obtain ⟨L, u, rfl, hu, hL, q⟩ := h
    refine ⟨_, pss_one (ps_if (pt_not (pt_val (pe_call G1 hr rfl A1.g A1.F.kp A1.b .nil pass0 (pa_cons (pv 0) (pa_cons (pv 1) pa_nil))))) (pss_one ps_never) pss_nil), ?_⟩
    exact ⟨_, rfl, _, rfl, L, u, rfl, hu, hL, fun H' s1 => ⟨_, rfl, q _ s1⟩⟩
end
end WK
set_option Elab.async false
set_option linter.all false
set_option maxRecDepth 100000
set_option maxHeartbeats 8000000
namespace WK
open PySem L2 PyProof.Rows K1
open TX (sg sigs)
open PySem.W (Frag kitOne)
abbrev sMixed : Stmt := top 59
abbrev sLetters : Stmt := top 60
abbrev sWord : Stmt := top 61
theorem but_at {p a : Addr} {H H1 : Hp} {o : HO} (B : But p H H1) (h : H a = none) : But p H (upd H1 a o) := fun b u e n => by rw [upd_ne (ne_of_none e h)]; exact B b u e n
theorem but_two {p a : Addr} {H H1 : Hp} {o : HO} (B : But p H H1) (h : H1 a = none) : But p H (upd H1 a o) := B.trans (But.ofSame (same_upd h))
theorem DiceAt.keep {H H' : Hp} {p : Addr} (h : DiceAt H p) (k : ∀ o, H p = some o → H' p = some o) : DiceAt H' p := by
  obtain ⟨a, b, c, e, r⟩ := h
  exact ⟨a, b, c, k _ e, r⟩
theorem DiceAt.new {H : Hp} {p a : Addr} {o : HO} (h : DiceAt H p) (ha : H a = none) : DiceAt (upd H a o) p := h.keep fun _ e => same_upd ha _ _ e
theorem DiceAt.ne {H : Hp} {p a : Addr} (h : DiceAt H p) (ha : H a = none) : a ≠ p := fun z => by
  obtain ⟨_, _, _, e, _⟩ := h
  rw [← z, ha] at e
  cases e
theorem dp_strs {K : Frag} {H : Hp} : ∀ ys : List Str, DpAll K H (ys.map V.str) (ys.map PyData.str)
  | [] => .nil
  | y :: ys => .cons (.str y) (dp_strs ys)
theorem shaped_strs (ys : List Str) (h : ∀ y ∈ ys, PyData.canLay0 (.str y) = true) : SeqAt.shaped (.list (ys.map PyData.str)) = true ∧ SeqAt.shaped (.tuple (ys.map PyData.str)) = true := by
  have h1 : ∀ ys : List Str, (∀ y ∈ ys, PyData.canLay0 (.str y) = true) → PyData.canLayAll0 (ys.map PyData.str) = true := by
    intro ys
    induction ys with
    | nil => intro _; rfl
    | cons y ys ih =>
      intro h
      show (PyData.canLay0 (.str y) && PyData.canLayAll0 (ys.map PyData.str)) = true
      rw [h y List.mem_cons_self, ih fun z hz => h z (List.mem_cons_of_mem _ hz)] <;> rfl
  have h2 : ∀ ys : List Str, PyData.depthAll (ys.map PyData.str) = 0 := by
    intro ys
    induction ys with
    | nil => rfl
    | cons y ys ih =>
      show max (PyData.depth (.str y)) (PyData.depthAll (ys.map PyData.str)) = 0
      rw [ih] <;> rfl
  constructor
  · show (PyData.canLayAll0 _ && decide (PyData.depthAll _ + 1 ≤ 64)) = true
    rw [h1 ys h, h2 ys] <;> rfl
  · show (PyData.canLayAll0 _ && decide (PyData.depthAll _ + 1 ≤ 64)) = true
    rw [h1 ys h, h2 ys] <;> rfl
theorem eqv_nil (ys : List Str) : PyData.eqv (.list (ys.map PyData.str)) (.list []) = ys.isEmpty := by
  cases ys <;> rfl
theorem seqIx {i : Int} {n : Nat} (h0 : 0 ≤ i) (h1 : i < (n : Int)) : seqIndex? i n = some i.toNat := by
  unfold seqIndex?
  have e : ¬ i < 0 := by omega
  simp only [e, if_false]
  rw [decide_eq_true h0, decide_eq_true h1] <;> rfl
theorem map_erase {α β : Type} (f : α → β) : ∀ (xs : List α) (k : Nat), (xs.map f).eraseIdx k = (xs.eraseIdx k).map f
  | [], _ => rfl
  | _ :: _, 0 => rfl
  | x :: xs, k + 1 => by
    show f x :: (xs.map f).eraseIdx k = f x :: (xs.eraseIdx k).map f
    rw [map_erase f xs k]
def spMixed : Sp := fun vs H Q _ => ∃ (p q : Addr) (ys : List Str), vs = [.ref p, .ref q] ∧ DiceAt H p ∧ q ≠ p ∧ H q = some (.lst (ys.map V.str)) ∧ ys.length < 100 ∧ (∀ y ∈ ys, PyData.canLay0 (.str y) = true) ∧
  ∀ (r : Addr) (zs : List Str) (H' : Hp), zs.Perm ys → H r = none → DiceAt H' p → But p H H' → H' r = some (.lst (zs.map V.str)) → r ≠ p → Q (.ref r) H'
section
variable {P : Program} {w : World} {K : PySem.W.Frag} {mg : Str → Option Value} {base : Heap}
variable {fR fM fO : Addr} {dR dM dO : FuncData}
def muMix : L2.St → Hp → Nat := fun σ H => match σ with
  | [_, _, some (.ref l), _] => (match H l with | some (.lst xs) => xs.length | _ => 0)
  | _ => 0
theorem scMi : FnScope ["_law_dice_here", "_law_items", "_law_left", "_law_found"] ["_law_dice_here", "_law_items"] (defScope sMixed) := ⟨rfl, rfl, rfl, by decide +kernel, rfl, by decide +kernel, by decide +kernel⟩
theorem ok_mixed {f : Addr} {fd : FuncData} (F : Fun K "_law_mixed" "_law_mixed" sMixed f fd) (T : TN mg) (AR : Fn K mg "_law_roll" sRoll ["_law_dice_here", "_law_total"] fR dR) : FnOk P w K mg base CX0 2 f fd ["_law_dice_here", "_law_items"] spMixed := by
  have GR : FnOk P w K mg base CX0 1 fR dR ["_law_dice_here", "_law_total"] spRoll := ok_roll AR.F T.dice
  refine F.ok scMi (fun vs H Q E h => ?_) (fun cdv A outer s H vs Q E hr h => ?_)
  · obtain ⟨u, n, _, rfl, _⟩ := h
    rfl
  · obtain ⟨p, q, ys, rfl, hD, hqp, hq, hl, hy, qq⟩ := h

    refine ⟨_, pss_cons (ps_par (i := 2) (j := 3) (by rfl) scMi.nd rfl rfl (by decide) rfl rfl (pa_cons (pe_callTy call_list_of (by rfl) T.list (by decide +kernel) (pa_cons (pv 1) pa_nil)) (pa_cons (pe_lst pa_nil) pa_nil)) (by rfl))
      (pss_cons (ps_while PassesOwn.never (pt_cmpR (op_neD hr.units) (pv 2) (pe_lst pa_nil) (nomark _))
        (pss_one (ps_expr (pe_bm PySem.F.plainAttrs_list PySem.F.slot_list_append PySem.F.type_list_append mt_append (pv 3) (pa_cons
          (pe_bm PySem.F.plainAttrs_list PySem.F.slot_list_pop PySem.F.type_list_pop mt_popAt (pv 2) (pa_cons
            (pe_call GR hr rfl AR.g AR.F.kp AR.b .nil pass0 (pa_cons (pv 0) (pa_cons (pe_callB call_len_seq (by rfl) T.len PySem.boot_len (pa_cons (pv 2) pa_nil)) pa_nil))) pa_nil)) pa_nil)))))
      (pss_one (ps_ret (pv 3)))), ?_⟩
    refine ⟨_, rfl, q, _, rfl, .inl (SqL.of hq), fun l hl1 => ⟨(by show 0 ≤ sizeLine; decide), fun r hr1 => ⟨_, _, rfl, ?_⟩⟩⟩
    refine while_by (fun σ H1 => ∃ zs fs : List Str, σ = [some (.ref p), some (.ref q), some (.ref l), some (.ref r)] ∧ DiceAt H1 p ∧ But p H H1 ∧ H1 l = some (.lst (zs.map V.str)) ∧ H1 r = some (.lst (fs.map V.str)) ∧ (zs ++ fs).Perm ys) muMix ?_ ?_ ?_
    · exact ⟨ys, [], rfl, (hD.new hl1).new hr1, But.ofSame (same_two (same_upd hl1) hr1), same_upd hr1 _ _ upd_same, upd_same, by rw [List.append_nil]⟩
    · have nr : H r = none := (same_upd hl1).free hr1
      have lp := hD.ne hl1
      have rp := hD.ne nr
      have lr : l ≠ r := fun z => by rw [← z, upd_same] at hr1; cases hr1
      rintro σ H1 ⟨zs, fs, rfl, hD1, hB1, hz, hf, hp⟩
      have hzy : ∀ y ∈ zs, PyData.canLay0 (.str y) = true := fun y hm => hy y (hp.mem_iff.mp (List.mem_append_left _ hm))
      have hlen : zs.length + fs.length = ys.length := by rw [← List.length_append, hp.length_eq]
      refine ⟨_, rfl, (by show 0 ≤ sizeLine; decide), fun e he => ⟨.list (zs.map PyData.str), .list [], .lst (SqL.of (same_upd he _ _ hz)) (dp_strs zs), .lst (SqL.of upd_same) .nil, (shaped_strs zs hzy).1, by decide, _, rfl, ?_⟩⟩
      rw [eqv_nil]
      have eD := hD1.new he (o := .lst [])
      have eB : But p H (upd H1 e (.lst [])) := but_two hB1 he
      have ez := same_upd he (o := .lst []) _ _ hz
      have ef := same_upd he (o := .lst []) _ _ hf
      generalize upd H1 e (.lst []) = H2 at eD eB ez ef ⊢
      cases zs with
      | nil => exact ⟨_, rfl, qq r fs _ hp nr eD eB ef rp⟩
      | cons z zs =>
        have len : (((z :: zs).map V.str).length : Int) = (z :: zs).length := by rw [List.length_map]
        have len2 : (z :: zs).length < 100 := by omega
        have len3 : 0 < (z :: zs).length := Nat.succ_pos _
        refine ⟨_, rfl, .inl ⟨rfl, _, SqL.of ef⟩, _, rfl, .inl ⟨rfl, _, SqL.of ez⟩, _, rfl, _, rfl, l, _, rfl, .inl (SqL.of ez), p, _, rfl, eD, by rw [len]; omega, by rw [len]; omega, fun i H3 hi0 hi1 hD3 hB3 => ?_⟩
        rw [len] at hi1
        have hk : i.toNat < (z :: zs).length := by omega
        have hz3 := hB3 _ _ ez lp
        have hf3 := hB3 _ _ ef rp
        have hget : ((z :: zs).map V.str)[i.toNat]? = some (V.str (z :: zs)[i.toNat]) := by rw [List.getElem?_map, List.getElem?_eq_getElem hk] <;> rfl
        have hidx : seqIndex? i ((z :: zs).map V.str).length = some i.toNat := by
          exact seqIx hi0 (by rw [len]; exact hi1)
        refine ⟨l, _, i, i.toNat, _, rfl, rfl, hz3, by omega, by omega, hidx, hget, r, _, _, rfl, rfl, (by rw [upd_ne (Ne.symm lr)]; exact hf3), ?_, ?_, ?_⟩
        · rw [List.length_map, sizeLine_eq]
          omega
        · refine ⟨(z :: zs).eraseIdx i.toNat, fs ++ [(z :: zs)[i.toNat]], rfl, ?_, ?_, ?_, ?_, ?_⟩
          · exact hD3.keep fun o e => by rw [upd_ne (Ne.symm rp), upd_ne (Ne.symm lp)]; exact e
          · exact but_at (but_at (eB.trans hB3) hl1) nr
          · rw [upd_ne lr, upd_same, map_erase]
          · rw [upd_same, List.map_append] <;> rfl
          · refine List.Perm.trans ?_ hp
            have h1 := erase_perm (z :: zs) i.toNat _ (List.getElem?_eq_getElem hk)
            refine List.Perm.trans ?_ (h1.append_right fs)
            show List.Perm (_ ++ (fs ++ [_])) (_ :: (_ ++ fs))
            rw [← List.append_assoc]
            exact List.perm_append_singleton _ _
        · show (match (upd (upd H3 l _) r _) l with | some (.lst xs) => xs.length | _ => 0) < (match H1 l with | some (.lst xs) => xs.length | _ => 0)
          rw [upd_ne lr, upd_same, hz]
          show (((z :: zs).map V.str).eraseIdx i.toNat).length < ((z :: zs).map V.str).length
          rw [List.length_eraseIdx, if_pos (by rw [List.length_map]; exact hk), List.length_map]
          omega
    · exact fun σ H Q Q' hm ⟨v, hv, hl, h⟩ => ⟨v, hv, hl, fun l hl' => let ⟨d, e, a, b, c, dd, k, hk, q⟩ := h l hl'; ⟨d, e, a, b, c, dd, k, hk, hm _ _ q⟩⟩
end
end WK
set_option Elab.async false
set_option linter.all false
set_option maxRecDepth 100000
set_option maxHeartbeats 8000000
namespace WK
open PySem L2 PyProof.Rows K1
open TX (sg sigs)
open PySem.W (Frag kitOne)
theorem but_free {p a : Addr} {H H1 : Hp} (B : But p H H1) (ha : H1 a = none) (hne : a ≠ p) : H a = none := by
  cases e : H a with
  | none => rfl
  | some o => rw [B a o e hne] at ha; cases ha
theorem low_lay {u : W} (h : Low u) : PyData.canLay0 (.str (tx u)) = true := by
  show (u.toArray).all _ = true
  rw [List.all_toArray, List.all_eq_true]
  intro c hc
  have := h c hc
  exact decide_eq_true (by omega)
theorem flat_one (us : W) : (us.map fun c => [c]).flatten = us := by
  induction us with
  | nil => rfl
  | cons c us ih => rw [List.map_cons, List.flatten_cons, ih] <;> rfl
theorem join_sg (us : W) : Txt.join (tx []) (us.map sg) = tx us := by
  have e : us.map sg = (us.map fun c => [c]).map tx := by rw [List.map_map] <;> rfl
  rw [e, join_eq0, flat_one]
theorem sum_sg (us : W) : ((us.map sg).map (·.length)).sum = us.length := by
  induction us with
  | nil => rfl
  | cons c us ih =>
    rw [List.map_cons, List.map_cons, List.sum_cons, ih, List.length_cons]
    show 1 + us.length = us.length + 1
    omega
theorem cut_take {α : Type} (f : α → V) (zs : List α) (n : Nat) : cutV (zs.map f) none (some (n : Int)) = (zs.take n).map f := by
  unfold cutV
  have h1 : HT.sIx (zs.map f).length 0 none = 0 := rfl
  have h2 : HT.sIx (zs.map f).length (zs.map f).length (some (n : Int)) = min n zs.length := by
    unfold HT.sIx
    simp
    try omega
  rw [h1, h2, List.drop_zero, Nat.sub_zero, List.map_take]
  by_cases h : n ≤ zs.length
  · rw [Nat.min_eq_left h]
  · rw [Nat.min_eq_right (by omega), List.take_of_length_le (by rw [List.length_map]; exact Nat.le_refl _), List.take_of_length_le (by rw [List.length_map]; omega)]
def six : W := [97, 98, 100, 109, 114, 120]
theorem six_is : ("abdmrx" : Str) = tx six := by decide +kernel
def spLetters : Sp := fun vs H Q _ => ∃ (p : Addr) (n : Int), vs = [.ref p, .int n] ∧ DiceAt H p ∧ 1 ≤ n ∧ n ≤ 3 ∧ ∀ (L : W) (H' : Hp), Let L → DiceAt H' p → But p H H' → Q (.str (tx L)) H'
def spWordL : Sp := fun vs H Q _ => ∃ (p : Addr) (L : W) (m : Int), vs = [.ref p, .str (tx L), .int m] ∧ DiceAt H p ∧ Let L ∧ 0 ≤ m ∧ m ≤ 50 ∧ ∀ (u : W) (H' : Hp), (u.length : Int) ≤ m → (∀ c ∈ u, c ∈ L) → DiceAt H' p → But p H H' → Q (.str (tx u)) H'
section
variable {P : Program} {w : World} {K : PySem.W.Frag} {mg : Str → Option Value} {base : Heap}
variable {fR fM fO : Addr} {dR dM dO : FuncData}
theorem scLe : FnScope ["_law_dice_here", "_law_total"] ["_law_dice_here", "_law_total"] (defScope sLetters) := ⟨rfl, rfl, rfl, by decide +kernel, rfl, by decide +kernel, by decide +kernel⟩
theorem ok_letters {f : Addr} {fd : FuncData} (F : Fun K "_law_letters" "_law_letters" sLetters f fd) (T : TN mg) (AM : Fn K mg "_law_mixed" sMixed ["_law_dice_here", "_law_items"] fM dM) (GM : FnOk P w K mg base CX0 2 fM dM ["_law_dice_here", "_law_items"] spMixed) : FnOk P w K mg base CX0 3 f fd ["_law_dice_here", "_law_total"] spLetters := by
  refine F.ok scLe (fun vs H Q E h => ?_) (fun cdv A outer s H vs Q E hr h => ?_)
  · obtain ⟨u, n, rfl, _⟩ := h
    rfl
  · obtain ⟨p, n, rfl, hD, h1, h3, q⟩ := h
    refine ⟨_, pss_one (ps_ret (pe_join pe_str (pe_callB cr_sortedS (by rfl) T.sorted (by decide +kernel) (pa_cons (pe_slice sl_list
      (pe_call GM hr rfl AM.g AM.F.kp AM.b .nil pass0 (pa_cons (pv 0) (pa_cons (pe_callTy (TX.call_listX rfl) (by rfl) T.list (by decide +kernel) (pa_cons pe_str pa_nil)) pa_nil))) po_none (po_some (pv 1))) pa_nil)))), ?_⟩
    have e0 : (tx six).cps.toList.map (fun c => V.str (sg c)) = (six.map sg).map V.str := by rw [tx_list, List.map_map] <;> rfl
    refine ⟨⟨_, rfl⟩, _, rfl, "abdmrx", rfl, by decide +kernel, fun l hl => ?_⟩
    rw [six_is, e0]
    have lp := hD.ne hl
    refine ⟨p, l, six.map sg, rfl, hD.new hl, lp, upd_same, by decide, by decide +kernel, fun r zs H' hz hr1 hD' hB' hr2 hrp => ?_⟩
    have nr : H r = none := (same_upd hl).free hr1
    have B2 : But p H H' := (But.ofSame (same_upd hl)).trans hB'
    refine ⟨_, rfl, n, rfl, r, _, rfl, SqL.of hr2, fun t ht => ?_⟩
    have en : n = ((n.toNat : Nat) : Int) := by omega
    have zl : zs.length = 6 := hz.length_eq
    rw [en, cut_take]
    refine ⟨t, zs.take n.toNat, rfl, SqL.of upd_same, by rw [List.length_take]; omega, fun ys d hp hs hd => ?_⟩
    -- the letters
    have allz : ∀ x ∈ zs, ∃ c, x = sg c ∧ c ∈ six := fun x hx => by
      obtain ⟨c, hc, e⟩ := List.mem_map.mp (hz.mem_iff.mp hx)
      exact ⟨c, e.symm, hc⟩
    have ally : ∀ x ∈ ys, ∃ c, x = sg c ∧ c ∈ six := fun x hx => allz x (List.mem_of_mem_take (hp.mem_iff.mp hx))
    have ey : ys = (ys.map TX.hd1).map sg := TX.all_sg ys fun x hx => let ⟨c, e, _⟩ := ally x hx; ⟨c, e⟩
    have nz : zs.Nodup := hz.nodup_iff.mpr (by decide)
    have ny : ys.Nodup := hp.nodup_iff.mpr (nz.sublist (List.take_sublist _ _))
    have lenL : (ys.map TX.hd1).length = n.toNat := by
      rw [List.length_map, hp.length_eq, List.length_take]
      omega
    have hL : Let (ys.map TX.hd1) := by
      refine ⟨fun c hc => ?_, ?_, fun z => ?_, by omega⟩
      · obtain ⟨x, hx, e⟩ := List.mem_map.mp hc
        obtain ⟨c', rfl, hc'⟩ := ally x hx
        have : c' = c := e
        rw [← this]
        have h6 : ∀ c ∈ six, 97 ≤ c ∧ c ≤ 122 := by decide
        exact h6 _ hc'
      · rw [ey] at hs ny
        refine TX.lt_of_le _ (TX.sorted_le _ hs) ((List.pairwise_map.mp ny).imp fun h q => h (by rw [q]))
      · rw [z] at lenL
        have : (0 : Nat) = n.toNat := lenL
        omega
    have ey2 : ys.map V.str = ((ys.map TX.hd1).map sg).map V.str := by rw [← ey]
    refine ⟨tx [], d, (ys.map TX.hd1).map sg, rfl, rfl, .inl (SqL.of (by rw [upd_same, ← ey])), ?_, ?_⟩
    · rw [sum_sg]
      show (ys.map TX.hd1).length + _ * 0 ≤ _
      omega
    · rw [join_sg]
      exact q _ _ hL ((hD'.new ht).new hd) (but_two (but_two B2 ht) hd)
theorem scWo : FnScope ["_law_dice_here", "_law_letters_here", "_law_most", "_law_turn"] ["_law_dice_here", "_law_letters_here", "_law_most"] (defScope sWord) := ⟨rfl, rfl, rfl, by decide +kernel, rfl, by decide +kernel, by decide +kernel⟩
theorem ok_word {f : Addr} {fd : FuncData} (F : Fun K "_law_word" "_law_word" sWord f fd) (T : TN mg) (AR : Fn K mg "_law_roll" sRoll ["_law_dice_here", "_law_total"] fR dR)
    (AO : Fn K mg "_law_one_of" sOne ["_law_dice_here", "_law_items"] fO dO) : FnOk P w K mg base CX0 3 f fd ["_law_dice_here", "_law_letters_here", "_law_most"] spWordL := by
  have GR : FnOk P w K mg base CX0 1 fR dR ["_law_dice_here", "_law_total"] spRoll := ok_roll AR.F T.dice
  have GO : FnOk P w K mg base CX0 2 fO dO ["_law_dice_here", "_law_items"] spOne := ok_one AO.F T.dice AR.g AR.F AR.b
  refine F.ok scWo (fun vs H Q E h => ?_) (fun cdv A outer s H vs Q E hr h => ?_)
  · obtain ⟨u, n, _, rfl, _⟩ := h
    rfl
  · obtain ⟨p, L, m, rfl, hD, hL, h0, h1, q⟩ := h
    have hr1 : Room 1 _ := hr.mono (by decide)
    refine ⟨_, pss_one (ps_ret (pe_join pe_str (pe_lc (own := [("_law_turn", 3)]) (g := gName 3) (tt := tYes) rfl scWo.nd
      (pi_range1 rfl T.rng (pa_cons (pe_call GR hr1 rfl AR.g AR.F.kp AR.b .nil pass0 (pa_cons (pv 0) (pa_cons (pe_op op_add (pv 2) pe_int) pa_nil))) pa_nil))
      (blkOk_by (own := [("_law_turn", 3)]) (N := ["_law_dice_here", "_law_letters_here", "_law_most", "_law_turn"]) (sc := defScope sWord) (by decide +kernel)) (fun _ _ _ _ _ => pg_name (i := 3) scWo.nd rfl (Or.inl rfl)) (fun _ _ _ _ _ => pts_nil)
      (fun _ _ _ _ _ => pe_call GO hr rfl AO.g AO.F.kp AO.b .nil pass0 (pa_cons (pv 0) (pa_cons (pe_callTy (TX.call_listX rfl) (by rfl) T.list (by decide +kernel) (pa_cons (pv 1) pa_nil)) pa_nil)))))), ?_⟩
    refine ⟨⟨_, rfl⟩, _, rfl, _, rfl, _, _, rfl, rfl, p, _, rfl, hD, by omega, by omega, fun r H1 hr0 hr1 hD1 hB1 => ?_⟩
    refine ⟨_, rfl, by omega, by omega, fun D hD2 => ?_⟩
    have Dp := hD1.ne hD2
    have nD : H D = none := but_free hB1 hD2 Dp
    refine lc_range (lo := 0) (n := r.toNat) (fun i H3 => DiceAt H3 p ∧ But p H H3 ∧ ∃ us : W, us.length = i ∧ (∀ c ∈ us, c ∈ L) ∧ H3 D = some (.lst (us.map fun c => V.str (sg c)))) ⟨hD1.new hD2, but_two hB1 hD2, [], rfl, fun c hc => (nomatch hc), upd_same⟩ ?_ ?_
    · rintro i H3 hi ⟨hD3, hB3, us, hlen, hus, hd⟩
      refine ⟨rfl, _, rfl, _, rfl, tx L, rfl, ?_, fun l hl => ?_⟩
      · rw [size_tx, sizeLine_eq]
        have := hL.few
        omega
      rw [tx_list]
      have hne := List.length_pos_iff.mpr hL.ne
      refine ⟨p, l, _, rfl, hD3.new hl, hD3.ne hl, upd_same, by rw [List.length_map]; exact hne, by rw [List.length_map]; have := hL.few; omega, fun v H4 hv hD4 hB4 => ?_⟩
      obtain ⟨c, hc, rfl⟩ := List.mem_map.mp hv
      have hd4 : H4 D = _ := hB4 _ _ (same_upd hl _ _ hd) Dp
      refine ⟨_, hd4, ?_, hD4.keep fun o e => by rw [upd_ne (Ne.symm Dp)]; exact e, but_at ((but_two hB3 hl).trans hB4) nD, us ++ [c], ?_, ?_, ?_⟩
      · rw [List.length_map, hlen, sizeLine_eq]
        omega
      · rw [List.length_append, hlen] <;> rfl
      · intro d hd'
        rcases List.mem_append.mp hd' with z | z
        · exact hus d z
        · rw [List.mem_singleton.mp z]
          exact hc
      · rw [upd_same, List.map_append] <;> rfl
    · rintro H3 ⟨hD3, hB3, us, hlen, hus, hd⟩
      have e1 : us.map (fun c => V.str (sg c)) = (us.map sg).map V.str := by rw [List.map_map] <;> rfl
      rw [e1] at hd
      refine ⟨tx [], D, us.map sg, rfl, rfl, .inl (SqL.of hd), ?_, ?_⟩
      · rw [sum_sg]
        show us.length + _ * 0 ≤ _
        omega
      · rw [join_sg]
        exact q us H3 (by omega) hus hD3 hB3
end
end WK
set_option Elab.async false
set_option linter.all false
set_option maxRecDepth 100000
set_option maxHeartbeats 6000000
namespace LCX
open PySem L2 PyProof.Rows WK
open PySem.W (Frag)
theorem seqT {K : Frag} {H H' : Hp} {a : Addr} {xs : List V} (e : Same H H') (h : SqT K H a xs) : SqT K H' a xs := by
  rcases h with h | h
  · rcases h with h | ⟨ob, h⟩
    · exact .inl (.inl (e _ _ h))
    · exact .inl (.inr ⟨ob, e _ _ h⟩)
  · exact .inr h
theorem take_succ_flat {α : Type} (l : List α) (r : α → List V) (i : Nat) (x : α) (h : l[i]? = some x) : (l.take (i + 1)).flatMap r = (l.take i).flatMap r ++ r x := by
  rw [List.take_add_one, h]
  simp [List.flatMap_append]
theorem flat_map {α : Type} (l : List α) (v : α → V) : l.flatMap (fun x => [v x]) = l.map v := by
  induction l with
  | nil => rfl
  | cons x l ih => rw [List.flatMap_cons, ih] <;> rfl
theorem flat_len {α : Type} (l : List α) (r : α → List V) (h : ∀ x, (r x).length ≤ 1) : (l.flatMap r).length ≤ l.length := by
  induction l with
  | nil => exact Nat.le_refl _
  | cons x l ih =>
    rw [List.flatMap_cons, List.length_append, List.length_cons]
    have := h x
    omega
section
variable {K : Frag} {a D : Addr} {α : Type} {l : List α} {val : α → V} {r : α → List V} {g : TG} {tt : TT} {te : TE} {vs : List Nat} {σ : L2.St} {H1 : Hp} {Qd : Hp → Prop} {G : List V → Prop}
/-- one turn -/
abbrev Turn (g : TG) (tt : TT) (te : TE) (vs : List Nat) (σ : L2.St) (D : Addr) (x : V) (H : Hp) (N : Hp → Prop) : Prop := g x (wipe σ vs) H fun σ2 H2 => wipe σ2 vs = wipe σ vs ∧ tt σ2 H2 fun b H3 =>
  if b = true then te σ2 H3 fun y H4 => ∃ acc, H4 D = some (.lst acc) ∧ acc.length < sizeLine ∧ N (upd H4 D (.lst (acc ++ [y]))) else N H3
/-- what a comprehension asks that adds to the list at D what it picks -/
abbrev Went (J : It) (g : TG) (tt : TT) (te : TE) (vs : List Nat) (σ : L2.St) (D : Addr) (H1 : Hp) (Qd : Hp → Prop) : Prop :=
  ∃ W : Nat → Nat → Hp → Prop, (∃ m, W 0 m (upd H1 D (.lst []))) ∧ ∀ j n G, W j n G → (J.stop j G ∧ Qd G) ∨ (J.go j G ∧ ∃ N : Hp → Prop, (∀ G', N G' → ∃ n', n' < n ∧ W (j + 1) n' G') ∧ ∀ v G', J.yld j G v G' → Turn g tt te vs σ D v G' N)
/-- with an invariant of one's own -/
theorem pick_list (Iv : Hp → Prop) (h0 : Iv (upd H1 D (.lst []))) (hl : ∀ H, Iv H → SqL K H a (l.map val)) (hn : l.length < sizeLine) (hr : ∀ x, (r x).length ≤ 1)
    (hs : ∀ x ∈ l, ∀ H acc, Iv H → H D = some (.lst acc) → acc.length < sizeLine → ∀ N : Hp → Prop, (∀ H', Iv H' → H' D = some (.lst (acc ++ r x)) → N H') → Turn g tt te vs σ D (val x) H N)
    (hd : ∀ H, Iv H → H D = some (.lst (l.flatMap r)) → Qd H) :
    Went (Itl K a) g tt te vs σ D H1 Qd := by
  refine lc_list (K := K) (a := a) (xs := l.map val) (fun i H => Iv H ∧ H D = some (.lst ((l.take i).flatMap r))) ⟨h0, upd_same⟩ (fun i H _ p => hl H p.1) (fun i x H hx p => ?_) (fun H p => ?_)
  · rw [List.getElem?_map] at hx
    cases e : l[i]? with
    | none => rw [e] at hx; cases hx
    | some y =>
      rw [e] at hx
      obtain rfl : val y = x := Option.some.inj hx
      have hlen := flat_len (l.take i) r hr
      have : (l.take i).length ≤ l.length := by rw [List.length_take]; exact Nat.min_le_right ..
      exact hs y (List.mem_of_getElem? e) H _ p.1 p.2 (by omega) _ fun H' q1 q2 => ⟨q1, by rw [take_succ_flat l r i y e]; exact q2⟩
  · rw [List.length_map, List.take_length] at p
    exact hd H p.1 p.2
theorem pick_tup (Iv : Hp → Prop) (h0 : Iv (upd H1 D (.lst []))) (hl : ∀ H, Iv H → SqT K H a (l.map val)) (hn : l.length < sizeLine) (hr : ∀ x, (r x).length ≤ 1)
    (hs : ∀ x ∈ l, ∀ H acc, Iv H → H D = some (.lst acc) → acc.length < sizeLine → ∀ N : Hp → Prop, (∀ H', Iv H' → H' D = some (.lst (acc ++ r x)) → N H') → Turn g tt te vs σ D (val x) H N)
    (hd : ∀ H, Iv H → H D = some (.lst (l.flatMap r)) → Qd H) :
    Went (Itt K a) g tt te vs σ D H1 Qd := by
  refine lc_tup (K := K) (a := a) (xs := l.map val) (fun i H => Iv H ∧ H D = some (.lst ((l.take i).flatMap r))) ⟨h0, upd_same⟩ (fun i H _ p => hl H p.1) (fun i x H hx p => ?_) (fun H p => ?_)
  · rw [List.getElem?_map] at hx
    cases e : l[i]? with
    | none => rw [e] at hx; cases hx
    | some y =>
      rw [e] at hx
      obtain rfl : val y = x := Option.some.inj hx
      have hlen := flat_len (l.take i) r hr
      have : (l.take i).length ≤ l.length := by rw [List.length_take]; exact Nat.min_le_right ..
      exact hs y (List.mem_of_getElem? e) H _ p.1 p.2 (by omega) _ fun H' q1 q2 => ⟨q1, by rw [take_succ_flat l r i y e]; exact q2⟩
  · rw [List.length_map, List.take_length] at p
    exact hd H p.1 p.2
/-- nothing but new things: over a list, over a tuple -/
theorem same_list (hD : H1 D = none) (hl : SqL K H1 a (l.map val)) (hn : l.length < sizeLine) (hr : ∀ x, (r x).length ≤ 1)
    (hs : ∀ x ∈ l, ∀ H acc, Same H1 H → H D = some (.lst acc) → acc.length < sizeLine → ∀ N : Hp → Prop, (∀ H', Same H1 H' → H' D = some (.lst (acc ++ r x)) → N H') → Turn g tt te vs σ D (val x) H N)
    (hd : ∀ H, Same H1 H → H D = some (.lst (l.flatMap r)) → Qd H) :
    Went (Itl K a) g tt te vs σ D H1 Qd :=
  pick_list (Same H1) (same_upd hD) (fun H s => s.seq hl) hn hr hs hd
theorem same_tup (hD : H1 D = none) (hl : SqT K H1 a (l.map val)) (hn : l.length < sizeLine) (hr : ∀ x, (r x).length ≤ 1)
    (hs : ∀ x ∈ l, ∀ H acc, Same H1 H → H D = some (.lst acc) → acc.length < sizeLine → ∀ N : Hp → Prop, (∀ H', Same H1 H' → H' D = some (.lst (acc ++ r x)) → N H') → Turn g tt te vs σ D (val x) H N)
    (hd : ∀ H, Same H1 H → H D = some (.lst (l.flatMap r)) → Qd H) :
    Went (Itt K a) g tt te vs σ D H1 Qd :=
  pick_tup (Same H1) (same_upd hD) (fun H s => seqT s hl) hn hr hs hd
end
end LCX
set_option Elab.async false
set_option linter.all false
set_option maxRecDepth 100000
set_option maxHeartbeats 8000000
namespace WK
open PySem L2 PyProof.Rows LCX
open PySem.W (Frag kitOne)
abbrev sIsAsc : Stmt := top 26
abbrev sIsTab : Stmt := top 27
abbrev sIsRow : Stmt := top 28
/-- a whole number, True or False -/
def isNum (v : V) : Prop := (∃ i, v = .int i) ∨ ∃ b, v = .bl b
def numB (v : V) (a b : Int) : Bool := match v with
  | .int i => decide (a ≤ i) && decide (i ≤ b)
  | _ => false
def intOf (v : V) : Int := match v with
  | .int i => i
  | _ => 0
def ascI (is : List Int) : Bool := decide (is.Pairwise (· < ·))
/-- an ascending tuple of numbers below m -/
def ascV (xs : List V) (m : Int) : Bool := (xs.map fun x => numB x 0 (m - 1)).all id && ascI (xs.map intOf)
def rowB (xs : List V) (wd m : Int) : Bool := decide ((xs.length : Int) = wd) && (xs.map fun x => numB x 0 (m - 1)).all id
/-- a table by its rows; none is a row that is no tuple -/
def tabB (rs : List (Option (List V))) (wd most : Int) : Bool := decide (1 ≤ (rs.length : Int)) && decide ((rs.length : Int) ≤ most) && (rs.map fun r => match r with
  | some xs => rowB xs wd rs.length
  | none => false).all id
/-- no tuple, as long as old things stay -/
def NT (H : Hp) (v : V) : Prop := (∃ x, v = .str x) ∨ v = .non ∨ (∃ i, v = .int i) ∨ (∃ b, v = .bl b) ∨ ∃ a xs, v = .ref a ∧ H a = some (.lst xs)
theorem NT.ext {H H' : Hp} {v : V} (h : NT H v) (s : Same H H') : NT H' v := by
  rcases h with h | h | h | h | ⟨a, xs, h, q⟩
  · exact .inl h
  · exact .inr (.inl h)
  · exact .inr (.inr (.inl h))
  · exact .inr (.inr (.inr (.inl h)))
  · exact .inr (.inr (.inr (.inr ⟨a, xs, h, s _ _ q⟩)))
theorem NT.ty {K : Frag} {H : Hp} {v : V} (h : NT H v) : ∃ t, TyX K H v (.type t) ∧ kitOne K (.type t) (.type "tuple") = some false := by
  rcases h with ⟨x, rfl⟩ | rfl | ⟨i, rfl⟩ | ⟨b, rfl⟩ | ⟨a, xs, rfl, q⟩
  · exact ⟨_, .base (.str _), kit_ty (by decide +kernel)⟩
  · exact ⟨_, .base .non, kit_ty (by decide +kernel)⟩
  · exact ⟨_, .base (.int _), kit_ty (by decide +kernel)⟩
  · exact ⟨_, .base (.bl _), kit_ty (by decide +kernel)⟩
  · exact ⟨_, .base (.lst q), kit_ty (by decide +kernel)⟩
theorem tyT {K : Frag} {H : Hp} {a : Addr} {xs : List V} (h : SqT K H a xs) : TyX K H (.ref a) (.type "tuple") := by
  rcases h with (h | ⟨o, h⟩) | ⟨o, its, n, h1, h2, _⟩
  · exact .base (.tup h)
  · exact .fTuple h
  · exact .kTuple h1 h2
/-- a row of a table -/
def RowV (K : Frag) (H : Hp) (v : V) : Option (List V) → Prop
  | some xs => ∃ a, v = .ref a ∧ SqT K H a xs ∧ xs.length ≤ 100 ∧ ∀ x ∈ xs, isNum x
  | none => NT H v
theorem RowV.ext {K : Frag} {H H' : Hp} {v : V} {r : Option (List V)} (h : RowV K H v r) (s : Same H H') : RowV K H' v r := by
  cases r with
  | none => exact NT.ext h s
  | some xs =>
    obtain ⟨a, e, t, l, q⟩ := h
    exact ⟨a, e, seqT s t, l, q⟩
def spInt2 : Sp := fun vs H Q _ => ∃ v, vs = [v] ∧ ((∃ i, v = .int i ∧ Q (.bl true) H) ∨ ∃ b, v = .bl b ∧ Q (.bl false) H)
def spNum2 : Sp := fun vs H Q _ => ∃ v a b, vs = [v, .int a, .int b] ∧ isNum v ∧ Q (.bl (numB v a b)) H
def spAscT (K : Frag) : Sp := fun vs H Q _ => ∃ (a : Addr) (is : List Int), vs = [.ref a] ∧ SqT K H a (is.map V.int) ∧ is.length ≤ 100 ∧ ∀ H', Same H H' → Q (.bl (ascI is)) H'
def spIsAsc (K : Frag) : Sp := fun vs H Q _ => ∃ v m, vs = [v, .int m] ∧ ((∃ a xs, v = .ref a ∧ SqT K H a xs ∧ xs.length ≤ 100 ∧ (∀ x ∈ xs, isNum x) ∧ ∀ H', Same H H' → Q (.bl (ascV xs m)) H') ∨ (NT H v ∧ Q (.bl false) H))
def spRow (K : Frag) : Sp := fun vs H Q _ => ∃ v wd m r, vs = [v, .int wd, .int m] ∧ RowV K H v r ∧ ∀ H', Same H H' → Q (.bl (match r with
  | some xs => rowB xs wd m
  | none => false)) H'
/-- its rows are these -/
def Rows (K : Frag) (H : Hp) : List V → List (Option (List V)) → Prop
  | [], [] => True
  | x :: xs, r :: rs => RowV K H x r ∧ Rows K H xs rs
  | _, _ => False
def spTab (K : Frag) : Sp := fun vs H Q _ => ∃ v wd most, vs = [v, .int wd, .int most] ∧ ((∃ a xs rs, v = .ref a ∧ SqT K H a xs ∧ xs.length ≤ 100 ∧ Rows K H xs rs ∧ ∀ H', Same H H' → Q (.bl (tabB rs wd most)) H') ∨ (NT H v ∧ Q (.bl false) H))
section
variable {P : Program} {w : World} {K : PySem.W.Frag} {mg : Str → Option Value} {base : Heap}
theorem ok_int2 {f : Addr} {fd : FuncData} (F : Fun K "is_integer" "is_integer" sIsInt f fd) (T : TN mg) : FnOk P w K mg base CX0 1 f fd ["value"] spInt2 := by
  refine F.ok scII (fun vs H Q E h => ?_) (fun cdv A outer s H vs Q E hr h => ?_)
  · obtain ⟨v, rfl, _⟩ := h
    rfl
  · obtain ⟨v, rfl, h⟩ := h
    refine ⟨_, pss_one (ps_ret (pe_and (pe_callB call_isi (by rfl) T.isi (by decide +kernel) (pa_cons (pv 0) (pa_cons (pe_ty "int" T.int (by decide +kernel)) pa_nil)))
      (pe_one (pe_not (pe_callB call_isi (by rfl) T.isi (by decide +kernel) (pa_cons (pv 0) (pa_cons (pe_ty "bool" T.bool (by decide +kernel)) pa_nil))))))), ?_⟩
    rcases h with ⟨i, rfl, q⟩ | ⟨b, rfl, q⟩
    · refine ⟨_, rfl, _, _, _, _, true, rfl, .ty "int", .base (.int _), kit_ty (by decide +kernel), true, rfl, ?_⟩
      exact ⟨_, rfl, _, _, _, _, false, rfl, .ty "bool", .base (.int _), kit_ty (by decide +kernel), false, rfl, q⟩
    · refine ⟨_, rfl, _, _, _, _, true, rfl, .ty "int", .base (.bl _), kit_ty (by decide +kernel), true, rfl, ?_⟩
      exact ⟨_, rfl, _, _, _, _, true, rfl, .ty "bool", .base (.bl _), kit_ty (by decide +kernel), true, rfl, q⟩
theorem ok_num2 {f g : Addr} {fd gd : FuncData} (F : Fun K "is_number" "is_number" sIsNum f fd) (T : TN mg) (A0 : Fn K mg "is_integer" sIsInt ["value"] g gd) : FnOk P w K mg base CX0 2 f fd ["value", "least", "most"] spNum2 := by
  have G0 : FnOk P w K mg base CX0 1 g gd ["value"] spInt2 := ok_int2 A0.F T
  refine F.ok scIN (fun vs H Q E h => ?_) (fun cdv A outer s H vs Q E hr h => ?_)
  · obtain ⟨v, a, b, rfl, _⟩ := h
    rfl
  · obtain ⟨v, a, b, rfl, hn, q⟩ := h
    refine ⟨_, pss_one (ps_ret (pe_and (pe_call G0 hr rfl A0.g A0.F.kp A0.b .nil pass0 (pa_cons (pv 0) pa_nil)) (pe_one (pe_chain op_le op_le (pv 1) (pv 0) (pv 2))))), ?_⟩
    rcases hn with ⟨i, rfl⟩ | ⟨c, rfl⟩
    · refine ⟨_, rfl, _, rfl, .inl ⟨i, rfl, true, rfl, ?_⟩⟩
      refine ⟨_, rfl, _, rfl, _, _, rfl, rfl, _, rfl, ?_⟩
      have q : Q (.bl (decide (a ≤ i) && decide (i ≤ b))) H := q
      by_cases h1 : a ≤ i
      · rw [decide_eq_true h1] at q ⊢
        exact ⟨_, rfl, _, _, rfl, rfl, q⟩
      · rw [decide_eq_false h1] at q ⊢
        exact q
    · exact ⟨_, rfl, _, rfl, .inr ⟨c, rfl, false, rfl, q⟩⟩
theorem scIA : FnScope ["value", "many", "part"] ["value", "many"] (defScope sIsAsc) := ⟨rfl, rfl, rfl, by decide +kernel, rfl, by decide +kernel, by decide +kernel⟩
theorem scRw : FnScope ["value", "width", "many", "after"] ["value", "width", "many"] (defScope sIsRow) := ⟨rfl, rfl, rfl, by decide +kernel, rfl, by decide +kernel, by decide +kernel⟩
theorem scTb : FnScope ["value", "width", "most", "row"] ["value", "width", "most"] (defScope sIsTab) := ⟨rfl, rfl, rfl, by decide +kernel, rfl, by decide +kernel, by decide +kernel⟩
/-- a row's numbers -/
theorem ok_row {f g : Addr} {fd gd : FuncData} (F : Fun K "_is_row" "_is_row" sIsRow f fd) (T : TN mg) (A1 : Fn K mg "is_number" sIsNum ["value", "least", "most"] g gd) (G1 : FnOk P w K mg base CX0 2 g gd ["value", "least", "most"] spNum2) : FnOk P w K mg base CX0 3 f fd ["value", "width", "many"] (spRow K) := by
  refine F.ok scRw (fun vs H Q E h => ?_) (fun cdv A outer s H vs Q E hr h => ?_)
  · obtain ⟨v, wd, m, r, rfl, _⟩ := h
    rfl
  · obtain ⟨v, wd, m, r, rfl, hv, q⟩ := h
    refine ⟨_, pss_cons (ps_if (PW.pt (pw_or (pt_not (pt_val (pe_callB call_isi (by rfl) T.isi (by decide +kernel) (pa_cons (pv 0) (pa_cons (pe_ty "tuple" T.tuple (by decide +kernel)) pa_nil)))))
        (pw_or1 (pt_cmpR op_ne (pe_callB call_len_seq (by rfl) T.len PySem.boot_len (pa_cons (pv 0) pa_nil)) (pv 1) (nomark _))))) (pss_one (ps_ret pe_bl)) pss_nil)
      (pss_one (ps_ret (pe_callB (cr_all rfl) (by rfl) T.all (by decide +kernel) (pa_cons (pe_lc (own := [("after", 3)]) (g := gName 3) (tt := tYes) rfl scRw.nd (pi_tup (pv 0))
        (blkOk_by (own := [("after", 3)]) (N := ["value", "width", "many", "after"]) (sc := defScope sIsRow) (by decide +kernel)) (fun _ _ _ _ _ => pg_name (i := 3) scRw.nd rfl (Or.inl rfl)) (fun _ _ _ _ _ => pts_nil)
        (fun _ _ _ _ _ => pe_call G1 hr rfl A1.g A1.F.kp A1.b .nil pass0 (pa_cons (pv 3) (pa_cons pe_int (pa_cons (pe_op op_sub (pv 2) pe_int) pa_nil))))) pa_nil)))), ?_⟩
    cases r with
    | none =>
      obtain ⟨t, ty, hk⟩ := NT.ty (K := K) hv
      exact ⟨_, rfl, _, _, _, _, false, rfl, .ty "tuple", ty, hk, false, rfl, q _ (Same.refl H)⟩
    | some xs =>
      obtain ⟨a, rfl, hT, hl, hx⟩ := hv
      refine ⟨_, rfl, _, _, _, _, true, rfl, .ty "tuple", tyT hT, kit_ty (by decide +kernel), true, rfl, ?_⟩
      refine ⟨_, rfl, a, xs, rfl, .inr hT, _, rfl, rfl, _, rfl, ?_⟩
      have q : ∀ H', Same H H' → Q (.bl (rowB xs wd m)) H' := q
      by_cases hw : (xs.length : Int) = wd
      · have e1 : (!decide (V.int (xs.length : Int) = V.int wd)) = false := by rw [decide_eq_true (by rw [hw])] <;> rfl
        rw [e1]
        refine ⟨_, rfl, a, rfl, ⟨_, hT⟩, fun D hD => ?_⟩
        have hT' : SqT K H a (xs.map id) := by rw [List.map_id]; exact hT
        refine same_tup (val := id) (r := fun x => [V.bl (numB x 0 (m - 1))]) hD hT' (by rw [sizeLine_eq]; omega) (fun _ => Nat.le_refl _) (fun x hx' H1 acc s1 hacc hlen N hN => ?_) (fun H1 s1 hd => ?_)
        · exact ⟨rfl, _, rfl, _, rfl, _, _, rfl, rfl, x, _, _, rfl, hx x hx', acc, hacc, hlen, hN _ (same_at s1 hD) upd_same⟩
        · have e : xs.flatMap (fun x => [V.bl (numB x 0 (m - 1))]) = (xs.map fun x => numB x 0 (m - 1)).map V.bl := by rw [flat_map, List.map_map] <;> rfl
          rw [e] at hd
          refine ⟨D, _, rfl, SqL.of hd, ?_⟩
          have q2 := q _ s1
          unfold rowB at q2
          rw [decide_eq_true hw] at q2
          exact q2
      · have e1 : (!decide (V.int (xs.length : Int) = V.int wd)) = true := by rw [decide_eq_false (fun z => hw (V.int.inj z))] <;> rfl
        rw [e1]
        have q2 := q _ (Same.refl H)
        unfold rowB at q2
        rw [decide_eq_false hw] at q2
        exact q2
def adjI (w : List Int) (i : Nat) : Bool := decide (w.getD i 0 < w.getD (i + 1) 0)
theorem adjI_asc : ∀ w : List Int, ((List.range (w.length - 1)).map (adjI w)).all id = ascI w
  | [] => by simp [ascI]
  | [a] => by simp [ascI]
  | a :: b :: r => by
    have ih := adjI_asc (b :: r)
    have e : (a :: b :: r).length - 1 = (b :: r).length - 1 + 1 := by simp
    rw [e, List.range_succ_eq_map, List.map_cons, List.all_cons, List.map_map]
    have e2 : (adjI (a :: b :: r) ∘ Nat.succ) = adjI (b :: r) := by
      funext i
      rfl
    rw [e2, ih]
    show (decide (a < b) && ascI (b :: r)) = ascI (a :: b :: r)
    unfold ascI
    rw [← Bool.decide_and]
    refine decide_eq_decide.mpr ⟨fun ⟨h1, h2⟩ => ?_, fun h => ?_⟩
    · refine List.pairwise_cons.mpr ⟨fun y hy => ?_, h2⟩
      rcases List.mem_cons.mp hy with z | z
      · omega
      · have := (List.pairwise_cons.mp h2).1 y z
        omega
    · obtain ⟨h1, h2⟩ := List.pairwise_cons.mp h
      exact ⟨h1 b List.mem_cons_self, h2⟩
theorem ok_ascT {f : Addr} {fd : FuncData} (F : Fun K "ascends" "ascends" sAsc f fd) (T : TN mg) : FnOk P w K mg base CX0 1 f fd ["values"] (spAscT K) := by
  refine F.ok scAs (fun vs H Q E h => ?_) (fun cdv A outer s H vs Q E hr h => ?_)
  · obtain ⟨w, is, rfl, _⟩ := h
    rfl
  · obtain ⟨a, is, rfl, hT, hl, q⟩ := h
    refine ⟨_, pss_one (ps_ret (pe_callB (cr_all rfl) (by rfl) T.all (by decide +kernel) (pa_cons (pe_lc (own := [("at", 1)]) (g := gName 1) (tt := tYes) (te := tOp (rI0 fun i j => .bl (decide (i < j))) (tOp (rIxT K) (tVar 0) (tVar 1)) (tOp (rIxT K) (tVar 0) (tOp (rI0 fun i j => .int (i + j)) (tVar 1) (tC (.int 1))))) rfl scAs.nd
      (pi_range1 rfl T.rng (pa_cons (pe_op op_sub (pe_callB call_len_seq (by rfl) T.len PySem.boot_len (pa_cons (pv 0) pa_nil)) pe_int) pa_nil))
      (blkOk_by (own := [("at", 1)]) (N := ["values", "at"]) (sc := defScope sAsc) (by decide +kernel)) (fun _ _ _ _ _ => pg_name (i := 1) scAs.nd rfl (Or.inl rfl)) (fun _ _ _ _ _ => pts_nil)
      (fun _ _ _ _ _ => pe_cmpR op_lt (pe_ix ix_tup (pv 0) (pv 1) (fun _ _ => rfl)) (pe_ix ix_tup (pv 0) (pe_op op_add (pv 1) pe_int) (fun _ _ => rfl)) (nomark _))) pa_nil))), ?_⟩
    have hl2 : ((is.map V.int).length : Int) ≤ 100 := by rw [List.length_map]; omega
    refine ⟨_, rfl, a, _, rfl, .inr hT, _, _, rfl, rfl, _, rfl, (by omega), (by omega), fun D hD => ?_⟩
    have e1 : (((is.map V.int).length : Int) - 1).toNat = is.length - 1 := by rw [List.length_map]; omega
    rw [e1]
    refine lc_range (lo := 0) (n := is.length - 1) (fun i H1 => Same H H1 ∧ H1 D = some (.lst (((List.range i).map (adjI is)).map V.bl))) ⟨same_upd hD, upd_same⟩ ?_ ?_
    · rintro i H1 hi ⟨s1, hd⟩
      have at1 : ∀ j : Nat, j < is.length → atI (is.map V.int) (j : Int) = some (.int (is.getD j 0)) := fun j hj => by
        refine atI_nat ?_
        rw [List.getElem?_map, List.getD_eq_getElem?_getD, List.getElem?_eq_getElem hj] <;> rfl
      have e2 : (0 + (i : Int)) = ((i : Nat) : Int) := by omega
      have e3 : (0 + (i : Int) + 1) = ((i + 1 : Nat) : Int) := by omega
      refine ⟨rfl, _, rfl, _, rfl, a, _, _, _, rfl, rfl, seqT s1 hT, (by rw [e2]; exact at1 i (by omega)), _, rfl, _, rfl, _, _, rfl, rfl, a, _, _, _, rfl, rfl, seqT s1 hT, (by rw [e3]; exact at1 (i + 1) (by omega)), _, _, rfl, rfl, _, hd, ?_, same_at s1 hD, ?_⟩
      · rw [List.length_map, List.length_map, List.length_range, sizeLine_eq]
        omega
      · rw [upd_same, List.range_succ, List.map_append, List.map_append] <;> rfl
    · rintro H1 ⟨s1, hd⟩
      refine ⟨D, _, rfl, SqL.of hd, ?_⟩
      rw [adjI_asc]
      exact q _ s1
theorem ok_isasc {f g c : Addr} {fd gd cd : FuncData} (F : Fun K "is_ascending" "is_ascending" sIsAsc f fd) (T : TN mg) (A1 : Fn K mg "is_number" sIsNum ["value", "least", "most"] g gd) (G1 : FnOk P w K mg base CX0 2 g gd ["value", "least", "most"] spNum2)
    (A2 : Fn K mg "ascends" sAsc ["values"] c cd) (G2 : FnOk P w K mg base CX0 1 c cd ["values"] (spAscT K)) : FnOk P w K mg base CX0 3 f fd ["value", "many"] (spIsAsc K) := by
  have hX : ∀ {k}, Room 2 k → Room 1 k := fun h => h.mono (by decide)
  refine F.ok scIA (fun vs H Q E h => ?_) (fun cdv A outer s H vs Q E hr h => ?_)
  · obtain ⟨v, m, rfl, _⟩ := h
    rfl
  · obtain ⟨v, m, rfl, h⟩ := h
    refine ⟨_, pss_cons (ps_if (pt_not (pt_val (pe_callB call_isi (by rfl) T.isi (by decide +kernel) (pa_cons (pv 0) (pa_cons (pe_ty "tuple" T.tuple (by decide +kernel)) pa_nil))))) (pss_one (ps_ret pe_bl)) pss_nil)
      (pss_one (ps_ret (pe_and (pe_callB (cr_all rfl) (by rfl) T.all (by decide +kernel) (pa_cons (pe_lc (own := [("part", 2)]) (g := gName 2) (tt := tYes) rfl scIA.nd (pi_tup (pv 0))
        (blkOk_by (own := [("part", 2)]) (N := ["value", "many", "part"]) (sc := defScope sIsAsc) (by decide +kernel)) (fun _ _ _ _ _ => pg_name (i := 2) scIA.nd rfl (Or.inl rfl)) (fun _ _ _ _ _ => pts_nil)
        (fun _ _ _ _ _ => pe_call G1 hr rfl A1.g A1.F.kp A1.b .nil pass0 (pa_cons (pv 2) (pa_cons pe_int (pa_cons (pe_op op_sub (pv 1) pe_int) pa_nil))))) pa_nil))
        (pe_one (pe_call G2 (hX hr) rfl A2.g A2.F.kp A2.b .nil pass0 (pa_cons (pv 0) pa_nil)))))), ?_⟩
    rcases h with ⟨a, xs, rfl, hT, hl, hx, q⟩ | ⟨hn, q⟩
    · refine ⟨_, rfl, _, _, _, _, true, rfl, .ty "tuple", tyT hT, kit_ty (by decide +kernel), true, rfl, ?_⟩
      refine ⟨_, rfl, a, rfl, ⟨_, hT⟩, fun D hD => ?_⟩
      have hT' : SqT K H a (xs.map id) := by rw [List.map_id]; exact hT
      refine same_tup (val := id) (r := fun x => [V.bl (numB x 0 (m - 1))]) hD hT' (by rw [sizeLine_eq]; omega) (fun _ => Nat.le_refl _) (fun x hx' H1 acc s1 hacc hlen N hN => ?_) (fun H1 s1 hd => ?_)
      · exact ⟨rfl, _, rfl, _, rfl, _, _, rfl, rfl, x, _, _, rfl, hx x hx', acc, hacc, hlen, hN _ (same_at s1 hD) upd_same⟩
      · have e : xs.flatMap (fun x => [V.bl (numB x 0 (m - 1))]) = (xs.map fun x => numB x 0 (m - 1)).map V.bl := by rw [flat_map, List.map_map] <;> rfl
        rw [e] at hd
        refine ⟨D, _, rfl, SqL.of hd, ?_⟩
        unfold ascV at q
        cases e2 : (xs.map fun x => numB x 0 (m - 1)).all id with
        | false =>
          rw [e2] at q
          exact ⟨false, rfl, q _ s1⟩
        | true =>
          rw [e2] at q
          have e3 : xs = (xs.map intOf).map V.int := by
            rw [List.map_map]
            refine (List.map_id xs).symm.trans (List.map_congr_left fun x hx' => ?_)
            have h4 := List.all_eq_true.mp e2 _ (List.mem_map.mpr ⟨x, hx', rfl⟩)
            rcases hx x hx' with ⟨i, rfl⟩ | ⟨b, rfl⟩
            · rfl
            · cases h4
          refine ⟨true, rfl, _, rfl, a, xs.map intOf, rfl, by rw [← e3]; exact seqT s1 hT, by rw [List.length_map]; exact hl, fun H2 s2 => ?_⟩
          exact q _ (s1.trans s2)
    · obtain ⟨t, ty, hk⟩ := NT.ty (K := K) hn
      exact ⟨_, rfl, _, _, _, _, false, rfl, .ty "tuple", ty, hk, false, rfl, q⟩
theorem Rows.ext {H H' : Hp} (s : Same H H') : ∀ {xs : List V} {rs : List (Option (List V))}, Rows K H xs rs → Rows K H' xs rs
  | [], [], _ => trivial
  | _ :: _, _ :: _, h => ⟨h.1.ext s, h.2.ext s⟩
  | [], _ :: _, h => h.elim
  | _ :: _, [], h => h.elim
theorem Rows.len {H : Hp} : ∀ {xs : List V} {rs : List (Option (List V))}, Rows K H xs rs → xs.length = rs.length
  | [], [], _ => rfl
  | _ :: _, _ :: _, h => congrArg Nat.succ h.2.len
  | [], _ :: _, h => h.elim
  | _ :: _, [], h => h.elim
theorem Rows.mem {H : Hp} : ∀ {xs : List V} {rs : List (Option (List V))}, Rows K H xs rs → ∀ p ∈ xs.zip rs, RowV K H p.1 p.2
  | [], [], _, _, hp => (List.not_mem_nil hp).elim
  | _ :: _, _ :: _, h, p, hp => (List.mem_cons.mp hp).elim (fun e => e ▸ h.1) fun z => h.2.mem p z
  | [], _ :: _, h, _, _ => h.elim
  | _ :: _, [], h, _, _ => h.elim
abbrev rLn (K : Frag) : List V → Hp → VK → Prop := fun xs H Q => ∃ p ys, xs = [.ref p] ∧ (SqL K H p ys ∨ SqT K H p ys) ∧ Q (.int ys.length) H
def rowOk (wd m : Int) : Option (List V) → Bool
  | some xs => rowB xs wd m
  | none => false
theorem ok_table {f g : Addr} {fd gd : FuncData} (F : Fun K "is_table" "is_table" sIsTab f fd) (T : TN mg) (A1 : Fn K mg "_is_row" sIsRow ["value", "width", "many"] g gd) (G1 : FnOk P w K mg base CX0 3 g gd ["value", "width", "many"] (spRow K)) :
    FnOk P w K mg base CX0 4 f fd ["value", "width", "most"] (spTab K) := by
  refine F.ok scTb (fun vs H Q E h => ?_) (fun cdv A outer s H vs Q E hr h => ?_)
  · obtain ⟨v, wd, m, rfl, _⟩ := h
    rfl
  · obtain ⟨v, wd, m, rfl, h⟩ := h
    refine ⟨_, pss_cons (ps_if (PW.pt (pw_or (pt_not (pt_val (pe_callB call_isi (by rfl) T.isi (by decide +kernel) (pa_cons (pv 0) (pa_cons (pe_ty "tuple" T.tuple (by decide +kernel)) pa_nil)))))
        (pw_or1 (pt_not (pt_chain op_le op_le pe_int (pe_callB call_len_seq (by rfl) T.len PySem.boot_len (pa_cons (pv 0) pa_nil)) (pv 2)))))) (pss_one (ps_ret pe_bl)) pss_nil)
      (pss_one (ps_ret (pe_callB (cr_all rfl) (by rfl) T.all (by decide +kernel) (pa_cons (pe_lc (own := [("row", 3)]) (g := gName 3) (tt := tYes)
        (te := tCall (spRow K) [] E0 (tCons (tVar 3) (tCons (tVar 1) (tCons (tCB (rLn K) (tCons (tVar 0) tNil)) tNil)))) rfl scTb.nd (pi_tup (pv 0))
        (blkOk_by (own := [("row", 3)]) (N := ["value", "width", "most", "row"]) (sc := defScope sIsTab) (by decide +kernel)) (fun _ _ _ _ _ => pg_name (i := 3) scTb.nd rfl (Or.inl rfl)) (fun _ _ _ _ _ => pts_nil)
        (fun _ _ _ _ _ => pe_call G1 hr rfl A1.g A1.F.kp A1.b .nil pass0 (pa_cons (pv 3) (pa_cons (pv 1) (pa_cons (pe_callB call_len_seq (by rfl) T.len PySem.boot_len (pa_cons (pv 0) pa_nil)) pa_nil))))) pa_nil)))), ?_⟩
    rcases h with ⟨a, xs, rs, rfl, hT, hl, hR, q⟩ | ⟨hn, q⟩
    · refine ⟨_, rfl, _, _, _, _, true, rfl, .ty "tuple", tyT hT, kit_ty (by decide +kernel), true, rfl, ?_⟩
      have hlen := hR.len
      have q0 : ∀ H', Same H H' → Q (.bl (decide (1 ≤ (xs.length : Int)) && decide ((xs.length : Int) ≤ m) && (rs.map (rowOk wd xs.length)).all id)) H' := fun H' s => by
        have e : tabB rs wd m = (decide (1 ≤ (xs.length : Int)) && decide ((xs.length : Int) ≤ m) && (rs.map (rowOk wd xs.length)).all id) := by
          unfold tabB
          rw [hlen]
          rfl
        rw [← e]
        exact q H' s
      refine ⟨_, rfl, a, xs, rfl, .inr hT, _, _, rfl, rfl, _, rfl, ?_⟩
      by_cases h1 : 1 ≤ (xs.length : Int)
      · rw [decide_eq_true h1] at q0 ⊢
        refine ⟨_, rfl, _, _, rfl, rfl, _, rfl, ?_⟩
        by_cases h2 : (xs.length : Int) ≤ m
        · rw [decide_eq_true h2] at q0 ⊢
          refine ⟨_, rfl, a, rfl, ⟨_, hT⟩, fun D hD => ?_⟩
          have hT' : SqT K H a ((xs.zip rs).map (·.1)) := by rw [List.map_fst_zip (Nat.le_of_eq hlen)]; exact hT
          have hz : (xs.zip rs).length < sizeLine := by rw [List.length_zip, sizeLine_eq]; omega
          refine same_tup (l := xs.zip rs) (val := (·.1)) (r := fun p => [V.bl (rowOk wd xs.length p.2)]) hD hT' hz (fun _ => Nat.le_refl _) (fun p hp H1 acc s1 hacc hlen1 N hN => ?_) (fun H1 s1 hd => ?_)
          · refine ⟨rfl, _, rfl, _, rfl, _, rfl, a, xs, rfl, .inr (seqT s1 hT), p.1, _, _, p.2, rfl, (hR.mem p hp).ext s1, fun H2 s2 => ?_⟩
            refine ⟨acc, s2 _ _ hacc, hlen1, hN _ (same_at (s1.trans s2) hD) ?_⟩
            rw [upd_same]
            cases p.2 <;> rfl
          · have e : (xs.zip rs).flatMap (fun p => [V.bl (rowOk wd xs.length p.2)]) = (rs.map (rowOk wd xs.length)).map V.bl := by
              rw [flat_map, List.map_map]
              conv => rhs; rw [← List.map_snd_zip (l₁ := xs) (l₂ := rs) (Nat.le_of_eq hlen.symm)]
              rw [List.map_map] <;> rfl
            rw [e] at hd
            exact ⟨D, _, rfl, SqL.of hd, q0 _ s1⟩
        · rw [decide_eq_false h2] at q0 ⊢
          exact q0 _ (Same.refl H)
      · rw [decide_eq_false h1] at q0 ⊢
        exact ⟨false, rfl, q0 _ (Same.refl H)⟩
    · obtain ⟨t, ty, hk⟩ := NT.ty (K := K) hn
      exact ⟨_, rfl, _, _, _, _, false, rfl, .ty "tuple", ty, hk, false, rfl, q⟩
end
end WK
set_option Elab.async false
set_option linter.all false
set_option maxRecDepth 100000
set_option maxHeartbeats 4000000
namespace WK
open PySem L2 PyProof.Rows LCX K1
def Bel (n : Int) (ns : List Int) : Prop := ∀ i ∈ ns, 0 ≤ i ∧ i < n
abbrev oTup (r : List Int) : HO := .tup (r.map V.int)
/-- at these places stand these rows -/
def Objs (mk : List Int → HO) (H : Hp) : List Addr → List (List Int) → Prop
  | [], [] => True
  | a :: as, r :: rs => H a = some (mk r) ∧ Objs mk H as rs
  | _, _ => False
theorem Objs.to {mk : List Int → HO} {H H' : Hp} : ∀ {as : List Addr} {rs : List (List Int)}, Objs mk H as rs → (∀ a ∈ as, ∀ r, H a = some (mk r) → H' a = some (mk r)) → Objs mk H' as rs
  | [], [], _, _ => trivial
  | a :: as, _ :: _, h, k => ⟨k a (.head _) _ h.1, h.2.to fun b hb => k b (.tail _ hb)⟩
  | [], _ :: _, h, _ => h.elim
  | _ :: _, [], h, _ => h.elim
theorem Objs.snoc {mk : List Int → HO} {H : Hp} {b : Addr} {s : List Int} : ∀ {as : List Addr} {rs : List (List Int)}, Objs mk H as rs → H b = some (mk s) → Objs mk H (as ++ [b]) (rs ++ [s])
  | [], [], _, k => ⟨k, trivial⟩
  | _ :: _, _ :: _, h, k => ⟨h.1, h.2.snoc k⟩
  | [], _ :: _, h, _ => h.elim
  | _ :: _, [], h, _ => h.elim
theorem Objs.len {mk : List Int → HO} {H : Hp} : ∀ {as : List Addr} {rs : List (List Int)}, Objs mk H as rs → as.length = rs.length
  | [], [], _ => rfl
  | _ :: _, _ :: _, h => congrArg Nat.succ h.2.len
  | [], _ :: _, h => h.elim
  | _ :: _, [], h => h.elim
theorem Objs.at_ {mk : List Int → HO} {H : Hp} : ∀ {as : List Addr} {rs : List (List Int)}, Objs mk H as rs → ∀ p ∈ as.zip rs, H p.1 = some (mk p.2)
  | [], [], _, _, hp => (List.not_mem_nil hp).elim
  | _ :: _, _ :: _, h, p, hp => (List.mem_cons.mp hp).elim (fun e => e ▸ h.1) fun z => h.2.at_ p z
  | [], _ :: _, h, _, _ => h.elim
  | _ :: _, [], h, _, _ => h.elim
theorem Objs.mem {mk : List Int → HO} {H : Hp} : ∀ {as : List Addr} {rs : List (List Int)}, Objs mk H as rs → ∀ a ∈ as, ∃ r ∈ rs, H a = some (mk r)
  | [], [], _, _, ha => (List.not_mem_nil ha).elim
  | _ :: _, _ :: _, h, a, ha => (List.mem_cons.mp ha).elim (fun e => ⟨_, .head _, e ▸ h.1⟩) fun z => let ⟨r, hr, e⟩ := h.2.mem a z; ⟨r, .tail _ hr, e⟩
  | [], _ :: _, h, _, _ => h.elim
  | _ :: _, [], h, _, _ => h.elim
/-- a def as it stands, defaults or none; nothing is raised in it -/
theorem fn_ofN {P : Program} {w : World} {K : PySem.W.Frag} {mg : Str → Option Value} {base : Heap} {k : Nat} {f : Addr} {name qual : Str} {params : Arguments} {body : List Stmt} {scope : Scope} {dV kV doc pm cdv ct oc : Value} {an od : Option Addr} {osl : Array (Option Value)} {N ps : List Str} {sp : Sp}
    (lk : K.lookup f = some ⟨oc, od, .func (PySem.W.fnOf name qual params body scope dV kV doc pm an cdv ct), osl⟩) (hcd : PySem.W.codeIn K cdv qual = true) (S : FnScope N ps scope) (len : ∀ (vs : List V) (H : Hp) (Q : VK) (E : XK), sp vs H Q E → vs.length = ps.length)
    (h : ∀ (A : Around) (outer : List Env) (s : Shared) (H : Hp) (vs : List V) (Q : VK) (E : XK), Room k (A.deeper (envOfC qual scope s.heap.objs.size f cdv)) → sp vs H Q E →
      ∃ t, PSs (cxOf CX0 P w K mg base N qual scope f cdv A outer s H E).nox body t ∧ t { nx := fun x H' => Q V.non H', rt := Q } (L2.start N vs) H) :
    FnOk P w K mg base CX0 (k + 1) f (PySem.W.fnOf name qual params body scope dV kV doc pm an cdv ct) ps sp :=
  fn_of lk hcd S len fun A outer s H vs Q E hr hs => let ⟨t, a, b⟩ := h A outer s H vs Q E hr hs; ⟨t, a.nox, b⟩
end WK
set_option Elab.async false
set_option linter.all false
set_option maxRecDepth 100000
set_option maxHeartbeats 8000000
namespace WK
open PySem L2 PyProof.Rows LCX
open PySem.W (Frag kitOne)
abbrev sAct : Stmt := top 62
abbrev sLTab : Stmt := top 63
theorem noD {H H' : Hp} {p D : Addr} (b : But p H H') (h : H' D = none) (hD : DiceAt H' p) : H D = none := but_free b h (hD.ne h)
/-- a list of drawn numbers: the dice roll at each turn -/
theorem rolls {g : TG} {tt : TT} {te : TE} {vs : List Nat} {σ : L2.St} {p D : Addr} {H : Hp} {n : Nat} {Qd : Hp → Prop} (good : Int → Prop) (hn : n < sizeLine) (hD : DiceAt H p) (hd : H D = none)
    (hs : ∀ i : Nat, i < n → ∀ (H3 : Hp) (ns : List Int), DiceAt H3 p → H3 D = some (.lst (ns.map V.int)) → ns.length = i → ∀ N : Hp → Prop, (∀ (k : Int) (H4 : Hp), good k → DiceAt H4 p → But p H3 H4 → N (upd H4 D (.lst (ns.map V.int ++ [V.int k])))) →
      Turn g tt te vs σ D (.int (0 + i)) H3 N)
    (hq : ∀ (H3 : Hp) (ns : List Int), DiceAt H3 p → But p H H3 → H3 D = some (.lst (ns.map V.int)) → ns.length = n → (∀ k ∈ ns, good k) → Qd H3) : Went (Itr 0 n) g tt te vs σ D H Qd := by
  have Dp := hD.ne hd
  refine lc_range (lo := 0) (n := n) (fun i H3 => DiceAt H3 p ∧ But p H H3 ∧ ∃ ns : List Int, ns.length = i ∧ (∀ k ∈ ns, good k) ∧ H3 D = some (.lst (ns.map V.int))) ⟨hD.new hd, but_two (But.refl p H) hd, [], rfl, fun k hk => (nomatch hk), upd_same⟩ ?_ ?_
  · rintro i H3 hi ⟨hD3, hB3, ns, hl, hg, h3⟩
    refine hs i hi H3 ns hD3 h3 hl _ fun k H4 hk hD4 hB4 => ⟨hD4.keep fun o e => by rw [upd_ne (Ne.symm Dp)]; exact e, but_at (hB3.trans hB4) hd, ns ++ [k], ?_, ?_, ?_⟩
    · rw [List.length_append, hl] <;> rfl
    · intro j hj
      rcases List.mem_append.mp hj with z | z
      · exact hg j z
      · rw [List.mem_singleton.mp z]
        exact hk
    · rw [upd_same, List.map_append] <;> rfl
  · rintro H3 ⟨hD3, hB3, ns, hl, hg, h3⟩
    exact hq H3 ns hD3 hB3 h3 hl hg
theorem rgV_bel {n : Int} (h : 0 ≤ n) : ∃ ns : List Int, rgV 0 n = ns.map V.int ∧ (ns.length : Int) = n ∧ Bel n ns := by
  refine ⟨(List.range (n - 0).toNat).map fun i => 0 + ((i : Nat) : Int), by rw [List.map_map] <;> rfl, by rw [List.length_map, List.length_range]; omega, fun i hi => ?_⟩
  obtain ⟨j, hj, rfl⟩ := List.mem_map.mp hi
  have := List.mem_range.mp hj
  omega
def spAct : Sp := fun vs H Q _ => ∃ (p : Addr) (n s : Int), vs = [.ref p, .int n, .int s] ∧ DiceAt H p ∧ 1 ≤ n ∧ n ≤ 60 ∧ ∀ (l : Addr) (ns : List Int) (H' : Hp), H l = none → l ≠ p → DiceAt H' p → But p H H' → H' l = some (.lst (ns.map V.int)) → (ns.length : Int) = n → Bel n ns → Q (.ref l) H'
abbrev NAc : List Str := ["_law_dice_here", "_law_size", "_law_sort", "_law_spot", "_law_by", "_law_found", "_law_one", "_law_other", "_law_place"]
section
variable {P : Program} {w : World} {K : PySem.W.Frag} {mg : Str → Option Value} {base : Heap} {fR fO fA fT : Addr} {dR dO dA dT : FuncData}
theorem scAc : FnScope NAc ["_law_dice_here", "_law_size", "_law_sort"] (defScope sAct) := ⟨rfl, rfl, rfl, by decide +kernel, rfl, by decide +kernel, by decide +kernel⟩
theorem Bel.set {n b : Int} {ns : List Int} (h : Bel n ns) (hb : 0 ≤ b ∧ b < n) (j : Nat) : Bel n (ns.set j b) := fun i hi => (List.mem_or_eq_of_mem_set hi).elim (h i) fun e => e ▸ hb
theorem ixN_in {n : Nat} {i : Int} (h0 : 0 ≤ i) (h1 : i < n) : ixN n i = some i.toNat := by
  unfold ixN
  rw [if_pos h0, if_pos h1]
theorem ok_act {f : Addr} {fd : FuncData} (F : Fun K "_law_action" "_law_action" sAct f fd) (T : TN mg) (AR : Fn K mg "_law_roll" sRoll ["_law_dice_here", "_law_total"] fR dR) :
    FnOk P w K mg base CX0 2 f fd ["_law_dice_here", "_law_size", "_law_sort"] spAct := by
  have GR : FnOk P w K mg base CX0 1 fR dR ["_law_dice_here", "_law_total"] spRoll := ok_roll AR.F T.dice
  refine F.ok scAc (fun vs H Q E h => ?_) (fun cdv A outer s H vs Q E hr h => ?_)
  · obtain ⟨p, n, s, rfl, _⟩ := h
    rfl
  · obtain ⟨p, n, s, rfl, hD, h1, h60, q⟩ := h
    refine ⟨_, pss_cons (ps_if (pt_cmpR op_eq (pv 2) pe_int (nomark _)) (pss_one (ps_ret (pe_lc (own := [("_law_place", 8)]) (g := gName 8) (tt := tYes) rfl scAc.nd (pi_range1 rfl T.rng (pa_cons (pv 1) pa_nil))
        (blkOk_by (own := [("_law_place", 8)]) (N := NAc) (sc := defScope sAct) (by decide +kernel)) (fun _ _ _ _ _ => pg_name (i := 8) scAc.nd rfl (Or.inl rfl)) (fun _ _ _ _ _ => pts_nil)
        (fun _ _ _ _ _ => pe_op op_add (pv 8) (pe_call GR hr rfl AR.g AR.F.kp AR.b .nil pass0 (pa_cons (pv 0) (pa_cons (pe_op op_sub (pv 1) (pv 8)) pa_nil))))))) pss_nil)
      (pss_cons (ps_if (pt_cmpR op_eq (pv 2) pe_int (nomark _)) (pss_cons (ps_set (i := 3) scAc.nd rfl (Or.inr rfl) (pe_call GR hr rfl AR.g AR.F.kp AR.b .nil pass0 (pa_cons (pv 0) (pa_cons (pv 1) pa_nil))))
        (pss_one (ps_ret (pe_lc (own := [("_law_place", 8)]) (g := gName 8) (tt := tYes) rfl scAc.nd (pi_range1 rfl T.rng (pa_cons (pv 1) pa_nil))
        (blkOk_by (own := [("_law_place", 8)]) (N := NAc) (sc := defScope sAct) (by decide +kernel)) (fun _ _ _ _ _ => pg_name (i := 8) scAc.nd rfl (Or.inl rfl)) (fun _ _ _ _ _ => pts_nil)
        (fun _ _ _ _ _ => pv 3))))) pss_nil)
      (pss_cons (ps_if (pt_cmpR op_eq (pv 2) pe_int (nomark _)) (pss_cons (ps_set (i := 4) scAc.nd rfl (Or.inr rfl) (pe_call GR hr rfl AR.g AR.F.kp AR.b .nil pass0 (pa_cons (pv 0) (pa_cons (pv 1) pa_nil))))
        (pss_one (ps_ret (pe_lc (own := [("_law_place", 8)]) (g := gName 8) (tt := tYes) rfl scAc.nd (pi_range1 rfl T.rng (pa_cons (pv 1) pa_nil))
        (blkOk_by (own := [("_law_place", 8)]) (N := NAc) (sc := defScope sAct) (by decide +kernel)) (fun _ _ _ _ _ => pg_name (i := 8) scAc.nd rfl (Or.inl rfl)) (fun _ _ _ _ _ => pts_nil)
        (fun _ _ _ _ _ => pe_op op_mod (pe_callTy call_int1 (by rfl) T.int (by decide +kernel) (pa_cons (pe_op op_add (pv 8) (pv 4)) pa_nil)) (pv 1)))))) pss_nil)
      (pss_cons (ps_if (pt_cmpR op_eq (pv 2) pe_int (nomark _)) (pss_one (ps_ret (pe_listRg rfl rfl T.list (prg_1 rfl T.rng (pv 1))))) pss_nil)
      (pss_cons (ps_if (pt_cmpR op_eq (pv 2) pe_int (nomark _)) (pss_one (ps_ret (pe_callB cr_sorted (by rfl) T.sorted (by decide +kernel) (pa_cons (pe_lc (own := [("_law_place", 8)]) (g := gName 8) (tt := tYes) rfl scAc.nd (pi_range1 rfl T.rng (pa_cons (pv 1) pa_nil))
        (blkOk_by (own := [("_law_place", 8)]) (N := NAc) (sc := defScope sAct) (by decide +kernel)) (fun _ _ _ _ _ => pg_name (i := 8) scAc.nd rfl (Or.inl rfl)) (fun _ _ _ _ _ => pts_nil)
        (fun _ _ _ _ _ => pe_call GR hr rfl AR.g AR.F.kp AR.b .nil pass0 (pa_cons (pv 0) (pa_cons (pv 1) pa_nil)))) pa_nil)))) pss_nil)
      (pss_cons (ps_set (i := 5) scAc.nd rfl (Or.inl rfl) (pe_ifExp (pt_cmpR op_eq (pv 2) pe_int (nomark _)) (pe_lc (own := [("_law_place", 8)]) (g := gName 8) (tt := tYes) rfl scAc.nd (pi_range1 rfl T.rng (pa_cons (pv 1) pa_nil))
        (blkOk_by (own := [("_law_place", 8)]) (N := NAc) (sc := defScope sAct) (by decide +kernel)) (fun _ _ _ _ _ => pg_name (i := 8) scAc.nd rfl (Or.inl rfl)) (fun _ _ _ _ _ => pts_nil)
        (fun _ _ _ _ _ => pe_call GR hr rfl AR.g AR.F.kp AR.b .nil pass0 (pa_cons (pv 0) (pa_cons (pv 1) pa_nil)))) (pe_listRg rfl rfl T.list (prg_1 rfl T.rng (pv 1)))))
      (pss_cons (ps_if (pt_cmpR op_eq (pv 2) pe_int (nomark _)) (pss_cons (ps_par rfl scAc.nd (i := 6) (j := 7) rfl rfl (by decide) rfl rfl (pa_cons (pe_call GR hr rfl AR.g AR.F.kp AR.b .nil pass0 (pa_cons (pv 0) (pa_cons (pv 1) pa_nil))) (pa_cons (pe_call GR hr rfl AR.g AR.F.kp AR.b .nil pass0 (pa_cons (pv 0) (pa_cons (pv 1) pa_nil))) pa_nil)) (by rfl))
        (pss_one (ps_asg (pe_tup (pa_cons (pv 7) (pa_cons (pv 6) pa_nil))) (pg_tup (by rfl) (pgs_cons (pg_sub (pv 5) (pv 6) set_list (fun _ => rfl)) (pgs_cons (pg_sub (pv 5) (pv 7) set_list (fun _ => rfl)) pgs_nil)))))) pss_nil)
      (pss_one (ps_ret (pv 5))))))))), ?_⟩
    have hn : n.toNat < sizeLine := by rw [sizeLine_eq]; omega
    have hln : ∀ ns : List Int, ns.length = n.toNat → (ns.length : Int) = n := fun ns e => by omega
    have hsz : ∀ (i : Nat) (ns : List Int), ns.length = i → i < n.toNat → (ns.map V.int).length < sizeLine := fun i ns e hi => by rw [List.length_map, sizeLine_eq]; omega
    have hrg : RgOk 0 n := RgOk.of_le (by decide) (by omega) (by decide) (by omega)
    -- 1: up
    refine ⟨_, rfl, rfl, _, rfl, ite2 (fun _ => ?_) (fun _ => ?_)⟩
    · refine ⟨_, rfl, _, rfl, by omega, by omega, fun D hD2 => ?_⟩
      refine rolls (fun k => 0 ≤ k ∧ k < n) hn hD hD2 (fun i hi H3 ns hD3 h3 hli N hN => ?_) fun H3 ns hD3 hB3 h3 hl hg => q D ns H3 hD2 (hD.ne hD2) hD3 hB3 h3 (hln ns hl) hg
      refine ⟨rfl, _, rfl, _, rfl, _, rfl, _, rfl, _, _, rfl, rfl, p, _, rfl, hD3, by omega, by omega, fun r H4 r0 r1 hD4 hB4 => ⟨_, _, rfl, rfl, _, hB4 _ _ h3 (hD.ne hD2), hsz i ns hli hi, hN _ H4 ⟨by omega, by omega⟩ hD4 hB4⟩⟩
    -- 2: to one place
    refine ⟨_, rfl, rfl, _, rfl, ite2 (fun _ => ?_) (fun _ => ?_)⟩
    · refine ⟨_, rfl, _, rfl, p, _, rfl, hD, by omega, by omega, fun r H1 r0 r1 hD1 hB1 => ?_⟩
      refine ⟨_, rfl, _, rfl, by omega, by omega, fun D hD2 => ?_⟩
      refine rolls (fun k => 0 ≤ k ∧ k < n) hn hD1 hD2 (fun i hi H3 ns hD3 h3 hli N hN => ?_) fun H3 ns hD3 hB3 h3 hl hg => q D ns H3 (noD hB1 hD2 hD1) (hD1.ne hD2) hD3 (hB1.trans hB3) h3 (hln ns hl) hg
      refine ⟨rfl, _, rfl, _, h3, hsz i ns hli hi, hN _ H3 ⟨r0, r1⟩ hD3 (But.refl _ _)⟩
    -- 3: round
    refine ⟨_, rfl, rfl, _, rfl, ite2 (fun _ => ?_) (fun _ => ?_)⟩
    · refine ⟨_, rfl, _, rfl, p, _, rfl, hD, by omega, by omega, fun r H1 r0 r1 hD1 hB1 => ?_⟩
      refine ⟨_, rfl, _, rfl, by omega, by omega, fun D hD2 => ?_⟩
      refine rolls (fun k => 0 ≤ k ∧ k < n) hn hD1 hD2 (fun i hi H3 ns hD3 h3 hli N hN => ?_) fun H3 ns hD3 hB3 h3 hl hg => q D ns H3 (noD hB1 hD2 hD1) (hD1.ne hD2) hD3 (hB1.trans hB3) h3 (hln ns hl) hg
      refine ⟨rfl, _, rfl, _, rfl, _, _, rfl, rfl, .inl ⟨_, rfl, _, rfl, _, _, rfl, rfl, by omega, _, h3, hsz i ns hli hi, hN _ H3 ⟨?_, ?_⟩ hD3 (But.refl _ _)⟩⟩
      · exact Int.emod_nonneg _ (by omega)
      · exact Int.emod_lt_of_pos _ (by omega)
    -- 4: nowhere
    refine ⟨_, rfl, rfl, _, rfl, ite2 (fun _ => ?_) (fun _ => ?_)⟩
    · refine ⟨_, rfl, n, rfl, hrg, fun l hl => ?_⟩
      obtain ⟨ns, e, hl1, hb⟩ := rgV_bel (n := n) (by omega)
      exact q l ns _ hl (hD.ne hl) (hD.new hl) (but_two (But.refl _ _) hl) (by rw [upd_same, e]) hl1 hb
    -- 5: in order
    refine ⟨_, rfl, rfl, _, rfl, ite2 (fun _ => ?_) (fun _ => ?_)⟩
    · refine ⟨_, rfl, _, rfl, by omega, by omega, fun D hD2 => ?_⟩
      refine rolls (fun k => 0 ≤ k ∧ k < n) hn hD hD2 (fun i hi H3 ns hD3 h3 hli N hN => ?_) fun H3 ns hD3 hB3 h3 hl hg => ?_
      · refine ⟨rfl, _, rfl, _, rfl, p, _, rfl, hD3, by omega, by omega, fun r H4 r0 r1 hD4 hB4 => ⟨_, hB4 _ _ h3 (hD.ne hD2), hsz i ns hli hi, hN _ H4 ⟨r0, r1⟩ hD4 hB4⟩⟩
      · refine ⟨D, ns, rfl, SqL.of h3, by omega, fun ns' t hp _ ht => ?_⟩
        exact q t ns' _ (noD hB3 ht hD3) (hD3.ne ht) (hD3.new ht) (but_two hB3 ht) upd_same (by rw [hp.length_eq]; exact hln ns hl) fun k hk => hg k (hp.mem_iff.mp hk)
    -- anyhow, or in order; then perhaps two exchanged
    refine ⟨_, rfl, rfl, _, rfl, ite2 (fun _ => ?_) (fun _ => ?_)⟩
    · refine ⟨_, rfl, _, rfl, by omega, by omega, fun l hl0 => ?_⟩
      refine rolls (fun k => 0 ≤ k ∧ k < n) hn hD hl0 (fun i hi H3 ns hD3 h3 hli N hN => ?_) fun H3 ns hD3 hB3 h3 hl hg => ?_
      · exact ⟨rfl, _, rfl, _, rfl, p, _, rfl, hD3, by omega, by omega, fun r H4 r0 r1 hD4 hB4 => ⟨_, hB4 _ _ h3 (hD.ne hl0), hsz i ns hli hi, hN _ H4 ⟨r0, r1⟩ hD4 hB4⟩⟩
      have lp := hD.ne hl0
      have hlen := hln ns hl
      have hb : Bel n ns := hg
      clear hl hg
      refine ⟨_, rfl, rfl, _, rfl, ite2 (fun _ => ?_) (fun _ => ?_)⟩
      refine ⟨_, rfl, _, rfl, p, _, rfl, hD3, by omega, by omega, fun a H4 a0 a1 hD4 hB4 => ?_⟩
      refine ⟨_, rfl, _, rfl, p, _, rfl, hD4, by omega, by omega, fun b H5 b0 b1 hD5 hB5 => ?_⟩
      refine ⟨_, _, rfl, ?_⟩
      refine ⟨_, rfl, _, rfl, (by rw [sizeLine_eq]; show 2 ≤ 16777216; decide), fun t ht => ?_⟩
      have h5 : H5 l = some (.lst (ns.map V.int)) := hB5 _ _ (hB4 _ _ h3 lp) lp
      have h6 : (upd H5 t (.tup [V.int b, V.int a])) l = some (.lst (ns.map V.int)) := same_upd ht _ _ h5
      refine ⟨t, _, rfl, SqT.of upd_same, rfl, ?_⟩
      refine ⟨_, _, rfl, _, rfl, _, rfl, l, _, a, a.toNat, rfl, rfl, h6, ixN_in a0 (by rw [List.length_map]; omega), ?_⟩
      refine ⟨_, _, rfl, _, rfl, _, rfl, l, _, b, b.toNat, rfl, rfl, upd_same, ixN_in b0 (by rw [List.length_set, List.length_map]; omega), ?_⟩
      have kp : ∀ (G : Hp) (o : HO), DiceAt G p → DiceAt (upd G l o) p := fun G o hG => hG.keep fun _ e => by rw [upd_ne (Ne.symm lp)]; exact e
      refine ⟨rfl, _, rfl, q l ((ns.set a.toNat b).set b.toNat a) _ hl0 lp (kp _ _ (kp _ _ (hD5.new ht))) (but_at (but_at (but_two ((hB3.trans hB4).trans hB5) ht) hl0) hl0) (by rw [upd_same, List.map_set, List.map_set]) (by rw [List.length_set, List.length_set]; exact hlen) ((hb.set ⟨b0, b1⟩ _).set ⟨a0, a1⟩ _)⟩
      exact ⟨_, rfl, q l ns H3 hl0 lp hD3 hB3 h3 hlen hb⟩
    · refine ⟨_, rfl, n, rfl, hrg, fun l hl0 => ?_⟩
      obtain ⟨ns, e, hl1, hb⟩ := rgV_bel (n := n) (by omega)
      have lp := hD.ne hl0
      have hlen := hl1
      have hD3 : DiceAt (upd H l (.lst (rgV 0 n))) p := hD.new hl0
      have hB3 : But p H (upd H l (.lst (rgV 0 n))) := but_two (But.refl _ _) hl0
      have h3 : (upd H l (.lst (rgV 0 n))) l = some (.lst (ns.map V.int)) := by rw [upd_same, e]
      clear hl1 e
      generalize upd H l (.lst (rgV 0 n)) = H3 at hD3 hB3 h3 ⊢
      refine ⟨_, rfl, rfl, _, rfl, ite2 (fun _ => ?_) (fun _ => ?_)⟩
      refine ⟨_, rfl, _, rfl, p, _, rfl, hD3, by omega, by omega, fun a H4 a0 a1 hD4 hB4 => ?_⟩
      refine ⟨_, rfl, _, rfl, p, _, rfl, hD4, by omega, by omega, fun b H5 b0 b1 hD5 hB5 => ?_⟩
      refine ⟨_, _, rfl, ?_⟩
      refine ⟨_, rfl, _, rfl, (by rw [sizeLine_eq]; show 2 ≤ 16777216; decide), fun t ht => ?_⟩
      have h5 : H5 l = some (.lst (ns.map V.int)) := hB5 _ _ (hB4 _ _ h3 lp) lp
      have h6 : (upd H5 t (.tup [V.int b, V.int a])) l = some (.lst (ns.map V.int)) := same_upd ht _ _ h5
      refine ⟨t, _, rfl, SqT.of upd_same, rfl, ?_⟩
      refine ⟨_, _, rfl, _, rfl, _, rfl, l, _, a, a.toNat, rfl, rfl, h6, ixN_in a0 (by rw [List.length_map]; omega), ?_⟩
      refine ⟨_, _, rfl, _, rfl, _, rfl, l, _, b, b.toNat, rfl, rfl, upd_same, ixN_in b0 (by rw [List.length_set, List.length_map]; omega), ?_⟩
      have kp : ∀ (G : Hp) (o : HO), DiceAt G p → DiceAt (upd G l o) p := fun G o hG => hG.keep fun _ e => by rw [upd_ne (Ne.symm lp)]; exact e
      refine ⟨rfl, _, rfl, q l ((ns.set a.toNat b).set b.toNat a) _ hl0 lp (kp _ _ (kp _ _ (hD5.new ht))) (but_at (but_at (but_two ((hB3.trans hB4).trans hB5) ht) hl0) hl0) (by rw [upd_same, List.map_set, List.map_set]) (by rw [List.length_set, List.length_set]; exact hlen) ((hb.set ⟨b0, b1⟩ _).set ⟨a0, a1⟩ _)⟩
      exact ⟨_, rfl, q l ns H3 hl0 lp hD3 hB3 h3 hlen hb⟩
end
end WK
set_option Elab.async false
set_option linter.all false
set_option maxRecDepth 100000
set_option maxHeartbeats 8000000
namespace WK
open PySem L2 PyProof.Rows LCX K1
open TX (sg sigs)
open PySem.W (Frag kitOne)
abbrev oLst (r : List Int) : HO := .lst (r.map V.int)
/-- a plain table at l: a list of tuples -/
def PTab (H : Hp) (l : Addr) (tb : List (List Int)) : Prop := ∃ as, H l = some (.lst (as.map V.ref)) ∧ Objs oTup H as tb
/-- a table of n rows, each of wd numbers below n -/
structure TabOk (tb : List (List Int)) (wd : Nat) (n : Int) : Prop where
  len : (tb.length : Int) = n
  row : ∀ r ∈ tb, r.length = wd ∧ Bel n r
theorem DiceAt.tup {H : Hp} {p a : Addr} {xs : List V} (h : DiceAt H p) (e : H a = some (.tup xs)) : a ≠ p := fun z => by
  obtain ⟨x, y, w, k, _⟩ := h
  rw [z, k] at e
  cases e
theorem PTab.but {H H' : Hp} {p l : Addr} {tb : List (List Int)} (h : PTab H l tb) (lp : l ≠ p) (hD : DiceAt H p) (b : But p H H') : PTab H' l tb := by
  obtain ⟨as, h1, h2⟩ := h
  exact ⟨as, b _ _ h1 lp, h2.to fun a _ r e => b _ _ e (hD.tup e)⟩
def spLTab : Sp := fun vs H Q _ => ∃ (p q : Addr) (L : W) (n : Int) (ss : List Int), vs = [.ref p, .str (tx L), .int n, .ref q] ∧ DiceAt H p ∧ L ≠ [] ∧ L.length ≤ 26 ∧ 1 ≤ n ∧ n ≤ 60 ∧ q ≠ p ∧ H q = some (.lst (ss.map V.int)) ∧ ss ≠ [] ∧ ss.length ≤ 100 ∧
  ∀ (l : Addr) (tb : List (List Int)) (H' : Hp), H l = none → l ≠ p → DiceAt H' p → But p H H' → PTab H' l tb → TabOk tb L.length n → Q (.ref l) H'
abbrev NTb : List Str := ["_law_dice_here", "_law_letters_here", "_law_size", "_law_sorts", "_law_rows", "_law_letter", "_law_place", "_law_row"]
abbrev scT2 : Scope := { kind := .function, names := [(".0", .local), ("_law_place", .cell), ("tuple", .globalImplicit), ("_law_rows", .cell)], isGenerator := false, isCoroutine := false }
abbrev rTupL (K : Frag) : List V → Hp → VK → Prop := fun xs H Q => ∃ p ys, xs = [.ref p] ∧ ((SqL K H p ys ∧ ∀ l, H l = none → Q (.ref l) (upd H l (.tup ys))) ∨ (SqT K H p ys ∧ Q (.ref p) H))
section
variable {P : Program} {w : World} {K : PySem.W.Frag} {mg : Str → Option Value} {base : Heap} {fR fO fA fT : Addr} {dR dO dA dT : FuncData}
theorem scTa : FnScope NTb ["_law_dice_here", "_law_letters_here", "_law_size", "_law_sorts"] (defScope sLTab) := ⟨rfl, rfl, rfl, by decide +kernel, rfl, by decide +kernel, by decide +kernel⟩
theorem ok_ltab {f : Addr} {fd : FuncData} (F : Fun K "_law_table" "_law_table" sLTab f fd) (T : TN mg) (AR : Fn K mg "_law_roll" sRoll ["_law_dice_here", "_law_total"] fR dR) (AO : Fn K mg "_law_one_of" sOne ["_law_dice_here", "_law_items"] fO dO)
    (AA : Fn K mg "_law_action" sAct ["_law_dice_here", "_law_size", "_law_sort"] fA dA) : FnOk P w K mg base CX0 3 f fd ["_law_dice_here", "_law_letters_here", "_law_size", "_law_sorts"] spLTab := by
  have GO : FnOk P w K mg base CX0 2 fO dO ["_law_dice_here", "_law_items"] spOne := ok_one AO.F T.dice AR.g AR.F AR.b
  have GA : FnOk P w K mg base CX0 2 fA dA ["_law_dice_here", "_law_size", "_law_sort"] spAct := ok_act AA.F T AR
  refine F.ok scTa (fun vs H Q E h => ?_) (fun cdv A outer s H vs Q E hr h => ?_)
  · obtain ⟨p, q, L, n, ss, rfl, _⟩ := h
    rfl
  · obtain ⟨p, q, L, n, ss, rfl, hD, hL, hL2, h1, h60, qp, hq, hs0, hs1, k⟩ := h
    refine ⟨_, pss_cons (ps_set (i := 4) scTa.nd rfl (Or.inr rfl) (pe_lc (own := [("_law_letter", 5)]) (g := gName 5) (tt := tYes) rfl scTa.nd (pi_str (pv 1))
        (blkOk_by (own := [("_law_letter", 5)]) (N := NTb) (sc := defScope sLTab) (by decide +kernel)) (fun _ _ _ _ _ => pg_name (i := 5) scTa.nd rfl (Or.inl rfl)) (fun _ _ _ _ _ => pts_nil)
        (fun _ _ _ _ _ => pe_call GA hr rfl AA.g AA.F.kp AA.b .nil pass0 (pa_cons (pv 0) (pa_cons (pv 2) (pa_cons (pe_call GO hr rfl AO.g AO.F.kp AO.b .nil pass0 (pa_cons (pv 0) (pa_cons (pv 3) pa_nil))) pa_nil))))))
      (pss_one (ps_ret (pe_lc (own := [("_law_place", 6)]) (g := gName 6) (tt := tYes) (te := tCB (rTupL K) (tCons (tLc (iList K (tVar 4)) (gName 7) tYes (tOp (rIxL K) (tVar 7) (tVar 6)) [7]) tNil)) rfl scTa.nd (pi_range1 rfl T.rng (pa_cons (pv 2) pa_nil))
        (blkOk_by (own := [("_law_place", 6)]) (N := NTb) (sc := defScope sLTab) (by decide +kernel)) (fun _ _ _ _ _ => pg_name (i := 6) scTa.nd rfl (Or.inr rfl)) (fun _ _ _ _ _ => pts_nil)
        (fun _ _ _ _ _ => pe_callTy call_tuple_of (by rfl) T.tuple (by decide +kernel) (pa_cons (pe_lc (own := [("_law_row", 7)]) (g := gName 7) (tt := tYes) (te := tOp (rIxL K) (tVar 7) (tVar 6)) rfl scTa.nd (pi_list (pv 4))
          (blkOk_by (own := [("_law_row", 7)]) (N := NTb) (sc := scT2) (by decide +kernel)) (fun _ _ _ _ _ => pg_name (i := 7) scTa.nd rfl (Or.inl rfl)) (fun _ _ _ _ _ => pts_nil)
          (fun _ _ _ _ _ => pe_ix ix_list (pv 7) (pv 6) (fun _ _ => rfl))) pa_nil))))), ?_⟩
    have ssp : 0 < (ss.map V.int).length := by rw [List.length_map]; exact List.length_pos_iff.mpr hs0
    have ss1 : (ss.map V.int).length < 1000000 := by rw [List.length_map]; omega
    refine ⟨_, rfl, tx L, rfl, fun D hD2 => ?_⟩
    have Dp := hD.ne hD2
    have qD : q ≠ D := ne_of_none hq hD2
    refine lc_it walk_str (fun i H3 => DiceAt H3 p ∧ But p H H3 ∧ ∃ (as : List Addr) (rs : List (List Int)), as.length = i ∧ H3 D = some (.lst (as.map V.ref)) ∧ Objs oLst H3 as rs ∧ (∀ r ∈ rs, (r.length : Int) = n ∧ Bel n r) ∧ ∀ a ∈ as, a ≠ D ∧ a ≠ p)
      ⟨hD.new hD2, but_two (But.refl p H) hD2, [], [], rfl, upd_same, trivial, fun r hr => (nomatch hr), fun r hr => (nomatch hr)⟩ (fun _ _ _ _ => trivial) ?_ ?_
    · rintro i x H3 H4 hi ⟨hD4, hB4, as, rs, hl, hd, ho, hr2, hn⟩ ⟨rfl, c, hx, rfl⟩
      have hx' : L[i]? = some c := by
        rw [← Array.getElem?_toList, tx_list] at hx
        exact hx
      have hiL := (List.getElem?_eq_some_iff.mp hx').1
      refine ⟨rfl, _, rfl, _, rfl, _, rfl, _, rfl, p, q, _, rfl, hD4, qp, hB4 _ _ hq qp, ssp, ss1, fun v H5 hv hD5 hB5 => ?_⟩
      obtain ⟨s0, _, rfl⟩ := List.mem_map.mp hv
      refine ⟨p, n, s0, rfl, hD5, h1, h60, fun l ns H6 hl6 lp hD6 hB6 h6 hlen hb => ?_⟩
      have hd6 : H6 D = some (.lst (as.map V.ref)) := hB6 _ _ (hB5 _ _ hd Dp) Dp
      have lD : l ≠ D := fun z => by rw [z, hB5 _ _ hd Dp] at hl6; cases hl6
      have ho6 : Objs oLst H6 as rs := ho.to fun a ha r e => hB6 _ _ (hB5 _ _ e (hn a ha).2) (hn a ha).2
      refine ⟨_, hd6, by rw [List.length_map, sizeLine_eq]; omega, hD6.keep fun o e => by rw [upd_ne (Ne.symm Dp)]; exact e, but_at ((hB4.trans hB5).trans hB6) hD2, as ++ [l], rs ++ [ns], by rw [List.length_append, hl] <;> rfl, by rw [upd_same, List.map_append] <;> rfl, ?_, ?_, ?_⟩
      · refine Objs.snoc (ho6.to fun a ha r e => by rw [upd_ne (hn a ha).1]; exact e) (by rw [upd_ne lD]; exact h6)
      · intro r hr
        rcases List.mem_append.mp hr with z | z
        · exact hr2 r z
        · rw [List.mem_singleton.mp z]
          exact ⟨hlen, hb⟩
      · intro a ha
        rcases List.mem_append.mp ha with z | z
        · exact hn a z
        · rw [List.mem_singleton.mp z]
          exact ⟨lD, lp⟩
    · rintro H3 ⟨hD3, hB3, as, rs, hl, hd, ho, hr2, hn⟩
      have hl : as.length = L.length := by rw [hl, size_tx]
      have hrl : rs.length = L.length := ho.len.symm.trans hl
      refine ⟨_, rfl, _, rfl, by omega, by omega, fun D2 hD4 => ?_⟩
      have D2p := hD3.ne hD4
      have nD2 : H D2 = none := but_free hB3 hD4 D2p
      refine lc_range (lo := 0) (n := n.toNat) (fun i H4 => DiceAt H4 p ∧ But p H3 H4 ∧ ∃ (ts : List Addr) (tb : List (List Int)), ts.length = i ∧ H4 D2 = some (.lst (ts.map V.ref)) ∧ Objs oTup H4 ts tb ∧ ∀ r ∈ tb, r.length = L.length ∧ Bel n r)
        ⟨hD3.new hD4, but_two (But.refl p H3) hD4, [], [], rfl, upd_same, trivial, fun r hr => (nomatch hr)⟩ ?_ ?_
      · rintro i H4 hi ⟨hD4', hB4, ts, tb, hlt, hd2, ho2, hr3⟩
        have hd4 : H4 D = some (.lst (as.map V.ref)) := hB4 _ _ hd Dp
        have ho4 : Objs oLst H4 as rs := ho.to fun a ha r e => hB4 _ _ e (hn a ha).2
        refine ⟨rfl, _, rfl, D, rfl, ⟨_, SqL.of hd4⟩, fun D3 hD3' => ?_⟩
        have hz : (as.zip rs).length < sizeLine := by rw [List.length_zip, sizeLine_eq]; omega
        have eas : as.map V.ref = (as.zip rs).map fun z => V.ref z.1 := by
          rw [show (fun z : Addr × List Int => V.ref z.1) = V.ref ∘ Prod.fst from rfl, ← List.map_map, List.map_fst_zip (Nat.le_of_eq ho.len)]
        refine same_list (l := as.zip rs) (val := fun z => V.ref z.1) (r := fun z => [V.int (z.2.getD i 0)]) hD3' (SqL.of (by rw [← eas]; exact hd4)) hz (fun _ => Nat.le_refl _) (fun z hz H5 acc s5 hacc hlen N hN => ?_) (fun H5 s5 hd5 => ?_)
        · obtain ⟨e1, e2⟩ := hr2 z.2 (List.of_mem_zip hz).2
          have hii : i < z.2.length := by omega
          have at1 : atI (z.2.map V.int) (0 + (i : Int)) = some (.int (z.2.getD i 0)) := by
            rw [Int.zero_add]
            refine atI_nat ?_
            rw [List.getElem?_map, List.getD_eq_getElem?_getD, List.getElem?_eq_getElem hii] <;> rfl
          exact ⟨rfl, _, rfl, _, rfl, z.1, _, _, _, rfl, rfl, SqL.of (s5 _ _ (ho4.at_ z hz)), at1, acc, hacc, hlen, hN _ (same_at s5 hD3') upd_same⟩
        · have e : (as.zip rs).flatMap (fun z => [V.int (z.2.getD i 0)]) = (rs.map fun r => r.getD i 0).map V.int := by
            rw [flat_map, List.map_map]
            conv => rhs; rw [← List.map_snd_zip (l₁ := as) (l₂ := rs) (Nat.le_of_eq ho.len.symm)]
            rw [List.map_map] <;> rfl
          rw [e] at hd5
          refine ⟨D3, _, rfl, .inl ⟨SqL.of hd5, fun t ht => ?_⟩⟩
          have s6 : Same H4 (upd H5 t (.tup ((rs.map fun r => r.getD i 0).map V.int))) := same_two s5 ht
          have hd6 := s6 _ _ hd2
          have D2t : ∀ a ∈ ts, a ≠ D2 := fun a ha z => by
            obtain ⟨r, _, e⟩ := ho2.mem a ha
            rw [z, hd2] at e
            cases e
          have tD2 : t ≠ D2 := fun z => by rw [z] at ht; rw [s5 _ _ hd2] at ht; cases ht
          refine ⟨_, hd6, by rw [List.length_map, sizeLine_eq]; omega, ?_, ?_, ts ++ [t], tb ++ [rs.map fun r => r.getD i 0], by rw [List.length_append, hlt] <;> rfl, by rw [upd_same, List.map_append] <;> rfl, ?_, ?_⟩
          · exact (hD4'.keep fun o e => s6 _ _ e).keep fun o e => by rw [upd_ne (Ne.symm D2p)]; exact e
          · exact but_at (hB4.trans (But.ofSame s6)) hD4
          · refine Objs.snoc (ho2.to fun a ha r e => by rw [upd_ne (D2t a ha)]; exact s6 _ _ e) (by rw [upd_ne tD2, upd_same])
          · intro r hr
            rcases List.mem_append.mp hr with z | z
            · exact hr3 r z
            · rw [List.mem_singleton.mp z]
              refine ⟨by rw [List.length_map, hrl], fun j hj => ?_⟩
              obtain ⟨r', hr', rfl⟩ := List.mem_map.mp hj
              obtain ⟨e1, e2⟩ := hr2 r' hr'
              have hii : i < r'.length := by omega
              rw [List.getD_eq_getElem?_getD, List.getElem?_eq_getElem hii]
              exact e2 _ (List.getElem_mem hii)
      · rintro H4 ⟨hD4', hB4, ts, tb, hlt, hd2, ho2, hr3⟩
        exact k D2 tb H4 nD2 D2p hD4' (hB3.trans hB4) ⟨ts, hd2, ho2⟩ ⟨by rw [← ho2.len, hlt]; omega, hr3⟩
end
end WK
set_option Elab.async false
set_option linter.all false
set_option maxRecDepth 100000
set_option maxHeartbeats 8000000
namespace WK
open PySem L2 PyProof.Rows LCX
open PySem.W (Frag kitOne)
abbrev sMInit : Stmt := inClass (top 41) 0
/-- its fields -/
def mfl (lt tb en : V) : List (Str × V) := [("_table", tb), ("_letters", lt), ("_ends", en)]
theorem put2 (l t : V) : putF "_letters" l (putF "_table" t []) = ([("_table", t), ("_letters", l)] : List (Str × V)) := by
  show (if ("_table" : Str) = "_letters" then [(("_table" : Str), l)] else (("_table" : Str), t) :: putF "_letters" l []) = ([("_table", t), ("_letters", l)] : List (Str × V))
  rw [if_neg (by decide +kernel)]
  all_goals rfl
theorem put3 (l t e : V) : putF "_ends" e ([("_table", t), ("_letters", l)] : List (Str × V)) = mfl l t e := by
  show (if ("_table" : Str) = "_ends" then [(("_table" : Str), e), ("_letters", l)] else (("_table" : Str), t) :: (if ("_letters" : Str) = "_ends" then [(("_letters" : Str), e)] else (("_letters" : Str), l) :: putF "_ends" e [])) = mfl l t e
  rw [if_neg (by decide +kernel), if_neg (by decide +kernel)]
  all_goals rfl
theorem sq_ins {K : Frag} {H : Hp} {a p C dx : Addr} {xs : List V} {fs : List (Str × V)} {o : HO} (h : SqT K H a xs) (hp : H p = some (.ins C dx fs)) : SqT K (upd H p o) a xs := by
  rcases h with h | h
  · rcases h with h | ⟨ob, h⟩
    · exact .inl (.inl (by rw [upd_ne (ne_of h hp (fun z => nomatch z))]; exact h))
    · exact .inl (.inr ⟨ob, by rw [upd_ne (ne_of h hp (fun z => nomatch z))]; exact h⟩)
  · exact .inr h
theorem NT.ins {H : Hp} {v : V} {p C dx : Addr} {fs : List (Str × V)} {o : HO} (h : NT H v) (hp : H p = some (.ins C dx fs)) : NT (upd H p o) v := by
  rcases h with h | h | h | h | ⟨a, xs, h, q⟩
  · exact .inl h
  · exact .inr (.inl h)
  · exact .inr (.inr (.inl h))
  · exact .inr (.inr (.inr (.inl h)))
  · exact .inr (.inr (.inr (.inr ⟨a, xs, h, by rw [upd_ne (ne_of q hp (fun z => nomatch z))]; exact q⟩)))
theorem RowV.ins {K : Frag} {H : Hp} {v : V} {r : Option (List V)} {p C dx : Addr} {fs : List (Str × V)} {o : HO} (h : RowV K H v r) (hp : H p = some (.ins C dx fs)) : RowV K (upd H p o) v r := by
  cases r with
  | none => exact NT.ins h hp
  | some xs =>
    obtain ⟨a, e, t, l, q⟩ := h
    exact ⟨a, e, sq_ins t hp, l, q⟩
end WK
set_option Elab.async false
set_option linter.all false
set_option maxRecDepth 100000
set_option maxHeartbeats 8000000
namespace WK
open PySem L2 PyProof.Rows LCX K1
open TX (sg sigs)
open PySem.W (Frag kitOne)
/-- ascending numbers from 0 to n -/
def Asc (n : Int) (es : List Int) : Prop := Bel n es ∧ es.Pairwise (· < ·)
theorem numB_in {i m : Int} (h : 0 ≤ i ∧ i < m) : numB (.int i) 0 (m - 1) = true := by
  show (decide (0 ≤ i) && decide (i ≤ m - 1)) = true
  rw [decide_eq_true h.1, decide_eq_true (by omega)]
  rfl
theorem nums_in {is : List Int} {m : Int} (h : Bel m is) : ((is.map V.int).map fun x => numB x 0 (m - 1)).all id = true := by
  rw [List.map_map, List.all_eq_true]
  intro b hb
  obtain ⟨i, hi, rfl⟩ := List.mem_map.mp hb
  exact numB_in (h i hi)
theorem int_of (is : List Int) : (is.map V.int).map intOf = is := by
  rw [List.map_map]
  exact (List.map_congr_left fun _ _ => rfl).trans (List.map_id is)
theorem ascV_in {es : List Int} {n : Int} (h : Asc n es) : ascV (es.map V.int) n = true := by
  unfold ascV
  rw [nums_in h.1, int_of]
  exact decide_eq_true h.2
theorem rowB_in {r : List Int} {wd : Nat} {m : Int} (h1 : r.length = wd) (h2 : Bel m r) : rowB (r.map V.int) wd m = true := by
  unfold rowB
  rw [nums_in h2, decide_eq_true (by rw [List.length_map, h1])]
  rfl
abbrev rsOf (tb : List (List Int)) : List (Option (List V)) := tb.map fun r => some (r.map V.int)
theorem tabB_in {tb : List (List Int)} {wd : Nat} {n most : Int} (h : TabOk tb wd n) (h1 : 1 ≤ n) (h2 : n ≤ most) : tabB (rsOf tb) wd most = true := by
  have e : ((rsOf tb).length : Int) = n := by rw [List.length_map]; exact h.len
  unfold tabB
  rw [e, decide_eq_true h1, decide_eq_true h2]
  show ((rsOf tb).map _).all id = true
  rw [List.map_map, List.all_eq_true]
  intro b hb
  obtain ⟨r, hr, rfl⟩ := List.mem_map.mp hb
  exact rowB_in (h.row r hr).1 (h.row r hr).2
theorem rows_of {K : Frag} {H : Hp} {wd : Nat} (hw : wd ≤ 100) : ∀ {ts : List Addr} {tb : List (List Int)}, Objs oTup H ts tb → (∀ r ∈ tb, r.length = wd) → Rows K H (ts.map V.ref) (rsOf tb)
  | [], [], _, _ => trivial
  | t :: ts, r :: tb, h, k => ⟨⟨t, rfl, SqT.of h.1, by rw [List.length_map, k r (.head _)]; exact hw, fun x hx => by obtain ⟨i, _, rfl⟩ := List.mem_map.mp hx; exact .inl ⟨i, rfl⟩⟩, rows_of hw h.2 fun r hr => k r (.tail _ hr)⟩
  | [], _ :: _, h, _ => h.elim
  | _ :: _, [], h, _ => h.elim
theorem asc_from {n : Int} : ∀ (es : List Int) (a : Int), a ≤ n → (∀ i ∈ es, a ≤ i ∧ i < n) → es.Pairwise (· < ·) → (es.length : Int) ≤ n - a
  | [], _, h, _, _ => by
    show (0 : Int) ≤ _
    omega
  | e :: es, a, _, hb, hp => by
    obtain ⟨h1, h2⟩ := List.pairwise_cons.mp hp
    have he := hb e (.head _)
    have := asc_from es (e + 1) (by omega) (fun i hi => ⟨h1 i hi, (hb i (.tail _ hi)).2⟩) h2
    rw [List.length_cons]
    omega
theorem asc_len {n : Int} {es : List Int} (h : Asc n es) (h0 : 0 ≤ n) : (es.length : Int) ≤ n := by
  have := asc_from es 0 h0 h.1 h.2
  omega
/-- a machine stands at o -/
structure MacAt (C : Addr) (H : Hp) (o : Addr) (L : W) (tb : List (List Int)) (es : List Int) : Prop where
  ex : ∃ (dx t e : Addr) (ts : List Addr), H o = some (.ins C dx (mfl (.str (tx L)) (.ref t) (.ref e))) ∧ H t = some (.tup (ts.map V.ref)) ∧ Objs oTup H ts tb ∧ H e = some (.tup (es.map V.int))
theorem MacAt.same {C : Addr} {H H' : Hp} {o : Addr} {L : W} {tb : List (List Int)} {es : List Int} (h : MacAt C H o L tb es) (s : Same H H') : MacAt C H' o L tb es := by
  obtain ⟨dx, t, e, ts, h1, h2, h3, h4⟩ := h.ex
  exact ⟨dx, t, e, ts, s _ _ h1, s _ _ h2, h3.to fun a _ r z => s _ _ z, s _ _ h4⟩
end WK
set_option Elab.async false
set_option linter.all false
set_option maxRecDepth 100000
set_option maxHeartbeats 6000000
namespace FV
open PySem PySem.Spec PyProof.Rows L2 LamX NdefX
/-- the very object o stands at c -/
def Fix (c : Addr) (o : Obj) : HO := .ext fun h => h.get? c = some o
abbrev Cs := List (Addr × Obj)
def Lay (cs : Cs) (H : Hp) : Prop := ∀ p ∈ cs, H p.1 = some (Fix p.1 p.2)
def off (cs : Cs) (H : Hp) : Hp := fun b => if b ∈ cs.map (·.1) then none else H b
def onn (cs : Cs) (H : Hp) : Hp := cs.foldr (fun p G => upd G p.1 (Fix p.1 p.2)) H
theorem off_in {cs : Cs} {H : Hp} {b : Addr} (h : b ∈ cs.map (·.1)) : off cs H b = none := if_pos h
theorem off_out {cs : Cs} {H : Hp} {b : Addr} (h : b ∉ cs.map (·.1)) : off cs H b = H b := if_neg h
theorem onn_out {H : Hp} {b : Addr} : ∀ {cs : Cs}, b ∉ cs.map (·.1) → onn cs H b = H b
  | [], _ => rfl
  | p :: cs, h => by
    show upd (onn cs H) p.1 _ b = _
    rw [upd_ne fun (z : b = p.1) => h (List.mem_map.mpr ⟨p, List.mem_cons_self, z.symm⟩)]
    exact onn_out fun z => h (List.mem_cons_of_mem _ z)
theorem onn_lay {H : Hp} : ∀ {cs : Cs}, (cs.map (·.1)).Nodup → Lay cs (onn cs H)
  | [], _, _, hp => (List.not_mem_nil hp).elim
  | q :: cs, nd, p, hp => by
    obtain ⟨h1, h2⟩ := List.nodup_cons.mp nd
    show upd (onn cs H) q.1 _ p.1 = _
    rcases List.mem_cons.mp hp with rfl | z
    · exact upd_same
    · rw [upd_ne fun (e : p.1 = q.1) => h1 (List.mem_map.mpr ⟨p, z, e⟩)]
      exact onn_lay h2 p z
theorem lay_none {cs : Cs} {H : Hp} (l : Lay cs H) {b : Addr} (h : H b = none) : b ∉ cs.map (·.1) := fun z => by
  obtain ⟨p, hp, rfl⟩ := List.mem_map.mp z
  rw [l p hp] at h
  cases h
theorem lay_not {cs : Cs} {H : Hp} (l : Lay cs H) {b : Addr} {o : HO} (h : H b = some o) (n : ∀ φ, o ≠ .ext φ) : b ∉ cs.map (·.1) := fun z => by
  obtain ⟨p, hp, rfl⟩ := List.mem_map.mp z
  rw [l p hp] at h
  exact n _ (Option.some.inj h).symm
theorem Lay.same {cs : Cs} {H H' : Hp} (l : Lay cs H) (s : ∀ b o, H b = some o → (∀ ps, o ≠ .tbl ps) → H' b = some o) : Lay cs H' := fun p hp => s _ _ (l p hp) fun _ z => nomatch z
section
variable {P : Program} {w : World} {H H' : Hp} {h h' : Heap} {cs : Cs} {fs : List Addr}
theorem lay_at (ok : HOk P w H h) (l : Lay cs H) : ∀ p ∈ cs, h.get? p.1 = some p.2 := fun p hp => (ok p.1 _ (l p hp)).1
theorem hok_off (ok : HOk P w H h) (l : Lay cs H) : HOk P w (off cs H) h := fun b u e => by
  have nb : b ∉ cs.map (·.1) := fun z => by rw [off_in z] at e; cases e
  rw [off_out nb] at e
  exact (ok b u e).stay (fun _ _ _ q => q) (fun d q => by rw [off_out (lay_not l q fun _ z => nomatch z)]; exact q) fun d xs q => by rw [off_out (lay_not l q fun _ z => nomatch z)]; exact q
theorem hok_on (ok : HOk P w H h) (nd : (cs.map (·.1)).Nodup) (n : ∀ p ∈ cs, H p.1 = none) (at_ : ∀ p ∈ cs, h.get? p.1 = some p.2) : HOk P w (onn cs H) h := fun b u e => by
  have out : ∀ {d : Addr} {o : HO}, H d = some o → d ∉ cs.map (·.1) := fun {d o} q z => by
    obtain ⟨p, hp, rfl⟩ := List.mem_map.mp z
    rw [n p hp] at q
    cases q
  by_cases hb : b ∈ cs.map (·.1)
  · obtain ⟨p, hp, rfl⟩ := List.mem_map.mp hb
    rw [onn_lay nd p hp] at e
    cases e
    exact ⟨at_ p hp, ⟨_, at_ p hp⟩, fun _ _ a k => k _ a⟩
  · rw [onn_out hb] at e
    exact (ok b u e).stay (fun _ _ _ q => q) (fun d q => by rw [onn_out (out q)]; exact q) fun d xs q => by rw [onn_out (out q)]; exact q
/-- what a call left of the heap without the cells, told with them -/
theorem un_on (u : Un fs [] (off cs H) H' h h') (l : Lay cs H) : Un fs [] H (onn cs H') h h' where
  keep := fun b o e n hb hx => u.keep b o e (by rw [off_out (lay_none l n)]; exact n) hb hx
  slot := fun b o e n hb hx => u.slot b o e (by rw [off_out (lay_none l n)]; exact n) hb hx
  free := fun b o e n hx => by
    rw [onn_out (lay_none l n)]
    exact u.free b o e (by rw [off_out (lay_none l n)]; exact n) hx
  there := u.there
  tups := fun b xs e => by
    have nb := lay_not l e fun _ z => nomatch z
    rw [onn_out nb]
    exact u.tups b xs (by rw [off_out nb]; exact e)
  frzs := fun b o v e => by
    have nb := lay_not l e fun _ z => nomatch z
    rw [onn_out nb]
    exact u.frzs b o v (by rw [off_out nb]; exact e)
  tbls := fun b ps e => by
    have nb := lay_not l e fun _ z => nomatch z
    obtain ⟨more, q⟩ := u.tbls b ps (by rw [off_out nb]; exact e)
    exact ⟨more, by rw [onn_out nb]; exact q⟩
/-- what a call that was told of the cells left, told without them -/
theorem un_off (u : Un fs [] (onn cs H) H' h h') (nd : (cs.map (·.1)).Nodup) (n : ∀ p ∈ cs, H p.1 = none) (at_ : ∀ p ∈ cs, h.get? p.1 = some p.2) (ok : HOk P w H' h') (l : Lay cs H') : Un fs [] H (off cs H') h h' := by
  have out : ∀ {d : Addr} {o : HO}, H d = some o → d ∉ cs.map (·.1) := fun {d o} q z => by
    obtain ⟨p, hp, rfl⟩ := List.mem_map.mp z
    rw [n p hp] at q
    cases q
  refine ⟨fun b o e nb hb hx => ?_, fun b o e nb hb hx => ?_, fun b o e nb hx => ?_, u.there, fun b xs e => ?_, fun b o v e => ?_, fun b ps e => ?_⟩
  · by_cases hc : b ∈ cs.map (·.1)
    · obtain ⟨p, hp, rfl⟩ := List.mem_map.mp hc
      rw [lay_at ok l p hp, ← e, at_ p hp]
    · exact u.keep b o e (by rw [onn_out hc]; exact nb) hb hx
  · by_cases hc : b ∈ cs.map (·.1)
    · obtain ⟨p, hp, rfl⟩ := List.mem_map.mp hc
      exact ⟨o.slots, by rw [lay_at ok l p hp, ← at_ p hp, e]⟩
    · exact u.slot b o e (by rw [onn_out hc]; exact nb) hb hx
  · by_cases hc : b ∈ cs.map (·.1)
    · exact off_in hc
    · rw [off_out hc]
      exact u.free b o e (by rw [onn_out hc]; exact nb) hx
  · rw [off_out fun z => by obtain ⟨p, hp, rfl⟩ := List.mem_map.mp z; have := u.tups p.1 xs (by rw [onn_out (out e)]; exact e); rw [l p hp] at this; cases this]
    exact u.tups b xs (by rw [onn_out (out e)]; exact e)
  · rw [off_out fun z => by obtain ⟨p, hp, rfl⟩ := List.mem_map.mp z; have := u.frzs p.1 o v (by rw [onn_out (out e)]; exact e); rw [l p hp] at this; cases this]
    exact u.frzs b o v (by rw [onn_out (out e)]; exact e)
  · obtain ⟨more, q⟩ := u.tbls b ps (by rw [onn_out (out e)]; exact e)
    exact ⟨more, by rw [off_out (lay_not l q fun _ z => nomatch z)]; exact q⟩
end
/-- the closure cl has the names fr, at these cells with these values -/
structure Fits (cl : List (Str × Addr)) (fr : List Str) (cs : Cs) (vals : List V) : Prop where
  len : cs.length = fr.length
  lenV : vals.length = fr.length
  at_ : ∀ (i : Nat) (y : Str) (p : Addr × Obj), fr[i]? = some y → cs[i]? = some p → cl.lookup y = some p.1
  only : ∀ (y : Str) (c : Addr), cl.lookup y = some c → y ∈ fr
  nd : (cs.map (·.1)).Nodup
  val : ∀ (i : Nat) (p : Addr × Obj) (v : V), cs[i]? = some p → vals[i]? = some v → ∃ u, RelV v u ∧ p.2.data = .cell (some u)
theorem nodup_at {α : Type} {l : List α} (nd : l.Nodup) {i j : Nat} {x : α} (a : l[i]? = some x) (b : l[j]? = some x) : i = j := by
  obtain ⟨h1, e1⟩ := List.getElem?_eq_some_iff.mp a
  obtain ⟨h2, e2⟩ := List.getElem?_eq_some_iff.mp b
  exact (List.getElem_inj nd).mp (e1.trans e2.symm)
theorem Fits.mem {cl : List (Str × Addr)} {fr : List Str} {cs : Cs} {vals : List V} (F : Fits cl fr cs vals) {y : Str} {c : Addr} (e : cl.lookup y = some c) : ∃ (i : Nat) (p : Addr × Obj), fr[i]? = some y ∧ cs[i]? = some p ∧ p.1 = c := by
  obtain ⟨i, hi⟩ := List.mem_iff_getElem?.mp (F.only y c e)
  have hl : i < cs.length := by rw [F.len]; exact (List.getElem?_eq_some_iff.mp hi).1
  refine ⟨i, cs[i], hi, List.getElem?_eq_getElem hl, ?_⟩
  have := F.at_ i y cs[i] hi (List.getElem?_eq_getElem hl)
  rw [e] at this
  exact (Option.some.inj this).symm
theorem Fits.cells {P : Program} {w : World} {cl : List (Str × Addr)} {fr : List Str} {cs : Cs} {vals : List V} {H : Hp} {h : Heap} (F : Fits cl fr cs vals) (ok : HOk P w H h) (l : Lay cs H) : CellsAt cl fr (vals.map some) h (off cs H) := by
  have cell : ∀ (i : Nat) (p : Addr × Obj), cs[i]? = some p → ∃ v u, vals[i]? = some v ∧ RelV v u ∧ h.IsCell p.1 (some u) := fun i p hp => by
    have hl : i < vals.length := by rw [F.lenV, ← F.len]; exact (List.getElem?_eq_some_iff.mp hp).1
    obtain ⟨u, r, d⟩ := F.val i p vals[i] hp (List.getElem?_eq_getElem hl)
    exact ⟨vals[i], u, List.getElem?_eq_getElem hl, r, p.2, lay_at ok l p (List.mem_of_getElem? hp), d⟩
  refine ⟨by rw [List.length_map]; exact F.lenV, fun y c e => ?_, fun x y c e1 e2 => ?_, fun i y e => ?_⟩
  · obtain ⟨i, p, _, hp, rfl⟩ := F.mem e
    obtain ⟨v, u, _, _, z⟩ := cell i p hp
    exact ⟨off_in (List.mem_map.mpr ⟨p, List.mem_of_getElem? hp, rfl⟩), _, z⟩
  · obtain ⟨i, p, hi, hp, rfl⟩ := F.mem e1
    obtain ⟨j, q, hj, hq, e⟩ := F.mem e2
    have : i = j := nodup_at F.nd (x := p.1) (by rw [List.getElem?_map, hp] <;> rfl) (by rw [List.getElem?_map, hq, ← e] <;> rfl)
    rw [this, hj] at hi
    exact (Option.some.inj hi).symm
  · have hl : i < cs.length := by rw [F.len]; exact (List.getElem?_eq_some_iff.mp e).1
    obtain ⟨v, u, hv, r, z⟩ := cell i cs[i] (List.getElem?_eq_getElem hl)
    refine ⟨cs[i].1, F.at_ i y cs[i] e (List.getElem?_eq_getElem hl), fun v' hv' => ?_⟩
    rw [List.getElem?_map, hv] at hv'
    cases hv'
    exact ⟨u, r, z⟩
/-- the function at f may be called wherever G holds of the heap -/
structure CallV (P : Program) (w : World) (K : PySem.W.Frag) (mg : Str → Option Value) (base : Heap) (CX : CXT) (k : Nat) (f : Addr) (G : Hp → Prop) (sp : Sp) : Prop where
  fn : ∀ {H : Hp} {h : Heap}, HOk P w H h → G H → PySem.W.FnAt f h
  run : ∀ (A : Around) (outer : List Env) (s : Shared) (H : Hp) (us : List Value) (vs : List V) (Q : VK) (E : XK), Room k A → Env0 P w K mg base A outer s H → G H → Vals vs us → sp vs H Q E → codeAny (model P w) A (.call (.ref f) ⟨us, []⟩) (CR CX outer P w H s Q E) s
theorem CallV.mono {P : Program} {w : World} {K : PySem.W.Frag} {mg : Str → Option Value} {base : Heap} {CX : CXT} {j k : Nat} {f : Addr} {G : Hp → Prop} {sp : Sp} (c : CallV P w K mg base CX j f G sp) (h : j ≤ k) : CallV P w K mg base CX k f G sp :=
  ⟨c.fn, fun A outer s H us vs Q E hr => c.run A outer s H us vs Q E (hr.mono h)⟩
theorem CallV.imp {P : Program} {w : World} {K : PySem.W.Frag} {mg : Str → Option Value} {base : Heap} {CX : CXT} {k : Nat} {f : Addr} {G G' : Hp → Prop} {sp sp' : Sp} (c : CallV P w K mg base CX k f G sp) (hG : ∀ H, G' H → G H) (h : ∀ vs H Q E, G' H → sp' vs H Q E → sp vs H Q E) : CallV P w K mg base CX k f G' sp' :=
  ⟨fun ok g => c.fn ok (hG _ g), fun A outer s H us vs Q E hr e0 g r q => c.run A outer s H us vs Q E hr e0 (hG _ g) r (h _ _ _ _ g q)⟩
/-- an exception that leaves a call, told without the cells and with them -/
def CXOn (P : Program) (w : World) (CX : CXT) : Prop := ∀ (cs : Cs) (outer : List Env) (s : Shared) (H : Hp) (E : XK) (e : Value) (s' : Shared), (cs.map (·.1)).Nodup → Lay cs H → HOk P w H s.heap → (∀ b ∈ frs outer, H b = none) → CX outer (off cs H) s (fun cls d H' => E cls d (onn cs H')) e s' → CX outer H s E e s'
theorem cxon_0 {P : Program} {w : World} : CXOn P w L2.CX0 := fun _ _ _ _ _ _ _ _ _ _ _ z => z
section
variable {P : Program} {w : World} {K : PySem.W.Frag} {mg : Str → Option Value} {base : Heap} {CX : CXT} {A : Around} {outer : List Env} {s s' : Shared} {H : Hp} {cs : Cs} {Q : VK} {u : Value}
theorem env0_off (e0 : Env0 P w K mg base A outer s H) (l : Lay cs H) : Env0 P w K mg base A outer s (off cs H) :=
  have n : ∀ {b : Addr}, H b = none → off cs H b = none := fun {b} h => by rw [off_out (lay_none l h)]; exact h
  ⟨e0.frames, e0.mod, fun b o e => ⟨(e0.bs b o e).1, n (e0.bs b o e).2⟩, e0.bsz, e0.funs, fun b hb => n (e0.frf b hb), hok_off e0.hok l, e0.bare⟩
theorem ce_on (e0 : Env0 P w K mg base A outer s H) (nd : (cs.map (·.1)).Nodup) (l : Lay cs H) (h : CE outer P w (off cs H) s (fun v H' => (∀ p ∈ cs, H' p.1 = none) → Q v (onn cs H')) u s') : CE outer P w H s Q u s' := by
  obtain ⟨v, H', os, bare, un, ok, r, q⟩ := h
  have kept : ∀ p ∈ cs, s'.heap.get? p.1 = some p.2 ∧ H' p.1 = none := fun p hp => by
    have e := lay_at e0.hok l p hp
    have n : off cs H p.1 = none := off_in (List.mem_map.mpr ⟨p, hp, rfl⟩)
    refine ⟨un.keep p.1 p.2 e n (fun z => ?_) List.not_mem_nil, un.free p.1 p.2 e n List.not_mem_nil⟩
    have := e0.frf p.1 z
    rw [l p hp] at this
    cases this
  exact ⟨v, onn cs H', os, bare, un_on un l, hok_on ok nd (fun p hp => (kept p hp).2) fun p hp => (kept p hp).1, r, q fun p hp => (kept p hp).2⟩
theorem cr_on (hx : CXOn P w CX) (e0 : Env0 P w K mg base A outer s H) (nd : (cs.map (·.1)).Nodup) (l : Lay cs H) {r : Result} {E : XK} (h : CR CX outer P w (off cs H) s (fun v H' => (∀ p ∈ cs, H' p.1 = none) → Q v (onn cs H')) (fun cls d H' => E cls d (onn cs H')) r s') : CR CX outer P w H s Q E r s' := by
  cases r with
  | error e => exact hx cs outer s H E e s' nd l e0.hok e0.frf h
  | ok fl =>
    cases fl with
    | ret u => exact ce_on e0 nd l h
    | next => exact False.elim h
    | brk => exact False.elim h
    | cont => exact False.elim h
/-- a nested def as a value -/
theorem callV_nok {k : Nat} {f : Addr} {F : NF} {ps fr : List Str} {sp : List (Option V) → Sp} {vals : List V} (o : NOk P w K mg base CX k f F ps fr sp) (hx : CXOn P w CX) (ft : Fits F.cl fr cs vals) :
    CallV P w K mg base CX k f (fun H => H f = some (FnO f F) ∧ H F.c = some (CodeO F.c F.qual) ∧ Lay cs H) (fun vs H Q E => sp (vals.map some) vs (off cs H) (fun v H' => (∀ p ∈ cs, H' p.1 = none) → Q v (onn cs H')) (fun cls d H' => E cls d (onn cs H'))) := by
  have cellv : ∀ p ∈ cs, ∃ u, p.2.data = .cell (some u) := fun p hp => by
    obtain ⟨i, hi⟩ := List.mem_iff_getElem?.mp hp
    have hl : i < vals.length := by rw [ft.lenV, ← ft.len]; exact (List.getElem?_eq_some_iff.mp hi).1
    obtain ⟨u, _, d⟩ := ft.val i p vals[i] hi (List.getElem?_eq_getElem hl)
    exact ⟨u, d⟩
  refine ⟨fun ok g => ?_, fun A outer s H us vs Q E hr e0 ⟨g1, g2, l⟩ r q => ?_⟩
  · obtain ⟨od, sl, doc, pm, ctv, ho⟩ := fnO_at ok g.1
    exact ⟨_, od, _, sl, ho⟩
  · have n1 : f ∉ cs.map (·.1) := fun z => by
      obtain ⟨p, hp, e⟩ := List.mem_map.mp z
      obtain ⟨od, sl, doc, pm, ctv, ho⟩ := fnO_at e0.hok g1
      obtain ⟨u, d⟩ := cellv p hp
      have := lay_at e0.hok l p hp
      rw [e, ho] at this
      rw [← Option.some.inj this] at d
      cases d
    have n2 : F.c ∉ cs.map (·.1) := fun z => by
      obtain ⟨p, hp, e⟩ := List.mem_map.mp z
      obtain ⟨oc, vs2, t, h1, h2, _⟩ := (e0.hok F.c _ g2).1
      obtain ⟨u, d⟩ := cellv p hp
      have := lay_at e0.hok l p hp
      rw [e, h1] at this
      rw [← Option.some.inj this, h2] at d
      cases d
    refine codeAny_mono (o.run A outer s (off cs H) us vs _ _ _ hr (env0_off e0 l) (by rw [off_out n1]; exact g1) (by rw [off_out n2]; exact g2) (ft.cells e0.hok l) r q) fun r s' h => cr_on hx e0 ft.nd l h
end
end FV
set_option Elab.async false
set_option linter.all false
set_option maxRecDepth 100000
set_option maxHeartbeats 6000000
namespace FV
open PySem PySem.Spec PyProof.Rows L2 LamX NdefX
/-- x(e, ..), x a name of the running frame that holds a function -/
def tCallV (P : Program) (w : World) (K : PySem.W.Frag) (mg : Str → Option Value) (base : Heap) (CX : CXT) (k i : Nat) (E : XK) (t : TA) : TE := fun σ H Q => ∃ f G sp, σ[i]? = some (some (.ref f)) ∧ CallV P w K mg base CX k f G sp ∧ G H ∧ t σ H fun vs H1 => G H1 ∧ sp vs H1 Q E
section
variable {X : Cx} {CX : CXT} {k i : Nat} {x : Str} {E : XK} {t : TA} {e : Expr} {es : List Expr} {p pos : Pos}
theorem run_v {f : Addr} {G : Hp → Prop} {sp : Sp} {pins : List (Addr × Obj)} {σ : L2.St} {H : Hp} {s : Shared} {Q : VK} {us : List Value} {vs : List V} (c : CallV X.prog X.w X.K X.mg X.base CX k f G sp) (hr : Room k X.A) (hx : Passes CX X E) (I : Inv X pins σ H s) (g : G H) (r : Vals vs us) (q : sp vs H Q E) :
    wpAny (model X.prog X.w) X.A (call (.ref f) us) (EP X pins σ Q) X.xe s :=
  wpAny_call (codeAny_mono (c.run X.A X.stack s H us vs Q E hr I.env0 g r q) fun r s' h => match r, h with
    | .error e, h => hx pins σ H s e s' I h
    | .ok (.ret _), h => I.after h
    | .ok .next, h => h.elim
    | .ok .brk, h => h.elim
    | .ok .cont, h => h.elim)
theorem pe_callV (hr : Room k X.A) (hx : Passes CX X E) (hN : X.N[i]? = some x) (hv : Vis X.env.scope x) (ha : PA X (e :: es) t) (hd : (x == ("__debug__" : Str)) = false := by decide) (hcd : (x == ("__classdict__" : Str)) = false := by decide)
    (he : starEach (e :: es) X.env = (false, eval e X.env) :: starEach es X.env := by rfl) (hpl : (backTo pos (starEach es X.env)).any (·.1) = false := by rfl) : PE X (.Call (.Name x p) (e :: es) [] pos) (tCallV X.prog X.w X.K X.mg X.base CX k i E t) := by
  refine ⟨fun pins s σ H Q I ⟨f, G, sp, hs, c, g, ht⟩ => ?_⟩
  refine wpAny_Call_Name_kw (thn ((pe_var (pos := p) hN hv hd hcd).run pins s σ H (fun v H1 => v = .ref f ∧ H1 = H) I ⟨_, hs, rfl, rfl⟩) fun u s1 ⟨v, H1, I1, r1, ev, eH⟩ => ?_)
  subst ev
  subst eH
  cases (show u = Value.ref f from r1)
  exact PySem.W.callWith_F (first := []) (c.fn I1.hok g) (thn (ha.run pos pins s1 σ _ _ I1 ht) fun us s2 ⟨vs, H2, I2, r, g2, q⟩ => ⟨c.fn I2.hok g2, run_v c hr hx I2 g2 r q⟩) he hpl
end
section
variable {X : Cx} {σ : L2.St} {H : Hp} {s : Shared} {pins : List (Addr × Obj)} {cs : Cs}
theorem env0_on (I : Inv X pins σ H s) (nd : (cs.map (·.1)).Nodup) (n : ∀ p ∈ cs, H p.1 = none) (at_ : ∀ p ∈ cs, s.heap.get? p.1 = some p.2) (young : ∀ p ∈ cs, X.s_0.heap.objs.size ≤ p.1 ∧ p.1 ≠ X.env.locals) : Env0 X.prog X.w X.K X.mg X.base X.A X.stack s (onn cs H) := by
  have e := I.env0
  have out : ∀ {b : Addr}, b < X.s_0.heap.objs.size → b ∉ cs.map (·.1) := fun {b} lt z => by
    obtain ⟨p, hp, rfl⟩ := List.mem_map.mp z
    exact absurd lt (Nat.not_lt.mpr (young p hp).1)
  refine ⟨e.frames, e.mod, fun b o eb => ⟨(e.bs b o eb).1, ?_⟩, e.bsz, e.funs, fun b hb => ?_, hok_on I.hok nd n at_, e.bare⟩
  · rw [onn_out (out (Nat.lt_of_lt_of_le (Heap.lt_size eb) I.ok.bsz))]
    exact (e.bs b o eb).2
  · have nb : b ∉ cs.map (·.1) := by
      rcases List.mem_cons.mp (I.stkSub b hb) with z | z
      · intro y
        obtain ⟨p, hp, e2⟩ := List.mem_map.mp y
        exact (young p hp).2 (e2.trans z)
      · obtain ⟨_, o, ho, _⟩ := I.ok.funs.mem z
        exact out (Heap.lt_size ho)
    rw [onn_out nb]
    exact e.frf b hb
/-- the running frame's cells, as they stand -/
theorem fits_of {cl : List (Str × Addr)} {fr : List Str} {js : List Nat} {vals : List V} (I : Inv X pins σ H s) (cp : Caps X cl fr js) (only : ∀ (y : Str) (c : Addr), cl.lookup y = some c → y ∈ fr) (nd : fr.Nodup) (hv : js.map (fun j => σ[j]?) = vals.map fun v => some (some v)) :
    ∃ cs, Fits cl fr cs vals ∧ (∀ p ∈ cs, H p.1 = none ∧ s.heap.get? p.1 = some p.2 ∧ ∃ y ∈ fr, X.env.cells.lookup y = some p.1) := by
  have C := cells_of I cp
  have lenJ : js.length = fr.length := by
    have := congrArg List.length cp.at_
    rw [List.length_map, List.length_map] at this
    exact this
  have lenV : vals.length = fr.length := by
    have := congrArg List.length hv
    rw [List.length_map, List.length_map] at this
    omega
  have each : ∀ i : Fin fr.length, ∃ p : Addr × Obj, cl.lookup (fr[i.1]'i.2) = some p.1 ∧ s.heap.get? p.1 = some p.2 ∧ ∃ u, RelV (vals[i.1]'(Nat.lt_of_lt_of_eq i.2 lenV.symm)) u ∧ p.2.data = .cell (some u) := fun ⟨i, hi⟩ => by
    obtain ⟨c, hc, at_⟩ := C.has i _ (List.getElem?_eq_getElem hi)
    have hj : i < js.length := Nat.lt_of_lt_of_eq hi lenJ.symm
    have hV : i < vals.length := Nat.lt_of_lt_of_eq hi lenV.symm
    have e : σ[js[i]]? = some (some vals[i]) := by
      have := congrArg (fun l => l[i]?) hv
      rw [List.getElem?_map, List.getElem?_map, List.getElem?_eq_getElem hj, List.getElem?_eq_getElem hV] at this
      exact Option.some.inj this
    obtain ⟨u, r, o, ho, d⟩ := at_ vals[i] (by rw [List.getElem?_map, List.getElem?_eq_getElem hj]; exact congrArg some (slotAt_of e))
    exact ⟨(c, o), hc, ho, u, r, d⟩
  obtain ⟨g, hg⟩ := Classical.axiomOfChoice each
  have at_ : ∀ (i : Nat) (p : Addr × Obj), (List.ofFn g)[i]? = some p → ∃ hi : i < fr.length, p = g ⟨i, hi⟩ := fun i p h => by
    obtain ⟨h1, h2⟩ := List.getElem?_eq_some_iff.mp h
    have hi : i < fr.length := by rw [List.length_ofFn] at h1; exact h1
    exact ⟨hi, by rw [← h2, List.getElem_ofFn]⟩
  refine ⟨List.ofFn g, ⟨List.length_ofFn, lenV, fun i y p hy hp => ?_, only, ?_, fun i p v hp hv2 => ?_⟩, fun p hp => ?_⟩
  · obtain ⟨hi, rfl⟩ := at_ i p hp
    have := (hg ⟨i, hi⟩).1
    rw [List.getElem?_eq_getElem hi] at hy
    rw [← Option.some.inj hy]
    exact this
  · rw [List.map_ofFn]
    refine List.pairwise_iff_getElem.mpr fun i j h1 h2 lt e => ?_
    rw [List.length_ofFn] at h1 h2
    rw [List.getElem_ofFn, List.getElem_ofFn] at e
    have e2 : (g ⟨i, h1⟩).1 = (g ⟨j, h2⟩).1 := e
    have e3 := C.inj _ _ _ (hg ⟨i, h1⟩).1 (e2 ▸ (hg ⟨j, h2⟩).1)
    have : i = j := nodup_at nd (List.getElem?_eq_getElem h1) (by rw [List.getElem?_eq_getElem h2]; exact congrArg some e3.symm)
    omega
  · obtain ⟨hi, rfl⟩ := at_ i p hp
    have hV : i < vals.length := Nat.lt_of_lt_of_eq hi lenV.symm
    rw [List.getElem?_eq_getElem hV] at hv2
    rw [← Option.some.inj hv2]
    exact (hg ⟨i, hi⟩).2.2
  · obtain ⟨i, hi⟩ := List.mem_iff_getElem?.mp hp
    obtain ⟨hj, rfl⟩ := at_ i p hi
    exact ⟨(C.all _ _ (hg ⟨i, hj⟩).1).1, (hg ⟨i, hj⟩).2.1, _, List.getElem_mem hj, cp.sub _ _ (hg ⟨i, hj⟩).1⟩
end
/-- f(e, ..) of a def of the module that is told of the running frame's cells -/
def tCallC (cl : List (Str × Addr)) (fr : List Str) (js : List Nat) (sp : Sp) (t : TA) : TE := fun σ H Q => t σ H fun vs H1 => ∃ vals : List V, js.map (fun j => σ[j]?) = vals.map (fun v => some (some v)) ∧
  ∀ cs, Fits cl fr cs vals → (∀ p ∈ cs, H1 p.1 = none) → sp vs (onn cs H1) (fun v H' => Lay cs H' ∧ Q v (off cs H')) E0
section
variable {X : Cx} {k : Nat} {f : Addr} {fd : FuncData} {ps : List Str} {sp : Sp} {x : Str} {p pos : Pos} {e : Expr} {es : List Expr} {t : TA} {cl : List (Str × Addr)} {fr : List Str} {js : List Nat}
theorem pe_callC (F : FnOk X.prog X.w X.K X.mg X.base CX0 k f fd ps sp) (hr : Room k X.A) (hg : Gl X x) (hm : X.mg x = some (.ref f)) (hk : PySem.W.keepIn X.K (.ref f) = true) (hb : Binds X.K fd ps [])
    (cp : X.Ok → Caps X cl fr js) (only : ∀ (y : Str) (c : Addr), cl.lookup y = some c → y ∈ fr) (nd : fr.Nodup) (own : ∀ y ∈ fr, X.fn y = true) (ha : PA X (e :: es) t) (hdb : (x == ("__debug__" : Str)) = false := by decide)
    (he : starEach (e :: es) X.env = (false, eval e X.env) :: starEach es X.env := by rfl) (hpl : (backTo pos (starEach es X.env)).any (·.1) = false := by rfl) : PE X (.Call (.Name x p) (e :: es) [] pos) (tCallC cl fr js sp t) := by
  refine ⟨fun pins s σ H Q I h => wpAny_Call_Name_kw (ld_glob I hg hm (PySem.W.callWith_K (h₀ := X.base) I.ok.mod.kin hk (thn (ha.run pos pins s σ H _ I h) fun us s1 ⟨vs, H1, I1, r, vals, hv, q⟩ => ⟨I1.kIn, ?_⟩) he hpl) hdb)⟩
  obtain ⟨cs, ft, hcs⟩ := fits_of I1 (cp I1.ok) only nd hv
  have none_ : ∀ p ∈ cs, H1 p.1 = none := fun p hp => (hcs p hp).1
  have at_ : ∀ p ∈ cs, s1.heap.get? p.1 = some p.2 := fun p hp => (hcs p hp).2.1
  have e0 := env0_on I1 ft.nd none_ at_ fun p hp => let ⟨y, hy, e⟩ := (hcs p hp).2.2; ⟨I1.ok.cab y p.1 (own y hy) e, I1.cne y p.1 e⟩
  have q := q cs ft none_
  have hl : us.length = ps.length := by rw [← r.length]; exact F.len _ _ _ _ q
  have hb2 := hb s1 us I1.kIn (by rw [List.append_nil]; exact hl)
  rw [List.append_nil] at hb2
  refine wpAny_call (codeAny_mono (F.run X.A X.stack s1 (onn cs H1) ⟨us, []⟩ us vs _ E0 hr e0 hb2 r q) fun r s' h => ?_)
  exact match r, h with
    | .error _, h => (show False from h).elim
    | .ok (.ret _), h => I1.after (let ⟨v, H', os, bare, un, ok, rv, l, qv⟩ := h; ⟨v, off cs H', os, bare, un_off un ft.nd none_ at_ ok l, hok_off ok l, rv, qv⟩)
    | .ok .next, h => h.elim
    | .ok .brk, h => h.elim
    | .ok .cont, h => h.elim
end
end FV
set_option Elab.async false
set_option linter.all false
set_option maxRecDepth 100000
set_option maxHeartbeats 6000000
namespace FV
open PySem PySem.Spec PyProof.Rows L2 LamX NdefX
/-- nothing that was tracked is lost, but for tables of code objects, which grow -/
def Grows (T : List (Addr × Str)) (H H1 : Hp) : Prop := ExtN H H1 ∧ Tabs T H1 ∧ ∀ d, H1 d = none → H d = none
end FV
set_option Elab.async false
set_option linter.all false
set_option maxRecDepth 100000
set_option maxHeartbeats 4000000
namespace DP
open PySem PySem.Spec PyProof.Rows L2
def tDisp1 (tk tv : TE) : TE := fun σ H Q => ∃ emp : HO, (emp = .dK [] ∨ emp = .dT []) ∧ ∀ p, H p = none → tk σ (upd H p emp) fun y H1 => tv σ H1 fun z H2 => ∃ H3, DPut H2 p y z H3 ∧ Q (.ref p) H3
section
variable {X : Cx} {pins : List (Addr × Obj)} {σ : L2.St} {H H' : Hp} {s : Shared} {a : Addr} {y v : V} {u r : Value}
/-- what a display does with a pair -/
theorem d_set {Q : Unit → Shared → Prop} (hu : X.A.units < cLine) (I : Inv X pins σ H s) (g : DPut H a y v H') (ry : RelV y u) (rv : RelV v r) (h : ∀ s', Inv X pins σ H' s' → Q () s') : wpAny (model X.prog X.w) X.A (dictSet a u r) Q X.xe s := by
  rcases g with ⟨kvs, k, e, rfl, l, rfl⟩ | ⟨kvs, k, b, e, rfl, eb, l, rfl⟩
  · obtain ⟨z, hd, vs, rel, dd⟩ := dk_of I.hok e
    have few := length_putK kvs k v
    refine wpAny_dictSet_pairs (hsz := by rw [← rel.length]; exact z) (kV_is ry) dd fun h' dd' hs => h _ ?_
    exact d_write I (by rw [e]; exact True.intro) hs (let ⟨q, _, _, hq, _⟩ := dd'; ⟨q, hq⟩) (dk_new (by omega) hd (rel.put k rv) dd')
  · cases (show u = Value.ref b from ry)
    obtain ⟨z, hd, xs, rel, dd⟩ := dt_of I.hok e
    have few := length_putK kvs k v
    refine wpAny_dictSet_heap (hsz := by rw [← Paired.length rel]; exact z) hu (key_of I.hok eb) dd fun h' ⟨q, es, ep, hq, h2, h3, h4, _, h5⟩ hs => h _ ?_
    refine d_write I (by rw [e]; exact True.intro) hs ⟨q, hq⟩ ⟨by omega, hd, _, (rel.put k eb rv).keeps fun c ys ec => ?_, q, es, ep, hq, h2, h3, h4, h5⟩
    rw [upd_ne (ne_of ec e fun z => nomatch z)]
    exact ec
end
theorem pe_disp1 {X : Cx} {k v : Expr} {tk tv : TE} {pos : Pos} (hu : X.A.units < cLine) (hk : PE X k tk) (hv : PE X v tv) : PE X (.Dict [some k] [v] pos) (tDisp1 tk tv) := by
  refine ⟨fun pins s σ H Q I ⟨emp, kind, told⟩ => ?_⟩
  have new := I.hok.fresh (Nat.le_refl s.heap.objs.size)
  have J : Inv X pins σ (upd H s.heap.objs.size emp) { s with heap := s.heap.push { cls := .type "dict", data := .dict #[] } } := by
    refine I.laid (t' := s.toks) (fun _ _ q => Heap.get?_push_of_some _ q) (Nat.le_refl _) ?_
    rcases kind with rfl | rfl
    · exact dk_empty s.heap I.big
    · exact dt_empty s.heap I.big
  refine wpAny_Dict_any rfl rfl (fun z => by cases z) (by show 1 ≤ 15; decide) (pairTrees_cons_walk ?_)
  refine thn (hk.run pins _ σ _ _ J (told _ new)) fun u s1 ⟨y, H1, I1, ry, q1⟩ => thn (hv.run pins s1 σ H1 _ I1 q1) fun r s2 ⟨z, H2, I2, rz, H3, g, q2⟩ => pairTrees_nil_walk ?_
  show wpAny _ _ (forIn [(u, r)] PUnit.unit _) _ _ s2
  rw [List.forIn_cons]
  refine wpAny_bind (wpAny_bind (d_set hu I2 g ry rz fun s3 I3 => wpAny_pure ?_))
  exact wpAny_pure ⟨.ref s.heap.objs.size, H3, I3, rfl, q2⟩
end DP
set_option Elab.async false
set_option linter.all false
set_option maxRecDepth 100000
set_option maxHeartbeats 8000000
namespace WK
open PySem L2 PyProof.Rows LCX K1 FV DP
open TX (sg sigs)
open PySem.W (Frag kitOne)
abbrev sExpl : Stmt := top 17
section
variable {α : Type} [DecidableEq α]
/-- one letter: the key behind it, and the row so far -/
def exSign (f : α → Nat → α) (key : α) (st : List α × List Int) (c : Nat) : List α × List Int :=
  if f key c ∈ st.1 then (st.1, st.2 ++ [((st.1.idxOf (f key c) : Nat) : Int)]) else (st.1 ++ [f key c], st.2 ++ [((st.1.length : Nat) : Int)])
def exAll (f : α → Nat → α) (L : W) (start : α) : Nat → List α × List (List Int)
  | 0 => ([start], [])
  | j + 1 => match (exAll f L start j).1[j]? with
    | some key => ((L.foldl (exSign f key) ((exAll f L start j).1, [])).1, (exAll f L start j).2 ++ [(L.foldl (exSign f key) ((exAll f L start j).1, [])).2])
    | none => exAll f L start j
theorem exSign_grows (f : α → Nat → α) (key : α) (st : List α × List Int) (c : Nat) : st.1 <+: (exSign f key st c).1 := by
  unfold exSign
  split
  · exact List.prefix_refl _
  · exact List.prefix_append _ _
theorem exFold_grows (f : α → Nat → α) (key : α) : ∀ (l : W) (st : List α × List Int), st.1 <+: (l.foldl (exSign f key) st).1
  | [], _ => List.prefix_refl _
  | c :: l, st => (exSign_grows f key st c).trans (exFold_grows f key l _)
theorem exAll_at {f : α → Nat → α} {L : W} {start : α} {j : Nat} {key : α} (h : (exAll f L start j).1[j]? = some key) :
    exAll f L start (j + 1) = ((L.foldl (exSign f key) ((exAll f L start j).1, [])).1, (exAll f L start j).2 ++ [(L.foldl (exSign f key) ((exAll f L start j).1, [])).2]) := by
  show (match (exAll f L start j).1[j]? with | some key => _ | none => _) = _
  rw [h]
theorem exAll_stop {f : α → Nat → α} {L : W} {start : α} {j : Nat} (h : (exAll f L start j).1.length ≤ j) : ∀ m, exAll f L start (j + m) = exAll f L start j
  | 0 => rfl
  | m + 1 => by
    have ih := exAll_stop h m
    show (match (exAll f L start (j + m)).1[j + m]? with | some key => _ | none => _) = _
    rw [List.getElem?_eq_none (by rw [ih]; omega)]
    exact ih
end
/-- how keys of a kind lie in the heap, and how a dict has their numbers -/
structure Kit (α : Type) [DecidableEq α] where
  is : Hp → V → α → Prop
  keep : ∀ {H H' : Hp} {v : V} {a : α}, is H v a → (∀ b xs, H b = some (.tup xs) → H' b = some (.tup xs)) → is H' v a
  ho : List α → HO
  kind : ∀ l, (∃ kvs, ho l = .dK kvs) ∨ ∃ kvs, ho l = .dT kvs
  emp : ho [] = .dK [] ∨ ho [] = .dT []
  get : ∀ {H : Hp} {D : Addr} {l : List α} {v : V} {a : α}, H D = some (ho l) → is H v a → DGet H D v (if a ∈ l then some (.int ((l.idxOf a : Nat) : Int)) else none)
  put : ∀ {H : Hp} {D : Addr} {l : List α} {v : V} {a : α}, H D = some (ho l) → is H v a → a ∉ l → l.length < sizeLine → DPut H D v (.int ((l.length : Nat) : Int)) (upd H D (ho (l ++ [a])))
section
variable {α : Type} [DecidableEq α] {kit : Kit α} {H H' : Hp}
def Are (kit : Kit α) (H : Hp) : List V → List α → Prop
  | [], [] => True
  | v :: vs, a :: l => kit.is H v a ∧ Are kit H vs l
  | _, _ => False
theorem Are.keep : ∀ {vs : List V} {l : List α}, Are kit H vs l → (∀ b xs, H b = some (.tup xs) → H' b = some (.tup xs)) → Are kit H' vs l
  | [], [], _, _ => trivial
  | _ :: _, _ :: _, h, k => ⟨kit.keep h.1 k, h.2.keep k⟩
  | [], _ :: _, h, _ => h.elim
  | _ :: _, [], h, _ => h.elim
theorem Are.len : ∀ {vs : List V} {l : List α}, Are kit H vs l → vs.length = l.length
  | [], [], _ => rfl
  | _ :: _, _ :: _, h => congrArg Nat.succ h.2.len
  | [], _ :: _, h => h.elim
  | _ :: _, [], h => h.elim
theorem Are.snoc {v : V} {a : α} : ∀ {vs : List V} {l : List α}, Are kit H vs l → kit.is H v a → Are kit H (vs ++ [v]) (l ++ [a])
  | [], [], _, k => ⟨k, trivial⟩
  | _ :: _, _ :: _, h, k => ⟨h.1, h.2.snoc k⟩
  | [], _ :: _, h, _ => h.elim
  | _ :: _, [], h, _ => h.elim
theorem Are.get {a : α} : ∀ {vs : List V} {l : List α} {i : Nat}, Are kit H vs l → l[i]? = some a → ∃ v, vs[i]? = some v ∧ kit.is H v a
  | v :: _, b :: _, 0, h, e => ⟨v, rfl, by cases e; exact h.1⟩
  | _ :: _, _ :: _, i + 1, h, e => h.2.get (i := i) e
  | [], [], _, _, e => by cases e
  | [], _ :: _, _, h, _ => h.elim
  | _ :: _, [], _, h, _ => h.elim
theorem Kit.not_tup (kit : Kit α) (l : List α) (xs : List V) : kit.ho l ≠ .tup xs := fun e => by
  rcases kit.kind l with ⟨k, z⟩ | ⟨k, z⟩ <;> rw [z] at e <;> cases e
end
/-- what is known of functions stays -/
def KeepsExt (H H' : Hp) : Prop := ∀ b φ, H b = some (.ext φ) → H' b = some (.ext φ)
def KeepsTup (H H' : Hp) : Prop := ∀ b xs, H b = some (.tup xs) → H' b = some (.tup xs)
theorem Same.ext' {H H' : Hp} (s : Same H H') : KeepsExt H H' := fun b _ e => s b _ e
theorem Same.tup' {H H' : Hp} (s : Same H H') : KeepsTup H H' := fun b _ e => s b _ e
theorem KeepsTup.trans {H H1 H2 : Hp} (a : KeepsTup H H1) (b : KeepsTup H1 H2) : KeepsTup H H2 := fun d xs e => b d xs (a d xs e)
theorem KeepsExt.trans {H H1 H2 : Hp} (a : KeepsExt H H1) (b : KeepsExt H1 H2) : KeepsExt H H2 := fun d xs e => b d xs (a d xs e)
theorem tup_upd {H : Hp} {a : Addr} {u o : HO} (h : H a = some u) (n : ∀ xs, u ≠ .tup xs) : KeepsTup H (upd H a o) := fun b xs e => by
  rw [upd_ne fun z => n xs (Option.some.inj (h.symm.trans (by rw [← z]; exact e)))]
  exact e
theorem objs_tup {H H' : Hp} {as : List Addr} {rs : List (List Int)} (o : Objs oTup H as rs) (k : KeepsTup H H') : Objs oTup H' as rs := o.to fun a _ r e => k a _ e
theorem idx_end {α : Type} [DecidableEq α] {a : α} : ∀ {l : List α}, a ∉ l → (l ++ [a]).idxOf a = l.length := by
  intro l h
  rw [List.idxOf_append, if_neg h, List.idxOf_cons_self]
  omega
theorem iteF' {c : Bool} {a b : Prop} (h : c = false) (k : b) : (if c = true then a else b) := by
  rw [h]
  exact k
abbrev NEx : List Str := ["signs", "start", "step", "most", "keys", "numbers", "rows", "key", "row", "sign", "after"]
section
variable {α : Type} [DecidableEq α]
def spExpl (P : Program) (w : World) (K : Frag) (mg : Str → Option Value) (base : Heap) (kit : Kit α) (kf : Nat) : Sp := fun vs H Q _ =>
  ∃ (L : W) (v0 : V) (start : α) (fa : Addr) (G : Hp → Prop) (sp : Sp) (f : α → Nat → α) (ok : α → Prop) (B : Nat), vs = [.str (tx L), v0, .ref fa, .int 400] ∧ L.length ≤ 3 ∧ kit.is H v0 start ∧ CallV P w K mg base CX0 kf fa G sp ∧ G H ∧
    (∀ H H', KeepsExt H H' → G H → G H') ∧ ok start ∧ (∀ a c, ok a → c ∈ L → ok (f a c)) ∧
    (∀ (H : Hp) (v : V) (a : α) (c : Nat) (Q : VK), G H → kit.is H v a → ok a → c ∈ L → (∀ v' H', Same H H' → kit.is H' v' (f a c) → Q v' H') → sp [v, .str (sg c)] H Q E0) ∧ (∀ j, (exAll f L start j).1.length ≤ B) ∧ B ≤ 400 ∧
    ∀ (t k r : Addr) (ts : List Addr) (vs : List V) (H' : Hp), Same H H' → H' t = some (.tup [.ref k, .ref r]) → H' k = some (.lst vs) → Are kit H' vs (exAll f L start B).1 → H' r = some (.tup (ts.map V.ref)) → Objs oTup H' ts (exAll f L start B).2 → Q (.ref t) H'
end
section
variable {α : Type} [DecidableEq α] {P : Program} {w : World} {K : PySem.W.Frag} {mg : Str → Option Value} {base : Heap} {kit : Kit α} {kf : Nat}
theorem scEx : FnScope NEx ["signs", "start", "step", "most"] (defScope sExpl) := ⟨rfl, rfl, rfl, by decide +kernel, rfl, by decide +kernel, by decide +kernel⟩
theorem ok_expl {f : Addr} {oc kV dc pm ct cd dV : Value} {an od : Option Addr} {sl : Array (Option Value)} (lk : K.lookup f = some ⟨oc, od, .func (PySem.W.fnOf "explored" "explored" (defArgs sExpl) (defBody sExpl) (defScope sExpl) dV kV dc pm an cd ct), sl⟩) (hcd : PySem.W.codeIn K cd "explored" = true) (T : TN mg) : FnOk P w K mg base CX0 (kf + 1) f (PySem.W.fnOf "explored" "explored" (defArgs sExpl) (defBody sExpl) (defScope sExpl) dV kV dc pm an cd ct) ["signs", "start", "step", "most"] (spExpl P w K mg base kit kf) := by
  refine fn_ofN lk hcd scEx (fun vs H Q E h => ?_) (fun A outer s H vs Q E hr h => ?_)
  · obtain ⟨L, v0, start, fa, G, sp, fn, ok, B, rfl, _⟩ := h
    rfl
  · obtain ⟨L, v0, start, fa, G, sp, fn, ok, B, rfl, hL, is0, cv, g0, gk, ok0, okc, hstep, hB, hB4, q⟩ := h
    have hub := hu_of hr
    refine ⟨_, pss_cons (ps_set (i := 4) scEx.nd rfl (Or.inl rfl) (pe_lst (pa_cons (pv 1) pa_nil)))
      (pss_cons (ps_set (i := 5) scEx.nd rfl (Or.inl rfl) (pe_disp1 (Nat.lt_of_succ_lt hub) (pv 1) pe_int))
      (pss_cons (ps_set (i := 6) scEx.nd rfl (Or.inl rfl) (pe_lst pa_nil))
      (pss_cons (ps_while PassesOwn.never (pt_cmpR op_lt (pe_callB call_len_seq (by rfl) T.len PySem.boot_len (pa_cons (pv 6) pa_nil)) (pe_callB call_len_seq (by rfl) T.len PySem.boot_len (pa_cons (pv 4) pa_nil)) (nomark _))
        (pss_cons (ps_set (i := 7) scEx.nd rfl (Or.inl rfl) (pe_ix ix_list (pv 4) (pe_callB call_len_seq (by rfl) T.len PySem.boot_len (pa_cons (pv 6) pa_nil)) (fun _ _ => rfl)))
        (pss_cons (ps_set (i := 8) scEx.nd rfl (Or.inl rfl) (pe_lst pa_nil))
        (pss_cons (ps_for PassesOwn.never rfl (pi_str (pv 0)) (pg_name (i := 9) scEx.nd rfl (Or.inl rfl))
          (pss_cons (ps_set (i := 10) scEx.nd rfl (Or.inl rfl) (pe_callV (i := 2) (CX := CX0) (E := E0) hr pass0 rfl (.inl rfl) (pa_cons (pv 7) (pa_cons (pv 9) pa_nil))))
          (pss_cons (ps_if (pt_cmp (pc_dnotin hub (pv 10) (pv 5)))
              (pss_cons (ps_if (pt_cmpR op_eq (pe_callB call_len_seq (by rfl) T.len PySem.boot_len (pa_cons (pv 4) pa_nil)) (pv 3) (nomark _)) (pss_one ps_never) pss_nil)
              (pss_cons (ps_dput hub (pv 5) (pv 10) (pe_callB call_len_seq (by rfl) T.len PySem.boot_len (pa_cons (pv 4) pa_nil)) rfl)
              (pss_one (ps_expr (pe_bm PySem.F.plainAttrs_list PySem.F.slot_list_append PySem.F.type_list_append mt_append (pv 4) (pa_cons (pv 10) pa_nil)))))) pss_nil)
          (pss_one (ps_expr (pe_bm PySem.F.plainAttrs_list PySem.F.slot_list_append PySem.F.type_list_append mt_append (pv 8) (pa_cons (pe_dget hub (pv 5) (pv 10) (fun _ _ => rfl)) pa_nil)))))))
        (pss_one (ps_expr (pe_bm PySem.F.plainAttrs_list PySem.F.slot_list_append PySem.F.type_list_append mt_append (pv 6) (pa_cons (pe_callTy call_tuple_of (by rfl) T.tuple (by decide +kernel) (pa_cons (pv 8) pa_nil)) pa_nil))))))))
      (pss_one (ps_ret (pe_tup (pa_cons (pv 4) (pa_cons (pe_callTy call_tuple_of (by rfl) T.tuple (by decide +kernel) (pa_cons (pv 6) pa_nil)) pa_nil)))))))), ?_⟩
    generalize hst : exAll fn L start = st at hB q
    have hz : st 0 = ([start], []) := by rw [← hst] <;> rfl
    have hnx : ∀ (j : Nat) (key : α), (st j).1[j]? = some key → st (j + 1) = ((L.foldl (exSign fn key) ((st j).1, [])).1, (st j).2 ++ [(L.foldl (exSign fn key) ((st j).1, [])).2]) := by
      intro j key e
      have e2 := exAll_at (f := fn) (L := L) (start := start) (j := j) (by rw [hst]; exact e)
      rw [hst] at e2
      exact e2
    have hsp : ∀ (j m : Nat), (st j).1.length ≤ j → st (j + m) = st j := by
      intro j m h
      rw [← hst] at h ⊢
      exact exAll_stop h m
    have hgr : ∀ (j i : Nat) (key : α), (st j).1[j]? = some key → ((L.take i).foldl (exSign fn key) ((st j).1, [])).1.length ≤ B := by
      intro j i key e
      have h2 := hB (j + 1)
      rw [hnx j key e] at h2
      have h3 := exFold_grows fn key (L.drop i) ((L.take i).foldl (exSign fn key) ((st j).1, []))
      rw [← List.foldl_append, List.take_append_drop] at h3
      exact Nat.le_trans h3.length_le h2
    have B1 : 1 ≤ B := by have := hB 0; rw [hz] at this; exact this
    refine ⟨_, rfl, (by show 1 ≤ sizeLine; decide), fun M hM => ?_⟩
    refine ⟨kit.ho [], kit.emp, fun D hD => ⟨_, rfl, _, kit.put (l := []) upd_same (kit.keep is0 (fun b xs e => (same_two (same_upd hM) hD) _ _ e)) List.not_mem_nil (by show 0 < sizeLine; decide), ?_⟩⟩
    rw [upd_upd]
    have nD : H D = none := (same_upd hM).free hD
    have nMD : M ≠ D := fun z => by rw [← z, upd_same] at hD; cases hD
    refine ⟨by show 0 ≤ sizeLine; decide, fun R hR => ?_⟩
    have s0 : Same H (upd (upd (upd H M (.lst [v0])) D (kit.ho [start])) R (.lst [])) := same_two (same_two (same_upd hM) hD) hR
    have nMR : M ≠ R := fun z => by rw [← z, upd_ne nMD, upd_same] at hR; cases hR
    have nDR : D ≠ R := fun z => by rw [← z, upd_same] at hR; cases hR
    have nR : H R = none := (same_two (same_upd hM) hD).free hR
    refine while_by (fun σ H2 => ∃ (j : Nat) (vs : List V) (ts : List Addr) (x7 x8 x9 x10 : Option V), Same H H2 ∧ H2 M = some (.lst vs) ∧ Are kit H2 vs (st j).1 ∧ H2 D = some (kit.ho (st j).1) ∧ H2 R = some (.lst (ts.map V.ref)) ∧ Objs oTup H2 ts (st j).2 ∧ ts.length = j ∧ j ≤ (st j).1.length ∧ (∀ a ∈ (st j).1, ok a) ∧
      σ = [some (.str (tx L)), some v0, some (.ref fa), some (.int 400), some (.ref M), some (.ref D), some (.ref R), x7, x8, x9, x10]) (fun _ H2 => B - (match H2 R with | some (.lst xs) => xs.length | _ => 0)) ?_ ?_ ?_
    · refine ⟨0, [v0], [], none, none, none, none, s0, ?_, ?_, ?_, upd_same, ?_, rfl, Nat.zero_le _, ?_, rfl⟩
      · rw [upd_ne nMR, upd_ne nMD, upd_same]
      · rw [hz]
        exact ⟨kit.keep is0 fun b xs e => s0 _ _ e, trivial⟩
      · rw [upd_ne nDR, upd_same, hz] <;> rfl
      · rw [hz]
        exact trivial
      · rw [hz]
        intro a ha
        rw [List.mem_singleton.mp ha]
        exact ok0
    · rintro σ H2 ⟨j, vs, ts, x7, x8, x9, x10, s2, hm, are, hd, hr2, objs, hts, hle, oks, rfl⟩
      have hvl := are.len
      refine ⟨_, rfl, R, _, rfl, .inl (SqL.of hr2), _, rfl, M, _, rfl, .inl (SqL.of hm), _, _, rfl, rfl, _, rfl, ?_⟩
      rw [List.length_map, hts, hvl]
      refine ite2 (fun hlt => ?_) (fun hge => ?_)
      · have hlt : ((j : Nat) : Int) < (((st j).1.length : Nat) : Int) := of_decide_eq_true hlt
        have hlt : j < (st j).1.length := by omega
        obtain ⟨key, hkey⟩ : ∃ key, (st j).1[j]? = some key := ⟨_, List.getElem?_eq_getElem hlt⟩
        obtain ⟨v, hv, isv⟩ := are.get hkey
        have okk : ok key := oks _ (List.mem_of_getElem? hkey)
        have hstep1 := hnx j key hkey
        have hg := fun i => hgr j i key hkey
        have hlenB := hB j
        refine ⟨_, rfl, _, rfl, R, _, rfl, .inl (SqL.of hr2), M, _, _, _, rfl, rfl, SqL.of hm, by rw [List.length_map, hts]; exact atI_nat hv, ?_⟩
        refine ⟨by show 0 ≤ sizeLine; decide, fun RW hRW => ?_⟩
        have nRW : H RW = none := s2.free hRW
        have nMW : M ≠ RW := fun z => by rw [← z, hm] at hRW; cases hRW
        have nDW : D ≠ RW := fun z => by rw [← z, hd] at hRW; cases hRW
        have nRR : R ≠ RW := fun z => by rw [← z, hr2] at hRW; cases hRW
        generalize hks : (st j).1 = ks at hkey hlenB hg hstep1 hlt hle are hd oks hvl
        generalize hrs : (st j).2 = rs at objs hstep1
        have kt0 : KeepsTup H2 (upd H2 RW (.lst [])) := Same.tup' (same_upd hRW)
        refine ⟨_, rfl, tx L, rfl, ?_⟩
        refine for_it walk_str (fun i σ H3 => ∃ (vs : List V) (x9 x10 : Option V), Same H H3 ∧ H3 M = some (.lst vs) ∧ Are kit H3 vs ((L.take i).foldl (exSign fn key) (ks, [])).1 ∧ H3 D = some (kit.ho ((L.take i).foldl (exSign fn key) (ks, [])).1) ∧ H3 R = some (.lst (ts.map V.ref)) ∧ Objs oTup H3 ts rs ∧ kit.is H3 v key ∧
            H3 RW = some (.lst (((L.take i).foldl (exSign fn key) (ks, [])).2.map V.int)) ∧ ((L.take i).foldl (exSign fn key) (ks, [])).2.length = i ∧ (∀ a ∈ ((L.take i).foldl (exSign fn key) (ks, [])).1, ok a) ∧
            σ = [some (.str (tx L)), some v0, some (.ref fa), some (.int 400), some (.ref M), some (.ref D), some (.ref R), some v, some (.ref RW), x9, x10]) ?_ (fun _ _ _ _ _ => trivial) ?_ ?_
        · refine ⟨vs, x9, x10, s2.trans (same_upd hRW), same_upd hRW _ _ hm, are.keep kt0, same_upd hRW _ _ hd, same_upd hRW _ _ hr2, objs_tup objs kt0, kit.keep isv kt0, upd_same, rfl, oks, rfl⟩
        · rintro i x σ H3 H4 hi ⟨vs, x9, x10, s3, hm3, are3, hd3, hr3, objs3, isv3, hw3, hw3l, oks3, rfl⟩ ⟨rfl, c, hx, rfl⟩
          have hx' : L[i]? = some c := by
            rw [← Array.getElem?_toList, tx_list] at hx
            exact hx
          have hcL : c ∈ L := List.mem_of_getElem? hx'
          have hiL : i < L.length := (List.getElem?_eq_some_iff.mp hx').1
          have hgi1 := hg (i + 1)
          have e1 : (L.take (i + 1)).foldl (exSign fn key) (ks, []) = exSign fn key ((L.take i).foldl (exSign fn key) (ks, [])) c := by
            rw [List.take_add_one, hx', List.foldl_append] <;> rfl
          rw [e1] at hgi1
          rw [e1]
          generalize (L.take i).foldl (exSign fn key) (ks, []) = fo at are3 hd3 hw3 hw3l oks3 hgi1 ⊢
          have gH := gk H H4 (Same.ext' s3) g0
          refine ⟨fa, G, sp, rfl, cv, gH, _, rfl, _, rfl, gH, hstep H4 v key c _ gH isv3 okk hcL fun v' H5 s5 is5 => ?_⟩
          have oka : ok (fn key c) := okc _ _ okk hcL
          replace hm3 := s5 _ _ hm3
          replace are3 := are3.keep (Same.tup' s5)
          replace hd3 := s5 _ _ hd3
          replace hr3 := s5 _ _ hr3
          replace objs3 := objs_tup objs3 (Same.tup' s5)
          replace isv3 := kit.keep isv3 (Same.tup' s5)
          replace hw3 := s5 _ _ hw3
          replace s3 := s3.trans s5
          have vl3 := are3.len
          refine ⟨_, rfl, _, rfl, D, _, rfl, kit.get hd3 is5, _, rfl, ?_⟩
          unfold exSign at hgi1 ⊢
          by_cases hin : fn key c ∈ fo.1
          · rw [if_pos hin] at hgi1 ⊢
            rw [if_pos hin]
            refine iteF ?_
            refine ⟨_, rfl, .inl ⟨rfl, _, SqL.of hw3⟩, _, rfl, _, rfl, D, _, rfl, (if_pos hin) ▸ kit.get hd3 is5, RW, _, _, rfl, rfl, hw3, by rw [List.length_map, hw3l, sizeLine_eq]; omega, ?_⟩
            have kt := tup_upd (o := .lst (fo.2.map V.int ++ [.int ((fo.1.idxOf (fn key c) : Nat) : Int)])) hw3 (fun _ z => nomatch z)
            refine ⟨vs, _, _, same_at s3 nRW, ?_, are3.keep kt, ?_, ?_, objs_tup objs3 kt, kit.keep isv3 kt, ?_, ?_, oks3, rfl⟩
            · rw [upd_ne nMW]
              exact hm3
            · rw [upd_ne nDW]
              exact hd3
            · rw [upd_ne nRR]
              exact hr3
            · rw [upd_same]
              show _ = some (HO.lst ((fo.2 ++ [_]).map V.int))
              rw [List.map_append] <;> rfl
            · show (fo.2 ++ [_]).length = _
              rw [List.length_append, hw3l] <;> rfl
          · rw [if_neg hin] at hgi1 ⊢
            rw [if_neg hin]
            have hlen1 : fo.1.length + 1 ≤ B := by rw [List.length_append] at hgi1; exact hgi1
            refine iteT ?_
            refine ⟨_, rfl, M, _, rfl, .inl (SqL.of hm3), _, rfl, rfl, _, rfl, iteF' ?_ ?_⟩
            · rw [vl3]
              refine decide_eq_false fun z => ?_
              have := V.int.inj z
              omega
            refine ⟨_, rfl, M, _, rfl, .inl (SqL.of hm3), _, rfl, _, rfl, D, _, rfl, by rw [vl3]; exact kit.put hd3 is5 hin (by rw [sizeLine_eq]; omega), ?_⟩
            have k1 := tup_upd (o := kit.ho (fo.1 ++ [fn key c])) hd3 (kit.not_tup _)
            have m1 : upd H5 D (kit.ho (fo.1 ++ [fn key c])) M = some (.lst vs) := by rw [upd_ne nMD]; exact hm3
            have d1 : upd H5 D (kit.ho (fo.1 ++ [fn key c])) D = some (kit.ho (fo.1 ++ [fn key c])) := upd_same
            have r1 : upd H5 D (kit.ho (fo.1 ++ [fn key c])) R = some (.lst (ts.map V.ref)) := by rw [upd_ne (Ne.symm nDR)]; exact hr3
            have w1 : upd H5 D (kit.ho (fo.1 ++ [fn key c])) RW = some (.lst (fo.2.map V.int)) := by rw [upd_ne (Ne.symm nDW)]; exact hw3
            have s1 : Same H (upd H5 D (kit.ho (fo.1 ++ [fn key c]))) := same_at s3 nD
            have a1 := are3.keep k1
            have o1 := objs_tup objs3 k1
            have v1 := kit.keep isv3 k1
            have is1 := kit.keep is5 k1
            generalize upd H5 D (kit.ho (fo.1 ++ [fn key c])) = H6 at m1 d1 r1 w1 s1 a1 o1 v1 is1 ⊢
            refine ⟨_, rfl, .inl ⟨rfl, _, SqL.of m1⟩, _, rfl, M, _, _, rfl, rfl, m1, by rw [vl3, sizeLine_eq]; omega, ?_⟩
            have k2 := tup_upd (o := .lst (vs ++ [v'])) m1 (fun _ z => nomatch z)
            have m2 : upd H6 M (.lst (vs ++ [v'])) M = some (.lst (vs ++ [v'])) := upd_same
            have d2 : upd H6 M (.lst (vs ++ [v'])) D = some (kit.ho (fo.1 ++ [fn key c])) := by rw [upd_ne (Ne.symm nMD)]; exact d1
            have r2 : upd H6 M (.lst (vs ++ [v'])) R = some (.lst (ts.map V.ref)) := by rw [upd_ne (Ne.symm nMR)]; exact r1
            have w2 : upd H6 M (.lst (vs ++ [v'])) RW = some (.lst (fo.2.map V.int)) := by rw [upd_ne (Ne.symm nMW)]; exact w1
            have s2' : Same H (upd H6 M (.lst (vs ++ [v']))) := same_at s1 hM
            have a2 := (a1.snoc is1).keep k2
            have o2 := objs_tup o1 k2
            have v2 := kit.keep v1 k2
            have is2 := kit.keep is1 k2
            generalize upd H6 M (.lst (vs ++ [v'])) = H7 at m2 d2 r2 w2 s2' a2 o2 v2 is2 ⊢
            have gg := kit.get d2 is2
            rw [if_pos (List.mem_append_right _ (List.mem_singleton.mpr rfl)), idx_end hin] at gg
            refine ⟨_, rfl, .inl ⟨rfl, _, SqL.of w2⟩, _, rfl, _, rfl, D, _, rfl, gg, RW, _, _, rfl, rfl, w2, by rw [List.length_map, hw3l, sizeLine_eq]; omega, ?_⟩
            have k3 := tup_upd (o := .lst (fo.2.map V.int ++ [.int ((fo.1.length : Nat) : Int)])) w2 (fun _ z => nomatch z)
            refine ⟨vs ++ [v'], _, _, same_at s2' nRW, ?_, a2.keep k3, ?_, ?_, objs_tup o2 k3, kit.keep v2 k3, ?_, ?_, ?_, rfl⟩
            · rw [upd_ne nMW]
              exact m2
            · rw [upd_ne nDW]
              exact d2
            · rw [upd_ne nRR]
              exact r2
            · rw [upd_same]
              show _ = some (HO.lst ((fo.2 ++ [_]).map V.int))
              rw [List.map_append] <;> rfl
            · show (fo.2 ++ [_]).length = _
              rw [List.length_append, hw3l] <;> rfl
            · intro a ha
              rcases List.mem_append.mp ha with h | h
              · exact oks3 a h
              · rw [List.mem_singleton.mp h]
                exact oka
        · rintro σ H3 ⟨vs, x9, x10, s3, hm3, are3, hd3, hr3, objs3, isv3, hw3, hw3l, oks3, rfl⟩
          rw [size_tx, List.take_length] at are3 hd3 hw3 hw3l oks3
          have fB := hB (j + 1)
          rw [hstep1] at fB
          generalize hfo : L.foldl (exSign fn key) (ks, []) = fo at are3 hd3 hw3 hw3l oks3 fB hstep1
          have grows : ks.length ≤ fo.1.length := by rw [← hfo]; exact (exFold_grows fn key L (ks, [])).length_le
          refine ⟨_, rfl, .inl ⟨rfl, _, SqL.of hr3⟩, _, rfl, RW, _, rfl, .inl ⟨SqL.of hw3, fun t ht => ?_⟩⟩
          have s4 := same_upd (o := .tup (fo.2.map V.int)) ht
          have nt : R ≠ t := fun z => by rw [← z, hr3] at ht; cases ht
          refine ⟨R, _, _, rfl, rfl, s4 _ _ hr3, by rw [List.length_map, hts, sizeLine_eq]; omega, ?_⟩
          have hr4 := s4 _ _ hr3
          have hm4 := s4 _ _ hm3
          have hd4 := s4 _ _ hd3
          have ho4 := objs_tup objs3 (Same.tup' s4)
          have ha4 := are3.keep (Same.tup' s4)
          have ht4 : upd H3 t (.tup (fo.2.map V.int)) t = some (oTup fo.2) := upd_same
          have s5 := s3.trans s4
          generalize upd H3 t (.tup (fo.2.map V.int)) = H4 at hr4 hm4 hd4 ho4 ha4 ht4 s5 ⊢
          have k3 := tup_upd (o := .lst (ts.map V.ref ++ [.ref t])) hr4 (fun _ z => nomatch z)
          refine ⟨⟨j + 1, vs, ts ++ [t], _, _, _, _, same_at s5 nR, ?_, ?_, ?_, ?_, ?_, ?_, ?_, ?_, rfl⟩, ?_⟩
          · rw [upd_ne nMR]
            exact hm4
          · rw [hstep1]
            exact ha4.keep k3
          · rw [upd_ne nDR, hstep1]
            exact hd4
          · rw [upd_same, List.map_append] <;> rfl
          · rw [hstep1]
            exact objs_tup (ho4.snoc ht4) k3
          · rw [List.length_append, hts] <;> rfl
          · rw [hstep1]
            show j + 1 ≤ fo.1.length
            omega
          · rw [hstep1]
            exact oks3
          · show B - (match (upd _ R _) R with | some (.lst xs) => xs.length | _ => 0) < B - (match H2 R with | some (.lst xs) => xs.length | _ => 0)
            rw [upd_same, hr2]
            show _ - (ts.map V.ref ++ [_]).length < _ - (ts.map V.ref).length
            rw [List.length_append, List.length_map, hts]
            show _ - (j + 1) < _
            omega
      · have hge : ¬ (((j : Nat) : Int) < (((st j).1.length : Nat) : Int)) := fun z => hge (decide_eq_true z)
        have e1 : (st j).1.length = j := by omega
        have e2 : st B = st j := by
          have h3 := hB j
          have h4 := hsp j (B - j) (by omega)
          rw [show j + (B - j) = B by omega] at h4
          exact h4
        refine ⟨_, rfl, _, rfl, R, _, rfl, .inl ⟨SqL.of hr2, fun r hr => ?_⟩⟩
        refine ⟨by show 2 ≤ sizeLine; decide, fun t ht => ?_⟩
        have s3 := same_upd (o := .tup (ts.map V.ref)) hr
        have s4 := same_upd (o := .tup [.ref M, .ref r]) ht
        refine q t M r ts vs _ (s2.trans (s3.trans s4)) upd_same (s4 _ _ (s3 _ _ hm)) ?_ (s4 _ _ upd_same) ?_
        · rw [e2]
          exact are.keep (Same.tup' (s3.trans s4))
        · rw [e2]
          exact objs_tup objs (Same.tup' (s3.trans s4))
    · exact fun σ H Q Q' hm ⟨v, hv, M', ys, e, hs, w', hw, M2, ys2, e2, hs2, i, j, a, b, k, hk, q⟩ => ⟨v, hv, M', ys, e, hs, w', hw, M2, ys2, e2, hs2, i, j, a, b, k, hk, hm _ _ q⟩
end
end WK
set_option Elab.async false
set_option linter.all false
set_option maxRecDepth 100000
set_option maxHeartbeats 4000000
namespace WK
open PySem L2 PyProof.Rows LCX K1 FV DP
open TX (sg sigs)
section
variable {α κ : Type} [DecidableEq α] [DecidableEq κ] (e : α → κ)
/-- a dict's pairs: each key with its number, from i on -/
def numK (i : Nat) : List α → List (κ × V)
  | [] => []
  | a :: l => (e a, .int ((i : Nat) : Int)) :: numK (i + 1) l
theorem numK_len : ∀ (l : List α) (i : Nat), (numK e i l).length = l.length
  | [], _ => rfl
  | _ :: l, i => congrArg Nat.succ (numK_len l (i + 1))
theorem numK_snoc (a : α) : ∀ (l : List α) (i : Nat), numK e i (l ++ [a]) = numK e i l ++ [(e a, .int (((i + l.length : Nat) : Nat) : Int))]
  | [], _ => rfl
  | b :: l, i => by
    show (e b, _) :: numK e (i + 1) (l ++ [a]) = (e b, _) :: (numK e (i + 1) l ++ _)
    rw [numK_snoc a l (i + 1), List.length_cons, show i + 1 + l.length = i + (l.length + 1) by omega]
theorem numK_val (inj : ∀ a b, e a = e b → a = b) (a : α) : ∀ (l : List α) (i : Nat), valV (numK e i l) (e a) = if a ∈ l then some (.int (((i + l.idxOf a : Nat) : Nat) : Int)) else none
  | [], _ => rfl
  | b :: l, i => by
    show valV ((e b, V.int ((i : Nat) : Int)) :: numK e (i + 1) l) (e a) = _
    by_cases hb : b = a
    · rw [valV_pos (congrArg e hb), if_pos (hb ▸ List.mem_cons_self), hb, List.idxOf_cons_self] <;> rfl
    · rw [valV_neg fun z => hb (inj _ _ z), numK_val inj a l (i + 1)]
      have hm : (a ∈ b :: l) ↔ a ∈ l := ⟨fun z => (List.mem_cons.mp z).resolve_left fun w => hb w.symm, List.mem_cons_of_mem _⟩
      by_cases h : a ∈ l
      · rw [if_pos h, if_pos (hm.mpr h), List.idxOf_cons, show (b == a) = false from beq_eq_false_iff_ne.mpr hb, show i + 1 + l.idxOf a = i + (l.idxOf a + 1) by omega] <;> rfl
      · rw [if_neg h, if_neg fun z => h (hm.mp z)]
theorem numK_put (inj : ∀ a b, e a = e b → a = b) {a : α} {l : List α} (h : a ∉ l) : putK (numK e 0 l) (e a) (.int ((l.length : Nat) : Int)) = numK e 0 (l ++ [a]) := by
  unfold putK
  rw [valV_any, numK_val e inj, if_neg h, numK_snoc, Nat.zero_add]
  exact if_neg fun z => nomatch z
end
theorem map_inj {α β : Type} {f : α → β} (inj : ∀ a b, f a = f b → a = b) : ∀ (l m : List α), l.map f = m.map f → l = m
  | [], [], _ => rfl
  | a :: l, b :: m, h => by
    obtain ⟨h1, h2⟩ := List.cons.inj h
    rw [inj a b h1, map_inj inj l m h2]
  | [], _ :: _, h => nomatch h
  | _ :: _, [], h => nomatch h
/-- tuples of keys -/
def kitL {α : Type} [DecidableEq α] (e : α → Key) (inj : ∀ a b, e a = e b → a = b) : Kit (List α) where
  is := fun H v a => ∃ b, v = .ref b ∧ H b = some (.tup ((a.map e).map kV))
  keep := fun ⟨b, hv, hb⟩ k => ⟨b, hv, k _ _ hb⟩
  ho := fun l => .dT (numK (fun a : List α => a.map e) 0 l)
  kind := fun l => .inr ⟨_, rfl⟩
  emp := .inr rfl
  get := fun {H D l v a} hd hv => by
    obtain ⟨b, rfl, hb⟩ := hv
    have h := DGet.t (k := a.map e) hd hb
    rw [numK_val (fun a : List α => a.map e) (fun a b z => map_inj inj a b z), Nat.zero_add] at h
    exact h
  put := fun {H D l v a} hd hv hn hl => by
    obtain ⟨b, rfl, hb⟩ := hv
    have h := DPut.t (k := a.map e) (v := .int ((l.length : Nat) : Int)) hd hb (by rw [numK_len]; exact hl)
    rw [numK_put (fun a : List α => a.map e) (fun a b z => map_inj inj a b z) hn] at h
    exact h
/-- tuples of numbers -/
def kitI : Kit (List Int) := kitL (fun i : Int => (Sum.inl i : Key)) fun _ _ h => Sum.inl.inj h
theorem kitI_is {H : Hp} {b : Addr} {a : List Int} : kitI.is H (.ref b) a ↔ H b = some (.tup (a.map V.int)) := by
  show (∃ c, V.ref b = .ref c ∧ H c = some (.tup ((a.map _).map kV))) ↔ _
  rw [List.map_map]
  exact ⟨fun ⟨c, h, k⟩ => by cases h; exact k, fun h => ⟨b, rfl, h⟩⟩
end WK
set_option Elab.async false
set_option linter.all false
set_option maxRecDepth 100000
set_option maxHeartbeats 8000000
namespace WK
open PySem L2 PyProof.Rows LCX K1 FV DP
open TX (sg sigs)
open PySem.W (Frag kitOne)
abbrev sMadeI : Stmt := inClass (top 10) 0
abbrev sBoxI : Stmt := inClass (top 50) 0
abbrev sGrown : Stmt := top 52
/-- the class Box at C, the class Made at cD -/
structure TBx (K : Frag) (mg : Str → Option Value) (C cD : Addr) : Prop where
  cl : Cls K C
  nT : NoAttr K C "_table"
  nL : NoAttr K C "_letters"
  clD : Cls K cD
  nR : NoAttr K cD "rows"
  gC : mg "Box" = some (.ref C)
  gD : mg "Made" = some (.ref cD)
  tyC : ∀ {H : Hp} {a dx : Addr} {fs : List (Str × V)}, H a = some (.ins C dx fs) → TyOf K H (.ref a) (.ref C)
  tyD : ∀ {H : Hp} {a dx : Addr} {fs : List (Str × V)}, H a = some (.ins cD dx fs) → TyOf K H (.ref a) (.ref cD)
  most : ∃ t, mg "MAX_MADE" = some (.int 400 t)
def bfl (lt tb : V) : List (Str × V) := [("_table", tb), ("_letters", lt)]
/-- a class is called, which a name of the running frame holds -/
def tMakeV (i : Nat) (C : Addr) (sp : Sp) (dvs : List V) (E : XK) (t : TA) : TE := fun σ H Q => σ[i]? = some (some (.ref C)) ∧ tMake C sp dvs E t σ H Q
theorem pe_makeV {X : Cx} {CX : CXT} {k i : Nat} {f C : Addr} {fd : FuncData} {ps : List Str} {ds : List Value} {dvs : List V} {sp : Sp} {E : XK} {x : Str} {p pos : Pos} {e : Expr} {es : List Expr} {t : TA}
    (M : Mk X.K C f) (F : FnOk X.prog X.w X.K X.mg X.base CX k f fd ps sp) (hr : Room (k + 1) X.A) (hN : X.N[i]? = some x) (hv : Vis X.env.scope x) (hb : Binds X.K fd ps ds) (hd : Vals dvs ds) (hx : Passes CX X E) (ha : PA X (e :: es) t)
    (hdb : (x == ("__debug__" : Str)) = false := by decide) (hcd : (x == ("__classdict__" : Str)) = false := by decide) (he : starEach (e :: es) X.env = (false, eval e X.env) :: starEach es X.env := by rfl) (hpl : (backTo pos (starEach es X.env)).any (·.1) = false := by rfl) :
    PE X (.Call (.Name x p) (e :: es) [] pos) (tMakeV i C sp dvs E t) := by
  refine ⟨fun pins s σ H Q I ⟨hs, h⟩ => ?_⟩
  refine wpAny_Call_Name_kw (thn ((pe_var (pos := p) hN hv hdb hcd).run pins s σ H (fun v H1 => v = .ref C ∧ H1 = H) I ⟨_, hs, rfl, rfl⟩) fun u s1 ⟨v, H1, I1, r1, ev, eH⟩ => ?_)
  subst ev
  subst eH
  cases (show u = Value.ref C from r1)
  refine PySem.W.callWith_K (h₀ := X.base) I1.ok.mod.kin M.kp (thn (ha.run pos pins s1 σ _ _ I1 h) fun us s2 ⟨vs, H2, I2, r, q⟩ => ⟨I2.kIn, ?_⟩) he hpl
  exact run_make M F hr hb hd hx I2 r q
/-- rows as the package made them stand at g -/
def RowsAt (H : Hp) (r : Addr) (tb : List (List Int)) : Prop := ∃ ts : List Addr, H r = some (.tup (ts.map V.ref)) ∧ Objs oTup H ts tb
theorem RowsAt.keep {H H' : Hp} {r : Addr} {tb : List (List Int)} (h : RowsAt H r tb) (k : KeepsTup H H') : RowsAt H' r tb := by
  obtain ⟨ts, h1, h2⟩ := h
  exact ⟨ts, k _ _ h1, objs_tup h2 k⟩
def MadeAt (cD : Addr) (H : Hp) (g : Addr) (tb : List (List Int)) : Prop := ∃ dx r : Addr, H g = some (.ins cD dx [("rows", .ref r)]) ∧ RowsAt H r tb
theorem MadeAt.same {cD : Addr} {H H' : Hp} {g : Addr} {tb : List (List Int)} (h : MadeAt cD H g tb) (s : Same H H') : MadeAt cD H' g tb := by
  obtain ⟨dx, r, h1, h2⟩ := h
  exact ⟨dx, r, s _ _ h1, h2.keep (Same.tup' s)⟩
/-- a box stands at o -/
def BoxAt (C : Addr) (H : Hp) (o : Addr) (L : W) (tb : List (List Int)) : Prop := ∃ dx r : Addr, H o = some (.ins C dx (bfl (.str (tx L)) (.ref r))) ∧ RowsAt H r tb
theorem BoxAt.same {C : Addr} {H H' : Hp} {o : Addr} {L : W} {tb : List (List Int)} (h : BoxAt C H o L tb) (s : Same H H') : BoxAt C H' o L tb := by
  obtain ⟨dx, r, h1, h2⟩ := h
  exact ⟨dx, r, s _ _ h1, h2.keep (Same.tup' s)⟩
def spMadeI (cD : Addr) : Sp := fun vs H Q _ => ∃ p dx r, vs = [.ref p, r] ∧ H p = some (.ins cD dx []) ∧ Q .non (upd H p (.ins cD dx [("rows", r)]))
def spBoxI (C cD : Addr) : Sp := fun vs H Q _ => ∃ (p dx : Addr) (L : W) (g : Addr) (tb : List (List Int)), vs = [.ref p, .str (tx L), .ref g] ∧ Let L ∧ H p = some (.ins C dx []) ∧ g ≠ p ∧ MadeAt cD H g tb ∧
  ∀ (r : Addr) (H' : Hp), H' p = some (.ins C dx (bfl (.str (tx L)) (.ref r))) → (∀ b o, H b = some o → b ≠ p → H' b = some o) → RowsAt H' r tb → Q .non H'
/-- a step that may be explored from a start -/
def Steps {α : Type} [DecidableEq α] (P : Program) (w : World) (K : Frag) (mg : Str → Option Value) (base : Heap) (kit : Kit α) (kf : Nat) (H : Hp) (L : W) (v0 : V) (fa : Addr) (start : α) (f : α → Nat → α) (B : Nat) : Prop :=
  ∃ (G : Hp → Prop) (sp : Sp) (ok : α → Prop), kit.is H v0 start ∧ CallV P w K mg base CX0 kf fa G sp ∧ G H ∧
    (∀ H H', KeepsExt H H' → G H → G H') ∧ ok start ∧ (∀ a c, ok a → c ∈ L → ok (f a c)) ∧
    (∀ (H : Hp) (v : V) (a : α) (c : Nat) (Q : VK), G H → kit.is H v a → ok a → c ∈ L → (∀ v' H', Same H H' → kit.is H' v' (f a c) → Q v' H') → sp [v, .str (sg c)] H Q E0) ∧ (∀ j, (exAll f L start j).1.length ≤ B) ∧ B ≤ 400
def spGrown (P : Program) (w : World) (K : Frag) (mg : Str → Option Value) (base : Heap) {α : Type} [DecidableEq α] (kit : Kit α) (kf : Nat) (cD : Addr) : Sp := fun vs H Q _ =>
  ∃ (L : W) (v0 : V) (start : α) (fa : Addr) (f : α → Nat → α) (B : Nat), vs = [.str (tx L), v0, .ref fa] ∧ L.length ≤ 3 ∧ Steps P w K mg base kit kf H L v0 fa start f B ∧ ∀ g H', H g = none → Same H H' → MadeAt cD H' g (exAll f L start B).2 → Q (.ref g) H'
section
variable {P : Program} {w : World} {K : PySem.W.Frag} {mg : Str → Option Value} {base : Heap} {C cD fL fI fE : Addr} {dL dI dE : FuncData}
theorem scDI : FnScope ["self", "rows"] ["self", "rows"] (defScope sMadeI) := ⟨rfl, rfl, rfl, by decide +kernel, rfl, by decide +kernel, by decide +kernel⟩
theorem ok_madei {f : Addr} {oc kV dc pm ct cd dV : Value} {an od : Option Addr} {sl : Array (Option Value)} (lk : K.lookup f = some ⟨oc, od, .func (PySem.W.fnOf "__init__" "Made.__init__" (defArgs sMadeI) (defBody sMadeI) (defScope sMadeI) dV kV dc pm an cd ct), sl⟩) (hcd : PySem.W.codeIn K cd "Made.__init__" = true) (M : TBx K mg C cD) :
    FnOk P w K mg base CX0 1 f (PySem.W.fnOf "__init__" "Made.__init__" (defArgs sMadeI) (defBody sMadeI) (defScope sMadeI) dV kV dc pm an cd ct) ["self", "rows"] (spMadeI cD) := by
  refine fn_of lk hcd scDI (fun vs H Q E h => ?_) (fun A outer s H vs Q E hr h => ?_)
  · obtain ⟨p, dx, r, rfl, _⟩ := h
    rfl
  · obtain ⟨p, dx, r, rfl, hp, q⟩ := h
    refine ⟨_, pss_one (ps_fld (pv 0) (pv 1) rfl), ?_⟩
    exact ⟨_, rfl, _, rfl, p, cD, dx, [], rfl, hp, M.clD, M.nR, by show 0 < 1000; decide, q⟩
theorem scBI : FnScope ["self", "letters", "table"] ["self", "letters", "table"] (defScope sBoxI) := ⟨rfl, rfl, rfl, by decide +kernel, rfl, by decide +kernel, by decide +kernel⟩
theorem ok_boxi {f : Addr} {oc kV dc pm ct cd dV : Value} {an od : Option Addr} {sl : Array (Option Value)} (lk : K.lookup f = some ⟨oc, od, .func (PySem.W.fnOf "__init__" "Box.__init__" (defArgs sBoxI) (defBody sBoxI) (defScope sBoxI) dV kV dc pm an cd ct), sl⟩) (hcd : PySem.W.codeIn K cd "Box.__init__" = true)
    (T : TN mg) (M : TBx K mg C cD) (AL : Fn K mg "is_letters" sIsLet ["value"] fL dL) (GL : FnOk P w K mg base CX0 2 fL dL ["value"] (spIsLet K)) :
    FnOk P w K mg base CX0 3 f (PySem.W.fnOf "__init__" "Box.__init__" (defArgs sBoxI) (defBody sBoxI) (defScope sBoxI) dV kV dc pm an cd ct) ["self", "letters", "table"] (spBoxI C cD) := by
  refine fn_of lk hcd scBI (fun vs H Q E h => ?_) (fun A outer s H vs Q E hr h => ?_)
  · obtain ⟨p, dx, L, g, tb, rfl, _⟩ := h
    rfl
  · obtain ⟨p, dx, L, g, tb, rfl, hL, hp, hgp, ⟨gx, r, hg, rows⟩, q⟩ := h
    refine ⟨_, pss_cons (ps_if (pt_not (pt_val (pe_call GL hr rfl AL.g AL.F.kp AL.b .nil pass0 (pa_cons (pv 1) pa_nil)))) (pss_one ps_never) pss_nil)
      (pss_cons (ps_if (pt_val (pe_callB call_isi (by rfl) T.isi (by decide +kernel) (pa_cons (pv 2) (pa_cons (pe_glob rfl M.gD (show RelV (.ref cD) (.ref cD) from rfl)) pa_nil)))) (pss_one (ps_fld (pv 0) (pe_fld (pv 2) rfl) rfl)) (pss_one ps_never))
      (pss_one (ps_fld (pv 0) (pv 1) rfl))), ?_⟩
    refine ⟨_, rfl, _, rfl, .inl ⟨tx L, rfl, by rw [tx_len]; have := hL.few; omega, fun H1 s1 => ⟨_, rfl, ?_⟩⟩⟩
    rw [letB_let hL]
    refine ⟨_, rfl, _, _, _, _, true, rfl, .own cD, .base (M.tyD (s1 _ _ hg)), if_pos (beq_self_eq_true _), true, rfl, ?_⟩
    have hp1 := s1 _ _ hp
    refine ⟨_, rfl, g, cD, gx, _, _, rfl, s1 _ _ hg, M.clD, M.nR, rfl, _, rfl, p, C, dx, [], rfl, hp1, M.cl, M.nT, by show 0 < 1000; decide, ?_⟩
    refine ⟨_, rfl, _, rfl, p, C, dx, _, rfl, upd_same, M.cl, M.nL, by show 1 < 1000; decide, ?_⟩
    have kt : KeepsTup H _ := (Same.tup' s1).trans ((tup_upd (o := .ins C dx (putF "_table" (V.ref r) [])) hp1 fun _ z => nomatch z).trans (tup_upd (o := .ins C dx (putF "_letters" (V.str (tx L)) (putF "_table" (V.ref r) []))) upd_same fun _ z => nomatch z))
    refine q r _ ?_ (fun b o z n => ?_) (rows.keep kt)
    · rw [upd_same]
      show _ = some (HO.ins C dx [("_table", V.ref r), ("_letters", V.str (tx L))])
      refine congrArg (fun l => some (HO.ins C dx l)) ?_
      show (if ("_table" : Str) = "_letters" then [(("_table" : Str), V.str (tx L))] else (("_table" : Str), V.ref r) :: putF "_letters" (V.str (tx L)) []) = _
      rw [if_neg (by decide +kernel)]
      rfl
    · rw [upd_ne n, upd_ne n]
      exact s1 _ _ z
theorem scGr : FnScope ["letters", "start", "step"] ["letters", "start", "step"] (defScope sGrown) := ⟨rfl, rfl, rfl, by decide +kernel, rfl, by decide +kernel, by decide +kernel⟩
theorem ok_grown {α : Type} [DecidableEq α] {kit : Kit α} {kf : Nat} {f : Addr} {fd : FuncData} (F : Fun K "_grown" "_grown" sGrown f fd) (M : TBx K mg C cD) (gE : mg "explored" = some (.ref fE)) (kE : PySem.W.keepIn K (.ref fE) = true) (GE : FnOk P w K mg base CX0 (kf + 1) fE dE ["signs", "start", "step", "most"] (spExpl P w K mg base kit kf))
    (MI : Mk K cD fI) (GI : FnOk P w K mg base CX0 1 fI dI ["self", "rows"] (spMadeI cD)) (bI : Binds K dI ["self", "rows"] []) (bE : Binds K dE ["signs", "start", "step", "most"] []) :
    FnOk P w K mg base CX0 (kf + 3) f fd ["letters", "start", "step"] (spGrown P w K mg base kit kf cD) := by
  obtain ⟨tm, most⟩ := M.most
  refine F.ok scGr (fun vs H Q E h => ?_) (fun cdv A outer s H vs Q E hr h => ?_)
  · obtain ⟨L, v0, start, fa, fn, B, rfl, _⟩ := h
    rfl
  · obtain ⟨L, v0, start, fa, fn, B, rfl, hL, ⟨G, sp, ok, is0, cv, g0, gk, ok0, okc, hstep, hB, hB4⟩, q⟩ := h
    have hr1 : Room (kf + 1) _ := hr.mono (by omega)
    have hr2 : Room 2 _ := hr.mono (by omega)
    refine ⟨_, pss_one (ps_ret (pe_make (E := E0) MI GI hr2 rfl M.gD bI .nil pass0 (pa_cons (pe_ix ix_tup (pe_call (E := E0) GE hr1 rfl gE kE bE .nil pass0 (pa_cons (pv 0) (pa_cons (pv 1) (pa_cons (pv 2) (pa_cons (pe_glob rfl most (show RelV (.int 400) (.int 400 tm) from ⟨tm, rfl⟩)) pa_nil))))) pe_int (fun _ _ => rfl)) pa_nil))), ?_⟩
    refine ⟨_, rfl, _, rfl, _, rfl, L, v0, start, fa, G, sp, fn, ok, B, rfl, hL, is0, cv, g0, gk, ok0, okc, hstep, hB, hB4, fun t k r ts vs H1 s1 ht hk hare hr' hobj => ?_⟩
    refine ⟨t, _, _, _, rfl, rfl, SqT.of ht, rfl, ?_⟩
    intro x dx hx hdx ne
    refine ⟨x, dx, _, rfl, upd_same, rfl, ?_⟩
    have s3 : Same H1 (upd (upd (upd H1 dx (.own x)) x (.ins cD dx [])) x (.ins cD dx [("rows", .ref r)])) := fun b o z => by rw [upd_ne (ne_of_none z hx), upd_ne (ne_of_none z hx), upd_ne (ne_of_none z hdx)]; exact z
    exact q x _ (s1.free hx) (s1.trans s3) ⟨dx, r, upd_same, ts, s3 _ _ hr', objs_tup hobj (Same.tup' s3)⟩
end
end WK
set_option Elab.async false
set_option linter.all false
set_option maxRecDepth 100000
set_option maxHeartbeats 8000000
namespace ENU
open PySem PySem.Spec PyProof.Rows L2
/-- the walk over a text: each sign in a new pair -/
def EnS (x : Str) : It := ⟨fun i _ => i < x.cps.size, fun i H v H' => ∃ T c, v = .ref T ∧ H T = none ∧ H' = upd H T (.tup [.int (i : Nat), .str ⟨#[c]⟩]) ∧ x.cps[i]? = some c, fun i _ => i = x.cps.size⟩
/-- .. over the tuple at a -/
def EnT (K : PySem.W.Frag) (a : Addr) (xs : List V) : It :=
  ⟨fun i H => SqT K H a xs ∧ i < xs.length, fun i H v H' => ∃ T y, v = .ref T ∧ H T = none ∧ H' = upd H T (.tup [.int (i : Nat), y]) ∧ xs[i]? = some y, fun i H => SqT K H a xs ∧ i = xs.length⟩
section
variable {X : Cx} {s : Shared} {σ : L2.St} {H : Hp} {pins : List (Addr × Obj)}
/-- one turn, by what the inner walk draws -/
theorem en_item {e it : Addr} {fp : List Addr} {n i kk : Nat} {Pv : Nat → Value → Prop} {St : Nat → Heap → Prop} {E : Value → Shared → Prop} {elts : List Expr} {tpos : Pos} {old : Value} {R : V → Hp → Heap → Prop} (I : Inv X pins σ H s) (D : Draws X.prog X.w X.A.in1 it fp n Pv St)
    (he : IsEnum s.heap e it ((i : Nat) : Int) old) (hst : St i s.heap) (hlt : i < n) (hne : e ≠ it) (hef : e ∉ fp) (hit : it < s.heap.objs.size) (hf : ∀ b ∈ [e, it], FpOk X pins H b)
    (hR : ∀ u, Pv i u → ∃ y, RelV y u ∧ ∀ (T : Addr) (h2 : Heap), H T = none → St (i + 1) h2 → (∃ old, IsEnum h2 e it ((i + 1 : Nat) : Int) old) → R (.ref T) (upd H T (.tup [.int (i : Nat), y])) h2) :
    wpAny (model X.prog X.w) X.A (pyNext (.ref e)) (fun r s1 => ∃ u, r = some u ∧
      wpAny (model X.prog X.w) X.A (letOwnedTupleGo (.Tuple elts kk tpos) (.ref e) u) (fun _ s2 => ∃ x H', Inv X pins σ H' s2 ∧ RelV x u ∧ R x H' s2.heap ∧ ∀ b ∈ [e, it], H' b = none) E s1) E s := by
  have elt : e < s.heap.objs.size := Heap.lt_size he
  refine wpAny_pyNext_enum_itemD D he hst hlt hne hef fun u h1 tk hP ho hst1 hT hsz kp => ⟨_, rfl, wpAny_letOwnedTupleGo_enum (s := { s with heap := h1, toks := tk + 1 }) ho fun h2 he2 sb => ?_⟩
  obtain ⟨y, ry, q⟩ := hR u hP
  have fresh : H s.heap.objs.size = none := I.hok.fresh (Nat.le_refl _)
  have stay : ∀ b o, b ∉ [e, it] → s.heap.get? b = some o → h2.get? b = some o := fun b o hb z => (sb.2 b fun w => hb (by simp [w])).trans (kp b o (fun w => hb (by simp [w])) (fun w => hb (by simp [w])) z)
  have pair : h2.get? s.heap.objs.size = some { cls := .type "tuple", data := .seq #[.int i tk, u] } := (sb.2 _ (Nat.ne_of_gt elt)).trans hT
  have new : ObjOk X.prog X.w (upd H s.heap.objs.size (.tup [.int (i : Nat), y])) h2 s.heap.objs.size (.tup [.int (i : Nat), y]) := ⟨by show 2 ≤ sizeLine; decide, [.int i tk, u], .cons ⟨_, rfl⟩ (.cons ry .nil), _, pair, rfl, _, rfl⟩
  refine ⟨.ref s.heap.objs.size, _, I.turnedNew (ch := [e, it]) stay hf (Nat.le_refl _) new, rfl, q _ _ fresh (D.frame _ _ _ hst1 fun b hb o z => (sb.2 b fun w => hef (w ▸ hb)).trans z) ⟨u, ?_⟩, fun b hb => ?_⟩
  · rw [show ((i + 1 : Nat) : Int) = (i : Int) + 1 from Int.natCast_add i 1]
    exact he2
  · have hlt : b < s.heap.objs.size := by
      obtain z | z := List.mem_cons.mp hb
      · rw [z]
        exact elt
      · rw [List.mem_singleton.mp z]
        exact hit
    rw [upd_ne (Nat.ne_of_lt hlt)]
    exact (hf b hb).1
end
theorem DQT {h : Heap} {a : Addr} {its : Array Value} (p : IsTup h a its) : h.IsTuple a its := let ⟨o, e, c, n, d⟩ := p; ⟨o, e, c, n, d⟩
theorem turn_enS {P : Program} {w : World} {K : PySem.W.Frag} {elts : List Expr} {kk : Nat} {tpos : Pos} (x : Str) (t : Tok) (e it : Addr) :
    Turn P w K (.Tuple elts kk tpos) (EnS x) [e, it] e (fun i h => (∃ old, IsEnum h e it ((i : Nat) : Int) old) ∧ h.IsStrIter it (strIterType x) x t i ∧ e ≠ it) where
  mem := .head _
  obj := fun i h st b hb => by
    obtain ⟨⟨old, he⟩, ⟨o, ho, _, hd⟩, _⟩ := st
    obtain z | z := List.mem_cons.mp hb
    · exact ⟨_, z ▸ he, fun v q => by cases q⟩
    · exact ⟨o, List.mem_singleton.mp z ▸ ho, fun v q => by cases hd.symm.trans q⟩
  keep := fun i h h' st k => let ⟨⟨old, he⟩, ⟨o, ho, r⟩, hne⟩ := st; ⟨⟨old, k e (.head _) _ he⟩, ⟨o, k it (.tail _ (.head _)) _ ho, r⟩, hne⟩
  item := by
    intro X hP hw hK hc i pins s σ H E I hf ⟨⟨old, he⟩, hit, hne⟩ hg
    subst hP hw hK
    obtain ⟨o, ho, _⟩ := id hit
    have D := Draws.text (prog := X.prog) (w := X.w) (A := X.A.in1) (I.ok.hd hc) it x t
    refine wpAny_mono (en_item (elts := elts) (kk := kk) (tpos := tpos) (R := fun v H' h2 => (EnS x).yld i H v H' ∧ (∃ old, IsEnum h2 e it ((i + 1 : Nat) : Int) old) ∧ h2.IsStrIter it (strIterType x) x t (i + 1)) I D he hit hg hne (fun z => hne (List.mem_singleton.mp z)) (Heap.lt_size ho) hf (fun u hu => ?_)) (fun r s1 q => ?_) fun _ _ z => z
    · obtain ⟨c, tk, hx, eu⟩ := hu
      exact ⟨.str ⟨#[c]⟩, ⟨tk, eu⟩, fun T h2 hT st z => ⟨⟨T, c, rfl, hT, rfl, hx⟩, z, st⟩⟩
    obtain ⟨u, rfl, q⟩ := q
    exact ⟨u, rfl, wpAny_mono q (fun _ s2 ⟨v, H', I', rv, ⟨a, b, c⟩, d⟩ => ⟨v, H', I', rv, a, ⟨b, c, hne⟩, d⟩) fun _ _ z => z⟩
  done := by
    intro X hP hw hK hc i pins s σ H E I hf ⟨⟨old, he⟩, hit, hne⟩ hg
    subst hP hw hK
    obtain ⟨f0, f1, f2, f3, f4, f5⟩ := hf it (.tail _ (.head _))
    have D := Draws.text (prog := X.prog) (w := X.w) (A := X.A.in1) (I.ok.hd hc) it x t
    exact wpAny_pyNext_enum_endD D he (show s.heap.IsStrIter it (strIterType x) x t x.cps.size from hg ▸ hit) fun h1 eb => ⟨rfl, I.turned (t' := s.toks) (fun b o hb q => eb b o hb q) f0 f1 f3 f4 f5⟩
  self := fun _ _ _ _ _ st q => wpAny_pyIter_enum st.1.choose_spec q
theorem turn_enT {P : Program} {w : World} {K : PySem.W.Frag} {elts : List Expr} {kk : Nat} {tpos : Pos} (a : Addr) (xs : List V) (e it : Addr) :
    Turn P w K (.Tuple elts kk tpos) (EnT K a xs) [e, it] e (fun i h => (∃ old, IsEnum h e it ((i : Nat) : Int) old) ∧ h.IsTupleIter it a i ∧ e ≠ it ∧ e ≠ a ∧ a ≠ it) where
  mem := .head _
  obj := fun i h st b hb => by
    obtain ⟨⟨old, he⟩, ⟨o, ho, _, hd⟩, _⟩ := st
    obtain z | z := List.mem_cons.mp hb
    · exact ⟨_, z ▸ he, fun v q => by cases q⟩
    · exact ⟨o, List.mem_singleton.mp z ▸ ho, fun v q => by cases hd.symm.trans q⟩
  keep := fun i h h' st k => let ⟨⟨old, he⟩, ⟨o, ho, r⟩, hne⟩ := st; ⟨⟨old, k e (.head _) _ he⟩, ⟨o, k it (.tail _ (.head _)) _ ho, r⟩, hne⟩
  item := by
    intro X hP hw hK hc i pins s σ H E I hf ⟨⟨old, he⟩, hit, hne, hea, hai⟩ ⟨hT, hi⟩
    subst hP hw hK
    obtain ⟨o, ho, _⟩ := id hit
    obtain ⟨its, rv, pt, _⟩ := I.tuple hT
    have D := Draws.tuple (prog := X.prog) (w := X.w) (A := X.A.in1) (I.ok.hd hc) it a hai its.toArray
    have hl : i < its.toArray.size := by
      have := rv.length
      simp only [List.size_toArray]
      omega
    refine wpAny_mono (en_item (elts := elts) (kk := kk) (tpos := tpos) (R := fun v H' h2 => (EnT X.K a xs).yld i H v H' ∧ (∃ old, IsEnum h2 e it ((i + 1 : Nat) : Int) old) ∧ h2.IsTupleIter it a (i + 1)) I D he ⟨hit, DQT pt⟩ hl hne (fun z => ?_) (Heap.lt_size ho) hf (fun u hu => ?_)) (fun r s1 q => ?_) fun _ _ z => z
    · obtain z | z := List.mem_cons.mp z
      · exact hne z
      · exact hea (List.mem_singleton.mp z)
    · obtain ⟨y, hy⟩ : ∃ y, xs[i]? = some y := ⟨xs[i], List.getElem?_eq_getElem hi⟩
      obtain ⟨u2, h1, h2⟩ := rv.get hy
      have e1 : u2 = u := Option.some.inj (h1.symm.trans (by rw [← List.getElem?_toArray]; exact hu))
      exact ⟨y, e1 ▸ h2, fun T h2 hT st z => ⟨⟨T, y, rfl, hT, rfl, hy⟩, z, st.1⟩⟩
    obtain ⟨u, rfl, q⟩ := q
    exact ⟨u, rfl, wpAny_mono q (fun _ s2 ⟨v, H', I', rv, ⟨a, b, c⟩, d⟩ => ⟨v, H', I', rv, a, ⟨b, c, hne, hea, hai⟩, d⟩) fun _ _ z => z⟩
  done := by
    intro X hP hw hK hc i pins s σ H E I hf ⟨⟨old, he⟩, hit, hne, hea, hai⟩ ⟨hT, hi⟩
    subst hP hw hK
    obtain ⟨f0, f1, f2, f3, f4, f5⟩ := hf it (.tail _ (.head _))
    obtain ⟨its, rv, pt, _⟩ := I.tuple hT
    have D := Draws.tuple (prog := X.prog) (w := X.w) (A := X.A.in1) (I.ok.hd hc) it a hai its.toArray
    have hl : i = its.toArray.size := by
      have := rv.length
      simp only [List.size_toArray]
      omega
    exact wpAny_pyNext_enum_endD D he ⟨hl ▸ hit, DQT pt⟩ fun h1 eb => ⟨rfl, I.turned (t' := s.toks) (fun b o hb q => eb b o hb q) f0 f1 f3 f4 f5⟩
  self := fun _ _ _ _ _ st q => wpAny_pyIter_enum st.1.choose_spec q
/-- enumerate(v) of anything whose iterator is one new object -/
theorem meets_one {v : Value} {o : Obj} {G : Heap → Prop} (B : PySem.Begins v o G) : Meets (Builtin.«enumerate.__new__» ⟨[.type "enumerate", v], []⟩) (fun _ R s => G s.heap ∧
    R (.ok (.ret (.ref (s.heap.push o).objs.size))) { s with heap := (s.heap.push o).push { cls := .type "enumerate", data := .fields #[.none, .bool false, .ref s.heap.objs.size, rawInt 0, .none, .none] } }) :=
  .of_wp fun prog w _ _ ⟨hp, g, d, tk, os⟩ ⟨h1, h2⟩ => by
    have f1 := sub_enumerate
    have f2 : ∀ {A1 : Around} {E : Value → Shared → Prop} {Q : Value → Shared → Prop}, Q (.ref hp.objs.size) ⟨hp.push o, g, d, tk, os⟩ → wpAny (model prog w) A1 (pyIter v) Q E ⟨hp, g, d, tk, os⟩ := fun q => B.iter prog w _ _ _ _ h1 q
    wp_walk using f2
    refine wpAny_stack_any fun _ => wpAny_pure ?_
    split
    · rename_i c _ _ _ _ _
      cases (c == Value.type "enumerate") <;> (wp_walk using f2; exact ⟨_, rfl, h2⟩)
    · wp_walk using f2
      exact ⟨_, rfl, h2⟩
theorem call_one {prog : Program} {w : World} {A : Around} {E : Value → Shared → Prop} {s : Shared} {v : Value} {o : Obj} {G : Heap → Prop} {Q : Value → Shared → Prop} (B : PySem.Begins v o G) (h1 : G s.heap)
    (k : ∀ h1, IsEnum h1 (s.heap.objs.size + 1) s.heap.objs.size 0 .none → h1.get? s.heap.objs.size = some o → (∀ b u, s.heap.get? b = some u → h1.get? b = some u) → Q (.ref (s.heap.objs.size + 1)) { s with heap := h1 }) :
    wpAny (model prog w) A (call (.type "enumerate") [v]) Q E s := by
  have sz : (s.heap.push o).objs.size = s.heap.objs.size + 1 := Heap.size_push ..
  have at_ : IsEnum ((s.heap.push o).push { cls := .type "enumerate", data := .fields #[.none, .bool false, .ref s.heap.objs.size, rawInt 0, .none, .none] }) (s.heap.objs.size + 1) s.heap.objs.size 0 .none := by
    have z := Heap.get?_push_size (s.heap.push o) (o := { cls := .type "enumerate", data := .fields #[.none, .bool false, .ref s.heap.objs.size, rawInt 0, .none, .none] }) rfl
    rw [sz] at z
    exact z
  refine callType_new F.called_enumerate (by decide) (F.typeCall_enumerate_1 _) (F.newCall_enumerate_1 _) (fun obj => F.args_object_init_2 obj _) F.entry_enumerate_new (meets_one B) ⟨h1, ?_⟩
  rw [sz]
  exact ⟨⟨_, at_, rfl⟩, k _ at_ (Heap.get?_push_of_some _ (Heap.get?_push_size _ B.free)) fun b u x => Heap.get?_push_of_some _ (Heap.get?_push_of_some _ x)⟩
def iEnS (ta : TA) : TI := fun σ H R => ta σ H fun vs H1 => ∃ x, vs = [.str x] ∧ R (EnS x) H1
def iEnT (K : PySem.W.Frag) (ta : TA) : TI := fun σ H R => ta σ H fun vs H1 => ∃ a xs, vs = [.ref a] ∧ SqT K H1 a xs ∧ R (EnT K a xs) H1
section
variable {X : Cx} {e : Expr} {ta : TA} {p pos tpos : Pos} {elts : List Expr} {kk : Nat}
theorem two_new {pins : List (Addr × Obj)} {σ : L2.St} {H : Hp} {s : Shared} (I : Inv X pins σ H s) : ∀ b ∈ [s.heap.objs.size + 1, s.heap.objs.size], FpOk X pins H b := fun b hb => by
  have le : s.heap.objs.size ≤ b := by
    obtain z | z := List.mem_cons.mp hb
    · rw [z]
      exact Nat.le_succ _
    · rw [List.mem_singleton.mp z]
      exact Nat.le_refl _
  exact I.fpOk le (I.hok.fresh le)
theorem pi_enS (hg : Gl X "enumerate") (hm : X.mg "enumerate" = none) (ha : PA X [e] ta) (hs : starEach [e] X.env = [(false, eval e X.env)] := by rfl) : PI X (.Tuple elts kk tpos) (.Call (.Name "enumerate" p) [e] [] pos) (iEnS ta) := by
  refine ⟨fun pins s σ H R I h => Call_ (ld_blt I hg hm boot_enumerate (PyProof.Rows.callWith_type1 (thn (ha.run pos pins s σ H _ I h) fun us s1 ⟨vs, H1, I1, r1, x, ex, q⟩ => ?_) hs rfl))⟩
  subst ex
  obtain ⟨u, rfl, t, rfl⟩ := r1.one
  refine call_one (PySem.begins_text x t) trivial fun h1 he hi kp => wpAny_pyIter_enum he ?_
  exact ⟨s1.heap.objs.size + 1, _, _, _, H1, rfl, I1.kept (t' := s1.toks) kp, turn_enS x t _ s1.heap.objs.size, ⟨⟨.none, he⟩, ⟨_, hi, rfl, rfl⟩, Nat.succ_ne_self _⟩, two_new I1, q⟩
theorem pi_enT (hg : Gl X "enumerate") (hm : X.mg "enumerate" = none) (ha : PA X [e] ta) (hs : starEach [e] X.env = [(false, eval e X.env)] := by rfl) : PI X (.Tuple elts kk tpos) (.Call (.Name "enumerate" p) [e] [] pos) (iEnT X.K ta) := by
  refine ⟨fun pins s σ H R I h => Call_ (ld_blt I hg hm boot_enumerate (PyProof.Rows.callWith_type1 (thn (ha.run pos pins s σ H _ I h) fun us s1 ⟨vs, H1, I1, r1, a, xs, ex, hT, q⟩ => ?_) hs rfl))⟩
  subst ex
  obtain ⟨u, rfl, rfl⟩ := r1.one
  obtain ⟨its, rv, pt, _⟩ := I1.tuple hT
  obtain ⟨o, ho, _⟩ := id pt
  have lt := Heap.lt_size ho
  refine call_one (PySem.begins_tuple a its.toArray) (DQT pt) fun h1 he hi kp => wpAny_pyIter_enum he ?_
  exact ⟨s1.heap.objs.size + 1, _, _, _, H1, rfl, I1.kept (t' := s1.toks) kp, turn_enT a xs _ s1.heap.objs.size, ⟨⟨.none, he⟩, ⟨_, hi, rfl, rfl⟩, Nat.succ_ne_self _, Nat.ne_of_gt (Nat.lt_succ_of_lt lt), Nat.ne_of_lt lt⟩, two_new I1, q⟩
end
theorem walk_enS {z : Str} : Walk (EnS z) z.cps.size (fun _ => True) (fun i H v H' => ∃ T c, v = .ref T ∧ H T = none ∧ H' = upd H T (.tup [.int (i : Nat), .str ⟨#[c]⟩]) ∧ z.cps[i]? = some c) := ⟨fun _ _ hi _ => hi, fun _ _ => rfl, fun _ _ _ _ _ _ y => y⟩
theorem walk_enT {K : PySem.W.Frag} {a : Addr} {xs : List V} : Walk (EnT K a xs) xs.length (fun H => SqT K H a xs) (fun i H v H' => ∃ T y, v = .ref T ∧ H T = none ∧ H' = upd H T (.tup [.int (i : Nat), y]) ∧ xs[i]? = some y) := ⟨fun _ _ hi q => ⟨q, hi⟩, fun _ q => ⟨q, rfl⟩, fun _ _ _ _ _ _ y => y⟩
end ENU
set_option Elab.async false
set_option linter.all false
set_option maxRecDepth 100000
set_option maxHeartbeats 8000000
namespace L2
open PySem PySem.Spec PyProof.Rows
section
variable {X : Cx}
/-- y = {k: v for .. in ..} -/
theorem ps_setDc {i : Nat} {y : Str} {py pos spos : Pos} {kx vx tg iter : Expr} {ifs : List Expr} {scope : Scope} {own : List (Str × Nat)} {wi : TI} {g : TG} {tt : TT} {tk tv : TE} (hc : X.calm = true) (hN : X.N.Nodup) (hy : X.N[i]? = some y) (hyl : X.env.scope.names.lookup y = some .local)
    (hsw : swapsWith (.DictComp kx vx [⟨tg, iter, ifs, 0⟩] scope pos) (some (.Name y py)) spos.line X.env = pure true) (hi : PI X tg iter wi) (ok : BlkOk X.N X.env.scope scope own)
    (hg : ∀ s H C cl fp, PG (X.blk s H scope (compEnvC scope cl C X.env) fp) tg g) (ht : ∀ s H C cl fp, PTs (X.blk s H scope (compEnvC scope cl C X.env) fp) ifs tt) (hk : ∀ s H C cl fp, PE (X.blk s H scope (compEnvC scope cl C X.env) fp) kx tk) (he : ∀ s H C cl fp, PE (X.blk s H scope (compEnvC scope cl C X.env) fp) vx tv)
    (hs : ∀ x, foldedSetIterable iter X.env x = pure x := by intro _; rfl) : PS X (.Assign [.Name y py] (.DictComp kx vx [⟨tg, iter, ifs, 0⟩] scope pos) spos) (tAsg (tDc wi g tt tk tv (own.map (·.2))) (gName i)) := by
  refine ⟨fun pins s σ H D I h => ?_⟩
  have made : wpAny (model X.prog X.w) X.A (comprehension (.DictComp kx vx [⟨tg, iter, ifs, 0⟩] scope pos) scope X.env (firstIterPos [⟨tg, iter, ifs, 0⟩] pos) newDict false (eval iter X.env) (some (assign (.Name y py) X.env))) (fun _ s' => SP X pins D .next s') X.xe s := by
    refine dc_core hc hN I hi ok hg ht hk he hs (Q := fun x H1 => gName i x σ H1 D.nx) h fun L C s' m H' I' q hn f => ?_
    obtain ⟨g0, g1, _, g3, g4, g5⟩ := f
    show wpAny (model X.prog X.w) X.A (assign (.Name y py) X.env (.ref L)) _ X.xe _
    refine wpAny_assign_Name (store_ok2 (v := .ref L) I' hN hy (.inl hyl) rfl (fun s2 I2 z => ?_) (.inr hyl))
    obtain ⟨a, sb, at_⟩ := z
    exact ⟨m, hn.sameBut sb (at_.elim (fun z => z ▸ g1) fun z w => g4 y a z w.symm), fun h3 sb3 => ⟨_, H', I2.turned (t' := s2.toks) (fun b o hb e => (sb3.2 b hb).trans e) g0 g1 g3 g4 g5, q⟩⟩
  rw [exec_Assign_Name_used (hs := hsw)]
  refine wpAny_bind (wpAny_standAt ?_)
  refine wpAny_bind ?_
  show wpAny _ X.A (do let _ ← comprehension (.DictComp kx vx [⟨tg, iter, ifs, 0⟩] scope pos) scope X.env (firstIterPos [⟨tg, iter, ifs, 0⟩] pos) newDict false (eval iter X.env) (some (assign (.Name y py) X.env))) _ _ s
  exact wpAny_bind (thn made fun _ _ z => wpAny_pure (wpAny_pure z))
end
end L2
namespace LCX
open PySem L2 PyProof.Rows WK
/-- one turn of a dict's comprehension -/
abbrev DTurn (g : TG) (tt : TT) (tk tv : TE) (vs : List Nat) (σ : L2.St) (D : Addr) (x : V) (H : Hp) (N : Hp → Prop) : Prop := g x (wipe σ vs) H fun σ2 H2 => wipe σ2 vs = wipe σ vs ∧ tt σ2 H2 fun b H3 =>
  if b = true then tk σ2 H3 fun y H4 => tv σ2 H4 fun z H5 => ∃ kvs k, y = kV k ∧ H5 D = some (.dK kvs) ∧ kvs.length < sizeLine ∧ N (upd H5 D (.dK (putK kvs k z))) else N H3
abbrev DWent (J : It) (g : TG) (tt : TT) (tk tv : TE) (vs : List Nat) (σ : L2.St) (D : Addr) (H1 : Hp) (Qd : Hp → Prop) : Prop :=
  ∃ W : Nat → Nat → Hp → Prop, (∃ m, W 0 m (upd H1 D (.dK []))) ∧ ∀ j n G, W j n G → (J.stop j G ∧ Qd G) ∨ (J.go j G ∧ ∃ N : Hp → Prop, (∀ G', N G' → ∃ n', n' < n ∧ W (j + 1) n' G') ∧ ∀ v G', J.yld j G v G' → DTurn g tt tk tv vs σ D v G' N)
theorem dc_it {J : It} {n : Nat} {G : Hp → Prop} {Y : Nat → Hp → V → Hp → Prop} (wk : Walk J n G Y) {g : TG} {tt : TT} {tk tv : TE} {vs : List Nat} {σ : L2.St} {H1 : Hp} {D : Addr} {Qd : Hp → Prop} (Pv : Nat → Hp → Prop) (h0 : Pv 0 (upd H1 D (.dK []))) (hG : ∀ i H, i ≤ n → Pv i H → G H)
    (hs : ∀ i x H H', i < n → Pv i H → Y i H x H' → DTurn g tt tk tv vs σ D x H' (Pv (i + 1))) (hd : ∀ H, Pv n H → Qd H) : DWent J g tt tk tv vs σ D H1 Qd := by
  refine ⟨fun i m H => m + i = n ∧ Pv i H, ⟨n, rfl, h0⟩, fun i m H ⟨e, p⟩ => ?_⟩
  have gd := hG i H (by omega) p
  rcases Nat.lt_or_ge i n with lt | ge
  · exact .inr ⟨wk.goes i H lt gd, Pv (i + 1), fun H' p' => ⟨m - 1, by omega, by omega, p'⟩, fun x H' y => hs i x H H' lt p (wk.yields i H x H' lt gd y)⟩
  · obtain rfl : i = n := by omega
    exact .inl ⟨wk.stops H gd, hd H p⟩
end LCX
namespace WK
open PySem L2 PyProof.Rows LCX K1
open TX (sg sigs)
open PySem.W (Frag kitOne)
abbrev sLed : Stmt := top 11
/-- one step, and the way of a word -/
def stepL (L : W) (tb : List (List Int)) (r : Int) (c : Nat) : Int := (tb.getD r.toNat []).getD (L.idxOf c) 0
def ledL (L : W) (tb : List (List Int)) (u : W) (st : Int) : Int := u.foldl (stepL L tb) st
theorem stepL_in {L : W} {tb : List (List Int)} {n r : Int} {c : Nat} (ok : TabOk tb L.length n) (hr : 0 ≤ r ∧ r < n) (hc : c ∈ L) : 0 ≤ stepL L tb r c ∧ stepL L tb r c < n := by
  have hl := ok.len
  have h1 : r.toNat < tb.length := by omega
  have e1 : tb.getD r.toNat [] = tb[r.toNat] := by rw [List.getD_eq_getElem?_getD, List.getElem?_eq_getElem h1] <;> rfl
  obtain ⟨a, b⟩ := ok.row _ (List.getElem_mem h1)
  have h2 : L.idxOf c < tb[r.toNat].length := by rw [a]; exact List.idxOf_lt_length_of_mem hc
  unfold stepL
  rw [e1, List.getD_eq_getElem?_getD, List.getElem?_eq_getElem h2]
  exact b _ (List.getElem_mem h2)
theorem Objs.get {mk : List Int → HO} {H : Hp} : ∀ {as : List Addr} {rs : List (List Int)} {i : Nat}, Objs mk H as rs → i < rs.length → ∃ a, as[i]? = some a ∧ H a = some (mk (rs.getD i []))
  | _ :: _, _ :: _, 0, h, _ => ⟨_, rfl, h.1⟩
  | _ :: _, _ :: _, _ + 1, h, hi => h.2.get (Nat.lt_of_succ_lt_succ hi)
  | [], _ :: _, _, h, _ => h.elim
  | _, [], _, _, hi => absurd hi (Nat.not_lt_zero _)
theorem ledL_snoc (L : W) (tb : List (List Int)) (u : W) (c : Nat) (st : Int) : ledL L tb (u ++ [c]) st = stepL L tb (ledL L tb u st) c := by
  unfold ledL
  rw [List.foldl_append] <;> rfl
theorem ledL_in {L : W} {tb : List (List Int)} {n : Int} (ok : TabOk tb L.length n) : ∀ {u : W} {st : Int}, 0 ≤ st ∧ st < n → (∀ c ∈ u, c ∈ L) → 0 ≤ ledL L tb u st ∧ ledL L tb u st < n
  | [], _, h, _ => h
  | c :: u, st, h, hc => ledL_in ok (u := u) (stepL_in ok h (hc c (.head _))) fun d hd => hc d (.tail _ hd)
theorem nodup_of {L : W} (h : Let L) : L.Nodup := h.asc.imp fun z => Nat.ne_of_lt z
theorem idx_of {L : W} (h : L.Nodup) {i c : Nat} (e : L[i]? = some c) : L.idxOf c = i := by
  obtain ⟨hi, rfl⟩ := List.getElem?_eq_some_iff.mp e
  exact List.Nodup.idxOf_getElem h i hi
/-- a table in tuples at t -/
def TTab (K : Frag) (H : Hp) (t : Addr) (tb : List (List Int)) : Prop := ∃ ts : List Addr, SqT K H t (ts.map V.ref) ∧ Objs oTup H ts tb
theorem TTab.same {K : Frag} {H H' : Hp} {t : Addr} {tb : List (List Int)} (h : TTab K H t tb) (s : Same H H') : TTab K H' t tb := let ⟨ts, a, b⟩ := h; ⟨ts, seqT s a, b.to fun _ _ _ z => s _ _ z⟩
def spLed (K : Frag) : Sp := fun vs H Q _ => ∃ (t : Addr) (L u : W) (tb : List (List Int)) (n st : Int), vs = [.str (tx L), .ref t, .str (tx u), .int st] ∧ TTab K H t tb ∧ Let L ∧ TabOk tb L.length n ∧ n ≤ 1000 ∧ 0 ≤ st ∧ st < n ∧ u.length ≤ 1000 ∧ (∀ c ∈ u, c ∈ L) ∧
  ∀ H', Same H H' → Q (.int (ledL L tb u st)) H'
abbrev NLd : List Str := ["letters", "table", "word", "start", "columns", "row", "letter", "at"]
section
variable {P : Program} {w : World} {K : PySem.W.Frag} {mg : Str → Option Value} {base : Heap}
theorem scLd : FnScope NLd ["letters", "table", "word", "start"] (defScope sLed) := ⟨rfl, rfl, rfl, by decide +kernel, rfl, by decide +kernel, by decide +kernel⟩
theorem ok_led {f : Addr} {fd : FuncData} (F : Fun K "led" "led" sLed f fd) (en : mg "enumerate" = none) : FnOk P w K mg base CX0 1 f fd ["letters", "table", "word", "start"] (spLed K) := by
  refine F.ok scLd (fun vs H Q E h => ?_) (fun cdv A outer s H vs Q E hr h => ?_)
  · obtain ⟨t, L, u, tb, n, st, rfl, _⟩ := h
    rfl
  · obtain ⟨t, L, u, tb, n, st, rfl, hT, hL, ok, hn, s0, s1, hu, hc, q⟩ := h
    have hub := hu_of hr
    refine ⟨_, pss_cons (ps_setDc (i := 4) (own := [("at", 7), ("letter", 6)]) (g := gTup K 2 (gCons (gName 7) (gCons (gName 6) gNil))) (tt := tYes) (tk := tVar 6) (tv := tVar 7) rfl scLd.nd rfl rfl (by rfl) (ENU.pi_enS rfl en (pa_cons (pv 0) pa_nil))
        (blkOk_by (own := [("at", 7), ("letter", 6)]) (N := NLd) (sc := defScope sLed) (by decide +kernel)) (fun _ _ _ _ _ => pg_tup (by rfl) (pgs_cons (pg_name (i := 7) scLd.nd rfl (Or.inl rfl)) (pgs_cons (pg_name (i := 6) scLd.nd rfl (Or.inl rfl)) pgs_nil))) (fun _ _ _ _ _ => pts_nil)
        (fun _ _ _ _ _ => pv 6) (fun _ _ _ _ _ => pv 7))
      (pss_cons (ps_set (i := 5) scLd.nd rfl (Or.inl rfl) (pv 3))
      (pss_cons (ps_for PassesOwn.never rfl (pi_str (pv 2)) (pg_name (i := 6) scLd.nd rfl (Or.inl rfl))
        (pss_one (ps_set (i := 5) scLd.nd rfl (Or.inl rfl) (pe_ix ix_tup (pe_ix ix_tup (pv 1) (pv 5) (fun _ _ => rfl)) (pe_dget hub (pv 4) (pv 6) (fun _ _ => rfl)) (fun _ _ => rfl)))))
      (pss_one (ps_ret (pv 5))))), ?_⟩
    have hnd := nodup_of hL
    refine ⟨_, rfl, tx L, rfl, fun D hD => ?_⟩
    refine dc_it ENU.walk_enS (fun i H3 => Same H H3 ∧ ∃ kvs : List (Key × V), H3 D = some (.dK kvs) ∧ kvs.length ≤ i ∧ ∀ c ∈ L.take i, valV kvs (Sum.inr (sg c) : Key) = some (.int ((L.idxOf c : Nat) : Int))) ⟨same_upd hD, [], upd_same, Nat.le_refl _, fun c hc => by simp at hc⟩ (fun _ _ _ _ => trivial) ?_ ?_
    · rintro i x H3 H4 hi ⟨s3, kvs, hd, hl, hv⟩ ⟨T, c, rfl, hT2, rfl, hx⟩
      have hx' : L[i]? = some c := by
        rw [← Array.getElem?_toList, tx_list] at hx
        exact hx
      have hi' : i < L.length := (List.getElem?_eq_some_iff.mp hx').1
      have s4 : Same H3 (upd H3 T (.tup [.int (i : Nat), .str ⟨#[c]⟩])) := same_upd hT2
      refine ⟨T, _, rfl, SqT.of upd_same, rfl, _, _, rfl, _, _, rfl, rfl, rfl, _, rfl, _, rfl, kvs, Sum.inr (sg c), rfl, s4 _ _ hd, by have := hL.few; rw [sizeLine_eq]; omega, same_at (s3.trans s4) hD, _, upd_same, ?_, fun d hd2 => ?_⟩
      · have := length_putK kvs (Sum.inr (sg c) : Key) (.int (i : Nat))
        omega
      · rw [valV_put]
        by_cases e : d = c
        · rw [if_pos (by rw [e]), e, idx_of hnd hx']
        · rw [if_neg fun z => e (TX.sg_inj (Sum.inr.inj z))]
          refine hv d ?_
          rw [List.take_add_one, hx'] at hd2
          rcases List.mem_append.mp hd2 with z | z
          · exact z
          · exact absurd (by simpa using z) e
    · rintro H3 ⟨s3, kvs, hd, hl, hv⟩
      rw [size_tx, List.take_length] at hv
      refine ⟨_, rfl, _, rfl, tx u, rfl, ?_⟩
      refine for_it walk_str (fun i σ H1 => H1 = H3 ∧ ∃ l : Option V, σ = [some (.str (tx L)), some (.ref t), some (.str (tx u)), some (.int st), some (.ref D), some (.int (ledL L tb (u.take i) st)), l, none]) ⟨rfl, none, rfl⟩ (fun _ _ _ _ _ => trivial) ?_ ?_
      · rintro i x σ H1 H2 hi ⟨rfl, l, rfl⟩ ⟨rfl, c, hx, rfl⟩
        have hx' : u[i]? = some c := by
          rw [← Array.getElem?_toList, tx_list] at hx
          exact hx
        have hcL : c ∈ L := hc c (List.mem_of_getElem? hx')
        have hin := ledL_in ok (u := u.take i) (st := st) ⟨s0, s1⟩ fun d hd => hc d (List.mem_of_mem_take hd)
        obtain ⟨ts, h1, h2⟩ := hT.same s3
        have hrl : (ledL L tb (u.take i) st).toNat < tb.length := by have := ok.len; omega
        obtain ⟨a, e1, e2⟩ := h2.get hrl
        have at1 : atI (ts.map V.ref) (ledL L tb (u.take i) st) = some (.ref a) := by
          have e3 : ledL L tb (u.take i) st = (((ledL L tb (u.take i) st).toNat : Nat) : Int) := by omega
          rw [e3]
          exact atI_nat (by rw [List.getElem?_map, e1] <;> rfl)
        have e4 : tb.getD (ledL L tb (u.take i) st).toNat [] = tb[(ledL L tb (u.take i) st).toNat] := by rw [List.getD_eq_getElem?_getD, List.getElem?_eq_getElem hrl] <;> rfl
        have hil : L.idxOf c < (tb.getD (ledL L tb (u.take i) st).toNat []).length := by rw [e4, (ok.row _ (List.getElem_mem hrl)).1]; exact List.idxOf_lt_length_of_mem hcL
        have at2 : atI ((tb.getD (ledL L tb (u.take i) st).toNat []).map V.int) ((L.idxOf c : Nat) : Int) = some (.int (stepL L tb (ledL L tb (u.take i) st) c)) := by
          refine atI_nat ?_
          unfold stepL
          rw [List.getElem?_map, List.getD_eq_getElem?_getD (l := tb.getD _ _), List.getElem?_eq_getElem hil] <;> rfl
        refine ⟨_, rfl, _, rfl, t, _, _, _, rfl, rfl, h1, at1, _, rfl, _, rfl, D, _, rfl, (hv c hcL) ▸ DGet.k (k := Sum.inr (sg c)) hd, a, _, _, _, rfl, rfl, SqT.of e2, at2, rfl, some (.str (sg c)), ?_⟩
        rw [List.take_add_one, hx']
        show _ = [_, _, _, _, _, some (V.int (ledL L tb (u.take i ++ [c]) st)), _, _]
        rw [ledL_snoc] <;> rfl
      · rintro σ H1 ⟨rfl, l, rfl⟩
        rw [size_tx, List.take_length]
        exact ⟨_, rfl, q _ s3⟩
end
end WK
set_option Elab.async false
set_option linter.all false
set_option maxRecDepth 100000
set_option maxHeartbeats 8000000
namespace WK
open PySem L2 PyProof.Rows LCX K1 FV DP
open TX (sg sigs)
open PySem.W (Frag kitOne)
abbrev sWays : Stmt := top 13
def addN (o : List Int) (a : Int) : List Int := if a ∈ o then o else o ++ [a]
/-- what is met when j rows are done -/
def wyA (tb : List (List Int)) (st : Int) : Nat → List Int
  | 0 => [st]
  | j + 1 => match (wyA tb st j)[j]? with
    | some r => (tb.getD r.toNat []).foldl addN (wyA tb st j)
    | none => wyA tb st j
abbrev rngI (n : Nat) : List Int := (List.range n).map fun i => ((i : Nat) : Int)
theorem addN_grows (o : List Int) (a : Int) : o <+: addN o a := by
  unfold addN
  split
  · exact List.prefix_refl _
  · exact List.prefix_append _ _
theorem addF_grows : ∀ (l o : List Int), o <+: l.foldl addN o
  | [], _ => List.prefix_refl _
  | a :: l, o => (addN_grows o a).trans (addF_grows l _)
theorem wyA_at {tb : List (List Int)} {st r : Int} {j : Nat} (h : (wyA tb st j)[j]? = some r) : wyA tb st (j + 1) = (tb.getD r.toNat []).foldl addN (wyA tb st j) := by
  show (match (wyA tb st j)[j]? with | some r => _ | none => _) = _
  rw [h]
theorem wyA_stop {tb : List (List Int)} {st : Int} {j : Nat} (h : (wyA tb st j).length ≤ j) : ∀ m, wyA tb st (j + m) = wyA tb st j
  | 0 => rfl
  | m + 1 => by
    have ih := wyA_stop h m
    show (match (wyA tb st (j + m))[j + m]? with | some r => _ | none => _) = _
    rw [List.getElem?_eq_none (by rw [ih]; omega)]
    exact ih
/-- numbers below n, each once -/
structure Few (n : Int) (o : List Int) : Prop where
  nd : o.Nodup
  in_ : ∀ a ∈ o, 0 ≤ a ∧ a < n
theorem Few.add {n a : Int} {o : List Int} (h : Few n o) (ha : 0 ≤ a ∧ a < n) : Few n (addN o a) := by
  unfold addN
  by_cases e : a ∈ o
  · rw [if_pos e]
    exact h
  · rw [if_neg e]
    refine ⟨List.nodup_append.mpr ⟨h.nd, List.nodup_cons.mpr ⟨List.not_mem_nil, List.nodup_nil⟩, fun x hx y hy z => ?_⟩, fun x hx => ?_⟩
    · rw [List.mem_singleton.mp hy] at z
      exact e (z ▸ hx)
    · rcases List.mem_append.mp hx with z | z
      · exact h.in_ x z
      · rw [List.mem_singleton.mp z]
        exact ha
theorem Few.len {n : Int} {o : List Int} (h : Few n o) : (o.length : Int) ≤ n ∨ o = [] := by
  cases o with
  | nil => exact .inr rfl
  | cons a o =>
    refine .inl ?_
    have h0 := h.in_ a (.head _)
    have sub : (a :: o) ⊆ rngI n.toNat := fun x hx => by
      have := h.in_ x hx
      exact List.mem_map.mpr ⟨x.toNat, List.mem_range.mpr (by omega), by omega⟩
    have := h.nd.length_le_of_subset sub
    rw [List.length_map, List.length_range] at this
    omega
def Keys (kvs : List (Key × V)) (o : List Int) : Prop := kvs.map (·.1) = o.map (Sum.inl : Int → Key)
theorem Keys.len {kvs : List (Key × V)} {o : List Int} (h : Keys kvs o) : kvs.length = o.length := by
  have := congrArg List.length h
  rw [List.length_map, List.length_map] at this
  exact this
theorem Keys.val {kvs : List (Key × V)} {o : List Int} (h : Keys kvs o) (a : Int) : valV kvs (Sum.inl a : Key) ≠ none ↔ a ∈ o := by
  have e1 : (Sum.inl a : Key) ∈ kvs.map (·.1) ↔ a ∈ o := by
    rw [show kvs.map (·.1) = _ from h, List.mem_map]
    exact ⟨fun ⟨b, hb, e⟩ => Sum.inl.inj e ▸ hb, fun hb => ⟨a, hb, rfl⟩⟩
  rw [← e1]
  unfold valV
  rw [List.mem_map, ne_eq, Option.map_eq_none_iff, List.find?_eq_none]
  constructor
  · intro z
    rcases Classical.em (∃ p, p ∈ kvs ∧ p.1 = (Sum.inl a : Key)) with y | y
    · exact y
    · exact absurd (fun p hp q => y ⟨p, hp, of_decide_eq_true q⟩) z
  · rintro ⟨p, hp, e⟩ z
    exact z p hp (decide_eq_true e)
theorem Keys.put {kvs : List (Key × V)} {o : List Int} (h : Keys kvs o) {a : Int} (ha : a ∉ o) (v : V) : Keys (putK kvs (Sum.inl a : Key) v) (o ++ [a]) := by
  have : valV kvs (Sum.inl a : Key) = none := Classical.byContradiction fun z => ha ((h.val a).mp z)
  rw [putK_new v this]
  unfold Keys
  rw [List.map_append, List.map_append, show kvs.map (·.1) = _ from h] <;> rfl
def spWays (K : Frag) : Sp := fun vs H Q _ => ∃ (t : Addr) (tb : List (List Int)) (wd : Nat) (n st : Int), vs = [.ref t, .int st] ∧ TTab K H t tb ∧ TabOk tb wd n ∧ n ≤ 1000 ∧ wd ≤ 1000 ∧ 0 ≤ st ∧ st < n ∧
  ∀ D kvs H', H D = none → Same H H' → H' D = some (.dK kvs) → Keys kvs (wyA tb st tb.length) → Few n (wyA tb st tb.length) → Q (.ref D) H'
def doneOf (σ : L2.St) : Nat := match σ[4]? with
  | some (some (V.int j)) => j.toNat
  | _ => 0
abbrev NWy : List Str := ["table", "start", "found", "queue", "done", "row", "column", "after"]
section
variable {P : Program} {w : World} {K : PySem.W.Frag} {mg : Str → Option Value} {base : Heap}
theorem scWy : FnScope NWy ["table", "start"] (defScope sWays) := ⟨rfl, rfl, rfl, by decide +kernel, rfl, by decide +kernel, by decide +kernel⟩
theorem ok_ways {f : Addr} {fd : FuncData} (F : Fun K "ways" "ways" sWays f fd) (T : TN mg) (en : mg "enumerate" = none) : FnOk P w K mg base CX0 1 f fd ["table", "start"] (spWays K) := by
  refine F.ok scWy (fun vs H Q E h => ?_) (fun cdv A outer s H vs Q E hr h => ?_)
  · obtain ⟨t, tb, wd, n, st, rfl, _⟩ := h
    rfl
  · obtain ⟨t, tb, wd, n, st, rfl, hT, ok, hn, hw, s0, s1, q⟩ := h
    have hub := hu_of hr
    refine ⟨_, pss_cons (ps_set (i := 2) scWy.nd rfl (Or.inl rfl) (pe_disp1 (Nat.lt_of_succ_lt hub) (pv 1) pe_non))
      (pss_cons (ps_set (i := 3) scWy.nd rfl (Or.inl rfl) (pe_lst (pa_cons (pv 1) pa_nil)))
      (pss_cons (ps_set (i := 4) scWy.nd rfl (Or.inl rfl) pe_int)
      (pss_cons (ps_while PassesOwn.never (pt_cmpR op_lt (pv 4) (pe_callB call_len_seq (by rfl) T.len PySem.boot_len (pa_cons (pv 3) pa_nil)) (nomark _))
        (pss_cons (ps_set (i := 5) scWy.nd rfl (Or.inl rfl) (pe_ix ix_list (pv 3) (pv 4) (fun _ _ => rfl)))
        (pss_cons (ps_aug (i := 4) scWy.nd rfl (Or.inl rfl) pe_int ip_add)
        (pss_one (ps_for PassesOwn.never rfl (ENU.pi_enT rfl en (pa_cons (pe_ix ix_tup (pv 0) (pv 5) (fun _ _ => rfl)) pa_nil)) (pg_tup (by rfl) (pgs_cons (pg_name (i := 6) scWy.nd rfl (Or.inl rfl)) (pgs_cons (pg_name (i := 7) scWy.nd rfl (Or.inl rfl)) pgs_nil)))
          (pss_one (ps_if (pt_cmp (pc_dnotin hub (pv 7) (pv 2)))
            (pss_cons (ps_dput hub (pv 2) (pv 7) (pe_tup (pa_cons (pv 5) (pa_cons (pv 6) pa_nil))) rfl)
            (pss_one (ps_expr (pe_bm PySem.F.plainAttrs_list PySem.F.slot_list_append PySem.F.type_list_append mt_append (pv 3) (pa_cons (pv 7) pa_nil))))) pss_nil)))))))
      (pss_one (ps_ret (pv 2)))))), ?_⟩
    refine ⟨.dK [], .inl rfl, fun D hD => ⟨_, rfl, _, DPut.k (kvs := []) (k := (Sum.inl st : Key)) upd_same (by show 0 < sizeLine; decide), ?_⟩⟩
    rw [upd_upd]
    refine ⟨_, rfl, by show 1 ≤ sizeLine; decide, fun M hM => ?_⟩
    have nD : H D = none := hD
    have nDM : D ≠ M := fun z => by rw [← z, upd_same] at hM; cases hM
    have nM : H M = none := (same_upd hD).free hM
    have hrow : ∀ r : Int, 0 ≤ r → r < n → (tb.getD r.toNat []) ∈ tb := fun r h0 h1 => by
      have hl := ok.len
      have : r.toNat < tb.length := by omega
      rw [List.getD_eq_getElem?_getD, List.getElem?_eq_getElem this]
      exact List.getElem_mem this
    refine while_by (fun σ H2 => ∃ (j : Nat) (kvs : List (Key × V)) (x5 x6 x7 : Option V), Same H H2 ∧ H2 D = some (.dK kvs) ∧ Keys kvs (wyA tb st j) ∧ H2 M = some (.lst ((wyA tb st j).map V.int)) ∧ Few n (wyA tb st j) ∧ j ≤ (wyA tb st j).length ∧
      σ = [some (.ref t), some (.int st), some (.ref D), some (.ref M), some (.int (j : Nat)), x5, x6, x7]) (fun σ _ => n.toNat - doneOf σ) ?_ ?_ ?_
    · refine ⟨0, _, none, none, none, same_two (same_upd hD) hM, same_upd hM _ _ upd_same, rfl, ?_, ⟨List.nodup_cons.mpr ⟨List.not_mem_nil, List.nodup_nil⟩, fun a ha => ?_⟩, Nat.zero_le _, rfl⟩
      · exact upd_same
      · rw [List.mem_singleton.mp ha]
        exact ⟨s0, s1⟩
    · rintro σ H2 ⟨j, kvs, x5, x6, x7, s2, hd, keys, hm, few, hle, rfl⟩
      have hlen : ((wyA tb st j).length : Int) ≤ n := few.len.elim id fun z => by rw [z]; show (0 : Int) ≤ n; omega
      refine ⟨_, rfl, _, rfl, M, _, rfl, .inl (SqL.of hm), _, _, rfl, rfl, _, rfl, ?_⟩
      rw [List.length_map]
      refine ite2 (fun hlt => ?_) (fun hge => ?_)
      · have hlt : ((j : Nat) : Int) < (((wyA tb st j).length : Nat) : Int) := of_decide_eq_true hlt
        have hlt : j < (wyA tb st j).length := by omega
        obtain ⟨r, hr2⟩ : ∃ r, (wyA tb st j)[j]? = some r := ⟨_, List.getElem?_eq_getElem hlt⟩
        have hrin := few.in_ r (List.mem_of_getElem? hr2)
        have hstep := wyA_at hr2
        obtain ⟨ts, h1, h2⟩ := hT.same s2
        have hrl : r.toNat < tb.length := by have := ok.len; omega
        obtain ⟨a, e1, e2⟩ := h2.get hrl
        have at1 : atI (ts.map V.ref) r = some (.ref a) := by
          have e3 : r = ((r.toNat : Nat) : Int) := by omega
          rw [e3]
          exact atI_nat (by rw [List.getElem?_map, e1] <;> rfl)
        obtain ⟨rl, rb⟩ := ok.row _ (hrow r hrin.1 hrin.2)
        generalize tb.getD r.toNat [] = row at hstep e2 rl rb
        generalize hks : wyA tb st j = o at hr2 hstep hlen hlt hle hm keys few
        refine ⟨_, rfl, _, rfl, M, _, _, _, rfl, rfl, SqL.of hm, atI_nat (by rw [List.getElem?_map, hr2] <;> rfl), ?_⟩
        refine ⟨_, rfl, _, _, rfl, rfl, ?_⟩
        refine ⟨_, rfl, _, rfl, t, _, _, _, rfl, rfl, h1, at1, a, _, rfl, SqT.of e2, ?_⟩
        have naD : a ≠ D := fun z => by rw [z, hd] at e2; cases e2
        have naM : a ≠ M := fun z => by rw [z, hm] at e2; cases e2
        refine for_it ENU.walk_enT (fun i σ H3 => ∃ (kvs : List (Key × V)) (x6 x7 : Option V), Same H H3 ∧ H3 a = some (oTup row) ∧ H3 D = some (.dK kvs) ∧ Keys kvs ((row.take i).foldl addN o) ∧ H3 M = some (.lst (((row.take i).foldl addN o).map V.int)) ∧ Few n ((row.take i).foldl addN o) ∧
          σ = [some (.ref t), some (.int st), some (.ref D), some (.ref M), some (.int ((j : Int) + 1)), some (.int r), x6, x7]) ?_ (fun i σ H3 _ ⟨_, _, _, _, h, _⟩ => SqT.of h) ?_ ?_
        · exact ⟨kvs, x6, x7, s2, e2, hd, keys, hm, few, rfl⟩
        · rintro i x σ H3 H4 hi ⟨kvs, x6, x7, s3, ha3, hd3, keys3, hm3, few3, rfl⟩ ⟨T2, y, rfl, hT2, rfl, hy⟩
          rw [List.getElem?_map] at hy
          cases hc : row[i]? with
          | none => rw [hc] at hy; cases hy
          | some y2 =>
            rw [hc] at hy
            obtain rfl : V.int y2 = y := Option.some.inj hy
            have yin := rb y2 (List.mem_of_getElem? hc)
            have tk : (row.take (i + 1)).foldl addN o = addN ((row.take i).foldl addN o) y2 := by
              rw [List.take_add_one, hc, List.foldl_append] <;> rfl
            rw [tk]
            generalize (row.take i).foldl addN o = o3 at keys3 hm3 few3 ⊢
            have hlen3 : (o3.length : Int) ≤ n := few3.len.elim id fun z => by rw [z]; show (0 : Int) ≤ n; omega
            have s4 : Same H3 (upd H3 T2 (.tup [.int (i : Nat), .int y2])) := same_upd hT2
            have ha4 := s4 _ _ ha3
            have hd4 := s4 _ _ hd3
            have hm4 := s4 _ _ hm3
            have tu : (upd H3 T2 (.tup [.int (i : Nat), .int y2])) T2 = some (.tup [.int (i : Nat), .int y2]) := upd_same
            have s04 := s3.trans s4
            generalize upd H3 T2 (.tup [.int (i : Nat), .int y2]) = H4 at ha4 hd4 hm4 tu s04 ⊢
            refine ⟨T2, _, rfl, SqT.of tu, rfl, _, _, rfl, _, _, rfl, rfl, ?_⟩
            refine ⟨_, rfl, _, rfl, D, _, rfl, DGet.k (k := (Sum.inl y2 : Key)) hd4, _, rfl, ?_⟩
            by_cases hin : y2 ∈ o3
            · obtain ⟨v, hv⟩ := Option.ne_none_iff_exists'.mp ((keys3.val y2).mpr hin)
              rw [hv]
              refine iteF ?_
              refine ⟨kvs, _, _, s04, ha4, hd4, ?_, ?_, ?_, rfl⟩
              · unfold addN
                rw [if_pos hin]
                exact keys3
              · unfold addN
                rw [if_pos hin]
                exact hm4
              · unfold addN
                rw [if_pos hin]
                exact few3
            · have hv : valV kvs (Sum.inl y2 : Key) = none := Classical.byContradiction fun z => hin ((keys3.val y2).mp z)
              rw [hv]
              refine iteT ?_
              refine ⟨_, rfl, _, rfl, by show 2 ≤ sizeLine; decide, fun T3 hT3 => ?_⟩
              have s5 : Same H4 (upd H4 T3 (.tup [.int r, .int (i : Nat)])) := same_upd hT3
              refine ⟨_, rfl, _, rfl, D, _, rfl, DPut.k (k := (Sum.inl y2 : Key)) (s5 _ _ hd4) (by rw [keys3.len, sizeLine_eq]; omega), ?_⟩
              have hd5 := s5 _ _ hd4
              have hm5 := s5 _ _ hm4
              have ha5 := s5 _ _ ha4
              have s05 := s04.trans s5
              generalize upd H4 T3 (.tup [.int r, .int (i : Nat)]) = H5 at hd5 hm5 ha5 s05 ⊢
              have hm6 : upd H5 D (.dK (putK kvs (Sum.inl y2) (.ref T3))) M = some (.lst (o3.map V.int)) := by
                rw [upd_ne (Ne.symm nDM)]
                exact hm5
              refine ⟨_, rfl, .inl ⟨rfl, _, SqL.of hm6⟩, _, rfl, M, _, _, rfl, rfl, hm6, by rw [List.length_map, sizeLine_eq]; omega, ?_⟩
              refine ⟨putK kvs (Sum.inl y2) (.ref T3), _, _, same_at (same_at s05 nD) nM, ?_, ?_, ?_, ?_, few3.add yin, rfl⟩
              · rw [upd_ne naM, upd_ne naD]
                exact ha5
              · rw [upd_ne nDM, upd_same]
              · unfold addN
                rw [if_neg hin]
                exact keys3.put hin _
              · rw [upd_same]
                unfold addN
                rw [if_neg hin, List.map_append] <;> rfl
        · rintro σ H3 ⟨kvs, x6, x7, s3, ha3, hd3, keys3, hm3, few3, rfl⟩
          rw [List.length_map, List.take_length, ← hstep] at keys3 hm3 few3
          refine ⟨⟨j + 1, kvs, _, _, _, s3, hd3, keys3, hm3, few3, ?_, rfl⟩, ?_⟩
          · have : o.length ≤ (wyA tb st (j + 1)).length := by rw [hstep]; exact (addF_grows row o).length_le
            omega
          · show n.toNat - ((j : Int) + 1).toNat < n.toNat - ((j : Int)).toNat
            omega
      · have hge : ¬ (((j : Nat) : Int) < (((wyA tb st j).length : Nat) : Int)) := fun z => hge (decide_eq_true z)
        have e1 : wyA tb st tb.length = wyA tb st j := by
          have h4 := wyA_stop (tb := tb) (st := st) (j := j) (by omega) (tb.length - j)
          have := ok.len
          rw [show j + (tb.length - j) = tb.length by omega] at h4
          exact h4
        refine ⟨_, rfl, q D kvs H2 hD s2 hd ?_ ?_⟩
        · rw [e1]
          exact keys
        · rw [e1]
          exact few
    · exact fun σ H Q Q' hm ⟨v, hv, w', hw, M2, ys2, e2, hs2, i, j, a, b, k, hk, q⟩ => ⟨v, hv, w', hw, M2, ys2, e2, hs2, i, j, a, b, k, hk, hm _ _ q⟩
abbrev sTrim : Stmt := top 15
abbrev scTI : Scope := { kind := .function, names := [(".0", .local), ("row", .local), ("tuple", .globalImplicit), ("numbers", .cell), ("table", .cell)], isGenerator := false, isCoroutine := false }
abbrev NTr : List Str := ["table", "start", "order", "numbers", "row", "at", "after"]
/-- all rows are met, each as its number tells -/
structure LeanT (tb : List (List Int)) : Prop where
  all : wyA tb 0 tb.length = rngI tb.length
theorem scTr : FnScope NTr ["table", "start"] (defScope sTrim) := ⟨rfl, rfl, rfl, by decide +kernel, rfl, by decide +kernel, by decide +kernel⟩
end
end WK
set_option Elab.async false
set_option linter.all false
set_option maxRecDepth 100000
set_option maxHeartbeats 8000000
namespace WK
open PySem L2 PyProof.Rows LCX K1 FV DP LamX NdefX
open TX (sg sigs)
open PySem.W (Frag kitOne)
theorem clo_only {cells : List (Str × Addr)} {y : Str} {c : Addr} : ∀ {names : List (Str × NameKind)} {acc : List (Str × Addr)}, (cloFrom cells names acc).lookup y = some c → (y, NameKind.free) ∈ names ∨ acc.lookup y = some c
  | [], _, h => .inr h
  | (n, k) :: r, acc, h => by
    unfold cloFrom at h
    by_cases hk : (k == NameKind.free) = true
    · rw [if_pos hk] at h
      rcases clo_only h with z | z
      · exact .inl (.tail _ z)
      · rw [List.lookup_cons] at z
        by_cases hy : (y == n) = true
        · have e1 : y = n := beq_iff_eq.mp hy
          have e2 : k = .free := by cases k <;> first | rfl | cases hk
          rw [e1, e2]
          exact .inl (.head _)
        · rw [show (y == n) = false from Bool.eq_false_iff.mpr hy] at z
          exact .inr z
    · rw [if_neg hk] at h
      rcases clo_only h with z | z
      · exact .inl (.tail _ z)
      · exact .inr z
end WK
set_option Elab.async false
set_option linter.all false
set_option maxRecDepth 100000
set_option maxHeartbeats 8000000
namespace WK
open PySem L2 PyProof.Rows LCX K1 FV DP LamX NdefX
open TX (sg sigs)
open PySem.W (Frag kitOne)
theorem Grows.refl {T : List (Addr × Str)} {H : Hp} (t : Tabs T H) : Grows T H H := ⟨ExtN.refl H, t, fun _ h => h⟩
theorem grows_same {T : List (Addr × Str)} {H H1 H2 : Hp} (a : Grows T H H1) (s : Same H1 H2) : Grows T H H2 := ⟨fun b o e n => s _ _ (a.1 b o e n), a.2.1.ext s, fun d n => a.2.2 d (s.free n)⟩
/-- what a call that was told of cells made, told without them -/
theorem same_off {cs : Cs} {H H' : Hp} (n : ∀ p ∈ cs, H p.1 = none) (s : Same (onn cs H) H') : Same H (off cs H') := fun b o e => by
  have nb : b ∉ cs.map (·.1) := fun z => by
    obtain ⟨p, hp, rfl⟩ := List.mem_map.mp z
    rw [n p hp] at e
    cases e
  rw [off_out nb]
  exact s b o (by rw [onn_out nb]; exact e)
theorem lay_same {cs : Cs} {H H' : Hp} (nd : (cs.map (·.1)).Nodup) (s : Same (onn cs H) H') : Lay cs H' := fun p hp => s _ _ (onn_lay nd p hp)
theorem madeAt_off {cs : Cs} {cD : Addr} {H : Hp} {g : Addr} {tb : List (List Int)} (l : Lay cs H) (m : MadeAt cD H g tb) : MadeAt cD (off cs H) g tb := by
  obtain ⟨dx, r, h1, ts, h2, h3⟩ := m
  exact ⟨dx, r, by rw [off_out (lay_not l h1 fun _ z => nomatch z)]; exact h1, ts, by rw [off_out (lay_not l h2 fun _ z => nomatch z)]; exact h2, h3.to fun a _ r z => by rw [off_out (lay_not l z fun _ z => nomatch z)]; exact z⟩
theorem off_keep {cs : Cs} {H : Hp} {b : Addr} {o : HO} (l : Lay cs H) (e : H b = some o) (n : ∀ φ, o ≠ .ext φ) : FV.off cs H b = some o := by
  rw [off_out (lay_not l e n)]
  exact e
theorem same_on {cs : Cs} {H H' : Hp} (l : Lay cs H) (nd : (cs.map (·.1)).Nodup) (s : Same (FV.off cs H) H') (n : ∀ p ∈ cs, H' p.1 = none) : Same H (onn cs H') := fun b o e => by
  by_cases hb : b ∈ cs.map (·.1)
  · obtain ⟨p, hp, rfl⟩ := List.mem_map.mp hb
    rw [onn_lay nd p hp, ← l p hp]
    exact e
  · rw [onn_out hb]
    exact s b o (by rw [off_out hb]; exact e)
theorem on_keep {cs : Cs} {H : Hp} {b : Addr} {o : HO} (n : ∀ p ∈ cs, H p.1 = none) (e : H b = some o) : onn cs H b = some o := by
  rw [onn_out fun z => ?_]
  · exact e
  · obtain ⟨p, hp, rfl⟩ := List.mem_map.mp z
    rw [n p hp] at e
    cases e
end WK
set_option Elab.async false
set_option linter.all false
set_option maxRecDepth 100000
set_option maxHeartbeats 8000000
namespace ZPT
open PySem PySem.Spec PyProof.Rows L2
/-- each sign with the tuple's item, in a new pair -/
def ZiST (K : PySem.W.Frag) (x : Str) (a : Addr) (ys : List V) : It :=
  ⟨fun i H => SqT K H a ys ∧ i < x.cps.size ∧ i < ys.length, fun i H v H' => ∃ T c y, v = .ref T ∧ H T = none ∧ H' = upd H T (.tup [.str ⟨#[c]⟩, y]) ∧ x.cps[i]? = some c ∧ ys[i]? = some y, fun i H => SqT K H a ys ∧ i = x.cps.size ∧ i ≤ ys.length⟩
theorem tup_is {h : Heap} {a : Addr} {its : Array Value} (p : IsTup h a its) : h.IsTuple a its := let ⟨o, e, c, n, d⟩ := p; ⟨o, e, c, n, d⟩
/-- where it stands, i pairs out -/
def At (x : Str) (t : Tok) (a z TI TO i1 i2 : Addr) (i : Nat) (h : Heap) : Prop :=
  IsZip h z TI TO .none ∧ IsTupOf2 h TI (.ref i1) (.ref i2) ∧ (∃ p q, IsTupOf2 h TO p q) ∧ h.IsStrIter i1 (strIterType x) x t i ∧ h.IsTupleIter i2 a i
theorem turn_st {P : Program} {w : World} {K : PySem.W.Frag} {elts : List Expr} {kk : Nat} {tpos : Pos} (x : Str) (t : Tok) (a : Addr) (ys : List V) {z TI TO i1 i2 : Addr} (S : ZipSep2 z TI TO i1 i2 [i1] [i2, a]) (hai : a ≠ i2) :
    Turn P w K (.Tuple elts kk tpos) (ZiST K x a ys) [z, TI, TO, i1, i2] z (At x t a z TI TO i1 i2) where
  mem := .head _
  obj := fun i h ⟨hz, h1, ⟨p, q, h2⟩, ⟨o3, h3, _, d3⟩, ⟨o4, h4, _, d4⟩⟩ b hb => by
    simp only [List.mem_cons, List.not_mem_nil, or_false] at hb
    rcases hb with rfl | rfl | rfl | rfl | rfl
    · exact ⟨_, hz, fun v q => nomatch q⟩
    · exact ⟨_, h1, fun v q => nomatch q⟩
    · exact ⟨_, h2, fun v q => nomatch q⟩
    · exact ⟨o3, h3, fun v q => nomatch d3.symm.trans q⟩
    · exact ⟨o4, h4, fun v q => nomatch d4.symm.trans q⟩
  keep := fun i h h' ⟨hz, h1, ⟨p, q, h2⟩, ⟨o3, e3, r3⟩, h4⟩ k => ⟨k z (by simp) _ hz, k TI (by simp) _ h1, ⟨p, q, k TO (by simp) _ h2⟩, ⟨o3, k i1 (by simp) _ e3, r3⟩, h4.at fun o e => k i2 (by simp) o e⟩
  item := by
    intro X hP hw hK hc i pins s σ H E I hf ⟨hz, h1, ⟨p, q, h2⟩, h3, h4⟩ ⟨hT, hi1, hi2⟩
    subst hP hw hK
    obtain ⟨its, rv, pt, _⟩ := I.tuple hT
    have hl : its.toArray.size = ys.length := by rw [List.size_toArray, rv.length]
    have D1 := Draws.text (prog := X.prog) (w := X.w) (A := X.A.in1) (I.ok.hd hc) i1 x t
    have D2 := Draws.tuple (prog := X.prog) (w := X.w) (A := X.A.in1) (I.ok.hd hc) i2 a hai its.toArray
    have zlt : z < s.heap.objs.size := Heap.lt_size hz
    have old : ∀ b ∈ [z, TI, TO, i1, i2], b < s.heap.objs.size := fun b hb => by
      simp only [List.mem_cons, List.not_mem_nil, or_false] at hb
      rcases hb with rfl | rfl | rfl | rfl | rfl
      · exact zlt
      · exact Heap.lt_size h1
      · exact Heap.lt_size h2
      · obtain ⟨o, e, _⟩ := h3
        exact Heap.lt_size e
      · obtain ⟨o, e, _⟩ := h4
        exact Heap.lt_size e
    refine wpAny_pyNext_zipD2_item S D1 D2 hz h1 h2 h3 ⟨h4, tup_is pt⟩ hi1 (by rw [hl]; exact hi2) fun u v h' tk hu hv z1 TO1 n1 n2 made size kp => ?_
    obtain ⟨c, tc, hc', rfl⟩ := hu
    obtain ⟨y, hy⟩ : ∃ y, ys[i]? = some y := ⟨_, List.getElem?_eq_getElem hi2⟩
    obtain ⟨v2, e2, ry⟩ := rv.get hy
    have ev : v2 = v := Option.some.inj (e2.symm.trans (by rw [← List.getElem?_toArray]; exact hv))
    subst ev
    refine ⟨_, rfl, wpAny_letOwnedTupleGo_zip (s := { s with heap := h', toks := tk }) z1 fun h'' z2 sb => ?_⟩
    have free : H s.heap.objs.size = none := I.hok.fresh (Nat.le_refl _)
    have pair : h''.get? s.heap.objs.size = some { cls := .type "tuple", data := .seq #[.str ⟨#[c]⟩ tc, v2] } := (sb.2 _ (Nat.ne_of_gt zlt)).trans made
    have new : ObjOk X.prog X.w (upd H s.heap.objs.size (.tup [.str ⟨#[c]⟩, y])) h'' s.heap.objs.size (.tup [.str ⟨#[c]⟩, y]) := ⟨by show 2 ≤ sizeLine; decide, [.str ⟨#[c]⟩ tc, v2], .cons ⟨tc, rfl⟩ (.cons ry .nil), _, pair, rfl, _, rfl⟩
    have stay : ∀ b o, b ∉ [z, TI, TO, i1, i2] → s.heap.get? b = some o → h''.get? b = some o := fun b o hb e => (sb.2 b fun w => hb (by simp [w])).trans (kp b o (fun w => hb (by simp [w])) (fun w => hb (by simp [w])) (fun w => hb (by simp [w])) (fun w => hb (by simp [w])) e)
    refine ⟨.ref s.heap.objs.size, _, I.turnedNew (ch := [z, TI, TO, i1, i2]) stay hf (Nat.le_refl _) new, rfl, ⟨_, c, y, rfl, free, rfl, hc', hy⟩, ⟨z2, ?_, ⟨_, _, (sb.2 _ S.TOz).trans TO1⟩, ?_, ?_⟩, fun b hb => ?_⟩
    · exact (sb.2 _ S.TIz).trans (kp _ _ S.TIz S.TITO S.TIi1 S.TIi2 h1)
    · obtain ⟨o, e, r⟩ := n1
      exact ⟨o, (sb.2 _ S.zi1.symm).trans e, r⟩
    · exact n2.1.at fun o e => (sb.2 _ S.zi2.symm).trans e
    · rw [upd_ne (Nat.ne_of_lt (old b hb))]
      exact (hf b hb).1
  done := by
    intro X hP hw hK hc i pins s σ H E I hf ⟨hz, h1, ⟨p, q, h2⟩, h3, h4⟩ ⟨hT, hi1, hi2⟩
    subst hP hw hK
    obtain ⟨its, rv, pt, _⟩ := I.tuple hT
    have hl : its.toArray.size = ys.length := by rw [List.size_toArray, rv.length]
    have D1 := Draws.text (prog := X.prog) (w := X.w) (A := X.A.in1) (I.ok.hd hc) i1 x t
    have D2 := Draws.tuple (prog := X.prog) (w := X.w) (A := X.A.in1) (I.ok.hd hc) i2 a hai its.toArray
    exact wpAny_pyNext_zipD2_end S D1 D2 hz h1 h2 h3 ⟨h4, tup_is pt⟩ (Nat.le_of_eq hi1) (by rw [hl]; exact hi2) (.inl hi1) fun h' tk kp => ⟨rfl, I.turnedL (t' := tk) (ch := [z, TI, TO, i1, i2]) (fun b o hb e =>
      kp b o (fun w => hb (by simp [w])) (fun w => hb (by simp [w])) (fun w => hb (by simp [w])) (fun w => hb (by simp [w])) e) hf⟩
  self := fun _ _ _ _ _ st q => wpAny_pyIter_zip st.1 q
def iZipST (K : PySem.W.Frag) (ta : TA) : TI := fun σ H R => ta σ H fun vs H1 => ∃ x a ys, vs = [.str x, .ref a] ∧ SqT K H1 a ys ∧ R (ZiST K x a ys) H1
theorem pi_zipST {X : Cx} {e e2 : Expr} {ta : TA} {p pos tpos : Pos} {elts : List Expr} {kk : Nat} (hg : Gl X "zip") (hm : X.mg "zip" = none) (ha : PA X [e, e2] ta)
    (hs : starEach [e, e2] X.env = (false, eval e X.env) :: starEach [e2] X.env := by rfl) (hpl : (backTo pos (starEach [e2] X.env)).any (·.1) = false := by rfl) :
    PI X (.Tuple elts kk tpos) (.Call (.Name "zip" p) [e, e2] [] pos) (iZipST X.K ta) := by
  refine ⟨fun pins s σ H R I h => Call_ (ld_blt I hg hm PyProof.Rows.boot_zip (PyProof.Rows.callWith_type1 (thn (ha.run pos pins s σ H _ I h) fun us s1 ⟨vs, H1, I1, r1, x, a, ys, ex, hT, q⟩ => ?_) hs hpl))⟩
  subst ex
  cases r1 with
  | cons r rr =>
   cases rr with
   | cons r' rr =>
    cases rr
    obtain ⟨t, rfl⟩ := r
    cases r'
    obtain ⟨its, rv, pt, _⟩ := I1.tuple hT
    obtain ⟨o, ho, _⟩ := id pt
    have lt := Heap.lt_size ho
    refine zip_begins2 (begins_text x t) (begins_tuple a its.toArray) trivial (tup_is pt) fun h' hz hTI hTO g1 g2 size kp => wpAny_pyIter_zip hz ?_
    have fresh : ∀ b ∈ [s1.heap.objs.size + 4, s1.heap.objs.size + 2, s1.heap.objs.size + 3, s1.heap.objs.size, s1.heap.objs.size + 1], FpOk X pins H1 b := fun b hb => by
      have le : s1.heap.objs.size ≤ b := by
        have hb' : b = s1.heap.objs.size + 4 ∨ b = s1.heap.objs.size + 2 ∨ b = s1.heap.objs.size + 3 ∨ b = s1.heap.objs.size ∨ b = s1.heap.objs.size + 1 := by simpa using hb
        rcases hb' with z | z | z | z | z <;> rw [z] <;> first | exact Nat.le_refl _ | exact Nat.le_add_right _ _
      exact I1.fpOk le (I1.hok.fresh le)
    have S := zip_sep2 (N := s1.heap.objs.size) (fp1 := []) (fp2 := [a]) (fun _ h => (List.not_mem_nil h).elim) fun b hb => by rw [List.mem_singleton.mp hb]; exact lt
    exact ⟨s1.heap.objs.size + 4, [s1.heap.objs.size + 4, s1.heap.objs.size + 2, s1.heap.objs.size + 3, s1.heap.objs.size, s1.heap.objs.size + 1], _, _, H1, rfl, I1.kept (t' := s1.toks) kp, turn_st x t a ys S (Nat.ne_of_lt (Nat.lt_succ_of_lt lt)), ⟨hz, hTI, ⟨_, _, hTO⟩, ⟨_, g1, rfl, rfl⟩, ⟨_, g2, rfl, rfl⟩⟩, fresh, q⟩
theorem walk_st {K : PySem.W.Frag} {x : Str} {a : Addr} {ys : List V} (hl : x.cps.size = ys.length) : Walk (ZiST K x a ys) x.cps.size (fun H => SqT K H a ys) (YPair (fun i => (x.cps[i]?).map fun c => V.str ⟨#[c]⟩) (fun i => ys[i]?)) :=
  ⟨fun i H hi q => ⟨q, hi, by omega⟩, fun H q => ⟨q, rfl, by omega⟩, fun i H v H' _ _ ⟨T, c, y, e1, e2, e3, e4, e5⟩ => ⟨T, _, y, e1, e2, e3, by show Option.map _ (x.cps[i]?) = _; rw [e4] <;> rfl, e5⟩⟩
end ZPT
set_option Elab.async false
set_option linter.all false
set_option maxRecDepth 100000
set_option maxHeartbeats 4000000
namespace NCX
open PySem PySem.Spec PyProof.Rows L2 LamX NdefX
/-- the new cells lie ahead of the captured ones -/
theorem cf_app : ∀ (names : List (Str × NameKind)) (n : Nat) (acc : List (Str × Addr)), cellsFrom n names acc = cellsFrom n names [] ++ acc
  | [], _, _ => rfl
  | (x, k) :: r, n, acc => by
    unfold cellsFrom
    split
    · rw [cf_app r (n + 1) ((x, n) :: acc), cf_app r (n + 1) [(x, n)], List.append_assoc] <;> rfl
    · exact cf_app r n acc
theorem look_app {α : Type} {x : Str} : ∀ (l m : List (Str × α)), (l ++ m).lookup x = (l.lookup x).or (m.lookup x)
  | [], _ => rfl
  | (y, a) :: l, m => by
    rw [List.cons_append, List.lookup_cons, List.lookup_cons]
    cases x == y with
    | true => rfl
    | false => exact look_app l m
theorem own_look {names : List (Str × NameKind)} {n : Nat} {cl : List (Str × Addr)} {x : Str} {c : Addr} (h : (cellsFrom n names []).lookup x = some c) : (cellsFrom n names cl).lookup x = some c := by
  rw [cf_app, look_app, h] <;> rfl
theorem two_look {names : List (Str × NameKind)} {n : Nat} {cl : List (Str × Addr)} {x : Str} {c : Addr} (h : (cellsFrom n names cl).lookup x = some c) : (cellsFrom n names []).lookup x = some c ∨ ((cellsFrom n names []).lookup x = none ∧ cl.lookup x = some c) := by
  rw [cf_app, look_app] at h
  cases e : (cellsFrom n names []).lookup x with
  | some d =>
    rw [e] at h
    exact .inl h
  | none =>
    rw [e] at h
    exact .inr ⟨rfl, h⟩
theorem own_only : ∀ (names : List (Str × NameKind)) (n : Nat) (acc : List (Str × Addr)) {x : Str} {c : Addr}, (cellsFrom n names acc).lookup x = some c → (∃ q ∈ names, q.1 = x ∧ q.2 = .cell) ∨ acc.lookup x = some c
  | [], _, _, _, _, h => .inr h
  | (y, k) :: r, n, acc, x, c, h => by
    unfold cellsFrom at h
    split at h
    · rename_i hk
      rcases own_only r _ _ h with ⟨q, h1, h2⟩ | z
      · exact .inl ⟨q, .tail _ h1, h2⟩
      · rw [List.lookup_cons] at z
        cases e : x == y with
        | true => exact .inl ⟨_, .head _, (beq_iff_eq.mp e).symm, beq_iff_eq.mp hk⟩
        | false =>
          rw [e] at z
          exact .inr z
    · rcases own_only r _ _ h with ⟨q, h1, h2⟩ | z
      · exact .inl ⟨q, .tail _ h1, h2⟩
      · exact .inr z
section
variable {M : Model} {A : Around} {E : Value → Shared → Prop} {s₀ s : Shared} {env : Env} {cs : List (Str × Addr)}
/-- the parameters are stored, where the frame's own cells are cs -/
theorem bindN (f : Str × Value → PUnit → Sem (ForInStep PUnit)) (hf : ∀ n v u, f (n, v) u = (do storeName env n v; pure (.yield ⟨⟩))) (hk : env.scope.kind = .function) :
    ∀ (binds : List (Str × Value)) (m cm : Str → Option Value) (s : Shared) (Q : PUnit → Shared → Prop), InCallC s₀ env.locals m cs cm s →
      (∀ x ∈ binds, env.kindOf x.1 = some .local ∨ (env.kindOf x.1 = some .cell ∧ ∃ c, env.cells.lookup x.1 = some c ∧ cs.lookup x.1 = some c)) →
      (∀ s', InCallC s₀ env.locals (bindL env.kindOf binds m) cs (bindC env.kindOf binds cm) s' → Q ⟨⟩ s') → wpAny M A (forIn binds ⟨⟩ f) Q E s
  | [], m, cm, s, Q, x, _, h => by
    rw [List.forIn_nil]
    exact wpAny_pure (h s x)
  | (n, v) :: r, m, cm, s, Q, x, kinds, h => by
    rw [List.forIn_cons, hf]
    have rest := fun y hy => kinds y (List.mem_cons_of_mem _ hy)
    have same : storeName env n v = storeName { env with cells := cs } n v := by
      rcases kinds (n, v) (.head _) with hl | ⟨hl, c, h1, h2⟩
      · unfold storeName
        have hl2 : ({ env with cells := cs } : Env).kindOf n = some .local := hl
        rw [hl, hl2]
        rfl
      · unfold storeName
        have hl2 : ({ env with cells := cs } : Env).kindOf n = some .cell := hl
        rw [hl, hl2]
        simp only [PySem.cellOf, h1, h2]
        rfl
    rw [same]
    rcases kinds (n, v) (.head _) with hl | ⟨hl, c, h1, h2⟩
    · refine wpAny_bind (wpAny_bind (stLC (env := { env with cells := cs }) x hk hl fun s' x' => wpAny_pure (bindN f hf hk r _ _ s' Q x' rest fun s'' x'' => h s'' ?_)))
      unfold bindL bindC
      rw [if_pos hl, if_pos hl]
      exact x''
    · have hnl : ¬ env.kindOf n = some .local := by rw [hl]; decide
      refine wpAny_bind (wpAny_bind (stCC (env := { env with cells := cs }) x hk hl h2 fun s' x' => wpAny_pure (bindN f hf hk r _ _ s' Q x' rest fun s'' x'' => h s'' ?_)))
      unfold bindL bindC
      rw [if_neg hnl, if_neg hnl]
      exact x''
theorem frame_made {scope : Scope} {globals : Addr} {cl : List (Str × Addr)} {binds : List (Str × Value)} {qual : Str} {func : Option Addr} {code : Value} {builtins : Addr} {Q : Env → Shared → Prop} (hk : scope.kind = .function)
    (kinds : ∀ x ∈ binds, scope.names.lookup x.1 = some .local ∨ scope.names.lookup x.1 = some .cell)
    (h : ∀ env, env = newEnv scope s.heap.objs.size globals (cellsFrom (s.heap.objs.size + 1) scope.names cl) qual func code none builtins →
      ∀ s', InCallC s env.locals (bindL env.kindOf binds fun _ => none) (cellsFrom (s.heap.objs.size + 1) scope.names []) (bindC env.kindOf binds fun _ => none) s' → Q env s') :
    wpAny M A (newFunctionEnv scope globals cl binds qual func code none builtins) Q E s := by
  simp only [newFunctionEnv, Option.isSome_none, Bool.false_eq_true, if_false]
  refine wpAny_bind (wpAny_alloc (wpAny_bind (wpAny_layCells _ (fun name kind cells => by cases hkc : kind == NameKind.cell <;> simp [hkc]) _ _ _ _ ?_)))
  have size : (s.heap.push { cls := .type "frame", data := .dict #[] }).objs.size = s.heap.objs.size + 1 := Heap.size_push ..
  have ok := cellsFrom_ok scope.names (s.heap.push { cls := .type "frame", data := .dict #[] }) (s.heap.objs.size + 1) [] ⟨fun _ _ hm => (nomatch hm), List.Pairwise.nil⟩ (Nat.le_of_eq size.symm)
  rw [size] at ok
  rw [show ({ s with heap := s.heap.push { cls := .type "frame", data := .dict #[] } } : Shared).heap.objs.size = s.heap.objs.size + 1 from size]
  refine wpAny_bind (bindN (s₀ := s) (env := newEnv scope s.heap.objs.size globals (cellsFrom (s.heap.objs.size + 1) scope.names cl) qual func code none builtins) _ (fun _ _ _ => rfl) hk binds (fun _ => none) (fun _ => none) _ _
    ⟨⟨⟨_, _, rfl⟩, (Heap.Ns.new s.heap (.type "frame")).keeps (pushCells_keeps _ _), fun b o e => pushCells_keeps _ _ b o (Heap.get?_push_of_some _ e), Nat.le_refl _⟩, fun n c hc => (ok.empty n c (mem_of_lookup hc)).1, ok.apart, fun n c hm => (ok.empty n c hm).2⟩
    (fun x hx => (kinds x hx).imp id fun z => ?_) fun s' x => wpAny_pure (h _ rfl s' x))
  obtain ⟨c, hc⟩ := Option.isSome_iff_exists.mp (PySem.W.cellsFrom_some scope.names (s.heap.objs.size + 1) [] (.inl z))
  exact ⟨z, c, own_look hc, hc⟩
end
/-- how a def's names lie: those it is asked with, those it caught, its own; what it is asked with may be kept in a cell -/
structure NScopeC (N asked caught : List Str) (sc : Scope) : Prop where
  plain : sc.kind = .function ∧ sc.isCoroutine = false ∧ sc.isGenerator = false
  lie : ∃ own : List Str, N = asked ++ (caught ++ own)
  nd : N.Nodup
  ask : ∀ p ∈ asked, sc.names.lookup p = some .local ∨ sc.names.lookup p = some .cell
  got : ∀ p ∈ caught, sc.names.lookup p = some .free ∧ (p, NameKind.cell) ∉ sc.names
  only : ∀ q ∈ sc.names, q.2 = .free → q.1 ∈ caught
/-- what a slot holds at the entry: what was asked, or what was caught -/
theorem slot_of {N asked caught own : List Str} (e : N = asked ++ (caught ++ own)) {vs : List V} {ws : List (Option V)} (la : vs.length = asked.length) (lc : ws.length = caught.length) {i : Nat} {y : Str} {v : V} (hy : N[i]? = some y) (hv : (startF N vs ws)[i]? = some (some v)) :
    (asked[i]? = some y ∧ vs[i]? = some v) ∨ ∃ j : Nat, caught[j]? = some y ∧ ws[j]? = some (some v) := by
  subst e
  unfold startF at hv
  rcases Nat.lt_or_ge i asked.length with lt | ge
  · left
    rw [List.getElem?_append_left (by rw [List.length_map]; omega), List.getElem?_map, Option.map_eq_some_iff] at hv
    obtain ⟨z, h1, h2⟩ := hv
    cases h2
    exact ⟨by rw [List.getElem?_append_left lt] at hy; exact hy, h1⟩
  · right
    rw [List.getElem?_append_right ge] at hy
    rw [List.getElem?_append_right (by rw [List.length_map]; omega), List.length_map, la] at hv
    generalize i - asked.length = j at hy hv
    rcases Nat.lt_or_ge j caught.length with lt | ge2
    · rw [List.getElem?_append_left (Nat.lt_of_lt_of_eq lt lc.symm)] at hv
      rw [List.getElem?_append_left lt] at hy
      exact ⟨j, hy, hv⟩
    · rw [List.getElem?_append_right (Nat.le_trans (Nat.le_of_eq lc) ge2)] at hv
      cases (List.mem_replicate.mp (List.mem_of_getElem? hv)).2
abbrev envC (F : NF) (f L : Addr) : Env := PySem.W.envX F.qual F.scope L f (.ref F.c) (cellsFrom (L + 1) F.scope.names F.cl)
/-- where its body runs -/
def ccx (CX : CXT) (P : Program) (w : World) (K : PySem.W.Frag) (mg : Str → Option Value) (base : Heap) (N : List Str) (F : NF) (f : Addr) (A : Around) (outer : List Env) (s : Shared) (H : Hp) (E : XK) : Cx :=
  let here := envC F f s.heap.objs.size
  { prog := P, w := w, K := K, mg := mg, base := base, A := A.deeper here, N := N, s_0 := s, H_0 := H, env := here, outer := outer, stack := here :: outer, ex := [], calm := true, fn := fun _ => false, pn := [],
    xe := fun e s' => wpAny (model P w) (A.deeper here) (leaving here e) (fun _ s'' => CX outer H s E e s'') (fun e' s'' => CX outer H s E e' s'') s' }
section
variable {CX : CXT} {P : Program} {w : World} {K : PySem.W.Frag} {mg : Str → Option Value} {base : Heap} {N ps fr : List Str} {F : NF} {f : Addr} {A : Around} {outer : List Env} {s s1 : Shared} {H : Hp} {E : XK} {us : List Value} {vs : List V} {ws : List (Option V)} {k : Nat} {sp : List (Option V) → Sp}
/-- a name asked, once it was stored -/
theorem asked_at (S : NScopeC N ps fr F.scope) {i : Nat} {y : Str} {u : Value} (hp : ps[i]? = some y) (hu : us[i]? = some u)
    (x : InCallC s s.heap.objs.size (bindL (envC F f s.heap.objs.size).kindOf (ps.zip us) fun _ => none) (cellsFrom (s.heap.objs.size + 1) F.scope.names []) (bindC (envC F f s.heap.objs.size).kindOf (ps.zip us) fun _ => none) s1) :
    (F.scope.names.lookup y = some .local ∧ bindL (envC F f s.heap.objs.size).kindOf (ps.zip us) (fun _ => none) y = some u) ∨
    (F.scope.names.lookup y = some .cell ∧ ∃ c, (cellsFrom (s.heap.objs.size + 1) F.scope.names F.cl).lookup y = some c ∧ s1.heap.IsCell c (some u)) := by
  obtain ⟨own, e⟩ := S.lie
  have once : ps.Nodup := (List.nodup_append.mp (e ▸ S.nd)).1
  rcases S.ask y (List.mem_of_getElem? hp) with here | here
  · exact .inl ⟨here, bindL_get once hp hu here⟩
  · obtain ⟨c, hc⟩ := Option.isSome_iff_exists.mp (PySem.W.cellsFrom_some F.scope.names (s.heap.objs.size + 1) [] (.inl here))
    have held := x.cell y c hc
    rw [bindC_get once hp hu (fun z => by cases here.symm.trans z)] at held
    exact .inr ⟨here, c, own_look hc, held⟩
/-- a caught name finds the cell that it was caught with -/
theorem caught_at (S : NScopeC N ps fr F.scope) {n : Nat} {y : Str} {c : Addr} (hy : y ∈ fr) (hc : F.cl.lookup y = some c) : (cellsFrom n F.scope.names F.cl).lookup y = some c := by
  rw [cf_app, look_app]
  cases e : (cellsFrom n F.scope.names []).lookup y with
  | none => exact hc
  | some d =>
    rcases own_only _ _ _ e with ⟨⟨q1, q2⟩, hq, rfl, rfl⟩ | z
    · exact absurd hq (S.got _ hy).2
    · cases z
theorem inv_startC (S : NScopeC N ps fr F.scope) (hd : A.handled = none) (e0 : Env0 P w K mg base A outer s H) (hl : vs.length = ps.length) (r : Vals vs us) (C : CellsAt F.cl fr ws s.heap H)
    (x : InCallC s s.heap.objs.size (bindL (envC F f s.heap.objs.size).kindOf (ps.zip us) fun _ => none) (cellsFrom (s.heap.objs.size + 1) F.scope.names []) (bindC (envC F f s.heap.objs.size).kindOf (ps.zip us) fun _ => none) s1) :
    Inv (ccx CX P w K mg base N F f A outer s H E) [] (startF N vs ws) H s1 := by
  obtain ⟨own, lie⟩ := S.lie
  have kept := x.done
  obtain ⟨_, tk, rfl, hk⟩ := kept
  have none_out : ∀ b : Addr, ¬ b ∈ (ccx CX P w K mg base N F f A outer s H E).ex := fun b z => List.not_mem_nil (show b ∈ ([] : List Addr) from z)
  have before : ∀ {y : Str} {c : Addr}, F.cl.lookup y = some c → c < s.heap.objs.size := fun {y c} e => (C.all y c e).2.elim fun _ z => z.elim fun _ z => Heap.lt_size z.1
  have after : ∀ {y : Str} {c : Addr}, (cellsFrom (s.heap.objs.size + 1) F.scope.names []).lookup y = some c → s.heap.objs.size < c := fun {y c} e => x.above y c (mem_of_lookup e)
  have found : ∀ y : Str, F.scope.names.lookup y = some .cell ∨ F.scope.names.lookup y = some .free → ∃ c, (cellsFrom (s.heap.objs.size + 1) F.scope.names F.cl).lookup y = some c := fun y hy => by
    rcases hy with z | z
    · exact Option.isSome_iff_exists.mp (PySem.W.cellsFrom_some _ _ _ (.inl z))
    · have inF := S.only _ (mem_of_lookup z) rfl
      obtain ⟨j, hj⟩ := List.mem_iff_getElem?.mp inF
      obtain ⟨c, hc, _⟩ := C.has j y hj
      exact ⟨c, caught_at S inF hc⟩
  have one : ∀ (y z : Str) (c : Addr), (cellsFrom (s.heap.objs.size + 1) F.scope.names F.cl).lookup y = some c → (cellsFrom (s.heap.objs.size + 1) F.scope.names F.cl).lookup z = some c → y = z := fun y z c h1 h2 => by
    rcases two_look h1 with a | ⟨_, a⟩ <;> rcases two_look h2 with b | ⟨_, b⟩
    · exact name_of_addr x.apart (mem_of_lookup a) (mem_of_lookup b)
    · exact absurd (Nat.lt_trans (after a) (before b)) (Nat.lt_irrefl _)
    · exact absurd (Nat.lt_trans (after b) (before a)) (Nat.lt_irrefl _)
    · exact C.inj y z c a b
  have slots : ∀ (i : Nat) (y : Str) (v : V), N[i]? = some y → (startF N vs ws)[i]? = some (some v) → ∃ u, L2.RelV v u ∧ ((F.scope.names.lookup y = some .local ∧ bindL (envC F f s.heap.objs.size).kindOf (ps.zip us) (fun _ => none) y = some u) ∨
      ((F.scope.names.lookup y = some .cell ∨ F.scope.names.lookup y = some .free) ∧ ∃ c, (cellsFrom (s.heap.objs.size + 1) F.scope.names F.cl).lookup y = some c ∧ Heap.IsCell _ c (some u))) := fun i y v hy hv => by
    rcases slot_of lie hl C.len hy hv with ⟨a, b⟩ | ⟨j, a, b⟩
    · obtain ⟨u, hu, rv⟩ := r.get b
      exact ⟨u, rv, (asked_at S a hu x).imp id fun z => ⟨.inl z.1, z.2⟩⟩
    · obtain ⟨c, hc, told⟩ := C.has j y a
      obtain ⟨u, ru, o, ho, hd⟩ := told v b
      have inF := List.mem_of_getElem? a
      exact ⟨u, ru, .inr ⟨.inr (S.got y inF).1, c, caught_at S inF hc, o, hk _ _ ho, hd⟩⟩
  refine ⟨⟨e0.mod, S.plain.1, rfl, rfl, Nat.le_refl _, one, found, fun y c h _ => (Bool.false_ne_true h).elim, fun _ => hd, Around.frames_deeper e0.frames, .inr ⟨rfl, rfl⟩, fun b z => absurd z (none_out b), e0.bs, e0.bsz, fun b _ _ => none_out b, fun b z => absurd z (none_out b), e0.funs, e0.frf⟩,
    rfl, e0.bare, Un.kept hk, ⟨_, x.toInCall.ns, fun i y v a b _ => slots i y v a b⟩, fun y c h => ?_, e0.hok.fresh (Nat.le_refl _), fun y c h => ?_, fun p hp => (List.not_mem_nil hp).elim, e0.hok.kept hk, ?_⟩
  · rcases two_look h with a | ⟨_, a⟩
    · exact ⟨_, x.cell y c a⟩
    · exact (C.all y c a).2.elim fun v z => z.elim fun o z => ⟨v, o, hk _ _ z.1, z.2⟩
  · exact (two_look h).elim (fun a => e0.hok.fresh (Nat.le_of_lt (after a))) fun a => (C.all y c a.2).1
  · have lens := congrArg List.length lie
    have lc := C.len
    simp only [List.length_append] at lens
    show (List.map some vs ++ (ws ++ List.replicate (N.length - vs.length - ws.length) none)).length = N.length
    simp only [List.length_append, List.length_map, List.length_replicate]
    omega
/-- what a body left is what its call gives -/
theorem left_by {σ' : L2.St} {H' : Hp} {s' : Shared} {v : V} {u : Value} {Q : VK} (J : Inv (ccx CX P w K mg base N F f A outer s H E) [] σ' H' s') (rv : L2.RelV v u) (q : Q v H') : CE outer P w H s Q u s' := by
  exact ⟨v, H', J.os, J.bare, J.base, J.hok, rv, q⟩
/-- a nested def with cells of its own, by its body -/
theorem nokC_of (S : NScopeC N ps fr F.scope) (hb : ∀ (doc pm ctv : Value) (us : List Value), us.length = ps.length → bindArgs (F.fd doc pm ctv) ⟨us, []⟩ = pure (ps.zip us)) (len : ∀ ws vs H Q E, sp ws vs H Q E → vs.length = ps.length)
    (body : ∀ (A : Around) (outer : List Env) (s : Shared) (H : Hp) (vs : List V) (ws : List (Option V)) (Q : VK) (E : XK), Room k (A.deeper (envC F f s.heap.objs.size)) → ws.length = fr.length → sp ws vs H Q E →
      ∃ t, PSs (ccx CX P w K mg base N F f A outer s H E) F.body t ∧ t { nx := fun _ H' => Q .non H', rt := Q } (startF N vs ws) H) : NOk P w K mg base CX (k + 1) f F ps fr sp where
  len := len
  run := fun A outer s H us vs ws Q E hr e0 hf hc C r told => by
    have hl := len _ _ _ _ _ told
    obtain ⟨t, rule, q⟩ := body A outer s H vs ws Q E (hr.deeper _) C.len told
    obtain ⟨_, _, doc, pm, ctv, stands⟩ := fnO_at e0.hok hf
    refine codeAny_call_function hr.depth stands rfl S.plain.2.1 S.plain.2.2 rfl (codeO_at e0.hok hc) ?_
    rw [hb doc pm ctv us (r.length ▸ hl)]
    refine wpAny_pure (frame_made S.plain.1 (fun ⟨n, _⟩ hy => S.ask n (List.of_mem_zip hy).1) fun env he s1 x => ?_)
    cases he
    refine ⟨Heap.NoLimit.keeps (e0.mod.nolimit.keeps fun b o e => (e0.bs b o e).1) x.toInCall.keep, codeAny_func (wpAny_mono (rule.run [] s1 (startF N vs ws) H _ (inv_startC S hr.hd e0 hl r C x) q) (fun fl s' z => ?_) fun _ _ z => z)⟩
    cases fl with
    | ret u => exact let ⟨_, _, _, J, rv, a⟩ := z; left_by J rv a
    | next => exact let ⟨_, _, J, a⟩ := z; left_by J (v := .non) rfl a
    | brk => exact z.elim fun _ z => z.elim fun _ z => z.2.elim
    | cont => exact z.elim fun _ z => z.elim fun _ z => z.2.elim
end
end NCX
set_option Elab.async false
set_option linter.all false
set_option maxRecDepth 100000
set_option maxHeartbeats 8000000
namespace WK
open PySem L2 PyProof.Rows LCX K1 FV DP LamX NdefX NCX
open TX (sg sigs)
open PySem.W (Frag kitOne)
abbrev sCount : Stmt := top 53
abbrev sOneM : Stmt := top 54
abbrev sStep : Stmt := (defBody sCount).getD 0 (.Pass ⟨0, 0, 0, 0⟩)
abbrev qStep : Str := (envOfC "_counting" (defScope sCount) 0 0 .none).qual ++ "step"
/-- one more of a letter, and the counts with a letter more -/
def oneM (cap md n : Int) : Int := if n + 1 < cap + md then n + 1 else cap
def cntF (L : W) (cap md : Int) (a : List Int) (c : Nat) : List Int := (L.zip a).map fun p => if p.1 = c then oneM cap md p.2 else p.2
abbrev zeros (L : W) : List Int := L.map fun _ => 0
def spOneM : Sp := fun vs H Q _ => ∃ n cap md : Int, vs = [.int n, .int cap, .int md] ∧ Q (.int (oneM cap md n)) H
def spStep (ws : List (Option V)) : Sp := fun vs H Q _ => ∃ (b : Addr) (L : W) (a : List Int) (c : Nat) (cap md : Int), ws = [some (.str (tx L)), some (.int cap), some (.int md)] ∧ vs = [.ref b, .str (sg c)] ∧ H b = some (.tup (a.map V.int)) ∧ a.length = L.length ∧ L.length ≤ 3 ∧
  ∀ t H', H t = none → Same H H' → H' t = some (.tup ((cntF L cap md a c).map V.int)) → Q (.ref t) H'
theorem cnt_len (L : W) (cap md : Int) (a : List Int) (c : Nat) (h : a.length = L.length) : (cntF L cap md a c).length = L.length := by
  unfold cntF
  rw [List.length_map, List.length_zip, h, Nat.min_self]
section
variable {P : Program} {w : World} {K : PySem.W.Frag} {mg : Str → Option Value} {base : Heap}
theorem scOM : FnScope ["number", "cap", "modulus"] ["number", "cap", "modulus"] (defScope sOneM) := ⟨rfl, rfl, rfl, by decide +kernel, rfl, by decide +kernel, by decide +kernel⟩
theorem ok_onem {f : Addr} {fd : FuncData} (F : Fun K "_one_more" "_one_more" sOneM f fd) : FnOk P w K mg base CX0 1 f fd ["number", "cap", "modulus"] spOneM := by
  refine F.ok scOM (fun vs H Q E h => ?_) (fun cdv A outer s H vs Q E hr h => ?_)
  · obtain ⟨n, cap, md, rfl, _⟩ := h
    rfl
  · obtain ⟨n, cap, md, rfl, q⟩ := h
    refine ⟨_, pss_one (ps_ret (pe_ifExp (pt_cmpR op_lt (pe_op op_add (pv 0) pe_int) (pe_op op_add (pv 1) (pv 2)) (nomark _)) (pe_op op_add (pv 0) pe_int) (pv 1))), ?_⟩
    refine ⟨_, rfl, _, _, rfl, rfl, _, rfl, _, rfl, _, _, rfl, rfl, _, _, rfl, rfl, _, rfl, ?_⟩
    unfold oneM at q
    by_cases h1 : n + 1 < cap + md
    · rw [if_pos h1] at q
      rw [if_pos (decide_eq_true h1)]
      exact ⟨_, rfl, _, _, rfl, rfl, q⟩
    · rw [if_neg h1] at q
      rw [if_neg fun z => h1 (of_decide_eq_true z)]
      exact ⟨_, rfl, q⟩
abbrev NSt : List Str := ["held", "letter", "letters", "cap", "modulus", "sign", "number"]
theorem scSt : NScopeC NSt ["held", "letter"] ["letters", "cap", "modulus"] (C8.fnScope sStep) := ⟨⟨rfl, rfl, rfl⟩, ⟨["sign", "number"], rfl⟩, by decide +kernel, by decide +kernel, by decide +kernel, by decide +kernel⟩
theorem nok_step {f fO : Addr} {dO : FuncData} {F : NF} (hs : F.scope = C8.fnScope sStep) (hp : F.params = C8.fnArgs sStep) (hbd : F.body = C8.fnBody sStep) (T : TN mg) (AO : Fn K mg "_one_more" sOneM ["number", "cap", "modulus"] fO dO) (GO : FnOk P w K mg base CX0 1 fO dO ["number", "cap", "modulus"] spOneM) :
    NOk P w K mg base CX0 2 f F ["held", "letter"] ["letters", "cap", "modulus"] spStep := by
  obtain ⟨nm, qual, params, body, scope, cl, c⟩ := F
  dsimp only at hs hp hbd
  subst hs
  subst hp
  subst hbd
  refine nokC_of (N := NSt) scSt (fun doc pm ctv us hl => ?_) (fun ws vs H Q E h => ?_) (fun A outer s H vs ws Q E hr hw h => ?_)
  · obtain ⟨a, b, rfl⟩ : ∃ a b, us = [a, b] := by
      match us, hl with
      | [a, b], _ => exact ⟨a, b, rfl⟩
    rfl
  · obtain ⟨b, L, a, c, cap, md, _, rfl, _⟩ := h
    rfl
  · obtain ⟨b, L, a, c, cap, md, rfl, rfl, hb, hl, hL, q⟩ := h
    refine ⟨_, pss_one (ps_ret (pe_callTy call_tuple_of (by rfl) T.tuple (by decide +kernel) (pa_cons (pe_lc (own := [("number", 6), ("sign", 5)]) (g := gTup K 2 (gCons (gName 5) (gCons (gName 6) gNil))) (tt := tYes)
        (te := tIf (tTest (tOp rEq (tVar 5) (tVar 1))) (tCall spOneM [] E0 (tCons (tVar 6) (tCons (tVar 3) (tCons (tVar 4) tNil)))) (tVar 6)) rfl scSt.nd (ZPT.pi_zipST rfl T.zip (pa_cons (pv 2) (pa_cons (pv 0) pa_nil)))
        (blkOk_by (own := [("number", 6), ("sign", 5)]) (N := NSt) (sc := C8.fnScope sStep) (by decide +kernel)) (fun _ _ _ _ _ => pg_tup (by rfl) (pgs_cons (pg_name (i := 5) scSt.nd rfl (Or.inl rfl)) (pgs_cons (pg_name (i := 6) scSt.nd rfl (Or.inl rfl)) pgs_nil))) (fun _ _ _ _ _ => pts_nil)
        (fun _ _ _ _ _ => pe_ifExp (pt_cmpR op_eq (pv 5) (pv 1) (nomark _)) (pe_call GO hr rfl AO.g AO.F.kp AO.b .nil pass0 (pa_cons (pv 6) (pa_cons (pv 3) (pa_cons (pv 4) pa_nil)))) (pv 6))) pa_nil))), ?_⟩
    refine ⟨_, rfl, _, rfl, _, b, _, rfl, SqT.of hb, fun D hD => ?_⟩
    have hz : (tx L).cps.size = (a.map V.int).length := by rw [size_tx, List.length_map, hl]
    refine lc_it (ZPT.walk_st hz) (fun i H3 => Same H H3 ∧ H3 D = some (.lst (((cntF L cap md a c).take i).map V.int))) ⟨same_upd hD, upd_same⟩ (fun i H3 _ ⟨s3, _⟩ => SqT.of (s3 _ _ hb)) ?_ ?_
    · rintro i x H3 H4 hi ⟨s3, hd⟩ ⟨T2, y, z, rfl, hT2, rfl, hy, hz2⟩
      rw [size_tx] at hi
      have hia : i < a.length := by omega
      have hy' : y = .str (sg L[i]) := by
        have : (tx L).cps[i]? = some L[i] := by rw [← Array.getElem?_toList, tx_list, List.getElem?_eq_getElem hi]
        have hy2 : Option.map (fun c => V.str ⟨#[c]⟩) ((tx L).cps[i]?) = some y := hy
        rw [this] at hy2
        exact (Option.some.inj hy2).symm
      have hz' : z = .int a[i] := by
        have hz3 : (a.map V.int)[i]? = some z := hz2
        rw [List.getElem?_map, List.getElem?_eq_getElem hia] at hz3
        exact (Option.some.inj hz3).symm
      subst hy'
      subst hz'
      have s4 : Same H3 (upd H3 T2 (.tup [.str (sg L[i]), .int a[i]])) := same_upd hT2
      have tk : (cntF L cap md a c).take (i + 1) = (cntF L cap md a c).take i ++ [if L[i] = c then oneM cap md a[i] else a[i]] := by
        rw [List.take_add_one]
        congr 1
        unfold cntF
        rw [List.getElem?_map, List.getElem?_eq_getElem (by rw [List.length_zip]; omega)]
        simp
      have fewD : (((cntF L cap md a c).take i).map V.int).length < sizeLine := by
        rw [List.length_map, List.length_take, sizeLine_eq]
        omega
      refine ⟨T2, _, rfl, SqT.of upd_same, rfl, _, _, rfl, _, _, rfl, rfl, rfl, _, rfl, _, rfl, rfl, ?_⟩
      have hd4 := s4 _ _ hd
      have done : ∀ y, y = V.int (if L[i] = c then oneM cap md a[i] else a[i]) → Same H (upd (upd H3 T2 (.tup [.str (sg L[i]), .int a[i]])) D (.lst (((cntF L cap md a c).take i).map V.int ++ [y]))) ∧ upd (upd H3 T2 (.tup [.str (sg L[i]), .int a[i]])) D (.lst (((cntF L cap md a c).take i).map V.int ++ [y])) D = some (.lst (((cntF L cap md a c).take (i + 1)).map V.int)) := fun y e => by
        refine ⟨same_at (s3.trans s4) hD, ?_⟩
        rw [upd_same, tk, List.map_append, e] <;> rfl
      by_cases hc : L[i] = c
      · refine ⟨true, congrArg V.bl (decide_eq_true (by rw [hc])), ?_⟩
        refine ⟨_, rfl, _, rfl, _, rfl, _, _, _, rfl, _, hd4, fewD, done _ ?_⟩
        rw [if_pos hc]
      · refine ⟨false, congrArg V.bl (decide_eq_false fun z => hc (TX.sg_inj (V.str.inj z))), ?_⟩
        refine ⟨_, rfl, _, hd4, fewD, done _ ?_⟩
        rw [if_neg hc]
    · rintro H3 ⟨s3, hd⟩
      rw [size_tx, List.take_of_length_le (Nat.le_of_eq (cnt_len L cap md a c hl))] at hd
      refine ⟨D, _, rfl, .inl ⟨SqL.of hd, fun t ht => ?_⟩⟩
      exact q t _ (s3.free ht) (s3.trans (same_upd ht)) upd_same
/-- the tables of code objects, as the rules of nested defs tell them -/
abbrev nTabs (T : List (Addr × Str)) : List NTab := T.map fun p => (p.1, fun _ _ => p.2)
theorem tabsN_of {T : List (Addr × Str)} {H : Hp} (t : Tabs T H) : TabsN (nTabs T) H := fun p hp => by
  obtain ⟨q, hq, rfl⟩ := List.mem_map.mp hp
  exact TabN.of (t q hq)
theorem tabs_ofN {T : List (Addr × Str)} {H : Hp} (t : TabsN (nTabs T) H) : Tabs T H := fun p hp => TabN.to (t (p.1, fun _ _ => p.2) (List.mem_map.mpr ⟨p, hp, rfl⟩))
theorem steps_cnt {f : Addr} {F : NF} {cs : Cs} {B : Nat} {L : W} {cap md : Int} {H : Hp} {b0 : Addr} (o : NOk P w K mg base CX0 2 f F ["held", "letter"] ["letters", "cap", "modulus"] spStep) (ft : Fits F.cl ["letters", "cap", "modulus"] cs [.str (tx L), .int cap, .int md])
    (h1 : H f = some (FnO f F)) (h2 : H F.c = some (CodeO F.c F.qual)) (l : Lay cs H) (h0 : H b0 = some (.tup ((zeros L).map V.int))) (hL : L.length ≤ 3) (hB : ∀ j, (exAll (cntF L cap md) L (zeros L) j).1.length ≤ B) (hB4 : B ≤ 400) :
    Steps P w K mg base kitI 2 H L (.ref b0) f (zeros L) (cntF L cap md) B := by
  refine ⟨_, _, fun a => a.length = L.length, kitI_is.mpr h0, callV_nok o cxon_0 ft, ⟨h1, h2, l⟩, fun H H' k ⟨a, b, c⟩ => ⟨k _ _ a, k _ _ b, fun p hp => k _ _ (c p hp)⟩, List.length_map _, fun a c h _ => cnt_len L cap md a c h, fun H v a c Q ⟨_, _, l⟩ hv ha hc q => ?_, hB, hB4⟩
  obtain ⟨b1, e1, hb0⟩ := hv
  subst e1
  have hb1 := kitI_is.mp ⟨b1, rfl, hb0⟩
  refine ⟨b1, L, a, c, cap, md, rfl, rfl, off_keep l hb1 (fun _ z => nomatch z), ha, hL, fun t H' _ s ht n => ?_⟩
  exact q _ _ (same_on l ft.nd s n) (kitI_is.mpr (on_keep n ht))
def spCounting (T : List (Addr × Str)) (cD : Addr) : Sp := fun vs H Q _ => ∃ (L : W) (cap md : Int) (B : Nat), vs = [.str (tx L), .int cap, .int md] ∧ L.length ≤ 3 ∧ Tabs T H ∧ (∀ j, (exAll (cntF L cap md) L (zeros L) j).1.length ≤ B) ∧ B ≤ 400 ∧
  ∀ g H', H g = none → Grows T H H' → MadeAt cD H' g (exAll (cntF L cap md) L (zeros L) B).2 → Q (.ref g) H'
abbrev NCo : List Str := ["letters", "cap", "modulus", "step", "_"]
theorem scCn : FnScope NCo ["letters", "cap", "modulus"] (defScope sCount) := ⟨rfl, rfl, rfl, by decide +kernel, rfl, by decide +kernel, by decide +kernel⟩
theorem capS : ∀ y ∈ (C8.fnScope sStep).names, y.2 = .free → (defScope sCount).names.lookup y.1 = some .cell ∨ (defScope sCount).names.lookup y.1 = some .free := by decide +kernel
theorem ok_counting {f cN PN fG fO : Addr} {dG dO : FuncData} {C cD : Addr} {T : List (Addr × Str)} {oc kV dc pm ct dV : Value} {an od : Option Addr} {sl : Array (Option Value)} (lk : K.lookup f = some ⟨oc, od, .func (PySem.W.fnOf "_counting" "_counting" (defArgs sCount) (defBody sCount) (defScope sCount) dV kV dc pm an (.ref cN) ct), sl⟩) (hcd : PySem.W.codeIn K (.ref cN) "_counting" = true)
    (TB : TabB base mg cN PN) (mem : (PN, qStep) ∈ T) (uniq : ∀ p ∈ T, p.1 = PN → p.2 = qStep) (TT : TN mg) (AO : Fn K mg "_one_more" sOneM ["number", "cap", "modulus"] fO dO) (GO : FnOk P w K mg base CX0 1 fO dO ["number", "cap", "modulus"] spOneM)
    (AG : Fn K mg "_grown" sGrown ["letters", "start", "step"] fG dG) (GG : FnOk P w K mg base CX0 5 fG dG ["letters", "start", "step"] (spGrown P w K mg base kitI 2 cD)) :
    FnOk P w K mg base CX0 6 f (PySem.W.fnOf "_counting" "_counting" (defArgs sCount) (defBody sCount) (defScope sCount) dV kV dc pm an (.ref cN) ct) ["letters", "cap", "modulus"] (spCounting T cD) := by
  refine fn_of lk hcd scCn (fun vs H Q E h => ?_) (fun A outer s H vs Q E hr h => ?_)
  · obtain ⟨L, cap, md, B, rfl, _⟩ := h
    rfl
  · obtain ⟨L, cap, md, B, rfl, hL, tabs, hB, hB4, q⟩ := h
    refine ⟨_, pss_cons (ps_ndefMS (T := nTabs T) (nm := fun _ _ => qStep) (i := 3) rfl TB rfl (List.mem_map.mpr ⟨_, mem, rfl⟩) rfl (fun p hp e => by
          obtain ⟨q, hq, rfl⟩ := List.mem_map.mp hp
          show (fun _ _ => q.2) = _
          rw [uniq q hq e]) capS rfl rfl rfl scCn.nd rfl (Or.inl rfl) (Or.inl rfl))
      (pss_one (ps_ret (pe_callC (fr := ["letters", "cap", "modulus"]) (js := [0, 1, 2]) GG hr rfl AG.g AG.F.kp AG.b (fun ok => Caps.made (scope := C8.fnScope sStep) ok capS (by decide +kernel) rfl)
          (fun y c h => by
            rcases clo_only h with z | z
            · have : ∀ p ∈ (C8.fnScope sStep).names, p.2 = .free → p.1 ∈ (["letters", "cap", "modulus"] : List Str) := by decide +kernel
              exact this _ z rfl
            · cases z) (by decide +kernel) (fun _ _ => rfl)
          (pa_cons (pv 0) (pa_cons (pe_callTy call_tuple_of (by rfl) TT.tuple (by decide +kernel) (pa_cons (pe_lc (own := [("_", 4)]) (g := gName 4) (tt := tYes) (te := tC (.int 0)) rfl scCn.nd (pi_str (pv 0))
            (blkOk_by (own := [("_", 4)]) (N := NCo) (sc := defScope sCount) (by decide +kernel)) (fun _ _ _ _ _ => pg_name (i := 4) scCn.nd rfl (Or.inl rfl)) (fun _ _ _ _ _ => pts_nil) (fun _ _ _ _ _ => pe_int)) pa_nil)) (pa_cons (pv 3) pa_nil)))))), ?_⟩
    refine ⟨tabsN_of tabs, fun f c' H1 e1 back t1 nf hf hc => ?_⟩
    have g1 : Grows T H H1 := ⟨e1, tabs_ofN t1, back⟩
    refine ⟨_, rfl, _, rfl, tx L, rfl, fun D hD => ?_⟩
    refine lc_it walk_str (fun i H3 => Same H1 H3 ∧ H3 D = some (.lst ((zeros (L.take i)).map V.int))) ⟨same_upd hD, upd_same⟩ (fun _ _ _ _ => trivial) ?_ ?_
    · rintro i x H3 H4 hi ⟨s3, hd⟩ ⟨rfl, y, hy, rfl⟩
      have hy' : L[i]? = some y := by
        rw [← Array.getElem?_toList, tx_list] at hy
        exact hy
      refine ⟨rfl, _, hd, ?_, same_at s3 hD, ?_⟩
      · rw [List.length_map, List.length_map, List.length_take, sizeLine_eq]
        omega
      · rw [upd_same, List.take_add_one, hy']
        show _ = some (HO.lst (((L.take i ++ [y]).map fun _ => (0 : Int)).map V.int))
        rw [List.map_append, List.map_append] <;> rfl
    · rintro H3 ⟨s3, hd⟩
      rw [size_tx, List.take_length] at hd
      refine ⟨D, _, rfl, .inl ⟨SqL.of hd, fun t ht => ?_⟩⟩
      have s4 := same_upd (o := .tup ((zeros L).map V.int)) ht
      have g4 : Grows T H (upd H3 t (.tup ((zeros L).map V.int))) := grows_same (grows_same g1 s3) s4
      have a4 : (upd H3 t (.tup ((zeros L).map V.int))) t = some (.tup ((zeros L).map V.int)) := upd_same
      have hf4 := s4 _ _ (s3 _ _ hf)
      have hc4 := s4 _ _ (s3 _ _ hc)
      generalize upd H3 t (.tup ((zeros L).map V.int)) = H4 at g4 a4 hf4 hc4 ⊢
      refine ⟨_, rfl, [.str (tx L), .int cap, .int md], rfl, fun cs ft none_ => ?_⟩
      refine ⟨L, .ref t, zeros L, f, cntF L cap md, B, rfl, hL, steps_cnt (nok_step rfl rfl rfl TT AO GO) ft (on_keep none_ hf4) (on_keep none_ hc4) (onn_lay ft.nd) (on_keep none_ a4) hL hB hB4, fun g H5 ng s5 mk => ⟨lay_same ft.nd s5, ?_⟩⟩
      have l5 := lay_same ft.nd s5
      have s6 := same_off none_ s5
      have mk6 := madeAt_off l5 mk
      have ng4 : H4 g = none := by
        by_cases z : g ∈ cs.map (·.1)
        · obtain ⟨p, hp, rfl⟩ := List.mem_map.mp z
          exact none_ p hp
        · rw [onn_out z] at ng
          exact ng
      exact q g _ (g4.2.2 g ng4) (grows_same g4 s6) mk6
abbrev sRests : Stmt := inClass (top 50) 5
/-- what the makers of boxes that count ask and give -/
def CntBox (T : List (Addr × Str)) (C : Addr) (L : W) (cap md : Int) (H : Hp) (Q : VK) : Prop := Let L ∧ Tabs T H ∧ ∃ B, (∀ j, (exAll (cntF L cap md) L (zeros L) j).1.length ≤ B) ∧ B ≤ 400 ∧ ∀ o H', H o = none → Grows T H H' → BoxAt C H' o L (exAll (cntF L cap md) L (zeros L) B).2 → Q (.ref o) H'
def spRests (T : List (Addr × Str)) (C : Addr) : Sp := fun vs H Q _ => ∃ (L : W) (n : Int), vs = [.ref C, .str (tx L), .int n] ∧ 1 ≤ n ∧ n ≤ 12 ∧ CntBox T C L 0 n H Q
section
variable {C cD fNL fNN fG fB : Addr} {dNL dNN dG dB : FuncData} {T : List (Addr × Str)}
/-- rows were made, a box of them is made -/
theorem box_made {H H1 : Hp} {L : W} {tb : List (List Int)} {g : Addr} {Q : VK} (hL : Let L) (gr : Grows T H H1) (mk : MadeAt cD H1 g tb) (q : ∀ o H', H o = none → Grows T H H' → BoxAt C H' o L tb → Q (.ref o) H') :
    ∀ x dx, H1 x = none → H1 dx = none → dx ≠ x → spBoxI C cD [.ref x, .str (tx L), .ref g] (upd (upd H1 dx (.own x)) x (.ins C dx [])) (fun v H' => v = .non ∧ Q (.ref x) H') E0 := by
  intro x dx hx hdx ne
  have s5 : Same H1 (upd (upd H1 dx (.own x)) x (.ins C dx [])) := fun b o z => by rw [upd_ne (ne_of_none z hx), upd_ne (ne_of_none z hdx)]; exact z
  refine ⟨x, dx, L, g, _, rfl, hL, upd_same, fun z => ?_, mk.same s5, fun r H6 h6 k6 rows => ⟨rfl, ?_⟩⟩
  · obtain ⟨gx, r, e, _⟩ := mk
    rw [z, hx] at e
    cases e
  · have s6 : Same H1 H6 := fun b o z => k6 b o (s5 _ _ z) (ne_of_none z hx)
    exact q x H6 (gr.2.2 x hx) (grows_same gr s6) ⟨dx, r, h6, rows⟩
theorem scRe : FnScope ["cls", "letters", "modulus"] ["cls", "letters", "modulus"] (defScope sRests) := ⟨rfl, rfl, rfl, by decide +kernel, rfl, by decide +kernel, by decide +kernel⟩
theorem ok_rests {f : Addr} {oc kV dc pm ct cd dV : Value} {an od : Option Addr} {sl : Array (Option Value)} (lk : K.lookup f = some ⟨oc, od, .func (PySem.W.fnOf "rests" "Box.rests" (defArgs sRests) (defBody sRests) (defScope sRests) dV kV dc pm an cd ct), sl⟩) (hcd : PySem.W.codeIn K cd "Box.rests" = true)
    (m9 : ∃ t, mg "_MAX_MODULUS" = some (.int 12 t)) (AL : Fn K mg "need_letters" sNeedLet ["letters"] fNL dNL) (GL : FnOk P w K mg base CX0 3 fNL dNL ["letters"] spNeedLet) (AN : Fn K mg "need_number" sNeedNum ["value", "least", "most"] fNN dNN) (GN : FnOk P w K mg base CX0 3 fNN dNN ["value", "least", "most"] spNeedNum)
    (AG : Fn K mg "_counting" sCount ["letters", "cap", "modulus"] fG dG) (GG : FnOk P w K mg base CX0 6 fG dG ["letters", "cap", "modulus"] (spCounting T cD)) (MI : Mk K C fB) (GI : FnOk P w K mg base CX0 3 fB dB ["self", "letters", "table"] (spBoxI C cD)) (bI : Binds K dB ["self", "letters", "table"] []) :
    FnOk P w K mg base CX0 7 f (PySem.W.fnOf "rests" "Box.rests" (defArgs sRests) (defBody sRests) (defScope sRests) dV kV dc pm an cd ct) ["cls", "letters", "modulus"] (spRests T C) := by
  obtain ⟨tm, most⟩ := m9
  refine fn_of lk hcd scRe (fun vs H Q E h => ?_) (fun A outer s H vs Q E hr h => ?_)
  · obtain ⟨L, n, rfl, _⟩ := h
    rfl
  · obtain ⟨L, n, rfl, n0, n9, hL, tabs, B, hB, hB4, q⟩ := h
    have hr3 : Room 3 _ := hr.mono (by decide)
    have hr4 : Room 4 _ := hr.mono (by decide)
    refine ⟨_, pss_cons (ps_expr (pe_call GL hr3 rfl AL.g AL.F.kp AL.b .nil pass0 (pa_cons (pv 1) pa_nil)))
      (pss_cons (ps_expr (pe_call GN hr3 rfl AN.g AN.F.kp AN.b .nil pass0 (pa_cons (pv 2) (pa_cons pe_int (pa_cons (pe_glob rfl most (show RelV (.int 12) (.int 12 tm) from ⟨tm, rfl⟩)) pa_nil)))))
      (pss_one (ps_ret (pe_makeV (i := 0) (E := E0) MI GI hr4 rfl (.inl rfl) bI .nil pass0 (pa_cons (pv 1) (pa_cons
        (pe_call GG hr rfl AG.g AG.F.kp AG.b .nil pass0 (pa_cons (pv 1) (pa_cons pe_int (pa_cons (pv 2) pa_nil)))) pa_nil)))))), ?_⟩
    refine ⟨_, rfl, L, rfl, hL, fun H1 s1 => ⟨_, rfl, n, 1, 12, rfl, n0, n9, ?_⟩⟩
    refine ⟨rfl, _, rfl, _, rfl, _, rfl, L, 0, n, B, rfl, hL.few, tabs.ext s1, hB, hB4, fun g H2 ng gr mk => ?_⟩
    have gr2 : Grows T H H2 := by
      have := grows_same (Grows.refl tabs) s1
      exact ⟨fun b o e n => gr.1 b o (this.1 b o e n) n, gr.2.1, fun d z => this.2.2 d (gr.2.2 d z)⟩
    exact box_made hL gr2 mk q
end
end
end WK
set_option Elab.async false
set_option linter.all false
set_option maxRecDepth 100000
set_option maxHeartbeats 8000000
namespace OWN
open PySem PySem.Spec L2 PyProof.Rows
/-- an instance that stands in H -/
theorem inst_at {X : Cx} {pins : List (Addr × Obj)} {σ : L2.St} {H : Hp} {s : Shared} {a C dx : Addr} {fs : List (Str × V)} (I : Inv X pins σ H s) (at_ : H a = some (.ins C dx fs)) : ∃ od : Obj, PySem.W.InstAt s.heap a (PySem.W.instObj C dx) C (some od) :=
  let ⟨_, j, _⟩ := ins_get I.hok at_
  let ⟨od, k, _⟩ := j.look
  ⟨od, k⟩
section
variable {X : Cx} {C g : Addr} {n : Nat} {sp : Sp}
def rLenO (C : Addr) (sp : Sp) : List V → Hp → VK → Prop := fun xs H Q => ∃ a dx fs, xs = [.ref a] ∧ H a = some (.ins C dx fs) ∧ sp [.ref a] H (fun z H' => ∃ k : Nat, z = .int k ∧ (k : Int) < 2 ^ 62 ∧ Q z H') E0
theorem call_lenO (hs : PySem.W.findIn X.K (.ref C) "__len__" = some (some (.ref g))) (hf : PySem.W.isFn X.K (.ref g) = true) (F : FnR X.prog X.w X.K X.mg X.base CX0 n g sp) (hr : Room (n + 1) X.A) : CallR X (.builtin "len") (rLenO C sp) := by
  intro _ s _ _ _ _ _ I r ⟨a, dx, fs, ex, ha, q⟩
  subst ex
  obtain ⟨u, rfl, ru⟩ := r.one
  obtain rfl : u = .ref a := ru
  obtain ⟨od, J⟩ := inst_at I ha
  obtain ⟨m, hF⟩ := I.fr
  refine PySem.W.len_K hF I.ok.mod.kin J hs hf (wpAny_mono (wpAny_call (SlX.run_at (us := [.ref a]) (ws := [.ref a]) F (Room.in1 hr) I.env0.in1 pass0 I (.cons rfl .nil) q)) (fun w s' z => ?_) fun _ _ x => x)
  obtain ⟨z', H', I', rz, k, ez, hk, qz⟩ := z
  subst ez
  obtain ⟨t, e⟩ := (show ∃ t, w = Value.int k t from rz)
  cases e
  exact ⟨⟨by omega, by omega⟩, .int k, H', I'.tok _, ⟨_, rfl⟩, qz⟩
/-- x in o, x not in o -/
def rInO (C : Addr) (sp : Sp) (neg : Bool) : R2 := fun x y H Q => ∃ a dx fs, y = .ref a ∧ H a = some (.ins C dx fs) ∧ sp [.ref a, x] H (fun z H' => ∃ b : Bool, z = .bl b ∧ Q (.bl (if neg = true then !b else b)) H') E0
theorem op_inO (hs : PySem.W.findIn X.K (.ref C) "__contains__" = some (some (.ref g))) (hf : PySem.W.isFn X.K (.ref g) = true) (F : FnR X.prog X.w X.K X.mg X.base CX0 n g sp) (hr : Room n X.A) : OpR X (compareOp .In) (rInO C sp false) := by
  intro pins s σ H x _ v _ Q I rx ry ⟨a, dx, fs, ey, ha, q⟩
  subst ey
  obtain rfl : _ = Value.ref a := ry
  obtain ⟨od, J⟩ := inst_at I ha
  obtain ⟨m, hF⟩ := I.fr
  refine PySem.W.in_K hF I.ok.mod.kin J hs hf (wpAny_mono (wpAny_call (run_fnR (us := [.ref a, v]) (vs := [.ref a, x]) F hr pass0 I (.cons rfl (.cons rx .nil)) q)) (fun w s' z => ?_) fun _ _ x => x)
  obtain ⟨z', H', I', rz, b, ez, qz⟩ := z
  subst ez
  cases (show w = Value.bool b from rz)
  exact wpAny_truthy_bool ⟨.bl b, H', I', rfl, qz⟩
end
end OWN
namespace OWN
open PySem PySem.Spec L2 PyProof.Rows
open Builtin in
/-- a special method that object has, by what Python does where it compares -/
theorem ask_obj {M : Model} {A : Around} {E : Value → Shared → Prop} {s : Shared} {K : PySem.W.Frag} {x C : Addr} {ox : Obj} {od : Option Obj} {nm : Str} {id : String} {y : Value} {Q : Option Value → Shared → Prop} (X : K.In s.heap) (J : PySem.W.InstAt s.heap x ox C od)
    (at_ : PySem.W.findIn K (.ref C) nm = some (some (.builtin id))) (bd : ∀ z, bindSpecial (.builtin id) z = pure (.builtin id, [z])) (run : wpAny M A (call (.builtin id) [.ref x, y]) (fun v => Q (some v)) E s) : wpAny M A (callSpecialIfBound? (.ref x) nm [y]) Q E s := by
  have last : wpAny M A (call (.builtin id) ([.ref x] ++ [y]) >>= fun v => pure (some v)) Q E s := wpAny_bind (wpAny_mono run (fun _ _ => wpAny_pure) fun _ _ z => z)
  have bound : PySem.W.Looks M s.heap (bindSpecial (.builtin id) (.ref x)) (.builtin id, [.ref x]) := PySem.W.Looks.of_pure (bd _)
  simp only [bindSpecialIfBound?, callSpecialIfBound?]
  refine wpAny_holding (wpAny_bind (wpAny_bind (wpAny_bind (J.type.here ((PySem.W.looks_findIn X at_).here (wpAny_bind (wpAny_askSetting (wpAny_ite ?_))))))))
  split
  · exact wpAny_bind (bound.here (wpAny_pure (by exact last)))
  · exact wpAny_tryCatch (wpAny_bind (bound.here (wpAny_pure (by exact last))))
section
variable {X : Cx} {C g : Addr} {n : Nat} {sp : Sp}
/-- o != p, both instances of the class, whose own == is asked -/
def rNeO (C : Addr) (sp : Sp) : R2 := fun x y H Q => ∃ a dx fs b dy gs, x = .ref a ∧ y = .ref b ∧ H a = some (.ins C dx fs) ∧ H b = some (.ins C dy gs) ∧ sp [x, y] H (fun z H' => ∃ k : Bool, z = .bl k ∧ Q (.bl !k) H') E0
open Builtin in
theorem op_neO (hs : PySem.W.findIn X.K (.ref C) "__eq__" = some (some (.ref g))) (hf : PySem.W.isFn X.K (.ref g) = true) (hne : PySem.W.findIn X.K (.ref C) "__ne__" = some (some (.builtin "object.__ne__"))) (hm : PySem.W.mroIn X.K C (.type "object") = some true)
    (F : FnR X.prog X.w X.K X.mg X.base CX0 n g sp) (hr : Room (n + 1) X.A) : OpR X (compareOp .NotEq) (rNeO C sp) := by
  intro pins s σ H x y v u Q I rx ry h0
  obtain ⟨a, dx, fs, b, dy, gs, rfl, rfl, ha, hb, q⟩ := h0
  obtain rfl : v = .ref a := rx
  obtain rfl : u = .ref b := ry
  obtain ⟨od, J⟩ := inst_at I ha
  obtain ⟨od', J'⟩ := inst_at I hb
  have run : wpAny (model X.prog X.w) X.A.in1 (call (.ref g) [.ref a, .ref b]) (fun r s' => ∃ k : Bool, r = .bool k ∧ EP X pins σ Q (.bool !k) s') X.xe s :=
    wpAny_mono (wpAny_call (SlX.run_at (us := [.ref a, .ref b]) (ws := [.ref a, .ref b]) F (Room.in1 hr) I.env0.in1 pass0 I (.cons rfl (.cons rfl .nil)) q)) (fun w s' z => by
      obtain ⟨z', H', I', rz, k, ez, qz⟩ := z
      subst ez
      cases (show w = Value.bool k from rz)
      exact ⟨k, rfl, .bl !k, H', I', rfl, qz⟩) fun _ _ x => x
  have body : wpAny (model X.prog X.w) X.A.in1 (Builtin.«object.__ne__» ⟨[.ref a, .ref b], []⟩) (fun f s' => ∃ k : Bool, f = .done (.ret (.bool !k)) ∧ EP X pins σ Q (.bool !k) s') X.xe s := by
    refine wpAny_bind (m := slotArgs "__ne__" 1 _) (wpAny_pure ?_)
    refine wpAny_bind (m := cRoomFor _ _) (wpAny_cRoomFor (Room.in1 hr).units0 ?_)
    refine wpAny_bind (m := callSpecialIfBound? (.ref a) (Str.ofString "__eq__") [.ref b]) (PySem.W.ifBound_K I.kIn J hs hf (wpAny_mono run (fun r s' z => ?_) fun _ _ x => x))
    obtain ⟨k, rfl, q⟩ := z
    exact wpAny_bind (wpAny_truthy_bool (wpAny_pure ⟨k, rfl, q⟩))
  have one : wpAny (model X.prog X.w) X.A (tryCompare (.ref a) "__ne__" (.ref b)) (fun r s' => ∃ k : Bool, r = some (.bool !k) ∧ EP X pins σ Q (.bool !k) s') X.xe s := by
    unfold tryCompare
    refine wpAny_bind (ask_obj I.kIn J hne PySem.F.cmp_object.ne.bind (wpAny_call (codeAny_call_builtin PySem.F.cmp_object.ne.plain PySem.F.cmpEntry_ne
      (PySem.W.check_slot (i := "object.__ne__") (owner := "object") (n := "__ne__") PySem.F.cmpKind_ne PySem.F.cmpSplit_ne (J.type.andThen (PySem.W.looks_mroIn I.kIn hm)) (PySem.F.cmpArgs_ne _ _) (wpAny_mono body (fun f s' z => ?_) fun _ _ x => x)))))
    obtain ⟨k, rfl, z⟩ := z
    exact wpAny_pure ⟨k, rfl, z⟩
  show wpAny (model X.prog X.w) X.A (richCompare .NotEq (.ref a) (.ref b)) _ _ _
  unfold richCompare
  rw [cmpInfo_NotEq]
  simp only [oneThing_ref]
  refine wpAny_holding (wpAny_bind (wpAny_cRoomFor hr.units0 (wpAny_bind (J.type.here (wpAny_bind (J'.type.here ?_))))))
  rw [show (Value.ref C != Value.ref C) = false from bne_self_eq_false _, if_neg Bool.false_ne_true]
  refine wpAny_bind (wpAny_pure (wpAny_bind (wpAny_mono one (fun r s' z => ?_) fun _ _ x => x)))
  obtain ⟨k, rfl, z⟩ := z
  exact wpAny_pure z
end
end OWN
set_option Elab.async false
set_option linter.all false
set_option maxRecDepth 100000
set_option maxHeartbeats 8000000
namespace WK
open PySem L2 PyProof.Rows LCX K1 FV DP LamX NdefX NCX
open TX (sg sigs)
open PySem.W (Frag kitOne)
abbrev sBTab : Stmt := inClass (top 50) 8
abbrev sBCall : Stmt := inClass (top 50) 9
abbrev sBLean : Stmt := inClass (top 50) 13
abbrev sBLen : Stmt := inClass (top 50) 16
abbrev sBEq : Stmt := inClass (top 50) 17
abbrev id_ (r : List Int) : List PyData := r.map PyData.int
abbrev td_ (tb : List (List Int)) : List PyData := tb.map fun r => PyData.tuple (id_ r)
theorem dp_int {K : Frag} {H : Hp} : ∀ r : List Int, DpAll K H (r.map V.int) (id_ r)
  | [] => .nil
  | i :: r => .cons (.int i) (dp_int r)
theorem dp_tab {K : Frag} {H : Hp} : ∀ {ts : List Addr} {tb : List (List Int)}, Objs oTup H ts tb → DpAll K H (ts.map V.ref) (td_ tb)
  | [], [], _ => .nil
  | _ :: _, r :: _, h => .cons (.tup (SqT.of h.1) (dp_int r)) (dp_tab h.2)
  | [], _ :: _, h => h.elim
  | _ :: _, [], h => h.elim
theorem eqv_ints : ∀ a b : List Int, PyData.eqvAll (id_ a) (id_ b) = decide (a = b)
  | [], [] => rfl
  | [], _ :: _ => rfl
  | _ :: _, [] => rfl
  | i :: a, j :: b => by
    show ((i == j) && PyData.eqvAll (id_ a) (id_ b)) = _
    rw [eqv_ints a b, show (i == j) = decide (i = j) from rfl, ← Bool.decide_and]
    exact decide_eq_decide.mpr (List.cons.injEq .. ▸ Iff.rfl)
theorem eqv_tabs : ∀ a b : List (List Int), PyData.eqvAll (td_ a) (td_ b) = decide (a = b)
  | [], [] => rfl
  | [], _ :: _ => rfl
  | _ :: _, [] => rfl
  | r :: a, q :: b => by
    show (PyData.eqvAll (id_ r) (id_ q) && PyData.eqvAll (td_ a) (td_ b)) = _
    rw [eqv_tabs a b, eqv_ints r q, ← Bool.decide_and]
    exact decide_eq_decide.mpr (List.cons.injEq .. ▸ Iff.rfl)
theorem lay_ints : ∀ r : List Int, PyData.canLayAll0 (id_ r) = true
  | [] => rfl
  | i :: r => by
    show (PyData.canLay0 (.int i) && PyData.canLayAll0 (id_ r)) = true
    rw [lay_ints r] <;> rfl
theorem dep_ints : ∀ r : List Int, PyData.depthAll (id_ r) = 0
  | [] => rfl
  | i :: r => by
    show max (PyData.depth (.int i)) (PyData.depthAll (id_ r)) = 0
    rw [dep_ints r] <;> rfl
theorem lay_tab : ∀ tb : List (List Int), PyData.canLayAll0 (td_ tb) = true
  | [] => rfl
  | r :: tb => by
    show (PyData.canLayAll0 (id_ r) && PyData.canLayAll0 (td_ tb)) = true
    rw [lay_ints, lay_tab tb] <;> rfl
theorem dep_tab : ∀ tb : List (List Int), PyData.depthAll (td_ tb) ≤ 1
  | [] => Nat.zero_le _
  | r :: tb => by
    show max (PyData.depthAll (id_ r) + 1) (PyData.depthAll (td_ tb)) ≤ 1
    rw [dep_ints]
    exact Nat.max_le.mpr ⟨Nat.le_refl _, dep_tab tb⟩
theorem sh_tab (tb : List (List Int)) : SeqAt.shaped (.tuple (td_ tb)) = true := by
  show (PyData.canLayAll0 (td_ tb) && decide (PyData.depthAll (td_ tb) + 1 ≤ 64)) = true
  have := dep_tab tb
  rw [lay_tab, decide_eq_true (by omega)] <;> rfl
theorem bfl_L {l t : V} : (bfl l t).lookup ("_letters" : Str) = some l := by
  show (match (("_letters" : Str) == ("_table" : Str)) with | true => some t | false => (([(("_letters" : Str), l)] : List (Str × V)).lookup ("_letters" : Str))) = some l
  rw [show (("_letters" : Str) == ("_table" : Str)) = false from by decide +kernel]
  rfl
theorem bfl_T {l t : V} : (bfl l t).lookup ("_table" : Str) = some t := rfl
/-- what is known of the class Box beside its makers -/
structure TBy (K : Frag) (C : Addr) : Prop where
  is : SlX.SIsi K C
  kC : kitOne K (.ref C) (.ref C) = some true
def spBCall (C : Addr) : Sp := fun vs H Q _ => ∃ (o : Addr) (L u : W) (tb : List (List Int)) (n : Int), vs = [.ref o, .str (tx u)] ∧ BoxAt C H o L tb ∧ Let L ∧ TabOk tb L.length n ∧ 1 ≤ n ∧ n ≤ 1000 ∧ u.length < 64 ∧ (∀ c ∈ u, c ∈ L) ∧ ∀ H', Same H H' → Q (.int (ledL L tb u 0)) H'
def spBLen (C : Addr) : Sp := fun vs H Q _ => ∃ (o : Addr) (L : W) (tb : List (List Int)), vs = [.ref o] ∧ BoxAt C H o L tb ∧ Q (.int (tb.length : Int)) H
def spBEq (C : Addr) : Sp := fun vs H Q _ => ∃ (a b : Addr) (L L' : W) (tb tb' : List (List Int)), vs = [.ref a, .ref b] ∧ BoxAt C H a L tb ∧ BoxAt C H b L' tb' ∧ Q (.bl (decide (L = L' ∧ tb = tb'))) H
theorem rows_tt {K : Frag} {H : Hp} {r : Addr} {tb : List (List Int)} (h : RowsAt H r tb) : TTab K H r tb := let ⟨ts, a, b⟩ := h; ⟨ts, SqT.of a, b⟩
/-- rows were made, a box of them is made: what was there is there -/
theorem box_madeS {C cD : Addr} {H H1 : Hp} {L : W} {tb : List (List Int)} {g : Addr} {Q : VK} (hL : Let L) (s : Same H H1) (mk : MadeAt cD H1 g tb) (q : ∀ o H', H o = none → Same H H' → BoxAt C H' o L tb → Q (.ref o) H') :
    ∀ x dx, H1 x = none → H1 dx = none → dx ≠ x → spBoxI C cD [.ref x, .str (tx L), .ref g] (upd (upd H1 dx (.own x)) x (.ins C dx [])) (fun v H' => v = .non ∧ Q (.ref x) H') E0 := by
  intro x dx hx hdx ne
  have s5 : Same H1 (upd (upd H1 dx (.own x)) x (.ins C dx [])) := fun b o z => by rw [upd_ne (ne_of_none z hx), upd_ne (ne_of_none z hdx)]; exact z
  refine ⟨x, dx, L, g, _, rfl, hL, upd_same, fun z => ?_, mk.same s5, fun r H6 h6 k6 rows => ⟨rfl, ?_⟩⟩
  · obtain ⟨gx, r, e, _⟩ := mk
    rw [z, hx] at e
    cases e
  · have s6 : Same H1 H6 := fun b o z => k6 b o (s5 _ _ z) (ne_of_none z hx)
    exact q x H6 (s.free hx) (s.trans s6) ⟨dx, r, h6, rows⟩
section
variable {P : Program} {w : World} {K : PySem.W.Frag} {mg : Str → Option Value} {base : Heap} {C cD fNW fNO fL fB fD fT : Addr} {dNW dNO dL dB dD dT : FuncData}
theorem scBC : FnScope ["self", "word"] ["self", "word"] (defScope sBCall) := ⟨rfl, rfl, rfl, by decide +kernel, rfl, by decide +kernel, by decide +kernel⟩
theorem ok_bcall {f : Addr} {fd : FuncData} (F : Fun K "__call__" "Box.__call__" sBCall f fd) (M : TBx K mg C cD) (AW : Fn K mg "need_word" sNeedWord ["word"] fNW dNW) (GW : FnOk P w K mg base CX0 3 fNW dNW ["word"] spNeedWord) (AO : Fn K mg "need_over" sNeedOver ["letters", "word"] fNO dNO) (GO : FnOk P w K mg base CX0 3 fNO dNO ["letters", "word"] spNeedOver)
    (AL : Fn K mg "led" sLed ["letters", "table", "word", "start"] fL dL) (GL : FnOk P w K mg base CX0 1 fL dL ["letters", "table", "word", "start"] (spLed K)) : FnOk P w K mg base CX0 4 f fd ["self", "word"] (spBCall C) := by
  refine F.ok scBC (fun vs H Q E h => ?_) (fun cdv A outer s H vs Q E hr h => ?_)
  · obtain ⟨o, L, u, tb, n, rfl, _⟩ := h
    rfl
  · obtain ⟨o, L, u, tb, n, rfl, ⟨dx, r, h1, rows⟩, hL, ok, n1, n2, hu, hc, q⟩ := h
    have hr1 : Room 1 _ := hr.mono (by decide)
    refine ⟨_, pss_cons (ps_expr (pe_call GW hr rfl AW.g AW.F.kp AW.b .nil pass0 (pa_cons (pv 1) pa_nil)))
      (pss_cons (ps_expr (pe_call GO hr rfl AO.g AO.F.kp AO.b .nil pass0 (pa_cons (pe_fld (pv 0) rfl) (pa_cons (pv 1) pa_nil))))
      (pss_one (ps_ret (pe_call GL hr1 rfl AL.g AL.F.kp AL.b .nil pass0 (pa_cons (pe_fld (pv 0) rfl) (pa_cons (pe_fld (pv 0) rfl) (pa_cons (pv 1) (pa_cons pe_int pa_nil)))))))), ?_⟩
    refine ⟨_, rfl, u, rfl, fun c hc' => hL.low c (hc c hc'), _, rfl, o, C, dx, _, _, rfl, h1, M.cl, M.nL, bfl_L, _, rfl, L, u, rfl, hu, hc, fun H1 s1 => ?_⟩
    have g1 := s1 _ _ h1
    refine ⟨_, rfl, o, C, dx, _, _, rfl, g1, M.cl, M.nL, bfl_L, _, rfl, o, C, dx, _, _, rfl, g1, M.cl, M.nT, bfl_T, _, rfl, r, L, u, tb, n, 0, rfl, (rows_tt rows).same s1, hL, ok, n2, Int.le_refl _, by omega, by omega, hc, fun H2 s2 => q H2 (s1.trans s2)⟩
theorem scBN : FnScope ["self"] ["self"] (defScope sBLen) := ⟨rfl, rfl, rfl, by decide +kernel, rfl, by decide +kernel, by decide +kernel⟩
theorem ok_blen {f : Addr} {fd : FuncData} (F : Fun K "__len__" "Box.__len__" sBLen f fd) (T : TN mg) (M : TBx K mg C cD) : FnOk P w K mg base CX0 1 f fd ["self"] (spBLen C) := by
  refine F.ok scBN (fun vs H Q E h => ?_) (fun cdv A outer s H vs Q E hr h => ?_)
  · obtain ⟨o, _, _, rfl, _⟩ := h
    rfl
  · obtain ⟨o, L, tb, rfl, ⟨dx, r, h1, ts, h2, h3⟩, q⟩ := h
    refine ⟨_, pss_one (ps_ret (pe_callB call_len_seq (by rfl) T.len PySem.boot_len (pa_cons (pe_fld (pv 0) rfl) pa_nil))), ?_⟩
    refine ⟨_, rfl, o, C, dx, _, _, rfl, h1, M.cl, M.nT, bfl_T, r, _, rfl, .inr (SqT.of h2), ?_⟩
    rw [List.length_map, h3.len]
    exact q
theorem scBE : FnScope ["self", "other"] ["self", "other"] (defScope sBEq) := ⟨rfl, rfl, rfl, by decide +kernel, rfl, by decide +kernel, by decide +kernel⟩
theorem ok_beq {f : Addr} {fd : FuncData} (F : Fun K "__eq__" "Box.__eq__" sBEq f fd) (T : TN mg) (M : TBx K mg C cD) (Y : TBy K C) : FnOk P w K mg base CX0 1 f fd ["self", "other"] (spBEq C) := by
  refine F.ok scBE (fun vs H Q E h => ?_) (fun cdv A outer s H vs Q E hr h => ?_)
  · obtain ⟨a, b, _, _, _, _, rfl, _⟩ := h
    rfl
  · obtain ⟨a, b, L, L', tb, tb', rfl, ⟨dx, r, h1, ts, h2, h3⟩, ⟨dx', r', g1, ts', g2, g3⟩, q⟩ := h
    refine ⟨_, pss_one (ps_ret (pe_and (pe_callB call_isi (by rfl) T.isi (by decide +kernel) (pa_cons (pv 1) (pa_cons (pe_glob rfl M.gC (show RelV (.ref C) (.ref C) from rfl)) pa_nil)))
      (pe_and (pe_cmpR op_eq (pe_fld (pv 0) rfl) (pe_fld (pv 1) rfl) (nomark _)) (pe_one (pe_cmpR (op_eqD hr.units) (pe_fld (pv 0) rfl) (pe_fld (pv 1) rfl) (nomark _)))))), ?_⟩
    refine ⟨_, rfl, _, _, _, _, true, rfl, .own C, .base (.ins g1 M.cl Y.is.ca Y.is.cn Y.is.ct Y.is.cm), Y.kC, true, rfl, ?_⟩
    refine ⟨_, rfl, a, C, dx, _, _, rfl, h1, M.cl, M.nL, bfl_L, _, rfl, b, C, dx', _, _, rfl, g1, M.cl, M.nL, bfl_L, rfl, _, rfl, ?_⟩
    by_cases e1 : L = L'
    · rw [decide_eq_true (congrArg (fun z => V.str (tx z)) e1)]
      refine ⟨_, rfl, a, C, dx, _, _, rfl, h1, M.cl, M.nT, bfl_T, _, rfl, b, C, dx', _, _, rfl, g1, M.cl, M.nT, bfl_T, .tuple (td_ tb), .tuple (td_ tb'), .tup (SqT.of h2) (dp_tab h3), .tup (SqT.of g2) (dp_tab g3), sh_tab tb, sh_tab tb', ?_⟩
      show Q (.bl (PyData.eqvAll (td_ tb) (td_ tb'))) H
      rw [eqv_tabs, show decide (tb = tb') = decide (L = L' ∧ tb = tb') from decide_eq_decide.mpr ⟨fun z => ⟨e1, z⟩, fun z => z.2⟩]
      exact q
    · rw [decide_eq_false fun z => e1 (K1.tx_inj (V.str.inj z))]
      rw [decide_eq_false fun z => e1 z.1] at q
      exact q
theorem scBLn : FnScope ["self"] ["self"] (defScope sBLean) := ⟨rfl, rfl, rfl, by decide +kernel, rfl, by decide +kernel, by decide +kernel⟩
end
end WK
set_option Elab.async false
set_option linter.all false
set_option maxRecDepth 100000
set_option maxHeartbeats 4000000
namespace RZ
open PySem
open PySem.Sem (wp)
section
variable {prog : Program} {w : World} {A : Around} {E : Value → Shared → Prop} {s : Shared}
/-- a zip of two tuples that holds the pair that it gave before, asked once more: the next pair while the first tuple has an item, its end after that -/
theorem held_asked {z TI TO T i1 i2 l1 l2 : Addr} {f : Bool} {old : Obj} {m n : Nat} {us vs : Array Value} {Q : Fin → Shared → Prop} (D : ZipApart z TI TO i1 i2 l1 l2)
    (isZ : IsZipHeld s.heap z TI TO T f) (oldAt : s.heap.get? T = some old) (its : IsPair s.heap TI (.ref i1) (.ref i2)) (w1 : s.heap.IsTupleIter i1 l1 m) (w2 : s.heap.IsTupleIter i2 l2 n)
    (t1 : s.heap.IsTuple l1 us) (t2 : s.heap.IsTuple l2 vs) (both : ∀ u, us[m]? = some u → ∃ v, vs[n]? = some v)
    (pair : ∀ u v, us[m]? = some u → vs[n]? = some v → ∀ g, IsZipHeld g z TI TO T true → g.IsTupleIter i1 l1 (m + 1) → g.IsTupleIter i2 l2 (n + 1) → IsPair g s.heap.objs.size u v → g.objs.size = s.heap.objs.size + 1 →
      (∀ b q, b ≠ z → b ≠ i1 → b ≠ i2 → s.heap.get? b = some q → g.get? b = some q) → Q (.done (.ret (.ref s.heap.objs.size))) { s with heap := g })
    (over : us[m]? = none → A.handled = none ∧ ∀ g err, (∀ b q, b ≠ z → b ≠ i1 → b ≠ i2 → s.heap.get? b = some q → g.get? b = some q) → (∃ q, g.get? err = some q ∧ q.cls = .type "StopIteration") → E (.ref err) { s with heap := g }) :
    wpAny (model prog w) A (Builtin.«zip.__next__» ⟨[.ref z], []⟩) Q E s := by
  refine wpAny_bind (m := field (.ref z) 2) (wpAny_field isZ rfl (x := .bool false) rfl ?_)
  refine wpAny_bind (m := field (.ref z) 3) (wpAny_field isZ rfl (x := .ref TI) rfl (wpAny_bind (wpAny_seqItems its rfl ?_)))
  refine wpAny_bind (m := Builtin.SmallTypes.ownedTupleIsFree (.ref z)) (wpAny_tupleHeld_zip isZ oldAt fun g1 z1 same1 => ?_)
  simp only [← Array.forIn_toList, List.forIn_cons, List.forIn_nil, Bool.false_eq_true, if_false]
  have v1 := w1.extBut same1.extBut D.i1z
  have y1 := t1.extBut same1.extBut D.l1z
  refine wpAny_bind (wpAny_bind (wpAny_bind (wpAny_holding (wpAny_bind (m := Builtin.SmallTypes.nextOf (.ref i1)) ?_))))
  cases look : us[m]? with
  | none =>
    obtain ⟨calm, over⟩ := over look
    exact nextOf_tuple_end (s := { s with heap := g1 }) calm v1 y1 look fun g err keep isStop => over g err (fun b q bz b1 _ at_b => keep _ _ b1 (same1.extBut _ _ bz at_b)) isStop
  | some u =>
    obtain ⟨v, look2⟩ := both u look
    refine nextOf_tuple_item (s := { s with heap := g1 }) v1 y1 look fun g2 v1' same2 => wpAny_pure (wpAny_pure ?_)
    refine wpAny_bind (wpAny_bind (wpAny_holding (wpAny_bind (m := Builtin.SmallTypes.nextOf (.ref i2)) ?_)))
    refine nextOf_tuple_item (s := { s with heap := g2 }) ((w2.extBut same1.extBut D.i2z).extBut same2.extBut D.i12.symm) ((t2.extBut same1.extBut D.l2z).extBut same2.extBut D.l2i1) look2 fun g3 v2' same3 => ?_
    refine wpAny_pure (wpAny_pure (wpAny_pure (wpAny_bind (m := newTuple [u, v]) (wpAny_newTuple ?_))))
    have size3 : g3.objs.size = s.heap.objs.size := same3.1.trans (same2.1.trans same1.1)
    refine wpAny_pure ?_
    show Q (.done (.ret (.ref g3.objs.size))) _
    have made : IsPair (g3.push { cls := .type "tuple", data := .seq #[u, v] }) g3.objs.size u v := Heap.get?_push_size _ rfl
    have grown : (g3.push { cls := .type "tuple", data := .seq #[u, v] }).objs.size = g3.objs.size + 1 := Heap.size_push ..
    rw [size3] at made grown ⊢
    refine pair u v look look2 _ (Heap.get?_push_of_some _ (same3.extBut _ _ D.i2z.symm (same2.extBut _ _ D.i1z.symm z1))) ((v1'.extBut same3.extBut D.i12).at fun o at_b => Heap.get?_push_of_some _ at_b)
      (v2'.at fun o at_b => Heap.get?_push_of_some _ at_b) made grown fun b q bz b1 b2 at_b => ?_
    exact Heap.get?_push_of_some _ (same3.extBut _ _ b2 (same2.extBut _ _ b1 (same1.extBut _ _ bz at_b)))
/-- where zip stands, i pairs out -/
def ZS (h : Heap) (z TI TO i1 i2 l1 l2 : Addr) (i : Nat) : Prop := IsPair h TI (.ref i1) (.ref i2) ∧ h.IsTupleIter i1 l1 i ∧ h.IsTupleIter i2 l2 i ∧
  ((IsZip h z TI TO .none ∧ ∃ a b, IsPair h TO a b) ∨ ∃ T f oT, IsZipHeld h z TI TO T f ∧ h.get? T = some oT)
theorem ZS.typeIs {z TI TO i1 i2 l1 l2 : Addr} {i : Nat} (h : ZS s.heap z TI TO i1 i2 l1 l2 i) : s.TypeIs (.ref z) "zip" := by
  obtain ⟨_, _, _, ⟨h, _⟩ | ⟨T, f, oT, h, _⟩⟩ := h
  · exact ⟨_, h, rfl⟩
  · exact ⟨_, h, rfl⟩
theorem ZS.keep {h h' : Heap} {z TI TO i1 i2 l1 l2 S : Addr} {i : Nat} (x : ZS h z TI TO i1 i2 l1 l2 i) (hS : ∃ acc c, h.get? S = some { cls := .type "list", dict := none, data := .seq acc c, slots := #[] })
    (k : ∀ b o, b ≠ S → h.get? b = some o → h'.get? b = some o) (kS : ∃ o, h'.get? S = some o) : ZS h' z TI TO i1 i2 l1 l2 i := by
  obtain ⟨acc, c, hS⟩ := hS
  obtain ⟨h1, ⟨o2, h2, c2, r2⟩, ⟨o3, h3, c3, r3⟩, h4⟩ := x
  have ne : ∀ b o, h.get? b = some o → o.cls ≠ .type "list" → b ≠ S := fun b o e q z => by
    rw [z, hS] at e
    cases e
    exact q rfl
  refine ⟨k _ _ (ne _ _ h1 (fun z => by simp at z)) h1, ⟨o2, k _ _ (ne _ _ h2 (by rw [c2]; simp)) h2, c2, r2⟩, ⟨o3, k _ _ (ne _ _ h3 (by rw [c3]; simp)) h3, c3, r3⟩, ?_⟩
  rcases h4 with ⟨h4, a, b, h5⟩ | ⟨T, f, oT, h4, h5⟩
  · exact .inl ⟨k _ _ (ne _ _ h4 (fun z => by simp at z)) h4, a, b, k _ _ (ne _ _ h5 (fun z => by simp at z)) h5⟩
  · by_cases hT : T = S
    · obtain ⟨o, kS⟩ := kS
      exact .inr ⟨T, f, o, k _ _ (ne _ _ h4 (fun z => by simp at z)) h4, by rw [hT]; exact kS⟩
    · exact .inr ⟨T, f, oT, k _ _ (ne _ _ h4 (fun z => by simp at z)) h4, k _ _ hT h5⟩
end
end RZ
set_option Elab.async false
set_option linter.all false
set_option maxRecDepth 100000
set_option maxHeartbeats 8000000
namespace ZQT
open PySem PySem.Spec PyProof.Rows L2 RZ
section
variable {prog : Program} {w : World} {A : Around} {E : Value → Shared → Prop} {s : Shared}
/-- where it stands, i pairs out, the first of them l -/
structure At (a b z TI TO i1 i2 : Addr) (i : Nat) (l : Option Addr) (h : Heap) : Prop where
  ti : IsPair h TI (.ref i1) (.ref i2)
  to : ∃ p q, IsPair h TO p q
  it1 : h.IsTupleIter i1 a i
  it2 : h.IsTupleIter i2 b i
  none_ : l = none → IsZip h z TI TO .none
  some_ : ∀ T, l = some T → ∃ f, IsZipHeld h z TI TO T f
theorem At.keep {a b z TI TO i1 i2 : Addr} {i : Nat} {l : Option Addr} {h h' : Heap} (x : At a b z TI TO i1 i2 i l h) (k : ∀ c ∈ [z, TI, TO, i1, i2], ∀ o, h.get? c = some o → h'.get? c = some o) : At a b z TI TO i1 i2 i l h' :=
  ⟨k TI (by simp) _ x.ti, let ⟨p, q, e⟩ := x.to; ⟨p, q, k TO (by simp) _ e⟩, x.it1.at fun o e => k i1 (by simp) o e, x.it2.at fun o e => k i2 (by simp) o e, fun e => k z (by simp) _ (x.none_ e), fun T e => let ⟨f, q⟩ := x.some_ T e; ⟨f, k z (by simp) _ q⟩⟩
theorem At.typeIs {a b z TI TO i1 i2 : Addr} {i : Nat} {l : Option Addr} (x : At a b z TI TO i1 i2 i l s.heap) : s.TypeIs (.ref z) "zip" := by
  cases l with
  | none => exact ⟨_, x.none_ rfl, rfl⟩
  | some T =>
    obtain ⟨f, q⟩ := x.some_ T rfl
    exact ⟨_, q, rfl⟩
theorem item {a b z TI TO i1 i2 : Addr} {i : Nat} {l : Option Addr} {xs ys : Array Value} {x y : Value} {Q : Option Value → Shared → Prop} (D : ZipApart z TI TO i1 i2 a b) (st : At a b z TI TO i1 i2 i l s.heap) (old : ∀ T, l = some T → ∃ o, s.heap.get? T = some o ∧ T ∉ [z, TI, TO, i1, i2])
    (ha : s.heap.IsTuple a xs) (hb : s.heap.IsTuple b ys) (hx : xs[i]? = some x) (hy : ys[i]? = some y)
    (hQ : ∀ g, At a b z TI TO i1 i2 (i + 1) (some (l.getD s.heap.objs.size)) g → IsPair g s.heap.objs.size x y → (∀ c o, c ≠ z → c ≠ TO → c ≠ i1 → c ≠ i2 → s.heap.get? c = some o → g.get? c = some o) → Q (some (.ref s.heap.objs.size)) { s with heap := g }) :
    wpAny (model prog w) A (pyNext (.ref z)) Q E s := by
  have isTy := st.typeIs
  obtain ⟨h1, ⟨p, q, h2⟩, h3, h4, h5, h6⟩ := st
  cases l with
  | none =>
    refine pyNext_zipT_item D (h5 rfl) h1 h2 h3 h4 ha hb hx hy fun g z' TO' w1 w2 made _ keep => hQ g ⟨keep _ _ D.TIz D.TITO D.TIi1 D.TIi2 h1, ⟨_, _, TO'⟩, w1, w2, (fun e => nomatch e), fun T e => ?_⟩ made keep
    cases e
    exact ⟨false, z'⟩
  | some T =>
    obtain ⟨f, held⟩ := h6 T rfl
    obtain ⟨oT, atT, nT⟩ := old T rfl
    unfold pyNext
    refine wpAny_bind (wpAny_attempt (wpAny_callSpecial?_slot (name := Str.ofString "__next__") isTy F.slot_zip_next (wpAny_call_entry F.slot_zip_next isTy F.entry_zip_next ?_ (F.args_zip_next_1 _))))
    refine held_asked D held atT h1 h3 h4 ha hb (fun _ _ => ⟨y, hy⟩) (fun u v hu hv g z' w1 w2 made _ keep => ?_) (fun no => nomatch hx.symm.trans no)
    cases hx.symm.trans hu
    cases hy.symm.trans hv
    refine ⟨_, rfl, wpAny_pure (hQ g ⟨keep _ _ D.TIz D.TIi1 D.TIi2 h1, ⟨p, q, keep _ _ D.TOz D.TOi1 D.TOi2 h2⟩, w1, w2, (fun e => nomatch e), fun T' e => ?_⟩ made fun c o cz _ c1 c2 e => keep c o cz c1 c2 e)⟩
    cases e
    exact ⟨true, z'⟩
end
end ZQT
set_option Elab.async false
set_option linter.all false
set_option maxRecDepth 100000
set_option maxHeartbeats 8000000
namespace WK
open PySem L2 PyProof.Rows LCX K1 FV DP
open TX (sg sigs)
open PySem.W (Frag kitOne)
end WK
set_option Elab.async false
set_option linter.all false
set_option maxRecDepth 100000
set_option maxHeartbeats 4000000
namespace WK
open PySem PySem.Spec L2 PyProof.Rows K1
section
variable {α : Type} [DecidableEq α] {f : α → Nat → α} {L : W} {start : α}
theorem exSign_nd {key : α} {st : List α × List Int} {c : Nat} (h : st.1.Nodup) : (exSign f key st c).1.Nodup := by
  unfold exSign
  split
  · exact h
  · rename_i hn
    refine List.nodup_append.mpr ⟨h, List.nodup_cons.mpr ⟨List.not_mem_nil, List.nodup_nil⟩, fun x hx y hy z => ?_⟩
    rw [List.mem_singleton.mp hy] at z
    exact hn (z ▸ hx)
theorem exFold_nd {key : α} : ∀ {l : W} {st : List α × List Int}, st.1.Nodup → (l.foldl (exSign f key) st).1.Nodup
  | [], _, h => h
  | c :: l, _, h => exFold_nd (l := l) (exSign_nd h)
theorem exAll_cases (j : Nat) : (∃ key, (exAll f L start j).1[j]? = some key ∧ exAll f L start (j + 1) = ((L.foldl (exSign f key) ((exAll f L start j).1, [])).1, (exAll f L start j).2 ++ [(L.foldl (exSign f key) ((exAll f L start j).1, [])).2])) ∨
    ((exAll f L start j).1.length ≤ j ∧ exAll f L start (j + 1) = exAll f L start j) := by
  cases e : (exAll f L start j).1[j]? with
  | some key => exact .inl ⟨key, rfl, exAll_at e⟩
  | none =>
    have h := List.getElem?_eq_none_iff.mp e
    exact .inr ⟨h, exAll_stop h 1⟩
theorem exAll_nd : ∀ j, (exAll f L start j).1.Nodup
  | 0 => List.nodup_cons.mpr ⟨List.not_mem_nil, List.nodup_nil⟩
  | j + 1 => by
    rcases exAll_cases (f := f) (L := L) (start := start) j with ⟨key, _, e⟩ | ⟨_, e⟩
    · rw [e]
      exact exFold_nd (exAll_nd j)
    · rw [e]
      exact exAll_nd j
theorem exAll_grow (j : Nat) : (exAll f L start j).1 <+: (exAll f L start (j + 1)).1 ∧ (exAll f L start j).2 <+: (exAll f L start (j + 1)).2 := by
  rcases exAll_cases (f := f) (L := L) (start := start) j with ⟨key, _, e⟩ | ⟨_, e⟩
  · rw [e]
    exact ⟨exFold_grows f key L ((exAll f L start j).1, []), List.prefix_append _ _⟩
  · rw [e]
    exact ⟨List.prefix_refl _, List.prefix_refl _⟩
theorem exAll_pre (j : Nat) : ∀ m, (exAll f L start j).1 <+: (exAll f L start (j + m)).1 ∧ (exAll f L start j).2 <+: (exAll f L start (j + m)).2
  | 0 => ⟨List.prefix_refl _, List.prefix_refl _⟩
  | m + 1 => ⟨(exAll_pre j m).1.trans (exAll_grow (j + m)).1, (exAll_pre j m).2.trans (exAll_grow (j + m)).2⟩
theorem exAll_most {N : Nat} (h : (exAll f L start N).1.length ≤ N) (j : Nat) : (exAll f L start j).1.length ≤ N := by
  rcases Nat.le_total j N with a | a
  · have := (exAll_pre (f := f) (L := L) (start := start) j (N - j)).1.length_le
    rw [show j + (N - j) = N by omega] at this
    exact Nat.le_trans this h
  · have := exAll_stop h (j - N)
    rw [show N + (j - N) = j by omega] at this
    rw [this]
    exact h
theorem exAll_rows : ∀ j, (exAll f L start j).2.length = min j (exAll f L start j).1.length
  | 0 => by
    show 0 = min 0 1
    rfl
  | j + 1 => by
    have ih := exAll_rows j
    rcases exAll_cases (f := f) (L := L) (start := start) j with ⟨key, hk, e⟩ | ⟨h, e⟩
    · have hj := (List.getElem?_eq_some_iff.mp hk).1
      have hg := (exAll_grow (f := f) (L := L) (start := start) j).1.length_le
      have h2 : (exAll f L start (j + 1)).2.length = (exAll f L start j).2.length + 1 := by rw [e, List.length_append] <;> rfl
      rw [h2, ih]
      omega
    · rw [e, ih]
      omega
theorem idx_pre {a : α} {l m : List α} (h : a ∈ l) (p : l <+: m) : m.idxOf a = l.idxOf a := by
  obtain ⟨t, rfl⟩ := p
  rw [List.idxOf_append, if_pos h]
theorem fold_row (key : α) : ∀ (l : W) (st : List α × List Int), (l.foldl (exSign f key) st).2 = st.2 ++ l.map (fun c => (((l.foldl (exSign f key) st).1.idxOf (f key c) : Nat) : Int)) ∧ ∀ c ∈ l, f key c ∈ (l.foldl (exSign f key) st).1
  | [], st => ⟨(List.append_nil _).symm, fun c hc => (List.not_mem_nil hc).elim⟩
  | c :: l, st => by
    have one : f key c ∈ (exSign f key st c).1 ∧ (exSign f key st c).2 = st.2 ++ [(((exSign f key st c).1.idxOf (f key c) : Nat) : Int)] := by
      unfold exSign
      by_cases h : f key c ∈ st.1
      · rw [if_pos h]
        exact ⟨h, rfl⟩
      · rw [if_neg h]
        refine ⟨List.mem_append_right _ (List.mem_singleton.mpr rfl), ?_⟩
        show _ = st.2 ++ [(((st.1 ++ [f key c]).idxOf (f key c) : Nat) : Int)]
        rw [idx_end h]
    obtain ⟨ih1, ih2⟩ := fold_row key l (exSign f key st c)
    have pre := exFold_grows f key l (exSign f key st c)
    rw [List.foldl_cons]
    refine ⟨?_, fun d hd => ?_⟩
    · rw [ih1, one.2, List.append_assoc, List.map_cons, idx_pre one.1 pre] <;> rfl
    · rcases List.mem_cons.mp hd with rfl | z
      · exact pre.subset one.1
      · exact ih2 d z
/-- each row tells where the letters lead -/
theorem exAll_row : ∀ (j i : Nat) (r : List Int), (exAll f L start j).2[i]? = some r → ∃ key, (exAll f L start j).1[i]? = some key ∧ r = L.map (fun c => (((exAll f L start j).1.idxOf (f key c) : Nat) : Int)) ∧ ∀ c ∈ L, f key c ∈ (exAll f L start j).1
  | 0, i, r, h => by
    have : (exAll f L start 0).2 = [] := rfl
    rw [this] at h
    cases h
  | j + 1, i, r, h => by
    rcases exAll_cases (f := f) (L := L) (start := start) j with ⟨key, hk, e⟩ | ⟨_, e⟩
    · have pre := (exAll_grow (f := f) (L := L) (start := start) j).1
      have hj := (List.getElem?_eq_some_iff.mp hk).1
      have hl := exAll_rows (f := f) (L := L) (start := start) j
      rw [e] at h pre ⊢
      by_cases hi : i < (exAll f L start j).2.length
      · rw [List.getElem?_append_left hi] at h
        obtain ⟨k, k1, k2, k3⟩ := exAll_row j i r h
        refine ⟨k, ?_, ?_, fun c hc => pre.subset (k3 c hc)⟩
        · obtain ⟨t, ht⟩ := pre
          show (L.foldl (exSign f key) ((exAll f L start j).1, [])).1[i]? = _
          rw [← ht, List.getElem?_append_left (List.getElem?_eq_some_iff.mp k1).1]
          exact k1
        · rw [k2]
          refine List.map_congr_left fun c hc => ?_
          rw [idx_pre (k3 c hc) pre]
      · have hi2 : i = j := by
          have := (List.getElem?_eq_some_iff.mp h).1
          rw [List.length_append] at this
          have : i < (exAll f L start j).2.length + 1 := this
          omega
        rw [List.getElem?_append_right (by omega), hi2, hl, show j - min j (exAll f L start j).1.length = 0 by omega] at h
        obtain rfl := Option.some.inj h
        obtain ⟨f1, f2⟩ := fold_row (f := f) key L ((exAll f L start j).1, [])
        refine ⟨key, ?_, by rw [f1, List.nil_append], f2⟩
        obtain ⟨t, ht⟩ := pre
        show (L.foldl (exSign f key) ((exAll f L start j).1, [])).1[i]? = _
        rw [← ht, hi2, List.getElem?_append_left hj]
        exact hk
    · rw [e] at h ⊢
      exact exAll_row j i r h
theorem fold_add (key : α) : ∀ (l : W) (st : List α × List Int), ∃ es, (l.foldl (exSign f key) st).2 = st.2 ++ es ∧ es.foldl addN (rngI st.1.length) = rngI (l.foldl (exSign f key) st).1.length
  | [], st => ⟨[], (List.append_nil _).symm, rfl⟩
  | c :: l, st => by
    have one : ∃ e, (exSign f key st c).2 = st.2 ++ [e] ∧ addN (rngI st.1.length) e = rngI (exSign f key st c).1.length := by
      unfold exSign
      by_cases h : f key c ∈ st.1
      · rw [if_pos h]
        refine ⟨_, rfl, ?_⟩
        unfold addN
        rw [if_pos]
        exact List.mem_map.mpr ⟨_, List.mem_range.mpr (List.idxOf_lt_length_of_mem h), rfl⟩
      · rw [if_neg h]
        refine ⟨_, rfl, ?_⟩
        unfold addN
        rw [if_neg]
        · show _ = rngI (st.1 ++ [f key c]).length
          unfold rngI
          rw [List.length_append, show st.1.length + [f key c].length = st.1.length + 1 from rfl, List.range_succ, List.map_append] <;> rfl
        · intro z
          obtain ⟨i, hi, e⟩ := List.mem_map.mp z
          have := List.mem_range.mp hi
          omega
    obtain ⟨e, h1, h2⟩ := one
    obtain ⟨es, h3, h4⟩ := fold_add key l (exSign f key st c)
    rw [List.foldl_cons]
    refine ⟨e :: es, by rw [h3, h1, List.append_assoc] <;> rfl, ?_⟩
    rw [List.foldl_cons, h2]
    exact h4
theorem rng_at {n j : Nat} : (rngI n)[j]? = if j < n then some ((j : Nat) : Int) else none := by
  unfold rngI
  rw [List.getElem?_map]
  by_cases h : j < n
  · rw [if_pos h, List.getElem?_range h] <;> rfl
  · rw [if_neg h, List.getElem?_eq_none (by rw [List.length_range]; omega)] <;> rfl
theorem ex_way {N : Nat} : ∀ j ≤ N, wyA (exAll f L start N).2 0 j = rngI (exAll f L start j).1.length
  | 0, _ => rfl
  | j + 1, hj => by
    have ih := ex_way j (Nat.le_of_succ_le hj)
    have hl := exAll_rows (f := f) (L := L) (start := start) j
    rcases exAll_cases (f := f) (L := L) (start := start) j with ⟨key, hk, e⟩ | ⟨h, e⟩
    · have hlt := (List.getElem?_eq_some_iff.mp hk).1
      have h1 : (wyA (exAll f L start N).2 0 j)[j]? = some ((j : Nat) : Int) := by rw [ih, rng_at, if_pos hlt]
      rw [wyA_at h1, ih, e]
      obtain ⟨es, a1, a2⟩ := fold_add (f := f) key L ((exAll f L start j).1, [])
      have row : (exAll f L start N).2.getD ((j : Nat) : Int).toNat [] = es := by
        have pre := (exAll_pre (f := f) (L := L) (start := start) (j + 1) (N - (j + 1))).2
        rw [show j + 1 + (N - (j + 1)) = N by omega, e] at pre
        obtain ⟨t, ht⟩ := pre
        rw [← ht, List.getD_eq_getElem?_getD, Int.toNat_natCast, List.append_assoc, List.getElem?_append_right (by omega), hl, show j - min j (exAll f L start j).1.length = 0 by omega]
        show (L.foldl (exSign f key) ((exAll f L start j).1, [])).2 = es
        rw [a1] <;> rfl
      rw [row]
      exact a2
    · rw [e, ← ih]
      have h1 : (wyA (exAll f L start N).2 0 j).length ≤ j := by rw [ih]; unfold rngI; rw [List.length_map, List.length_range]; exact h
      exact wyA_stop h1 1
/-- all is explored in N steps -/
structure Done (f : α → Nat → α) (L : W) (start : α) (N : Nat) : Prop where
  len : (exAll f L start N).1.length = N
  pos : 1 ≤ N
theorem Done.lean {N : Nat} (d : Done f L start N) : LeanT (exAll f L start N).2 := by
  have hl := exAll_rows (f := f) (L := L) (start := start) N
  rw [d.len, Nat.min_self] at hl
  refine ⟨?_⟩
  rw [hl, ex_way N (Nat.le_refl _), d.len]
theorem Done.tab {N : Nat} (d : Done f L start N) : TabOk (exAll f L start N).2 L.length (N : Int) := by
  have hl := exAll_rows (f := f) (L := L) (start := start) N
  rw [d.len, Nat.min_self] at hl
  refine ⟨by rw [hl], fun r hr => ?_⟩
  obtain ⟨i, hi⟩ := List.mem_iff_getElem?.mp hr
  obtain ⟨key, _, h2, h3⟩ := exAll_row N i r hi
  refine ⟨by rw [h2, List.length_map], fun x hx => ?_⟩
  rw [h2] at hx
  obtain ⟨c, hc, rfl⟩ := List.mem_map.mp hx
  have := List.idxOf_lt_length_of_mem (h3 c hc)
  rw [d.len] at this
  omega
theorem Done.led {N : Nat} (d : Done f L start N) : ∀ (u : W) (key : α), key ∈ (exAll f L start N).1 → (∀ c ∈ u, c ∈ L) → u.foldl f key ∈ (exAll f L start N).1 ∧ ledL L (exAll f L start N).2 u (((exAll f L start N).1.idxOf key : Nat) : Int) = (((exAll f L start N).1.idxOf (u.foldl f key) : Nat) : Int)
  | [], key, hk, _ => ⟨hk, rfl⟩
  | c :: u, key, hk, hu => by
    have hl := exAll_rows (f := f) (L := L) (start := start) N
    rw [d.len, Nat.min_self] at hl
    have hi := List.idxOf_lt_length_of_mem hk
    have hi2 : (exAll f L start N).1.idxOf key < (exAll f L start N).2.length := Nat.lt_of_lt_of_eq hi (d.len.trans hl.symm)
    obtain ⟨key2, k1, k2, k3⟩ := exAll_row N _ _ (List.getElem?_eq_getElem hi2)
    have ek : key2 = key := by
      rw [List.getElem?_eq_getElem hi] at k1
      rw [← Option.some.inj k1]
      exact List.getElem_idxOf hi
    subst ek
    have hc := hu c (.head _)
    obtain ⟨a, b⟩ := Done.led d u (f key2 c) (k3 c hc) fun x hx => hu x (.tail _ hx)
    refine ⟨a, ?_⟩
    rw [List.foldl_cons, ← b]
    show ledL L _ u (stepL L _ _ c) = _
    congr 1
    unfold stepL
    have e1 : (exAll f L start N).2.getD (((exAll f L start N).1.idxOf key2 : Nat) : Int).toNat [] = (exAll f L start N).2[(exAll f L start N).1.idxOf key2] := by
      rw [Int.toNat_natCast, List.getD_eq_getElem?_getD, List.getElem?_eq_getElem hi2] <;> rfl
    rw [e1, k2, List.getD_eq_getElem?_getD, List.getElem?_map, List.getElem?_eq_getElem (List.idxOf_lt_length_of_mem hc)]
    show (((exAll f L start N).1.idxOf (f key2 (L[L.idxOf c]'(List.idxOf_lt_length_of_mem hc))) : Nat) : Int) = _
    rw [List.getElem_idxOf (List.idxOf_lt_length_of_mem hc)]
theorem Done.zero {N : Nat} (d : Done f L start N) : start ∈ (exAll f L start N).1 ∧ (exAll f L start N).1.idxOf start = 0 := by
  have pre := (exAll_pre (f := f) (L := L) (start := start) 0 N).1
  rw [Nat.zero_add] at pre
  obtain ⟨t, ht⟩ := pre
  have : (exAll f L start N).1 = start :: t := by rw [← ht] <;> rfl
  rw [this]
  exact ⟨List.mem_cons_self, List.idxOf_cons_self⟩
/-- two words lead to one place just if they make one key -/
theorem Done.same {N : Nat} (d : Done f L start N) {u v : W} (hu : ∀ c ∈ u, c ∈ L) (hv : ∀ c ∈ v, c ∈ L) : ledL L (exAll f L start N).2 u 0 = ledL L (exAll f L start N).2 v 0 ↔ u.foldl f start = v.foldl f start := by
  obtain ⟨z1, z2⟩ := d.zero
  obtain ⟨a1, a2⟩ := d.led u start z1 hu
  obtain ⟨b1, b2⟩ := d.led v start z1 hv
  rw [z2] at a2 b2
  have a2' : ledL L (exAll f L start N).2 u 0 = _ := a2
  have b2' : ledL L (exAll f L start N).2 v 0 = _ := b2
  rw [a2', b2']
  constructor
  · intro e
    have h1 := List.idxOf_lt_length_of_mem a1
    have h2 := List.idxOf_lt_length_of_mem b1
    have e : (exAll f L start N).1.idxOf (u.foldl f start) = (exAll f L start N).1.idxOf (v.foldl f start) := by omega
    rw [← List.getElem_idxOf h1, ← List.getElem_idxOf h2]
    congr 1
  · intro e
    rw [e]
theorem Done.most {N : Nat} (d : Done f L start N) (hN : N ≤ 400) : (∀ j, (exAll f L start j).1.length ≤ 400) ∧ exAll f L start 400 = exAll f L start N := by
  refine ⟨fun j => Nat.le_trans (exAll_most (Nat.le_of_eq d.len) j) hN, ?_⟩
  have := exAll_stop (Nat.le_of_eq d.len) (400 - N)
  rw [show N + (400 - N) = 400 by omega] at this
  exact this
end
end WK
set_option Elab.async false
set_option linter.all false
set_option maxRecDepth 100000
set_option maxHeartbeats 4000000
namespace WK
open PySem L2 PyProof.Rows K1
section
variable {α : Type} [DecidableEq α] {f : α → Nat → α} {L : W} {start : α}
theorem fold_in {S : List α} {key : α} (hk : ∀ c ∈ L, f key c ∈ S) : ∀ {l : W} {st : List α × List Int}, (∀ c ∈ l, c ∈ L) → (∀ a ∈ st.1, a ∈ S) → ∀ a ∈ (l.foldl (exSign f key) st).1, a ∈ S
  | [], _, _, h => h
  | c :: l, st, hl, h => fold_in hk (l := l) (st := exSign f key st c) (fun d hd => hl d (.tail _ hd)) fun a ha => by
    unfold exSign at ha
    split at ha
    · exact h a ha
    · rcases List.mem_append.mp ha with z | z
      · exact h a z
      · rw [List.mem_singleton.mp z]
        exact hk c (hl c (.head _))
/-- what is explored stays in what the step keeps -/
theorem keys_in {S : List α} (h0 : start ∈ S) (hs : ∀ a ∈ S, ∀ c ∈ L, f a c ∈ S) : ∀ j, ∀ a ∈ (exAll f L start j).1, a ∈ S
  | 0, a, ha => by
    rw [List.mem_singleton.mp ha]
    exact h0
  | j + 1, a, ha => by
    rcases exAll_cases (f := f) (L := L) (start := start) j with ⟨key, hk, e⟩ | ⟨_, e⟩
    · rw [e] at ha
      exact fold_in (hs key (keys_in h0 hs j key (List.mem_of_getElem? hk))) (fun _ h => h) (keys_in h0 hs j) a ha
    · rw [e] at ha
      exact keys_in h0 hs j a ha
/-- over finitely many keys exploring ends -/
theorem done_in {S : List α} (h0 : start ∈ S) (hs : ∀ a ∈ S, ∀ c ∈ L, f a c ∈ S) : ∃ N, Done f L start N ∧ N ≤ S.length := by
  have few : ∀ j, (exAll f L start j).1.length ≤ S.length := fun j => (exAll_nd (f := f) (L := L) (start := start) j).length_le_of_subset (keys_in h0 hs j)
  have at0 : 1 ≤ (exAll f L start S.length).1.length := by
    have := (exAll_pre (f := f) (L := L) (start := start) 0 S.length).1.length_le
    rw [Nat.zero_add] at this
    exact this
  refine ⟨(exAll f L start S.length).1.length, ⟨?_, at0⟩, few _⟩
  generalize hN : (exAll f L start S.length).1.length = N
  have le : N ≤ S.length := hN ▸ few _
  have up := (exAll_pre (f := f) (L := L) (start := start) N (S.length - N)).1.length_le
  rw [show N + (S.length - N) = S.length by omega, hN] at up
  have st := exAll_stop up (S.length - N)
  rw [show N + (S.length - N) = S.length by omega] at st
  rw [← st]
  exact hN
end
/-- the step of a table -/
def rowF (U : List (List Int)) (k : Int) (c : Nat) : Int := (U.getD k.toNat []).getD c 0
theorem rowF_in {U : List (List Int)} {wd : Nat} {n : Int} (ok : TabOk U wd n) {k : Int} (hk : 0 ≤ k ∧ k < n) {c : Nat} (hc : c < wd) : 0 ≤ rowF U k c ∧ rowF U k c < n := by
  have hl := ok.len
  have hi : k.toNat < U.length := by omega
  obtain ⟨w, b⟩ := ok.row _ (List.getElem_mem hi)
  unfold rowF
  rw [show U.getD k.toNat [] = U[k.toNat] by rw [List.getD_eq_getElem?_getD, List.getElem?_eq_getElem hi] <;> rfl]
  rw [show U[k.toNat].getD c 0 = U[k.toNat][c]'(by omega) by rw [List.getD_eq_getElem?_getD, List.getElem?_eq_getElem (by omega)] <;> rfl]
  exact b _ (List.getElem_mem _)
abbrev numsTo (n : Int) : List Int := (List.range n.toNat).map fun i => ((i : Nat) : Int)
theorem mem_nums {n k : Int} : k ∈ numsTo n ↔ 0 ≤ k ∧ k < n := by
  rw [List.mem_map]
  constructor
  · rintro ⟨i, hi, rfl⟩
    have := List.mem_range.mp hi
    omega
  · rintro ⟨a, b⟩
    exact ⟨k.toNat, List.mem_range.mpr (by omega), by omega⟩
/-- a table's reached places are told in at most so many steps -/
theorem done_row {U : List (List Int)} {wd : Nat} {n : Int} (ok : TabOk U wd n) (h1 : 1 ≤ n) : ∃ N, Done (rowF U) (List.range wd) 0 N ∧ N ≤ n.toNat := by
  obtain ⟨N, d, le⟩ := done_in (f := rowF U) (L := List.range wd) (start := (0 : Int)) (S := numsTo n) (mem_nums.mpr ⟨Int.le_refl _, by omega⟩) fun a ha c hc => mem_nums.mpr (rowF_in ok (mem_nums.mp ha) (List.mem_range.mp hc))
  exact ⟨N, d, by rw [List.length_map, List.length_range] at le; exact le⟩
theorem fold_add1 {α : Type} [DecidableEq α] (f : Int → Nat → Int) (key : Int) : ∀ (l : W) (st : List Int × List Int), (l.foldl (exSign f key) st).1 = (l.map (f key)).foldl addN st.1
  | [], _ => rfl
  | c :: l, st => by
    rw [List.foldl_cons, List.map_cons, List.foldl_cons, fold_add1 (α := α) f key l]
    congr 1
    unfold exSign addN
    split <;> rfl
/-- the ways in a table, in their order, are what its step explores -/
theorem way_row {U : List (List Int)} {wd : Nat} {n : Int} (ok : TabOk U wd n) (h1 : 1 ≤ n) : ∀ j, wyA U 0 j = (exAll (rowF U) (List.range wd) 0 j).1
  | 0 => rfl
  | j + 1 => by
    have ih := way_row ok h1 j
    have inn := keys_in (f := rowF U) (L := List.range wd) (start := (0 : Int)) (S := numsTo n) (mem_nums.mpr ⟨Int.le_refl _, by omega⟩) (fun a ha c hc => mem_nums.mpr (rowF_in ok (mem_nums.mp ha) (List.mem_range.mp hc))) j
    rcases exAll_cases (f := rowF U) (L := List.range wd) (start := (0 : Int)) j with ⟨key, hk, e⟩ | ⟨hl, e⟩
    · rw [wyA_at (ih ▸ hk), e, ih]
      show _ = ((List.range wd).foldl (exSign (rowF U) key) ((exAll (rowF U) (List.range wd) 0 j).1, [])).1
      rw [fold_add1 (α := Int)]
      congr 1
      have hb := mem_nums.mp (inn key (List.mem_of_getElem? hk))
      have hlen := ok.len
      have hi : key.toNat < U.length := by omega
      have hw := (ok.row _ (List.getElem_mem hi)).1
      have eU : U.getD key.toNat [] = U[key.toNat] := by rw [List.getD_eq_getElem?_getD, List.getElem?_eq_getElem hi] <;> rfl
      rw [eU]
      refine List.ext_getElem (by rw [List.length_map, List.length_range, hw]) fun i a b => ?_
      rw [List.getElem_map, List.getElem_range]
      unfold rowF
      rw [eU, List.getD_eq_getElem?_getD, List.getElem?_eq_getElem a]
      rfl
    · rw [e, ← ih]
      exact wyA_stop (by rw [ih]; exact hl) 1
end WK
set_option Elab.async false
set_option linter.all false
set_option maxRecDepth 100000
set_option maxHeartbeats 8000000
namespace WK
open PySem L2 PyProof.Rows LCX K1 FV DP
open TX (sg sigs)
open PySem.W (Frag kitOne)
/-- the table of what words reach -/
def leanT (U : List (List Int)) (wd : Nat) : List (List Int) := (exAll (rowF U) (List.range wd) 0 U.length).2
theorem exAll_len {α : Type} [DecidableEq α] {f : α → Nat → α} {L : W} {start : α} {N M : Nat} (d : Done f L start N) (h : N ≤ M) : exAll f L start M = exAll f L start N := by
  have := exAll_stop (Nat.le_of_eq d.len) (M - N)
  rw [show N + (M - N) = M by omega] at this
  exact this
/-- what a table's words reach: numbers of rows, each once, closed under the steps -/
structure Ord (U : List (List Int)) (wd : Nat) (o : List Int) (B : List (List Int)) : Prop where
  way : wyA U 0 U.length = o
  nd : o.Nodup
  len : B.length = o.length
  le : o.length ≤ U.length
  row : ∀ (i : Nat) (hi : i < o.length), ∃ (r : Nat) (hr : r < U.length) (hv : i < B.length), o[i] = (r : Int) ∧ U[r].length = wd ∧ B[i].length = wd ∧ ∀ (k : Nat) (hk : k < U[r].length) (hk2 : k < B[i].length), ∃ (j : Nat) (hj : j < o.length), o[j] = U[r][k] ∧ B[i][k] = (j : Int)
theorem ord_of {U : List (List Int)} {wd : Nat} {n : Int} (ok : TabOk U wd n) (h1 : 1 ≤ n) : Ord U wd (wyA U 0 U.length) (leanT U wd) := by
  obtain ⟨N, d, le⟩ := done_row ok h1
  have hl := ok.len
  have e := exAll_len d (show N ≤ U.length by omega)
  have ew : wyA U 0 U.length = (exAll (rowF U) (List.range wd) 0 N).1 := by rw [way_row ok h1, e]
  have eV : leanT U wd = (exAll (rowF U) (List.range wd) 0 N).2 := by
    unfold leanT
    rw [e]
  have inn := keys_in (f := rowF U) (L := List.range wd) (start := (0 : Int)) (S := numsTo n) (mem_nums.mpr ⟨Int.le_refl _, by omega⟩) (fun a ha c hc => mem_nums.mpr (rowF_in ok (mem_nums.mp ha) (List.mem_range.mp hc))) N
  have rl := exAll_rows (f := rowF U) (L := List.range wd) (start := (0 : Int)) N
  rw [d.len, Nat.min_self] at rl
  rw [ew, eV]
  refine ⟨ew, exAll_nd N, by rw [rl, d.len], by rw [d.len]; omega, fun i hi => ?_⟩
  have hiN : i < N := by rw [d.len] at hi; exact hi
  have hv : i < (exAll (rowF U) (List.range wd) 0 N).2.length := by omega
  obtain ⟨key, k1, k2, k3⟩ := exAll_row N i _ (List.getElem?_eq_getElem hv)
  have ek : (exAll (rowF U) (List.range wd) 0 N).1[i] = key := by
    rw [List.getElem?_eq_getElem hi] at k1
    exact Option.some.inj k1
  have hb := mem_nums.mp (inn key (ek ▸ List.getElem_mem hi))
  have hr : key.toNat < U.length := by omega
  have hw := (ok.row _ (List.getElem_mem hr)).1
  refine ⟨key.toNat, hr, hv, by rw [ek]; omega, hw, by rw [k2, List.length_map, List.length_range], fun k hk hk2 => ?_⟩
  have kin := k3 k (List.mem_range.mpr (by omega))
  have rw_ : rowF U key k = U[key.toNat][k] := by
    unfold rowF
    rw [show U.getD key.toNat [] = U[key.toNat] by rw [List.getD_eq_getElem?_getD, List.getElem?_eq_getElem hr] <;> rfl, List.getD_eq_getElem?_getD, List.getElem?_eq_getElem hk]
    rfl
  refine ⟨_, List.idxOf_lt_length_of_mem kin, ?_, ?_⟩
  · rw [List.getElem_idxOf, rw_]
  · simp only [k2, List.getElem_map, List.getElem_range]
def spTrimG (K : Frag) : Sp := fun vs H Q _ => ∃ (t : Addr) (tb : List (List Int)) (wd : Nat) (n : Int), vs = [.ref t, .int 0] ∧ TTab K H t tb ∧ TabOk tb wd n ∧ 1 ≤ n ∧ n ≤ 1000 ∧ wd ≤ 1000 ∧
  ∀ p u v H', H p = none → Same H H' → H' p = some (.tup [.ref u, .ref v]) → H' u = some (.lst ((wyA tb 0 tb.length).map V.int)) → RowsAt H' v (leanT tb wd) → Q (.ref p) H'
section
variable {P : Program} {w : World} {K : PySem.W.Frag} {mg : Str → Option Value} {base : Heap}
theorem ok_trimG {f fW : Addr} {fd dW : FuncData} (F : Fun K "trimmed" "trimmed" sTrim f fd) (T : TN mg) (en : mg "enumerate" = none) (AW : Fn K mg "ways" sWays ["table", "start"] fW dW) (GW : FnOk P w K mg base CX0 1 fW dW ["table", "start"] (spWays K)) : FnOk P w K mg base CX0 2 f fd ["table", "start"] (spTrimG K) := by
  refine F.ok scTr (fun vs H Q E h => ?_) (fun cdv A outer s H vs Q E hr h => ?_)
  · obtain ⟨t, tb, wd, n, rfl, _⟩ := h
    rfl
  · obtain ⟨t, tb, wd, n, rfl, hT, ok, h1n, hn, hw, q⟩ := h
    have hub := hu_of hr
    refine ⟨_, pss_cons (ps_set (i := 2) scTr.nd rfl (Or.inl rfl) (pe_callTy (call_listD rfl) (by rfl) T.list (by decide +kernel) (pa_cons (pe_call GW hr rfl AW.g AW.F.kp AW.b .nil pass0 (pa_cons (pv 0) (pa_cons (pv 1) pa_nil))) pa_nil)))
      (pss_cons (ps_set (i := 3) scTr.nd rfl (Or.inr rfl) (pe_dc (own := [("at", 5), ("row", 4)]) (g := gTup K 2 (gCons (gName 5) (gCons (gName 4) gNil))) (tt := tYes) (tk := tVar 4) (tv := tVar 5) rfl scTr.nd (pi_enum rfl en (pa_cons (pv 2) pa_nil))
        (blkOk_by (own := [("at", 5), ("row", 4)]) (N := NTr) (sc := defScope sTrim) (by decide +kernel)) (fun _ _ _ _ _ => pg_tup (by rfl) (pgs_cons (pg_name (i := 5) scTr.nd rfl (Or.inl rfl)) (pgs_cons (pg_name (i := 4) scTr.nd rfl (Or.inl rfl)) pgs_nil))) (fun _ _ _ _ _ => pts_nil)
        (fun _ _ _ _ _ => pv 4) (fun _ _ _ _ _ => pv 5)))
      (pss_one (ps_ret (pe_tup (pa_cons (pv 2) (pa_cons (pe_callTy call_tuple_of (by rfl) T.tuple (by decide +kernel) (pa_cons (pe_lc (own := [("row", 4)]) (g := gName 4) (tt := tYes)
        (te := tCB (fun xs H Q => ∃ p ys, xs = [V.ref p] ∧ ((SqL K H p ys ∧ ∀ l, H l = none → Q (V.ref l) (upd H l (.tup ys))) ∨ (SqT K H p ys ∧ Q (V.ref p) H))) (tCons (tLc (iTup K (tOp (rIxT K) (tVar 0) (tVar 4))) (gName 6) tYes (tDGet (tVar 3) (tVar 6)) [6]) tNil)) rfl scTr.nd (pi_list (pv 2))
        (blkOk_by (own := [("row", 4)]) (N := NTr) (sc := defScope sTrim) (by decide +kernel)) (fun _ _ _ _ _ => pg_name (i := 4) scTr.nd rfl (Or.inl rfl)) (fun _ _ _ _ _ => pts_nil)
        (fun _ _ _ _ _ => pe_callTy call_tuple_of (by rfl) T.tuple (by decide +kernel) (pa_cons (pe_lc (own := [("after", 6)]) (g := gName 6) (tt := tYes) (te := tDGet (tVar 3) (tVar 6)) rfl scTr.nd (pi_tup (pe_ix ix_tup (pv 0) (pv 4) (fun _ _ => rfl)))
          (blkOk_by (own := [("after", 6)]) (N := NTr) (sc := scTI) (by decide +kernel)) (fun _ _ _ _ _ => pg_name (i := 6) scTr.nd rfl (Or.inl rfl)) (fun _ _ _ _ _ => pts_nil) (fun _ _ _ _ _ => pe_dget hub (pv 3) (pv 6) (fun _ _ => rfl))) pa_nil))) pa_nil)) pa_nil)))))), ?_⟩
    refine ⟨_, rfl, _, rfl, t, tb, wd, n, 0, rfl, hT, ok, hn, hw, Int.le_refl _, by omega, fun D kvs H1 nD s1 hd keys few => ?_⟩
    refine ⟨D, kvs, rfl, .inl hd, fun p hp => ?_⟩
    have O := ord_of ok h1n
    generalize wyA tb 0 tb.length = o at keys few O q
    generalize leanT tb wd = B at O q
    have e1 : (kvs.map fun kv => kV kv.1) = o.map V.int := by
      have : (kvs.map fun kv => kV kv.1) = (kvs.map (·.1)).map kV := by rw [List.map_map] <;> rfl
      rw [this, show kvs.map (·.1) = _ from keys, List.map_map] <;> rfl
    rw [e1]
    have s2 : Same H (upd H1 p (.lst (o.map V.int))) := s1.trans (same_upd hp)
    have hp2 : (upd H1 p (.lst (o.map V.int))) p = some (.lst (o.map V.int)) := upd_same
    clear hd hp keys e1
    generalize upd H1 p (.lst (o.map V.int)) = H2 at s2 hp2 ⊢
    have hl := ok.len
    have le := O.le
    have rl : (o.map V.int).length = o.length := by rw [List.length_map]
    have rat : ∀ (i : Nat) (hi : i < o.length), (o.map V.int)[i]? = some (.int o[i]) := fun i hi => by
      rw [List.getElem?_map, List.getElem?_eq_getElem hi] <;> rfl
    refine ⟨_, rfl, p, _, rfl, SqL.of hp2, fun D2 hD2 => ?_⟩
    refine dc_it walk_enum (fun i H3 => Same H2 H3 ∧ ∃ kvs : List (Key × V), H3 D2 = some (.dK kvs) ∧ kvs.length ≤ i ∧ ∀ (j : Nat) (hj : j < o.length), j < i → valV kvs (Sum.inl o[j] : Key) = some (.int ((j : Nat) : Int))) ⟨same_upd hD2, [], upd_same, Nat.le_refl _, fun j _ hj => absurd hj (Nat.not_lt_zero _)⟩ (fun i H3 _ ⟨s3, _⟩ => SqL.of (s3 _ _ hp2)) ?_ ?_
    · rintro i x H3 H4 hi ⟨s3, kvs, hd, hlk, hv⟩ ⟨T2, y, z, rfl, hT2, rfl, hy, hz⟩
      rw [rl] at hi
      obtain rfl : V.int ((i : Nat) : Int) = y := Option.some.inj hy
      obtain rfl : V.int o[i] = z := Option.some.inj ((rat i hi).symm.trans hz)
      have s4 : Same H3 (upd H3 T2 (.tup [.int (i : Nat), .int o[i]])) := same_upd hT2
      refine ⟨T2, _, rfl, SqT.of upd_same, rfl, _, _, rfl, _, _, rfl, rfl, rfl, _, rfl, _, rfl, kvs, Sum.inl o[i], rfl, s4 _ _ hd, by rw [sizeLine_eq]; omega, same_at (s3.trans s4) hD2, _, upd_same, ?_, fun j hjo hj => ?_⟩
      · have := length_putK kvs (Sum.inl o[i] : Key) (.int (i : Nat))
        omega
      · rw [valV_put]
        by_cases e : j = i
        · subst e
          rw [if_pos rfl]
        · rw [if_neg fun z => e ((List.getElem_inj O.nd).mp (Sum.inl.inj z))]
          exact hv j hjo (by omega)
    · rintro H3 ⟨s3, kvs3, hd3, _, hv3⟩
      rw [rl] at hv3
      refine ⟨_, rfl, _, rfl, p, rfl, ⟨_, SqL.of (s3 _ _ hp2)⟩, fun D4 hD4 => ?_⟩
      refine lc_it walk_list (fun i H5 => Same H3 H5 ∧ ∃ ts : List Addr, H5 D4 = some (.lst (ts.map V.ref)) ∧ Objs oTup H5 ts (B.take i) ∧ ts.length = i) ⟨same_upd hD4, [], upd_same, trivial, rfl⟩ (fun i H5 _ ⟨s5, _⟩ => SqL.of (s5 _ _ (s3 _ _ hp2))) ?_ ?_
      · rintro i x H5 H6 hi ⟨s5, ts, hd5, ho5, hts⟩ ⟨rfl, hx⟩
        rw [rl] at hi
        obtain rfl : V.int o[i] = x := Option.some.inj ((rat i hi).symm.trans hx)
        obtain ⟨r0, hr0, hv0, eo, wU, wV, same⟩ := O.row i hi
        rw [eo]
        have s25 := (s2.trans s3).trans s5
        obtain ⟨us, h1, h2⟩ := hT.same s25
        obtain ⟨a, e1, e2⟩ := h2.get hr0
        have at1 : atI (us.map V.ref) ((r0 : Nat) : Int) = some (.ref a) := atI_nat (by rw [List.getElem?_map, e1] <;> rfl)
        have erow : tb.getD r0 [] = tb[r0] := by rw [List.getD_eq_getElem?_getD, List.getElem?_eq_getElem hr0] <;> rfl
        rw [erow] at e2
        refine ⟨rfl, _, rfl, _, rfl, t, _, _, _, rfl, rfl, h1, at1, a, rfl, ⟨_, SqT.of e2⟩, fun D6 hD6 => ?_⟩
        refine lc_it walk_tup (fun k H7 => Same H6 H7 ∧ H7 D6 = some (.lst ((B[i].take k).map V.int))) ⟨same_upd hD6, upd_same⟩ (fun k H7 _ ⟨s7, _⟩ => SqT.of (s7 _ _ e2)) ?_ ?_
        · rintro k y H7 H8 hk ⟨s7, hd7⟩ ⟨rfl, hy⟩
          rw [List.length_map] at hk
          have hk2 : k < B[i].length := by omega
          have hy2 : y = .int tb[r0][k] := by
            rw [List.getElem?_map, List.getElem?_eq_getElem hk] at hy
            exact (Option.some.inj hy).symm
          subst hy2
          obtain ⟨j, hj, j1, j2⟩ := same k hk hk2
          have hval : valV kvs3 (Sum.inl tb[r0][k] : Key) = some (.int B[i][k]) := by
            rw [← j1, j2]
            exact hv3 j hj hj
          refine ⟨rfl, _, rfl, _, rfl, D2, _, rfl, hval ▸ DGet.k (k := (Sum.inl tb[r0][k] : Key)) (s7 _ _ (s5 _ _ hd3)), _, hd7, ?_, same_at s7 hD6, ?_⟩
          · rw [List.length_map, List.length_take, sizeLine_eq]
            omega
          · rw [upd_same, List.take_add_one, List.getElem?_eq_getElem hk2, List.map_append] <;> rfl
        · rintro H7 ⟨s7, hd7⟩
          rw [List.length_map, wU, ← wV, List.take_length] at hd7
          refine ⟨D6, _, rfl, .inl ⟨SqL.of hd7, fun r hr => ?_⟩⟩
          have s8 := same_upd (o := .tup (B[i].map V.int)) hr
          have s68 := s7.trans s8
          refine ⟨_, s68 _ _ hd5, by rw [List.length_map, hts, sizeLine_eq]; omega, same_at (s5.trans s68) hD4, ts ++ [r], ?_, ?_, ?_⟩
          · rw [upd_same, List.map_append] <;> rfl
          · have kt := tup_upd (o := .lst (ts.map V.ref ++ [.ref r])) (s68 _ _ hd5) (fun _ z => nomatch z)
            have hr1 : (upd H7 r (.tup (B[i].map V.int))) r = some (oTup B[i]) := upd_same
            rw [List.take_add_one, List.getElem?_eq_getElem hv0]
            exact objs_tup ((objs_tup ho5 (Same.tup' s68)).snoc hr1) kt
          · rw [List.length_append, hts] <;> rfl
      · rintro H5 ⟨s5, ts, hd5, ho5, hts⟩
        rw [rl, ← O.len, List.take_length] at ho5
        refine ⟨D4, _, rfl, .inl ⟨SqL.of hd5, fun v hv => ?_⟩⟩
        have s6 := same_upd (o := .tup (ts.map V.ref)) hv
        refine ⟨by show 2 ≤ sizeLine; decide, fun u hu => ?_⟩
        have s7 := same_upd (o := .tup [V.ref p, .ref v]) hu
        have s57 := s6.trans s7
        have sall := ((s2.trans s3).trans s5).trans s57
        refine q u _ v _ (((s2.trans s3).trans (s5.trans s6)).free hu) sall upd_same (((s3.trans s5).trans s57) _ _ hp2) ⟨ts, s7 _ _ upd_same, objs_tup ho5 (Same.tup' s57)⟩
end
end WK
set_option Elab.async false
set_option linter.all false
set_option maxRecDepth 100000
set_option maxHeartbeats 8000000
namespace WK
open PySem L2 PyProof.Rows LCX K1 FV DP
open TX (sg sigs)
open PySem.W (Frag kitOne)
end WK
set_option Elab.async false
set_option linter.all false
set_option maxRecDepth 100000
set_option maxHeartbeats 8000000
namespace WK
open PySem L2 PyProof.Rows LCX K1 FV DP
open TX (sg sigs)
open PySem.W (Frag kitOne)
def spBoxT (C : Addr) : Sp := fun vs H Q _ => ∃ (p dx : Addr) (L : W) (t : Addr) (tb : List (List Int)) (n : Int), vs = [.ref p, .str (tx L), .ref t] ∧ Let L ∧ H p = some (.ins C dx []) ∧ RowsAt H t tb ∧ TabOk tb L.length n ∧ 1 ≤ n ∧ n ≤ 6 ∧
  ∀ H', H' p = some (.ins C dx (bfl (.str (tx L)) (.ref t))) → (∀ b o, H b = some o → b ≠ p → H' b = some o) → RowsAt H' t tb → Q .non H'
theorem put_bfl (t l : V) : putF "_letters" l (putF "_table" t []) = bfl l t := put2 l t
section
variable {P : Program} {w : World} {K : PySem.W.Frag} {mg : Str → Option Value} {base : Heap} {C cD fL fT : Addr} {dL dT : FuncData}
theorem ok_boxt {f : Addr} {oc kV dc pm ct cd dV : Value} {an od : Option Addr} {sl : Array (Option Value)} (lk : K.lookup f = some ⟨oc, od, .func (PySem.W.fnOf "__init__" "Box.__init__" (defArgs sBoxI) (defBody sBoxI) (defScope sBoxI) dV kV dc pm an cd ct), sl⟩) (hcd : PySem.W.codeIn K cd "Box.__init__" = true)
    (T : TN mg) (M : TBx K mg C cD) (iD : kitOne K (.type "tuple") (.ref cD) = some false) (mp : ∃ t, mg "MAX_PLACES" = some (.int 6 t)) (AL : Fn K mg "is_letters" sIsLet ["value"] fL dL) (GL : FnOk P w K mg base CX0 2 fL dL ["value"] (spIsLet K))
    (AT : Fn K mg "is_table" sIsTab ["value", "width", "most"] fT dT) (GT : FnOk P w K mg base CX0 4 fT dT ["value", "width", "most"] (spTab K)) :
    FnOk P w K mg base CX0 5 f (PySem.W.fnOf "__init__" "Box.__init__" (defArgs sBoxI) (defBody sBoxI) (defScope sBoxI) dV kV dc pm an cd ct) ["self", "letters", "table"] (spBoxT C) := by
  obtain ⟨tm, most⟩ := mp
  refine fn_of lk hcd scBI (fun vs H Q E h => ?_) (fun A outer s H vs Q E hr h => ?_)
  · obtain ⟨p, dx, L, t, tb, n, rfl, _⟩ := h
    rfl
  · obtain ⟨p, dx, L, t, tb, n, rfl, hL, hp, rows, ok, n1, n6, q⟩ := h
    have hr2 : Room 2 _ := hr.mono (by decide)
    refine ⟨_, pss_cons (ps_if (pt_not (pt_val (pe_call GL hr2 rfl AL.g AL.F.kp AL.b .nil pass0 (pa_cons (pv 1) pa_nil)))) (pss_one ps_never) pss_nil)
      (pss_cons (ps_if (pt_val (pe_callB call_isi (by rfl) T.isi (by decide +kernel) (pa_cons (pv 2) (pa_cons (pe_glob rfl M.gD (show RelV (.ref cD) (.ref cD) from rfl)) pa_nil)))) (pss_one ps_never)
        (pss_one (ps_if (pt_val (pe_call GT hr rfl AT.g AT.F.kp AT.b .nil pass0 (pa_cons (pv 2) (pa_cons (pe_callB call_len_str (by rfl) T.len PySem.boot_len (pa_cons (pv 1) pa_nil)) (pa_cons (pe_glob rfl most (show RelV (.int 6) (.int 6 tm) from ⟨tm, rfl⟩)) pa_nil)))))
          (pss_one (ps_fld (pv 0) (pv 2) rfl)) (pss_one ps_never))))
      (pss_one (ps_fld (pv 0) (pv 1) rfl))), ?_⟩
    have hk := hL.few
    have hl := ok.len
    refine ⟨_, rfl, _, rfl, .inl ⟨tx L, rfl, by rw [tx_len]; omega, fun H1 s1 => ⟨_, rfl, ?_⟩⟩⟩
    rw [letB_let hL]
    obtain ⟨ts, ht, ho⟩ := id rows
    refine ⟨_, rfl, _, _, _, _, false, rfl, .own cD, tyT (SqT.of (s1 _ _ ht)), iD, false, rfl, ?_⟩
    refine ⟨_, rfl, _, rfl, _, rfl, by rw [tx_len, sizeLine_eq]; omega, .ref t, _, _, rfl, .inl ⟨t, _, rsOf tb, rfl, SqT.of (s1 _ _ ht), by rw [List.length_map, ho.len]; omega, rows_of (wd := L.length) (by omega) (ho.to fun _ _ _ z => s1 _ _ z) (fun r hr => (ok.row r hr).1), fun H2 s2 => ⟨_, rfl, ?_⟩⟩⟩
    rw [tx_len, tabB_in ok n1 n6]
    have s12 := s1.trans s2
    have hp2 := s12 _ _ hp
    refine ⟨_, rfl, _, rfl, p, C, dx, [], rfl, hp2, M.cl, M.nT, by show 0 < 1000; decide, ?_⟩
    refine ⟨_, rfl, _, rfl, p, C, dx, _, rfl, upd_same, M.cl, M.nL, by show 1 < 1000; decide, ?_⟩
    have kt : KeepsTup H _ := (Same.tup' s12).trans ((tup_upd (o := .ins C dx (putF "_table" (V.ref t) [])) hp2 fun _ z => nomatch z).trans (tup_upd (o := .ins C dx (putF "_letters" (V.str (tx L)) (putF "_table" (V.ref t) []))) upd_same fun _ z => nomatch z))
    refine q _ ?_ (fun b o z n => ?_) (rows.keep kt)
    · rw [upd_same, put_bfl]
    · rw [upd_ne n, upd_ne n]
      exact s12 _ _ z
def spBLeanG (C : Addr) : Sp := fun vs H Q _ => ∃ (o : Addr) (L : W) (tb : List (List Int)) (n : Int), vs = [.ref o] ∧ BoxAt C H o L tb ∧ Let L ∧ TabOk tb L.length n ∧ 1 ≤ n ∧ n ≤ 1000 ∧ ∀ p H', H p = none → Same H H' → BoxAt C H' p L (leanT tb L.length) → Q (.ref p) H'
theorem ok_bleanG {f fB fD fT : Addr} {fd dB dD dT : FuncData} (F : Fun K "lean" "Box.lean" sBLean f fd) (M : TBx K mg C cD) (AT : Fn K mg "trimmed" sTrim ["table", "start"] fT dT) (GT : FnOk P w K mg base CX0 2 fT dT ["table", "start"] (spTrimG K)) (MI : Mk K C fB) (GI : FnOk P w K mg base CX0 3 fB dB ["self", "letters", "table"] (spBoxI C cD)) (bI : Binds K dB ["self", "letters", "table"] [])
    (MD : Mk K cD fD) (GD : FnOk P w K mg base CX0 1 fD dD ["self", "rows"] (spMadeI cD)) (bD : Binds K dD ["self", "rows"] []) : FnOk P w K mg base CX0 5 f fd ["self"] (spBLeanG C) := by
  refine F.ok scBLn (fun vs H Q E h => ?_) (fun cdv A outer s H vs Q E hr h => ?_)
  · obtain ⟨o, _, _, _, rfl, _⟩ := h
    rfl
  · obtain ⟨o, L, tb, n, rfl, ⟨dx, r, h1, rows⟩, hL, ok, n1, n2, q⟩ := h
    have hr2 : Room 2 _ := hr.mono (by decide)
    refine ⟨_, pss_one (ps_ret (pe_make (E := E0) MI GI hr rfl M.gC bI .nil pass0 (pa_cons (pe_fld (pv 0) rfl) (pa_cons (pe_make (E := E0) MD GD hr2 rfl M.gD bD .nil pass0 (pa_cons (pe_ix ix_tup (pe_call (E := E0) GT hr2 rfl AT.g AT.F.kp AT.b .nil pass0 (pa_cons (pe_fld (pv 0) rfl) (pa_cons pe_int pa_nil))) pe_int (fun _ _ => rfl)) pa_nil)) pa_nil)))), ?_⟩
    refine ⟨_, rfl, o, C, dx, _, _, rfl, h1, M.cl, M.nL, bfl_L, _, rfl, o, C, dx, _, _, rfl, h1, M.cl, M.nT, bfl_T, r, tb, L.length, n, rfl, rows_tt rows, ok, n1, n2, by have := hL.few; omega, fun p u v H1 np s1 hp _ rows1 => ?_⟩
    refine ⟨p, _, _, _, rfl, rfl, SqT.of hp, rfl, ?_⟩
    intro x dx2 hx hdx ne
    refine ⟨x, dx2, _, rfl, upd_same, rfl, ?_⟩
    have s3 : Same H1 (upd (upd (upd H1 dx2 (.own x)) x (.ins cD dx2 [])) x (.ins cD dx2 [("rows", .ref v)])) := fun b o z => by rw [upd_ne (ne_of_none z hx), upd_ne (ne_of_none z hx), upd_ne (ne_of_none z hdx)]; exact z
    have mk : MadeAt cD (upd (upd (upd H1 dx2 (.own x)) x (.ins cD dx2 [])) x (.ins cD dx2 [("rows", .ref v)])) x (leanT tb L.length) := ⟨dx2, v, upd_same, rows1.keep (Same.tup' s3)⟩
    exact box_madeS hL (s1.trans s3) mk q
end
end WK
set_option Elab.async false
set_option linter.all false
set_option maxRecDepth 100000
set_option maxHeartbeats 8000000
namespace WK
open PySem L2 PyProof.Rows LCX K1 FV DP
open TX (sg sigs)
open PySem.W (Frag kitOne)
abbrev sMBox : Stmt := top 68
abbrev sLBox : Stmt := top 67
def spMBox (C : Addr) : Sp := fun vs H Q _ => ∃ (L : W) (l : Addr) (tb : List (List Int)) (n : Int), vs = [.str (tx L), .ref l] ∧ Let L ∧ PTab H l tb ∧ TabOk tb L.length n ∧ 1 ≤ n ∧ n ≤ 6 ∧ ∀ o H', H o = none → Same H H' → BoxAt C H' o L tb → Q (.ref o) H'
section
variable {P : Program} {w : World} {K : PySem.W.Frag} {mg : Str → Option Value} {base : Heap} {C cD fB fR fT : Addr} {dB dR dT : FuncData}
theorem scMB : FnScope ["_law_letters_here", "_law_table_here"] ["_law_letters_here", "_law_table_here"] (defScope sMBox) := ⟨rfl, rfl, rfl, by decide +kernel, rfl, by decide +kernel, by decide +kernel⟩
theorem ok_mbox {f : Addr} {fd : FuncData} (F : Fun K "_law_made_box" "_law_made_box" sMBox f fd) (T : TN mg) (M : TBx K mg C cD) (MI : Mk K C fB) (GI : FnOk P w K mg base CX0 5 fB dB ["self", "letters", "table"] (spBoxT C)) (bI : Binds K dB ["self", "letters", "table"] []) :
    FnOk P w K mg base CX0 7 f fd ["_law_letters_here", "_law_table_here"] (spMBox C) := by
  refine F.ok scMB (fun vs H Q E h => ?_) (fun cdv A outer s H vs Q E hr h => ?_)
  · obtain ⟨L, l, tb, n, rfl, _⟩ := h
    rfl
  · obtain ⟨L, l, tb, n, rfl, hL, ⟨ts, hl, ho⟩, ok, n1, n6, q⟩ := h
    refine ⟨_, pss_one (ps_ret (pe_make (E := E0) MI GI hr rfl M.gC bI .nil pass0 (pa_cons (pv 0) (pa_cons (pe_callTy call_tuple_of (by rfl) T.tuple (by decide +kernel) (pa_cons (pv 1) pa_nil)) pa_nil)))), ?_⟩
    refine ⟨_, rfl, _, rfl, l, _, rfl, .inl ⟨SqL.of hl, fun t ht => ?_⟩⟩
    have s1 := same_upd (o := .tup (ts.map V.ref)) ht
    have a1 : upd H t (.tup (ts.map V.ref)) t = some (.tup (ts.map V.ref)) := upd_same
    have rows : RowsAt (upd H t (.tup (ts.map V.ref))) t tb := ⟨ts, a1, ho.to fun _ _ _ z => s1 _ _ z⟩
    intro x dx hx hdx ne
    have s2 : Same (upd H t (.tup (ts.map V.ref))) (upd (upd (upd H t (.tup (ts.map V.ref))) dx (.own x)) x (.ins C dx [])) := fun b o z => by rw [upd_ne (ne_of_none z hx), upd_ne (ne_of_none z hdx)]; exact z
    refine ⟨x, dx, L, t, tb, n, rfl, hL, upd_same, rows.keep (Same.tup' s2), ok, n1, n6, fun H' h1 h2 h3 => ?_⟩
    have s3 : Same H H' := fun b o z => h2 b o (s2 _ _ (s1 _ _ z)) (ne_of_none (s1 _ _ z) hx)
    exact ⟨rfl, q x H' (s1.free hx) s3 ⟨dx, t, h1, h3⟩⟩
end
end WK
set_option Elab.async false
set_option linter.all false
set_option maxRecDepth 100000
set_option maxHeartbeats 8000000
namespace WK
open PySem L2 PyProof.Rows LCX K1 FV DP
open TX (sg sigs)
open PySem.W (Frag kitOne)
abbrev NLB : List Str := ["_law_dice_here", "_law_letters_here", "_law_most", "_law_size", "_law_way", "_law_steps", "_law_letter", "_law_place", "_law_step"]
abbrev scB2 : Scope := { kind := .function, names := [(".0", .local), ("_law_place", .cell), ("tuple", .globalImplicit), ("_law_size", .cell), ("_law_steps", .cell)], isGenerator := false, isCoroutine := false }
abbrev tRowsB (K : Frag) (te : TE) : TE := tCB (rTupL K) (tCons (tLc (iList K (tVar 5)) (gName 8) tYes te [8]) tNil)
abbrev tModB : TE := tOp (rI (fun x j => 0 < j) fun i j => V.int (i % j)) (tCB (fun xs H Q => (∃ i, xs = [V.int i] ∧ Q (V.int i) H) ∨ ∃ k, xs = [V.bl k] ∧ Q (V.int (if k = true then 1 else 0)) H) (tCons (tOp (rI0 fun i j => V.int (i + j)) (tVar 7) (tVar 8)) tNil)) (tVar 3)
abbrev tMinB : TE := tCB (fun xs H Q => ∃ i j, xs = [V.int i, V.int j] ∧ Q (V.int (if j < i then j else i)) H) (tCons (tOp (rI0 fun i j => V.int (i - j)) (tVar 3) (tC (V.int 1))) (tCons (tOp (rI0 fun i j => V.int (i + j)) (tVar 7) (tVar 8)) tNil))
theorem iteT' {c : Bool} {a b : Prop} (h : c = true) (k : a) : (if c = true then a else b) := by
  rw [h]
  exact k
/-- rows by a step's numbers: one for each place -/
theorem rows_by {K : Frag} {te : TE} {n : Nat} {ss : List Int} {g : Nat → Int → Int} {a0 a1 a2 a3 a4 x6 x7 x8 : Option V} {l D : Addr} {H : Hp} {Qd : Hp → Prop} (hn : n < 1000) (hl : H l = some (.lst (ss.map V.int))) (hs : ss.length < 1000)
    (hte : ∀ (i : Nat), i < n → ∀ s ∈ ss, ∀ (H : Hp) (Q : VK), Q (.int (g i s)) H → te [a0, a1, a2, a3, a4, some (.ref l), x6, some (.int (0 + (i : Int))), some (.int s)] H Q) (hd : H D = none)
    (q : ∀ H', Same H H' → PTab H' D ((List.range n).map fun i => ss.map (g i)) → Qd H') : Went (Itr 0 n) (gName 7) tYes (tRowsB K te) [7] [a0, a1, a2, a3, a4, some (.ref l), x6, x7, x8] D H Qd := by
  refine lc_range (lo := 0) (n := n) (fun i H4 => Same H H4 ∧ ∃ ts : List Addr, H4 D = some (.lst (ts.map V.ref)) ∧ Objs oTup H4 ts ((List.range i).map fun i => ss.map (g i))) ⟨same_upd hd, [], upd_same, trivial⟩ ?_ ?_
  · rintro i H4 hi ⟨s4, ts, hd4, ho⟩
    have hl4 := s4 _ _ hl
    refine ⟨rfl, _, rfl, l, rfl, ⟨_, SqL.of hl4⟩, fun D3 hD3 => ?_⟩
    refine same_list (l := ss) (val := V.int) (r := fun s => [V.int (g i s)]) hD3 (SqL.of hl4) (by rw [sizeLine_eq]; omega) (fun _ => Nat.le_refl _) (fun s hs H5 acc s5 hacc hlen N hN => ?_) (fun H5 s5 hd5 => ?_)
    · refine ⟨rfl, hte i hi s hs _ _ ?_⟩
      exact ⟨acc, hacc, hlen, hN _ (same_at s5 hD3) upd_same⟩
    · have e : ss.flatMap (fun s => [V.int (g i s)]) = (ss.map (g i)).map V.int := by rw [flat_map, List.map_map] <;> rfl
      rw [e] at hd5
      refine ⟨D3, _, rfl, .inl ⟨SqL.of hd5, fun t ht => ?_⟩⟩
      have s6 : Same H4 (upd H5 t (.tup ((ss.map (g i)).map V.int))) := same_two s5 ht
      have hd6 := s6 _ _ hd4
      have lt := ho.len
      rw [List.length_map, List.length_range] at lt
      refine ⟨_, hd6, by rw [List.length_map, sizeLine_eq]; omega, same_at (s4.trans s6) hd, ts ++ [t], by rw [upd_same, List.map_append] <;> rfl, ?_⟩
      have kt := tup_upd (o := .lst (ts.map V.ref ++ [.ref t])) hd6 (fun _ z => nomatch z)
      have ht1 : (upd H5 t (.tup ((ss.map (g i)).map V.int))) t = some (oTup (ss.map (g i))) := upd_same
      rw [List.range_succ, List.map_append]
      exact objs_tup ((objs_tup ho (Same.tup' s6)).snoc ht1) kt
  · rintro H4 ⟨s4, ts, hd4, ho⟩
    exact q H4 s4 ⟨ts, hd4, ho⟩
theorem tab_by {n wd : Nat} {ss : List Int} {g : Nat → Int → Int} (hw : ss.length = wd) (h : ∀ i < n, ∀ s ∈ ss, 0 ≤ g i s ∧ g i s < (n : Int)) : TabOk ((List.range n).map fun i => ss.map (g i)) wd n := by
  refine ⟨by rw [List.length_map, List.length_range], fun r hr => ?_⟩
  obtain ⟨i, hi, rfl⟩ := List.mem_map.mp hr
  refine ⟨by rw [List.length_map, hw], fun x hx => ?_⟩
  obtain ⟨s, hs, rfl⟩ := List.mem_map.mp hx
  exact h i (List.mem_range.mp hi) s hs
def spLBox : Sp := fun vs H Q _ => ∃ (p : Addr) (L : W) (m : Int), vs = [.ref p, .str (tx L), .int m] ∧ DiceAt H p ∧ L ≠ [] ∧ L.length ≤ 26 ∧ 1 ≤ m ∧ m ≤ 59 ∧
  ∀ (l : Addr) (tb : List (List Int)) (n : Int) (H' : Hp), H l = none → l ≠ p → DiceAt H' p → But p H H' → PTab H' l tb → TabOk tb L.length n → 1 ≤ n → n ≤ m → Q (.ref l) H'
section
variable {P : Program} {w : World} {K : PySem.W.Frag} {mg : Str → Option Value} {base : Heap} {fR fT : Addr} {dR dT : FuncData}
theorem scLB : FnScope NLB ["_law_dice_here", "_law_letters_here", "_law_most"] (defScope sLBox) := ⟨rfl, rfl, rfl, by decide +kernel, rfl, by decide +kernel, by decide +kernel⟩
theorem ok_lbox {f : Addr} {fd : FuncData} (F : Fun K "_law_box" "_law_box" sLBox f fd) (T : TN mg) (AR : Fn K mg "_law_roll" sRoll ["_law_dice_here", "_law_total"] fR dR)
    (AT : Fn K mg "_law_table" sLTab ["_law_dice_here", "_law_letters_here", "_law_size", "_law_sorts"] fT dT) (GT : FnOk P w K mg base CX0 3 fT dT ["_law_dice_here", "_law_letters_here", "_law_size", "_law_sorts"] spLTab) :
    FnOk P w K mg base CX0 4 f fd ["_law_dice_here", "_law_letters_here", "_law_most"] spLBox := by
  have GR : FnOk P w K mg base CX0 1 fR dR ["_law_dice_here", "_law_total"] spRoll := ok_roll AR.F T.dice
  refine F.ok scLB (fun vs H Q E h => ?_) (fun cdv A outer s H vs Q E hr h => ?_)
  · obtain ⟨p, L, m, rfl, _⟩ := h
    rfl
  · obtain ⟨p, L, m, rfl, hD, hL, hL2, m1, m5, q⟩ := h
    have hr1 : Room 1 _ := hr.mono (by decide)
    refine ⟨_, pss_cons (ps_asg (pe_tup (pa_cons (pe_op op_add pe_int (pe_call GR hr1 rfl AR.g AR.F.kp AR.b .nil pass0 (pa_cons (pv 0) (pa_cons (pv 2) pa_nil)))) (pa_cons (pe_call GR hr1 rfl AR.g AR.F.kp AR.b .nil pass0 (pa_cons (pv 0) (pa_cons pe_int pa_nil))) pa_nil)))
        (pg_tup (by rfl) (pgs_cons (pg_name (i := 3) scLB.nd rfl (Or.inr rfl)) (pgs_cons (pg_name (i := 4) scLB.nd rfl (Or.inl rfl)) pgs_nil))))
      (pss_cons (ps_if (pt_cmpR op_eq (pv 4) pe_int (nomark _)) (pss_one (ps_ret (pe_call GT hr rfl AT.g AT.F.kp AT.b .nil pass0 (pa_cons (pv 0) (pa_cons (pv 1) (pa_cons (pv 3) (pa_cons (pe_lst (pa_cons pe_int (pa_cons pe_int (pa_cons pe_int (pa_cons pe_int pa_nil))))) pa_nil))))))) pss_nil)
      (pss_cons (ps_if (pt_cmpR op_eq (pv 4) pe_int (nomark _)) (pss_one (ps_ret (pe_call GT hr rfl AT.g AT.F.kp AT.b .nil pass0 (pa_cons (pv 0) (pa_cons (pv 1) (pa_cons (pv 3) (pa_cons (pe_lst (pa_cons pe_int (pa_cons pe_int (pa_cons pe_int (pa_cons pe_int pa_nil))))) pa_nil))))))) pss_nil)
      (pss_cons (ps_if (pt_cmpR op_eq (pv 4) pe_int (nomark _)) (pss_one (ps_ret (pe_call GT hr rfl AT.g AT.F.kp AT.b .nil pass0 (pa_cons (pv 0) (pa_cons (pv 1) (pa_cons (pv 3) (pa_cons (pe_lst (pa_cons pe_int (pa_cons pe_int (pa_cons pe_int (pa_cons pe_int pa_nil))))) pa_nil))))))) pss_nil)
      (pss_cons (ps_if (pt_cmpR op_eq (pv 4) pe_int (nomark _))
        (pss_cons (ps_set (i := 5) scLB.nd rfl (Or.inr rfl) (pe_lc (own := [("_law_letter", 6)]) (g := gName 6) (tt := tYes) rfl scLB.nd (pi_str (pv 1)) (blkOk_by (own := [("_law_letter", 6)]) (N := NLB) (sc := defScope sLBox) (by decide +kernel)) (fun _ _ _ _ _ => pg_name (i := 6) scLB.nd rfl (Or.inl rfl)) (fun _ _ _ _ _ => pts_nil)
            (fun _ _ _ _ _ => pe_call GR hr1 rfl AR.g AR.F.kp AR.b .nil pass0 (pa_cons (pv 0) (pa_cons (pv 3) pa_nil)))))
        (pss_one (ps_ret (pe_lc (own := [("_law_place", 7)]) (g := gName 7) (tt := tYes) (te := tRowsB K (tModB)) rfl scLB.nd (pi_range1 rfl T.rng (pa_cons (pv 3) pa_nil))
          (blkOk_by (own := [("_law_place", 7)]) (N := NLB) (sc := defScope sLBox) (by decide +kernel)) (fun _ _ _ _ _ => pg_name (i := 7) scLB.nd rfl (Or.inr rfl)) (fun _ _ _ _ _ => pts_nil)
          (fun _ _ _ _ _ => pe_callTy call_tuple_of (by rfl) T.tuple (by decide +kernel) (pa_cons (pe_lc (own := [("_law_step", 8)]) (g := gName 8) (tt := tYes) (te := tModB) rfl scLB.nd (pi_list (pv 5))
            (blkOk_by (own := [("_law_step", 8)]) (N := NLB) (sc := scB2) (by decide +kernel)) (fun _ _ _ _ _ => pg_name (i := 8) scLB.nd rfl (Or.inl rfl)) (fun _ _ _ _ _ => pts_nil)
            (fun _ _ _ _ _ => pe_op op_mod (pe_callTy call_int1 (by rfl) T.int (by decide +kernel) (pa_cons (pe_op op_add (pv 7) (pv 8)) pa_nil)) (pv 3))) pa_nil)))))) pss_nil)
      (pss_cons (ps_if (pt_cmpR op_eq (pv 4) pe_int (nomark _))
        (pss_cons (ps_set (i := 5) scLB.nd rfl (Or.inr rfl) (pe_lc (own := [("_law_letter", 6)]) (g := gName 6) (tt := tYes) rfl scLB.nd (pi_str (pv 1)) (blkOk_by (own := [("_law_letter", 6)]) (N := NLB) (sc := defScope sLBox) (by decide +kernel)) (fun _ _ _ _ _ => pg_name (i := 6) scLB.nd rfl (Or.inl rfl)) (fun _ _ _ _ _ => pts_nil)
            (fun _ _ _ _ _ => pe_call GR hr1 rfl AR.g AR.F.kp AR.b .nil pass0 (pa_cons (pv 0) (pa_cons pe_int pa_nil)))))
        (pss_one (ps_ret (pe_lc (own := [("_law_place", 7)]) (g := gName 7) (tt := tYes) (te := tRowsB K (tMinB)) rfl scLB.nd (pi_range1 rfl T.rng (pa_cons (pv 3) pa_nil))
          (blkOk_by (own := [("_law_place", 7)]) (N := NLB) (sc := defScope sLBox) (by decide +kernel)) (fun _ _ _ _ _ => pg_name (i := 7) scLB.nd rfl (Or.inr rfl)) (fun _ _ _ _ _ => pts_nil)
          (fun _ _ _ _ _ => pe_callTy call_tuple_of (by rfl) T.tuple (by decide +kernel) (pa_cons (pe_lc (own := [("_law_step", 8)]) (g := gName 8) (tt := tYes) (te := tMinB) rfl scLB.nd (pi_list (pv 5))
            (blkOk_by (own := [("_law_step", 8)]) (N := NLB) (sc := scB2) (by decide +kernel)) (fun _ _ _ _ _ => pg_name (i := 8) scLB.nd rfl (Or.inl rfl)) (fun _ _ _ _ _ => pts_nil)
            (fun _ _ _ _ _ => pe_callB (call_min2 rfl) (by rfl) T.min (by decide +kernel) (pa_cons (pe_op op_sub (pv 3) pe_int) (pa_cons (pe_op op_add (pv 7) (pv 8)) pa_nil)))) pa_nil)))))) pss_nil)
      (pss_one (ps_ret (pe_call GT hr rfl AT.g AT.F.kp AT.b .nil pass0 (pa_cons (pv 0) (pa_cons (pv 1) (pa_cons (pv 3) (pa_cons (pe_lst (pa_cons pe_int (pa_cons pe_int (pa_cons pe_int (pa_cons pe_int (pa_cons pe_int (pa_cons pe_int (pa_cons pe_int pa_nil)))))))) pa_nil)))))))))))), ?_⟩
    refine ⟨_, rfl, _, rfl, p, m, rfl, hD, by omega, by omega, fun r1 H2 r10 r11 hD2 hB2 => ?_⟩
    refine ⟨_, _, rfl, rfl, _, rfl, p, 6, rfl, hD2, by omega, by omega, fun r2 H3 r20 r21 hD3 hB3 => ?_⟩
    refine ⟨by show 2 ≤ sizeLine; decide, fun a ha => ?_⟩
    refine ⟨a, _, rfl, SqT.of upd_same, rfl, _, _, rfl, _, _, rfl, rfl, ?_⟩
    have hD4 := hD3.new (o := .tup [V.int (1 + r1), V.int r2]) ha
    have b4 : But p H (upd H3 a (.tup [V.int (1 + r1), V.int r2])) := (hB2.trans hB3).trans (But.ofSame (same_upd ha))
    generalize upd H3 a (.tup [V.int (1 + r1), V.int r2]) = H4 at hD4 b4 ⊢
    clear hD hD2 hD3 hB2 hB3 ha
    obtain rfl | rfl | rfl | rfl | rfl | rfl : r2 = 0 ∨ r2 = 1 ∨ r2 = 2 ∨ r2 = 3 ∨ r2 = 4 ∨ r2 = 5 := by omega
    · refine ⟨_, rfl, rfl, _, rfl, iteT' rfl ?_⟩
      refine ⟨_, rfl, _, rfl, _, rfl, by show 4 ≤ sizeLine; decide, fun l4 hl4 => ⟨p, l4, L, 1 + r1, [0, 0, 2, 5], rfl, hD4.new hl4, hL, hL2, by omega, by omega, hD4.ne hl4, upd_same, by decide, by decide, fun l tb H' hl lp hD' hB' pt ok => ?_⟩⟩
      have b5 : But p H H' := (b4.trans (But.ofSame (same_upd hl4))).trans hB'
      exact q l tb (1 + r1) H' (but_free (b4.trans (But.ofSame (same_upd hl4))) hl lp) lp hD' b5 pt ok (by omega) (by omega)
    · refine ⟨_, rfl, rfl, _, rfl, iteF' rfl ?_⟩
      refine ⟨_, rfl, rfl, _, rfl, iteT' rfl ?_⟩
      refine ⟨_, rfl, _, rfl, _, rfl, by show 4 ≤ sizeLine; decide, fun l4 hl4 => ⟨p, l4, L, 1 + r1, [1, 1, 2, 4], rfl, hD4.new hl4, hL, hL2, by omega, by omega, hD4.ne hl4, upd_same, by decide, by decide, fun l tb H' hl lp hD' hB' pt ok => ?_⟩⟩
      have b5 : But p H H' := (b4.trans (But.ofSame (same_upd hl4))).trans hB'
      exact q l tb (1 + r1) H' (but_free (b4.trans (But.ofSame (same_upd hl4))) hl lp) lp hD' b5 pt ok (by omega) (by omega)
    · refine ⟨_, rfl, rfl, _, rfl, iteF' rfl ?_⟩
      refine ⟨_, rfl, rfl, _, rfl, iteF' rfl ?_⟩
      refine ⟨_, rfl, rfl, _, rfl, iteT' rfl ?_⟩
      refine ⟨_, rfl, _, rfl, _, rfl, by show 4 ≤ sizeLine; decide, fun l4 hl4 => ⟨p, l4, L, 1 + r1, [3, 3, 4, 6], rfl, hD4.new hl4, hL, hL2, by omega, by omega, hD4.ne hl4, upd_same, by decide, by decide, fun l tb H' hl lp hD' hB' pt ok => ?_⟩⟩
      have b5 : But p H H' := (b4.trans (But.ofSame (same_upd hl4))).trans hB'
      exact q l tb (1 + r1) H' (but_free (b4.trans (But.ofSame (same_upd hl4))) hl lp) lp hD' b5 pt ok (by omega) (by omega)
    · refine ⟨_, rfl, rfl, _, rfl, iteF' rfl ?_⟩
      refine ⟨_, rfl, rfl, _, rfl, iteF' rfl ?_⟩
      refine ⟨_, rfl, rfl, _, rfl, iteF' rfl ?_⟩
      refine ⟨_, rfl, rfl, _, rfl, iteT' rfl ?_⟩
      refine ⟨_, rfl, tx L, rfl, fun D hD2 => ?_⟩
      have Dp := hD4.ne hD2
      refine lc_it walk_str (fun i H5 => DiceAt H5 p ∧ But p H4 H5 ∧ ∃ ns : List Int, ns.length = i ∧ (∀ k ∈ ns, 0 ≤ k ∧ k < (1 + r1)) ∧ H5 D = some (.lst (ns.map V.int))) ⟨hD4.new hD2, but_two (But.refl p H4) hD2, [], rfl, fun k hk => (nomatch hk), upd_same⟩ (fun _ _ _ _ => trivial) ?_ ?_
      · rintro i x H5 H6 hi ⟨hD5, hB5, ns, hl, hg, hd⟩ ⟨rfl, c, hx, rfl⟩
        have hi' : i < L.length := by rw [size_tx] at hi; exact hi
        refine ⟨rfl, _, rfl, _, rfl, p, (1 + r1), rfl, hD5, by omega, by omega, fun k H7 k0 k1 hD7 hB7 => ?_⟩
        refine ⟨_, hB7 _ _ hd Dp, by rw [List.length_map, sizeLine_eq]; omega, hD7.keep fun o e => by rw [upd_ne (Ne.symm Dp)]; exact e, but_at (hB5.trans hB7) hD2, ns ++ [k], by rw [List.length_append, hl] <;> rfl, ?_, by rw [upd_same, List.map_append] <;> rfl⟩
        intro j hj
        rcases List.mem_append.mp hj with z | z
        · exact hg j z
        · rw [List.mem_singleton.mp z]
          exact ⟨k0, k1⟩
      · rintro H5 ⟨hD5, hB5, ns, hl, hg, hd⟩
        rw [size_tx] at hl
        refine ⟨_, rfl, _, rfl, by omega, by omega, fun D2 hD2' => ?_⟩
        refine rows_by (g := fun (i : Nat) (s : Int) => (0 + (i : Int) + s) % (1 + r1)) (by omega) hd (by omega) (fun i hi s hs H Q h => ⟨_, rfl, _, rfl, _, _, rfl, rfl, .inl ⟨_, rfl, _, rfl, _, _, rfl, rfl, by omega, h⟩⟩) hD2' fun H6 s6 pt => ?_
        have ok : TabOk ((List.range (1 + r1).toNat).map fun i => ns.map ((fun (i : Nat) (s : Int) => (0 + (i : Int) + s) % (1 + r1)) i)) L.length ((1 + r1).toNat : Nat) := tab_by hl fun i hi s hs => ?_
        · have nD := but_free (b4.trans hB5) hD2' (hD5.ne hD2')
          rw [show (((1 + r1).toNat : Nat) : Int) = 1 + r1 by omega] at ok
          exact q D2 _ (1 + r1) H6 nD (hD5.ne hD2') (hD5.keep fun _ e => s6 _ _ e) ((b4.trans hB5).trans (But.ofSame s6)) pt ok (by omega) (by omega)
        · have := hg s hs
          exact ⟨Int.emod_nonneg _ (by omega), by rw [show (((1 + r1).toNat : Nat) : Int) = 1 + r1 by omega]; exact Int.emod_lt_of_pos _ (by omega)⟩
    · refine ⟨_, rfl, rfl, _, rfl, iteF' rfl ?_⟩
      refine ⟨_, rfl, rfl, _, rfl, iteF' rfl ?_⟩
      refine ⟨_, rfl, rfl, _, rfl, iteF' rfl ?_⟩
      refine ⟨_, rfl, rfl, _, rfl, iteF' rfl ?_⟩
      refine ⟨_, rfl, rfl, _, rfl, iteT' rfl ?_⟩
      refine ⟨_, rfl, tx L, rfl, fun D hD2 => ?_⟩
      have Dp := hD4.ne hD2
      refine lc_it walk_str (fun i H5 => DiceAt H5 p ∧ But p H4 H5 ∧ ∃ ns : List Int, ns.length = i ∧ (∀ k ∈ ns, 0 ≤ k ∧ k < 3) ∧ H5 D = some (.lst (ns.map V.int))) ⟨hD4.new hD2, but_two (But.refl p H4) hD2, [], rfl, fun k hk => (nomatch hk), upd_same⟩ (fun _ _ _ _ => trivial) ?_ ?_
      · rintro i x H5 H6 hi ⟨hD5, hB5, ns, hl, hg, hd⟩ ⟨rfl, c, hx, rfl⟩
        have hi' : i < L.length := by rw [size_tx] at hi; exact hi
        refine ⟨rfl, _, rfl, p, 3, rfl, hD5, by omega, by omega, fun k H7 k0 k1 hD7 hB7 => ?_⟩
        refine ⟨_, hB7 _ _ hd Dp, by rw [List.length_map, sizeLine_eq]; omega, hD7.keep fun o e => by rw [upd_ne (Ne.symm Dp)]; exact e, but_at (hB5.trans hB7) hD2, ns ++ [k], by rw [List.length_append, hl] <;> rfl, ?_, by rw [upd_same, List.map_append] <;> rfl⟩
        intro j hj
        rcases List.mem_append.mp hj with z | z
        · exact hg j z
        · rw [List.mem_singleton.mp z]
          exact ⟨k0, k1⟩
      · rintro H5 ⟨hD5, hB5, ns, hl, hg, hd⟩
        rw [size_tx] at hl
        refine ⟨_, rfl, _, rfl, by omega, by omega, fun D2 hD2' => ?_⟩
        refine rows_by (g := fun (i : Nat) (s : Int) => if (0 + (i : Int) + s) < (1 + r1 - 1) then (0 + (i : Int) + s) else (1 + r1 - 1)) (by omega) hd (by omega) (fun i hi s hs H Q h => ⟨_, rfl, _, _, rfl, rfl, _, rfl, _, rfl, _, _, rfl, rfl, _, _, rfl, h⟩) hD2' fun H6 s6 pt => ?_
        have ok : TabOk ((List.range (1 + r1).toNat).map fun i => ns.map ((fun (i : Nat) (s : Int) => if (0 + (i : Int) + s) < (1 + r1 - 1) then (0 + (i : Int) + s) else (1 + r1 - 1)) i)) L.length ((1 + r1).toNat : Nat) := tab_by hl fun i hi s hs => ?_
        · have nD := but_free (b4.trans hB5) hD2' (hD5.ne hD2')
          rw [show (((1 + r1).toNat : Nat) : Int) = 1 + r1 by omega] at ok
          exact q D2 _ (1 + r1) H6 nD (hD5.ne hD2') (hD5.keep fun _ e => s6 _ _ e) ((b4.trans hB5).trans (But.ofSame s6)) pt ok (by omega) (by omega)
        · have := hg s hs
          split <;> omega
    · refine ⟨_, rfl, rfl, _, rfl, iteF' rfl ?_⟩
      refine ⟨_, rfl, rfl, _, rfl, iteF' rfl ?_⟩
      refine ⟨_, rfl, rfl, _, rfl, iteF' rfl ?_⟩
      refine ⟨_, rfl, rfl, _, rfl, iteF' rfl ?_⟩
      refine ⟨_, rfl, rfl, _, rfl, iteF' rfl ?_⟩
      refine ⟨_, rfl, _, rfl, _, rfl, by show 7 ≤ sizeLine; decide, fun l4 hl4 => ⟨p, l4, L, 1 + r1, [0, 1, 2, 3, 4, 5, 6], rfl, hD4.new hl4, hL, hL2, by omega, by omega, hD4.ne hl4, upd_same, by decide, by decide, fun l tb H' hl lp hD' hB' pt ok => ?_⟩⟩
      have b5 : But p H H' := (b4.trans (But.ofSame (same_upd hl4))).trans hB'
      exact q l tb (1 + r1) H' (but_free (b4.trans (But.ofSame (same_upd hl4))) hl lp) lp hD' b5 pt ok (by omega) (by omega)
end
end WK
set_option Elab.async false
set_option linter.all false
set_option maxRecDepth 100000
set_option maxHeartbeats 8000000
namespace WK
open PySem L2 PyProof.Rows LCX K1 FV DP
open TX (sg sigs)
open PySem.W (Frag kitOne)
/-- the rows met, each with the columns of its first way -/
abbrev Wy := List (Int × List Nat)
def addP (u : List Nat) (o : Wy) (p : Int × Nat) : Wy := if p.1 ∈ o.map (·.1) then o else o ++ [(p.1, u ++ [p.2])]
def wyP (tb : List (List Int)) (st : Int) : Nat → Wy
  | 0 => [(st, [])]
  | j + 1 => match (wyP tb st j)[j]? with
    | some (r, u) => ((tb.getD r.toNat []).zipIdx).foldl (addP u) (wyP tb st j)
    | none => wyP tb st j
theorem addP_fst (u : List Nat) (o : Wy) (p : Int × Nat) : (addP u o p).map (·.1) = addN (o.map (·.1)) p.1 := by
  unfold addP addN
  split
  · rfl
  · rw [List.map_append] <;> rfl
theorem foldP_fst (u : List Nat) : ∀ (l : List (Int × Nat)) (o : Wy), (l.foldl (addP u) o).map (·.1) = (l.map (·.1)).foldl addN (o.map (·.1))
  | [], _ => rfl
  | p :: l, o => by
    rw [List.foldl_cons, foldP_fst u l, addP_fst] <;> rfl
theorem wyP_fst {tb : List (List Int)} {st : Int} : ∀ j, (wyP tb st j).map (·.1) = wyA tb st j
  | 0 => rfl
  | j + 1 => by
    have ih := wyP_fst (tb := tb) (st := st) j
    have e : (wyA tb st j)[j]? = ((wyP tb st j)[j]?).map (·.1) := by rw [← ih, List.getElem?_map]
    show (match (wyP tb st j)[j]? with | some (r, u) => _ | none => _ : Wy).map (·.1) = (match (wyA tb st j)[j]? with | some r => _ | none => _)
    rw [e]
    cases hq : (wyP tb st j)[j]? with
    | none => exact ih
    | some p =>
      obtain ⟨r, u⟩ := p
      show (((tb.getD r.toNat []).zipIdx).foldl (addP u) (wyP tb st j)).map (·.1) = (tb.getD r.toNat []).foldl addN (wyA tb st j)
      rw [foldP_fst, List.zipIdx_map_fst, ih]
theorem wyP_at {tb : List (List Int)} {st r : Int} {u : List Nat} {j : Nat} (h : (wyP tb st j)[j]? = some (r, u)) : wyP tb st (j + 1) = ((tb.getD r.toNat []).zipIdx).foldl (addP u) (wyP tb st j) := by
  show (match (wyP tb st j)[j]? with | some (r, u) => _ | none => _) = _
  rw [h]
theorem wyP_stop {tb : List (List Int)} {st : Int} {j : Nat} (h : (wyP tb st j).length ≤ j) : ∀ m, wyP tb st (j + m) = wyP tb st j
  | 0 => rfl
  | m + 1 => by
    have ih := wyP_stop h m
    show (match (wyP tb st (j + m))[j + m]? with | some (r, u) => _ | none => _) = _
    rw [List.getElem?_eq_none (by rw [ih]; omega)]
    exact ih
/-- each reached row but the first has the row ahead of it, met before, and the column -/
def WOk (H : Hp) (wd : Nat) (kvs : List (Key × V)) (o : Wy) : Prop := ∀ (i : Nat) (a : Int) (u : List Nat), o[i]? = some (a, u) → (u = [] ∧ valV kvs (Sum.inl a : Key) = some .non) ∨ ∃ (T : Addr) (j c : Nat) (b : Int) (v : List Nat), j < i ∧ o[j]? = some (b, v) ∧ u = v ++ [c] ∧ c < wd ∧ valV kvs (Sum.inl a : Key) = some (.ref T) ∧ H T = some (.tup [.int b, .int (c : Int)])
theorem WOk.keep {H H' : Hp} {wd : Nat} {kvs : List (Key × V)} {o : Wy} (h : WOk H wd kvs o) (k : KeepsTup H H') : WOk H' wd kvs o := fun i a u e => (h i a u e).imp id fun ⟨T, j, c, b, v, h1, h2, h3, h4, h5, h6⟩ => ⟨T, j, c, b, v, h1, h2, h3, h4, h5, k _ _ h6⟩
theorem WOk.one (H : Hp) (wd : Nat) (st : Int) : WOk H wd (putK [] (Sum.inl st : Key) .non) [(st, [])] := fun i a u e => by
  have e2 : (a, u) = (st, []) := List.mem_singleton.mp (List.mem_of_getElem? e)
  cases e2
  exact .inl ⟨rfl, by rw [valV_put, if_pos rfl]⟩
theorem WOk.put {H : Hp} {wd c j0 : Nat} {kvs : List (Key × V)} {o : Wy} {y r : Int} {v : List Nat} {T : Addr} (h : WOk H wd kvs o) (hy : y ∉ o.map (·.1)) (hT : H T = some (.tup [.int r, .int (c : Int)])) (hr : o[j0]? = some (r, v)) (hc : c < wd) : WOk H wd (putK kvs (Sum.inl y : Key) (.ref T)) (o ++ [(y, v ++ [c])]) := fun i a u e => by
  rw [valV_put]
  rcases Nat.lt_or_ge i o.length with lt | ge
  · rw [List.getElem?_append_left lt] at e
    have ne : a ≠ y := fun z => hy (z ▸ List.mem_map_of_mem (f := (·.1)) (List.mem_of_getElem? e))
    rw [if_neg fun z => ne (Sum.inl.inj z)]
    refine (h i a u e).imp id fun ⟨T, j, c, b, v, h1, h2, h3⟩ => ⟨T, j, c, b, v, h1, ?_, h3⟩
    rw [List.getElem?_append_left (by omega)]
    exact h2
  · rw [List.getElem?_append_right ge] at e
    have e2 : (a, u) = (y, v ++ [c]) := List.mem_singleton.mp (List.mem_of_getElem? e)
    cases e2
    rw [if_pos rfl]
    have lt := (List.getElem?_eq_some_iff.mp hr).1
    exact .inr ⟨T, j0, c, r, v, by omega, by rw [List.getElem?_append_left lt]; exact hr, rfl, hc, rfl, hT⟩
theorem foldP_grows (u : List Nat) : ∀ (l : List (Int × Nat)) (o : Wy), o <+: l.foldl (addP u) o
  | [], _ => List.prefix_refl _
  | p :: l, o => by
    refine List.IsPrefix.trans ?_ (foldP_grows u l _)
    unfold addP
    split
    · exact List.prefix_refl _
    · exact List.prefix_append _ _
def spWaysV (K : Frag) : Sp := fun vs H Q _ => ∃ (t : Addr) (tb : List (List Int)) (wd : Nat) (n st : Int), vs = [.ref t, .int st] ∧ TTab K H t tb ∧ TabOk tb wd n ∧ n ≤ 1000 ∧ wd ≤ 1000 ∧ 0 ≤ st ∧ st < n ∧
  ∀ D kvs H', H D = none → Same H H' → H' D = some (.dK kvs) → Keys kvs (wyA tb st tb.length) → Few n (wyA tb st tb.length) → WOk H' wd kvs (wyP tb st tb.length) → Q (.ref D) H'
section
variable {P : Program} {w : World} {K : PySem.W.Frag} {mg : Str → Option Value} {base : Heap}
theorem ok_waysV {f : Addr} {fd : FuncData} (F : Fun K "ways" "ways" sWays f fd) (T : TN mg) (en : mg "enumerate" = none) : FnOk P w K mg base CX0 1 f fd ["table", "start"] (spWaysV K) := by
  refine F.ok scWy (fun vs H Q E h => ?_) (fun cdv A outer s H vs Q E hr h => ?_)
  · obtain ⟨t, tb, wd, n, st, rfl, _⟩ := h
    rfl
  · obtain ⟨t, tb, wd, n, st, rfl, hT, ok, hn, hw, s0, s1, q⟩ := h
    have hub := hu_of hr
    refine ⟨_, pss_cons (ps_set (i := 2) scWy.nd rfl (Or.inl rfl) (pe_disp1 (Nat.lt_of_succ_lt hub) (pv 1) pe_non))
      (pss_cons (ps_set (i := 3) scWy.nd rfl (Or.inl rfl) (pe_lst (pa_cons (pv 1) pa_nil)))
      (pss_cons (ps_set (i := 4) scWy.nd rfl (Or.inl rfl) pe_int)
      (pss_cons (ps_while PassesOwn.never (pt_cmpR op_lt (pv 4) (pe_callB call_len_seq (by rfl) T.len PySem.boot_len (pa_cons (pv 3) pa_nil)) (nomark _))
        (pss_cons (ps_set (i := 5) scWy.nd rfl (Or.inl rfl) (pe_ix ix_list (pv 3) (pv 4) (fun _ _ => rfl)))
        (pss_cons (ps_aug (i := 4) scWy.nd rfl (Or.inl rfl) pe_int ip_add)
        (pss_one (ps_for PassesOwn.never rfl (ENU.pi_enT rfl en (pa_cons (pe_ix ix_tup (pv 0) (pv 5) (fun _ _ => rfl)) pa_nil)) (pg_tup (by rfl) (pgs_cons (pg_name (i := 6) scWy.nd rfl (Or.inl rfl)) (pgs_cons (pg_name (i := 7) scWy.nd rfl (Or.inl rfl)) pgs_nil)))
          (pss_one (ps_if (pt_cmp (pc_dnotin hub (pv 7) (pv 2)))
            (pss_cons (ps_dput hub (pv 2) (pv 7) (pe_tup (pa_cons (pv 5) (pa_cons (pv 6) pa_nil))) rfl)
            (pss_one (ps_expr (pe_bm PySem.F.plainAttrs_list PySem.F.slot_list_append PySem.F.type_list_append mt_append (pv 3) (pa_cons (pv 7) pa_nil))))) pss_nil)))))))
      (pss_one (ps_ret (pv 2)))))), ?_⟩
    refine ⟨.dK [], .inl rfl, fun D hD => ⟨_, rfl, _, DPut.k (kvs := []) (k := (Sum.inl st : Key)) upd_same (by show 0 < sizeLine; decide), ?_⟩⟩
    rw [upd_upd]
    refine ⟨_, rfl, by show 1 ≤ sizeLine; decide, fun M hM => ?_⟩
    have nD : H D = none := hD
    have nDM : D ≠ M := fun z => by rw [← z, upd_same] at hM; cases hM
    have nM : H M = none := (same_upd hD).free hM
    have hrow : ∀ r : Int, 0 ≤ r → r < n → (tb.getD r.toNat []) ∈ tb := fun r h0 h1 => by
      have hl := ok.len
      have : r.toNat < tb.length := by omega
      rw [List.getD_eq_getElem?_getD, List.getElem?_eq_getElem this]
      exact List.getElem_mem this
    refine while_by (fun σ H2 => ∃ (j : Nat) (kvs : List (Key × V)) (x5 x6 x7 : Option V), Same H H2 ∧ H2 D = some (.dK kvs) ∧ Keys kvs (wyA tb st j) ∧ H2 M = some (.lst ((wyA tb st j).map V.int)) ∧ Few n (wyA tb st j) ∧ WOk H2 wd kvs (wyP tb st j) ∧ j ≤ (wyA tb st j).length ∧
      σ = [some (.ref t), some (.int st), some (.ref D), some (.ref M), some (.int (j : Nat)), x5, x6, x7]) (fun σ _ => n.toNat - doneOf σ) ?_ ?_ ?_
    · refine ⟨0, _, none, none, none, same_two (same_upd hD) hM, same_upd hM _ _ upd_same, rfl, ?_, ⟨List.nodup_cons.mpr ⟨List.not_mem_nil, List.nodup_nil⟩, fun a ha => ?_⟩, WOk.one _ _ _, Nat.zero_le _, rfl⟩
      · exact upd_same
      · rw [List.mem_singleton.mp ha]
        exact ⟨s0, s1⟩
    · rintro σ H2 ⟨j, kvs, x5, x6, x7, s2, hd, keys, hm, few, wo, hle, rfl⟩
      have hlen : ((wyA tb st j).length : Int) ≤ n := few.len.elim id fun z => by rw [z]; show (0 : Int) ≤ n; omega
      refine ⟨_, rfl, _, rfl, M, _, rfl, .inl (SqL.of hm), _, _, rfl, rfl, _, rfl, ?_⟩
      rw [List.length_map]
      refine ite2 (fun hlt => ?_) (fun hge => ?_)
      · have hlt : ((j : Nat) : Int) < (((wyA tb st j).length : Nat) : Int) := of_decide_eq_true hlt
        have hlt : j < (wyA tb st j).length := by omega
        obtain ⟨r, hr2⟩ : ∃ r, (wyA tb st j)[j]? = some r := ⟨_, List.getElem?_eq_getElem hlt⟩
        have hrin := few.in_ r (List.mem_of_getElem? hr2)
        have hstep := wyA_at hr2
        obtain ⟨u0, hu0⟩ : ∃ u0, (wyP tb st j)[j]? = some (r, u0) := by
          rw [← wyP_fst, List.getElem?_map] at hr2
          cases hq : (wyP tb st j)[j]? with
          | none => rw [hq] at hr2; cases hr2
          | some p =>
            rw [hq] at hr2
            obtain ⟨x, u⟩ := p
            cases hr2
            exact ⟨u, rfl⟩
        have hstepP := wyP_at hu0
        have pm := wyP_fst (tb := tb) (st := st) j
        obtain ⟨ts, h1, h2⟩ := hT.same s2
        have hrl : r.toNat < tb.length := by have := ok.len; omega
        obtain ⟨a, e1, e2⟩ := h2.get hrl
        have at1 : atI (ts.map V.ref) r = some (.ref a) := by
          have e3 : r = ((r.toNat : Nat) : Int) := by omega
          rw [e3]
          exact atI_nat (by rw [List.getElem?_map, e1] <;> rfl)
        obtain ⟨rl, rb⟩ := ok.row _ (hrow r hrin.1 hrin.2)
        generalize tb.getD r.toNat [] = row at hstep hstepP e2 rl rb
        generalize hks : wyA tb st j = o at hr2 hstep hlen hlt hle hm keys few pm
        generalize wyP tb st j = ps at hu0 hstepP pm wo
        refine ⟨_, rfl, _, rfl, M, _, _, _, rfl, rfl, SqL.of hm, atI_nat (by rw [List.getElem?_map, hr2] <;> rfl), ?_⟩
        refine ⟨_, rfl, _, _, rfl, rfl, ?_⟩
        refine ⟨_, rfl, _, rfl, t, _, _, _, rfl, rfl, h1, at1, a, _, rfl, SqT.of e2, ?_⟩
        have naD : a ≠ D := fun z => by rw [z, hd] at e2; cases e2
        have naM : a ≠ M := fun z => by rw [z, hm] at e2; cases e2
        refine for_it ENU.walk_enT (fun i σ H3 => ∃ (kvs : List (Key × V)) (x6 x7 : Option V), Same H H3 ∧ H3 a = some (oTup row) ∧ H3 D = some (.dK kvs) ∧ Keys kvs ((row.take i).foldl addN o) ∧ H3 M = some (.lst (((row.take i).foldl addN o).map V.int)) ∧ Few n ((row.take i).foldl addN o) ∧ WOk H3 wd kvs (((row.take i).zipIdx).foldl (addP u0) ps) ∧
          σ = [some (.ref t), some (.int st), some (.ref D), some (.ref M), some (.int ((j : Int) + 1)), some (.int r), x6, x7]) ?_ (fun i σ H3 _ ⟨_, _, _, _, h, _⟩ => SqT.of h) ?_ ?_
        · exact ⟨kvs, x6, x7, s2, e2, hd, keys, hm, few, wo, rfl⟩
        · rintro i x σ H3 H4 hi ⟨kvs, x6, x7, s3, ha3, hd3, keys3, hm3, few3, wo3, rfl⟩ ⟨T2, y, rfl, hT2, rfl, hy⟩
          rw [List.getElem?_map] at hy
          cases hc : row[i]? with
          | none => rw [hc] at hy; cases hy
          | some y2 =>
            rw [hc] at hy
            obtain rfl : V.int y2 = y := Option.some.inj hy
            have yin := rb y2 (List.mem_of_getElem? hc)
            have tk : (row.take (i + 1)).foldl addN o = addN ((row.take i).foldl addN o) y2 := by
              rw [List.take_add_one, hc, List.foldl_append] <;> rfl
            have hcw : i < wd := rl ▸ (List.getElem?_eq_some_iff.mp hc).1
            have tkP : ((row.take (i + 1)).zipIdx).foldl (addP u0) ps = addP u0 (((row.take i).zipIdx).foldl (addP u0) ps) (y2, i) := by
              have il : (row.take i).length = i := by rw [List.length_take]; have := (List.getElem?_eq_some_iff.mp hc).1; omega
              rw [List.take_add_one, hc]
              show ((row.take i ++ [y2]).zipIdx).foldl (addP u0) ps = _
              rw [List.zipIdx_append, List.foldl_append, il, Nat.zero_add] <;> rfl
            have rin3 : (((row.take i).zipIdx).foldl (addP u0) ps)[j]? = some (r, u0) := by
              obtain ⟨t, ht⟩ := foldP_grows u0 ((row.take i).zipIdx) ps
              rw [← ht, List.getElem?_append_left (List.getElem?_eq_some_iff.mp hu0).1]
              exact hu0
            have pm3 : (((row.take i).zipIdx).foldl (addP u0) ps).map (·.1) = (row.take i).foldl addN o := by rw [foldP_fst, List.zipIdx_map_fst, pm]
            rw [tk, tkP]
            generalize (row.take i).foldl addN o = o3 at keys3 hm3 few3 pm3 ⊢
            generalize ((row.take i).zipIdx).foldl (addP u0) ps = p3 at wo3 rin3 pm3 ⊢
            have hlen3 : (o3.length : Int) ≤ n := few3.len.elim id fun z => by rw [z]; show (0 : Int) ≤ n; omega
            have s4 : Same H3 (upd H3 T2 (.tup [.int (i : Nat), .int y2])) := same_upd hT2
            have ha4 := s4 _ _ ha3
            have hd4 := s4 _ _ hd3
            have hm4 := s4 _ _ hm3
            have tu : (upd H3 T2 (.tup [.int (i : Nat), .int y2])) T2 = some (.tup [.int (i : Nat), .int y2]) := upd_same
            have s04 := s3.trans s4
            have wo4 := wo3.keep (Same.tup' s4)
            generalize upd H3 T2 (.tup [.int (i : Nat), .int y2]) = H4 at ha4 hd4 hm4 tu s04 wo4 ⊢
            refine ⟨T2, _, rfl, SqT.of tu, rfl, _, _, rfl, _, _, rfl, rfl, ?_⟩
            refine ⟨_, rfl, _, rfl, D, _, rfl, DGet.k (k := (Sum.inl y2 : Key)) hd4, _, rfl, ?_⟩
            by_cases hin : y2 ∈ o3
            · obtain ⟨v, hv⟩ := Option.ne_none_iff_exists'.mp ((keys3.val y2).mpr hin)
              rw [hv]
              refine iteF ?_
              refine ⟨kvs, _, _, s04, ha4, hd4, ?_, ?_, ?_, ?_, rfl⟩
              · unfold addN
                rw [if_pos hin]
                exact keys3
              · unfold addN
                rw [if_pos hin]
                exact hm4
              · unfold addN
                rw [if_pos hin]
                exact few3
              · unfold addP
                rw [if_pos (by rw [pm3]; exact hin)]
                exact wo4
            · have hv : valV kvs (Sum.inl y2 : Key) = none := Classical.byContradiction fun z => hin ((keys3.val y2).mp z)
              rw [hv]
              refine iteT ?_
              refine ⟨_, rfl, _, rfl, by show 2 ≤ sizeLine; decide, fun T3 hT3 => ?_⟩
              have s5 : Same H4 (upd H4 T3 (.tup [.int r, .int (i : Nat)])) := same_upd hT3
              refine ⟨_, rfl, _, rfl, D, _, rfl, DPut.k (k := (Sum.inl y2 : Key)) (s5 _ _ hd4) (by rw [keys3.len, sizeLine_eq]; omega), ?_⟩
              have hd5 := s5 _ _ hd4
              have hm5 := s5 _ _ hm4
              have ha5 := s5 _ _ ha4
              have s05 := s04.trans s5
              have wo5 := wo4.keep (Same.tup' s5)
              have t5 : upd H4 T3 (.tup [.int r, .int (i : Nat)]) T3 = some (.tup [.int r, .int (i : Nat)]) := upd_same
              generalize upd H4 T3 (.tup [.int r, .int (i : Nat)]) = H5 at hd5 hm5 ha5 s05 wo5 t5 ⊢
              have hm6 : upd H5 D (.dK (putK kvs (Sum.inl y2) (.ref T3))) M = some (.lst (o3.map V.int)) := by
                rw [upd_ne (Ne.symm nDM)]
                exact hm5
              refine ⟨_, rfl, .inl ⟨rfl, _, SqL.of hm6⟩, _, rfl, M, _, _, rfl, rfl, hm6, by rw [List.length_map, sizeLine_eq]; omega, ?_⟩
              refine ⟨putK kvs (Sum.inl y2) (.ref T3), _, _, same_at (same_at s05 nD) nM, ?_, ?_, ?_, ?_, few3.add yin, ?_, rfl⟩
              · rw [upd_ne naM, upd_ne naD]
                exact ha5
              · rw [upd_ne nDM, upd_same]
              · unfold addN
                rw [if_neg hin]
                exact keys3.put hin _
              · rw [upd_same]
                unfold addN
                rw [if_neg hin, List.map_append] <;> rfl
              · have kt := (tup_upd (o := .dK (putK kvs (Sum.inl y2) (.ref T3))) hd5 (fun _ z => nomatch z)).trans (tup_upd (o := .lst (o3.map V.int ++ [.int y2])) hm6 (fun _ z => nomatch z))
                unfold addP
                rw [if_neg (by rw [pm3]; exact hin)]
                exact (wo5.put (by rw [pm3]; exact hin) t5 rin3 hcw).keep kt
        · rintro σ H3 ⟨kvs, x6, x7, s3, ha3, hd3, keys3, hm3, few3, wo3, rfl⟩
          rw [List.length_map, List.take_length, ← hstep] at keys3 hm3 few3
          rw [List.length_map, List.take_length, ← hstepP] at wo3
          refine ⟨⟨j + 1, kvs, _, _, _, s3, hd3, keys3, hm3, few3, wo3, ?_, rfl⟩, ?_⟩
          · have : o.length ≤ (wyA tb st (j + 1)).length := by rw [hstep]; exact (addF_grows row o).length_le
            omega
          · show n.toNat - ((j : Int) + 1).toNat < n.toNat - ((j : Int)).toNat
            omega
      · have hge : ¬ (((j : Nat) : Int) < (((wyA tb st j).length : Nat) : Int)) := fun z => hge (decide_eq_true z)
        have e1 : wyA tb st tb.length = wyA tb st j := by
          have h4 := wyA_stop (tb := tb) (st := st) (j := j) (by omega) (tb.length - j)
          have := ok.len
          rw [show j + (tb.length - j) = tb.length by omega] at h4
          exact h4
        refine ⟨_, rfl, q D kvs H2 hD s2 hd ?_ ?_ ?_⟩
        · rw [e1]
          exact keys
        · rw [e1]
          exact few
        · have lp : (wyP tb st j).length = (wyA tb st j).length := by rw [← wyP_fst, List.length_map]
          have h4 := wyP_stop (tb := tb) (st := st) (j := j) (by omega) (tb.length - j)
          have := ok.len
          rw [show j + (tb.length - j) = tb.length by omega] at h4
          rw [h4]
          exact wo
    · exact fun σ H Q Q' hm ⟨v, hv, w', hw, M2, ys2, e2, hs2, i, j, a, b, k, hk, q⟩ => ⟨v, hv, w', hw, M2, ys2, e2, hs2, i, j, a, b, k, hk, hm _ _ q⟩
end
end WK
set_option Elab.async false
set_option linter.all false
set_option maxRecDepth 100000
set_option maxHeartbeats 8000000
namespace WK
open PySem L2 PyProof.Rows LCX K1 FV DP
open TX (sg sigs)
open PySem.W (Frag kitOne)
abbrev sAlong : Stmt := top 14
abbrev NAl : List Str := ["letters", "found", "row", "taken", "step"]
/-- a way's word -/
def wordL (L : W) (u : List Nat) : W := u.map fun c => L.getD c 0
def spAlong : Sp := fun vs H Q _ => ∃ (L : W) (D : Addr) (a : Int) (kvs : List (Key × V)) (o : Wy) (w0 : List Nat), vs = [.str (tx L), .ref D, .int a] ∧ L.length ≤ 3 ∧ H D = some (.dK kvs) ∧ WOk H L.length kvs o ∧ (a, w0) ∈ o ∧ o.length ≤ 1000 ∧ ∀ (H' : Hp), Same H H' → Q (.str (tx (wordL L w0))) H'
theorem val_key {D : Addr} {kvs : List (Key × V)} {H : Hp} {a : Int} (h : H D = some (.dK kvs)) : DGet H D (.int a) (valV kvs (Sum.inl a : Key)) := DGet.k (k := (Sum.inl a : Key)) h
section
variable {P : Program} {w : World} {K : PySem.W.Frag} {mg : Str → Option Value} {base : Heap}
theorem scAl : FnScope NAl ["letters", "found", "row"] (defScope sAlong) := ⟨rfl, rfl, rfl, by decide +kernel, rfl, by decide +kernel, by decide +kernel⟩
theorem ok_along {f : Addr} {fd : FuncData} (F : Fun K "word_along" "word_along" sAlong f fd) : FnOk P w K mg base CX0 1 f fd ["letters", "found", "row"] spAlong := by
  refine F.ok scAl (fun vs H Q E h => ?_) (fun cdv A outer s H vs Q E hr h => ?_)
  · obtain ⟨L, D, a, _, _, _, rfl, _⟩ := h
    rfl
  · obtain ⟨L, D, a, kvs, o, w0, rfl, hL, hd, wo, ha, hol, q⟩ := h
    have hub := hu_of hr
    refine ⟨_, pss_cons (ps_set (i := 3) scAl.nd rfl (Or.inl rfl) (pe_lst pa_nil))
      (pss_cons (ps_set (i := 4) scAl.nd rfl (Or.inl rfl) (pe_dget hub (pv 1) (pv 2) (fun _ _ => rfl)))
      (pss_cons (ps_while PassesOwn.never (pt_cmp (pc_notN (pv 4)))
        (pss_cons (ps_expr (pe_bm PySem.F.plainAttrs_list PySem.F.slot_list_append PySem.F.type_list_append mt_append (pv 3) (pa_cons (pe_ix ix_str (pv 0) (pe_ix ix_tup (pv 4) pe_int (fun _ _ => rfl)) (fun _ _ => rfl)) pa_nil)))
        (pss_one (ps_set (i := 4) scAl.nd rfl (Or.inl rfl) (pe_dget hub (pv 1) (pe_ix ix_tup (pv 4) pe_int (fun _ _ => rfl)) (fun _ _ => rfl))))))
      (pss_one (ps_ret (pe_join pe_str (pe_revL (pv 3))))))), ?_⟩
    obtain ⟨i0, hi0⟩ := List.mem_iff_getElem?.mp ha
    have lt0 := (List.getElem?_eq_some_iff.mp hi0).1
    obtain ⟨x0, hx0⟩ : ∃ x, valV kvs (Sum.inl a : Key) = some x := by
      rcases wo i0 a w0 hi0 with ⟨_, h⟩ | ⟨T, _, _, _, _, _, _, _, _, h, _⟩
      · exact ⟨_, h⟩
      · exact ⟨_, h⟩
    refine ⟨by show 0 ≤ sizeLine; decide, fun M hM => ?_⟩
    have s1 := same_upd (o := .lst []) hM
    have nDM : D ≠ M := fun z => by rw [← z, hd] at hM; cases hM
    refine ⟨_, rfl, _, rfl, D, x0, rfl, hx0 ▸ val_key (s1 _ _ hd), ?_⟩
    refine while_by (fun σ H2 => ∃ (us : W) (i : Nat) (b : Int) (v : List Nat) (x : V), Same H H2 ∧ H2 M = some (.lst ((us.map sg).map V.str)) ∧ wordL L w0 = wordL L v ++ us.reverse ∧ us.length + i ≤ i0 ∧ o[i]? = some (b, v) ∧ valV kvs (Sum.inl b : Key) = some x ∧ σ = [some (.str (tx L)), some (.ref D), some (.int a), some (.ref M), some x]) (fun _ H2 => i0 + 1 - (match H2 M with | some (.lst xs) => xs.length | _ => 0)) ?_ ?_ ?_
    · exact ⟨[], i0, a, w0, x0, s1, upd_same, (List.append_nil _).symm, Nat.le_of_eq (Nat.zero_add _), hi0, hx0, rfl⟩
    · rintro σ H2 ⟨us, i, b, v, x, s2, hm, hus, le, hb, hx, rfl⟩
      refine ⟨_, rfl, _, rfl, ?_⟩
      rcases wo i b v hb with ⟨ev, h⟩ | ⟨T, j, c, b2, v2, h1, h2, ev, h3, h4, h5⟩
      · obtain rfl : x = .non := Option.some.inj (hx.symm.trans h)
        refine iteF ?_
        refine ⟨⟨_, rfl⟩, _, rfl, M, _, rfl, SqL.of hm, fun p hp => ?_⟩
        have s3 := same_upd (o := .lst ((us.map sg).map V.str).reverse) hp
        refine ⟨_, p, us.reverse.map sg, rfl, rfl, .inl (SqL.of ?_), ?_, ?_⟩
        · rw [upd_same, ← List.map_reverse, ← List.map_reverse]
        · rw [sum_sg]
          show us.reverse.length + _ * 0 ≤ _
          rw [List.length_reverse]
          omega
        · rw [show Txt.join (Str.ofString "") (us.reverse.map sg) = tx us.reverse from join_sg us.reverse]
          have e : us.reverse = wordL L w0 := by rw [hus, ev]; rfl
          rw [e]
          exact q _ (s2.trans s3)
      · obtain rfl : x = .ref T := Option.some.inj (hx.symm.trans h4)
        refine iteT ?_
        have hT := s2 _ _ h5
        obtain ⟨y, hy⟩ : ∃ y, L[c]? = some y := ⟨_, List.getElem?_eq_getElem h3⟩
        have at1 : atI (tx L).cps.toList ((c : Nat) : Int) = some y := by rw [tx_list]; exact atI_nat hy
        have at2 : atI [V.int b2, V.int (c : Int)] 1 = some (.int (c : Int)) := rfl
        have at3 : atI [V.int b2, V.int (c : Int)] 0 = some (.int b2) := rfl
        have hz : (tx L).length ≤ sizeLine := by rw [tx_len, sizeLine_eq]; omega
        have yin : y ∈ L := List.mem_of_getElem? hy
        obtain ⟨x2, hx2⟩ : ∃ x2, valV kvs (Sum.inl b2 : Key) = some x2 := by
          rcases wo j b2 v2 h2 with ⟨_, h⟩ | ⟨T, _, _, _, _, _, _, _, _, h, _⟩
          · exact ⟨_, h⟩
          · exact ⟨_, h⟩
        refine ⟨_, rfl, .inl ⟨rfl, _, SqL.of hm⟩, _, rfl, _, rfl, T, _, _, _, rfl, rfl, SqT.of hT, at2, tx L, _, y, rfl, rfl, hz, at1, M, _, _, rfl, rfl, hm, by rw [List.length_map, List.length_map, sizeLine_eq]; omega, ?_⟩
        have s3 : Same H (upd H2 M (.lst ((us.map sg).map V.str ++ [V.str (sg y)]))) := same_at s2 hM
        have kt := tup_upd (o := .lst ((us.map sg).map V.str ++ [V.str (sg y)])) hm (fun _ z => nomatch z)
        have hd3 : upd H2 M (.lst ((us.map sg).map V.str ++ [V.str (sg y)])) D = some (.dK kvs) := s3 _ _ hd
        refine ⟨_, rfl, _, rfl, T, _, _, _, rfl, rfl, SqT.of (kt _ _ hT), at3, D, x2, rfl, hx2 ▸ val_key hd3, ?_⟩
        refine ⟨⟨us ++ [y], j, b2, v2, x2, s3, ?_, ?_, by rw [List.length_append, List.length_singleton]; omega, h2, hx2, rfl⟩, ?_⟩
        · rw [upd_same, List.map_append, List.map_append] <;> rfl
        · rw [hus, ev, List.reverse_append]
          unfold wordL
          rw [List.map_append, List.append_assoc]
          show _ ++ ([L.getD c 0] ++ us.reverse) = _ ++ ([y] ++ us.reverse)
          rw [List.getD_eq_getElem?_getD, hy] <;> rfl
        · show i0 + 1 - (match (upd H2 M _) M with | some (.lst xs) => xs.length | _ => 0) < i0 + 1 - (match H2 M with | some (.lst xs) => xs.length | _ => 0)
          rw [upd_same, hm]
          show i0 + 1 - ((us.map sg).map V.str ++ [_]).length < i0 + 1 - ((us.map sg).map V.str).length
          rw [List.length_append, List.length_map, List.length_map]
          show i0 + 1 - (us.length + 1) < _
          omega
    · exact fun σ H Q Q' hm ⟨v, hv, k, hk, q⟩ => ⟨v, hv, k, hk, hm _ _ q⟩
end
end WK
set_option Elab.async false
set_option linter.all false
set_option maxRecDepth 100000
set_option maxHeartbeats 8000000
namespace WK
open PySem L2 PyProof.Rows LCX K1
open TX (sg sigs)
open PySem.W (Frag kitOne)
abbrev sLLed : Stmt := top 64
theorem index_tx {L : W} {c : Nat} (hnd : L.Nodup) (hc : c ∈ L) : Txt.index0 (tx L) (sg c) = some (L.idxOf c) := by
  unfold Txt.index0
  rcases StrLaws.occ_head_from (tx L) ⟨#[c]⟩ 0 1 (Nat.le_refl 1) with ⟨h0, hn⟩ | ⟨k, r, h0, hlo, hk, hn⟩
  · obtain ⟨j, hj⟩ := List.getElem?_of_mem hc
    refine absurd ((StrLaws.subAt_one (tx L) c j).mpr ?_) (hn j (Nat.zero_le _))
    rw [tx_list]
    exact hj
  · rw [show sg c = ⟨#[c]⟩ from rfl, h0]
    have e := (StrLaws.subAt_one (tx L) c k).mp hk
    rw [tx_list] at e
    rw [idx_of hnd e] <;> rfl
def spLLed : Sp := fun vs H Q _ => ∃ (l : Addr) (L u : W) (tb : List (List Int)) (n st : Int), vs = [.ref l, .str (tx L), .str (tx u), .int st] ∧ PTab H l tb ∧ Let L ∧ TabOk tb L.length n ∧ 0 ≤ st ∧ st < n ∧ (∀ c ∈ u, c ∈ L) ∧ Q (.int (ledL L tb u st)) H
abbrev NLl : List Str := ["_law_table_here", "_law_letters_here", "_law_word_here", "_law_start", "_law_place", "_law_letter"]
section
variable {P : Program} {w : World} {K : PySem.W.Frag} {mg : Str → Option Value} {base : Heap} {fL : Addr} {dL : FuncData}
theorem scLl : FnScope NLl ["_law_table_here", "_law_letters_here", "_law_word_here", "_law_start"] (defScope sLLed) := ⟨rfl, rfl, rfl, by decide +kernel, rfl, by decide +kernel, by decide +kernel⟩
theorem ok_lled {f : Addr} {fd : FuncData} (F : Fun K "_law_led" "_law_led" sLLed f fd) : FnOk P w K mg base CX0 1 f fd ["_law_table_here", "_law_letters_here", "_law_word_here", "_law_start"] spLLed := by
  refine F.ok scLl (fun vs H Q E h => ?_) (fun cdv A outer s H vs Q E hr h => ?_)
  · obtain ⟨l, L, u, tb, n, st, rfl, _⟩ := h
    rfl
  · obtain ⟨l, L, u, tb, n, st, rfl, hT, hL, ok, s0, s1, hc, q⟩ := h
    refine ⟨_, pss_cons (ps_set (i := 4) scLl.nd rfl (Or.inl rfl) (pv 3))
      (pss_cons (ps_for PassesOwn.never rfl (pi_str (pv 2)) (pg_name (i := 5) scLl.nd rfl (Or.inl rfl))
        (pss_one (ps_set (i := 4) scLl.nd rfl (Or.inl rfl) (pe_ix ix_tup (pe_ix ix_list (pv 0) (pv 4) (fun _ _ => rfl)) (pe_bmS PySem.F.plainAttrs_str PySem.F.slot_str_index PySem.F.type_str_index (mt_indexX rfl takes0) (pv 1) (pa_cons (pv 5) pa_nil)) (fun _ _ => rfl)))))
      (pss_one (ps_ret (pv 4)))), ?_⟩
    have hnd := nodup_of hL
    refine ⟨_, rfl, _, rfl, tx u, rfl, ?_⟩
    refine for_it walk_str (fun i σ H1 => H1 = H ∧ ∃ x : Option V, σ = [some (.ref l), some (.str (tx L)), some (.str (tx u)), some (.int st), some (.int (ledL L tb (u.take i) st)), x]) ⟨rfl, none, rfl⟩ (fun _ _ _ _ _ => trivial) ?_ ?_
    · rintro i x σ H1 H2 hi ⟨rfl, x0, rfl⟩ ⟨rfl, c, hx, rfl⟩
      have hx' : u[i]? = some c := by
        rw [← Array.getElem?_toList, tx_list] at hx
        exact hx
      have hcL : c ∈ L := hc c (List.mem_of_getElem? hx')
      have hin := ledL_in ok (u := u.take i) (st := st) ⟨s0, s1⟩ fun d hd => hc d (List.mem_of_mem_take hd)
      obtain ⟨as, h1, h2⟩ := hT
      have hrl : (ledL L tb (u.take i) st).toNat < tb.length := by have := ok.len; omega
      obtain ⟨a, e1, e2⟩ := h2.get hrl
      have at1 : atI (as.map V.ref) (ledL L tb (u.take i) st) = some (.ref a) := by
        have e3 : ledL L tb (u.take i) st = (((ledL L tb (u.take i) st).toNat : Nat) : Int) := by omega
        rw [e3]
        exact atI_nat (by rw [List.getElem?_map, e1] <;> rfl)
      have e4 : tb.getD (ledL L tb (u.take i) st).toNat [] = tb[(ledL L tb (u.take i) st).toNat] := by rw [List.getD_eq_getElem?_getD, List.getElem?_eq_getElem hrl] <;> rfl
      have hil : L.idxOf c < (tb.getD (ledL L tb (u.take i) st).toNat []).length := by rw [e4, (ok.row _ (List.getElem_mem hrl)).1]; exact List.idxOf_lt_length_of_mem hcL
      have at2 : atI ((tb.getD (ledL L tb (u.take i) st).toNat []).map V.int) ((L.idxOf c : Nat) : Int) = some (.int (stepL L tb (ledL L tb (u.take i) st) c)) := by
        refine atI_nat ?_
        unfold stepL
        rw [List.getElem?_map, List.getD_eq_getElem?_getD (l := tb.getD _ _), List.getElem?_eq_getElem hil] <;> rfl
      refine ⟨_, rfl, _, rfl, l, _, _, _, rfl, rfl, SqL.of h1, at1, _, rfl, rfl, _, rfl, tx L, sg c, rfl, rfl, fun k hk => ?_, fun hk => ?_⟩
      · rw [index_tx hnd hcL] at hk
        obtain rfl := Option.some.inj hk
        refine ⟨a, _, _, _, rfl, rfl, SqT.of e2, at2, rfl, some (.str (sg c)), ?_⟩
        rw [List.take_add_one, hx']
        show _ = [_, _, _, _, some (V.int (ledL L tb (u.take i ++ [c]) st)), _]
        rw [ledL_snoc] <;> rfl
      · rw [index_tx hnd hcL] at hk
        cases hk
    · rintro σ H1 ⟨rfl, x0, rfl⟩
      rw [size_tx, List.take_length]
      exact ⟨_, rfl, q⟩
end
end WK
set_option Elab.async false
set_option linter.all false
set_option maxRecDepth 100000
set_option maxHeartbeats 8000000
namespace WK
open PySem L2 PyProof.Rows LCX K1
open TX (sg sigs)
open PySem.W (Frag kitOne)
abbrev sOft : Stmt := top 12
/-- so often -/
def itL (f : Int → Int) (st : Int) : Nat → Int
  | 0 => st
  | k + 1 => f (itL f st k)
theorem it_same {f : Int → Int} {st : Int} {a m : Nat} (h : itL f st m = itL f st a) : ∀ j, itL f st (m + j) = itL f st (a + j)
  | 0 => h
  | j + 1 => congrArg f (it_same h j)
theorem it_ring {f : Int → Int} {st : Int} {a m : Nat} (ha : a < m) (h : itL f st m = itL f st a) (j : Nat) : itL f st (a + j) = itL f st (a + j % (m - a)) := by
  induction j using Nat.strongRecOn with
  | ind j ih =>
    rcases Nat.lt_or_ge j (m - a) with lt | ge
    · rw [Nat.mod_eq_of_lt lt]
    · have e1 := it_same h (j - (m - a))
      rw [show a + j = m + (j - (m - a)) by omega, e1, ih (j - (m - a)) (by omega), Nat.mod_eq_sub_mod ge]
theorem it_in {L : W} {tb : List (List Int)} {n st : Int} {u : W} (ok : TabOk tb L.length n) (hs : 0 ≤ st ∧ st < n) (hc : ∀ c ∈ u, c ∈ L) : ∀ k, 0 ≤ itL (ledL L tb u) st k ∧ itL (ledL L tb u) st k < n
  | 0 => hs
  | k + 1 => ledL_in ok (it_in ok hs hc k) hc
/-- what was met so far: m places, all unlike -/
def metL (f : Int → Int) (st : Int) (m : Nat) : List Int := (List.range m).map (itL f st)
theorem met_few {f : Int → Int} {st n : Int} {m : Nat} (h : ∀ k, 0 ≤ itL f st k ∧ itL f st k < n) (nd : (metL f st m).Nodup) : (m : Int) ≤ n := by
  have h0 := h 0
  have sub : metL f st m ⊆ (List.range n.toNat).map fun i => ((i : Nat) : Int) := fun x hx => by
    obtain ⟨k, _, rfl⟩ := List.mem_map.mp hx
    have := h k
    exact List.mem_map.mpr ⟨(itL f st k).toNat, List.mem_range.mpr (by omega), by omega⟩
  have := nd.length_le_of_subset sub
  rw [metL, List.length_map, List.length_map, List.length_range, List.length_range] at this
  omega
theorem met_len (f : Int → Int) (st : Int) (m : Nat) : ((metL f st m).map V.int).length = m := by rw [List.length_map, metL, List.length_map, List.length_range]
theorem met_at {f : Int → Int} {st : Int} {m i : Nat} (h : i < m) : ((metL f st m).map V.int)[i]? = some (.int (itL f st i)) := by
  rw [List.getElem?_map, metL, List.getElem?_map, List.getElem?_range h] <;> rfl
theorem met_snoc (f : Int → Int) (st : Int) (m : Nat) : metL f st (m + 1) = metL f st m ++ [itL f st m] := by
  unfold metL
  rw [List.range_succ, List.map_append] <;> rfl
theorem val_other {k1 k : Key} {v : V} {r : List (Key × V)} (h : decide (k1 = k) = false) : valV ((k1, v) :: r) k = valV r k := by
  unfold valV
  rw [List.find?_cons, show decide ((k1, v).1 = k) = false from h]
def spOft (K : Frag) : Sp := fun vs H Q _ => ∃ (t : Addr) (L u : W) (tb : List (List Int)) (n st tm : Int), vs = [.str (tx L), .ref t, .str (tx u), .int st, .int tm] ∧ TTab K H t tb ∧ Let L ∧ TabOk tb L.length n ∧ n ≤ 1000 ∧ 0 ≤ st ∧ st < n ∧ u.length ≤ 1000 ∧ (∀ c ∈ u, c ∈ L) ∧ 0 ≤ tm ∧
  ∀ H', Same H H' → Q (.int (itL (ledL L tb u) st tm.toNat)) H'
abbrev NOf : List Str := ["letters", "table", "word", "start", "times", "met", "numbers", "row", "ahead"]
/-- the dict of what was met -/
structure NumOk (f : Int → Int) (st : Int) (m : Nat) (kvs : List (Key × V)) : Prop where
  len : kvs.length ≤ m
  at_ : ∀ i < m, valV kvs (Sum.inl (itL f st i) : Key) = some (.int ((i : Nat) : Int))
  no : ∀ x, x ∉ metL f st m → valV kvs (Sum.inl x : Key) = none
theorem NumOk.next {f : Int → Int} {st : Int} {m : Nat} {kvs : List (Key × V)} (h : NumOk f st m kvs) (hn : itL f st m ∉ metL f st m) : NumOk f st (m + 1) (putK kvs (Sum.inl (itL f st m) : Key) (.int ((m : Nat) : Int))) where
  len := by
    have h1 := length_putK kvs (Sum.inl (itL f st m) : Key) (.int ((m : Nat) : Int))
    have h2 := h.len
    omega
  at_ := fun i hi => by
    rw [valV_put]
    by_cases e : i = m
    · rw [if_pos (by rw [e]), e]
    · have lt : i < m := by omega
      rw [if_neg fun z => hn (by rw [← Sum.inl.inj z]; exact List.mem_map.mpr ⟨i, List.mem_range.mpr lt, rfl⟩)]
      exact h.at_ i lt
  no := fun x hx => by
    rw [met_snoc] at hx
    rw [valV_put, if_neg fun z => hx (by rw [Sum.inl.inj z]; exact List.mem_append_right _ (List.mem_singleton.mpr rfl))]
    exact h.no x fun z => hx (List.mem_append_left _ z)
section
variable {P : Program} {w : World} {K : PySem.W.Frag} {mg : Str → Option Value} {base : Heap} {fL : Addr} {dL : FuncData}
theorem scOf : FnScope NOf ["letters", "table", "word", "start", "times"] (defScope sOft) := ⟨rfl, rfl, rfl, by decide +kernel, rfl, by decide +kernel, by decide +kernel⟩
theorem ok_oft {f : Addr} {fd : FuncData} (F : Fun K "led_often" "led_often" sOft f fd) (T : TN mg) (AL : Fn K mg "led" sLed ["letters", "table", "word", "start"] fL dL) (GL : FnOk P w K mg base CX0 1 fL dL ["letters", "table", "word", "start"] (spLed K)) :
    FnOk P w K mg base CX0 2 f fd ["letters", "table", "word", "start", "times"] (spOft K) := by
  refine F.ok scOf (fun vs H Q E h => ?_) (fun cdv A outer s H vs Q E hr h => ?_)
  · obtain ⟨t, L, u, tb, n, st, tm, rfl, _⟩ := h
    rfl
  · obtain ⟨t, L, u, tb, n, st, tm, rfl, hT, hL, ok, hn, s0, s1, hu, hc, ht0, q⟩ := h
    have hub := hu_of hr
    refine ⟨_, pss_cons (ps_set (i := 5) scOf.nd rfl (Or.inl rfl) (pe_lst (pa_cons (pv 3) pa_nil)))
      (pss_cons (ps_set (i := 6) scOf.nd rfl (Or.inl rfl) (pe_disp (pps_cons (pv 3) pe_int pps_nil) (by rfl) (by rfl) (fun z => by cases z) (by decide)))
      (pss_cons (ps_while PassesOwn.never (pt_cmpR op_le (pe_callB call_len_seq (by rfl) T.len PySem.boot_len (pa_cons (pv 5) pa_nil)) (pv 4) (nomark _))
        (pss_cons (ps_set (i := 7) scOf.nd rfl (Or.inl rfl) (pe_call GL hr rfl AL.g AL.F.kp AL.b .nil pass0 (pa_cons (pv 0) (pa_cons (pv 1) (pa_cons (pv 2) (pa_cons (pe_ix ix_list (pv 5) (pe_un un_neg pe_int) (fun _ _ => rfl)) pa_nil))))))
        (pss_cons (ps_if (pt_cmp (pc_din hub (pv 7) (pv 6))) (pss_cons (ps_set (i := 8) scOf.nd rfl (Or.inl rfl) (pe_dget hub (pv 6) (pv 7) (fun _ _ => rfl)))
          (pss_one (ps_ret (pe_ix ix_list (pv 5) (pe_op op_add (pv 8) (pe_op op_mod (pe_op op_sub (pv 4) (pv 8)) (pe_op op_sub (pe_callB call_len_seq (by rfl) T.len PySem.boot_len (pa_cons (pv 5) pa_nil)) (pv 8)))) (fun _ _ => rfl))))) pss_nil)
        (pss_cons (ps_dput hub (pv 6) (pv 7) (pe_callB call_len_seq (by rfl) T.len PySem.boot_len (pa_cons (pv 5) pa_nil)) rfl)
        (pss_one (ps_expr (pe_bm PySem.F.plainAttrs_list PySem.F.slot_list_append PySem.F.type_list_append mt_append (pv 5) (pa_cons (pv 7) pa_nil))))))))
      (pss_one (ps_ret (pe_ix ix_list (pv 5) (pv 4) (fun _ _ => rfl)))))), ?_⟩
    generalize hf : ledL L tb u = fn at q ⊢
    have inn : ∀ k, 0 ≤ itL fn st k ∧ itL fn st k < n := fun k => hf ▸ it_in ok ⟨s0, s1⟩ hc k
    refine ⟨_, rfl, (by show 1 ≤ sizeLine; decide), fun M hM => ?_⟩
    refine fun D hD => ⟨_, rfl, upd_same, [(Sum.inl st, .int 0)], rfl, (by show 1 ≤ 15; decide), ?_⟩
    rw [upd_upd]
    have nM : M ≠ D := fun z => by rw [z] at hM; rw [← z, upd_same] at hD; cases hD
    have nD : H D = none := (same_upd hM).free hD
    refine while_by (fun σ H2 => ∃ (k : Nat) (x7 x8 : Option V), (metL fn st (k + 1)).Nodup ∧ Same H H2 ∧ H2 M = some (.lst ((metL fn st (k + 1)).map V.int)) ∧ (∃ kvs, H2 D = some (.dK kvs) ∧ NumOk fn st (k + 1) kvs) ∧ (k : Int) ≤ tm ∧
      σ = [some (.str (tx L)), some (.ref t), some (.str (tx u)), some (.int st), some (.int tm), some (.ref M), some (.ref D), x7, x8]) (fun _ H2 => tm.toNat + 1 - (match H2 M with | some (.lst xs) => xs.length | _ => 0)) ?_ ?_ ?_
    · refine ⟨0, none, none, (List.nodup_cons.mpr ⟨List.not_mem_nil, List.nodup_nil⟩), same_two (same_upd hM) hD, ?_, ⟨_, upd_same, ⟨Nat.le_refl _, fun i hi => ?_, fun x hx => ?_⟩⟩, ht0, rfl⟩
      · rw [upd_ne nM, upd_same] <;> rfl
      · obtain rfl : i = 0 := by omega
        show valV [((Sum.inl st : Key), V.int 0)] (Sum.inl st : Key) = _
        unfold valV
        rw [List.find?_cons, show decide ((((Sum.inl st : Key), V.int 0) : Key × V).1 = (Sum.inl st : Key)) = true from decide_eq_true rfl] <;> rfl
      · refine (val_other (k1 := (Sum.inl st : Key)) (r := []) (decide_eq_false fun z => hx ?_)).trans rfl
        exact List.mem_singleton.mpr (Sum.inl.inj z).symm
    · rintro σ H2 ⟨k, x7, x8, nd, s2, hm, ⟨kvs, hd, num⟩, hk, rfl⟩
      refine ⟨_, rfl, M, _, rfl, .inl (SqL.of hm), _, rfl, _, _, rfl, rfl, _, rfl, ?_⟩
      rw [met_len]
      refine ite2 (fun hle => ?_) (fun hgt => ?_)
      · have hle : ((k + 1 : Nat) : Int) ≤ tm := of_decide_eq_true hle
        have few := met_few inn nd
        have at0 : atI ((metL fn st (k + 1)).map V.int) (-1) = some (.int (itL fn st k)) := by
          unfold atI ixN
          rw [met_len, if_neg (by decide), if_pos (by omega)]
          show ((metL fn st (k + 1)).map V.int)[(-1 + ((k + 1 : Nat) : Int)).toNat]? = _
          rw [show (-1 + ((k + 1 : Nat) : Int)).toNat = k by omega]
          exact met_at (Nat.lt_succ_self k)
        refine ⟨_, rfl, _, rfl, _, rfl, _, rfl, _, rfl, M, _, _, _, rfl, rfl, SqL.of hm, at0, t, L, u, tb, n, itL fn st k, rfl, hT.same s2, hL, ok, hn, (inn k).1, (inn k).2, hu, hc, fun H3 s3 => ?_⟩
        rw [hf, show fn (itL fn st k) = itL fn st (k + 1) from rfl]
        have hm3 := s3 _ _ hm
        have hd3 := s3 _ _ hd
        refine ⟨_, rfl, _, rfl, D, _, rfl, DGet.k (k := Sum.inl (itL fn st (k + 1))) hd3, _, rfl, ?_⟩
        by_cases hin : itL fn st (k + 1) ∈ metL fn st (k + 1)
        · obtain ⟨i, hi, e⟩ := List.mem_map.mp hin
          have hi := List.mem_range.mp hi
          have ev := num.at_ i hi
          rw [e] at ev
          rw [ev]
          refine iteT ?_
          refine ⟨_, rfl, _, rfl, D, _, rfl, ev ▸ DGet.k (k := Sum.inl (itL fn st (k + 1))) hd3, ?_⟩
          have atE : atI ((metL fn st (k + 1)).map V.int) ((i : Int) + (tm - (i : Int)) % (((k + 1 : Nat) : Int) - (i : Int))) = some (.int (itL fn st tm.toNat)) := by
            have e1 : tm - (i : Int) = ((tm.toNat - i : Nat) : Int) := by omega
            have e2 : ((k + 1 : Nat) : Int) - (i : Int) = ((k + 1 - i : Nat) : Int) := by omega
            rw [e1, e2, ← Int.natCast_emod, ← Int.natCast_add]
            have lt := Nat.mod_lt (tm.toNat - i) (show k + 1 - i > 0 by omega)
            have e3 := it_ring (a := i) (m := k + 1) hi e.symm (tm.toNat - i)
            rw [show i + (tm.toNat - i) = tm.toNat by omega] at e3
            rw [e3]
            exact atI_nat (met_at (by omega))
          refine ⟨_, rfl, _, rfl, _, rfl, _, rfl, _, _, rfl, rfl, _, rfl, M, _, rfl, .inl (SqL.of hm3), _, rfl, _, _, rfl, rfl, _, _, rfl, rfl, (by rw [met_len]; show (0 : Int) < _; omega), _, _, rfl, rfl, M, _, _, _, rfl, rfl, SqL.of hm3, (by rw [met_len]; exact atE), q _ (s2.trans s3)⟩
        · have ev := num.no _ hin
          rw [ev]
          refine iteF ?_
          refine ⟨_, rfl, M, _, rfl, .inl (SqL.of hm3), _, rfl, _, rfl, D, _, rfl, DPut.k (k := Sum.inl (itL fn st (k + 1))) hd3 (by have := num.len; rw [sizeLine_eq]; omega), ?_⟩
          rw [met_len]
          have hmd : (upd H3 D (.dK (putK kvs (Sum.inl (itL fn st (k + 1)) : Key) (.int ((k + 1 : Nat) : Int))))) M = some (.lst ((metL fn st (k + 1)).map V.int)) := by rw [upd_ne nM]; exact hm3
          refine ⟨_, rfl, .inl ⟨rfl, _, SqL.of hmd⟩, _, rfl, M, _, _, rfl, rfl, hmd, by rw [met_len, sizeLine_eq]; omega, ?_⟩
          refine ⟨⟨k + 1, some (.int (itL fn st (k + 1))), x8, ?_, ?_, ?_, ⟨_, by rw [upd_ne (Ne.symm nM), upd_same], num.next hin⟩, by omega, rfl⟩, ?_⟩
          · rw [met_snoc]
            exact List.nodup_append.mpr ⟨nd, (List.nodup_cons.mpr ⟨List.not_mem_nil, List.nodup_nil⟩), fun a ha b hb z => hin (by rw [List.mem_singleton.mp hb] at z; exact z ▸ ha)⟩
          · exact same_at (same_at (s2.trans s3) nD) hM
          · rw [upd_same, met_snoc _ _ (k + 1), List.map_append] <;> rfl
          · show tm.toNat + 1 - (match (upd _ M _) M with | some (.lst xs) => xs.length | _ => 0) < tm.toNat + 1 - (match H2 M with | some (.lst xs) => xs.length | _ => 0)
            rw [upd_same, hm]
            show _ - ((metL fn st (k + 1)).map V.int ++ [_]).length < _ - ((metL fn st (k + 1)).map V.int).length
            rw [List.length_append, met_len]
            show _ - (k + 1 + 1) < _
            omega
      · have hgt : ¬ (((k + 1 : Nat) : Int) ≤ tm) := fun z => hgt (decide_eq_true z)
        have e1 : tm = ((k : Nat) : Int) := by omega
        refine ⟨_, rfl, _, rfl, M, _, _, _, rfl, rfl, SqL.of hm, ?_, q _ s2⟩
        rw [e1]
        exact atI_nat (met_at (Nat.lt_succ_self k))
    · exact fun σ H Q Q' hm ⟨v, hv, M', ys, e, hs, w', hw, i, j, a, b, k, hk, q⟩ => ⟨v, hv, M', ys, e, hs, w', hw, i, j, a, b, k, hk, hm _ _ q⟩
end
end WK
set_option Elab.async false
set_option linter.all false
set_option maxRecDepth 100000
set_option maxHeartbeats 4000000
namespace MKW
open PySem PySem.Spec PyProof.Rows L2
def tMethN (C : Addr) (m : Str) (n q : Nat) (sp : Sp) (gV : List V → List V → List V) (E : XK) (ta : TE) (t tk : TA) : TE := fun σ H Q => ta σ H fun x H1 => ∃ a dx fs, x = .ref a ∧ H1 a = some (.ins C dx fs) ∧ fs.lookup m = none ∧
  t σ H1 fun vs H2 => tk σ H2 fun zs H3 => vs.length + 1 = n ∧ zs.length = q ∧ sp (gV (x :: vs) zs) H3 Q E
theorem pe_methN {X : Cx} {CX : CXT} {k n : Nat} {f C : Addr} {fd : FuncData} {ps ks : List Str} {sp : Sp} {E : XK} {m : Str} {pos apos : Pos} {e o : Expr} {es : List Expr} {kws : List Keyword} {ta : TE} {t tk : TA} {g : List Value → List Value → List Value} {gV : List V → List V → List V} {pl : Sem Bool}
    (he : PE X o ta) (c : Cls X.K C) (hm : Meth X.K C m f) (F : FnOk X.prog X.w X.K X.mg X.base CX k f fd ps sp) (hr : Room k X.A) (hb : KBn X.K fd ps n ks g gV) (hx : Passes CX X E) (ha : PA X (e :: es) t) (hk : PK X kws tk)
    (h1 : ((backToKw pos (keywordEach kws X.env)).all fun x => x.1.isSome) = true := by rfl) (h2 : (backToKw pos (keywordEach kws X.env)).filterMap (·.1) = ks := by rfl)
    (hst : starEach (e :: es) X.env = (false, eval e X.env) :: starEach es X.env := by rfl) (hpl : (((backTo pos (starEach (e :: es) X.env)).any (·.1)) || ((backToKw pos (keywordEach kws X.env)).any fun x => x.1.isNone)) = false := by rfl)
    (ht : eval (.Call (.Attribute o m apos) (e :: es) kws pos) X.env = (do
      let ov ← eval o X.env
      standAt apos.atName
      let (f, first) ← holding [ov] (getMethod ov m pl)
      callWith pos f first (backTo pos (starEach (e :: es) X.env)) (backToKw pos (keywordEach kws X.env))) := by rfl) :
    PE X (.Call (.Attribute o m apos) (e :: es) kws pos) (tMethN C m n ks.length sp gV E ta t tk) := by
  refine ⟨fun pins s σ H Q I h => ?_⟩
  refine PySem.W.methodCall_KW (thn (he.run pins s σ H _ I h) fun u s1 ⟨x, H1, I1, rx, a, dx, fs, ex, ea, l, q⟩ => ?_) ht
  subst ex
  cases (rx : u = Value.ref a)
  refine getmeth_ok I1 ea c hm l ?_
  refine PySem.W.callWith_KW (h₀ := X.base) I.ok.mod.kin hm.kp h1 (thn (ha.run pos pins s1 σ H1 _ I1 q) fun us s2 ⟨vs, H2, I2, r, q2⟩ => thn (hk.run pos pins s2 σ H2 _ I2 q2) fun ws s3 ⟨zs, H3, I3, r3, l1, l2, q3⟩ => ⟨I3.kIn, ?_⟩) hpl hst
  rw [h2]
  exact run_fnN F hr hb hx I3 (.cons (show RelV (.ref a) (.ref a) from rfl) r) r3 l1 l2 q3
/-- a method that may raise, called in a try's body -/
def tMethE (C : Addr) (m : Str) (sp : Sp) (E : L2.St → XK) (ta : TE) (t : TA) : TE := fun σ H Q => ta σ H fun x H1 => ∃ a dx fs, x = .ref a ∧ H1 a = some (.ins C dx fs) ∧ fs.lookup m = none ∧ t σ H1 fun vs H2 => sp (x :: vs) H2 Q (E σ)
theorem pe_methE {X : Cx} {CX : CXT} {k : Nat} {f C : Addr} {fd : FuncData} {ps : List Str} {sp : Sp} {E : L2.St → XK} {m : Str} {pos apos : Pos} {e o : Expr} {es : List Expr} {ta : TE} {t : TA} {pl : Sem Bool}
    (he : PE X o ta) (c : Cls X.K C) (hm : Meth X.K C m f) (F : FnOk X.prog X.w X.K X.mg X.base CX k f fd ps sp) (hr : Room k X.A) (hb : L2.Binds X.K fd ps []) (hx : ∀ σ, PassesAt CX X σ (E σ)) (ha : PA X (e :: es) t)
    (hst : starEach (e :: es) X.env = (false, eval e X.env) :: starEach es X.env := by rfl) (hpl : (backTo pos (starEach es X.env)).any (·.1) = false := by rfl)
    (ht : eval (.Call (.Attribute o m apos) (e :: es) [] pos) X.env = (do
      let ov ← eval o X.env
      standAt apos.atName
      let (f, first) ← holding [ov] (getMethod ov m pl)
      callWith pos f first (backTo pos (starEach (e :: es) X.env)) (backToKw pos (keywordEach [] X.env))) := by rfl) :
    PE X (.Call (.Attribute o m apos) (e :: es) [] pos) (tMethE C m sp E ta t) := by
  refine ⟨fun pins s σ H Q I h => ?_⟩
  refine PySem.W.methodCall_KW (thn (he.run pins s σ H _ I h) fun u s1 ⟨x, H1, I1, rx, a, dx, fs, ex, ea, l, q⟩ => ?_) ht
  subst ex
  cases (rx : u = Value.ref a)
  refine getmeth_ok I1 ea c hm l ?_
  exact PySem.W.callWith_K (h₀ := X.base) I.ok.mod.kin hm.kp (thn (ha.run pos pins s1 σ H1 _ I1 q) fun us s2 ⟨vs, H2, I2, r, q2⟩ => ⟨I2.kIn, run_fnS F hr hb (hx σ) I2 (.cons (show RelV (.ref a) (.ref a) from rfl) r) q2⟩) hst hpl
end MKW
set_option Elab.async false
set_option linter.all false
set_option maxRecDepth 100000
set_option maxHeartbeats 8000000
namespace RM
open PySem L2 PyProof.Rows LCX K1 FV DP WK
open TX (sg sigs)
open PySem.W (Frag kitOne)
abbrev sBPlace : Stmt := inClass (top 50) 10
abbrev sBAct : Stmt := inClass (top 50) 11
abbrev sBFirst : Stmt := inClass (top 50) 12
abbrev NPl : List Str := ["self", "word", "start", "times"]
def spPlace (C : Addr) : Sp := fun vs H Q _ => ∃ (o : Addr) (L u : W) (tb : List (List Int)) (n st tm : Int), vs = [.ref o, .str (tx u), .int st, .int tm] ∧ BoxAt C H o L tb ∧ Let L ∧ TabOk tb L.length n ∧ n ≤ 1000 ∧ 0 ≤ st ∧ st < n ∧ 0 ≤ tm ∧ tm ≤ 100000000000 ∧ u.length < 64 ∧ (∀ c ∈ u, c ∈ L) ∧ ∀ H', Same H H' → Q (.int (itL (ledL L tb u) st tm.toNat)) H'
def actL (L : W) (tb : List (List Int)) (u : W) : List Int := (List.range tb.length).map fun i => ledL L tb u (i : Nat)
def spAct (C : Addr) : Sp := fun vs H Q _ => ∃ (o : Addr) (L u : W) (tb : List (List Int)) (n : Int), vs = [.ref o, .str (tx u)] ∧ BoxAt C H o L tb ∧ Let L ∧ TabOk tb L.length n ∧ n ≤ 1000 ∧ u.length < 64 ∧ (∀ c ∈ u, c ∈ L) ∧ ∀ p H', H p = none → Same H H' → H' p = some (oTup (actL L tb u)) → Q (.ref p) H'
def firstV (L : W) (tb : List (List Int)) (p : Int) : V := match (wyP tb 0 tb.length).lookup p with
  | some u => .str (tx (wordL L u))
  | none => .non
def spFirst (C : Addr) : Sp := fun vs H Q _ => ∃ (o : Addr) (L : W) (tb : List (List Int)) (n p : Int), vs = [.ref o, .int p] ∧ BoxAt C H o L tb ∧ Let L ∧ TabOk tb L.length n ∧ n ≤ 1000 ∧ 0 ≤ p ∧ p < n ∧ ∀ H', Same H H' → Q (firstV L tb p) H'
theorem lookup_mem {ps : Wy} {a : Int} : (a ∈ ps.map (·.1) → ∃ u, ps.lookup a = some u ∧ (a, u) ∈ ps) ∧ (a ∉ ps.map (·.1) → ps.lookup a = none) := by
  induction ps with
  | nil => exact ⟨fun h => absurd h List.not_mem_nil, fun _ => rfl⟩
  | cons p ps ih =>
    obtain ⟨b, v⟩ := p
    rw [List.lookup_cons]
    by_cases e : a = b
    · subst e
      rw [show (a == a) = true from beq_self_eq_true a]
      exact ⟨fun _ => ⟨v, rfl, .head _⟩, fun h => absurd (.head _) h⟩
    · rw [show (a == b) = false from beq_eq_false_iff_ne.mpr e]
      refine ⟨fun h => ?_, fun h => ih.2 fun z => h (.tail _ z)⟩
      rcases List.mem_cons.mp h with z | z
      · exact absurd z e
      · obtain ⟨u, h1, h2⟩ := ih.1 z
        exact ⟨u, h1, .tail _ h2⟩
section
variable {P : Program} {w : World} {K : PySem.W.Frag} {mg : Str → Option Value} {base : Heap} {C cD fNW fNN fNO fL fO fW fA : Addr} {dNW dNN dNO dL dO dW dA : FuncData}
theorem scPl : FnScope NPl ["self", "word", "start", "times"] (defScope sBPlace) := ⟨rfl, rfl, rfl, by decide +kernel, rfl, by decide +kernel, by decide +kernel⟩
theorem scAc2 : FnScope ["self", "word", "start"] ["self", "word"] (defScope sBAct) := ⟨rfl, rfl, rfl, by decide +kernel, rfl, by decide +kernel, by decide +kernel⟩
theorem scFi : FnScope ["self", "place", "found"] ["self", "place"] (defScope sBFirst) := ⟨rfl, rfl, rfl, by decide +kernel, rfl, by decide +kernel, by decide +kernel⟩
theorem ok_place {f : Addr} {fd : FuncData} (F : FunD K "place" "Box.place" (defArgs sBPlace) (defBody sBPlace) (defScope sBPlace) [] [("times", .int 1)] f fd) (T : TN mg) (M : TBx K mg C cD) (AW : Fn K mg "need_word" sNeedWord ["word"] fNW dNW) (GW : FnOk P w K mg base CX0 3 fNW dNW ["word"] spNeedWord)
    (AN : Fn K mg "need_number" sNeedNum ["value", "least", "most"] fNN dNN) (GN : FnOk P w K mg base CX0 3 fNN dNN ["value", "least", "most"] spNeedNum) (AO : Fn K mg "need_over" sNeedOver ["letters", "word"] fNO dNO) (GO : FnOk P w K mg base CX0 3 fNO dNO ["letters", "word"] spNeedOver)
    (AL : Fn K mg "led_often" sOft ["letters", "table", "word", "start", "times"] fO dO) (GL : FnOk P w K mg base CX0 2 fO dO ["letters", "table", "word", "start", "times"] (spOft K)) (most : ∃ t, mg "MAX_TIMES" = some (.int 100000000000 t)) :
    FnOk P w K mg base CX0 4 f fd ["self", "word", "start", "times"] (spPlace C) := by
  obtain ⟨tm0, most⟩ := most
  refine F.ok scPl (fun vs H Q E h => ?_) (fun cdv A outer s H vs Q E hr h => ?_)
  · obtain ⟨o, L, u, tb, n, st, tm, rfl, _⟩ := h
    rfl
  · obtain ⟨o, L, u, tb, n, st, tm, rfl, ⟨dx, r, h1, ts, t1, t2⟩, hL, ok, n2, p0, p1, m0, m1, hu, hc, q⟩ := h
    have hr1 : Room 2 _ := hr.mono (by decide)
    refine ⟨_, PSs.nox (pss_cons (ps_expr (pe_call GW hr rfl AW.g AW.F.kp AW.b .nil pass0 (pa_cons (pv 1) pa_nil)))
      (pss_cons (ps_expr (pe_call GN hr rfl AN.g AN.F.kp AN.b .nil pass0 (pa_cons (pv 2) (pa_cons pe_int (pa_cons (pe_op op_sub (pe_callB call_len_seq (by rfl) T.len PySem.boot_len (pa_cons (pe_fld (pv 0) rfl) pa_nil)) pe_int) pa_nil)))))
      (pss_cons (ps_expr (pe_call GN hr rfl AN.g AN.F.kp AN.b .nil pass0 (pa_cons (pv 3) (pa_cons pe_int (pa_cons (pe_glob rfl most (show RelV (.int 100000000000) (.int 100000000000 tm0) from ⟨tm0, rfl⟩)) pa_nil)))))
      (pss_cons (ps_expr (pe_call GO hr rfl AO.g AO.F.kp AO.b .nil pass0 (pa_cons (pe_fld (pv 0) rfl) (pa_cons (pv 1) pa_nil))))
      (pss_one (ps_ret (pe_call GL hr1 rfl AL.g AL.F.kp AL.b .nil pass0 (pa_cons (pe_fld (pv 0) rfl) (pa_cons (pe_fld (pv 0) rfl) (pa_cons (pv 1) (pa_cons (pv 2) (pa_cons (pv 3) pa_nil))))))))))))
      , ?_⟩
    have tl : (ts.map V.ref).length = tb.length := by rw [List.length_map, t2.len]
    have hln := ok.len
    refine ⟨_, rfl, u, rfl, fun c hc' => hL.low c (hc c hc'), ?_⟩
    refine ⟨_, rfl, _, rfl, o, C, dx, _, _, rfl, h1, M.cl, M.nT, bfl_T, r, _, rfl, .inr (SqT.of t1), _, _, rfl, rfl, _, _, _, rfl, p0, by rw [tl]; omega, ?_⟩
    refine ⟨_, rfl, _, _, _, rfl, m0, m1, ?_⟩
    refine ⟨_, rfl, o, C, dx, _, _, rfl, h1, M.cl, M.nL, bfl_L, _, rfl, L, u, rfl, hu, hc, fun H1 s1 => ?_⟩
    have g1 := s1 _ _ h1
    exact ⟨_, rfl, o, C, dx, _, _, rfl, g1, M.cl, M.nL, bfl_L, _, rfl, o, C, dx, _, _, rfl, g1, M.cl, M.nT, bfl_T, _, rfl, _, rfl, _, rfl, r, L, u, tb, n, st, tm, rfl, (rows_tt ⟨ts, t1, t2⟩).same s1, hL, ok, n2, p0, p1, by omega, hc, m0, fun H2 s2 => q H2 (s1.trans s2)⟩
theorem ok_act {f : Addr} {fd : FuncData} (F : Fun K "action" "Box.action" sBAct f fd) (T : TN mg) (M : TBx K mg C cD) (AW : Fn K mg "need_word" sNeedWord ["word"] fNW dNW) (GW : FnOk P w K mg base CX0 3 fNW dNW ["word"] spNeedWord) (AO : Fn K mg "need_over" sNeedOver ["letters", "word"] fNO dNO) (GO : FnOk P w K mg base CX0 3 fNO dNO ["letters", "word"] spNeedOver)
    (AL : Fn K mg "led" sLed ["letters", "table", "word", "start"] fL dL) (GL : FnOk P w K mg base CX0 1 fL dL ["letters", "table", "word", "start"] (spLed K)) : FnOk P w K mg base CX0 4 f fd ["self", "word"] (spAct C) := by
  refine F.ok scAc2 (fun vs H Q E h => ?_) (fun cdv A outer s H vs Q E hr h => ?_)
  · obtain ⟨o, L, u, tb, n, rfl, _⟩ := h
    rfl
  · obtain ⟨o, L, u, tb, n, rfl, ⟨dx, r, h1, ts, t1, t2⟩, hL, ok, n2, hu, hc, q⟩ := h
    have hr1 : Room 1 _ := hr.mono (by decide)
    refine ⟨_, pss_cons (ps_expr (pe_call GW hr rfl AW.g AW.F.kp AW.b .nil pass0 (pa_cons (pv 1) pa_nil)))
      (pss_cons (ps_expr (pe_call GO hr rfl AO.g AO.F.kp AO.b .nil pass0 (pa_cons (pe_fld (pv 0) rfl) (pa_cons (pv 1) pa_nil))))
      (pss_one (ps_ret (pe_callTy call_tuple_of (by rfl) T.tuple (by decide +kernel) (pa_cons (pe_lc (own := [("start", 2)]) (g := gName 2) (tt := tYes) (te := tCall (spLed K) [] E0 (tCons (tFld K (tVar 0) "_letters") (tCons (tFld K (tVar 0) "_table") (tCons (tVar 1) (tCons (tVar 2) tNil))))) rfl scAc2.nd (pi_range1 rfl T.rng (pa_cons (pe_callB call_len_seq (by rfl) T.len PySem.boot_len (pa_cons (pe_fld (pv 0) rfl) pa_nil)) pa_nil))
        (blkOk_by (own := [("start", 2)]) (N := ["self", "word", "start"]) (sc := defScope sBAct) (by decide +kernel)) (fun _ _ _ _ _ => pg_name (i := 2) scAc2.nd rfl (Or.inl rfl)) (fun _ _ _ _ _ => pts_nil)
        (fun _ _ _ _ _ => pe_call (E := E0) GL hr1 rfl AL.g AL.F.kp AL.b .nil pass0 (pa_cons (pe_fld (pv 0) rfl) (pa_cons (pe_fld (pv 0) rfl) (pa_cons (pv 1) (pa_cons (pv 2) pa_nil)))))) pa_nil))))), ?_⟩
    have tl : (ts.map V.ref).length = tb.length := by rw [List.length_map, t2.len]
    have hln := ok.len
    refine ⟨_, rfl, u, rfl, fun c hc' => hL.low c (hc c hc'), ?_⟩
    refine ⟨_, rfl, o, C, dx, _, _, rfl, h1, M.cl, M.nL, bfl_L, _, rfl, L, u, rfl, hu, hc, fun H1 s1 => ?_⟩
    have g1 := s1 _ _ h1
    refine ⟨_, rfl, o, C, dx, _, _, rfl, g1, M.cl, M.nT, bfl_T, r, _, rfl, .inr (SqT.of (s1 _ _ t1)), _, rfl, by rw [tl]; omega, by rw [tl]; omega, fun D hD => ?_⟩
    rw [tl]
    refine lc_range (lo := 0) (n := tb.length) (fun i H2 => Same H1 H2 ∧ H2 D = some (.lst (((List.range i).map fun i => ledL L tb u (i : Nat)).map V.int))) ⟨same_upd hD, upd_same⟩ ?_ ?_
    · rintro i H2 hi ⟨s2, hd⟩
      have g2 := s2 _ _ g1
      have s12 := s1.trans s2
      refine ⟨rfl, _, rfl, o, C, dx, _, _, rfl, g2, M.cl, M.nL, bfl_L, _, rfl, o, C, dx, _, _, rfl, g2, M.cl, M.nT, bfl_T, _, rfl, _, rfl, r, L, u, tb, n, _, rfl, (rows_tt ⟨ts, t1, t2⟩).same s12, hL, ok, n2, by omega, by omega, by omega, hc, fun H3 s3 => ?_⟩
      refine ⟨_, s3 _ _ hd, ?_, same_at (s2.trans s3) hD, ?_⟩
      · rw [List.length_map, List.length_map, List.length_range, sizeLine_eq]
        omega
      · rw [upd_same, List.range_succ, List.map_append, List.map_append, show (0 : Int) + (i : Int) = ((i : Nat) : Int) by omega] <;> rfl
    · rintro H2 ⟨s2, hd⟩
      refine ⟨D, _, rfl, .inl ⟨SqL.of hd, fun p hp => ?_⟩⟩
      have s12 := s1.trans s2
      exact q p _ (s12.free hp) (s12.trans (same_upd hp)) upd_same
theorem ok_first {f : Addr} {fd : FuncData} (F : Fun K "first_word" "Box.first_word" sBFirst f fd) (T : TN mg) (M : TBx K mg C cD) (AN : Fn K mg "need_number" sNeedNum ["value", "least", "most"] fNN dNN) (GN : FnOk P w K mg base CX0 3 fNN dNN ["value", "least", "most"] spNeedNum)
    (AW : Fn K mg "ways" sWays ["table", "start"] fW dW) (GW : FnOk P w K mg base CX0 1 fW dW ["table", "start"] (spWaysV K)) (AA : Fn K mg "word_along" sAlong ["letters", "found", "row"] fA dA) (GA : FnOk P w K mg base CX0 1 fA dA ["letters", "found", "row"] spAlong) :
    FnOk P w K mg base CX0 4 f fd ["self", "place"] (spFirst C) := by
  refine F.ok scFi (fun vs H Q E h => ?_) (fun cdv A outer s H vs Q E hr h => ?_)
  · obtain ⟨o, L, tb, n, p, rfl, _⟩ := h
    rfl
  · obtain ⟨o, L, tb, n, p, rfl, ⟨dx, r, h1, ts, t1, t2⟩, hL, ok, n2, p0, p1, q⟩ := h
    have hub := hu_of hr
    have hr1 : Room 1 _ := hr.mono (by decide)
    refine ⟨_, pss_cons (ps_expr (pe_call (E := E0) GN hr rfl AN.g AN.F.kp AN.b .nil pass0 (pa_cons (pv 1) (pa_cons pe_int (pa_cons (pe_op op_sub (pe_callB call_len_seq (by rfl) T.len PySem.boot_len (pa_cons (pe_fld (pv 0) rfl) pa_nil)) pe_int) pa_nil)))))
      (pss_cons (ps_set (i := 2) scFi.nd rfl (Or.inl rfl) (pe_call (E := E0) GW hr1 rfl AW.g AW.F.kp AW.b .nil pass0 (pa_cons (pe_fld (pv 0) rfl) (pa_cons pe_int pa_nil))))
      (pss_one (ps_ret (pe_ifExp (pt_cmp (pc_din hub (pv 1) (pv 2))) (pe_call (E := E0) GA hr1 rfl AA.g AA.F.kp AA.b .nil pass0 (pa_cons (pe_fld (pv 0) rfl) (pa_cons (pv 2) (pa_cons (pv 1) pa_nil)))) pe_non)))), ?_⟩
    have tl : (ts.map V.ref).length = tb.length := by rw [List.length_map, t2.len]
    have hln := ok.len
    refine ⟨_, rfl, _, rfl, o, C, dx, _, _, rfl, h1, M.cl, M.nT, bfl_T, r, _, rfl, .inr (SqT.of t1), _, _, rfl, rfl, _, _, _, rfl, p0, by rw [tl]; omega, ?_⟩
    refine ⟨_, rfl, o, C, dx, _, _, rfl, h1, M.cl, M.nT, bfl_T, r, tb, L.length, n, 0, rfl, rows_tt ⟨ts, t1, t2⟩, ok, n2, by have := hL.few; omega, Int.le_refl _, by omega, fun D kvs H1 nD s1 hd keys few wo => ?_⟩
    refine ⟨_, rfl, _, rfl, D, _, rfl, DGet.k (k := (Sum.inl p : Key)) hd, _, rfl, ?_⟩
    have pm := wyP_fst (tb := tb) (st := 0) tb.length
    have q1 := q
    unfold firstV at q1
    by_cases hin : p ∈ wyA tb 0 tb.length
    · obtain ⟨v, hv⟩ := Option.ne_none_iff_exists'.mp ((keys.val p).mpr hin)
      rw [hv]
      refine iteT ?_
      obtain ⟨u, e1, e2⟩ := lookup_mem.1 (show p ∈ (wyP tb 0 tb.length).map (·.1) by rw [pm]; exact hin)
      rw [e1] at q1
      have lf := few.len
      have ll : (wyP tb 0 tb.length).length = (wyA tb 0 tb.length).length := by rw [← pm, List.length_map]
      refine ⟨_, rfl, o, C, dx, _, _, rfl, s1 _ _ h1, M.cl, M.nL, bfl_L, _, rfl, _, rfl, L, D, p, kvs, _, u, rfl, hL.few, hd, wo, e2, ?_, fun H2 s2 => q1 H2 (s1.trans s2)⟩
      rw [ll]
      rcases lf with z | z
      · omega
      · rw [z]
        exact Nat.zero_le _
    · have hv : valV kvs (Sum.inl p : Key) = none := Classical.byContradiction fun z => hin ((keys.val p).mp z)
      rw [hv]
      refine iteF ?_
      rw [lookup_mem.2 (show p ∉ (wyP tb 0 tb.length).map (·.1) by rw [pm]; exact hin)] at q1
      exact q1 H1 s1
end
end RM
set_option Elab.async false
set_option linter.all false
set_option maxRecDepth 100000
set_option maxHeartbeats 8000000
namespace RM
open PySem L2 PyProof.Rows LCX K1 FV DP WK
open TX (sg sigs)
open PySem.W (Frag kitOne)
abbrev sLFirsts : Stmt := top 65
abbrev sLActOf : Stmt := top 66
abbrev NLf : List Str := ["_law_table_here", "_law_letters_here", "_law_found", "_law_at", "_law_place", "_law_letter", "_law_later"]
/-- the words of the first ways -/
def VOk (L : W) (kvs : List (Key × V)) (ps : Wy) : Prop := ∀ a u, (a, u) ∈ ps → valV kvs (Sum.inl a : Key) = some (.str (tx (wordL L u)))
theorem VOk.put {L : W} {kvs : List (Key × V)} {ps : Wy} {y : Int} {u : List Nat} (h : VOk L kvs ps) (hy : y ∉ ps.map (·.1)) : VOk L (putK kvs (Sum.inl y : Key) (.str (tx (wordL L u)))) (ps ++ [(y, u)]) := fun a v hm => by
  rw [valV_put]
  rcases List.mem_append.mp hm with z | z
  · rw [if_neg fun e => hy (by rw [← Sum.inl.inj e]; exact List.mem_map_of_mem (f := (·.1)) z)]
    exact h a v z
  · cases List.mem_singleton.mp z
    rw [if_pos rfl]
theorem foldP_len {u : List Nat} {m : Nat} (hu : u.length + 1 ≤ m) : ∀ {l : List (Int × Nat)} {o : Wy}, (∀ p ∈ o, p.2.length ≤ m) → ∀ p ∈ l.foldl (addP u) o, p.2.length ≤ m
  | [], _, h => h
  | q :: l, o, h => foldP_len hu (l := l) (o := addP u o q) fun p hp => by
    unfold addP at hp
    by_cases e : q.1 ∈ o.map (·.1)
    · rw [if_pos e] at hp
      exact h p hp
    · rw [if_neg e] at hp
      rcases List.mem_append.mp hp with z | z
      · exact h p z
      · rw [List.mem_singleton.mp z]
        show (u ++ [q.2]).length ≤ m
        rw [List.length_append]
        exact hu
theorem wyP_len {tb : List (List Int)} {st : Int} : ∀ j, ∀ p ∈ wyP tb st j, p.2.length ≤ j
  | 0, p, hp => by
    rw [List.mem_singleton.mp hp]
    exact Nat.le_refl _
  | j + 1, p, hp => by
    have ih := wyP_len (tb := tb) (st := st) j
    cases hq : (wyP tb st j)[j]? with
    | none =>
      have e : wyP tb st (j + 1) = wyP tb st j := wyP_stop (List.getElem?_eq_none_iff.mp hq) 1
      rw [e] at hp
      exact Nat.le_succ_of_le (ih p hp)
    | some q =>
      obtain ⟨r, u⟩ := q
      rw [wyP_at hq] at hp
      have hu : u.length ≤ j := ih _ (List.mem_of_getElem? hq)
      exact foldP_len (m := j + 1) (by omega) (fun p hp => Nat.le_succ_of_le (ih p hp)) p hp
theorem word_snoc {L : W} {u : List Nat} {i : Nat} {c : Nat} (h : L[i]? = some c) : wordL L (u ++ [i]) = wordL L u ++ [c] := by
  unfold wordL
  rw [List.map_append]
  show _ ++ [L.getD i 0] = _
  rw [List.getD_eq_getElem?_getD, h] <;> rfl
def spLFirsts : Sp := fun vs H Q _ => ∃ (l : Addr) (L : W) (tb : List (List Int)) (n : Int), vs = [.ref l, .str (tx L)] ∧ PTab H l tb ∧ Let L ∧ TabOk tb L.length n ∧ 1 ≤ n ∧ n ≤ 1000 ∧
  ∀ D kvs H', H D = none → Same H H' → H' D = some (.dK kvs) → Keys kvs (wyA tb 0 tb.length) → VOk L kvs (wyP tb 0 tb.length) → Q (.ref D) H'
def spLActOf : Sp := fun vs H Q _ => ∃ (l : Addr) (L u : W) (tb : List (List Int)) (n : Int), vs = [.ref l, .str (tx L), .str (tx u)] ∧ PTab H l tb ∧ Let L ∧ TabOk tb L.length n ∧ n ≤ 1000 ∧ (∀ c ∈ u, c ∈ L) ∧ ∀ p H', H p = none → Same H H' → H' p = some (oTup (actL L tb u)) → Q (.ref p) H'
def atOf (σ : L2.St) : Nat := match σ[3]? with
  | some (some (V.int j)) => j.toNat
  | _ => 0
section
variable {P : Program} {w : World} {K : PySem.W.Frag} {mg : Str → Option Value} {base : Heap} {fL : Addr} {dL : FuncData}
theorem scLF : FnScope NLf ["_law_table_here", "_law_letters_here"] (defScope sLFirsts) := ⟨rfl, rfl, rfl, by decide +kernel, rfl, by decide +kernel, by decide +kernel⟩
theorem scLO : FnScope ["_law_table_here", "_law_letters_here", "_law_word_here", "_law_start"] ["_law_table_here", "_law_letters_here", "_law_word_here"] (defScope sLActOf) := ⟨rfl, rfl, rfl, by decide +kernel, rfl, by decide +kernel, by decide +kernel⟩
theorem ok_lactof {f : Addr} {fd : FuncData} (F : Fun K "_law_action_of" "_law_action_of" sLActOf f fd) (T : TN mg) (AL : Fn K mg "_law_led" sLLed ["_law_table_here", "_law_letters_here", "_law_word_here", "_law_start"] fL dL) (GL : FnOk P w K mg base CX0 1 fL dL ["_law_table_here", "_law_letters_here", "_law_word_here", "_law_start"] spLLed) :
    FnOk P w K mg base CX0 2 f fd ["_law_table_here", "_law_letters_here", "_law_word_here"] spLActOf := by
  refine F.ok scLO (fun vs H Q E h => ?_) (fun cdv A outer s H vs Q E hr h => ?_)
  · obtain ⟨l, L, u, tb, n, rfl, _⟩ := h
    rfl
  · obtain ⟨l, L, u, tb, n, rfl, ⟨as, h1, h2⟩, hL, ok, n2, hc, q⟩ := h
    refine ⟨_, pss_one (ps_ret (pe_callTy call_tuple_of (by rfl) T.tuple (by decide +kernel) (pa_cons (pe_lc (own := [("_law_start", 3)]) (g := gName 3) (tt := tYes) (te := tCall spLLed [] E0 (tCons (tVar 0) (tCons (tVar 1) (tCons (tVar 2) (tCons (tVar 3) tNil))))) rfl scLO.nd
        (pi_range1 rfl T.rng (pa_cons (pe_callB call_len_seq (by rfl) T.len PySem.boot_len (pa_cons (pv 0) pa_nil)) pa_nil))
        (blkOk_by (own := [("_law_start", 3)]) (N := ["_law_table_here", "_law_letters_here", "_law_word_here", "_law_start"]) (sc := defScope sLActOf) (by decide +kernel)) (fun _ _ _ _ _ => pg_name (i := 3) scLO.nd rfl (Or.inl rfl)) (fun _ _ _ _ _ => pts_nil)
        (fun _ _ _ _ _ => pe_call (E := E0) GL hr rfl AL.g AL.F.kp AL.b .nil pass0 (pa_cons (pv 0) (pa_cons (pv 1) (pa_cons (pv 2) (pa_cons (pv 3) pa_nil)))))) pa_nil))), ?_⟩
    have tl : (as.map V.ref).length = tb.length := by rw [List.length_map, h2.len]
    have hln := ok.len
    refine ⟨_, rfl, l, _, rfl, .inl (SqL.of h1), _, rfl, by rw [tl]; omega, by rw [tl]; omega, fun D hD => ?_⟩
    rw [tl]
    refine lc_range (lo := 0) (n := tb.length) (fun i H2 => Same H H2 ∧ H2 D = some (.lst (((List.range i).map fun i => ledL L tb u (i : Nat)).map V.int))) ⟨same_upd hD, upd_same⟩ ?_ ?_
    · rintro i H2 hi ⟨s2, hd⟩
      refine ⟨rfl, _, rfl, _, rfl, _, rfl, _, rfl, l, L, u, tb, n, _, rfl, ⟨as, s2 _ _ h1, objs_tup h2 (Same.tup' s2)⟩, hL, ok, by omega, by omega, hc, ?_⟩
      refine ⟨_, hd, ?_, same_at s2 hD, ?_⟩
      · rw [List.length_map, List.length_map, List.length_range, sizeLine_eq]
        omega
      · rw [upd_same, List.range_succ, List.map_append, List.map_append, show (0 : Int) + (i : Int) = ((i : Nat) : Int) by omega] <;> rfl
    · rintro H2 ⟨s2, hd⟩
      refine ⟨D, _, rfl, .inl ⟨SqL.of hd, fun p hp => ?_⟩⟩
      exact q p _ (s2.free hp) (s2.trans (same_upd hp)) upd_same
theorem ok_lfirsts {f : Addr} {fd : FuncData} (F : Fun K "_law_firsts" "_law_firsts" sLFirsts f fd) (T : TN mg) : FnOk P w K mg base CX0 1 f fd ["_law_table_here", "_law_letters_here"] spLFirsts := by
  refine F.ok scLF (fun vs H Q E h => ?_) (fun cdv A outer s H vs Q E hr h => ?_)
  · obtain ⟨l, L, tb, n, rfl, _⟩ := h
    rfl
  · obtain ⟨l, L, tb, n, rfl, ⟨as, h1, h2⟩, hL, ok, n1, n2, q⟩ := h
    have hub := hu_of hr
    refine ⟨_, pss_cons (ps_par (i := 2) (j := 3) (by rfl) scLF.nd rfl rfl (by decide) rfl rfl (pa_cons (pe_disp1 (Nat.lt_of_succ_lt hub) pe_int pe_str) (pa_cons pe_int pa_nil)) (by rfl))
      (pss_cons (ps_while PassesOwn.never (pt_cmpR op_lt (pv 3) (pe_callB call_lenD (by rfl) T.len PySem.boot_len (pa_cons (pv 2) pa_nil)) (nomark _))
        (pss_cons (ps_set (i := 4) scLF.nd rfl (Or.inl rfl) (pe_ix ix_list (pe_callTy (call_listD rfl) (by rfl) T.list (by decide +kernel) (pa_cons (pv 2) pa_nil)) (pv 3) (fun _ _ => rfl)))
        (pss_cons (ps_for PassesOwn.never rfl (ZPT.pi_zipST rfl T.zip (pa_cons (pv 1) (pa_cons (pe_ix ix_list (pv 0) (pv 4) (fun _ _ => rfl)) pa_nil))) (pg_tup (by rfl) (pgs_cons (pg_name (i := 5) scLF.nd rfl (Or.inl rfl)) (pgs_cons (pg_name (i := 6) scLF.nd rfl (Or.inl rfl)) pgs_nil)))
          (pss_one (ps_if (pt_cmp (pc_dnotin hub (pv 6) (pv 2))) (pss_one (ps_dput hub (pv 2) (pv 6) (pe_op op_add_str (pe_dget hub (pv 2) (pv 4) (fun _ _ => rfl)) (pv 5)) rfl)) pss_nil)))
        (pss_one (ps_set (i := 3) scLF.nd rfl (Or.inl rfl) (pe_op op_add (pv 3) pe_int))))))
      (pss_one (ps_ret (pv 2)))), ?_⟩
    have hln := ok.len
    have tl : (as.map V.ref).length = tb.length := by rw [List.length_map, h2.len]
    refine ⟨.dK [], .inl rfl, fun D hD => ⟨_, DPut.k (kvs := []) (k := (Sum.inl 0 : Key)) upd_same (by show 0 < sizeLine; decide), _, _, rfl, ?_⟩⟩
    rw [upd_upd]
    refine while_by (fun σ H2 => ∃ (j : Nat) (kvs : List (Key × V)) (x4 x5 x6 : Option V), Same H H2 ∧ H2 D = some (.dK kvs) ∧ Keys kvs (wyA tb 0 j) ∧ VOk L kvs (wyP tb 0 j) ∧ Few n (wyA tb 0 j) ∧ j ≤ (wyA tb 0 j).length ∧
      σ = [some (.ref l), some (.str (tx L)), some (.ref D), some (.int (j : Nat)), x4, x5, x6]) (fun σ _ => n.toNat - atOf σ) ?_ ?_ ?_
    · refine ⟨0, _, none, none, none, same_upd hD, upd_same, rfl, fun a u hm => ?_, ⟨List.nodup_cons.mpr ⟨List.not_mem_nil, List.nodup_nil⟩, fun a ha => ?_⟩, Nat.zero_le _, rfl⟩
      · cases List.mem_singleton.mp hm
        rw [valV_put, if_pos rfl] <;> rfl
      · rw [List.mem_singleton.mp ha]
        omega
    · rintro σ H2 ⟨j, kvs, x4, x5, x6, s2, hd, keys, vo, few, hle, rfl⟩
      have hlen : ((wyA tb 0 j).length : Int) ≤ n := few.len.elim id fun z => by rw [z]; show (0 : Int) ≤ n; omega
      refine ⟨_, rfl, _, rfl, D, kvs, rfl, hd, _, _, rfl, rfl, _, rfl, ?_⟩
      rw [keys.len]
      refine ite2 (fun hlt => ?_) (fun hge => ?_)
      · have hlt : ((j : Nat) : Int) < (((wyA tb 0 j).length : Nat) : Int) := of_decide_eq_true hlt
        have hlt : j < (wyA tb 0 j).length := by omega
        obtain ⟨r, hr2⟩ : ∃ r, (wyA tb 0 j)[j]? = some r := ⟨_, List.getElem?_eq_getElem hlt⟩
        have hrin := few.in_ r (List.mem_of_getElem? hr2)
        have hstep := wyA_at hr2
        obtain ⟨u0, hu0⟩ : ∃ u0, (wyP tb 0 j)[j]? = some (r, u0) := by
          rw [← wyP_fst, List.getElem?_map] at hr2
          cases hq : (wyP tb 0 j)[j]? with
          | none => rw [hq] at hr2; cases hr2
          | some p =>
            rw [hq] at hr2
            obtain ⟨x, u⟩ := p
            cases hr2
            exact ⟨u, rfl⟩
        have hstepP := wyP_at hu0
        have pm := wyP_fst (tb := tb) (st := 0) j
        have ul : u0.length ≤ j := wyP_len j _ (List.mem_of_getElem? hu0)
        have hrl : r.toNat < tb.length := by omega
        obtain ⟨a, e1, e2⟩ := h2.get hrl
        have at1 : atI (as.map V.ref) r = some (.ref a) := by
          have e3 : r = ((r.toNat : Nat) : Int) := by omega
          rw [e3]
          exact atI_nat (by rw [List.getElem?_map, e1] <;> rfl)
        have hrow : tb.getD r.toNat [] ∈ tb := by
          rw [List.getD_eq_getElem?_getD, List.getElem?_eq_getElem hrl]
          exact List.getElem_mem hrl
        obtain ⟨rl, rb⟩ := ok.row _ hrow
        generalize tb.getD r.toNat [] = row at hstep hstepP e2 rl rb
        have kl : (kvs.map fun kv => kV kv.1) = (wyA tb 0 j).map V.int := by
          have : (kvs.map fun kv => kV kv.1) = (kvs.map (·.1)).map kV := by rw [List.map_map] <;> rfl
          rw [this, show kvs.map (·.1) = _ from keys, List.map_map] <;> rfl
        generalize hks : wyA tb 0 j = o at hr2 hstep hlen hlt hle keys few pm kl
        generalize wyP tb 0 j = ps at hu0 hstepP pm vo
        refine ⟨_, rfl, D, kvs, rfl, .inl hd, fun p hp => ?_⟩
        rw [kl]
        have sp1 : Same H2 (upd H2 p (.lst (o.map V.int))) := same_upd hp
        refine ⟨_, rfl, p, _, _, _, rfl, rfl, SqL.of upd_same, atI_nat (by rw [List.getElem?_map, hr2] <;> rfl), ?_⟩
        have hdp := sp1 _ _ hd
        have s2p := s2.trans sp1
        generalize upd H2 p (.lst (o.map V.int)) = HP at sp1 hdp s2p
        have hl1 := s2p _ _ h1
        have ea : HP a = some (oTup row) := s2p _ _ e2
        refine ⟨_, rfl, _, rfl, _, rfl, l, _, _, _, rfl, rfl, SqL.of hl1, at1, _, a, _, rfl, SqT.of ea, ?_⟩
        have naD : a ≠ D := fun z => by rw [z, hdp] at ea; cases ea
        have hz : (tx L).cps.size = (row.map V.int).length := by rw [size_tx, List.length_map, rl]
        refine for_it (ZPT.walk_st hz) (fun i σ H3 => ∃ (kvs : List (Key × V)) (x5 x6 : Option V), Same H H3 ∧ H3 a = some (oTup row) ∧ H3 D = some (.dK kvs) ∧ Keys kvs ((row.take i).foldl addN o) ∧ VOk L kvs (((row.take i).zipIdx).foldl (addP u0) ps) ∧ Few n ((row.take i).foldl addN o) ∧
          σ = [some (.ref l), some (.str (tx L)), some (.ref D), some (.int (j : Nat)), some (.int r), x5, x6]) ?_ (fun i σ H3 _ ⟨_, _, _, _, h, _⟩ => SqT.of h) ?_ ?_
        · exact ⟨kvs, x5, x6, s2p, ea, hdp, keys, vo, few, rfl⟩
        · rintro i x σ H3 H4 hi ⟨kvs, x5, x6, s3, ha3, hd3, keys3, vo3, few3, rfl⟩ ⟨T2, y, z, rfl, hT2, rfl, hy, hz2⟩
          rw [size_tx] at hi
          have hir : i < row.length := by omega
          have hLi : L[i]? = some L[i] := List.getElem?_eq_getElem hi
          have hy' : y = .str (sg L[i]) := by
            have : (tx L).cps[i]? = some L[i] := by rw [← Array.getElem?_toList, tx_list, hLi]
            have hy2 : Option.map (fun c => V.str ⟨#[c]⟩) ((tx L).cps[i]?) = some y := hy
            rw [this] at hy2
            exact (Option.some.inj hy2).symm
          have hz' : z = .int row[i] := by
            have hz3 : (row.map V.int)[i]? = some z := hz2
            rw [List.getElem?_map, List.getElem?_eq_getElem hir] at hz3
            exact (Option.some.inj hz3).symm
          subst hy'
          subst hz'
          have yin := rb row[i] (List.getElem_mem hir)
          have tk : (row.take (i + 1)).foldl addN o = addN ((row.take i).foldl addN o) row[i] := by
            rw [List.take_add_one, List.getElem?_eq_getElem hir, List.foldl_append] <;> rfl
          have tkP : ((row.take (i + 1)).zipIdx).foldl (addP u0) ps = addP u0 (((row.take i).zipIdx).foldl (addP u0) ps) (row[i], i) := by
            have il : (row.take i).length = i := by rw [List.length_take]; omega
            rw [List.take_add_one, List.getElem?_eq_getElem hir]
            show ((row.take i ++ [row[i]]).zipIdx).foldl (addP u0) ps = _
            rw [List.zipIdx_append, List.foldl_append, il, Nat.zero_add] <;> rfl
          have rin3 : (((row.take i).zipIdx).foldl (addP u0) ps)[j]? = some (r, u0) := by
            obtain ⟨t, ht⟩ := foldP_grows u0 ((row.take i).zipIdx) ps
            rw [← ht, List.getElem?_append_left (List.getElem?_eq_some_iff.mp hu0).1]
            exact hu0
          have pm3 : (((row.take i).zipIdx).foldl (addP u0) ps).map (·.1) = (row.take i).foldl addN o := by rw [foldP_fst, List.zipIdx_map_fst, pm]
          rw [tk, tkP]
          generalize (row.take i).foldl addN o = o3 at keys3 few3 pm3 ⊢
          generalize ((row.take i).zipIdx).foldl (addP u0) ps = p3 at vo3 rin3 pm3 ⊢
          generalize row[i] = y2 at yin ⊢
          have hlen3 : (o3.length : Int) ≤ n := few3.len.elim id fun z => by rw [z]; show (0 : Int) ≤ n; omega
          have s4 : Same H3 (upd H3 T2 (.tup [.str (sg L[i]), .int y2])) := same_upd hT2
          have ha4 := s4 _ _ ha3
          have hd4 := s4 _ _ hd3
          have tu : (upd H3 T2 (.tup [.str (sg L[i]), .int y2])) T2 = some (.tup [.str (sg L[i]), .int y2]) := upd_same
          have s04 := s3.trans s4
          generalize upd H3 T2 (.tup [.str (sg L[i]), .int y2]) = H4 at ha4 hd4 tu s04 ⊢
          refine ⟨T2, _, rfl, SqT.of tu, rfl, _, _, rfl, _, _, rfl, rfl, ?_⟩
          refine ⟨_, rfl, _, rfl, D, _, rfl, DGet.k (k := (Sum.inl y2 : Key)) hd4, _, rfl, ?_⟩
          by_cases hin : y2 ∈ o3
          · obtain ⟨v, hv⟩ := Option.ne_none_iff_exists'.mp ((keys3.val y2).mpr hin)
            rw [hv]
            refine iteF ?_
            refine ⟨kvs, _, _, s04, ha4, hd4, ?_, ?_, ?_, rfl⟩
            · unfold addN
              rw [if_pos hin]
              exact keys3
            · unfold addP
              rw [if_pos (by rw [pm3]; exact hin)]
              exact vo3
            · unfold addN
              rw [if_pos hin]
              exact few3
          · have hv : valV kvs (Sum.inl y2 : Key) = none := Classical.byContradiction fun z => hin ((keys3.val y2).mp z)
            rw [hv]
            refine iteT ?_
            have vr := vo3 r u0 (List.mem_of_getElem? rin3)
            refine ⟨_, rfl, _, rfl, D, _, rfl, vr ▸ DGet.k (k := (Sum.inl r : Key)) hd4, _, rfl, _, _, rfl, rfl, ?_, ?_⟩
            · rw [tx_len, sizeLine_eq]
              show (wordL L u0).length + 1 ≤ _
              unfold wordL
              rw [List.length_map]
              omega
            rw [show tx (wordL L u0) ++ sg L[i] = tx (wordL L (u0 ++ [i])) by rw [word_snoc hLi, ← tx_app] <;> rfl]
            refine ⟨_, rfl, _, rfl, D, _, rfl, DPut.k (k := (Sum.inl y2 : Key)) hd4 (by rw [keys3.len, sizeLine_eq]; omega), ?_⟩
            refine ⟨putK kvs (Sum.inl y2) (.str (tx (wordL L (u0 ++ [i])))), _, _, same_at s04 hD, ?_, upd_same, ?_, ?_, few3.add yin, rfl⟩
            · rw [upd_ne naD]
              exact ha4
            · unfold addN
              rw [if_neg hin]
              exact keys3.put hin _
            · unfold addP
              rw [if_neg (by rw [pm3]; exact hin)]
              exact vo3.put (by rw [pm3]; exact hin)
        · rintro σ H3 ⟨kvs, x5, x6, s3, ha3, hd3, keys3, vo3, few3, rfl⟩
          have sz : (tx L).cps.size = row.length := by rw [size_tx, rl]
          rw [sz, List.take_length] at keys3 vo3 few3
          rw [← hstep] at keys3 few3
          rw [← hstepP] at vo3
          refine ⟨_, rfl, _, _, rfl, rfl, ?_⟩
          refine ⟨⟨j + 1, kvs, _, _, _, s3, hd3, keys3, vo3, few3, ?_, rfl⟩, ?_⟩
          · have : o.length ≤ (wyA tb 0 (j + 1)).length := by rw [hstep]; exact (addF_grows row o).length_le
            omega
          · show n.toNat - ((j : Int) + 1).toNat < n.toNat - ((j : Int)).toNat
            omega
      · have hge : ¬ (((j : Nat) : Int) < (((wyA tb 0 j).length : Nat) : Int)) := fun z => hge (decide_eq_true z)
        have e1 : wyA tb 0 tb.length = wyA tb 0 j := by
          have h4 := wyA_stop (tb := tb) (st := 0) (j := j) (by omega) (tb.length - j)
          rw [show j + (tb.length - j) = tb.length by omega] at h4
          exact h4
        have lp : (wyP tb 0 j).length = (wyA tb 0 j).length := by rw [← wyP_fst, List.length_map]
        have e2 : wyP tb 0 tb.length = wyP tb 0 j := by
          have h4 := wyP_stop (tb := tb) (st := 0) (j := j) (by omega) (tb.length - j)
          rw [show j + (tb.length - j) = tb.length by omega] at h4
          exact h4
        refine ⟨_, rfl, q D kvs H2 hD s2 hd ?_ ?_⟩
        · rw [e1]
          exact keys
        · rw [e2]
          exact vo
    · exact fun σ H Q Q' hm ⟨v, hv, w', hw, M2, ys2, e2, hs2, i, j, a, b, k, hk, q⟩ => ⟨v, hv, w', hw, M2, ys2, e2, hs2, i, j, a, b, k, hk, hm _ _ q⟩
end
end RM
set_option Elab.async false
set_option linter.all false
set_option maxRecDepth 100000
set_option maxHeartbeats 4000000
namespace WK
open PySem L2 PyProof.Rows K1
section
variable {α β : Type} [DecidableEq α] [DecidableEq β]
def addG (o : List α) (a : α) : List α := if a ∈ o then o else o ++ [a]
theorem addG_in {o : List α} {a : α} (h : a ∈ o) : addG o a = o := if_pos h
theorem addG_out {o : List α} {a : α} (h : a ∉ o) : addG o a = o ++ [a] := if_neg h
theorem addG_nodup : ∀ {l o : List α}, (o ++ l).Nodup → l.foldl addG o = o ++ l
  | [], o, _ => (List.append_nil o).symm
  | a :: l, o, h => by
    have out : a ∉ o := fun z => (List.nodup_append.mp h).2.2 a z a (.head _) rfl
    rw [List.foldl_cons, addG_out out, addG_nodup (by rw [List.append_assoc]; exact h), List.append_assoc] <;> rfl
end
end WK
set_option Elab.async false
set_option linter.all false
set_option maxRecDepth 100000
set_option maxHeartbeats 4000000
namespace ND
open PySem PySem.Spec PyProof.Rows L2 WK
/-- keys of a kind, and dicts that have a number for each -/
structure Num (P : Program) (w : World) (α : Type) [DecidableEq α] where
  is : Hp → V → α → Prop
  has : Hp → Addr → List α → Prop
  keep : ∀ {H H' : Hp} {v : V} {a : α}, is H v a → KeepsTup H H' → is H' v a
  stay : ∀ {H H' : Hp} {D : Addr} {l : List α}, has H D l → Same H H' → has H' D l
  ext : ∀ {H : Hp} {D : Addr} {l : List α}, has H D l → ∃ φ, H D = some (.ext φ)
  dict : ∀ {X : Cx} {pins : List (Addr × Obj)} {σ : L2.St} {H : Hp} {s : Shared} {D : Addr} {l : List α}, X.prog = P → X.w = w → Inv X pins σ H s → has H D l → s.TypeIs (.ref D) "dict"
  new : ∀ {X : Cx} {pins : List (Addr × Obj)} {σ : L2.St} {H : Hp} {s : Shared}, X.prog = P → X.w = w → Inv X pins σ H s →
    ∃ o, ObjOk X.prog X.w (upd H s.heap.objs.size o) (s.heap.push { cls := .type "dict", data := .dict #[] }) s.heap.objs.size o ∧ has (upd H s.heap.objs.size o) s.heap.objs.size []
  notin : ∀ {X : Cx} {pins : List (Addr × Obj)} {σ : L2.St} {H : Hp} {s : Shared} {A : Around} {E : Value → Shared → Prop} {D : Addr} {l : List α} {v : V} {u : Value} {a : α} {Q : Value → Shared → Prop}, X.prog = P → X.w = w → A.units + 64 < cLine →
    Inv X pins σ H s → has H D l → is H v a → RelV v u → (∀ s', Inv X pins σ H s' → Q (.bool (!decide (a ∈ l))) s') → wpAny (model X.prog X.w) A (compareOp .NotIn u (.ref D)) Q E s
  get : ∀ {X : Cx} {pins : List (Addr × Obj)} {σ : L2.St} {H : Hp} {s : Shared} {A : Around} {E : Value → Shared → Prop} {D : Addr} {l : List α} {v : V} {u : Value} {a : α} {Q : Value → Shared → Prop}, X.prog = P → X.w = w → A.units + 64 < cLine →
    Inv X pins σ H s → has H D l → is H v a → a ∈ l → RelV v u → (∀ t s', Inv X pins σ H s' → Q (.int (l.idxOf a : Nat) t) s') → wpAny (model X.prog X.w) A (getItem (.ref D) u) Q E s
  put : ∀ {X : Cx} {pins : List (Addr × Obj)} {σ : L2.St} {H : Hp} {s : Shared} {A : Around} {E : Value → Shared → Prop} {D : Addr} {l : List α} {v : V} {u : Value} {a : α} {t : Tok} {Q : Unit → Shared → Prop}, X.prog = P → X.w = w → A.units + 64 < cLine →
    Inv X pins σ H s → has H D l → is H v a → a ∉ l → l.length < sizeLine → RelV v u → (∀ o s', has (upd H D o) D (l ++ [a]) → Inv X pins σ (upd H D o) s' → Q () s') → wpAny (model X.prog X.w) A (setItem (.ref D) u (.int (l.length : Nat) t)) Q E s
  size : ∀ {X : Cx} {pins : List (Addr × Obj)} {σ : L2.St} {H : Hp} {s : Shared} {A : Around} {E : Value → Shared → Prop} {D : Addr} {l : List α} {Q : Value → Shared → Prop}, X.prog = P → X.w = w →
    Inv X pins σ H s → has H D l → (∀ t s', Inv X pins σ H s' → Q (.int (l.length : Nat) t) s') → wpAny (model X.prog X.w) A (call (.builtin "len") [.ref D]) Q E s
section
variable {X : Cx} {P : Program} {w : World} {α : Type} [DecidableEq α] {N : Num P w α} {o i value : Expr} {pos pos' : Pos} {td ty tv : TE}
def tNew (N : Num P w α) : TE := fun _ H Q => ∀ p o, H p = none → N.has (upd H p o) p [] → Q (.ref p) (upd H p o)
theorem pe_new (eP : X.prog = P := by rfl) (ew : X.w = w := by rfl) : PE X (.Dict [] [] pos) (tNew N) := ⟨fun pins s σ H Q I h => by
  obtain ⟨o, ok, has⟩ := N.new eP ew I
  exact wpAny_Dict_empty ⟨.ref s.heap.objs.size, _, I.laid (t' := s.toks) (fun _ _ q => Heap.get?_push_of_some _ q) (Nat.le_refl _) ok, rfl, h _ o (I.hok.fresh (Nat.le_refl _)) has⟩⟩
def tNotIn (N : Num P w α) (ty td : TE) : TE := fun σ H Q => ty σ H fun y H1 => td σ H1 fun x H2 => ∃ (D : Addr) (l : List α) (a : α), x = .ref D ∧ N.has H2 D l ∧ N.is H2 y a ∧ Q (.bl (!decide (a ∈ l))) H2
theorem pc_notin (hu : X.A.units + 64 < cLine) (hi : PE X i ty) (ho : PE X o td) (eP : X.prog = P := by rfl) (ew : X.w = w := by rfl) : PC X .NotIn i o (tNotIn N ty td) := by
  refine ⟨fun pins s σ H Q I h => thn (hi.run pins s σ H _ I h) fun iv s1 ⟨y, H1, I1, ry, q1⟩ => thn (ho.run pins s1 σ H1 _ I1 q1) fun u s2 ⟨x, H2, I2, rx, D, l, a, ex, has, isK, q2⟩ => ?_⟩
  subst ex
  cases rx
  exact N.notin eP ew hu I2 has isK ry fun s3 I3 => ⟨.bl (!decide (a ∈ l)), H2, I3, rfl, q2⟩
def tGet (N : Num P w α) (td ty : TE) : TE := fun σ H Q => td σ H fun x H1 => ty σ H1 fun y H2 => ∃ (D : Addr) (l : List α) (a : α), x = .ref D ∧ N.has H2 D l ∧ N.is H2 y a ∧ a ∈ l ∧ Q (.int (l.idxOf a : Nat)) H2
theorem pe_get (hu : X.A.units + 64 < cLine) (ho : PE X o td) (hi : PE X i ty) (hs : NoSl i) (eP : X.prog = P := by rfl) (ew : X.w = w := by rfl) : PE X (.Subscript o i pos) (tGet N td ty) := by
  refine ⟨fun pins s σ H Q I h => subD_of PySem.F.slot_dict_getitem.lookup hs (thn (ho.run pins s σ H _ I h) fun u s1 ⟨x, H1, I1, rx, q1⟩ => thn (hi.run pins s1 σ H1 _ I1 q1) fun iv s2 ⟨y, H2, I2, ry, D, l, a, ex, has, isK, mem, q2⟩ => ?_)⟩
  subst ex
  cases rx
  exact ⟨N.dict eP ew I2 has, N.get eP ew hu I2 has isK mem ry fun t s3 I3 => ⟨.int (l.idxOf a : Nat), H2, I3, ⟨t, rfl⟩, q2⟩⟩
def tPut (N : Num P w α) (td ty tv : TE) : TS := fun D σ H => tv σ H fun v H1 => td σ H1 fun x H2 => ty σ H2 fun y H3 => ∃ (d : Addr) (l : List α) (a : α), x = .ref d ∧ v = .int (l.length : Nat) ∧ N.has H3 d l ∧ N.is H3 y a ∧ a ∉ l ∧ l.length < sizeLine ∧
  ∀ o, N.has (upd H3 d o) d (l ++ [a]) → D.nx σ (upd H3 d o)
theorem ps_put (hu : X.A.units + 64 < cLine) (ho : PE X o td) (hi : PE X i ty) (hv : PE X value tv) (hs : swapsWith value (some (.Subscript o i pos')) pos.line X.env = pure false) (eP : X.prog = P := by rfl) (ew : X.w = w := by rfl) :
    PS X (.Assign [.Subscript o i pos'] value pos) (tPut N td ty tv) := by
  refine ⟨fun pins s σ H D I h => wpAny_Assign_Subscript (thn (hv.run pins s σ H _ I h) fun r s1 ⟨v, H1, I1, rv, q1⟩ => thn (ho.run pins s1 σ H1 _ I1 q1) fun u s2 ⟨x, H2, I2, rx, q2⟩ => thn (hi.run pins s2 σ H2 _ I2 q2) fun iv s3 ⟨y, H3, I3, ry, d, l, a, ex, ev, has, isK, out, few, q3⟩ => ?_) hs⟩
  subst ex ev
  cases rx
  obtain ⟨t, rfl⟩ := rv
  exact N.put eP ew hu I3 has isK out few ry fun o s4 has4 I4 => ⟨σ, _, I4, q3 o has4⟩
theorem call_len (eP : X.prog = P := by rfl) (ew : X.w = w := by rfl) : CallR X (.builtin "len") (fun xs H Q => ∃ (D : Addr) (l : List α), xs = [.ref D] ∧ N.has H D l ∧ Q (.int (l.length : Nat)) H) := by
  rintro pins s σ H _ us Q I r ⟨D, l, rfl, has, q⟩
  rw [Vals.ref1 r]
  exact N.size eP ew I has fun t s' I' => ⟨.int (l.length : Nat), H, I', ⟨t, rfl⟩, q⟩
end
section
variable {α κ : Type} [DecidableEq α] [DecidableEq κ] (e : α → κ)
def NumV : Nat → List α → List (κ × Value) → Prop
  | _, [], [] => True
  | i, a :: l, p :: vs => p.1 = e a ∧ (∃ t, p.2 = .int (i : Nat) t) ∧ NumV (i + 1) l vs
  | _, _, _ => False
theorem numV_len : ∀ {i : Nat} {l : List α} {vs : List (κ × Value)}, NumV e i l vs → vs.length = l.length
  | _, [], [], _ => rfl
  | _, _ :: _, _ :: _, h => congrArg Nat.succ (numV_len h.2.2)
  | _, [], _ :: _, h => h.elim
  | _, _ :: _, [], h => h.elim
theorem numV_out (inj : ∀ a b, e a = e b → a = b) {a : α} : ∀ {i : Nat} {l : List α} {vs : List (κ × Value)}, NumV e i l vs → a ∉ l → valueAt vs (e a) = none
  | _, [], [], _, _ => rfl
  | i, b :: l, p :: vs, h, ha => by
    have ih := numV_out inj h.2.2 (fun z => ha (.tail _ z))
    have ne : ¬ p.1 = e a := fun z => ha (inj _ _ (h.1.symm.trans z) ▸ .head _)
    unfold valueAt at ih ⊢
    rw [List.find?_cons, show decide (p.1 = e a) = false from decide_eq_false ne]
    exact ih
  | _, [], _ :: _, h, _ => h.elim
  | _, _ :: _, [], h, _ => h.elim
theorem numV_in (inj : ∀ a b, e a = e b → a = b) {a : α} : ∀ {i : Nat} {l : List α} {vs : List (κ × Value)}, NumV e i l vs → a ∈ l → ∃ t, valueAt vs (e a) = some (.int ((i + l.idxOf a : Nat) : Nat) t)
  | _, [], [], _, ha => absurd ha List.not_mem_nil
  | i, b :: l, p :: vs, h, ha => by
    unfold valueAt
    rw [List.find?_cons, List.idxOf_cons]
    by_cases eb : b = a
    · obtain ⟨t, ht⟩ := h.2.1
      rw [show decide (p.1 = e a) = true from decide_eq_true (h.1.trans (congrArg e eb)), show (b == a) = true from beq_iff_eq.mpr eb]
      exact ⟨t, congrArg some ht⟩
    · have ne : ¬ p.1 = e a := fun z => eb (inj _ _ (h.1.symm.trans z))
      rw [show decide (p.1 = e a) = false from decide_eq_false ne, show (b == a) = false from beq_eq_false_iff_ne.mpr eb]
      obtain ⟨t, ht⟩ := numV_in inj h.2.2 ((List.mem_cons.mp ha).resolve_left fun z => eb z.symm)
      unfold valueAt at ht
      refine ⟨t, ht.trans ?_⟩
      show some (Value.int ((i + 1 + l.idxOf a : Nat) : Int) t) = some (Value.int ((i + (l.idxOf a + 1) : Nat) : Int) t)
      rw [show i + 1 + l.idxOf a = i + (l.idxOf a + 1) by omega]
  | _, [], _ :: _, h, _ => h.elim
  | _, _ :: _, [], h, _ => h.elim
theorem numV_snoc {a : α} {t : Tok} : ∀ {i : Nat} {l : List α} {vs : List (κ × Value)}, NumV e i l vs → NumV e i (l ++ [a]) (vs ++ [(e a, .int ((i + l.length : Nat) : Nat) t)])
  | i, [], [], _ => ⟨rfl, ⟨t, rfl⟩, trivial⟩
  | i, b :: l, p :: vs, h => by
    refine ⟨h.1, h.2.1, ?_⟩
    have := numV_snoc (a := a) (t := t) h.2.2
    rw [show i + 1 + l.length = i + (b :: l).length by rw [List.length_cons]; omega] at this
    exact this
  | _, [], _ :: _, h => h.elim
  | _, _ :: _, [], h => h.elim
end
theorem stored_out {κ : Type} [DecidableEq κ] {vs : List (κ × Value)} {k : κ} {v : Value} (h : valueAt vs k = none) : stored vs k v = vs ++ [(k, v)] := by
  have : ¬ (vs.any fun kv => kv.1 = k) = true := fun z => by
    obtain ⟨p, hp, e⟩ := List.any_eq_true.mp z
    unfold valueAt at h
    rw [Option.map_eq_none_iff, List.find?_eq_none] at h
    exact h p hp e
  unfold stored
  rw [if_neg this]
section
variable {P : Program} {w : World}
/-- a dict of the truth values in l at D -/
def encB (b : Bool) : Leaf := .num (if b = true then 1 else 0)
theorem encB_inj (a b : Bool) (h : encB a = encB b) : a = b := by
  injection h with h
  revert h
  cases a <;> cases b <;> decide
def BoolO (P : Program) (w : World) (D : Addr) (l : List Bool) : HO := .ext fun h => (D == sysModules) = false ∧ l.length ≤ sizeLine ∧ ∃ vs, NumV encB 0 l vs ∧ h.DictOf (leafKind P w) D vs
theorem boolO_ok {H : Hp} {h : Heap} {D : Addr} {l : List Bool} {vs : List (Leaf × Value)} (h1 : (D == sysModules) = false) (h2 : l.length ≤ sizeLine) (h3 : NumV encB 0 l vs) (h4 : h.DictOf (leafKind P w) D vs) : ObjOk P w H h D (BoolO P w D l) :=
  ⟨⟨h1, h2, vs, h3, h4⟩, let ⟨o, _, _, e, _⟩ := h4; ⟨o, e⟩, fun _ _ ⟨a, b, vs, c, d⟩ k => ⟨a, b, vs, c, let ⟨o, es, ep, q, r⟩ := d; ⟨o, es, ep, k _ q, r⟩⟩⟩
theorem isB {b : Bool} {u : Value} (r : RelV (.bl b) u) : (leafKind P w).is (encB b) u = true := by
  cases (show u = .bool b from r)
  exact decide_eq_true rfl
def numB (P : Program) (w : World) : Num P w Bool where
  is := fun _ v b => v = .bl b
  has := fun H D l => H D = some (BoolO P w D l)
  keep := fun h _ => h
  stay := fun h s => s _ _ h
  ext := fun h => ⟨_, h⟩
  dict := fun eP ew I h => by
    subst eP ew
    obtain ⟨_, _, vs, _, d⟩ := (I.hok _ _ h).1
    exact d.typeIs
  new := fun eP ew I => by
    subst eP ew
    exact ⟨_, boolO_ok (l := []) (beq_eq_false_iff_ne.mpr (Nat.ne_of_gt I.big)) (Nat.zero_le _) (vs := []) trivial (Heap.DictOf.new _), upd_same⟩
  notin := fun {X pins σ H s A E D l v u a Q} eP ew _ I h hv r q => by
    subst eP ew
    subst hv
    obtain ⟨hd, _, vs, nv, d⟩ := (I.hok _ _ h).1
    refine wpAny_notIn_of (isB r) hd d.mapOf ?_
    by_cases m : a ∈ l
    · obtain ⟨t, e⟩ := numV_in encB encB_inj nv m
      rw [e]
      have q := q _ (I.tok (s.toks + 1))
      rw [decide_eq_true m] at q
      exact q
    · rw [numV_out encB encB_inj nv m]
      have q := q _ (I.tok (s.toks + 1))
      rw [decide_eq_false m] at q
      exact q
  get := fun {X pins σ H s A E D l v u a Q} eP ew _ I h hv m r q => by
    subst eP ew
    subst hv
    obtain ⟨hd, _, vs, nv, d⟩ := (I.hok _ _ h).1
    obtain ⟨t, e⟩ := numV_in encB encB_inj nv m
    rw [Nat.zero_add] at e
    exact wpAny_getItem_of (isB r) d.mapOf e (q t _ (I.tok _))
  put := fun {X pins σ H s A E D l v u a t Q} eP ew _ I h hv m few r q => by
    subst eP ew
    subst hv
    obtain ⟨hd, hz, vs, nv, d⟩ := (I.hok _ _ h).1
    refine wpAny_setItem_pairs (hsz := by rw [numV_len encB nv]; exact hz) (isB r) d fun g d' same => ?_
    rw [stored_out (numV_out encB encB_inj nv m)] at d'
    have nv2 := numV_snoc encB (a := a) (t := t) nv
    rw [Nat.zero_add] at nv2
    refine q (BoolO X.prog X.w D (l ++ [a])) _ upd_same ?_
    exact d_write (t' := s.toks + 1) I (by rw [h]; trivial) same (let ⟨o, _, _, e, _⟩ := d'; ⟨o, e⟩) (boolO_ok hd (by rw [List.length_append]; exact few) nv2 d')
  size := fun {X pins σ H s A E D l Q} eP ew I h q => by
    subst eP ew
    obtain ⟨hd, hz, vs, nv, d⟩ := (I.hok _ _ h).1
    have len := numV_len encB nv
    refine call_len_dict hd d (by rw [len]; rw [sizeLine_eq] at hz; omega) ?_
    rw [len]
    exact q _ _ (I.tok _)
end
end ND
set_option Elab.async false
set_option linter.all false
set_option maxRecDepth 100000
set_option maxHeartbeats 4000000
namespace ND
open PySem PySem.Spec PyProof.Rows L2 WK
structure Pr where
  fst : Int
  snd : List Int
  deriving DecidableEq
def nk (r : List Int) : List NestedKey := r.map NestedKey.num
def encN (a : Pr) : NestedKey := .tup [.num a.fst, .tup (nk a.snd)]
theorem nk_inj : ∀ {r q : List Int}, nk r = nk q → r = q
  | [], [], _ => rfl
  | [], _ :: _, h => nomatch h
  | _ :: _, [], h => nomatch h
  | i :: r, j :: q, h => by
    injection h with h1 h2
    injection h1 with h1
    rw [h1, nk_inj h2]
theorem encN_inj (a b : Pr) (h : encN a = encN b) : a = b := by
  injection h with h
  injection h with h1 h2
  injection h1 with h1
  injection h2 with h2 _
  injection h2 with h2
  obtain ⟨a1, a2⟩ := a
  obtain ⟨b1, b2⟩ := b
  rw [show a1 = b1 from h1, show a2 = b2 from nk_inj h2]
theorem nk_depth : ∀ r : List Int, NestedKey.depthAll (nk r) = 0
  | [] => rfl
  | i :: r => by
    show max (NestedKey.depth (.num i)) (NestedKey.depthAll (nk r)) = 0
    rw [nk_depth r]
    rfl
theorem encN_depth (a : Pr) : (encN a).depth ≤ 8 := by
  show max (NestedKey.depth (.num a.fst)) (max (NestedKey.depthAll (nk a.snd) + 1) 0) + 1 ≤ 8
  rw [nk_depth]
  show max 0 (max 1 0) + 1 ≤ 8
  decide
/-- such a pair lies at b -/
def PrAt (H : Hp) (b : Addr) (a : Pr) : Prop := ∃ t : Addr, H b = some (.tup [.int a.fst, .ref t]) ∧ H t = some (oTup a.snd)
theorem PrAt.keep {H H' : Hp} {b : Addr} {a : Pr} (h : PrAt H b a) (k : KeepsTup H H') : PrAt H' b a := let ⟨t, h1, h2⟩ := h; ⟨t, k _ _ h1, k _ _ h2⟩
theorem nested_ints {h : Heap} : ∀ {r : List Int} {us : List Value}, Vals (r.map V.int) us → NestedAll h (nk r) us
  | [], [], _ => .nil
  | i :: r, u :: us, .cons ⟨t, ht⟩ z => by
    subst ht
    exact .cons (.int i t) (nested_ints z)
  | [], _ :: _, z => nomatch z
  | _ :: _, [], z => nomatch z
theorem PrAt.key {X : Cx} {pins : List (Addr × Obj)} {σ : L2.St} {H : Hp} {s : Shared} {b : Addr} {a : Pr} (I : Inv X pins σ H s) (h : PrAt H b a) : (nestedKind X.prog X.w).is s.heap (encN a) b := by
  obtain ⟨t, h1, h2⟩ := h
  obtain ⟨its, r1, ⟨o1, e1, c1, n1, d1⟩, _⟩ := I.tuple (SqT.of h1)
  obtain ⟨its2, r2, ⟨o2, e2, c2, n2, d2⟩, _⟩ := I.tuple (SqT.of h2)
  obtain ⟨u, y, rfl, ⟨tk, rfl⟩, ry⟩ := vals2 r1
  cases ry
  refine ⟨.tup e1 c1 d1 ?_, encN_depth a⟩
  exact .cons (.int _ tk) (.cons (.tup e2 c2 d2 (by simpa using nested_ints r2)) .nil)
/-- the entries: each pair with its tuple and its number, from i on -/
def NumH : Nat → List Pr → List Addr → List (NestedKey × Addr × Value) → Prop
  | _, [], [], [] => True
  | i, a :: l, b :: bs, x :: xs => x.1 = encN a ∧ x.2.1 = b ∧ (∃ t, x.2.2 = .int (i : Nat) t) ∧ NumH (i + 1) l bs xs
  | _, _, _, _ => False
theorem NumH.cases {i : Nat} : ∀ {l : List Pr} {bs : List Addr} {xs : List (NestedKey × Addr × Value)}, NumH i l bs xs → (l = [] ∧ bs = [] ∧ xs = []) ∨ ∃ a l' b bs' x xs', l = a :: l' ∧ bs = b :: bs' ∧ xs = x :: xs' ∧ x.1 = encN a ∧ x.2.1 = b ∧ (∃ t, x.2.2 = .int (i : Nat) t) ∧ NumH (i + 1) l' bs' xs'
  | [], [], [], _ => .inl ⟨rfl, rfl, rfl⟩
  | a :: l, b :: bs, x :: xs, h => .inr ⟨a, l, b, bs, x, xs, rfl, rfl, rfl, h.1, h.2.1, h.2.2.1, h.2.2.2⟩
  | [], [], _ :: _, h => h.elim
  | [], _ :: _, [], h => h.elim
  | [], _ :: _, _ :: _, h => h.elim
  | _ :: _, [], [], h => h.elim
  | _ :: _, [], _ :: _, h => h.elim
  | _ :: _, _ :: _, [], h => h.elim
theorem numH_len : ∀ {l : List Pr} {i : Nat} {bs : List Addr} {xs : List (NestedKey × Addr × Value)}, NumH i l bs xs → xs.length = l.length
  | [], _, _, _, h => by
    rcases h.cases with ⟨_, _, rfl⟩ | ⟨_, _, _, _, _, _, e, _⟩
    · rfl
    · cases e
  | _ :: l, _, _, _, h => by
    rcases h.cases with ⟨e, _⟩ | ⟨a, l', b, bs', x, xs', e, rfl, rfl, _, _, _, z⟩
    · cases e
    · injection e with _ e
      subst e
      exact congrArg Nat.succ (numH_len z)
theorem numH_out {a : Pr} : ∀ {l : List Pr} {i : Nat} {bs : List Addr} {xs : List (NestedKey × Addr × Value)}, NumH i l bs xs → a ∉ l → atKey xs (encN a) = none
  | [], _, _, _, h, _ => by
    rcases h.cases with ⟨_, _, rfl⟩ | ⟨_, _, _, _, _, _, e, _⟩
    · rfl
    · cases e
  | c :: l, _, _, _, h, ha => by
    rcases h.cases with ⟨e, _⟩ | ⟨c', l', b, bs', x, xs', e, rfl, rfl, h1, _, _, z⟩
    · cases e
    · injection e with e0 e
      subst e e0
      have ih := numH_out z (fun w => ha (.tail _ w))
      have ne : ¬ x.1 = encN a := fun w => ha (encN_inj _ _ (h1.symm.trans w) ▸ .head _)
      unfold atKey at ih ⊢
      rw [List.find?_cons, show decide (x.1 = encN a) = false from decide_eq_false ne]
      exact ih
theorem numH_in {a : Pr} : ∀ {l : List Pr} {i : Nat} {bs : List Addr} {xs : List (NestedKey × Addr × Value)}, NumH i l bs xs → a ∈ l → ∃ b t, atKey xs (encN a) = some (b, .int ((i + l.idxOf a : Nat) : Nat) t)
  | [], _, _, _, _, ha => absurd ha List.not_mem_nil
  | c :: l, i, _, _, h, ha => by
    rcases h.cases with ⟨e, _⟩ | ⟨c', l', b, bs', x, xs', e, rfl, rfl, h1, h2, ⟨t, ht⟩, z⟩
    · cases e
    · injection e with e0 e
      subst e e0
      unfold atKey
      rw [List.find?_cons, List.idxOf_cons]
      by_cases eb : c = a
      · rw [show decide (x.1 = encN a) = true from decide_eq_true (h1.trans (congrArg encN eb)), show (c == a) = true from beq_iff_eq.mpr eb]
        exact ⟨x.2.1, t, congrArg some (Prod.ext rfl ht)⟩
      · have ne : ¬ x.1 = encN a := fun w => eb (encN_inj _ _ (h1.symm.trans w))
        rw [show decide (x.1 = encN a) = false from decide_eq_false ne, show (c == a) = false from beq_eq_false_iff_ne.mpr eb]
        obtain ⟨d, t, ht⟩ := numH_in z ((List.mem_cons.mp ha).resolve_left fun w => eb w.symm)
        unfold atKey at ht
        refine ⟨d, t, ht.trans ?_⟩
        show some (d, Value.int ((i + 1 + l.idxOf a : Nat) : Int) t) = some (d, Value.int ((i + (l.idxOf a + 1) : Nat) : Int) t)
        rw [show i + 1 + l.idxOf a = i + (l.idxOf a + 1) by omega]
theorem numH_snoc {a : Pr} {c : Addr} {t : Tok} : ∀ {l : List Pr} {i : Nat} {bs : List Addr} {xs : List (NestedKey × Addr × Value)}, NumH i l bs xs → NumH i (l ++ [a]) (bs ++ [c]) (xs ++ [(encN a, c, .int ((i + l.length : Nat) : Nat) t)])
  | [], _, _, _, h => by
    rcases h.cases with ⟨_, rfl, rfl⟩ | ⟨_, _, _, _, _, _, e, _⟩
    · exact ⟨rfl, rfl, ⟨t, rfl⟩, trivial⟩
    · cases e
  | d :: l, i, _, _, h => by
    rcases h.cases with ⟨e, _⟩ | ⟨d', l', b, bs', x, xs', e, rfl, rfl, h1, h2, h3, z⟩
    · cases e
    · injection e with e0 e
      subst e e0
      refine ⟨h1, h2, h3, ?_⟩
      have := numH_snoc (a := a) (c := c) (t := t) z
      rw [show i + 1 + l.length = i + (d :: l).length by rw [List.length_cons]; omega] at this
      exact this
/-- each pair's tuple is there -/
def PrsAt (H : Hp) : List Addr → List Pr → Prop
  | [], [] => True
  | b :: bs, a :: l => PrAt H b a ∧ PrsAt H bs l
  | _, _ => False
theorem PrsAt.keep {H H' : Hp} (k : KeepsTup H H') : ∀ {bs : List Addr} {l : List Pr}, PrsAt H bs l → PrsAt H' bs l
  | [], [], _ => trivial
  | _ :: _, _ :: _, h => ⟨h.1.keep k, PrsAt.keep k h.2⟩
  | [], _ :: _, h => h.elim
  | _ :: _, [], h => h.elim
theorem PrsAt.snoc {H : Hp} {c : Addr} {a : Pr} (h : PrAt H c a) : ∀ {bs : List Addr} {l : List Pr}, PrsAt H bs l → PrsAt H (bs ++ [c]) (l ++ [a])
  | [], [], _ => ⟨h, trivial⟩
  | _ :: _, _ :: _, z => ⟨z.1, PrsAt.snoc h z.2⟩
  | [], _ :: _, z => z.elim
  | _ :: _, [], z => z.elim
theorem keys_is {X : Cx} {pins : List (Addr × Obj)} {σ : L2.St} {H : Hp} {s : Shared} (I : Inv X pins σ H s) : ∀ {bs : List Addr} {l : List Pr} {i : Nat} {xs : List (NestedKey × Addr × Value)}, PrsAt H bs l → NumH i l bs xs → ∀ x ∈ xs, (nestedKind X.prog X.w).is s.heap x.1 x.2.1
  | [], [], _, [], _, _, x, hx => absurd hx List.not_mem_nil
  | b :: bs, a :: l, _, y :: xs, h, z, x, hx => by
    cases hx with
    | head =>
      rw [z.1, z.2.1]
      exact h.1.key I
    | tail _ hx => exact keys_is I h.2 z.2.2.2 x hx
  | [], _ :: _, _, _, h, _, _, _ => h.elim
  | _ :: _, [], _, _, h, _, _, _ => h.elim
  | [], [], _, _ :: _, _, z, _, _ => z.elim
  | _ :: _, _ :: _, _, [], _, z, _, _ => z.elim
section
variable {P : Program} {w : World}
/-- what is true of the dict's object alone -/
def PrO (P : Program) (w : World) (D : Addr) (bs : List Addr) (l : List Pr) : HO := .ext fun h => (D == sysModules) = false ∧ l.length ≤ sizeLine ∧ ∃ xs, NumH 0 l bs xs ∧ ∃ o es ep, h.get? D = some o ∧ o.ExactDict ∧ o.data = .dict es ep ∧ es.toList = xs.map (entryOfKey (nestedKind P w)) ∧ (xs.map (·.1)).Nodup
theorem prO_ok {H : Hp} {h : Heap} {D : Addr} {bs : List Addr} {l : List Pr} {xs : List (NestedKey × Addr × Value)} (h1 : (D == sysModules) = false) (h2 : l.length ≤ sizeLine) (h3 : NumH 0 l bs xs) (h4 : h.DictOfH (nestedKind P w) D xs) : ObjOk P w H h D (PrO P w D bs l) := by
  obtain ⟨o, es, ep, e1, e2, e3, e4, _, e5⟩ := h4
  exact ⟨⟨h1, h2, xs, h3, o, es, ep, e1, e2, e3, e4, e5⟩, ⟨o, e1⟩, fun _ _ ⟨a, b, xs, c, o, es, ep, q, r⟩ k => ⟨a, b, xs, c, o, es, ep, k _ q, r⟩⟩
theorem prO_get {X : Cx} {pins : List (Addr × Obj)} {σ : L2.St} {H : Hp} {s : Shared} {D : Addr} {bs : List Addr} {l : List Pr} (I : Inv X pins σ H s) (h : H D = some (PrO X.prog X.w D bs l)) (at_ : PrsAt H bs l) :
    (D == sysModules) = false ∧ l.length ≤ sizeLine ∧ ∃ xs, NumH 0 l bs xs ∧ s.heap.DictOfH (nestedKind X.prog X.w) D xs := by
  obtain ⟨h1, h2, xs, nh, o, es, ep, e1, e2, e3, e4, e5⟩ := (I.hok _ _ h).1
  exact ⟨h1, h2, xs, nh, o, es, ep, e1, e2, e3, e4, keys_is I at_ nh, e5⟩
theorem room_n {A : Around} (h : A.units + 64 < cLine) : (nestedKind P w).room A.in1 := by
  show A.units + 1 + 8 < cLine
  omega
def numN (P : Program) (w : World) : Num P w Pr where
  is := fun H v a => ∃ b, v = .ref b ∧ PrAt H b a
  has := fun H D l => ∃ bs, H D = some (PrO P w D bs l) ∧ PrsAt H bs l
  keep := fun ⟨b, e, h⟩ k => ⟨b, e, h.keep k⟩
  stay := fun ⟨bs, h, p⟩ s => ⟨bs, s _ _ h, p.keep (Same.tup' s)⟩
  ext := fun ⟨_, h, _⟩ => ⟨_, h⟩
  dict := fun eP ew I ⟨bs, h, p⟩ => by
    subst eP ew
    obtain ⟨_, _, xs, _, d⟩ := prO_get I h p
    exact d.typeIs
  new := fun eP ew I => by
    subst eP ew
    exact ⟨_, prO_ok (l := []) (bs := []) (beq_eq_false_iff_ne.mpr (Nat.ne_of_gt I.big)) (Nat.zero_le _) (xs := []) trivial (Heap.DictOfH.new _), [], upd_same, trivial⟩
  notin := fun {X pins σ H s A E D l v u a Q} eP ew hu I ⟨bs, h, p⟩ ⟨b, ev, hk⟩ r q => by
    subst eP ew ev
    cases r
    obtain ⟨hd, _, xs, nh, d⟩ := prO_get I h p
    refine wpAny_notIn_heap (room_n hu) (hk.key I) hd d ?_
    by_cases m : a ∈ l
    · obtain ⟨c, t, e⟩ := numH_in nh m
      rw [e]
      have q := q _ (I.tok (s.toks + (nestedKind X.prog X.w).draws (encN a)))
      rw [decide_eq_true m] at q
      exact q
    · rw [numH_out nh m]
      have q := q _ (I.tok (s.toks + (nestedKind X.prog X.w).draws (encN a)))
      rw [decide_eq_false m] at q
      exact q
  get := fun {X pins σ H s A E D l v u a Q} eP ew hu I ⟨bs, h, p⟩ ⟨b, ev, hk⟩ m r q => by
    subst eP ew ev
    cases r
    obtain ⟨hd, _, xs, nh, d⟩ := prO_get I h p
    obtain ⟨c, t, e⟩ := numH_in nh m
    rw [Nat.zero_add] at e
    exact wpAny_getItem_heap (room_n hu) (hk.key I) d e (q t _ (I.tok _))
  put := fun {X pins σ H s A E D l v u a t Q} eP ew hu I ⟨bs, h, p⟩ ⟨b, ev, hk⟩ m few r q => by
    subst eP ew ev
    cases r
    obtain ⟨hd, hz, xs, nh, d⟩ := prO_get I h p
    refine wpAny_setItem_heap (hsz := by rw [numH_len nh]; exact hz) (room_n hu) (hk.key I) d fun g d' same => ?_
    rw [storedH_new (numH_out nh m)] at d'
    have nh2 := numH_snoc (a := a) (c := b) (t := t) nh
    rw [Nat.zero_add] at nh2
    have kt : KeepsTup H (upd H D (PrO X.prog X.w D (bs ++ [b]) (l ++ [a]))) := tup_upd h fun _ z => nomatch z
    refine q (PrO X.prog X.w D (bs ++ [b]) (l ++ [a])) _ ⟨bs ++ [b], upd_same, (p.keep kt).snoc (hk.keep kt)⟩ ?_
    exact d_write (t' := s.toks + (nestedKind X.prog X.w).draws (encN a)) I (by rw [h]; trivial) same (let ⟨o, _, _, e, _⟩ := d'; ⟨o, e⟩) (prO_ok hd (by rw [List.length_append]; exact few) nh2 d')
  size := fun {X pins σ H s A E D l Q} eP ew I ⟨bs, h, p⟩ q => by
    subst eP ew
    obtain ⟨hd, hz, xs, nh, d⟩ := prO_get I h p
    have len := numH_len nh
    refine call_len_dictH hd d (by rw [len]; rw [sizeLine_eq] at hz; omega) ?_
    rw [len]
    exact q _ _ (I.tok _)
end
end ND
set_option Elab.async false
set_option linter.all false
set_option maxRecDepth 100000
set_option maxHeartbeats 4000000
namespace RM
open PySem L2 PyProof.Rows K1 WK ND
section
variable {α β : Type} [DecidableEq α] [DecidableEq β]
/-- each once, in the order of the first ones -/
def dd (l : List α) : List α := l.foldl addG []
theorem foldG_mem {x : α} : ∀ {l o : List α}, x ∈ l.foldl addG o ↔ x ∈ o ∨ x ∈ l
  | [], o => by simp
  | a :: l, o => by
    rw [List.foldl_cons, foldG_mem]
    by_cases h : a ∈ o
    · rw [addG_in h]
      constructor
      · rintro (z | z)
        · exact .inl z
        · exact .inr (.tail _ z)
      · rintro (z | z)
        · exact .inl z
        · rcases List.mem_cons.mp z with rfl | z
          · exact .inl h
          · exact .inr z
    · rw [addG_out h, List.mem_append, List.mem_singleton, List.mem_cons, or_assoc]
theorem dd_mem {x : α} {l : List α} : x ∈ dd l ↔ x ∈ l := by
  unfold dd
  rw [foldG_mem]
  exact ⟨fun h => h.resolve_left List.not_mem_nil, .inr⟩
theorem foldG_nd : ∀ {l o : List α}, o.Nodup → (l.foldl addG o).Nodup
  | [], _, h => h
  | a :: l, o, h => by
    rw [List.foldl_cons]
    refine foldG_nd ?_
    by_cases e : a ∈ o
    · rw [addG_in e]
      exact h
    · rw [addG_out e]
      refine List.nodup_append.mpr ⟨h, List.nodup_cons.mpr ⟨List.not_mem_nil, List.nodup_nil⟩, fun x hx y hy z => ?_⟩
      rw [List.mem_singleton.mp hy] at z
      exact e (z ▸ hx)
theorem dd_nd (l : List α) : (dd l).Nodup := foldG_nd List.nodup_nil
theorem dd_self {l : List α} (h : l.Nodup) : dd l = l := addG_nodup (o := []) h
theorem dd_app (l m : List α) : dd (l ++ m) = m.foldl addG (dd l) := List.foldl_append
theorem dd_one (l : List α) (a : α) : dd (l ++ [a]) = addG (dd l) a := dd_app l [a]
/-- a map's once are those of the once -/
theorem dd_fold (φ : α → β) : ∀ (l o : List α), dd ((l.foldl addG o).map φ) = (l.map φ).foldl addG (dd (o.map φ))
  | [], _ => rfl
  | a :: l, o => by
    rw [List.foldl_cons, dd_fold φ l, List.map_cons, List.foldl_cons]
    congr 1
    by_cases h : a ∈ o
    · rw [addG_in h, addG_in (dd_mem.mpr (List.mem_map_of_mem h))]
    · rw [addG_out h, List.map_append, ← dd_one] <;> rfl
theorem dd_map (φ : α → β) (l : List α) : dd (l.map φ) = dd ((dd l).map φ) := (dd_fold φ l []).symm
theorem foldG_len : ∀ (l o : List α), (l.foldl addG o).length ≤ o.length + l.length
  | [], o => Nat.le_refl _
  | a :: l, o => by
    rw [List.foldl_cons]
    refine Nat.le_trans (foldG_len l _) ?_
    rw [List.length_cons]
    unfold addG
    split
    · omega
    · rw [List.length_append, List.length_singleton]
      omega
theorem dd_len (l : List α) : (dd l).length ≤ l.length := by
  have := foldG_len l []
  rw [List.length_nil] at this
  unfold dd
  omega
theorem foldG_full : ∀ {l o : List α}, o.Nodup → o.length + l.length ≤ (l.foldl addG o).length → (o ++ l).Nodup
  | [], o, h, _ => by rw [List.append_nil]; exact h
  | a :: l, o, h, k => by
    rw [List.foldl_cons, List.length_cons] at k
    by_cases e : a ∈ o
    · rw [addG_in e] at k
      have := foldG_len l o
      omega
    · rw [addG_out e] at k
      have nd : (o ++ [a]).Nodup := by
        refine List.nodup_append.mpr ⟨h, List.nodup_cons.mpr ⟨List.not_mem_nil, List.nodup_nil⟩, fun x hx y hy z => ?_⟩
        rw [List.mem_singleton.mp hy] at z
        exact e (z ▸ hx)
      have := foldG_full (l := l) nd (by rw [List.length_append, List.length_singleton]; omega)
      rw [List.append_assoc] at this
      exact this
theorem dd_full {l : List α} (h : l.length ≤ (dd l).length) : l.Nodup := by
  have := foldG_full (o := []) (l := l) List.nodup_nil (by rw [List.length_nil]; unfold dd at h; omega)
  exact this
/-- the numbers of the keys -/
def num (l : List α) : List Int := l.map fun a => (((dd l).idxOf a : Nat) : Int)
theorem num_len (l : List α) : (num l).length = l.length := List.length_map _
theorem idx_inj {l : List α} {a b : α} (ha : a ∈ l) (hb : b ∈ l) (e : l.idxOf a = l.idxOf b) : a = b := by
  rw [← List.getElem_idxOf (List.idxOf_lt_length_of_mem ha), ← List.getElem_idxOf (List.idxOf_lt_length_of_mem hb)]
  simp only [e]
theorem idx_rng {l : List α} (h : l.Nodup) : l.map (fun a => ((l.idxOf a : Nat) : Int)) = rngI l.length := by
  refine List.ext_getElem (by rw [List.length_map, List.length_map, List.length_range]) fun i h1 h2 => ?_
  rw [List.length_map] at h1
  rw [List.getElem_map, List.getElem_map, List.getElem_range, h.idxOf_getElem]
theorem rng_nd (n : Nat) : (rngI n).Nodup := by
  unfold rngI
  refine List.Pairwise.map _ ?_ List.nodup_range
  intro a b h e
  exact h (by omega)
theorem num_dd (l : List α) : dd (num l) = rngI (dd l).length := by
  unfold num
  rw [dd_map, idx_rng (dd_nd l), dd_self (rng_nd _)]
/-- numbered in the order of the first ones -/
def Fo (g : List Int) : Prop := dd g = rngI (dd g).length
theorem num_fo (l : List α) : Fo (num l) := by
  unfold Fo
  rw [num_dd, List.length_map, List.length_range]
end
theorem rng_mem {n : Nat} {a : Int} : a ∈ rngI n ↔ 0 ≤ a ∧ a < n := by
  unfold rngI
  rw [List.mem_map]
  constructor
  · rintro ⟨i, hi, rfl⟩
    have := List.mem_range.mp hi
    omega
  · rintro ⟨h1, h2⟩
    exact ⟨a.toNat, List.mem_range.mpr (by omega), by omega⟩
theorem rng_len (n : Nat) : (rngI n).length = n := by unfold rngI; rw [List.length_map, List.length_range]
theorem rng_idx {n : Nat} {a : Int} (h : 0 ≤ a ∧ a < n) : (rngI n).idxOf a = a.toNat := by
  have hl : a.toNat < (rngI n).length := by rw [rng_len]; omega
  have : (rngI n)[a.toNat] = a := by unfold rngI; rw [List.getElem_map, List.getElem_range]; omega
  have h2 := (rng_nd n).idxOf_getElem a.toNat hl
  rw [this] at h2
  exact h2
theorem Fo.mem {g : List Int} (f : Fo g) {a : Int} : a ∈ g ↔ 0 ≤ a ∧ a < (dd g).length := by
  rw [← dd_mem, ← rng_mem, ← f]
/-- what stands at a -/
def gi (g : List Int) (a : Int) : Int := g.getD a.toNat 0
theorem gi_at {g : List Int} {a : Int} (h : 0 ≤ a ∧ a < g.length) : ∃ hl : a.toNat < g.length, gi g a = g[a.toNat] := by
  refine ⟨by omega, ?_⟩
  unfold gi
  rw [List.getD_eq_getElem?_getD, List.getElem?_eq_getElem (by omega)] <;> rfl
theorem gi_mem {g : List Int} {a : Int} (h : 0 ≤ a ∧ a < g.length) : gi g a ∈ g := by
  obtain ⟨hl, e⟩ := gi_at h
  rw [e]
  exact List.getElem_mem _
theorem gi_idx {g : List Int} {a : Int} (h : a ∈ g) : gi g ((g.idxOf a : Nat) : Int) = a := by
  obtain ⟨hl, e⟩ := gi_at (g := g) (a := ((g.idxOf a : Nat) : Int)) ⟨by omega, by have := List.idxOf_lt_length_of_mem h; omega⟩
  rw [e]
  exact List.getElem_idxOf _
/-- one step: what each is in, and where its letters lead -/
def prs (B : List (List Int)) (g : List Int) : List Pr := (List.range B.length).map fun i => ⟨g.getD i 0, (B.getD i []).map (gi g)⟩
def stG (B : List (List Int)) (g : List Int) : List Int := num (prs B g)
theorem prs_len (B : List (List Int)) (g : List Int) : (prs B g).length = B.length := by unfold prs; rw [List.length_map, List.length_range]
theorem stG_len (B : List (List Int)) (g : List Int) : (stG B g).length = B.length := by unfold stG; rw [num_len, prs_len]
theorem prs_fst {B : List (List Int)} {g : List Int} (h : g.length = B.length) : (prs B g).map Pr.fst = g := by
  unfold prs
  refine List.ext_getElem (by rw [List.length_map, List.length_map, List.length_range, h]) fun i h1 h2 => ?_
  rw [List.getElem_map, List.getElem_map, List.getElem_range]
  show g.getD i 0 = _
  rw [List.getD_eq_getElem?_getD, List.getElem?_eq_getElem h2] <;> rfl
/-- a step that adds none changes none -/
theorem stG_fix {B : List (List Int)} {g : List Int} (h : g.length = B.length) (f : Fo g) (le : (dd (stG B g)).length ≤ (dd g).length) : stG B g = g := by
  have e0 : dd g = dd ((dd (prs B g)).map Pr.fst) := by rw [← dd_map, prs_fst h]
  have e1 : (dd (stG B g)).length = (dd (prs B g)).length := by
    unfold stG
    rw [num_dd, rng_len]
  have nd : ((dd (prs B g)).map Pr.fst).Nodup := by
    refine dd_full ?_
    rw [← e0, List.length_map, ← e1]
    exact le
  have e2 : dd g = (dd (prs B g)).map Pr.fst := by rw [e0, dd_self nd]
  refine List.ext_getElem (by rw [stG_len, h]) fun i h1 h2 => ?_
  have hp : i < (prs B g).length := by rw [prs_len, ← h]; exact h2
  have ef : (prs B g)[i].fst = g[i] := by
    have : ((prs B g).map Pr.fst)[i]'(by rw [List.length_map]; exact hp) = g[i] := by
      congr 1
      exact prs_fst h
    rw [List.getElem_map] at this
    exact this
  have m : (prs B g)[i] ∈ dd (prs B g) := dd_mem.mpr (List.getElem_mem hp)
  have hk := List.idxOf_lt_length_of_mem m
  show (num (prs B g))[i]'(by rw [num_len]; exact hp) = g[i]
  unfold num
  rw [List.getElem_map]
  have e3 : ((dd (prs B g)).map Pr.fst)[(dd (prs B g)).idxOf (prs B g)[i]]'(by rw [List.length_map]; exact hk) = g[i] := by
    rw [List.getElem_map, List.getElem_idxOf hk, ef]
  have e4 : (dd g)[(dd (prs B g)).idxOf (prs B g)[i]]'(by rw [e2, List.length_map]; exact hk) = g[i] := by
    rw [← e3]
    congr 1
  have e5 : (rngI (dd g).length)[(dd (prs B g)).idxOf (prs B g)[i]]'(by rw [rng_len, e2, List.length_map]; exact hk) = g[i] := by
    rw [← e4]
    congr 1
    exact f.symm
  rw [← e5]
  unfold rngI
  rw [List.getElem_map, List.getElem_range]
/-- step by step -/
def itG (B : List (List Int)) (g : List Int) : Nat → List Int
  | 0 => g
  | j + 1 => stG B (itG B g j)
theorem itG_len {B : List (List Int)} {g : List Int} (h : g.length = B.length) : ∀ j, (itG B g j).length = B.length
  | 0 => h
  | j + 1 => stG_len _ _
theorem itG_fo {B : List (List Int)} {g : List Int} (h : Fo g) : ∀ j, Fo (itG B g j)
  | 0 => h
  | j + 1 => num_fo _
theorem num_at {α : Type} [DecidableEq α] {l : List α} {i : Nat} (hi : i < l.length) : gi (num l) i = (((dd l).idxOf l[i] : Nat) : Int) := by
  unfold gi num
  rw [List.getD_eq_getElem?_getD, List.getElem?_map, Int.toNat_natCast, List.getElem?_eq_getElem hi]
  rfl
theorem num_eq {α : Type} [DecidableEq α] {l : List α} {i k : Nat} (hi : i < l.length) (hk : k < l.length) : gi (num l) i = gi (num l) k ↔ l[i] = l[k] := by
  rw [num_at hi, num_at hk]
  constructor
  · intro e
    exact idx_inj (dd_mem.mpr (List.getElem_mem hi)) (dd_mem.mpr (List.getElem_mem hk)) (by omega)
  · intro e
    rw [e]
theorem prs_at {B : List (List Int)} {g : List Int} {i : Nat} (hi : i < B.length) : (prs B g)[i]'(by rw [prs_len]; exact hi) = ⟨gi g i, (B[i]).map (gi g)⟩ := by
  have e : (prs B g)[i]? = some ⟨gi g i, (B[i]).map (gi g)⟩ := by
    unfold prs
    rw [List.getElem?_map, List.getElem?_range hi]
    show some (Pr.mk (g.getD i 0) ((B.getD i []).map (gi g))) = _
    rw [List.getD_eq_getElem?_getD (l := B), List.getElem?_eq_getElem hi]
    rfl
  rw [List.getElem?_eq_getElem (by rw [prs_len]; exact hi)] at e
  exact Option.some.inj e
theorem map_row {r r' : List Int} {φ ψ : Int → Int} (h : r.length = r'.length) (k : ∀ c, c < r.length → φ (r.getD c 0) = ψ (r'.getD c 0)) : r.map φ = r'.map ψ := by
  refine List.ext_getElem (by rw [List.length_map, List.length_map, h]) fun i h1 h2 => ?_
  rw [List.length_map] at h1 h2
  have := k i h1
  rw [List.getD_eq_getElem?_getD, List.getElem?_eq_getElem h1, List.getD_eq_getElem?_getD, List.getElem?_eq_getElem h2] at this
  rw [List.getElem_map, List.getElem_map]
  exact this
theorem row_get {r r' : List Int} {φ : Int → Int} {c : Nat} (h : c < r.length) (h' : c < r'.length) (e : r.map φ = r'.map φ) : φ (r.getD c 0) = φ (r'.getD c 0) := by
  rw [List.getD_eq_getElem?_getD, List.getElem?_eq_getElem h, List.getD_eq_getElem?_getD, List.getElem?_eq_getElem h']
  have : (r.map φ)[c]'(by rw [List.length_map]; exact h) = (r'.map φ)[c]'(by rw [List.length_map]; exact h') := by congr 1
  rw [List.getElem_map, List.getElem_map] at this
  exact this
/-- the least many groups: what refining ends with -/
structure Ref (B : List (List Int)) (wd : Nat) (ms : List Bool) (g : List Int) : Prop where
  len : g.length = B.length
  fo : Fo g
  fix : stG B g = g
  by_ : ∃ j, g = itG B (num ms) j
section
variable {B : List (List Int)} {wd : Nat} {n : Int} {ms : List Bool} {g : List Int}
theorem it_mark (h : ms.length = B.length) : ∀ (j : Nat) {i k : Nat} (hi : i < B.length) (hk : k < B.length), gi (itG B (num ms) j) i = gi (itG B (num ms) j) k → ms[i] = ms[k]
  | 0, i, k, hi, hk, e => (num_eq (l := ms) (h ▸ hi) (h ▸ hk)).mp e
  | j + 1, i, k, hi, hk, e => by
    have e := (num_eq (l := prs B (itG B (num ms) j)) (by rw [prs_len]; exact hi) (by rw [prs_len]; exact hk)).mp e
    rw [prs_at hi, prs_at hk] at e
    injection e with e1 _
    exact it_mark h j hi hk e1
theorem Ref.mark (r : Ref B wd ms g) (h : ms.length = B.length) {i k : Nat} (hi : i < B.length) (hk : k < B.length) (e : gi g i = gi g k) : ms[i] = ms[k] := by
  obtain ⟨j, rfl⟩ := r.by_
  exact it_mark h j hi hk e
theorem tab_row (ok : TabOk B wd n) {i : Nat} (hi : i < B.length) {c : Nat} (hc : c < wd) : ∃ h : c < B[i].length, rowF B (i : Int) c = B[i].getD c 0 := by
  refine ⟨by rw [(ok.row _ (List.getElem_mem hi)).1]; exact hc, ?_⟩
  unfold rowF
  rw [List.getD_eq_getElem?_getD (l := B), Int.toNat_natCast, List.getElem?_eq_getElem hi]
  rfl
theorem it_least (ok : TabOk B wd n) (h : ms.length = B.length) {q : Int → Int} (q1 : ∀ (i k : Nat) (hi : i < B.length) (hk : k < B.length), q i = q k → ms[i] = ms[k])
    (q2 : ∀ (i k c : Nat), i < B.length → k < B.length → c < wd → q i = q k → q (rowF B i c) = q (rowF B k c)) : ∀ (j : Nat) {i k : Nat} (hi : i < B.length) (hk : k < B.length), q i = q k → gi (itG B (num ms) j) i = gi (itG B (num ms) j) k
  | 0, i, k, hi, hk, e => (num_eq (l := ms) (h ▸ hi) (h ▸ hk)).mpr (q1 i k hi hk e)
  | j + 1, i, k, hi, hk, e => by
    refine (num_eq (l := prs B (itG B (num ms) j)) (by rw [prs_len]; exact hi) (by rw [prs_len]; exact hk)).mpr ?_
    rw [prs_at hi, prs_at hk, it_least ok h q1 q2 j hi hk e]
    have wi := (ok.row _ (List.getElem_mem hi)).1
    have wk := (ok.row _ (List.getElem_mem hk)).1
    congr 1
    refine map_row (by rw [wi, wk]) fun c hc => ?_
    rw [wi] at hc
    obtain ⟨c1, r1⟩ := tab_row ok hi hc
    obtain ⟨c2, r2⟩ := tab_row ok hk hc
    have z := q2 i k c hi hk hc e
    have hl := ok.len
    have b1 := rowF_in ok (k := (i : Int)) ⟨by omega, by omega⟩ hc
    have b2 := rowF_in ok (k := (k : Int)) ⟨by omega, by omega⟩ hc
    have n1 : ((rowF B i c).toNat : Int) = rowF B i c := by omega
    have n2 : ((rowF B k c).toNat : Int) = rowF B k c := by omega
    rw [← n1, ← n2] at z
    have := it_least ok h q1 q2 j (i := (rowF B i c).toNat) (k := (rowF B k c).toNat) (by omega) (by omega) z
    rw [n1, n2, r1, r2] at this
    exact this
theorem Ref.least (r : Ref B wd ms g) (ok : TabOk B wd n) (h : ms.length = B.length) {q : Int → Int} (q1 : ∀ (i k : Nat) (hi : i < B.length) (hk : k < B.length), q i = q k → ms[i] = ms[k])
    (q2 : ∀ (i k c : Nat), i < B.length → k < B.length → c < wd → q i = q k → q (rowF B i c) = q (rowF B k c)) {i k : Nat} (hi : i < B.length) (hk : k < B.length) (e : q i = q k) : gi g i = gi g k := by
  obtain ⟨j, rfl⟩ := r.by_
  exact it_least ok h q1 q2 j hi hk e
/-- alike ones lead to alike ones -/
theorem Ref.cong (r : Ref B wd ms g) (ok : TabOk B wd n) {i k : Nat} (hi : i < B.length) (hk : k < B.length) (e : gi g i = gi g k) : B[i].map (gi g) = B[k].map (gi g) := by
  rw [← r.fix] at e
  have e := (num_eq (l := prs B g) (by rw [prs_len]; exact hi) (by rw [prs_len]; exact hk)).mp e
  rw [prs_at hi, prs_at hk] at e
  injection e
theorem Ref.congF (r : Ref B wd ms g) (ok : TabOk B wd n) {i k : Nat} (hi : i < B.length) (hk : k < B.length) (e : gi g i = gi g k) {c : Nat} (hc : c < wd) : gi g (rowF B i c) = gi g (rowF B k c) := by
  obtain ⟨c1, r1⟩ := tab_row ok hi hc
  obtain ⟨c2, r2⟩ := tab_row ok hk hc
  rw [r1, r2]
  exact row_get c1 c2 (r.cong ok hi hk e)
end
end RM
set_option Elab.async false
set_option linter.all false
set_option maxRecDepth 100000
set_option maxHeartbeats 4000000
namespace RM
open PySem L2 PyProof.Rows K1 WK ND
/-- how many groups -/
def cls (g : List Int) : Nat := (dd g).length
def kept (B : List (List Int)) (g : List Int) : List (List Int) := (rngI (cls g)).map fun a => (B.getD (g.idxOf a) []).map (gi g)
def endsK (ms : List Bool) (g : List Int) : List Int := (rngI (cls g)).filter fun a => ms.getD (g.idxOf a) false
section
variable {B : List (List Int)} {wd : Nat} {n : Int} {ms : List Bool} {g : List Int}
theorem fo_zero (f : Fo g) (h : 0 < g.length) : gi g 0 = 0 ∧ 0 < cls g := by
  obtain ⟨a, t, rfl⟩ : ∃ a t, g = a :: t := by
    cases g with
    | nil => exact absurd h (Nat.lt_irrefl 0)
    | cons a t => exact ⟨a, t, rfl⟩
  have e : dd (a :: t) = t.foldl addG [a] := rfl
  have pos : 0 < cls (a :: t) := by
    unfold cls
    have : a ∈ dd (a :: t) := dd_mem.mpr (.head _)
    exact List.length_pos_of_mem this
  refine ⟨?_, pos⟩
  have pre : ∀ (l o : List Int), o <+: l.foldl addG o := by
    intro l
    induction l with
    | nil => exact fun o => List.prefix_refl _
    | cons b l ih =>
      intro o
      refine List.IsPrefix.trans ?_ (ih _)
      unfold addG
      split
      · exact List.prefix_refl _
      · exact List.prefix_append _ _
  obtain ⟨r, hr⟩ := pre t [a]
  have h0 : (dd (a :: t))[0]? = some a := by rw [e, ← hr] <;> rfl
  have f2 : dd (a :: t) = rngI (cls (a :: t)) := f
  rw [f2, rng_at, if_pos pos] at h0
  exact (Option.some.inj h0).symm
theorem kept_len : (kept B g).length = cls g := by unfold kept; rw [List.length_map, rng_len]
theorem idx_in (f : Fo g) {a : Int} (h : 0 ≤ a ∧ a < cls g) : g.idxOf a < g.length ∧ gi g (g.idxOf a : Nat) = a := by
  have m : a ∈ g := f.mem.mpr h
  exact ⟨List.idxOf_lt_length_of_mem m, gi_idx m⟩
theorem gi_in (f : Fo g) {i : Nat} (h : i < g.length) : 0 ≤ gi g i ∧ gi g i < cls g := f.mem.mp (gi_mem ⟨by omega, by omega⟩)
theorem kept_at (r : Ref B wd ms g) {a : Nat} (h : a < cls g) : ∃ hi : g.idxOf (a : Int) < B.length, (kept B g)[a]? = some ((B[g.idxOf (a : Int)]).map (gi g)) := by
  have hi := (idx_in r.fo (a := (a : Int)) ⟨by omega, by omega⟩).1
  rw [r.len] at hi
  refine ⟨hi, ?_⟩
  unfold kept
  rw [List.getElem?_map, rng_at, if_pos h]
  show some ((B.getD (g.idxOf (a : Int)) []).map (gi g)) = _
  rw [List.getD_eq_getElem?_getD (l := B), List.getElem?_eq_getElem hi]
  rfl
theorem kept_tab (r : Ref B wd ms g) (ok : TabOk B wd n) : TabOk (kept B g) wd (cls g : Nat) := by
  refine ⟨by rw [kept_len], fun x hx => ?_⟩
  obtain ⟨a, ha⟩ := List.mem_iff_getElem?.mp hx
  have hl : a < cls g := by rw [← kept_len (B := B)]; exact (List.getElem?_eq_some_iff.mp ha).1
  obtain ⟨hi, e⟩ := kept_at r hl
  rw [e] at ha
  obtain rfl := Option.some.inj ha
  obtain ⟨w, b⟩ := ok.row _ (List.getElem_mem hi)
  refine ⟨by rw [List.length_map, w], fun y hy => ?_⟩
  obtain ⟨z, hz, rfl⟩ := List.mem_map.mp hy
  have bz := b z hz
  have hl := ok.len
  have := gi_in r.fo (i := z.toNat) (by rw [r.len]; omega)
  rw [show ((z.toNat : Nat) : Int) = z by omega] at this
  exact this
/-- kept rows lead as their places do -/
theorem kept_step (r : Ref B wd ms g) (ok : TabOk B wd n) {i c : Nat} (hi : i < B.length) (hc : c < wd) : rowF (kept B g) (gi g i) c = gi g (rowF B i c) := by
  have b := gi_in r.fo (i := i) (by rw [r.len]; exact hi)
  obtain ⟨a, ea⟩ : ∃ a : Nat, gi g i = (a : Int) := ⟨(gi g i).toNat, by omega⟩
  obtain ⟨i1, i2⟩ := idx_in r.fo b
  rw [ea] at b i1 i2 ⊢
  obtain ⟨hf, e⟩ := kept_at r (a := a) (by omega)
  have ec := r.congF ok (i := g.idxOf (a : Int)) (k := i) hf hi (i2.trans ea.symm) hc
  rw [← ec]
  obtain ⟨c1, r1⟩ := tab_row ok hf hc
  rw [r1]
  unfold rowF
  rw [List.getD_eq_getElem?_getD (l := kept B g), Int.toNat_natCast, e]
  show ((B[g.idxOf (a : Int)]).map (gi g)).getD c 0 = _
  rw [List.getD_eq_getElem?_getD, List.getElem?_map, List.getElem?_eq_getElem c1, List.getD_eq_getElem?_getD, List.getElem?_eq_getElem c1]
  rfl
theorem led_in {L u : W} (ok : TabOk B L.length n) : ∀ {u : W}, (∀ c ∈ u, c ∈ L) → ∀ {k : Int}, 0 ≤ k ∧ k < n → 0 ≤ ledL L B u k ∧ ledL L B u k < n
  | [], _, _, h => h
  | c :: u, hu, k, h => led_in (u := u) ok (fun x hx => hu x (.tail _ hx)) (rowF_in ok h (List.idxOf_lt_length_of_mem (hu c (.head _))))
theorem led_move {L : W} {U Z : List (List Int)} {m : Int} (ok : TabOk U L.length m) (φ : Int → Int) (hs : ∀ (i : Int) (c : Nat), 0 ≤ i ∧ i < m → c < L.length → rowF Z (φ i) c = φ (rowF U i c)) : ∀ {u : W}, (∀ c ∈ u, c ∈ L) → ∀ {k : Int}, 0 ≤ k ∧ k < m → ledL L Z u (φ k) = φ (ledL L U u k)
  | [], _, _, _ => rfl
  | c :: u, hu, k, h => by
    have hc := List.idxOf_lt_length_of_mem (hu c (.head _))
    show ledL L Z u (rowF Z (φ k) (L.idxOf c)) = φ (ledL L U u (rowF U k (L.idxOf c)))
    rw [hs k _ h hc]
    exact led_move ok φ hs (fun x hx => hu x (.tail _ hx)) (rowF_in ok h hc)
theorem kept_led {L : W} (r : Ref B L.length ms g) (ok : TabOk B L.length n) {u : W} (hu : ∀ c ∈ u, c ∈ L) {k : Int} (hk : 0 ≤ k ∧ k < n) : ledL L (kept B g) u (gi g k) = gi g (ledL L B u k) := by
  have hl := ok.len
  refine led_move ok (gi g) (fun i c hi hc => ?_) hu hk
  have := kept_step r ok (i := i.toNat) (c := c) (by omega) hc
  rw [show ((i.toNat : Nat) : Int) = i by omega] at this
  exact this
theorem ends_mem (r : Ref B wd ms g) (hm : ms.length = B.length) {i : Nat} (hi : i < B.length) : gi g i ∈ endsK ms g ↔ ms[i] = true := by
  have b := gi_in r.fo (i := i) (by rw [r.len]; exact hi)
  obtain ⟨i1, i2⟩ := idx_in r.fo b
  have i3 : g.idxOf (gi g i) < B.length := by rw [← r.len]; exact i1
  have e := r.mark hm (i := g.idxOf (gi g i)) (k := i) i3 hi i2
  unfold endsK
  rw [List.mem_filter, rng_mem, ← e, List.getD_eq_getElem?_getD, List.getElem?_eq_getElem (by rw [hm]; exact i3)]
  exact ⟨fun h => h.2, fun h => ⟨b, h⟩⟩
end
/-- what is kept of a table with some ends -/
def Least (T : List (List Int)) (wd : Nat) (ends : List Int) (kp : List (List Int)) (en : List Int) : Prop :=
  ∃ g, Ref (leanT T wd) wd ((wyA T 0 T.length).map fun a => decide (a ∈ ends)) g ∧ kp = kept (leanT T wd) g ∧ en = endsK ((wyA T 0 T.length).map fun a => decide (a ∈ ends)) g
section
variable {T : List (List Int)} {wd : Nat} {n : Int} {ends : List Int} {kp : List (List Int)} {en : List Int}
theorem lean_tab (ok : TabOk T wd n) (h1 : 1 ≤ n) : TabOk (leanT T wd) wd ((leanT T wd).length : Nat) ∧ 1 ≤ (leanT T wd).length ∧ (leanT T wd).length = (wyA T 0 T.length).length := by
  obtain ⟨N, d, le⟩ := done_row ok h1
  have hl := ok.len
  have e := exAll_len d (show N ≤ T.length by omega)
  have eV : leanT T wd = (exAll (rowF T) (List.range wd) 0 N).2 := by
    unfold leanT
    rw [e]
  have rl := exAll_rows (f := rowF T) (L := List.range wd) (start := (0 : Int)) N
  rw [d.len, Nat.min_self] at rl
  have t := d.tab
  rw [List.length_range] at t
  refine ⟨?_, by rw [eV, rl]; exact d.pos, (ord_of ok h1).len⟩
  rw [eV, rl]
  exact t
theorem lean_step (ok : TabOk T wd n) (h1 : 1 ≤ n) {i : Int} {c : Nat} (hi : 0 ≤ i ∧ i < ((leanT T wd).length : Nat)) (hc : c < wd) : rowF T (gi (wyA T 0 T.length) i) c = gi (wyA T 0 T.length) (rowF (leanT T wd) i c) := by
  have o := ord_of ok h1
  have hi2 : i.toNat < (wyA T 0 T.length).length := by rw [← o.len]; omega
  obtain ⟨r, hr, hv, e1, w1, w2, st⟩ := o.row i.toNat hi2
  obtain ⟨j, hj, e2, e3⟩ := st c (by omega) (by omega)
  have tk := (lean_tab ok h1).1
  obtain ⟨c1, r1⟩ := tab_row tk hv hc
  obtain ⟨c2, r2⟩ := tab_row ok hr hc
  have ei : ((i.toNat : Nat) : Int) = i := by omega
  rw [ei] at r1
  obtain ⟨_, g1⟩ := gi_at (g := wyA T 0 T.length) (a := i) ⟨hi.1, by omega⟩
  rw [g1, e1, r1, r2]
  have z1 : (leanT T wd)[i.toNat].getD c 0 = (j : Int) := by rw [List.getD_eq_getElem?_getD, List.getElem?_eq_getElem (by omega)]; exact e3
  have z2 : T[r].getD c 0 = (wyA T 0 T.length)[j] := by rw [List.getD_eq_getElem?_getD, List.getElem?_eq_getElem (by omega), e2]; rfl
  rw [z1, z2]
  obtain ⟨_, g2⟩ := gi_at (g := wyA T 0 T.length) (a := (j : Int)) ⟨by omega, by omega⟩
  rw [g2]
  rfl
theorem way_zero {T : List (List Int)} : ∀ j, gi (wyA T 0 j) 0 = 0 := by
  have pre : ∀ j, [(0 : Int)] <+: wyA T 0 j := by
    intro j
    induction j with
    | zero => exact List.prefix_refl _
    | succ j ih =>
      refine ih.trans ?_
      show _ <+: (match (wyA T 0 j)[j]? with | some r => _ | none => _)
      split
      · exact addF_grows _ _
      · exact List.prefix_refl _
  intro j
  obtain ⟨t, ht⟩ := pre j
  rw [← ht]
  rfl
/-- it takes the same words -/
theorem Least.words {L : W} (l : Least T L.length ends kp en) (ok : TabOk T L.length n) (h1 : 1 ≤ n) {u : W} (hu : ∀ c ∈ u, c ∈ L) : ledL L kp u 0 ∈ en ↔ ledL L T u 0 ∈ ends := by
  obtain ⟨g, r, rfl, rfl⟩ := l
  obtain ⟨tk, t1, t2⟩ := lean_tab ok h1
  have z := (fo_zero r.fo (by rw [r.len]; omega)).1
  have e1 := kept_led r tk hu (k := 0) ⟨Int.le_refl _, by omega⟩
  rw [z] at e1
  rw [e1]
  have e2 := led_move (U := leanT T L.length) (Z := T) tk (gi (wyA T 0 T.length)) (fun i c hi hc => lean_step ok h1 hi hc) hu (k := 0) ⟨Int.le_refl _, by omega⟩
  rw [way_zero] at e2
  have b := led_in (u := u) tk hu (k := 0) ⟨Int.le_refl _, by omega⟩
  have hi : (ledL L (leanT T L.length) u 0).toNat < (leanT T L.length).length := by omega
  have en := ends_mem r (by rw [List.length_map, t2]) hi
  rw [show (((ledL L (leanT T L.length) u 0).toNat : Nat) : Int) = ledL L (leanT T L.length) u 0 by omega] at en
  rw [en, List.getElem_map, decide_eq_true_iff, e2]
  obtain ⟨_, g2⟩ := gi_at (g := wyA T 0 T.length) (a := ledL L (leanT T L.length) u 0) ⟨b.1, by omega⟩
  rw [g2]
theorem Least.tab (l : Least T wd ends kp en) (ok : TabOk T wd n) (h1 : 1 ≤ n) : TabOk kp wd (kp.length : Nat) ∧ 1 ≤ kp.length ∧ kp.length ≤ (leanT T wd).length ∧ kp.length ≤ T.length := by
  obtain ⟨g, r, rfl, rfl⟩ := l
  obtain ⟨tk, t1, t2⟩ := lean_tab ok h1
  have k := kept_tab r tk
  have le : cls g ≤ (leanT T wd).length := by
    rw [← r.len]
    exact dd_len g
  have o := ord_of ok h1
  have le2 := o.le
  rw [kept_len]
  exact ⟨k, (fo_zero r.fo (by rw [r.len]; omega)).2, le, by omega⟩
end
section
variable {B : List (List Int)} {wd : Nat} {n : Int} {ms : List Bool} {g : List Int}
theorem way_done {T : List (List Int)} : ∀ (j f r : Nat), f < j → (wyA T 0 j)[f]? = some (r : Int) → ∀ x ∈ T.getD r [], x ∈ wyA T 0 j
  | 0, f, r, h, _, _, _ => absurd h (Nat.not_lt_zero _)
  | j + 1, f, r, h, e, x, hx => by
    have grow : wyA T 0 j <+: wyA T 0 (j + 1) := by
      show _ <+: (match (wyA T 0 j)[j]? with | some r => _ | none => _)
      split
      · exact addF_grows _ _
      · exact List.prefix_refl _
    by_cases hf : f < (wyA T 0 j).length
    · have e2 : (wyA T 0 j)[f]? = some (r : Int) := by
        obtain ⟨t, ht⟩ := grow
        rw [← ht, List.getElem?_append_left hf] at e
        exact e
      by_cases fj : f < j
      · exact grow.subset (way_done j f r fj e2 x hx)
      · have : f = j := by omega
        subst this
        rw [wyA_at e2]
        rw [Int.toNat_natCast]
        exact (foldG_mem (α := Int)).mpr (.inr hx)
    · by_cases hj : (wyA T 0 j).length ≤ j
      · have s := wyA_stop hj 1
        rw [s, List.getElem?_eq_none (by omega)] at e
        exact nomatch e
      · omega
end
end RM
set_option Elab.async false
set_option linter.all false
set_option maxRecDepth 100000
set_option maxHeartbeats 4000000
namespace RM
open PySem L2 PyProof.Rows K1 WK ND
theorem foldG_pre {α : Type} [DecidableEq α] : ∀ (l o : List α), o <+: l.foldl addG o
  | [], _ => List.prefix_refl _
  | a :: l, o => by
    refine List.IsPrefix.trans ?_ (foldG_pre l (addG o a))
    unfold addG
    split
    · exact List.prefix_refl _
    · exact List.prefix_append _ _
theorem foldG_all {α : Type} [DecidableEq α] : ∀ {l o : List α}, (∀ x ∈ l, x ∈ o) → l.foldl addG o = o
  | [], _, _ => rfl
  | a :: l, o, h => by
    rw [List.foldl_cons, addG_in (h a (.head _))]
    exact foldG_all fun x hx => h x (.tail _ hx)
/-- the rows of an explored table come in order -/
structure Way (B : List (List Int)) : Prop where
  way : ∀ j ≤ B.length, ∃ c, wyA B 0 j = rngI c ∧ (j < B.length → j < c) ∧ c ≤ B.length
  all : wyA B 0 B.length = rngI B.length
theorem way_of {α : Type} [DecidableEq α] {f : α → Nat → α} {L : W} {start : α} {N : Nat} (d : Done f L start N) : Way (exAll f L start N).2 := by
  have rl := exAll_rows (f := f) (L := L) (start := start) N
  rw [d.len, Nat.min_self] at rl
  refine ⟨fun j hj => ⟨_, ex_way j (rl ▸ hj), fun lt => ?_, ?_⟩, d.lean.all⟩
  · refine Classical.byContradiction fun z => ?_
    have := exAll_stop (f := f) (L := L) (start := start) (j := j) (by omega) (N - j)
    rw [show j + (N - j) = N by omega] at this
    have l2 := d.len
    rw [this] at l2
    omega
  · have p := (exAll_pre (f := f) (L := L) (start := start) j (N - j)).1.length_le
    rw [show j + (N - j) = N by omega, d.len] at p
    omega
theorem way_lean {T : List (List Int)} {wd : Nat} {n : Int} (ok : TabOk T wd n) (h1 : 1 ≤ n) : Way (leanT T wd) := by
  obtain ⟨N, d, le⟩ := done_row ok h1
  have hl := ok.len
  have e := exAll_len d (show N ≤ T.length by omega)
  have eV : leanT T wd = (exAll (rowF T) (List.range wd) 0 N).2 := by
    unfold leanT
    rw [e]
  rw [eV]
  exact way_of d
section
variable {B : List (List Int)} {wd : Nat} {n : Int} {ms : List Bool} {g : List Int}
theorem rng_take {c : Nat} (h : c ≤ g.length) : (rngI c).map (gi g) = g.take c := by
  refine List.ext_getElem (by rw [List.length_map, rng_len, List.length_take, Nat.min_eq_left h]) fun i h1 h2 => ?_
  rw [List.length_map, rng_len] at h1
  rw [List.getElem_take, List.getElem_map]
  show gi g ((rngI c)[i]'(by rw [rng_len]; exact h1)) = _
  have : (rngI c)[i]'(by rw [rng_len]; exact h1) = (i : Int) := by unfold rngI; rw [List.getElem_map, List.getElem_range]
  rw [this]
  obtain ⟨_, e⟩ := gi_at (g := g) (a := (i : Int)) ⟨by omega, by omega⟩
  rw [e]
  rfl
theorem take_dd (f : Fo g) (j : Nat) : dd (g.take j) = rngI (dd (g.take j)).length ∧ (dd (g.take j)).length ≤ cls g := by
  have p : dd (g.take j) <+: dd g := by
    have := foldG_pre (g.drop j) (dd (g.take j))
    rw [← dd_app, List.take_append_drop] at this
    exact this
  have f2 : dd g = rngI (cls g) := f
  refine ⟨?_, p.length_le⟩
  rw [f2] at p
  obtain ⟨t, ht⟩ := p
  refine List.ext_getElem? fun i => ?_
  by_cases h : i < (dd (g.take j)).length
  · have e : (rngI (cls g))[i]? = (dd (g.take j))[i]? := by rw [← ht, List.getElem?_append_left h]
    have hl : (dd (g.take j)).length ≤ cls g := by
      have := congrArg List.length ht
      rw [List.length_append, rng_len] at this
      omega
    rw [← e, rng_at, rng_at, if_pos h, if_pos (by omega)]
  · rw [List.getElem?_eq_none (by omega), rng_at, if_neg h]
theorem kept_way (r : Ref B wd ms g) (ok : TabOk B wd n) (pos : 0 < B.length) (wy : Way B) : ∀ j ≤ B.length, wyA (kept B g) 0 (dd (g.take j)).length = dd ((wyA B 0 j).map (gi g))
  | 0, _ => by
    have z := (fo_zero r.fo (by rw [r.len]; exact pos)).1
    show [(0 : Int)] = dd ([(0 : Int)].map (gi g))
    rw [List.map_cons, z]
    rfl
  | j + 1, hj => by
    have ih := kept_way r ok pos wy j (Nat.le_of_succ_le hj)
    have hj2 : j < g.length := by rw [r.len]; exact hj
    obtain ⟨c, w1, w2, w3⟩ := wy.way j (Nat.le_of_succ_le hj)
    have w2 := w2 hj
    have at_ : (wyA B 0 j)[j]? = some ((j : Nat) : Int) := by rw [w1, rng_at, if_pos w2]
    have eB : B.getD ((j : Nat) : Int).toNat [] = B[j] := by rw [Int.toNat_natCast, List.getD_eq_getElem?_getD, List.getElem?_eq_getElem hj] <;> rfl
    have tk : g.take (j + 1) = g.take j ++ [g[j]] := by rw [List.take_succ, List.getElem?_eq_getElem hj2] <;> rfl
    have gj : gi g (j : Nat) = g[j] := by
      obtain ⟨_, e⟩ := gi_at (g := g) (a := (j : Int)) ⟨by omega, by omega⟩
      rw [e] <;> rfl
    have right : dd ((wyA B 0 (j + 1)).map (gi g)) = (B[j].map (gi g)).foldl addG (dd ((wyA B 0 j).map (gi g))) := by
      rw [wyA_at at_, eB]
      exact dd_fold (gi g) B[j] (wyA B 0 j)
    rw [right, tk, dd_one]
    by_cases old : g[j] ∈ g.take j
    · rw [addG_in (dd_mem.mpr old), ih]
      have mem : g[j] ∈ g := List.getElem_mem hj2
      have fj : g.idxOf g[j] < j := by
        have e1 := idx_pre old (List.take_prefix j g)
        have e2 := List.idxOf_lt_length_of_mem old
        rw [List.length_take] at e2
        omega
      have fB : g.idxOf g[j] < B.length := by omega
      have ec := r.cong ok (i := g.idxOf g[j]) (k := j) fB hj (by rw [gj]; exact gi_idx mem)
      rw [← ec]
      refine (foldG_all fun x hx => ?_).symm
      obtain ⟨y, hy, rfl⟩ := List.mem_map.mp hx
      refine dd_mem.mpr (List.mem_map_of_mem ?_)
      refine way_done j (g.idxOf g[j]) (g.idxOf g[j]) fj (by rw [w1, rng_at, if_pos (by omega)]) y ?_
      rw [List.getD_eq_getElem?_getD, List.getElem?_eq_getElem fB]
      exact hy
    · obtain ⟨t1, t2⟩ := take_dd r.fo (g := g) j
      obtain ⟨u1, u2⟩ := take_dd r.fo (g := g) (j + 1)
      have out : g[j] ∉ dd (g.take j) := fun z => old (dd_mem.mp z)
      rw [tk, dd_one, addG_out out, List.length_append, List.length_singleton] at u1 u2
      rw [addG_out out, List.length_append, List.length_singleton]
      generalize ha : (dd (g.take j)).length = a at ih t1 t2 u1 u2 ⊢
      have ga : g[j] = (a : Int) := by
        have : (dd (g.take j) ++ [g[j]])[a]? = (rngI (a + 1))[a]? := by rw [u1]
        rw [rng_at, if_pos (by omega), List.getElem?_append_right (by omega), ha, Nat.sub_self] at this
        exact Option.some.inj this
      have idx : g.idxOf (a : Int) = j := by
        have h1 : g.idxOf (a : Int) ≤ j := by
          have m : (a : Int) ∈ g.take (j + 1) := List.mem_take_iff_getElem.mpr ⟨j, by omega, ga⟩
          have e1 := idx_pre m (List.take_prefix (j + 1) g)
          have e2 := List.idxOf_lt_length_of_mem m
          rw [List.length_take] at e2
          omega
        have h2 : ¬ g.idxOf (a : Int) < j := fun z => by
          have m : (a : Int) ∈ g := ga ▸ List.getElem_mem hj2
          have hh := List.idxOf_lt_length_of_mem m
          have : g[g.idxOf (a : Int)] ∈ g.take j := List.mem_take_iff_getElem.mpr ⟨g.idxOf (a : Int), by omega, rfl⟩
          rw [List.getElem_idxOf hh] at this
          exact old (ga ▸ this)
        omega
      obtain ⟨hi, ek⟩ := kept_at r (a := a) (by omega)
      have ek2 : (kept B g).getD a [] = B[j].map (gi g) := by
        rw [List.getD_eq_getElem?_getD, ek]
        show (B[g.idxOf (a : Int)]).map (gi g) = _
        simp only [idx]
      have ex : dd ((wyA B 0 j).map (gi g)) = rngI (dd (g.take c)).length := by
        rw [w1, rng_take (by rw [r.len]; exact w3)]
        exact (take_dd r.fo c).1
      have lt : a < (dd (g.take c)).length := by
        have m : g[j] ∈ dd (g.take c) := dd_mem.mpr (List.mem_take_iff_getElem.mpr ⟨j, by have := r.len; omega, rfl⟩)
        rw [(take_dd r.fo c).1, ga] at m
        have := rng_mem.mp m
        omega
      have at2 : (wyA (kept B g) 0 a)[a]? = some ((a : Nat) : Int) := by rw [ih, ex, rng_at, if_pos lt]
      rw [wyA_at at2, Int.toNat_natCast, ek2, ih]
      rfl
theorem kept_lean (r : Ref B wd ms g) (ok : TabOk B wd n) (pos : 0 < B.length) (wy : Way B) : LeanT (kept B g) := by
  refine ⟨?_⟩
  have e := kept_way r ok pos wy B.length (Nat.le_refl _)
  rw [wy.all, rng_take (by rw [r.len]; exact Nat.le_refl _)] at e
  rw [show g.take B.length = g by rw [← r.len, List.take_length]] at e
  rw [kept_len]
  exact e.trans r.fo
/-- a table in order is its own lean one -/
theorem lean_self {T : List (List Int)} (ok : TabOk T wd n) (h1 : 1 ≤ n) (l : LeanT T) : leanT T wd = T := by
  have o := ord_of ok h1
  have hl := o.len
  rw [l.all, rng_len] at hl
  refine List.ext_getElem hl fun i h1 h2 => ?_
  obtain ⟨r, hr, hv, e1, w1, w2, st⟩ := o.row i (by rw [← o.len]; exact h1)
  have rg : ∀ (i : Nat) (hi : i < (wyA T 0 T.length).length), (wyA T 0 T.length)[i] = (i : Int) := fun i hi => by
    have e : (wyA T 0 T.length)[i]? = some (i : Int) := by
      rw [l.all, rng_at, if_pos]
      rw [l.all, rng_len] at hi
      exact hi
    rw [List.getElem?_eq_getElem hi] at e
    exact Option.some.inj e
  rw [rg] at e1
  have er : r = i := by omega
  subst er
  refine List.ext_getElem (by rw [w2, w1]) fun k k1 k2 => ?_
  obtain ⟨j, hj, e2, e3⟩ := st k k2 k1
  rw [rg] at e2
  rw [e3, e2]
/-- refining what is kept parts all -/
theorem kept_ref (r : Ref B wd ms g) (ok : TabOk B wd n) (hm : ms.length = B.length) (pos : 0 < B.length) {g' : List Int}
    (r' : Ref (kept B g) wd ((rngI (cls g)).map fun a => decide (a ∈ endsK ms g)) g') : g' = rngI (cls g) := by
  have okK := kept_tab r ok
  have inj : ∀ a b : Int, 0 ≤ a ∧ a < cls g → 0 ≤ b ∧ b < cls g → gi g' a = gi g' b → a = b := fun a b ha hb e => by
    obtain ⟨i1, i2⟩ := idx_in r.fo ha
    obtain ⟨k1, k2⟩ := idx_in r.fo hb
    rw [r.len] at i1 k1
    have mk : ∀ (i : Nat) (hi : i < B.length), ∃ h : (gi g i).toNat < ((rngI (cls g)).map fun a => decide (a ∈ endsK ms g)).length, ((rngI (cls g)).map fun a => decide (a ∈ endsK ms g))[(gi g i).toNat] = ms[i] := fun i hi => by
      have b := gi_in r.fo (i := i) (by rw [r.len]; exact hi)
      have hl : (gi g i).toNat < (rngI (cls g)).length := by rw [rng_len]; omega
      refine ⟨by rw [List.length_map]; exact hl, ?_⟩
      rw [List.getElem_map]
      have : (rngI (cls g))[(gi g i).toNat] = gi g i := by unfold rngI; rw [List.getElem_map, List.getElem_range]; omega
      rw [this]
      have em := ends_mem r hm hi
      cases hh : ms[i] with
      | true => exact decide_eq_true (em.mpr hh)
      | false => exact decide_eq_false fun z => by rw [em.mp z] at hh; exact nomatch hh
    have hlen : ((rngI (cls g)).map fun a => decide (a ∈ endsK ms g)).length = (kept B g).length := by rw [List.length_map, rng_len, kept_len]
    have := r.least ok hm (q := fun x => gi g' (gi g x)) (fun i k hi hk e => by
      obtain ⟨a1, a2⟩ := mk i hi
      obtain ⟨b1, b2⟩ := mk k hk
      rw [← a2, ← b2]
      have bi := gi_in r.fo (i := i) (by rw [r.len]; exact hi)
      have bk := gi_in r.fo (i := k) (by rw [r.len]; exact hk)
      refine r'.mark hlen (by rw [← hlen]; exact a1) (by rw [← hlen]; exact b1) ?_
      rw [show (((gi g i).toNat : Nat) : Int) = gi g i by omega, show (((gi g k).toNat : Nat) : Int) = gi g k by omega]
      exact e) (fun i k c hi hk hc e => by
      have bi := gi_in r.fo (i := i) (by rw [r.len]; exact hi)
      have bk := gi_in r.fo (i := k) (by rw [r.len]; exact hk)
      have := r'.congF okK (i := (gi g i).toNat) (k := (gi g k).toNat) (by rw [kept_len]; omega) (by rw [kept_len]; omega) (by
        rw [show (((gi g i).toNat : Nat) : Int) = gi g i by omega, show (((gi g k).toNat : Nat) : Int) = gi g k by omega]
        exact e) hc
      rw [show (((gi g i).toNat : Nat) : Int) = gi g i by omega, show (((gi g k).toNat : Nat) : Int) = gi g k by omega, kept_step r ok hi hc, kept_step r ok hk hc] at this
      exact this) (i := g.idxOf a) (k := g.idxOf b) i1 k1 (by
        show gi g' (gi g _) = gi g' (gi g _)
        rw [i2, k2]
        exact e)
    rw [i2, k2] at this
    exact this
  have hl : g'.length = cls g := by rw [r'.len, kept_len]
  have nd : g'.Nodup := by
    refine List.pairwise_iff_getElem.mpr fun i k hi hk hik e => ?_
    obtain ⟨_, a2⟩ := gi_at (g := g') (a := (i : Int)) ⟨by omega, by omega⟩
    obtain ⟨_, b2⟩ := gi_at (g := g') (a := (k : Int)) ⟨by omega, by omega⟩
    have := inj i k ⟨by omega, by omega⟩ ⟨by omega, by omega⟩ (by rw [a2, b2]; exact e)
    omega
  have f := r'.fo
  unfold Fo at f
  rw [dd_self nd, hl] at f
  exact f
end
section
variable {T : List (List Int)} {wd : Nat} {n : Int} {ends : List Int} {kp : List (List Int)} {en : List Int}
theorem Least.lean (l : Least T wd ends kp en) (ok : TabOk T wd n) (h1 : 1 ≤ n) : LeanT kp := by
  obtain ⟨g, r, rfl, rfl⟩ := l
  obtain ⟨tk, t1, t2⟩ := lean_tab ok h1
  exact kept_lean r tk t1 (way_lean ok h1)
/-- the least one's least one is itself -/
theorem Least.again (l : Least T wd ends kp en) (ok : TabOk T wd n) (h1 : 1 ≤ n) {kp' : List (List Int)} {en' : List Int} (l' : Least kp wd en kp' en') : kp' = kp ∧ en' = en := by
  have lk := l.lean ok h1
  obtain ⟨k1, k2, k3, k4⟩ := l.tab ok h1
  obtain ⟨g, r, rfl, rfl⟩ := l
  obtain ⟨tk, t1, t2⟩ := lean_tab ok h1
  obtain ⟨g', r', e1, e2⟩ := l'
  rw [lean_self k1 (by omega) lk] at r' e1
  rw [lk.all, kept_len] at r' e2
  have eg := kept_ref r tk (by rw [List.length_map, t2]) t1 r'
  subst eg
  have cl : cls (rngI (cls g)) = cls g := by
    show (dd (rngI (cls g))).length = _
    rw [dd_self (rng_nd _), rng_len]
  have idx : ∀ a : Int, 0 ≤ a ∧ a < cls g → (rngI (cls g)).idxOf a = a.toNat := fun a h => rng_idx h
  constructor
  · rw [e1]
    refine List.ext_getElem? fun i => ?_
    by_cases hi : i < cls g
    · obtain ⟨hf, e⟩ := kept_at r' (a := i) (by rw [cl]; exact hi)
      rw [e]
      have hk : i < (kept (leanT T wd) g).length := by rw [kept_len]; exact hi
      have ei : (rngI (cls g)).idxOf ((i : Nat) : Int) = i := by rw [idx _ ⟨by omega, by omega⟩]; omega
      rw [List.getElem?_eq_getElem hk]
      congr 1
      simp only [ei]
      obtain ⟨w, b⟩ := k1.row _ (List.getElem_mem hk)
      rw [kept_len] at b
      have : ∀ x ∈ (kept (leanT T wd) g)[i], gi (rngI (cls g)) x = x := fun x hx => by
        have bx := b x hx
        obtain ⟨_, ge⟩ := gi_at (g := rngI (cls g)) (a := x) ⟨bx.1, by rw [rng_len]; exact bx.2⟩
        rw [ge]
        unfold rngI
        rw [List.getElem_map, List.getElem_range]
        omega
      rw [List.map_congr_left this, List.map_id']
    · rw [List.getElem?_eq_none (by rw [kept_len, cl]; omega), List.getElem?_eq_none (by rw [kept_len]; omega)]
  · rw [e2]
    unfold endsK
    rw [cl]
    refine List.filter_congr fun a ha => ?_
    have b := rng_mem.mp ha
    rw [idx a b, List.getD_eq_getElem?_getD, List.getElem?_map, rng_at, if_pos (by omega)]
    show decide ((((a.toNat : Nat) : Int)) ∈ _) = _
    rw [show ((a.toNat : Nat) : Int) = a by omega]
    refine Bool.eq_iff_iff.mpr ?_
    rw [decide_eq_true_iff, List.mem_filter]
    exact ⟨fun h => h.2, fun h => ⟨ha, h⟩⟩
end
end RM
set_option Elab.async false
set_option linter.all false
set_option maxRecDepth 100000
set_option maxHeartbeats 4000000
namespace DL
open PySem PySem.Spec PyProof.Rows L2
/-- an entry as it is handed in: the key, the key's tuple, the value -/
abbrev Ent := List Key × Addr × V
/-- the entry, and how it lies in memory -/
def Lies (H : Hp) (k : Ent) (x : List Key × Addr × Value) : Prop := k.1 = x.1 ∧ k.2.1 = x.2.1 ∧ RelV k.2.2 x.2.2 ∧ H x.2.1 = some (.tup (x.1.map kV))
section
variable {X : Cx}
theorem laid {pins : List (Addr × Obj)} {σ : L2.St} {H : Hp} {s : Shared} (I : Inv X pins σ H s) : ∀ {ps : List Addr} {ks : List Ent}, Paired (fun p (k : Ent) => SqT X.K H p [.ref k.2.1, k.2.2] ∧ H k.2.1 = some (.tup (k.1.map kV))) ps ks →
    ∃ xs : List (List Key × Addr × Value), Paired (Lies H) ks xs ∧ xs.length = ps.length ∧ ∀ (j : Nat) (x : List Key × Addr × Value), xs[j]? = some x → ∃ b, ps[j]? = some b ∧ IsTup s.heap b #[.ref x.2.1, x.2.2]
  | _, _, .nil => ⟨[], .nil, rfl, fun j x e => by simp at e⟩
  | _, _, .cons (a := p) (b := k) h t => by
    obtain ⟨xs, pr, len, at_⟩ := laid I t
    obtain ⟨its, rv, isT, _⟩ := I.tuple h.1
    obtain ⟨u, y, rfl, ru, ry⟩ := vals2 rv
    cases ru
    refine ⟨(k.1, k.2.1, y) :: xs, .cons ⟨rfl, rfl, ry, h.2⟩ pr, congrArg Nat.succ len, fun j x e => ?_⟩
    cases j with
    | zero =>
      obtain rfl := Option.some.inj e
      exact ⟨p, rfl, isT⟩
    | succ j =>
      obtain ⟨b, e1, e2⟩ := at_ j x e
      exact ⟨b, e1, e2⟩
end
end DL
set_option Elab.async false
set_option linter.all false
set_option maxRecDepth 100000
set_option maxHeartbeats 4000000
namespace MXL
open PySem PySem.Spec PyProof.Rows L2
theorem ints_at : ∀ {us : List Value} {ns : List Int} {i : Nat} {v : Value}, IntsAre us ns → us[i]? = some v → ∃ t, v = .int (ns.getD i 0) t
  | _, _, i, v, .nil, h => nomatch h
  | _, _, 0, v, .cons n t z, h => by
    cases h
    exact ⟨t, rfl⟩
  | _, _, i + 1, v, .cons n t z, h => ints_at (i := i) z h
theorem ints_len : ∀ {us : List Value} {ns : List Int}, IntsAre us ns → us.length = ns.length
  | _, _, .nil => rfl
  | _, _, .cons n t z => congrArg Nat.succ (ints_len z)
theorem cr_maxL {X : Cx} (hc : X.calm = true) : CallR X (.builtin "max") (fun xs H Q => ∃ (l : Addr) (ns : List Int), xs = [.ref l] ∧ SqL X.K H l (ns.map V.int) ∧ ns ≠ [] ∧ ∀ M, M ∈ ns → (∀ a ∈ ns, a ≤ M) → Q (.int M) H) := by
  rintro pins s σ H _ us Q I r ⟨l, ns, rfl, hl, ne, q⟩
  rw [Vals.ref1 r]
  obtain ⟨its, rv, pl, hz⟩ := I.list hl
  have calm : X.A.handled = none := I.ok.hd hc
  have calm1 : X.A.in1.handled = none := by simp [calm]
  have ia := rv.ints
  have lenI := ints_len ia
  have pos : 0 < its.length := by
    rw [lenI]
    exact List.length_pos_iff.mpr ne
  have isL := pl.isList
  obtain ⟨o, ho, _⟩ := isL
  have below := Heap.lt_size ho
  refine PySem.call_max_walk (wpAny_pyIter_list pl.isList ?_)
  have w := (Walks.list (prog := X.prog) (w := X.w) calm1 s.heap.objs.size l (Nat.ne_of_lt below) its.toArray)
  refine ⟨_, _, _, _, _, _, fun i j => decide (ns.getD i 0 > ns.getD j 0), rfl, w, ⟨⟨_, Heap.get?_push_size _ rfl, rfl, rfl⟩, pl.isList.push _⟩, ?_, by simpa using pos, CmpOf.ints_gt (fun i => ns.getD i 0) (fun i v h => ints_at ia (by simpa using h)), ?_⟩
  · intro b hb
    simp only [List.mem_cons, List.not_mem_nil, or_false] at hb
    rw [Heap.size_push]
    rcases hb with rfl | rfl
    · exact Nat.lt_succ_self _
    · exact Nat.lt_succ_of_lt below
  · intro v h' tk hv keep
    obtain ⟨t, rfl⟩ := ints_at ia (show its[argBest (fun i j => decide (ns.getD i 0 > ns.getD j 0)) (its.toArray.size - 1)]? = some v from List.getElem?_toArray ▸ hv)
    obtain ⟨b1, b2⟩ := argBest_gt (fun i => ns.getD i 0) (its.toArray.size - 1)
    have hsz : its.toArray.size = ns.length := by simpa using lenI
    clear hz
    have hb : argBest (fun i j => decide (ns.getD i 0 > ns.getD j 0)) (its.toArray.size - 1) < ns.length := by
      have b3 : argBest (fun i j => decide (ns.getD i 0 > ns.getD j 0)) (its.toArray.size - 1) ≤ its.toArray.size - 1 := b1
      omega
    have get : ∀ i (hi : i < ns.length), ns.getD i 0 = ns[i] := fun i hi => by rw [List.getD_eq_getElem?_getD, List.getElem?_eq_getElem hi] <;> rfl
    refine ⟨.int _, H, I.kept (fun b o z => ?_), ⟨t, rfl⟩, q _ ?_ fun a ha => ?_⟩
    · have lt := Heap.lt_size z
      exact keep b o (fun h => Nat.lt_irrefl _ (List.mem_singleton.mp h ▸ lt)) (Heap.get?_push_of_some _ z)
    · rw [get _ hb]
      exact List.getElem_mem _
    · obtain ⟨i, hi⟩ := List.mem_iff_getElem?.mp ha
      obtain ⟨hl, e⟩ := List.getElem?_eq_some_iff.mp hi
      rw [← e, ← get i hl]
      exact b2 i (by omega)
end MXL
set_option Elab.async false
set_option linter.all false
set_option maxRecDepth 100000
set_option maxHeartbeats 8000000
namespace RM
open PySem L2 PyProof.Rows LCX K1 FV DP WK ND
open PySem.W (Frag kitOne)
abbrev sNumd : Stmt := top 18
abbrev NNm : List Str := ["keys", "numbers", "key"]
/-- these values are these keys -/
def ArE {P : Program} {w : World} {α : Type} [DecidableEq α] (N : Num P w α) (H : Hp) : List V → List α → Prop
  | [], [] => True
  | v :: vs, a :: l => N.is H v a ∧ ArE N H vs l
  | _, _ => False
section
variable {P : Program} {w : World} {K : PySem.W.Frag} {mg : Str → Option Value} {base : Heap} {α : Type} [DecidableEq α] {N : Num P w α}
theorem ArE.keep {H H' : Hp} (k : KeepsTup H H') : ∀ {vs : List V} {l : List α}, ArE N H vs l → ArE N H' vs l
  | [], [], _ => trivial
  | _ :: _, _ :: _, h => ⟨N.keep h.1 k, ArE.keep k h.2⟩
  | [], _ :: _, h => h.elim
  | _ :: _, [], h => h.elim
theorem ArE.len {H : Hp} : ∀ {vs : List V} {l : List α}, ArE N H vs l → vs.length = l.length
  | [], [], _ => rfl
  | _ :: _, _ :: _, h => congrArg Nat.succ (ArE.len h.2)
  | [], _ :: _, h => h.elim
  | _ :: _, [], h => h.elim
theorem ArE.at {H : Hp} : ∀ {vs : List V} {l : List α}, ArE N H vs l → ∀ {i : Nat} {v : V}, vs[i]? = some v → ∃ a, l[i]? = some a ∧ N.is H v a
  | [], [], _, i, v, h => nomatch h
  | v :: vs, a :: l, h, 0, _, e => by
    cases e
    exact ⟨a, rfl, h.1⟩
  | v :: vs, a :: l, h, i + 1, _, e => ArE.at h.2 (i := i) e
  | [], _ :: _, h, _, _, _ => h.elim
  | _ :: _, [], h, _, _, _ => h.elim
theorem ArE.snoc {H : Hp} {v : V} {a : α} (h : N.is H v a) : ∀ {vs : List V} {l : List α}, ArE N H vs l → ArE N H (vs ++ [v]) (l ++ [a])
  | [], [], _ => ⟨h, trivial⟩
  | _ :: _, _ :: _, z => ⟨z.1, ArE.snoc h z.2⟩
  | [], _ :: _, z => z.elim
  | _ :: _, [], z => z.elim
def spNumd (K : Frag) (N : Num P w α) : Sp := fun vs H Q _ => ∃ (l : Addr) (xs : List V) (ks : List α), vs = [.ref l] ∧ H l = some (.lst xs) ∧ ArE N H xs ks ∧ ks.length ≤ 1000 ∧
  ∀ p H', H p = none → Same H H' → H' p = some (.lst ((num ks).map V.int)) → Q (.ref p) H'
theorem scNm : FnScope NNm ["keys"] (defScope sNumd) := ⟨rfl, rfl, rfl, by decide +kernel, rfl, by decide +kernel, by decide +kernel⟩
theorem ok_numd {f : Addr} {fd : FuncData} (F : Fun K "numbered" "numbered" sNumd f fd) (T : TN mg) : FnOk P w K mg base CX0 1 f fd ["keys"] (spNumd K N) := by
  refine F.ok scNm (fun vs H Q E h => ?_) (fun cdv A outer s H vs Q E hr h => ?_)
  · obtain ⟨l, xs, ks, rfl, _⟩ := h
    rfl
  · obtain ⟨l, xs, ks, rfl, hl, ar, few, q⟩ := h
    have hu := hr.units
    refine ⟨_, pss_cons (ps_set (i := 1) scNm.nd rfl (Or.inr rfl) (pe_new (N := N)))
      (pss_cons (ps_for PassesOwn.never rfl (pi_list (pv 0)) (pg_name (i := 2) scNm.nd rfl (Or.inl rfl))
        (pss_one (ps_if (pt_cmp (pc_notin (N := N) hu (pv 2) (pv 1))) (pss_one (ps_put (N := N) hu (pv 1) (pv 2) (pe_callB (call_len (N := N)) (by rfl) T.len PySem.boot_len (pa_cons (pv 1) pa_nil)) rfl)) pss_nil)))
      (pss_one (ps_ret (pe_lc (own := [("key", 2)]) (g := gName 2) (tt := tYes) (te := tGet N (tVar 1) (tVar 2)) rfl scNm.nd (pi_list (pv 0)) (blkOk_by (own := [("key", 2)]) (N := NNm) (sc := defScope sNumd) (by decide +kernel))
        (fun _ _ _ _ _ => pg_name (i := 2) scNm.nd rfl (Or.inl rfl)) (fun _ _ _ _ _ => pts_nil) (fun _ _ _ _ _ => pe_get (N := N) hu (pv 1) (pv 2) (fun _ _ => rfl)))))), ?_⟩
    intro D o hD has0
    have s0 : Same H (upd H D o) := same_upd hD
    generalize upd H D o = H1 at s0 has0 ⊢
    have xl := ar.len
    refine ⟨_, rfl, l, rfl, ⟨xs, SqL.of (s0 _ _ hl)⟩, ?_⟩
    refine for_it walk_list (fun i σ H3 => ∃ x2 : Option V, Same H H3 ∧ N.has H3 D (dd (ks.take i)) ∧ σ = [some (.ref l), some (.ref D), x2]) ⟨none, s0, has0, rfl⟩ (fun i σ H3 _ ⟨_, s3, _⟩ => SqL.of (s3 _ _ hl)) ?_ ?_
    · rintro i x σ H3 H4 hi ⟨x2, s3, has3, rfl⟩ ⟨rfl, hx⟩
      obtain ⟨a, ha, isa⟩ := ar.at hx
      have isa := N.keep isa (Same.tup' s3)
      have tk : dd (ks.take (i + 1)) = addG (dd (ks.take i)) a := by rw [List.take_add_one, ha]; exact dd_one _ _
      have le : (dd (ks.take i)).length ≤ 1000 := by
        have := dd_len (ks.take i)
        rw [List.length_take] at this
        omega
      refine ⟨_, rfl, _, rfl, D, _, a, rfl, has3, isa, ?_⟩
      by_cases m : a ∈ dd (ks.take i)
      · rw [decide_eq_true m]
        refine ⟨_, rfl, iteF ?_⟩
        refine ⟨some x, s3, ?_, rfl⟩
        rw [tk, addG_in m]
        exact has3
      · rw [decide_eq_false m]
        refine ⟨_, rfl, iteT ?_⟩
        refine ⟨_, rfl, D, _, rfl, has3, _, rfl, _, rfl, D, _, a, rfl, rfl, has3, isa, m, by rw [sizeLine_eq]; omega, fun o2 has4 => ?_⟩
        refine ⟨some x, same_at s3 hD, ?_, rfl⟩
        rw [tk, addG_out m]
        exact has4
    · rintro σ H3 ⟨x2, s3, has3, rfl⟩
      rw [xl, List.take_length] at has3
      refine ⟨_, rfl, l, rfl, ⟨xs, SqL.of (s3 _ _ hl)⟩, fun R hR => ?_⟩
      refine lc_it walk_list (fun i H5 => Same H3 H5 ∧ H5 R = some (.lst ((ks.take i).map fun a => V.int ((dd ks).idxOf a : Nat)))) ⟨same_upd hR, upd_same⟩ (fun i H5 _ ⟨s5, _⟩ => SqL.of (s5 _ _ (s3 _ _ hl))) ?_ ?_
      · rintro i x H5 H6 hi ⟨s5, hd5⟩ ⟨rfl, hx⟩
        obtain ⟨a, ha, isa⟩ := ar.at hx
        have isa := N.keep isa (Same.tup' (s3.trans s5))
        refine ⟨rfl, _, rfl, _, rfl, D, _, a, rfl, N.stay has3 s5, isa, dd_mem.mpr (List.mem_of_getElem? ha), _, hd5, ?_, same_at s5 hR, ?_⟩
        · rw [List.length_map, List.length_take, sizeLine_eq]
          omega
        · rw [upd_same, List.take_add_one, ha, List.map_append] <;> rfl
      · rintro H5 ⟨s5, hd5⟩
        rw [xl, List.take_length] at hd5
        refine q R H5 ((s3.free hR)) (s3.trans s5) ?_
        rw [hd5]
        unfold num
        rw [List.map_map] <;> rfl
end
end RM
set_option Elab.async false
set_option linter.all false
set_option maxRecDepth 100000
set_option maxHeartbeats 8000000
namespace RM
open PySem L2 PyProof.Rows LCX K1 FV DP WK ND
open PySem.W (Frag kitOne)
abbrev sRefd : Stmt := top 19
abbrev NRf : List Str := ["table", "groups", "many", "at", "row", "after"]
abbrev scRi : Scope := { kind := .function, names := [(".0", .local), ("at", .local), ("row", .local), ("tuple", .globalImplicit), ("groups", .cell)], isGenerator := false, isCoroutine := false }
def spRefd (K : Frag) : Sp := fun vs H Q _ => ∃ (t g : Addr) (B : List (List Int)) (wd : Nat) (n : Int) (ms : List Bool), vs = [.ref t, .ref g] ∧ TTab K H t B ∧ TabOk B wd n ∧ 1 ≤ n ∧ n ≤ 900 ∧ wd ≤ 900 ∧ H g = some (.lst ((num ms).map V.int)) ∧ ms.length = B.length ∧
  ∀ l r H', Same H H' → H' l = some (.lst (r.map V.int)) → Ref B wd ms r → Q (.ref l) H'
theorem gi_atI {g : List Int} {a : Int} (h : 0 ≤ a ∧ a < g.length) : atI (g.map V.int) a = some (.int (gi g a)) := by
  obtain ⟨hl, e⟩ := gi_at h
  rw [e]
  have ea : a = ((a.toNat : Nat) : Int) := by omega
  have : atI (g.map V.int) ((a.toNat : Nat) : Int) = some (.int g[a.toNat]) := atI_nat (by rw [List.getElem?_map, List.getElem?_eq_getElem (by omega)] <;> rfl)
  rw [← ea] at this
  exact this
def manyOf (σ : L2.St) : Nat := match σ[2]? with
  | some (some (V.int j)) => j.toNat
  | _ => 0
theorem max_cls {g : List Int} {M : Int} (f : Fo g) (ne : g ≠ []) (h1 : M ∈ g) (h2 : ∀ a ∈ g, a ≤ M) : M + 1 = (cls g : Nat) := by
  have a := f.mem.mp h1
  have pos : 0 < cls g := by
    have : g.headD 0 ∈ g := by cases g with
      | nil => exact absurd rfl ne
      | cons x y => exact .head _
    exact List.length_pos_of_mem (dd_mem.mpr this)
  have b := h2 ((cls g - 1 : Nat) : Int) (f.mem.mpr ⟨by omega, by unfold cls at pos ⊢; omega⟩)
  unfold cls at *
  omega
section
variable {P : Program} {w : World} {K : PySem.W.Frag} {mg : Str → Option Value} {base : Heap} {fN : Addr} {dN : FuncData}
theorem scRf : FnScope NRf ["table", "groups"] (defScope sRefd) := ⟨rfl, rfl, rfl, by decide +kernel, rfl, by decide +kernel, by decide +kernel⟩
theorem ok_refd {f : Addr} {fd : FuncData} (F : Fun K "refined" "refined" sRefd f fd) (T : TN mg) (en : mg "enumerate" = none) (AN : Fn K mg "numbered" sNumd ["keys"] fN dN) (GN : FnOk P w K mg base CX0 1 fN dN ["keys"] (spNumd K (numN P w))) : FnOk P w K mg base CX0 2 f fd ["table", "groups"] (spRefd K) := by
  refine F.ok scRf (fun vs H Q E h => ?_) (fun cdv A outer s H vs Q E hr h => ?_)
  · obtain ⟨t, g, B, wd, n, ms, rfl, _⟩ := h
    rfl
  · obtain ⟨t, g, B, wd, n, ms, rfl, hT, ok, n1, n2, hw, hg, hm, q⟩ := h
    refine ⟨_, pss_cons (ps_set (i := 2) scRf.nd rfl (Or.inl rfl) pe_int)
      (pss_cons (ps_while PassesOwn.never (pt_cmpR op_gt (pe_op op_add (pe_callB (MXL.cr_maxL rfl) (by rfl) T.max (by decide +kernel) (pa_cons (pv 1) pa_nil)) pe_int) (pv 2) (nomark _))
        (pss_cons (ps_set (i := 2) scRf.nd rfl (Or.inl rfl) (pe_op op_add (pe_callB (MXL.cr_maxL rfl) (by rfl) T.max (by decide +kernel) (pa_cons (pv 1) pa_nil)) pe_int))
        (pss_one (ps_set (i := 1) scRf.nd rfl (Or.inr rfl) (pe_call (E := E0) GN hr rfl AN.g AN.F.kp AN.b .nil pass0 (pa_cons (pe_lc (own := [("at", 3), ("row", 4)]) (g := gTup K 2 (gCons (gName 3) (gCons (gName 4) gNil))) (tt := tYes)
          (te := tTup (tCons (tOp (rIxL K) (tVar 1) (tVar 3)) (tCons (tCB (rTupL K) (tCons (tLc (iTup K (tVar 4)) (gName 5) tYes (tOp (rIxL K) (tVar 1) (tVar 5)) [5]) tNil)) tNil))) rfl scRf.nd (ENU.pi_enT rfl en (pa_cons (pv 0) pa_nil))
          (blkOk_by (own := [("at", 3), ("row", 4)]) (N := NRf) (sc := defScope sRefd) (by decide +kernel)) (fun _ _ _ _ _ => pg_tup (by rfl) (pgs_cons (pg_name (i := 3) scRf.nd rfl (Or.inl rfl)) (pgs_cons (pg_name (i := 4) scRf.nd rfl (Or.inl rfl)) pgs_nil))) (fun _ _ _ _ _ => pts_nil)
          (fun _ _ _ _ _ => pe_tup (pa_cons (pe_ix ix_list (pv 1) (pv 3) (fun _ _ => rfl)) (pa_cons (pe_callTy call_tuple_of (by rfl) T.tuple (by decide +kernel) (pa_cons (pe_lc (own := [("after", 5)]) (g := gName 5) (tt := tYes) (te := tOp (rIxL K) (tVar 1) (tVar 5)) rfl scRf.nd (pi_tup (pv 4))
            (blkOk_by (own := [("after", 5)]) (N := NRf) (sc := scRi) (by decide +kernel)) (fun _ _ _ _ _ => pg_name (i := 5) scRf.nd rfl (Or.inl rfl)) (fun _ _ _ _ _ => pts_nil) (fun _ _ _ _ _ => pe_ix ix_list (pv 1) (pv 5) (fun _ _ => rfl))) pa_nil)) pa_nil)))) pa_nil))))))
      (pss_one (ps_ret (pv 1)))), ?_⟩
    have hlB := ok.len
    refine while_by (fun σ H2 => ∃ (j : Nat) (l : Addr) (many : Int), Same H H2 ∧ H2 l = some (.lst ((itG B (num ms) j).map V.int)) ∧ 0 ≤ many ∧ ((j = 0 ∧ many = 0) ∨ ∃ i, j = i + 1 ∧ many = (cls (itG B (num ms) i) : Nat)) ∧
      σ = [some (.ref t), some (.ref l), some (.int many), none, none, none]) (fun σ _ => n.toNat - manyOf σ) ⟨0, g, 0, fun _ _ z => z, hg, Int.le_refl _, .inl ⟨rfl, rfl⟩, rfl⟩ ?_ ?_
    · rintro σ H2 ⟨j, l, many, s2, hl, m0, cs, rfl⟩
      have len := itG_len (B := B) (g := num ms) (by rw [num_len]; exact hm) j
      have fo := itG_fo (B := B) (num_fo ms) j
      have ne : itG B (num ms) j ≠ [] := fun z => by rw [z] at len; rw [List.length_nil] at len; omega
      have cl : cls (itG B (num ms) j) ≤ B.length := by rw [← len]; exact dd_len _
      have fin : cls (itG B (num ms) j) ≤ many → Ref B wd ms (itG B (num ms) j) := fun le => by
        rcases cs with ⟨rfl, e⟩ | ⟨i, rfl, e⟩
        · have := (fo_zero fo (List.length_pos_iff.mpr ne)).2
          omega
        · have leni := itG_len (B := B) (g := num ms) (by rw [num_len]; exact hm) i
          have foi := itG_fo (B := B) (num_fo ms) i
          have fx := stG_fix leni foi (by
            show cls (itG B (num ms) (i + 1)) ≤ cls (itG B (num ms) i)
            omega)
          refine ⟨len, fo, ?_, i + 1, rfl⟩
          show stG B (stG B (itG B (num ms) i)) = stG B (itG B (num ms) i)
          rw [fx, fx]
      have nxt : itG B (num ms) (j + 1) = stG B (itG B (num ms) j) := rfl
      generalize hgr : itG B (num ms) j = gr at len fo ne cl fin nxt hl
      refine ⟨_, rfl, l, gr, rfl, SqL.of hl, ne, fun M hM1 hM2 => ?_⟩
      have eM := max_cls fo ne hM1 hM2
      refine ⟨_, _, rfl, rfl, _, rfl, _, _, rfl, rfl, _, rfl, ?_⟩
      refine ite2 (fun hlt => ?_) (fun hge => ?_)
      · have hlt : many < M + 1 := of_decide_eq_true hlt
        refine ⟨_, rfl, l, gr, rfl, SqL.of hl, ne, fun M' hM1' hM2' => ?_⟩
        have eM' := max_cls fo ne hM1' hM2'
        refine ⟨_, _, rfl, rfl, ?_⟩
        obtain ⟨ts, t1, t2⟩ := hT.same s2
        refine ⟨_, rfl, t, _, rfl, t1, fun D hD => ?_⟩
        refine lc_it ENU.walk_enT (fun i H5 => Same H2 H5 ∧ ∃ us : List V, H5 D = some (.lst us) ∧ ArE (numN P w) H5 us ((prs B gr).take i)) ⟨same_upd hD, [], upd_same, trivial⟩ (fun i H5 _ ⟨s5, _⟩ => seqT s5 t1) ?_ ?_
        · rintro i x H5 H6 hi ⟨s5, us, hd5, ar⟩ ⟨T2, y, rfl, hT2, rfl, hy⟩
          rw [List.length_map, t2.len] at hi
          obtain ⟨a, e1, e2⟩ := t2.get hi
          rw [List.getElem?_map, e1] at hy
          obtain rfl : V.ref a = y := Option.some.inj hy
          have erow : B.getD i [] = B[i] := by rw [List.getD_eq_getElem?_getD, List.getElem?_eq_getElem hi] <;> rfl
          rw [erow] at e2
          obtain ⟨w1, w2⟩ := ok.row _ (List.getElem_mem hi)
          have s6 : Same H5 (upd H5 T2 (.tup [.int (i : Nat), .ref a])) := same_upd hT2
          refine ⟨T2, _, rfl, SqT.of upd_same, rfl, _, _, rfl, _, _, rfl, rfl, rfl, ?_⟩
          generalize upd H5 T2 (.tup [.int (i : Nat), .ref a]) = H6 at s6
          have s56 := s5.trans s6
          refine ⟨_, rfl, _, rfl, l, _, _, _, rfl, rfl, SqL.of (s56 _ _ hl), gi_atI ⟨by omega, by omega⟩, ?_⟩
          refine ⟨_, rfl, a, rfl, ⟨_, SqT.of (s56 _ _ e2)⟩, fun D6 hD6 => ?_⟩
          refine lc_it walk_tup (fun k H7 => Same H6 H7 ∧ H7 D6 = some (.lst (((B[i].take k).map (gi gr)).map V.int))) ⟨same_upd hD6, upd_same⟩ (fun k H7 _ ⟨s7, _⟩ => SqT.of (s7 _ _ (s56 _ _ e2))) ?_ ?_
          · rintro k z H7 H8 hk ⟨s7, hd7⟩ ⟨rfl, hz⟩
            rw [List.length_map] at hk
            have hz2 : z = .int B[i][k] := by
              rw [List.getElem?_map, List.getElem?_eq_getElem hk] at hz
              exact (Option.some.inj hz).symm
            subst hz2
            have hin := w2 _ (List.getElem_mem hk)
            refine ⟨rfl, _, rfl, _, rfl, l, _, _, _, rfl, rfl, SqL.of (s7 _ _ (s56 _ _ hl)), gi_atI ⟨by omega, by omega⟩, _, hd7, ?_, same_at s7 hD6, ?_⟩
            · rw [List.length_map, List.length_map, List.length_take, sizeLine_eq]
              omega
            · rw [upd_same, List.take_add_one, List.getElem?_eq_getElem hk, List.map_append, List.map_append] <;> rfl
          · rintro H7 ⟨s7, hd7⟩
            rw [List.length_map, List.take_length] at hd7
            refine ⟨D6, _, rfl, .inl ⟨SqL.of hd7, fun r hr => ?_⟩⟩
            have s8 := same_upd (o := .tup ((B[i].map (gi gr)).map V.int)) hr
            refine ⟨by show 2 ≤ sizeLine; decide, fun u hu => ?_⟩
            have s9 := same_upd (o := .tup [.int (gi gr (i : Nat)), .ref r]) hu
            have s79 := s7.trans (s8.trans s9)
            have s59 := s6.trans s79
            refine ⟨_, s59 _ _ hd5, ?_, same_at (s5.trans s59) hD, us ++ [.ref u], by rw [upd_same], ?_⟩
            · have := ar.len
              rw [this, List.length_take, prs_len, sizeLine_eq]
              omega
            · have kt := tup_upd (o := .lst (us ++ [.ref u])) (s59 _ _ hd5) (fun _ z => nomatch z)
              have at_ : (prs B gr)[i]? = some ⟨gi gr (i : Nat), B[i].map (gi gr)⟩ := by rw [List.getElem?_eq_getElem (by rw [prs_len]; exact hi), prs_at hi]
              rw [List.take_add_one, at_]
              have pr : PrAt (upd (upd H7 r (.tup ((B[i].map (gi gr)).map V.int))) u (.tup [.int (gi gr (i : Nat)), .ref r])) u ⟨gi gr (i : Nat), B[i].map (gi gr)⟩ := ⟨r, upd_same, s9 _ _ upd_same⟩
              exact (ArE.keep kt ((ar.keep (Same.tup' s59)).snoc (N := numN P w) (a := ⟨gi gr (i : Nat), B[i].map (gi gr)⟩) ⟨u, rfl, pr⟩))
        · rintro H5 ⟨s5, us, hd5, ar⟩
          rw [List.length_map, t2.len, ← prs_len B gr, List.take_length] at ar
          refine ⟨D, us, prs B gr, rfl, hd5, ar, by rw [prs_len]; omega, fun p H6 hp s6 hl6 => ?_⟩
          refine ⟨⟨j + 1, p, _, s2.trans (s5.trans s6), ?_, ?_, .inr ⟨j, rfl, ?_⟩, rfl⟩, ?_⟩
          · rw [nxt]
            exact hl6
          · omega
          · rw [hgr]
            exact eM'
          · show n.toNat - (M' + 1).toNat < n.toNat - many.toNat
            omega
      · have hge : ¬ many < M + 1 := fun z => hge (decide_eq_true z)
        refine ⟨_, rfl, ?_⟩
        exact q l gr H2 s2 hl (fin (by omega))
    · exact fun σ H Q Q' hm ⟨v, hv, l, gr, e, sl, ne, k⟩ => ⟨v, hv, l, gr, e, sl, ne, fun M h1 h2 => let ⟨i, j, e1, e2, w', hw, a, b, c, d, bb, hb, q⟩ := k M h1 h2; ⟨i, j, e1, e2, w', hw, a, b, c, d, bb, hb, hm _ _ q⟩⟩
end
end RM
set_option Elab.async false
set_option linter.all false
set_option maxRecDepth 100000
set_option maxHeartbeats 16000000
namespace RM
open PySem L2 PyProof.Rows LCX K1 FV DP WK ND
open PySem.W (Frag kitOne)
abbrev sLP : Stmt := top 20
abbrev NLP : List Str := ["table", "ends", "start", "order", "rows", "marks", "groups", "firsts", "at", "group", "kept", "end", "row", "after"]
abbrev scLi : Scope := { kind := .function, names := [(".0", .local), ("at", .local), ("tuple", .globalImplicit), ("groups", .cell), ("rows", .cell)], isGenerator := false, isCoroutine := false }
def spLP (K : Frag) : Sp := fun vs H Q _ => ∃ (t e : Addr) (T : List (List Int)) (wd : Nat) (n : Int) (ends : List Int), vs = [.ref t, .ref e, .int 0] ∧ TTab K H t T ∧ TabOk T wd n ∧ 1 ≤ n ∧ n ≤ 900 ∧ wd ≤ 900 ∧ H e = some (oTup ends) ∧ ends.length ≤ 900 ∧
  ∀ p kp en kpL enL H', H p = none → Same H H' → H' p = some (.tup [.ref kp, .ref en]) → RowsAt H' kp kpL → H' en = some (oTup enL) → Least T wd ends kpL enL → Q (.ref p) H'
theorem rng_succ (n : Nat) : rngI (n + 1) = rngI n ++ [(n : Int)] := by unfold rngI; rw [List.range_succ, List.map_append] <;> rfl
/-- each one is met before, or is the next -/
theorem step_first {g : List Int} (f : Fo g) {j : Nat} (hj : j < g.length) : ((dd (g.take (j + 1))).length = (dd (g.take j)).length ∧ g[j] ≠ ((dd (g.take j)).length : Nat)) ∨ (g[j] = ((dd (g.take j)).length : Nat) ∧ (dd (g.take (j + 1))).length = (dd (g.take j)).length + 1 ∧ g.idxOf (((dd (g.take j)).length : Nat) : Int) = j) := by
  have tk : g.take (j + 1) = g.take j ++ [g[j]] := by rw [List.take_succ, List.getElem?_eq_getElem hj] <;> rfl
  obtain ⟨t1, t2⟩ := take_dd f j
  by_cases old : g[j] ∈ g.take j
  · refine .inl ⟨by rw [tk, dd_one, addG_in (dd_mem.mpr old)], fun z => ?_⟩
    have m : g[j] ∈ dd (g.take j) := dd_mem.mpr old
    rw [t1, z] at m
    have := rng_mem.mp m
    omega
  · obtain ⟨u1, u2⟩ := take_dd f (j + 1)
    have out : g[j] ∉ dd (g.take j) := fun z => old (dd_mem.mp z)
    rw [tk, dd_one, addG_out out, List.length_append, List.length_singleton] at u1 u2
    rw [tk, dd_one, addG_out out, List.length_append, List.length_singleton]
    generalize ha : (dd (g.take j)).length = a at t1 t2 u1 u2 ⊢
    have ga : g[j] = (a : Int) := by
      have : (dd (g.take j) ++ [g[j]])[a]? = (rngI (a + 1))[a]? := by rw [u1]
      rw [rng_at, if_pos (by omega), List.getElem?_append_right (by omega), ha, Nat.sub_self] at this
      exact Option.some.inj this
    refine .inr ⟨ga, rfl, ?_⟩
    have h1 : g.idxOf (a : Int) ≤ j := by
      have m : (a : Int) ∈ g.take (j + 1) := List.mem_take_iff_getElem.mpr ⟨j, by omega, ga⟩
      have e1 := idx_pre m (List.take_prefix (j + 1) g)
      have e2 := List.idxOf_lt_length_of_mem m
      rw [List.length_take] at e2
      omega
    have h2 : ¬ g.idxOf (a : Int) < j := fun z => by
      have m : (a : Int) ∈ g := ga ▸ List.getElem_mem hj
      have hh := List.idxOf_lt_length_of_mem m
      have : g[g.idxOf (a : Int)] ∈ g.take j := List.mem_take_iff_getElem.mpr ⟨g.idxOf (a : Int), by omega, rfl⟩
      rw [List.getElem_idxOf hh] at this
      exact old (ga ▸ this)
    omega
section
variable {P : Program} {w : World} {K : PySem.W.Frag} {mg : Str → Option Value} {base : Heap} {fT fN fR : Addr} {dT dN dR : FuncData}
theorem scLP : FnScope NLP ["table", "ends", "start"] (defScope sLP) := ⟨rfl, rfl, rfl, by decide +kernel, rfl, by decide +kernel, by decide +kernel⟩
abbrev tInMarks (i : Nat) : TE := tDIn (tVar i) (tVar 5)
theorem ok_lp {f : Addr} {fd : FuncData} (F : Fun K "least_parts" "least_parts" sLP f fd) (T : TN mg) (en : mg "enumerate" = none) (AT : Fn K mg "trimmed" sTrim ["table", "start"] fT dT) (GT : FnOk P w K mg base CX0 2 fT dT ["table", "start"] (spTrimG K))
    (AN : Fn K mg "numbered" sNumd ["keys"] fN dN) (GN : FnOk P w K mg base CX0 1 fN dN ["keys"] (spNumd K (numB P w))) (AR : Fn K mg "refined" sRefd ["table", "groups"] fR dR) (GR : FnOk P w K mg base CX0 2 fR dR ["table", "groups"] (spRefd K)) :
    FnOk P w K mg base CX0 3 f fd ["table", "ends", "start"] (spLP K) := by
  refine F.ok scLP (fun vs H Q E h => ?_) (fun cdv A outer s H vs Q E hr h => ?_)
  · obtain ⟨t, e, TT, wd, n, ends, rfl, _⟩ := h
    rfl
  · obtain ⟨t, e, U, wd, n, ends, rfl, hT, ok, n1, n2, hw, he, hel, q⟩ := h
    have hub := hu_of hr
    have hr1 : Room 1 _ := hr.mono (by decide)
    refine ⟨_, pss_cons (ps_asg (pe_call (E := E0) GT hr rfl AT.g AT.F.kp AT.b .nil pass0 (pa_cons (pv 0) (pa_cons (pv 2) pa_nil))) (pg_tup (by rfl) (pgs_cons (pg_name (i := 3) scLP.nd rfl (Or.inr rfl)) (pgs_cons (pg_name (i := 4) scLP.nd rfl (Or.inr rfl)) pgs_nil))))
      (pss_cons (ps_set (i := 5) scLP.nd rfl (Or.inr rfl) (pe_dc (own := [("end", 11)]) (g := gName 11) (tt := tYes) (tk := tVar 11) (tv := tC (.bl true)) rfl scLP.nd (pi_tup (pv 1))
        (blkOk_by (own := [("end", 11)]) (N := NLP) (sc := defScope sLP) (by decide +kernel)) (fun _ _ _ _ _ => pg_name (i := 11) scLP.nd rfl (Or.inl rfl)) (fun _ _ _ _ _ => pts_nil) (fun _ _ _ _ _ => pv 11) (fun _ _ _ _ _ => pe_bl)))
      (pss_cons (ps_set (i := 6) scLP.nd rfl (Or.inr rfl) (pe_call (E := E0) GR hr rfl AR.g AR.F.kp AR.b .nil pass0 (pa_cons (pv 4) (pa_cons (pe_call (E := E0) GN hr1 rfl AN.g AN.F.kp AN.b .nil pass0 (pa_cons (pe_lc (own := [("row", 12)]) (g := gName 12) (tt := tYes) (te := tInMarks 12) rfl scLP.nd (pi_list (pv 3))
        (blkOk_by (own := [("row", 12)]) (N := NLP) (sc := defScope sLP) (by decide +kernel)) (fun _ _ _ _ _ => pg_name (i := 12) scLP.nd rfl (Or.inl rfl)) (fun _ _ _ _ _ => pts_nil) (fun _ _ _ _ _ => pe_cmp (pc_din hub (pv 12) (pv 5)))) pa_nil)) pa_nil))))
      (pss_cons (ps_set (i := 7) scLP.nd rfl (Or.inl rfl) (pe_lst pa_nil))
      (pss_cons (ps_for PassesOwn.never rfl (pi_enum rfl en (pa_cons (pv 6) pa_nil)) (pg_tup (by rfl) (pgs_cons (pg_name (i := 8) scLP.nd rfl (Or.inl rfl)) (pgs_cons (pg_name (i := 9) scLP.nd rfl (Or.inl rfl)) pgs_nil)))
        (pss_one (ps_if (pt_cmpR op_eq (pv 9) (pe_callB call_len_seq (by rfl) T.len PySem.boot_len (pa_cons (pv 7) pa_nil)) (nomark _)) (pss_one (ps_expr (pe_bm PySem.F.plainAttrs_list PySem.F.slot_list_append PySem.F.type_list_append mt_append (pv 7) (pa_cons (pv 8) pa_nil)))) pss_nil)))
      (pss_cons (ps_set (i := 10) scLP.nd rfl (Or.inl rfl) (pe_callTy call_tuple_of (by rfl) T.tuple (by decide +kernel) (pa_cons (pe_lc (own := [("at", 8)]) (g := gName 8) (tt := tYes)
        (te := tCB (rTupL K) (tCons (tLc (iTup K (tOp (rIxT K) (tVar 4) (tVar 8))) (gName 13) tYes (tOp (rIxL K) (tVar 6) (tVar 13)) [13]) tNil)) rfl scLP.nd (pi_list (pv 7))
        (blkOk_by (own := [("at", 8)]) (N := NLP) (sc := defScope sLP) (by decide +kernel)) (fun _ _ _ _ _ => pg_name (i := 8) scLP.nd rfl (Or.inl rfl)) (fun _ _ _ _ _ => pts_nil)
        (fun _ _ _ _ _ => pe_callTy call_tuple_of (by rfl) T.tuple (by decide +kernel) (pa_cons (pe_lc (own := [("after", 13)]) (g := gName 13) (tt := tYes) (te := tOp (rIxL K) (tVar 6) (tVar 13)) rfl scLP.nd (pi_tup (pe_ix ix_tup (pv 4) (pv 8) (fun _ _ => rfl)))
          (blkOk_by (own := [("after", 13)]) (N := NLP) (sc := scLi) (by decide +kernel)) (fun _ _ _ _ _ => pg_name (i := 13) scLP.nd rfl (Or.inl rfl)) (fun _ _ _ _ _ => pts_nil) (fun _ _ _ _ _ => pe_ix ix_list (pv 6) (pv 13) (fun _ _ => rfl))) pa_nil))) pa_nil)))
      (pss_one (ps_ret (pe_tup (pa_cons (pv 10) (pa_cons (pe_callTy call_tuple_of (by rfl) T.tuple (by decide +kernel) (pa_cons (pe_lc (own := [("group", 9), ("at", 8)]) (g := gTup K 2 (gCons (gName 9) (gCons (gName 8) gNil)))
        (tt := tB (tDIn (tOp (rIxL K) (tVar 3) (tVar 8)) (tVar 5))) (te := tVar 9) rfl scLP.nd (pi_enum rfl en (pa_cons (pv 7) pa_nil))
        (blkOk_by (own := [("group", 9), ("at", 8)]) (N := NLP) (sc := defScope sLP) (by decide +kernel)) (fun _ _ _ _ _ => pg_tup (by rfl) (pgs_cons (pg_name (i := 9) scLP.nd rfl (Or.inl rfl)) (pgs_cons (pg_name (i := 8) scLP.nd rfl (Or.inl rfl)) pgs_nil)))
        (fun _ _ _ _ _ => pts_one (pt_cmp (pc_din hub (pe_ix ix_list (pv 3) (pv 8) (fun _ _ => rfl)) (pv 5)))) (fun _ _ _ _ _ => pv 9)) pa_nil)) pa_nil)))))))))), ?_⟩
    refine ⟨_, rfl, _, rfl, t, U, wd, n, rfl, hT, ok, n1, by omega, by omega, fun p u v H1 np s1 hp hu rows1 => ?_⟩
    refine ⟨p, _, rfl, SqT.of hp, rfl, _, _, rfl, _, _, rfl, rfl, ?_⟩
    obtain ⟨tk, tk1, tk2⟩ := lean_tab ok n1
    have O := ord_of ok n1
    have ole := O.le
    have hlU := ok.len
    have lst : ∀ kpL enL, (∃ g, Ref (leanT U wd) wd ((wyA U 0 U.length).map fun a => decide (a ∈ ends)) g ∧ kpL = kept (leanT U wd) g ∧ enL = endsK ((wyA U 0 U.length).map fun a => decide (a ∈ ends)) g) → Least U wd ends kpL enL := fun _ _ h => h
    generalize wyA U 0 U.length = o at hu tk2 ole lst O
    generalize leanT U wd = B at rows1 tk tk1 tk2 lst O
    clear O
    have he1 := s1 _ _ he
    refine ⟨_, rfl, e, rfl, ⟨_, SqT.of he1⟩, fun D hD => ?_⟩
    refine dc_it walk_tup (fun i H3 => Same H1 H3 ∧ ∃ kvs : List (Key × V), H3 D = some (.dK kvs) ∧ kvs.length ≤ i ∧ ∀ a : Int, (valV kvs (Sum.inl a : Key)).isSome = decide (a ∈ ends.take i)) ⟨same_upd hD, [], upd_same, Nat.le_refl _, fun a => rfl⟩ (fun i H3 _ ⟨s3, _⟩ => SqT.of (s3 _ _ he1)) ?_ ?_
    · rintro i x H3 H4 hi ⟨s3, kvs, hd, hlk, hv⟩ ⟨rfl, hx⟩
      rw [List.length_map] at hi
      obtain rfl : V.int ends[i] = x := by
        rw [List.getElem?_map, List.getElem?_eq_getElem hi] at hx
        exact Option.some.inj hx
      refine ⟨rfl, _, rfl, kvs, Sum.inl ends[i], rfl, hd, by rw [sizeLine_eq]; omega, same_at s3 hD, _, upd_same, ?_, fun a => ?_⟩
      · have := length_putK kvs (Sum.inl ends[i] : Key) (.bl true)
        omega
      · rw [valV_put, List.take_add_one, List.getElem?_eq_getElem hi]
        by_cases ea : a = ends[i]
        · rw [if_pos (by rw [ea]), decide_eq_true (List.mem_append_right _ (by rw [ea]; exact .head _))]
          rfl
        · rw [if_neg fun z => ea (by have := Sum.inl.inj z; omega), hv a]
          refine decide_eq_decide.mpr ⟨fun z => List.mem_append_left _ z, fun z => ?_⟩
          rcases List.mem_append.mp z with y | y
          · exact y
          · exact absurd (List.mem_singleton.mp y) ea
    rintro H3 ⟨s3, kvs, hd, hlk, hv⟩
    rw [List.length_map, List.take_length] at hv
    have hu3 := s3 _ _ hu
    have marks : ∀ {H' : Hp}, H' D = some (.dK kvs) → ∀ a : Int, DGet H' D (.int a) (valV kvs (Sum.inl a : Key)) := fun h a => DGet.k (k := (Sum.inl a : Key)) h
    refine ⟨_, rfl, _, rfl, u, rfl, ⟨_, SqL.of hu3⟩, fun D2 hD2 => ?_⟩
    refine lc_it walk_list (fun i H5 => Same H3 H5 ∧ H5 D2 = some (.lst ((o.take i).map fun a => V.bl (decide (a ∈ ends))))) ⟨same_upd hD2, upd_same⟩ (fun i H5 _ ⟨s5, _⟩ => SqL.of (s5 _ _ hu3)) ?_ ?_
    · rintro i x H5 H6 hi ⟨s5, hd5⟩ ⟨rfl, hx⟩
      rw [List.length_map] at hi
      obtain rfl : V.int o[i] = x := by
        rw [List.getElem?_map, List.getElem?_eq_getElem hi] at hx
        exact Option.some.inj hx
      refine ⟨rfl, _, rfl, _, rfl, D, _, rfl, marks (s5 _ _ hd) _, _, hd5, ?_, same_at s5 hD2, ?_⟩
      · rw [List.length_map, List.length_take, sizeLine_eq]
        omega
      · rw [upd_same, hv, List.take_add_one, List.getElem?_eq_getElem hi, List.map_append] <;> rfl
    rintro H5 ⟨s5, hd5⟩
    rw [List.length_map, List.take_length] at hd5
    have arB : ∀ l : List Int, ArE (numB P w) H5 (l.map fun a => V.bl (decide (a ∈ ends))) (l.map fun a => decide (a ∈ ends)) := fun l => by
      induction l with
      | nil => trivial
      | cons a l ih => exact ⟨rfl, ih⟩
    refine ⟨D2, _, o.map fun a => decide (a ∈ ends), rfl, hd5, arB o, by rw [List.length_map]; omega, fun p2 H6 np2 s6 hl6 => ?_⟩
    have rows6 := rows1.keep (Same.tup' ((s3.trans s5).trans s6))
    refine ⟨v, p2, B, wd, _, _, rfl, rows_tt rows6, tk, by omega, by omega, hw, hl6, by rw [List.length_map, tk2], fun g r H7 s7 hg rf => ?_⟩
    have rows7 := rows6.keep (Same.tup' s7)
    have hu7 := s7 _ _ (s6 _ _ (s5 _ _ hu3))
    have hd7 := s7 _ _ (s6 _ _ (s5 _ _ hd))
    have s07 : Same H H7 := s1.trans (s3.trans (s5.trans (s6.trans s7)))
    refine ⟨by show 0 ≤ sizeLine; decide, fun M hM => ?_⟩
    have hg7 : (upd H7 M (.lst [])) g = some (.lst (r.map V.int)) := same_upd hM _ _ hg
    have rl := rf.len
    refine ⟨_, rfl, g, _, rfl, SqL.of hg7, ?_⟩
    have cle : ∀ i, (dd (r.take i)).length ≤ r.length := fun i => by
      have := dd_len (r.take i)
      rw [List.length_take] at this
      omega
    refine for_it walk_enum (fun i σ H8 => ∃ x8 x9 : Option V, Same H7 H8 ∧ H8 M = some (.lst ((rngI (dd (r.take i)).length).map fun a => V.int (r.idxOf a : Nat))) ∧
      σ = [some (.ref t), some (.ref e), some (.int 0), some (.ref u), some (.ref v), some (.ref D), some (.ref g), some (.ref M), x8, x9, none, none, none, none]) ⟨none, none, same_upd hM, upd_same, rfl⟩ (fun i σ H8 _ ⟨_, _, s8, _⟩ => SqL.of (s8 _ _ hg)) ?_ ?_
    · rintro i x σ H8 H9 hi ⟨x8, x9, s8, hm8, rfl⟩ ⟨T2, y, z, rfl, hT2, rfl, hy, hz⟩
      rw [List.length_map] at hi
      obtain rfl : V.int ((i : Nat) : Int) = y := Option.some.inj hy
      have hz : (r.map V.int)[i]? = some z := hz
      obtain rfl : V.int r[i] = z := by
        rw [List.getElem?_map, List.getElem?_eq_getElem hi] at hz
        exact Option.some.inj hz
      have s9 : Same H8 (upd H8 T2 (.tup [.int (i : Nat), .int r[i]])) := same_upd hT2
      have hm9 := s9 _ _ hm8
      refine ⟨T2, _, rfl, SqT.of upd_same, rfl, _, _, rfl, _, _, rfl, rfl, ?_⟩
      refine ⟨_, rfl, _, rfl, M, _, rfl, .inl (SqL.of hm9), rfl, _, rfl, ?_⟩
      rw [List.length_map, rng_len]
      have c2 := cle i
      refine ite2 (fun hy => ?_) (fun hn => ?_)
      · have hy := of_decide_eq_true hy
        injection hy with hy
        rcases step_first rf.fo hi with ⟨_, h2⟩ | ⟨h1, h2, h3⟩
        · exact absurd hy h2
        · refine ⟨_, rfl, .inl ⟨rfl, _, SqL.of hm9⟩, _, rfl, M, _, _, rfl, rfl, hm9, by rw [List.length_map, rng_len, sizeLine_eq]; omega, ?_⟩
          refine ⟨_, _, same_at (s8.trans s9) hM, ?_, rfl⟩
          rw [upd_same, h2, rng_succ, List.map_append, List.map_cons, List.map_nil, h3]
      · have hn : ¬ (V.int r[i] = V.int ((dd (r.take i)).length : Nat)) := fun z => hn (decide_eq_true z)
        rcases step_first rf.fo hi with ⟨h1, h2⟩ | ⟨h1, h2, h3⟩
        · refine ⟨_, _, s8.trans s9, ?_, rfl⟩
          rw [h1]
          exact hm9
        · exact absurd (congrArg V.int h1) hn
    · rintro σ H8 ⟨x8, x9, s8, hm8, rfl⟩
      rw [List.length_map, List.take_length] at hm8
      have cls_le : cls r ≤ r.length := by
        have := dd_len r
        exact this
      have hg8 := s8 _ _ hg
      have rows8 := rows7.keep (Same.tup' s8)
      have hu8 := s8 _ _ hu7
      have hdm8 := s8 _ _ hd7
      have s08 := s07.trans s8
      clear hg7 hd5 arB hl6 rows6 rows7 hM hD2 hD rows1 s7 s6 s5 s3
      have hm8 : H8 M = some (.lst ((rngI (cls r)).map fun a => V.int (r.idxOf a : Nat))) := hm8
      have fat : ∀ i, i < cls r → ∃ hf : r.idxOf (i : Int) < B.length, ((rngI (cls r)).map fun a => V.int (r.idxOf a : Nat))[i]? = some (V.int (r.idxOf (i : Int) : Nat)) := fun i hi => by
        obtain ⟨hf, _⟩ := kept_at rf hi
        refine ⟨hf, ?_⟩
        rw [List.getElem?_map, rng_at, if_pos hi] <;> rfl
      refine ⟨_, rfl, M, rfl, ⟨_, SqL.of hm8⟩, fun D4 hD4 => ?_⟩
      refine lc_it walk_list (fun i H9 => Same H8 H9 ∧ ∃ ts : List Addr, H9 D4 = some (.lst (ts.map V.ref)) ∧ Objs oTup H9 ts ((kept B r).take i) ∧ ts.length = i) ⟨same_upd hD4, [], upd_same, trivial, rfl⟩ (fun i H9 _ ⟨s9, _⟩ => SqL.of (s9 _ _ hm8)) ?_ ?_
      · rintro i x H9 HX hi ⟨s9, ts, hd9, ho9, hts⟩ ⟨rfl, hx⟩
        rw [List.length_map, rng_len] at hi
        obtain ⟨hf, ef⟩ := fat i hi
        obtain rfl : V.int (r.idxOf (i : Int) : Nat) = x := Option.some.inj (ef.symm.trans hx)
        obtain ⟨_, ek⟩ := kept_at rf hi
        obtain ⟨us, h1, h2⟩ := rows8.keep (Same.tup' s9)
        obtain ⟨a, e1, e2⟩ := h2.get hf
        have at1 : atI (us.map V.ref) ((r.idxOf (i : Int) : Nat) : Int) = some (.ref a) := atI_nat (by rw [List.getElem?_map, e1] <;> rfl)
        have erow : B.getD (r.idxOf (i : Int)) [] = B[r.idxOf (i : Int)] := by rw [List.getD_eq_getElem?_getD, List.getElem?_eq_getElem hf] <;> rfl
        rw [erow] at e2
        obtain ⟨w1, w2⟩ := tk.row _ (List.getElem_mem hf)
        refine ⟨rfl, _, rfl, _, rfl, v, _, _, _, rfl, rfl, SqT.of h1, at1, a, rfl, ⟨_, SqT.of e2⟩, fun D6 hD6 => ?_⟩
        refine lc_it walk_tup (fun k HY => Same HX HY ∧ HY D6 = some (.lst (((B[r.idxOf (i : Int)].take k).map (gi r)).map V.int))) ⟨same_upd hD6, upd_same⟩ (fun k HY _ ⟨sy, _⟩ => SqT.of (sy _ _ e2)) ?_ ?_
        · rintro k z HY HZ hk ⟨sy, hdy⟩ ⟨rfl, hz⟩
          rw [List.length_map] at hk
          have hz2 : z = .int B[r.idxOf (i : Int)][k] := by
            rw [List.getElem?_map, List.getElem?_eq_getElem hk] at hz
            exact (Option.some.inj hz).symm
          subst hz2
          have hin := w2 _ (List.getElem_mem hk)
          refine ⟨rfl, _, rfl, _, rfl, g, _, _, _, rfl, rfl, SqL.of (sy _ _ (s9 _ _ hg8)), gi_atI ⟨by omega, by omega⟩, _, hdy, ?_, same_at sy hD6, ?_⟩
          · rw [List.length_map, List.length_map, List.length_take, sizeLine_eq]
            omega
          · rw [upd_same, List.take_add_one, List.getElem?_eq_getElem hk, List.map_append, List.map_append] <;> rfl
        · rintro HY ⟨sy, hdy⟩
          rw [List.length_map, List.take_length] at hdy
          refine ⟨D6, _, rfl, .inl ⟨SqL.of hdy, fun q1 hq1 => ?_⟩⟩
          have sq := same_upd (o := .tup ((B[r.idxOf (i : Int)].map (gi r)).map V.int)) hq1
          have s9q := sy.trans sq
          refine ⟨_, s9q _ _ hd9, by rw [List.length_map, hts, sizeLine_eq]; omega, same_at (s9.trans s9q) hD4, ts ++ [q1], ?_, ?_, ?_⟩
          · rw [upd_same, List.map_append] <;> rfl
          · have kt := tup_upd (o := .lst (ts.map V.ref ++ [.ref q1])) (s9q _ _ hd9) (fun _ z => nomatch z)
            have hr1 : (upd HY q1 (.tup ((B[r.idxOf (i : Int)].map (gi r)).map V.int))) q1 = some (oTup (B[r.idxOf (i : Int)].map (gi r))) := upd_same
            rw [List.take_add_one, ek]
            exact objs_tup ((objs_tup ho9 (Same.tup' s9q)).snoc hr1) kt
          · rw [List.length_append, hts] <;> rfl
      · rintro H9 ⟨s9, ts, hd9, ho9, hts⟩
        rw [List.length_map, rng_len, ← kept_len (B := B), List.take_length] at ho9
        refine ⟨D4, _, rfl, .inl ⟨SqL.of hd9, fun kp hkp => ?_⟩⟩
        have sk := same_upd (o := .tup (ts.map V.ref)) hkp
        have kpr : RowsAt (upd H9 kp (.tup (ts.map V.ref))) kp (kept B r) := ⟨ts, upd_same, objs_tup ho9 (Same.tup' sk)⟩
        have s8k := s9.trans sk
        generalize upd H9 kp (.tup (ts.map V.ref)) = HK at sk kpr s8k
        clear hd9 ho9 hkp
        refine ⟨_, rfl, _, rfl, M, _, rfl, SqL.of (s8k _ _ hm8), fun D5 hD5 => ?_⟩
        refine lc_it walk_enum (fun i HX => Same HK HX ∧ HX D5 = some (.lst (((rngI i).filter fun a => ((o.map fun a => decide (a ∈ ends)).getD (r.idxOf a) false)).map V.int))) ⟨same_upd hD5, upd_same⟩ (fun i HX _ ⟨sx, _⟩ => SqL.of (sx _ _ (s8k _ _ hm8))) ?_ ?_
        · rintro i x HX HY hi ⟨sx, hdx⟩ ⟨T2, y, z, rfl, hT2, rfl, hy, hz⟩
          rw [List.length_map, rng_len] at hi
          obtain rfl : V.int ((i : Nat) : Int) = y := Option.some.inj hy
          obtain ⟨hf, ef⟩ := fat i hi
          obtain rfl : V.int (r.idxOf (i : Int) : Nat) = z := Option.some.inj (ef.symm.trans hz)
          have st : Same HX (upd HX T2 (.tup [.int (i : Nat), .int (r.idxOf (i : Int) : Nat)])) := same_upd hT2
          have sKt := sx.trans st
          have hof : r.idxOf (i : Int) < o.length := by omega
          have eM : (o.map fun a => decide (a ∈ ends)).getD (r.idxOf (i : Int)) false = decide (gi o (r.idxOf (i : Int) : Nat) ∈ ends) := by
            rw [List.getD_eq_getElem?_getD, List.getElem?_map, List.getElem?_eq_getElem hof]
            obtain ⟨_, ge⟩ := gi_at (g := o) (a := ((r.idxOf (i : Int) : Nat) : Int)) ⟨by omega, by omega⟩
            rw [ge] <;> rfl
          refine ⟨T2, _, rfl, SqT.of upd_same, rfl, _, _, rfl, _, _, rfl, rfl, rfl, ?_⟩
          refine ⟨_, rfl, _, rfl, u, _, _, _, rfl, rfl, SqL.of (sKt _ _ (s8k _ _ hu8)), gi_atI ⟨by omega, by omega⟩, _, rfl, D, _, rfl, marks (sKt _ _ (s8k _ _ hdm8)) _, _, rfl, ?_⟩
          rw [hv, ← eM, rng_succ, List.filter_append, List.map_append]
          cases eb : (o.map fun a => decide (a ∈ ends)).getD (r.idxOf (i : Int)) false with
          | true =>
            refine iteT ?_
            refine ⟨_, rfl, _, st _ _ hdx, ?_, same_at sKt hD5, ?_⟩
            · rw [List.length_map, sizeLine_eq]
              have := List.length_filter_le (fun a => (o.map fun a => decide (a ∈ ends)).getD (r.idxOf a) false) (rngI i)
              rw [rng_len] at this
              omega
            · rw [upd_same, show List.filter (fun a => (o.map fun a => decide (a ∈ ends)).getD (r.idxOf a) false) [(i : Int)] = [(i : Int)] from List.filter_cons_of_pos (l := []) eb] <;> rfl
          | false =>
            refine iteF ?_
            refine ⟨sKt, ?_⟩
            rw [show List.filter (fun a => (o.map fun a => decide (a ∈ ends)).getD (r.idxOf a) false) [(i : Int)] = [] from List.filter_cons_of_neg (l := []) (by rw [eb]; exact Bool.false_ne_true), List.map_nil, List.append_nil]
            exact st _ _ hdx
        · rintro HX ⟨sx, hdx⟩
          rw [List.length_map, rng_len] at hdx
          refine ⟨D5, _, rfl, .inl ⟨SqL.of hdx, fun en hen => ?_⟩⟩
          have se := same_upd (o := .tup ((endsK (o.map fun a => decide (a ∈ ends)) r).map V.int)) hen
          refine ⟨by show 2 ≤ sizeLine; decide, fun pp hpp => ?_⟩
          have sp_ := same_upd (o := .tup [V.ref kp, .ref en]) hpp
          have sKe := sx.trans (se.trans sp_)
          have sall := s08.trans (s8k.trans sKe)
          refine q pp kp en (kept B r) (endsK (o.map fun a => decide (a ∈ ends)) r) _ ((s08.trans (s8k.trans (sx.trans se))).free hpp) sall upd_same (kpr.keep (Same.tup' sKe)) (sp_ _ _ upd_same) (lst _ _ ⟨r, rf, rfl, rfl⟩)
end
end RM
set_option Elab.async false
set_option linter.all false
set_option maxRecDepth 100000
set_option maxHeartbeats 8000000
namespace RM
open PySem L2 PyProof.Rows LCX K1 FV DP WK ND
open TX (sg sigs)
open PySem.W (Frag kitOne)
structure TMk (K : Frag) (mg : Str → Option Value) (C cD : Addr) : Prop where
  cl : Cls K C
  nT : NoAttr K C "_table"
  nL : NoAttr K C "_letters"
  nE : NoAttr K C "_ends"
  clD : Cls K cD
  nR : NoAttr K cD "rows"
  gC : mg "Machine" = some (.ref C)
  gD : mg "Made" = some (.ref cD)
  tyD : ∀ {H : Hp} {a dx : Addr} {fs : List (Str × V)}, H a = some (.ins cD dx fs) → TyOf K H (.ref a) (.ref cD)
/-- a machine at o -/
def MacAt (C : Addr) (H : Hp) (o : Addr) (L : W) (tb : List (List Int)) (es : List Int) : Prop := ∃ dx t e : Addr, H o = some (.ins C dx (mfl (.str (tx L)) (.ref t) (.ref e))) ∧ RowsAt H t tb ∧ H e = some (oTup es)
theorem MacAt.same {C : Addr} {H H' : Hp} {o : Addr} {L : W} {tb : List (List Int)} {es : List Int} (h : MacAt C H o L tb es) (s : Same H H') : MacAt C H' o L tb es := by
  obtain ⟨dx, t, e, h1, h2, h3⟩ := h
  exact ⟨dx, t, e, s _ _ h1, h2.keep (Same.tup' s), s _ _ h3⟩
def spMInitD (C cD : Addr) : Sp := fun vs H Q _ => ∃ (p dx : Addr) (L : W) (g e : Addr) (tb : List (List Int)) (es : List Int), vs = [.ref p, .str (tx L), .ref g, .ref e] ∧ Let L ∧ H p = some (.ins C dx []) ∧ g ≠ p ∧ e ≠ p ∧ MadeAt cD H g tb ∧ H e = some (oTup es) ∧ Asc (tb.length : Nat) es ∧ tb.length ≤ 100 ∧
  ∀ H', MacAt C H' p L tb es → (∀ b o, H b = some o → b ≠ p → H' b = some o) → Q .non H'
section
variable {P : Program} {w : World} {K : PySem.W.Frag} {mg : Str → Option Value} {base : Heap} {C cD fL fA : Addr} {dL dA : FuncData}
theorem scMI2 : FnScope ["self", "letters", "table", "ends"] ["self", "letters", "table", "ends"] (defScope sMInit) := ⟨rfl, rfl, rfl, by decide +kernel, rfl, by decide +kernel, by decide +kernel⟩
theorem ok_minitD {f : Addr} {oc kV dc pm ct cd dV : Value} {an od : Option Addr} {sl : Array (Option Value)} (lk : K.lookup f = some ⟨oc, od, .func (PySem.W.fnOf "__init__" "Machine.__init__" (defArgs sMInit) (defBody sMInit) (defScope sMInit) dV kV dc pm an cd ct), sl⟩) (hcd : PySem.W.codeIn K cd "Machine.__init__" = true)
    (T : TN mg) (M : TMk K mg C cD) (AL : Fn K mg "is_letters" sIsLet ["value"] fL dL) (GL : FnOk P w K mg base CX0 2 fL dL ["value"] (spIsLet K))
    (AA : Fn K mg "is_ascending" sIsAsc ["value", "many"] fA dA) (GA : FnOk P w K mg base CX0 3 fA dA ["value", "many"] (spIsAsc K)) :
    FnOk P w K mg base CX0 4 f (PySem.W.fnOf "__init__" "Machine.__init__" (defArgs sMInit) (defBody sMInit) (defScope sMInit) dV kV dc pm an cd ct) ["self", "letters", "table", "ends"] (spMInitD C cD) := by
  refine fn_of lk hcd scMI2 (fun vs H Q E h => ?_) (fun A outer s H vs Q E hr h => ?_)
  · obtain ⟨p, dx, L, g, e, tb, es, rfl, _⟩ := h
    rfl
  · obtain ⟨p, dx, L, g, e, tb, es, rfl, hL, hp, hgp, hep, ⟨gx, r, hg, rows⟩, he, as, few, q⟩ := h
    have hr3 : Room 3 _ := hr.mono (by decide)
    have hr2 : Room 2 _ := hr.mono (by decide)
    refine ⟨_, pss_cons (ps_if (pt_not (pt_val (pe_call GL hr2 rfl AL.g AL.F.kp AL.b .nil pass0 (pa_cons (pv 1) pa_nil)))) (pss_one ps_never) pss_nil)
      (pss_cons (ps_if (pt_val (pe_callB call_isi (by rfl) T.isi (by decide +kernel) (pa_cons (pv 2) (pa_cons (pe_glob rfl M.gD (show RelV (.ref cD) (.ref cD) from rfl)) pa_nil)))) (pss_one (ps_fld (pv 0) (pe_fld (pv 2) rfl) rfl)) (pss_one ps_never))
      (pss_cons (ps_if (pt_not (pt_val (pe_call GA hr3 rfl AA.g AA.F.kp AA.b .nil pass0 (pa_cons (pv 3) (pa_cons (pe_callB call_len_seq (by rfl) T.len PySem.boot_len (pa_cons (pe_fld (pv 0) rfl) pa_nil)) pa_nil))))) (pss_one ps_never) pss_nil)
      (pss_cons (ps_fld (pv 0) (pv 1) rfl) (pss_one (ps_fld (pv 0) (pv 3) rfl))))), ?_⟩
    refine ⟨_, rfl, _, rfl, .inl ⟨tx L, rfl, by rw [tx_len]; have := hL.few; omega, fun H1 s1 => ⟨_, rfl, ?_⟩⟩⟩
    rw [letB_let hL]
    refine ⟨_, rfl, _, _, _, _, true, rfl, .own cD, .base (M.tyD (s1 _ _ hg)), if_pos (beq_self_eq_true _), true, rfl, ?_⟩
    have hp1 := s1 _ _ hp
    refine ⟨_, rfl, g, cD, gx, _, _, rfl, s1 _ _ hg, M.clD, M.nR, rfl, _, rfl, p, C, dx, [], rfl, hp1, M.cl, M.nT, by show 0 < 1000; decide, ?_⟩
    have kt1 := tup_upd (o := .ins C dx (putF "_table" (V.ref r) [])) hp1 fun _ z => nomatch z
    have rows2 := (rows.keep (Same.tup' s1)).keep kt1
    have he2 : upd H1 p (.ins C dx (putF "_table" (V.ref r) [])) e = some (oTup es) := kt1 _ _ (s1 _ _ he)
    have hp2 : upd H1 p (.ins C dx (putF "_table" (V.ref r) [])) p = some (.ins C dx (putF "_table" (V.ref r) [])) := upd_same
    have off : ∀ b o, H b = some o → b ≠ p → upd H1 p (.ins C dx (putF "_table" (V.ref r) [])) b = some o := fun b o z n => by rw [upd_ne n]; exact s1 _ _ z
    generalize upd H1 p (.ins C dx (putF "_table" (V.ref r) [])) = H2 at rows2 he2 hp2 off
    obtain ⟨ts, t1, t2⟩ := rows2
    have tl : (ts.map V.ref).length = tb.length := by rw [List.length_map, t2.len]
    refine ⟨_, rfl, _, rfl, p, C, dx, _, _, rfl, hp2, M.cl, M.nT, rfl, r, _, rfl, .inr (SqT.of t1), ?_⟩
    rw [tl]
    have el := asc_len as (by omega)
    refine ⟨_, _, rfl, .inl ⟨e, es.map V.int, rfl, SqT.of he2, by rw [List.length_map]; omega, fun x hx => ?_, fun H3 s3 => ⟨_, rfl, ?_⟩⟩⟩
    · obtain ⟨i, _, rfl⟩ := List.mem_map.mp hx
      exact .inl ⟨i, rfl⟩
    rw [ascV_in as]
    have hp3 := s3 _ _ hp2
    refine ⟨_, rfl, _, rfl, p, C, dx, _, rfl, hp3, M.cl, M.nL, by show 1 < 1000; decide, ?_⟩
    refine ⟨_, rfl, _, rfl, p, C, dx, _, rfl, upd_same, M.cl, M.nE, ?_, ?_⟩
    · show (putF "_letters" (V.str (tx L)) (putF "_table" (V.ref r) [])).length < 1000
      rw [put2]
      exact (show 2 < 1000 by decide)
    rw [L2.upd_upd, put2, put3]
    have kt3 := tup_upd (o := .ins C dx (mfl (.str (tx L)) (.ref r) (.ref e))) hp3 fun _ z => nomatch z
    refine q _ ⟨dx, r, e, upd_same, ⟨ts, kt3 _ _ (s3 _ _ t1), objs_tup (objs_tup t2 (Same.tup' s3)) kt3⟩, kt3 _ _ (s3 _ _ he2)⟩ fun b o z n => ?_
    rw [upd_ne n]
    exact s3 _ _ (off b o z n)
end
end RM
set_option Elab.async false
set_option linter.all false
set_option maxRecDepth 100000
set_option maxHeartbeats 8000000
namespace RM
open PySem L2 PyProof.Rows LCX K1 FV DP WK ND
open TX (sg sigs)
open PySem.W (Frag kitOne)
abbrev sLM : Stmt := top 42
abbrev NLM : List Str := ["letters", "table", "ends", "start", "rows", "kept"]
def spLM (K : Frag) (C : Addr) : Sp := fun vs H Q _ => ∃ (L : W) (t e : Addr) (T : List (List Int)) (n : Int) (ends : List Int), vs = [.str (tx L), .ref t, .ref e, .int 0] ∧ Let L ∧ TTab K H t T ∧ TabOk T L.length n ∧ 1 ≤ n ∧ n ≤ 100 ∧ H e = some (oTup ends) ∧ ends.length ≤ 900 ∧
  ∀ o kp en H', H o = none → Same H H' → MacAt C H' o L kp en → Least T L.length ends kp en → Q (.ref o) H'
theorem pairwise_filter {p : Int → Bool} {l : List Int} (h : l.Pairwise (· < ·)) : (l.filter p).Pairwise (· < ·) := h.filter p
theorem rng_pw (n : Nat) : (rngI n).Pairwise (· < ·) := by
  unfold rngI
  refine List.Pairwise.map _ ?_ List.pairwise_lt_range
  intro a b h
  omega
theorem Least.asc {T : List (List Int)} {wd : Nat} {n : Int} {ends : List Int} {kp : List (List Int)} {en : List Int} (l : Least T wd ends kp en) : Asc (kp.length : Nat) en := by
  obtain ⟨g, r, rfl, rfl⟩ := l
  rw [kept_len]
  refine ⟨fun i hi => ?_, pairwise_filter (rng_pw _)⟩
  exact rng_mem.mp ((List.mem_filter.mp hi).1)
section
variable {P : Program} {w : World} {K : PySem.W.Frag} {mg : Str → Option Value} {base : Heap} {C cD fP fI fD : Addr} {dP dI dD : FuncData}
theorem scLM : FnScope NLM ["letters", "table", "ends", "start"] (defScope sLM) := ⟨rfl, rfl, rfl, by decide +kernel, rfl, by decide +kernel, by decide +kernel⟩
theorem ok_lm {f : Addr} {oc kV dc pm ct cd dV : Value} {an od : Option Addr} {sl : Array (Option Value)} (lk : K.lookup f = some ⟨oc, od, .func (PySem.W.fnOf "least_machine" "least_machine" (defArgs sLM) (defBody sLM) (defScope sLM) dV kV dc pm an cd ct), sl⟩) (hcd : PySem.W.codeIn K cd "least_machine" = true)
    (M : TMk K mg C cD) (AP : Fn K mg "least_parts" sLP ["table", "ends", "start"] fP dP) (GP : FnOk P w K mg base CX0 3 fP dP ["table", "ends", "start"] (spLP K))
    (MI : Mk K C fI) (GI : FnOk P w K mg base CX0 4 fI dI ["self", "letters", "table", "ends"] (spMInitD C cD)) (bI : Binds K dI ["self", "letters", "table", "ends"] []) (MD : Mk K cD fD) (GD : FnOk P w K mg base CX0 1 fD dD ["self", "rows"] (spMadeI cD)) (bD : Binds K dD ["self", "rows"] []) :
    FnOk P w K mg base CX0 6 f (PySem.W.fnOf "least_machine" "least_machine" (defArgs sLM) (defBody sLM) (defScope sLM) dV kV dc pm an cd ct) ["letters", "table", "ends", "start"] (spLM K C) := by
  refine fn_of lk hcd scLM (fun vs H Q E h => ?_) (fun A outer s H vs Q E hr h => ?_)
  · obtain ⟨L, t, e, T, n, ends, rfl, _⟩ := h
    rfl
  · obtain ⟨L, t, e, T, n, ends, rfl, hL, hT, ok, n1, n2, he, hel, q⟩ := h
    have hr3 : Room 3 _ := hr.mono (by decide)
    have hr2 : Room 2 _ := hr.mono (by decide)
    refine ⟨_, pss_cons (ps_asg (pe_call (E := E0) GP hr3 rfl AP.g AP.F.kp AP.b .nil pass0 (pa_cons (pv 1) (pa_cons (pv 2) (pa_cons (pv 3) pa_nil)))) (pg_tup (by rfl) (pgs_cons (pg_name (i := 4) scLM.nd rfl (Or.inl rfl)) (pgs_cons (pg_name (i := 5) scLM.nd rfl (Or.inl rfl)) pgs_nil))))
      (pss_one (ps_ret (pe_make (E := E0) MI GI hr rfl M.gC bI .nil pass0 (pa_cons (pv 0) (pa_cons (pe_make (E := E0) MD GD hr2 rfl M.gD bD .nil pass0 (pa_cons (pv 4) pa_nil)) (pa_cons (pv 5) pa_nil)))))), ?_⟩
    have hw := hL.few
    refine ⟨_, rfl, _, rfl, _, rfl, t, e, T, L.length, n, ends, rfl, hT, ok, n1, by omega, by omega, he, hel, fun p kpA enA kp en H1 np s1 hp rows he1 l => ?_⟩
    refine ⟨p, _, rfl, SqT.of hp, rfl, _, _, rfl, _, _, rfl, rfl, ?_⟩
    refine ⟨_, rfl, _, rfl, ?_⟩
    intro x dx hx hdx ne
    refine ⟨x, dx, _, rfl, upd_same, rfl, ?_⟩
    have s3 : Same H1 (upd (upd (upd H1 dx (.own x)) x (.ins cD dx [])) x (.ins cD dx [("rows", .ref kpA)])) := fun b o z => by rw [upd_ne (ne_of_none z hx), upd_ne (ne_of_none z hx), upd_ne (ne_of_none z hdx)]; exact z
    have mk : MadeAt cD (upd (upd (upd H1 dx (.own x)) x (.ins cD dx [])) x (.ins cD dx [("rows", .ref kpA)])) x kp := ⟨dx, kpA, upd_same, rows.keep (Same.tup' s3)⟩
    generalize upd (upd (upd H1 dx (.own x)) x (.ins cD dx [])) x (.ins cD dx [("rows", .ref kpA)]) = H2 at s3 mk
    refine ⟨_, rfl, ?_⟩
    intro y dy hy hdy ney
    have s4 : Same H2 (upd (upd H2 dy (.own y)) y (.ins C dy [])) := fun b o z => by rw [upd_ne (ne_of_none z hy), upd_ne (ne_of_none z hdy)]; exact z
    obtain ⟨t1, t2, t3, t4⟩ := l.tab ok n1
    have hln := ok.len
    refine ⟨y, dy, L, x, enA, kp, en, rfl, hL, upd_same, ?_, ?_, ?_, s4 _ _ (s3 _ _ he1), l.asc (n := n), by omega, fun H5 mac off => ⟨rfl, ?_⟩⟩
    · obtain ⟨dx', r', a1, a2⟩ := mk
      exact ne_of_none a1 hy
    · exact ne_of_none (s3 _ _ he1) hy
    · obtain ⟨dx', r', a1, a2⟩ := mk
      exact ⟨dx', r', s4 _ _ a1, a2.keep (Same.tup' s4)⟩
    · have sall : Same H H5 := fun b o z => off b o (s4 _ _ (s3 _ _ (s1 _ _ z))) (ne_of_none (s3 _ _ (s1 _ _ z)) hy)
      have ny : H y = none := (s1.trans s3).free hy
      exact q y kp en H5 ny sall mac l
end
end RM
set_option Elab.async false
set_option linter.all false
set_option maxRecDepth 100000
set_option maxHeartbeats 4000000
namespace WE
open PySem L2 PyProof.Rows PySem.W
/-- what the written part says of a class of errors at C -/
def errB (K : Frag) (C : Addr) : Bool :=
  (clsIn K C).isSome && (findIn K (.ref C) "__getattribute__" == some (some (.builtin "BaseException.__getattribute__"))) && (findIn K (.ref C) "__getattr__" == some none)
    && (subIn K (.ref C) (.type "BaseException") == some true) && hasDictIn K C && (findIn K (.ref C) "__class__" == some (some (.builtin "object.__class__")))
    && (mroIn K C (.type "object") == some true) && keepIn K (.ref C) && (specialIn K (.builtin "object.__class__") "__get__" == some (some (.builtin "getset_descriptor.__get__")))
    && (takesIn K (.builtin "object.__class__") == some true)
structure ErrT (K : Frag) (C : Addr) : Prop where
  cl : (clsIn K C).isSome = true
  ga : findIn K (.ref C) "__getattribute__" = some (some (.builtin "BaseException.__getattribute__"))
  gg : findIn K (.ref C) "__getattr__" = some none
  sb : subIn K (.ref C) (.type "BaseException") = some true
  hd : hasDictIn K C = true
  ca : findIn K (.ref C) "__class__" = some (some (.builtin "object.__class__"))
  ob : mroIn K C (.type "object") = some true
  kp : keepIn K (.ref C) = true
  gs : specialIn K (.builtin "object.__class__") "__get__" = some (some (.builtin "getset_descriptor.__get__"))
  tk : takesIn K (.builtin "object.__class__") = some true
theorem ErrT.of {K : Frag} {C : Addr} (h : errB K C = true) : ErrT K C := by
  unfold errB at h
  simp only [Bool.and_eq_true, beq_iff_eq] at h
  obtain ⟨⟨⟨⟨⟨⟨⟨⟨⟨h1, h2⟩, h3⟩, h4⟩, h5⟩, h6⟩, h7⟩, h8⟩, h9⟩, h10⟩ := h
  exact ⟨h1, h2, h3, h4, h5, h6, h7, h8, h9, h10⟩
/-- with an __init__ of its own at f, over the built-in class with the chain bm, that stores the field nm -/
def errI (K : Frag) (C f : Addr) (bm : List Value) (newId : String) (nm : Str) : Bool :=
  excInitIn K C bm newId && excOver K C bm && (findIn K (.ref C) "__setattr__" == some (some (.builtin "object.__setattr__"))) && (findIn K (.ref C) "__init__" == some (some (.ref f)))
    && (typeIn K (.ref f) == some (.type "function")) && (takerIn K C nm == some none) && (findIn K (.ref C) nm == some none)
structure ErrI (K : Frag) (C f : Addr) (bm : List Value) (newId : String) (nm : Str) : Prop where
  im : excInitIn K C bm newId = true
  ov : excOver K C bm = true
  sa : findIn K (.ref C) "__setattr__" = some (some (.builtin "object.__setattr__"))
  fi : findIn K (.ref C) "__init__" = some (some (.ref f))
  tf : typeIn K (.ref f) = some (.type "function")
  tn : takerIn K C nm = some none
  no : findIn K (.ref C) nm = some none
theorem ErrI.of {K : Frag} {C f : Addr} {bm : List Value} {newId : String} {nm : Str} (h : errI K C f bm newId nm = true) : ErrI K C f bm newId nm := by
  unfold errI at h
  simp only [Bool.and_eq_true, beq_iff_eq] at h
  exact let ⟨⟨⟨⟨⟨⟨im, ov⟩, sa⟩, fi⟩, tf⟩, tn⟩, no⟩ := h; ⟨im, ov, sa, fi, tf, tn, no⟩
/-- an error of the class at C stands at a, with its dict or without one -/
def ErrAt (H : Hp) (a C : Addr) : Prop := ∃ d, H a = some (exo a C d) ∧ (d = none ∨ ∃ dx fs, d = some dx ∧ H dx = some (exd dx fs))
theorem ErrAt.same {H H' : Hp} {a C : Addr} (s : Same H H') (e : ErrAt H a C) : ErrAt H' a C := by
  obtain ⟨d, ha, hd⟩ := e
  refine ⟨d, s _ _ ha, ?_⟩
  rcases hd with h | ⟨dx, fs, h, hx⟩
  · exact .inl h
  · exact .inr ⟨dx, fs, h, s _ _ hx⟩
/-- how an instance of a class over such a chain is made, its own __init__ run -/
def MakesBy (bmB : List Value) (newId : String) : Prop := ∀ {prog : Program} {w : World} {A : Around} {R : Result → Shared → Prop} {h : Heap} {g : Array GenState} {d : Drawn} {t : Nat} {os : OsState} {nm q : Str} {C N : Addr} {bs bm : List Value} {hdct : Bool} {sn : List Str} {sub : List Value}
    {ab : Bool} {col : Option Bool} {dd : Option Addr} {k0 k1 k2 k3 k5 : Option Value} {rest : List Value} {fI : Addr}, (∀ X : String, bm.contains (.type X) = bmB.contains (.type X)) →
    h.get? C = some (excClassObj nm q C N bs bm hdct sn sub ab col dd k0 k1 k2 k3 k5 newId) → Looks (model prog w) h (typeLookup (.ref C) "__init__") (some (.ref fI)) → (∀ self, Looks (model prog w) h (bindSpecial (.ref fI) self) (.ref fI, [self])) → rest.length ≤ sizeLine →
    codeAny (model prog w) (A.under (.builtin "type.__call__" ⟨.ref C :: rest, []⟩)) (.call (.ref fI) ⟨.ref (h.objs.size + 1) :: rest, []⟩) (InitBack (h.objs.size + 1) R) ⟨(h.push (kdv_tup rest)).push (HandSPX.excO C h.objs.size), g, d, t, os⟩ →
    codeAny (model prog w) A (.call (.ref C) ⟨rest, []⟩) R ⟨h, g, d, t, os⟩
theorem MakesBy.of {bmB : List Value} {B newId initId : String} (F : ExcBaseFacts B newId initId bmB) : MakesBy bmB newId := fun hT hC hi hb hz hq => HandSPX.call_own F hT hC hi hb hz hq
section
variable {prog : Program} {w : World} {A : Around} {R : Result → Shared → Prop} {hp : Heap} {g : Array GenState} {d : Drawn} {t : Nat} {os : OsState}
theorem osa_err {K : Frag} {name : Str} {tk : Tok} {v : Value} {x C : Addr} {fv : Array Value} {bmB : List Value} {B : String} (SF : StoreFacts B bmB "object.__setattr__" "object")
    (X : K.In hp) (hx : hp.get? x = some { cls := .ref C, data := .fields fv }) (ov : excOver K C bmB = true) (tn : takerIn K C name = some none) (hdc : hasDictIn K C = true)
    (done : ∀ k u dx, (∀ b q, b ≠ x → hp.get? b = some q → k.get? b = some q) → hp.objs.size ≤ dx → dx ≠ x → k.get? x = some { cls := .ref C, dict := some dx, data := .fields fv } → k.Ns1 dx (fun y => if y = name then some v else none) →
      R (.ok (.ret .none)) ⟨k, g, d, u, os⟩) : codeAny (model prog w) A (.call (.builtin "object.__setattr__") ⟨[.ref x, .str name tk, v], []⟩) R ⟨hp, g, d, t, os⟩ := by
  have I : InstAt hp x { cls := .ref C, data := .fields fv } C none := ⟨hx, rfl, rfl, trivial⟩
  refine osa_openX (s := ⟨hp, g, d, t, os⟩) SF X I ov tn fun b => ?_
  obtain ⟨cd, hcd, dictful⟩ := any_some hdc
  have isCls : Looks (model prog w) hp (classData C) cd := looks_clsIn X hcd
  have old : x ≠ hp.objs.size := Nat.ne_of_lt (Heap.lt_size hx)
  show wpAny _ _ (Builtin.ObjectAttr.storeInOwnDict (.ref x) (.ref C) (.str name tk) name v b) _ _ _
  rcases cd with ⟨_, _, _, _, _, hd, _, _, _, _, _⟩
  cases (dictful : hd = true)
  unfold Builtin.ObjectAttr.storeInOwnDict; unfold Builtin.ObjectAttr.ownDictForStores
  repeat first | with_reducible refine HandSPX.store_in_new ?_ ?_ | with_reducible refine isCls.at ?_ | with_reducible refine wpAny_loadPart_at hx ?_ | wp_step
  · exact ⟨_, #[], _, (Heap.get?_update_ne _ _ _ _ old.symm).trans (Heap.get?_push_at rfl rfl), rfl, (fun e at_e => (show False by simp at at_e).elim), fun _ => rfl⟩
  · intro k u ns same
    have there : (hp.push { cls := .type "dict", data := .dict #[] }).get? x = some { cls := .ref C, data := .fields fv } := Heap.get?_push_of_some _ hx
    refine done k u hp.objs.size (fun c q nx at_c => (same.2 c (Nat.ne_of_lt (Heap.lt_size at_c))).trans ?_) (Nat.le_refl _) old.symm ((same.2 x old).trans (Heap.get?_update_self _ there rfl)) ns
    exact (Heap.get?_update_ne _ _ _ _ nx).trans (Heap.get?_push_of_some _ at_c)
end
section
variable {X : Cx}
/-- self.nm = e on such an error -/
theorem set_err {pins : List (Addr × Obj)} {σ : L2.St} {H : Hp} {s : Shared} {a C fI : Addr} {nm : Str} {y : V} {u : Value} {bmB : List Value} {B newId : String} {Q : Unit → Shared → Prop} {E : Value → Shared → Prop} {A : Around}
    (SF : StoreFacts B bmB "object.__setattr__" "object") (T : ErrT X.K C) (TI : ErrI X.K C fI bmB newId nm) (I : L2.Inv X pins σ H s) (e : H a = some (exo a C none)) (ry : RelV y u)
    (h : ∀ dx s', H dx = none → dx ≠ a → L2.Inv X pins σ (upd (upd H dx (exd dx [(nm, y)])) a (exo a C (some dx))) s' → Q () s') : wpAny (model X.prog X.w) A (setAttr (.ref a) nm u) Q E s := by
  have ⟨t1, ho⟩ := exo_at I.hok e
  obtain ⟨hp, g, d, t, os⟩ := s
  refine set_plain I.kIn (od := none) ⟨ho, rfl, rfl, trivial⟩ TI.sa ?_
  refine osa_err SF I.kIn ho TI.ov TI.tn T.hd fun h' tk' dx k dxNew dne hx hn => ?_
  have dxFree : H dx = none := I.hok.fresh dxNew
  have offDx : ∀ {b : Addr} {o : Obj}, hp.get? b = some o → b ≠ dx := fun {b o} q => Nat.ne_of_lt (Nat.lt_of_lt_of_le (Heap.lt_size q) dxNew)
  have offA : ∀ {b : Addr}, H b = none → b ≠ a := fun {b} n z => nomatch (z ▸ n).symm.trans e
  have un : Un X.fs [] H (upd (upd H dx (exd dx [(nm, y)])) a (exo a C (some dx))) hp h' :=
    ⟨fun b o q n _ _ => k b o (offA n) q, fun b o q n _ _ => ⟨o.slots, k b o (offA n) q⟩, fun b o q n _ => by rw [upd_ne (offA n), upd_ne (offDx q)]; exact n,
      fun b o q _ => if hb : b = a then ⟨_, hb ▸ hx⟩ else ⟨o, k b o hb q⟩,
      fun b xs q => by rw [upd_ne (at_ne e q exo_tup), upd_ne (ne_of_none q dxFree)]; exact q, fun b o v q => by rw [upd_ne (at_ne e q exo_frz), upd_ne (ne_of_none q dxFree)]; exact q,
      fun b ps q => ⟨#[], by rw [upd_ne (at_ne e q exo_tbl), upd_ne (ne_of_none q dxFree), q]; simp⟩⟩
  refine h dx _ dxFree dne (I.un (t' := tk') un fun b o q => ?_)
  by_cases hb : b = a
  · subst hb
    rw [upd_same] at q
    cases q
    exact exo_ok hx
  · rw [upd_ne hb] at q
    by_cases hd : b = dx
    · subst hd
      rw [upd_same] at q
      cases q
      exact exd_ok hn (relO_put (fs := []) ry fun _ => trivial)
    · rw [upd_ne hd] at q
      refine (I.hok b o q).stay (fun c v hc z => k c v ?_ z) (fun c hc => by rw [upd_ne (at_ne e hc exo_own), upd_ne (ne_of_none hc dxFree)]; exact hc) fun c xs hc => by rw [upd_ne (at_ne e hc exo_tup), upd_ne (ne_of_none hc dxFree)]; exact hc
      rcases hc with hc | hc
      · rw [hc]
        exact hb
      · exact at_ne e hc exo_own
def tSetE (nm : Str) (C : Addr) (to te : TE) : TS := fun D σ H => te σ H fun y H1 => to σ H1 fun x H2 => ∃ a : Addr, x = .ref a ∧ H2 a = some (exo a C none) ∧
  ∀ dx, H2 dx = none → dx ≠ a → D.nx σ (upd (upd H2 dx (exd dx [(nm, y)])) a (exo a C (some dx)))
theorem ps_setE {C fI : Addr} {nm : Str} {bmB : List Value} {B newId : String} {o e : Expr} {to te : TE} {p' pos : Pos} (SF : StoreFacts B bmB "object.__setattr__" "object") (T : ErrT X.K C) (TI : ErrI X.K C fI bmB newId nm) (ho : PE X o to) (he : PE X e te)
    (hs : swapsWith e (some (.Attribute o nm p')) pos.line X.env = pure false := by rfl) : PS X (.Assign [.Attribute o nm p'] e pos) (tSetE nm C to te) := by
  refine ⟨fun pins s σ H D I h => ?_⟩
  refine plainObj_wpAny_Assign_Attribute (thn (he.run pins s σ H _ I h) fun v s1 ⟨y, H1, I1, r1, q1⟩ => thn (ho.run pins s1 σ H1 _ I1 q1) fun u s2 ⟨x, H2, I2, r2, a, ex, ea, q⟩ => ?_) hs
  subst ex
  cases (r2 : u = Value.ref a)
  exact set_err SF T TI I2 ea r1 fun dx s' n ne J => ⟨σ, _, J, q dx n ne⟩
/-- what such an __init__ promises -/
def spErrI (C : Addr) (nm : Str) : Sp := fun vs H Q _ => ∃ (a : Addr) (v : V), vs = [.ref a, v] ∧ H a = some (exo a C none) ∧ ∀ d, H d = none → d ≠ a → Q .non (upd (upd H d (exd d [(nm, v)])) a (exo a C (some d)))
end
end WE
set_option Elab.async false
set_option linter.all false
set_option maxRecDepth 100000
set_option maxHeartbeats 4000000
namespace WE
open PySem L2 PyProof.Rows PySem.W
section
variable {X : Cx}
/-- its dict d stays where it was made -/
def tMkI (C : Addr) (ta : TA) : L2.St → Hp → XK → Prop := fun σ H Q => ta σ H fun vs H1 => ∃ v, vs = [v] ∧ ∀ d H2, H1 d = none → (∀ b o, H1 b = some o → H2 b = some o) → Q (.ref C) (some d) H2
theorem pmk_errI {C fI : Addr} {nm : Str} {bmB : List Value} {newId : String} {x : Str} {k : Nat} {fd : FuncData} {ps : List Str} {e : Expr} {ta : TA} {p pos : Pos} (MB : MakesBy bmB newId) (T : ErrT X.K C) (TI : ErrI X.K C fI bmB newId nm) (R : Raises X (.ref C))
    (G : FnOk X.prog X.w X.K X.mg X.base CX0 k fI fd ps (spErrI C nm)) (hr : Room (k + 1) X.A) (b : L2.Binds X.K fd ps []) (gC : X.mg x = some (.ref C)) (ha : PA X [e] ta) (hg : Gl X x := by rfl)
    (hs : starEach [e] X.env = (false, eval e X.env) :: starEach [] X.env := by rfl) (hpl : (backTo pos (starEach [] X.env)).any (·.1) = false := by rfl) (hdb : (x == ("__debug__" : Str)) = false := by decide) : PMk X (.Call (.Name x p) [e] [] pos) (tMkI C ta) := by
  intro pins s σ H Q I h
  refine wpAny_Call_Name_kw (ld_glob I hg gC (callWith_K (h₀ := X.base) I.ok.mod.kin T.kp (thn (ha.run pos pins s σ H _ I h) fun us s1 ⟨vs, H1, I1, r1, v, ev, q1⟩ => ⟨I1.kIn, ?_⟩) hs hpl) hdb)
  subst ev
  obtain ⟨nm0, N, qn, bs, bm, hdct, sn, sub, ab, col, dd, k0, k1, k2, k3, k5, hC, hT⟩ := excInit_of I1.kIn TI.im
  rw [List.nil_append]
  obtain ⟨hp, g, dr, tk, os⟩ := s1
  have hn : H1 (hp.objs.size + 1) = none := I1.hok.fresh (Nat.le_succ _)
  have kk : ∀ c o, hp.get? c = some o → ((hp.push (kdv_tup us)).push (HandSPX.excO C hp.objs.size)).get? c = some o := fun c o z => Heap.get?_push_of_some _ (Heap.get?_push_of_some _ z)
  have hget : ((hp.push (kdv_tup us)).push (HandSPX.excO C hp.objs.size)).get? (hp.objs.size + 1) = some (HandSPX.excO C hp.objs.size) := by heap_get
  have I2 : L2.Inv X pins σ (upd H1 (hp.objs.size + 1) (exo (hp.objs.size + 1) C none)) ⟨(hp.push (kdv_tup us)).push (HandSPX.excO C hp.objs.size), g, dr, tk, os⟩ :=
    I1.laid (t' := tk) (a := hp.objs.size + 1) (o := exo (hp.objs.size + 1) C none) (h' := (hp.push (kdv_tup us)).push (HandSPX.excO C hp.objs.size)) kk (Nat.le_succ _) (exo_ok hget)
  have r2 : Vals [V.ref (hp.objs.size + 1), v] (Value.ref (hp.objs.size + 1) :: us) := .cons rfl r1
  have want : spErrI C nm [V.ref (hp.objs.size + 1), v] (upd H1 (hp.objs.size + 1) (exo (hp.objs.size + 1) C none)) (fun z H2 => z = .non ∧ ∃ d, H1 d = none ∧ d ≠ hp.objs.size + 1 ∧ H2 = upd (upd (upd H1 (hp.objs.size + 1) (exo (hp.objs.size + 1) C none)) d (exd d [(nm, v)])) (hp.objs.size + 1) (exo (hp.objs.size + 1) C (some d))) (fun _ _ _ => False) := by
    refine ⟨_, _, rfl, upd_same, fun d hd hne => ⟨rfl, d, ?_, hne, rfl⟩⟩
    rw [upd_ne hne] at hd
    exact hd
  have hl : (Value.ref (hp.objs.size + 1) :: us).length = ps.length := by
    rw [← r2.length]
    exact G.len _ _ _ _ want
  have hus : us.length ≤ sizeLine := (Paired.length r1) ▸ (by rw [sizeLine_eq]; exact (by decide : 1 ≤ 16777216))
  refine wpAny_call (MB hT hC (looks_findIn I1.kIn TI.fi) (fun self => bind_fn I1.kIn self TI.tf) hus
    (codeAny_mono (G.run _ X.stack _ _ ⟨Value.ref (hp.objs.size + 1) :: us, []⟩ (Value.ref (hp.objs.size + 1) :: us) _ _ _ (hr.make C us []) (I2.env0.make C us []) (by have z := b _ (Value.ref (hp.objs.size + 1) :: us) I2.kIn (by simpa using hl); simpa using z) r2 want) fun r s' hq' => ?_))
  cases r with
  | error er => exact pass0 pins σ _ _ er s' I2 hq'
  | ok fl =>
    cases fl with
    | ret u =>
      obtain ⟨z, H2, e1, e2, e3, e4, rv, ez, d, d1, d2, eH⟩ := hq'
      subst ez
      subst eH
      have na : hp.objs.size + 1 ≠ d := fun z => d2 z.symm
      refine ⟨rv, mk_end (d := d) (fs := [(nm, v)]) R I1 (Nat.le_succ _) kk e3 e4 e1 e2 upd_same ?_ d1 (q1 d _ d1 fun b o z => ?_)⟩
      · rw [upd_ne d2, upd_same]
      · have nb : b ≠ d := ne_of_none z d1
        have nb2 : b ≠ hp.objs.size + 1 := ne_of_none z hn
        rw [upd_ne nb, del_ne nb2, upd_ne nb2, upd_ne nb, upd_ne nb2]
        exact z
    | _ => exact (show False from hq').elim
end
end WE
set_option Elab.async false
set_option linter.all false
set_option maxRecDepth 100000
set_option maxHeartbeats 8000000
namespace RM
open PySem L2 PyProof.Rows LCX K1 FV DP WK ND
open TX (sg sigs)
open PySem.W (Frag kitOne)
theorem sh_ints (r : List Int) : SeqAt.shaped (.tuple (id_ r)) = true := by
  show (PyData.canLayAll0 (id_ r) && decide (PyData.depthAll (id_ r) + 1 ≤ 64)) = true
  rw [lay_ints, dep_ints] <;> rfl
theorem eqV_int (a b : Int) : eqV (.int a) (.int b) = decide (a = b) := by
  show (a == b) = decide (a = b)
  rfl
theorem inV_int (r : Int) (es : List Int) : inV (.int r) (es.map V.int) = decide (r ∈ es) := by
  unfold inV
  rw [Bool.eq_iff_iff, decide_eq_true_eq, List.any_map, List.any_eq_true]
  constructor
  · rintro ⟨e, he, h⟩
    have h2 : eqV (.int e) (.int r) = true := h
    rw [eqV_int] at h2
    rw [← of_decide_eq_true h2]
    exact he
  · exact fun h => ⟨r, h, (eqV_int r r).trans (decide_eq_true rfl)⟩
theorem flat_ints (es : List Int) : (es.map V.int).all flatV = true := by
  rw [List.all_eq_true]
  intro v hv
  obtain ⟨i, _, rfl⟩ := List.mem_map.mp hv
  rfl
theorem mfl_T (a b c : V) : (mfl a b c).lookup ("_table" : Str) = some b := by
  rw [← put3, lookup_putF, if_neg (by decide +kernel), ← put2, lookup_putF, if_neg (by decide +kernel)]
  rfl
theorem mfl_L (a b c : V) : (mfl a b c).lookup ("_letters" : Str) = some a := by
  rw [← put3, lookup_putF, if_neg (by decide +kernel), ← put2, lookup_putF, if_pos rfl]
theorem mfl_E (a b c : V) : (mfl a b c).lookup ("_ends" : Str) = some c := by
  rw [← put3, lookup_putF, if_pos rfl]
abbrev sMHas : Stmt := inClass (top 41) 14
abbrev sMLen : Stmt := inClass (top 41) 15
abbrev sMEq : Stmt := inClass (top 41) 16
abbrev sMLeast : Stmt := inClass (top 41) 9
abbrev sBMach : Stmt := inClass (top 50) 14
def spMHas (C : Addr) : Sp := fun vs H Q _ => ∃ (o : Addr) (u L : W) (tb : List (List Int)) (es : List Int) (n : Int), vs = [.ref o, .str (tx u)] ∧ MacAt C H o L tb es ∧ TabOk tb L.length n ∧ 1 ≤ n ∧ n ≤ 1000 ∧ Let L ∧ Low u ∧ u.length < 64 ∧ (∀ c ∈ u, c ∈ L) ∧ ∀ H', Same H H' → Q (.bl (decide (ledL L tb u 0 ∈ es))) H'
def spMLen (C : Addr) : Sp := fun vs H Q _ => ∃ (o : Addr) (L : W) (tb : List (List Int)) (es : List Int), vs = [.ref o] ∧ MacAt C H o L tb es ∧ Q (.int (tb.length : Int)) H
def spMEq (C : Addr) : Sp := fun vs H Q _ => ∃ (a b : Addr) (L L' : W) (tb tb' : List (List Int)) (es es' : List Int), vs = [.ref a, .ref b] ∧ MacAt C H a L tb es ∧ MacAt C H b L' tb' es' ∧ Q (.bl (decide (L = L' ∧ tb = tb' ∧ es = es'))) H
def spMLeast (C : Addr) : Sp := fun vs H Q _ => ∃ (o : Addr) (L : W) (tb : List (List Int)) (es : List Int) (n : Int), vs = [.ref o] ∧ MacAt C H o L tb es ∧ Let L ∧ TabOk tb L.length n ∧ 1 ≤ n ∧ n ≤ 100 ∧ es.length ≤ 900 ∧ ∀ p kp en H', H p = none → Same H H' → MacAt C H' p L kp en → Least tb L.length es kp en → Q (.ref p) H'
def spBMach (C CM cT : Addr) : Sp := fun vs H Q E => ∃ (o : Addr) (L : W) (tb : List (List Int)) (n : Int) (e : Addr) (es : List Int), vs = [.ref o, .ref e] ∧ BoxAt C H o L tb ∧ Let L ∧ TabOk tb L.length n ∧ 1 ≤ n ∧ n ≤ 100 ∧ H e = some (oTup es) ∧ Asc n es ∧
  ∀ m kp en H', H m = none → Same H H' → MacAt CM H' m L kp en → Least tb L.length es kp en → (kp.length ≤ 4 → Q (.ref m) H') ∧ (4 < kp.length → ∀ d H2, Same H' H2 → E (.ref cT) (some d) H2)
section
variable {P : Program} {w : World} {K : PySem.W.Frag} {mg : Str → Option Value} {base : Heap} {C cD CM cT fW fO fL fA fM fT gN : Addr} {dW dO dL dA dM dT dN : FuncData}
theorem scMH : FnScope ["self", "x"] ["self", "x"] (defScope sMHas) := ⟨rfl, rfl, rfl, by decide +kernel, rfl, by decide +kernel, by decide +kernel⟩
theorem scML : FnScope ["self"] ["self"] (defScope sMLen) := ⟨rfl, rfl, rfl, by decide +kernel, rfl, by decide +kernel, by decide +kernel⟩
theorem scME : FnScope ["self", "other"] ["self", "other"] (defScope sMEq) := ⟨rfl, rfl, rfl, by decide +kernel, rfl, by decide +kernel, by decide +kernel⟩
theorem scMLs : FnScope ["self"] ["self"] (defScope sMLeast) := ⟨rfl, rfl, rfl, by decide +kernel, rfl, by decide +kernel, by decide +kernel⟩
theorem scBM : FnScope ["self", "places", "found"] ["self", "places"] (defScope sBMach) := ⟨rfl, rfl, rfl, by decide +kernel, rfl, by decide +kernel, by decide +kernel⟩
theorem ok_mlen {f : Addr} {fd : FuncData} (F : Fun K "__len__" "Machine.__len__" sMLen f fd) (T : TN mg) (M : TMk K mg CM cD) : FnOk P w K mg base CX0 1 f fd ["self"] (spMLen CM) := by
  refine F.ok scML (fun vs H Q E h => ?_) (fun cdv A outer s H vs Q E hr h => ?_)
  · obtain ⟨o, _, _, _, rfl, _⟩ := h
    rfl
  · obtain ⟨o, L, tb, es, rfl, ⟨dx, t, e, h1, ⟨ts, h2, h3⟩, h4⟩, q⟩ := h
    refine ⟨_, pss_one (ps_ret (pe_callB call_len_seq (by rfl) T.len PySem.boot_len (pa_cons (pe_fld (pv 0) rfl) pa_nil))), ?_⟩
    refine ⟨_, rfl, o, CM, dx, _, _, rfl, h1, M.cl, M.nT, mfl_T _ _ _, t, _, rfl, .inr (SqT.of h2), ?_⟩
    rw [List.length_map, h3.len]
    exact q
theorem ok_mleast {f : Addr} {fd : FuncData} {v0 : Value} {t0 : Tok} (ev : v0 = .int 0 t0) (F : Fun K "least" "Machine.least" sMLeast f fd) (M : TMk K mg CM cD) (gM : mg "least_machine" = some (.ref fM)) (kM : PySem.W.keepIn K (.ref fM) = true) (GM : FnOk P w K mg base CX0 6 fM dM ["letters", "table", "ends", "start"] (spLM K CM)) (bM : Binds K dM ["letters", "table", "ends", "start"] [v0]) :
    FnOk P w K mg base CX0 7 f fd ["self"] (spMLeast CM) := by
  refine F.ok scMLs (fun vs H Q E h => ?_) (fun cdv A outer s H vs Q E hr h => ?_)
  · obtain ⟨o, _, _, _, _, rfl, _⟩ := h
    rfl
  · obtain ⟨o, L, tb, es, n, rfl, ⟨dx, t, e, h1, h2, h4⟩, hL, ok, n1, n2, hel, q⟩ := h
    refine ⟨_, pss_one (ps_ret (pe_call (E := E0) GM hr rfl gM kM bM (dvs := [.int 0]) (.cons ⟨t0, ev⟩ .nil) pass0 (pa_cons (pe_fld (pv 0) rfl) (pa_cons (pe_fld (pv 0) rfl) (pa_cons (pe_fld (pv 0) rfl) pa_nil))))), ?_⟩
    exact ⟨_, rfl, o, CM, dx, _, _, rfl, h1, M.cl, M.nL, mfl_L _ _ _, _, rfl, o, CM, dx, _, _, rfl, h1, M.cl, M.nT, mfl_T _ _ _, _, rfl, o, CM, dx, _, _, rfl, h1, M.cl, M.nE, mfl_E _ _ _, L, t, e, tb, n, es, rfl, hL, rows_tt h2, ok, n1, n2, h4, hel, q⟩
theorem ok_bmach {f : Addr} {fd : FuncData} {fI : Addr} {dI : FuncData} {v0 : Value} {t0 : Tok} (ev : v0 = .int 0 t0) (F : Fun K "machine" "Box.machine" sBMach f fd) (T : TN mg) (B : TBx K mg C cD) (M : TMk K mg CM cD) (AA : Fn K mg "is_ascending" sIsAsc ["value", "many"] fA dA) (GA : FnOk P w K mg base CX0 3 fA dA ["value", "many"] (spIsAsc K))
    (gM : mg "least_machine" = some (.ref fM)) (kM : PySem.W.keepIn K (.ref fM) = true) (GM : FnOk P w K mg base CX0 6 fM dM ["letters", "table", "ends", "start"] (spLM K CM)) (bM : Binds K dM ["letters", "table", "ends", "start"] [v0])
    (hN : PySem.W.findIn K (.ref CM) "__len__" = some (some (.ref gN))) (iN : PySem.W.isFn K (.ref gN) = true) (RN : FnR P w K mg base CX0 1 gN (fun vs H Q E => spMLen CM (vs ++ []) H Q E)) (most : ∃ t, mg "MAX_STATES" = some (.int 4 t))
    (ET : WE.ErrT K cT) (EI : WE.ErrI K cT fI [.type "OverflowError", .type "ArithmeticError", .type "Exception", .type "BaseException", .type "object"] "OverflowError.__new__" "limit") (bT : PySem.W.subIn K (.ref cT) (.type "BaseException") = some true) (tT : PySem.W.typeIn K (.ref cT) = some (.type "type"))
    (GI : FnOk P w K mg base CX0 1 fI dI ["self", "limit"] (WE.spErrI cT "limit")) (bI : Binds K dI ["self", "limit"] []) (gT : mg "TooMany" = some (.ref cT)) :
    FnOk P w K mg base (L2.CX P w) 7 f fd ["self", "places"] (spBMach C CM cT) := by
  obtain ⟨tm, most⟩ := most
  refine F.okX scBM (fun vs H Q E h => ?_) (fun cdv A outer s H vs Q E hr h => ?_)
  · obtain ⟨o, _, _, _, e, _, rfl, _⟩ := h
    rfl
  · obtain ⟨o, L, tb, n, e, es, rfl, ⟨dx, r, h1, rows⟩, hL, ok, n1, n2, he, as, q⟩ := h
    have hr3 : Room 3 _ := hr.mono (by decide)
    have hr2 : Room 2 _ := hr.mono (by decide)
    refine ⟨_, pss_cons (ps_if (pt_not (pt_val (pe_call GA hr3 rfl AA.g AA.F.kp AA.b .nil pass0 (pa_cons (pv 1) (pa_cons (pe_callB call_len_seq (by rfl) T.len PySem.boot_len (pa_cons (pe_fld (pv 0) rfl) pa_nil)) pa_nil))))) (pss_one ps_never) pss_nil)
      (pss_cons (ps_set (i := 2) scBM.nd rfl (Or.inl rfl) (pe_call (E := E0) GM hr rfl gM kM bM (dvs := [.int 0]) (.cons ⟨t0, ev⟩ .nil) pass0 (pa_cons (pe_fld (pv 0) rfl) (pa_cons (pe_fld (pv 0) rfl) (pa_cons (pv 1) pa_nil)))))
      (pss_cons (ps_if (pt_cmpR op_gt (pe_callB (OWN.call_lenO hN iN RN hr2) (by rfl) T.len PySem.boot_len (pa_cons (pv 2) pa_nil)) (pe_glob rfl most (show RelV (.int 4) (.int 4 tm) from ⟨tm, rfl⟩)) (nomark _))
        (pss_one (ps_raise rfl (takes_of rfl rfl rfl rfl) (WE.pmk_errI (WE.MakesBy.of PySem.F.excBase_OverflowError) ET EI (raises_own bT tT) GI hr2 bI gT (pa_cons (pe_glob rfl most (show RelV (.int 4) (.int 4 tm) from ⟨tm, rfl⟩)) pa_nil)))) pss_nil)
      (pss_one (ps_ret (pv 2))))), ?_⟩
    obtain ⟨ts, t1, t2⟩ := rows
    have tl : (ts.map V.ref).length = tb.length := by rw [List.length_map, t2.len]
    refine ⟨_, rfl, _, rfl, o, C, dx, _, _, rfl, h1, B.cl, B.nT, bfl_T, r, _, rfl, .inr (SqT.of t1), ?_⟩
    rw [tl]
    have hln := ok.len
    have el := asc_len as (by omega)
    refine ⟨_, _, rfl, .inl ⟨e, es.map V.int, rfl, SqT.of he, by rw [List.length_map]; omega, fun x hx => ?_, fun H1 s1 => ⟨_, rfl, ?_⟩⟩⟩
    · obtain ⟨i, _, rfl⟩ := List.mem_map.mp hx
      exact .inl ⟨i, rfl⟩
    rw [hln, ascV_in as]
    have g1 := s1 _ _ h1
    refine ⟨_, rfl, o, C, dx, _, _, rfl, g1, B.cl, B.nL, bfl_L, _, rfl, o, C, dx, _, _, rfl, g1, B.cl, B.nT, bfl_T, _, rfl, L, r, e, tb, n, es, rfl, hL, ⟨ts, SqT.of (s1 _ _ t1), objs_tup t2 (Same.tup' s1)⟩, ok, n1, n2, s1 _ _ he, by omega, fun m kp en H2 hm s2 mac l => ?_⟩
    have nm : H m = none := s1.free hm
    obtain ⟨q1, q2⟩ := q m kp en H2 nm (s1.trans s2) mac l
    obtain ⟨mdx, mt, me, m1, m2, m3⟩ := mac
    refine ⟨_, rfl, m, mdx, _, rfl, m1, m, L, kp, en, rfl, ⟨mdx, mt, me, m1, m2, m3⟩, kp.length, rfl, ?_, ?_⟩
    · obtain ⟨_, _, _, k4⟩ := l.tab ok n1
      omega
    refine ⟨_, _, rfl, rfl, _, rfl, ?_⟩
    refine ite2 (fun hgt => ?_) (fun hle => ?_)
    · have hgt : (4 : Int) < ((kp.length : Nat) : Int) := of_decide_eq_true hgt
      exact ⟨.int 4, rfl, fun d H3 _ s3 => q2 (by omega) d H3 s3⟩
    · have hle : ¬ (4 : Int) < ((kp.length : Nat) : Int) := fun z => hle (decide_eq_true z)
      exact ⟨_, rfl, q1 (by omega)⟩
theorem ok_mhas {f : Addr} {fd : FuncData} (F : Fun K "__contains__" "Machine.__contains__" sMHas f fd) (M : TMk K mg CM cD) (AW : Fn K mg "is_word" sIsWord ["value"] fW dW) (GW : FnOk P w K mg base CX0 1 fW dW ["value"] (spIsWord K))
    (AO : Fn K mg "is_over" sIsOver ["letters", "word"] fO dO) (GO : FnOk P w K mg base CX0 1 fO dO ["letters", "word"] spOver) (AL : Fn K mg "led" sLed ["letters", "table", "word", "start"] fL dL) (GL : FnOk P w K mg base CX0 1 fL dL ["letters", "table", "word", "start"] (spLed K)) :
    FnOk P w K mg base CX0 2 f fd ["self", "x"] (spMHas CM) := by
  refine F.ok scMH (fun vs H Q E h => ?_) (fun cdv A outer s H vs Q E hr h => ?_)
  · obtain ⟨o, u, _, _, _, _, rfl, _⟩ := h
    rfl
  · obtain ⟨o, u, L, tb, es, n, rfl, ⟨dx, t, e, h1, h2, h4⟩, ok, n1, n2, hL, lo, hu, hc, q⟩ := h
    refine ⟨_, pss_cons (ps_if (PW.pt (pw_or (pt_not (pt_val (pe_call GW hr rfl AW.g AW.F.kp AW.b .nil pass0 (pa_cons (pv 1) pa_nil))))
        (pw_or1 (pt_not (pt_val (pe_call GO hr rfl AO.g AO.F.kp AO.b .nil pass0 (pa_cons (pe_fld (pv 0) rfl) (pa_cons (pv 1) pa_nil)))))))) (pss_one (ps_ret pe_bl)) pss_nil)
      (pss_one (ps_ret (pe_cmpR op_in_seq (pe_call GL hr rfl AL.g AL.F.kp AL.b .nil pass0 (pa_cons (pe_fld (pv 0) rfl) (pa_cons (pe_fld (pv 0) rfl) (pa_cons (pv 1) (pa_cons pe_int pa_nil))))) (pe_fld (pv 0) rfl) (by rfl)))), ?_⟩
    refine ⟨_, rfl, _, rfl, .inl ⟨tx u, rfl, _, rfl, ?_⟩⟩
    rw [wordB_low lo]
    refine ⟨_, rfl, o, CM, dx, _, _, rfl, h1, M.cl, M.nL, mfl_L _ _ _, _, rfl, L, u, rfl, hu, hc, fun H1 s1 => ⟨_, rfl, ?_⟩⟩
    have h1' := s1 _ _ h1
    refine ⟨_, rfl, o, CM, dx, _, _, rfl, h1', M.cl, M.nL, mfl_L _ _ _, _, rfl, o, CM, dx, _, _, rfl, h1', M.cl, M.nT, mfl_T _ _ _, _, rfl, t, L, u, tb, n, 0, rfl, (rows_tt h2).same s1, hL, ok, n2, Int.le_refl _, by omega, by omega, hc, fun H2 s2 => ?_⟩
    have s12 := s1.trans s2
    refine ⟨_, rfl, o, CM, dx, _, _, rfl, s12 _ _ h1, M.cl, M.nE, mfl_E _ _ _, e, _, rfl, .inr (SqT.of (s12 _ _ h4)), rfl, flat_ints es, ?_⟩
    rw [inV_int]
    exact q _ s12
theorem ok_meq {f : Addr} {fd : FuncData} (F : Fun K "__eq__" "Machine.__eq__" sMEq f fd) (T : TN mg) (M : TMk K mg CM cD) (is : SlX.SIsi K CM) (kC : kitOne K (.ref CM) (.ref CM) = some true) : FnOk P w K mg base CX0 1 f fd ["self", "other"] (spMEq CM) := by
  refine F.ok scME (fun vs H Q E h => ?_) (fun cdv A outer s H vs Q E hr h => ?_)
  · obtain ⟨a, b, _, _, _, _, _, _, rfl, _⟩ := h
    rfl
  · obtain ⟨a, b, L, L', tb, tb', es, es', rfl, ⟨dx, t, e, h1, ⟨ts, h2, h3⟩, h4⟩, ⟨dx', t', e', g1, ⟨ts', g2, g3⟩, g4⟩, q⟩ := h
    refine ⟨_, pss_one (ps_ret (pe_and (pe_callB call_isi (by rfl) T.isi (by decide +kernel) (pa_cons (pv 1) (pa_cons (pe_glob rfl M.gC (show RelV (.ref CM) (.ref CM) from rfl)) pa_nil)))
      (pe_and (pe_cmpR op_eq (pe_fld (pv 0) rfl) (pe_fld (pv 1) rfl) (nomark _)) (pe_and (pe_cmpR (op_eqD hr.units) (pe_fld (pv 0) rfl) (pe_fld (pv 1) rfl) (nomark _)) (pe_one (pe_cmpR (op_eqD hr.units) (pe_fld (pv 0) rfl) (pe_fld (pv 1) rfl) (nomark _))))))), ?_⟩
    refine ⟨_, rfl, _, _, _, _, true, rfl, .own CM, .base (.ins g1 M.cl is.ca is.cn is.ct is.cm), kC, true, rfl, ?_⟩
    refine ⟨_, rfl, a, CM, dx, _, _, rfl, h1, M.cl, M.nL, mfl_L _ _ _, _, rfl, b, CM, dx', _, _, rfl, g1, M.cl, M.nL, mfl_L _ _ _, rfl, _, rfl, ?_⟩
    by_cases e1 : L = L'
    · rw [decide_eq_true (congrArg (fun z => V.str (tx z)) e1)]
      refine ⟨_, rfl, a, CM, dx, _, _, rfl, h1, M.cl, M.nT, mfl_T _ _ _, _, rfl, b, CM, dx', _, _, rfl, g1, M.cl, M.nT, mfl_T _ _ _, .tuple (td_ tb), .tuple (td_ tb'), .tup (SqT.of h2) (dp_tab h3), .tup (SqT.of g2) (dp_tab g3), sh_tab tb, sh_tab tb', PyData.eqvAll (td_ tb) (td_ tb'), rfl, ?_⟩
      rw [eqv_tabs]
      by_cases e2 : tb = tb'
      · rw [decide_eq_true e2]
        refine ⟨_, rfl, a, CM, dx, _, _, rfl, h1, M.cl, M.nE, mfl_E _ _ _, _, rfl, b, CM, dx', _, _, rfl, g1, M.cl, M.nE, mfl_E _ _ _, .tuple (id_ es), .tuple (id_ es'), .tup (SqT.of h4) (dp_int es), .tup (SqT.of g4) (dp_int es'), sh_ints es, sh_ints es', ?_⟩
        show Q (.bl (PyData.eqvAll (id_ es) (id_ es'))) H
        rw [eqv_ints]
        have e3 : decide (es = es') = decide (L = L' ∧ tb = tb' ∧ es = es') := decide_eq_decide.mpr ⟨fun z => ⟨e1, e2, z⟩, fun z => z.2.2⟩
        rw [e3]
        exact q
      · rw [decide_eq_false e2]
        rw [decide_eq_false fun z => e2 z.2.1] at q
        exact q
    · rw [decide_eq_false fun z => e1 (K1.tx_inj (V.str.inj z))]
      rw [decide_eq_false fun z => e1 z.1] at q
      exact q
end
end RM
set_option Elab.async false
set_option linter.all false
set_option maxRecDepth 100000
set_option maxHeartbeats 6000000
namespace TRY
open PySem PySem.Spec PyProof.Rows L2
/-- an exception of class cls is caught in the frame of X: the state behind is J's, the flight stands at a -/
structure Caught (X : Cx) (pins : List (Addr × Obj)) (B : Heap) (a : Addr) (cls : Value) (d : Option Addr) (σ : L2.St) (H : Hp) (sI s : Shared) (h3 : Heap) : Prop where
  inv : Inv X pins σ H sI
  nb : ∀ b o, sI.heap.get? b = some o → b ∉ frs X.stack → B.get? b = some o
  fl : HandSPX.FlyingZ B (X.env :: X.outer) a (Zc cls d) h3
  up : sI.heap.UpToSlots h3
  na : H a = none
  os : s.os = sI.os
  bare : AllBare s.gens
section
variable {X : Cx} {pins : List (Addr × Obj)} {B : Heap} {a : Addr} {cls : Value} {d : Option Addr} {σ : L2.St} {H : Hp} {sI s : Shared} {h3 : Heap}
theorem Caught.apart (k : Caught X pins B a cls d σ H sI s h3) (hs : X.stack = X.env :: X.outer) (hf : X.env.frame = some X.env.locals) : a ≠ X.env.locals ∧ a ∉ X.fs := by
  obtain ⟨oe, vs, e1, _, e2⟩ := k.fl.there
  have out : a ∉ frs (X.env :: X.outer) := fun m => by
    obtain ⟨_, o, e, n⟩ := k.fl.2.2.1.mem m
    obtain rfl : oe = o := Option.some.inj (e1.symm.trans e)
    exact n _ e2
  refine ⟨fun z => out (List.mem_filterMap.mpr ⟨X.env, .head _, by rw [hf, z]⟩), fun m => ?_⟩
  obtain ⟨e, m1, m2⟩ := List.mem_filterMap.mp m
  exact out (List.mem_filterMap.mpr ⟨e, .tail _ m1, m2⟩)
theorem Caught.here (k : Caught X pins B a cls d σ H sI s h3) : Inv X pins σ H { s with heap := h3 } := k.inv.landed k.nb k.fl.1 k.up k.os k.bare
/-- landed once more -/
theorem Caught.again (k : Caught X pins B a cls d σ H sI s h3) {h4 : Heap} (fl : HandSPX.FlyingZ B (X.env :: X.outer) a (Zc cls d) h4) (up : h3.UpToSlots h4) : Caught X pins B a cls d σ H sI s h4 := ⟨k.inv, k.nb, fl, k.up.trans up, k.na, k.os, k.bare⟩
end
end TRY
set_option Elab.async false
set_option linter.all false
set_option maxRecDepth 100000
set_option maxHeartbeats 8000000
namespace RM
open PySem L2 PyProof.Rows LCX K1 FV DP WK
open TX (sg sigs)
open PySem.W (Frag kitOne)
abbrev sLFar : Stmt := top 70
abbrev sLLean : Stmt := top 71
abbrev sLMach : Stmt := top 72
abbrev NFa : List Str := ["_law_table_here", "_law_letters_here", "_law_word_here", "_law_start", "_law_times", "_law_order", "_law_first"]
abbrev NLe : List Str := ["_law_table_here", "_law_letters_here", "_law_places", "_law_place", "_law_later"]
abbrev scLn : Scope := { kind := .function, names := [(".0", .local), ("_law_place", .local), ("tuple", .globalImplicit), ("_law_places", .cell), ("_law_table_here", .cell)], isGenerator := false, isCoroutine := false }
def spFar : Sp := fun vs H Q _ => ∃ (l : Addr) (L u : W) (tb : List (List Int)) (n st tm : Int), vs = [.ref l, .str (tx L), .str (tx u), .int st, .int tm] ∧ PTab H l tb ∧ Let L ∧ TabOk tb L.length n ∧ n ≤ 1000 ∧ 0 ≤ st ∧ st < n ∧ (∀ c ∈ u, c ∈ L) ∧ 0 ≤ tm ∧ ∀ H', Same H H' → Q (.int (itL (ledL L tb u) st tm.toNat)) H'
def spLLean : Sp := fun vs H Q _ => ∃ (l : Addr) (L : W) (tb : List (List Int)) (n : Int), vs = [.ref l, .str (tx L)] ∧ PTab H l tb ∧ Let L ∧ TabOk tb L.length n ∧ 1 ≤ n ∧ n ≤ 1000 ∧ ∀ p H', H p = none → Same H H' → PTab H' p (leanT tb L.length) → Q (.ref p) H'
def spLMach (C CM : Addr) : Sp := fun vs H Q _ => ∃ (o : Addr) (L : W) (tb : List (List Int)) (n : Int) (e : Addr) (es : List Int), vs = [.ref o, .ref e] ∧ BoxAt C H o L tb ∧ Let L ∧ TabOk tb L.length n ∧ 1 ≤ n ∧ n ≤ 100 ∧ H e = some (oTup es) ∧ Asc n es ∧
  (∀ m kp en H', H m = none → Same H H' → MacAt CM H' m L kp en → Least tb L.length es kp en → kp.length ≤ 4 → Q (.ref m) H') ∧ (∀ kp en H', Same H H' → Least tb L.length es kp en → 4 < kp.length → Q .non H')
theorem cut_last {α : Type} (f : α → V) (zs : List α) (z : α) : cutV ((zs ++ [z]).map f) none (some (-1)) = zs.map f := by
  unfold cutV
  have h1 : HT.sIx ((zs ++ [z]).map f).length 0 none = 0 := rfl
  have h2 : HT.sIx ((zs ++ [z]).map f).length ((zs ++ [z]).map f).length (some (-1)) = zs.length := by
    unfold HT.sIx
    show (if (-1 : Int) < 0 then (-1 + (((zs ++ [z]).map f).length : Int)).toNat else _) = _
    rw [if_pos (by decide), List.length_map, List.length_append, List.length_singleton]
    omega
  rw [h1, h2, List.drop_zero, Nat.sub_zero, List.map_append, List.take_left' (by rw [List.length_map])]
section
variable {P : Program} {w : World} {K : PySem.W.Frag} {mg : Str → Option Value} {base : Heap} {fL fF gM : Addr} {dL dF dG : FuncData} {C cD CM cT : Addr}
theorem scFa : FnScope NFa ["_law_table_here", "_law_letters_here", "_law_word_here", "_law_start", "_law_times"] (defScope sLFar) := ⟨rfl, rfl, rfl, by decide +kernel, rfl, by decide +kernel, by decide +kernel⟩
theorem scLe : FnScope NLe ["_law_table_here", "_law_letters_here"] (defScope sLLean) := ⟨rfl, rfl, rfl, by decide +kernel, rfl, by decide +kernel, by decide +kernel⟩
theorem scLc : FnScope ["_law_box_here", "_law_spots"] ["_law_box_here", "_law_spots"] (defScope sLMach) := ⟨rfl, rfl, rfl, by decide +kernel, rfl, by decide +kernel, by decide +kernel⟩
theorem ok_lmach {f : Addr} {fd : FuncData} (F : Fun K "_law_machine_of" "_law_machine_of" sLMach f fd) (B : TBx K mg C cD) (hm : Meth K C "machine" gM) (GB : FnOk P w K mg base (L2.CX P w) 7 gM dG ["self", "places"] (spBMach C CM cT)) (bG : Binds K dG ["self", "places"] []) (gT : mg "TooMany" = some (.ref cT)) (xTT : PySem.W.exmOne K (.ref cT) (.ref cT) = some true) (noM : ("machine" == ("_table" : Str)) = false ∧ ("machine" == ("_letters" : Str)) = false) :
    FnOk P w K mg base CX0 8 f fd ["_law_box_here", "_law_spots"] (spLMach C CM) := by
  refine F.ok scLc (fun vs H Q E h => ?_) (fun cdv A outer s H vs Q E hr h => ?_)
  · obtain ⟨o, _, _, _, e, _, rfl, _⟩ := h
    rfl
  · obtain ⟨o, L, tb, n, e, es, rfl, hB, hL, ok, n1, n2, he, as, q1, q2⟩ := h
    refine ⟨_, pss_one (ps_try_only rfl rfl ⟨rfl, by decide, .inl gT⟩ takes0 (fun W pn xe tk _ => pss_one (ps_ret (MKW.pe_methE (pv 0) B.cl hm GB hr bG (fun σ => passAt tk σ) (pa_cons (pv 1) pa_nil))))
      (fun a oe cls d pn _ _ => pss_one (ps_ret pe_non))), ?_⟩
    obtain ⟨dx, r, h1, rows⟩ := hB
    refine ⟨_, rfl, o, dx, _, rfl, h1, rfl, _, rfl, ?_⟩
    refine ⟨o, L, tb, n, e, es, rfl, ⟨dx, r, h1, rows⟩, hL, ok, n1, n2, he, as, fun m kp en H' hm s1 mac l => ⟨fun le => q1 m kp en H' hm s1 mac l le, fun gt d H2 s2 => ⟨true, xTT, fun _ a ha => q2 kp en H2 (s1.trans s2) l gt, fun z => nomatch z⟩⟩⟩
theorem ok_llean {f : Addr} {fd : FuncData} (F : Fun K "_law_lean" "_law_lean" sLLean f fd) (T : TN mg) (AF : Fn K mg "_law_firsts" sLFirsts ["_law_table_here", "_law_letters_here"] fF dF) (GF : FnOk P w K mg base CX0 1 fF dF ["_law_table_here", "_law_letters_here"] spLFirsts) :
    FnOk P w K mg base CX0 2 f fd ["_law_table_here", "_law_letters_here"] spLLean := by
  refine F.ok scLe (fun vs H Q E h => ?_) (fun cdv A outer s H vs Q E hr h => ?_)
  · obtain ⟨l, L, tb, n, rfl, _⟩ := h
    rfl
  · obtain ⟨l, L, tb, n, rfl, ⟨as, h1, h2⟩, hL, ok, n1, n2, q⟩ := h
    refine ⟨_, pss_cons (ps_set (i := 2) scLe.nd rfl (Or.inr rfl) (pe_callTy (call_listD rfl) (by rfl) T.list (by decide +kernel) (pa_cons (pe_call (E := E0) GF hr rfl AF.g AF.F.kp AF.b .nil pass0 (pa_cons (pv 0) (pa_cons (pv 1) pa_nil))) pa_nil)))
      (pss_one (ps_ret (pe_lc (own := [("_law_place", 3)]) (g := gName 3) (tt := tYes) (te := tCB (rTupL K) (tCons (tLc (iTup K (tOp (rIxL K) (tVar 0) (tVar 3))) (gName 4) tYes (tBM K "list" (rIndex K) (tVar 2) (tCons (tVar 4) tNil)) [4]) tNil)) rfl scLe.nd (pi_list (pv 2))
        (blkOk_by (own := [("_law_place", 3)]) (N := NLe) (sc := defScope sLLean) (by decide +kernel)) (fun _ _ _ _ _ => pg_name (i := 3) scLe.nd rfl (Or.inl rfl)) (fun _ _ _ _ _ => pts_nil)
        (fun _ _ _ _ _ => pe_callTy call_tuple_of (by rfl) T.tuple (by decide +kernel) (pa_cons (pe_lc (own := [("_law_later", 4)]) (g := gName 4) (tt := tYes) (te := tBM K "list" (rIndex K) (tVar 2) (tCons (tVar 4) tNil)) rfl scLe.nd (pi_tup (pe_ix ix_list (pv 0) (pv 3) (fun _ _ => rfl)))
          (blkOk_by (own := [("_law_later", 4)]) (N := NLe) (sc := scLn) (by decide +kernel)) (fun _ _ _ _ _ => pg_name (i := 4) scLe.nd rfl (Or.inl rfl)) (fun _ _ _ _ _ => pts_nil)
          (fun _ _ _ _ _ => pe_bm PySem.F.plainAttrs_list PySem.F.slot_list_index PySem.F.type_list_index mt_index (pv 2) (pa_cons (pv 4) pa_nil))) pa_nil))))), ?_⟩
    refine ⟨_, rfl, _, rfl, l, L, tb, n, rfl, ⟨as, h1, h2⟩, hL, ok, n1, n2, fun D kvs H1 nD s1 hd keys vo => ?_⟩
    refine ⟨D, kvs, rfl, .inl hd, fun p hp => ?_⟩
    have O := ord_of ok n1
    have le := O.le
    have kl : (kvs.map fun kv => kV kv.1) = (wyA tb 0 tb.length).map V.int := by
      have : (kvs.map fun kv => kV kv.1) = (kvs.map (·.1)).map kV := by rw [List.map_map] <;> rfl
      rw [this, show kvs.map (·.1) = _ from keys, List.map_map] <;> rfl
    rw [kl]
    generalize wyA tb 0 tb.length = o at O le
    generalize leanT tb L.length = B at O q
    have s2 : Same H (upd H1 p (.lst (o.map V.int))) := s1.trans (same_upd hp)
    have hp2 : (upd H1 p (.lst (o.map V.int))) p = some (.lst (o.map V.int)) := upd_same
    generalize upd H1 p (.lst (o.map V.int)) = H2 at s2 hp2 ⊢
    have hln := ok.len
    refine ⟨_, rfl, p, rfl, ⟨_, SqL.of hp2⟩, fun D4 hD4 => ?_⟩
    have rat : ∀ (i : Nat) (hi : i < o.length), (o.map V.int)[i]? = some (.int o[i]) := fun i hi => by
      rw [List.getElem?_map, List.getElem?_eq_getElem hi] <;> rfl
    refine lc_it walk_list (fun i H5 => Same H2 H5 ∧ ∃ ts : List Addr, H5 D4 = some (.lst (ts.map V.ref)) ∧ Objs oTup H5 ts (B.take i) ∧ ts.length = i) ⟨same_upd hD4, [], upd_same, trivial, rfl⟩ (fun i H5 _ ⟨s5, _⟩ => SqL.of (s5 _ _ hp2)) ?_ ?_
    · rintro i x H5 H6 hi ⟨s5, ts, hd5, ho5, hts⟩ ⟨rfl, hx⟩
      rw [List.length_map] at hi
      obtain rfl : V.int o[i] = x := Option.some.inj ((rat i hi).symm.trans hx)
      obtain ⟨r0, hr0, hv0, eo, wU, wV, same⟩ := O.row i hi
      rw [eo]
      have s25 := s2.trans s5
      obtain ⟨a, e1, e2⟩ := h2.get hr0
      have at1 : atI (as.map V.ref) ((r0 : Nat) : Int) = some (.ref a) := atI_nat (by rw [List.getElem?_map, e1] <;> rfl)
      have erow : tb.getD r0 [] = tb[r0] := by rw [List.getD_eq_getElem?_getD, List.getElem?_eq_getElem hr0] <;> rfl
      rw [erow] at e2
      have e2' := s25 _ _ e2
      refine ⟨rfl, _, rfl, _, rfl, l, _, _, _, rfl, rfl, SqL.of (s25 _ _ h1), at1, a, rfl, ⟨_, SqT.of e2'⟩, fun D6 hD6 => ?_⟩
      refine lc_it walk_tup (fun k H7 => Same H6 H7 ∧ H7 D6 = some (.lst ((B[i].take k).map V.int))) ⟨same_upd hD6, upd_same⟩ (fun k H7 _ ⟨s7, _⟩ => SqT.of (s7 _ _ e2')) ?_ ?_
      · rintro k y H7 H8 hk ⟨s7, hd7⟩ ⟨rfl, hy⟩
        rw [List.length_map] at hk
        have hk2 : k < B[i].length := by omega
        have hy2 : y = .int tb[r0][k] := by
          rw [List.getElem?_map, List.getElem?_eq_getElem hk] at hy
          exact (Option.some.inj hy).symm
        subst hy2
        obtain ⟨j, hj, j1, j2⟩ := same k hk hk2
        rw [← j1]
        refine ⟨rfl, _, rfl, .inl ⟨rfl, _, SqL.of (s7 _ _ (s5 _ _ hp2))⟩, _, rfl, p, _, _, j, _, rfl, rfl, SqL.of (s7 _ _ (s5 _ _ hp2)), rfl, flat_ints o, rat j hj, (eqV_int _ _).trans (decide_eq_true rfl), fun m z' hm hz => ?_, _, hd7, ?_, same_at s7 hD6, ?_⟩
        · have hm2 : m < o.length := by omega
          obtain rfl : V.int o[m] = z' := Option.some.inj ((rat m hm2).symm.trans hz)
          rw [eqV_int]
          refine decide_eq_false fun z => ?_
          have := (List.getElem_inj O.nd).mp z
          omega
        · rw [List.length_map, List.length_take, sizeLine_eq]
          have := hL.few
          have := Nat.min_le_left k B[i].length
          omega
        · rw [upd_same, List.take_add_one, List.getElem?_eq_getElem hk2, List.map_append, j2] <;> rfl
      · rintro H7 ⟨s7, hd7⟩
        rw [List.length_map, wU, ← wV, List.take_length] at hd7
        refine ⟨D6, _, rfl, .inl ⟨SqL.of hd7, fun r hr => ?_⟩⟩
        have s8 := same_upd (o := .tup (B[i].map V.int)) hr
        have s68 := s7.trans s8
        refine ⟨_, s68 _ _ hd5, by rw [List.length_map, hts, sizeLine_eq]; omega, same_at (s5.trans s68) hD4, ts ++ [r], ?_, ?_, ?_⟩
        · rw [upd_same, List.map_append] <;> rfl
        · have kt := tup_upd (o := .lst (ts.map V.ref ++ [.ref r])) (s68 _ _ hd5) (fun _ z => nomatch z)
          have hr1 : (upd H7 r (.tup (B[i].map V.int))) r = some (oTup B[i]) := upd_same
          rw [List.take_add_one, List.getElem?_eq_getElem hv0]
          exact objs_tup ((objs_tup ho5 (Same.tup' s68)).snoc hr1) kt
        · rw [List.length_append, hts] <;> rfl
    · rintro H5 ⟨s5, ts, hd5, ho5, hts⟩
      rw [List.length_map, ← O.len, List.take_length] at ho5
      exact q D4 H5 (s2.free hD4) (s2.trans s5) ⟨ts, hd5, ho5⟩
theorem ok_far {f : Addr} {fd : FuncData} (F : Fun K "_law_far" "_law_far" sLFar f fd) (T : TN mg) (AL : Fn K mg "_law_led" sLLed ["_law_table_here", "_law_letters_here", "_law_word_here", "_law_start"] fL dL) (GL : FnOk P w K mg base CX0 1 fL dL ["_law_table_here", "_law_letters_here", "_law_word_here", "_law_start"] spLLed) :
    FnOk P w K mg base CX0 2 f fd ["_law_table_here", "_law_letters_here", "_law_word_here", "_law_start", "_law_times"] spFar := by
  refine F.ok scFa (fun vs H Q E h => ?_) (fun cdv A outer s H vs Q E hr h => ?_)
  · obtain ⟨l, L, u, tb, n, st, tm, rfl, _⟩ := h
    rfl
  · obtain ⟨l, L, u, tb, n, st, tm, rfl, ⟨as, h1, h2⟩, hL, ok, n2, s0, s1, hc, t0, q⟩ := h
    refine ⟨_, pss_cons (ps_set (i := 5) scFa.nd rfl (Or.inl rfl) (pe_lst (pa_cons (pv 3) pa_nil)))
      (pss_cons (ps_while PassesOwn.never (PW.pt (pw_and (pt_cmpR op_lt (pe_callB call_len_seq (by rfl) T.len PySem.boot_len (pa_cons (pv 5) pa_nil)) (pe_op op_add (pv 4) pe_int) (nomark _))
          (pw_and1 (pt_cmpR op_notIn_seq (pe_ix ix_list (pv 5) (pe_un un_neg pe_int) (fun _ _ => rfl)) (pe_slice sl_list (pv 5) po_none (po_some (pe_un un_neg pe_int))) (by rfl)))))
        (pss_one (ps_expr (pe_bm PySem.F.plainAttrs_list PySem.F.slot_list_append PySem.F.type_list_append mt_append (pv 5) (pa_cons (pe_call (E := E0) GL hr rfl AL.g AL.F.kp AL.b .nil pass0 (pa_cons (pv 0) (pa_cons (pv 1) (pa_cons (pv 2) (pa_cons (pe_ix ix_list (pv 5) (pe_un un_neg pe_int) (fun _ _ => rfl)) pa_nil))))) pa_nil)))))
      (pss_cons (ps_if (pt_cmpR op_eq (pe_callB call_len_seq (by rfl) T.len PySem.boot_len (pa_cons (pv 5) pa_nil)) (pe_op op_add (pv 4) pe_int) (nomark _)) (pss_one (ps_ret (pe_ix ix_list (pv 5) (pe_un un_neg pe_int) (fun _ _ => rfl)))) pss_nil)
      (pss_cons (ps_set (i := 6) scFa.nd rfl (Or.inl rfl) (pe_bm PySem.F.plainAttrs_list PySem.F.slot_list_index PySem.F.type_list_index mt_index (pv 5) (pa_cons (pe_ix ix_list (pv 5) (pe_un un_neg pe_int) (fun _ _ => rfl)) pa_nil)))
      (pss_one (ps_ret (pe_ix ix_list (pv 5) (pe_op op_add (pv 6) (pe_op op_mod (pe_callTy call_int1 (by rfl) T.int (by decide +kernel) (pa_cons (pe_op op_sub (pv 4) (pv 6)) pa_nil)) (pe_op op_sub (pe_op op_sub (pe_callB call_len_seq (by rfl) T.len PySem.boot_len (pa_cons (pv 5) pa_nil)) pe_int) (pv 6)))) (fun _ _ => rfl))))))), ?_⟩
    generalize hf : ledL L tb u = fn at q
    have inn : ∀ k, 0 ≤ itL fn st k ∧ itL fn st k < n := fun k => hf ▸ it_in ok ⟨s0, s1⟩ hc k
    have last : ∀ k, atI ((metL fn st (k + 1)).map V.int) (-1) = some (.int (itL fn st k)) := fun k => by
      unfold atI ixN
      rw [met_len, if_neg (by decide), if_pos (by omega)]
      show ((metL fn st (k + 1)).map V.int)[(-1 + ((k + 1 : Nat) : Int)).toNat]? = _
      rw [show (-1 + ((k + 1 : Nat) : Int)).toNat = k by omega]
      exact met_at (Nat.lt_succ_self k)
    refine ⟨_, rfl, by show 1 ≤ sizeLine; decide, fun M hM => ?_⟩
    refine while_by (fun σ H2 => ∃ k : Nat, (metL fn st k).Nodup ∧ Same H H2 ∧ H2 M = some (.lst ((metL fn st (k + 1)).map V.int)) ∧ (k : Int) ≤ tm ∧ σ = [some (.ref l), some (.str (tx L)), some (.str (tx u)), some (.int st), some (.int tm), some (.ref M), none])
      (fun _ H2 => tm.toNat + 1 - (match H2 M with | some (.lst xs) => xs.length | _ => 0)) ⟨0, List.nodup_nil, same_upd hM, upd_same, t0, rfl⟩ ?_ ?_
    · rintro σ H2 ⟨k, nd, s2, hm, hk, rfl⟩
      have few := met_few inn nd
      refine ⟨_, rfl, M, _, rfl, .inl (SqL.of hm), _, rfl, _, _, rfl, rfl, _, _, rfl, rfl, _, rfl, ?_⟩
      rw [met_len]
      have snoc := met_snoc fn st k
      have cut : cutV ((metL fn st (k + 1)).map V.int) none (some (-1)) = (metL fn st k).map V.int := by rw [snoc]; exact cut_last V.int (metL fn st k) (itL fn st k)
      refine ite2 (fun hlt => ?_) (fun hge => ?_)
      · have hlt : ((k + 1 : Nat) : Int) < tm + 1 := of_decide_eq_true hlt
        refine ⟨_, rfl, _, rfl, M, _, _, _, rfl, rfl, SqL.of hm, last k, _, rfl, _, rfl, _, rfl, M, _, rfl, SqL.of hm, fun p hp => ?_⟩
        rw [cut]
        have sp := same_upd (o := .lst ((metL fn st k).map V.int)) hp
        have hp1 : upd H2 p (.lst ((metL fn st k).map V.int)) p = some (.lst ((metL fn st k).map V.int)) := upd_same
        have hmp := sp _ _ hm
        generalize upd H2 p (.lst ((metL fn st k).map V.int)) = H3 at sp hp1 hmp
        refine ⟨p, _, rfl, .inl (SqL.of hp1), rfl, flat_ints _, _, rfl, ?_⟩
        rw [inV_int]
        by_cases hin : itL fn st k ∈ metL fn st k
        · rw [decide_eq_true hin]
          refine iteF ?_
          have s3 := s2.trans sp
          refine ⟨_, rfl, M, _, rfl, .inl (SqL.of hmp), _, rfl, _, _, rfl, rfl, rfl, _, rfl, ?_⟩
          rw [met_len, decide_eq_false (show ¬ (V.int ((k + 1 : Nat) : Int) = V.int (tm + 1)) from fun z => by injection z with z; omega)]
          refine iteF ?_
          have hl2 : itL fn st k ∈ metL fn st (k + 1) := by rw [snoc]; exact List.mem_append_left _ hin
          obtain ⟨i, hi, e⟩ := List.mem_map.mp hin
          have hi := List.mem_range.mp hi
          have fi : (metL fn st k).idxOf (itL fn st k) < k := by
            have := List.idxOf_lt_length_of_mem hin
            rw [metL, List.length_map, List.length_range] at this
            exact this
          have eat : itL fn st ((metL fn st k).idxOf (itL fn st k)) = itL fn st k := by
            have h1 := List.getElem_idxOf (List.idxOf_lt_length_of_mem hin)
            have h2 : (metL fn st k)[(metL fn st k).idxOf (itL fn st k)]? = some (itL fn st ((metL fn st k).idxOf (itL fn st k))) := by rw [metL, List.getElem?_map, ← metL, List.getElem?_range fi] <;> rfl
            rw [List.getElem?_eq_getElem (List.idxOf_lt_length_of_mem hin), h1] at h2
            exact (Option.some.inj h2).symm
          have fst : ∀ m, m < (metL fn st k).idxOf (itL fn st k) → itL fn st m ≠ itL fn st k := fun m hm z => by
            have hmk : m < (metL fn st k).length := by rw [metL, List.length_map, List.length_range]; omega
            have h2 : (metL fn st k)[m]? = some (itL fn st m) := by rw [metL, List.getElem?_map, List.getElem?_range (by omega)] <;> rfl
            have h3 := nd.idxOf_getElem m hmk
            rw [List.getElem?_eq_getElem hmk] at h2
            rw [Option.some.inj h2, z] at h3
            omega
          generalize hix : (metL fn st k).idxOf (itL fn st k) = i at fi eat fst
          refine ⟨_, rfl, .inl ⟨rfl, _, SqL.of hmp⟩, _, rfl, _, rfl, M, _, _, _, rfl, rfl, SqL.of hmp, last k, M, _, _, i, _, rfl, rfl, SqL.of hmp, rfl, flat_ints _, met_at (by omega), (eqV_int _ _).trans (decide_eq_true eat), fun m z' hm hz => ?_, ?_⟩
          · obtain rfl : V.int (itL fn st m) = z' := Option.some.inj ((met_at (by omega)).symm.trans hz)
            rw [eqV_int]
            exact decide_eq_false (fst m hm)
          have atE : atI ((metL fn st (k + 1)).map V.int) ((i : Int) + (tm - (i : Int)) % (((k + 1 : Nat) : Int) - 1 - (i : Int))) = some (.int (itL fn st tm.toNat)) := by
            have e1 : tm - (i : Int) = ((tm.toNat - i : Nat) : Int) := by omega
            have e2 : ((k + 1 : Nat) : Int) - 1 - (i : Int) = ((k - i : Nat) : Int) := by omega
            rw [e1, e2, ← Int.natCast_emod, ← Int.natCast_add]
            have lt := Nat.mod_lt (tm.toNat - i) (show k - i > 0 by omega)
            have e3 := it_ring (a := i) (m := k) fi eat.symm (tm.toNat - i)
            rw [show i + (tm.toNat - i) = tm.toNat by omega] at e3
            rw [e3]
            exact atI_nat (met_at (by omega))
          refine ⟨_, rfl, _, rfl, _, rfl, _, rfl, _, _, rfl, rfl, .inl ⟨_, rfl, ?_⟩⟩
          refine ⟨_, rfl, M, _, rfl, .inl (SqL.of hmp), _, _, rfl, rfl, _, rfl, _, _, rfl, rfl, _, _, rfl, rfl, (by rw [met_len]; show (0 : Int) < _; omega), _, _, rfl, rfl, M, _, _, _, rfl, rfl, SqL.of hmp, (by rw [met_len]; exact atE), q _ s3⟩
        · rw [decide_eq_false hin]
          refine iteT ?_
          refine ⟨_, rfl, .inl ⟨rfl, _, SqL.of hmp⟩, _, rfl, _, rfl, _, rfl, _, rfl, _, rfl, M, _, _, _, rfl, rfl, SqL.of hmp, last k, ?_⟩
          have s3 := s2.trans sp
          refine ⟨l, L, u, tb, n, itL fn st k, rfl, ⟨as, s3 _ _ h1, objs_tup h2 (Same.tup' s3)⟩, hL, ok, (inn k).1, (inn k).2, hc, ?_⟩
          rw [hf, show fn (itL fn st k) = itL fn st (k + 1) from rfl]
          refine ⟨M, _, _, rfl, rfl, hmp, by rw [met_len, sizeLine_eq]; omega, ?_⟩
          refine ⟨⟨k + 1, ?_, same_at s3 hM, ?_, by omega, rfl⟩, ?_⟩
          · rw [snoc]
            exact List.nodup_append.mpr ⟨nd, (List.nodup_cons.mpr ⟨List.not_mem_nil, List.nodup_nil⟩), fun a ha b hb z => hin (by rw [List.mem_singleton.mp hb] at z; exact z ▸ ha)⟩
          · rw [upd_same, met_snoc _ _ (k + 1), List.map_append] <;> rfl
          · show tm.toNat + 1 - (match (upd _ M _) M with | some (.lst xs) => xs.length | _ => 0) < tm.toNat + 1 - (match H2 M with | some (.lst xs) => xs.length | _ => 0)
            rw [upd_same, hm]
            show _ - ((metL fn st (k + 1)).map V.int ++ [_]).length < _ - ((metL fn st (k + 1)).map V.int).length
            rw [List.length_append, met_len]
            show _ - (k + 1 + 1) < _
            omega
      · have hge : ¬ ((k + 1 : Nat) : Int) < tm + 1 := fun z => hge (decide_eq_true z)
        have ek : tm.toNat = k := by omega
        refine iteF ?_
        refine ⟨_, rfl, M, _, rfl, .inl (SqL.of hm), _, rfl, _, _, rfl, rfl, rfl, _, rfl, ?_⟩
        rw [met_len, decide_eq_true (show (V.int ((k + 1 : Nat) : Int) = V.int (tm + 1)) from by congr 1; omega)]
        refine iteT ?_
        refine ⟨_, rfl, _, rfl, M, _, _, _, rfl, rfl, SqL.of hm, last k, ?_⟩
        have := q _ s2
        rw [ek] at this
        exact this
    · rintro σ H Q Q' hm ⟨v, hv, M', ys, e, hs, w', hw, i, j, a, b, i2, j2, a2, b2, c, hc, q⟩
      refine ⟨v, hv, M', ys, e, hs, w', hw, i, j, a, b, i2, j2, a2, b2, c, hc, ?_⟩
      cases c with
      | false => exact hm _ _ q
      | true =>
        obtain ⟨v3, hv3, x, hx, p, xs, i3, vv, e1, e2, sq, at_, v4, hv4, x2, hx2, x3, hx3, a4, ys4, e4, sq2, k⟩ := q
        refine ⟨v3, hv3, x, hx, p, xs, i3, vv, e1, e2, sq, at_, v4, hv4, x2, hx2, x3, hx3, a4, ys4, e4, sq2, fun p5 hp5 => ?_⟩
        obtain ⟨p6, xs6, e6, o6, f6, g6, c6, hc6, q6⟩ := k p5 hp5
        exact ⟨p6, xs6, e6, o6, f6, g6, c6, hc6, hm _ _ q6⟩
end
end RM
set_option Elab.async false
set_option linter.all false
set_option maxRecDepth 100000
set_option maxHeartbeats 8000000
namespace RM
open PySem L2 PyProof.Rows LCX K1 FV DP WK
open PySem.W (Frag kitOne)
def spMixedI : Sp := fun vs H Q _ => ∃ (p q : Addr) (ys : List Int), vs = [.ref p, .ref q] ∧ DiceAt H p ∧ q ≠ p ∧ H q = some (.lst (ys.map V.int)) ∧ ys.length < 100 ∧
  ∀ (r : Addr) (zs : List Int) (H' : Hp), zs.Perm ys → H r = none → DiceAt H' p → But p H H' → H' r = some (.lst (zs.map V.int)) → r ≠ p → Q (.ref r) H'
theorem sh_intsL (r : List Int) : SeqAt.shaped (.list (id_ r)) = true := by
  show (PyData.canLayAll0 (id_ r) && decide (PyData.depthAll (id_ r) + 1 ≤ 64)) = true
  rw [lay_ints, dep_ints] <;> rfl
theorem eqv_nilI (ys : List Int) : PyData.eqv (.list (ys.map PyData.int)) (.list []) = ys.isEmpty := by
  cases ys <;> rfl
section
variable {P : Program} {w : World} {K : PySem.W.Frag} {mg : Str → Option Value} {base : Heap} {fR : Addr} {dR : FuncData}
theorem ok_mixedI {f : Addr} {fd : FuncData} (F : Fun K "_law_mixed" "_law_mixed" sMixed f fd) (T : TN mg) (AR : Fn K mg "_law_roll" sRoll ["_law_dice_here", "_law_total"] fR dR) : FnOk P w K mg base CX0 2 f fd ["_law_dice_here", "_law_items"] spMixedI := by
  have GR : FnOk P w K mg base CX0 1 fR dR ["_law_dice_here", "_law_total"] spRoll := ok_roll AR.F T.dice
  refine F.ok scMi (fun vs H Q E h => ?_) (fun cdv A outer s H vs Q E hr h => ?_)
  · obtain ⟨u, n, _, rfl, _⟩ := h
    rfl
  · obtain ⟨p, q, ys, rfl, hD, hqp, hq, hl, qq⟩ := h

    refine ⟨_, pss_cons (ps_par (i := 2) (j := 3) (by rfl) scMi.nd rfl rfl (by decide) rfl rfl (pa_cons (pe_callTy call_list_of (by rfl) T.list (by decide +kernel) (pa_cons (pv 1) pa_nil)) (pa_cons (pe_lst pa_nil) pa_nil)) (by rfl))
      (pss_cons (ps_while PassesOwn.never (pt_cmpR (op_neD hr.units) (pv 2) (pe_lst pa_nil) (nomark _))
        (pss_one (ps_expr (pe_bm PySem.F.plainAttrs_list PySem.F.slot_list_append PySem.F.type_list_append mt_append (pv 3) (pa_cons
          (pe_bm PySem.F.plainAttrs_list PySem.F.slot_list_pop PySem.F.type_list_pop mt_popAt (pv 2) (pa_cons
            (pe_call GR hr rfl AR.g AR.F.kp AR.b .nil pass0 (pa_cons (pv 0) (pa_cons (pe_callB call_len_seq (by rfl) T.len PySem.boot_len (pa_cons (pv 2) pa_nil)) pa_nil))) pa_nil)) pa_nil)))))
      (pss_one (ps_ret (pv 3)))), ?_⟩
    refine ⟨_, rfl, q, _, rfl, .inl (SqL.of hq), fun l hl1 => ⟨(by show 0 ≤ sizeLine; decide), fun r hr1 => ⟨_, _, rfl, ?_⟩⟩⟩
    refine while_by (fun σ H1 => ∃ zs fs : List Int, σ = [some (.ref p), some (.ref q), some (.ref l), some (.ref r)] ∧ DiceAt H1 p ∧ But p H H1 ∧ H1 l = some (.lst (zs.map V.int)) ∧ H1 r = some (.lst (fs.map V.int)) ∧ (zs ++ fs).Perm ys) muMix ?_ ?_ ?_
    · exact ⟨ys, [], rfl, (hD.new hl1).new hr1, But.ofSame (same_two (same_upd hl1) hr1), same_upd hr1 _ _ upd_same, upd_same, by rw [List.append_nil]⟩
    · have nr : H r = none := (same_upd hl1).free hr1
      have lp := hD.ne hl1
      have rp := hD.ne nr
      have lr : l ≠ r := fun z => by rw [← z, upd_same] at hr1; cases hr1
      rintro σ H1 ⟨zs, fs, rfl, hD1, hB1, hz, hf, hp⟩
      have hlen : zs.length + fs.length = ys.length := by rw [← List.length_append, hp.length_eq]
      refine ⟨_, rfl, (by show 0 ≤ sizeLine; decide), fun e he => ⟨.list (zs.map PyData.int), .list [], .lst (SqL.of (same_upd he _ _ hz)) (dp_int zs), .lst (SqL.of upd_same) .nil, (sh_intsL zs), by decide, _, rfl, ?_⟩⟩
      rw [eqv_nilI]
      have eD := hD1.new he (o := .lst [])
      have eB : But p H (upd H1 e (.lst [])) := but_two hB1 he
      have ez := same_upd he (o := .lst []) _ _ hz
      have ef := same_upd he (o := .lst []) _ _ hf
      generalize upd H1 e (.lst []) = H2 at eD eB ez ef ⊢
      cases zs with
      | nil => exact ⟨_, rfl, qq r fs _ hp nr eD eB ef rp⟩
      | cons z zs =>
        have len : (((z :: zs).map V.int).length : Int) = (z :: zs).length := by rw [List.length_map]
        have len2 : (z :: zs).length < 100 := by omega
        have len3 : 0 < (z :: zs).length := Nat.succ_pos _
        refine ⟨_, rfl, .inl ⟨rfl, _, SqL.of ef⟩, _, rfl, .inl ⟨rfl, _, SqL.of ez⟩, _, rfl, _, rfl, l, _, rfl, .inl (SqL.of ez), p, _, rfl, eD, by rw [len]; omega, by rw [len]; omega, fun i H3 hi0 hi1 hD3 hB3 => ?_⟩
        rw [len] at hi1
        have hk : i.toNat < (z :: zs).length := by omega
        have hz3 := hB3 _ _ ez lp
        have hf3 := hB3 _ _ ef rp
        have hget : ((z :: zs).map V.int)[i.toNat]? = some (V.int (z :: zs)[i.toNat]) := by rw [List.getElem?_map, List.getElem?_eq_getElem hk] <;> rfl
        have hidx : seqIndex? i ((z :: zs).map V.int).length = some i.toNat := by
          exact seqIx hi0 (by rw [len]; exact hi1)
        refine ⟨l, _, i, i.toNat, _, rfl, rfl, hz3, by omega, by omega, hidx, hget, r, _, _, rfl, rfl, (by rw [upd_ne (Ne.symm lr)]; exact hf3), ?_, ?_, ?_⟩
        · rw [List.length_map, sizeLine_eq]
          omega
        · refine ⟨(z :: zs).eraseIdx i.toNat, fs ++ [(z :: zs)[i.toNat]], rfl, ?_, ?_, ?_, ?_, ?_⟩
          · exact hD3.keep fun o e => by rw [upd_ne (Ne.symm rp), upd_ne (Ne.symm lp)]; exact e
          · exact but_at (but_at (eB.trans hB3) hl1) nr
          · rw [upd_ne lr, upd_same, map_erase]
          · rw [upd_same, List.map_append] <;> rfl
          · refine List.Perm.trans ?_ hp
            have h1 := erase_perm (z :: zs) i.toNat _ (List.getElem?_eq_getElem hk)
            refine List.Perm.trans ?_ (h1.append_right fs)
            show List.Perm (_ ++ (fs ++ [_])) (_ :: (_ ++ fs))
            rw [← List.append_assoc]
            exact List.perm_append_singleton _ _
        · show (match (upd (upd H3 l _) r _) l with | some (.lst xs) => xs.length | _ => 0) < (match H1 l with | some (.lst xs) => xs.length | _ => 0)
          rw [upd_ne lr, upd_same, hz]
          show (((z :: zs).map V.int).eraseIdx i.toNat).length < ((z :: zs).map V.int).length
          rw [List.length_eraseIdx, if_pos (by rw [List.length_map]; exact hk), List.length_map]
          omega
    · exact fun σ H Q Q' hm ⟨v, hv, hl, h⟩ => ⟨v, hv, hl, fun l hl' => let ⟨d, e, a, b, c, dd, k, hk, q⟩ := h l hl'; ⟨d, e, a, b, c, dd, k, hk, hm _ _ q⟩⟩
end
end RM
set_option Elab.async false
set_option linter.all false
set_option maxRecDepth 100000
set_option maxHeartbeats 8000000
namespace WK
open PySem L2 PyProof.Rows K1
open TX (sg sigs)
open PySem.W (Frag kitOne)
theorem lay_len (L : W) (hL : L.length ≤ 3) : ∀ k, (lay L k).length ≤ 3 ^ k
  | 0 => Nat.le_refl _
  | k + 1 => by
    have ih := lay_len L hL k
    have h : ∀ l : List W, (l.flatMap fun u => L.map fun c => u ++ [c]).length ≤ l.length * 3 := by
      intro l
      induction l with
      | nil => exact Nat.le_refl _
      | cons u l ih =>
        rw [List.flatMap_cons, List.length_append, List.length_cons, List.length_map]
        omega
    have h1 := h (lay L k)
    exact Nat.le_trans h1 (by rw [Nat.pow_succ]; omega)
theorem lay_81 (L : W) (hL : L.length ≤ 3) {k : Nat} (hk : k ≤ 4) : (lay L k).length ≤ 81 := by
  have h1 := lay_len L hL k
  have h2 : (3 : Nat) ^ k ≤ 3 ^ 4 := Nat.pow_le_pow_right (by decide) hk
  have h3 : (3 : Nat) ^ 4 = 81 := by decide
  omega
theorem allW_len (L : W) (hL : L.length ≤ 3) : ∀ k, k ≤ 4 → (allW L k).length ≤ (k + 1) * 81
  | 0, _ => by show 1 ≤ 81; decide
  | k + 1, h => by
    have ih := allW_len L hL k (by omega)
    have h1 := lay_81 L hL h
    show (allW L k ++ lay L (k + 1)).length ≤ _
    rw [List.length_append]
    omega
abbrev sLAll : Stmt := top 69
def spLAll : Sp := fun vs H Q _ => ∃ (L : W) (m : Nat), vs = [.str (tx L), .int (m : Int)] ∧ L.length ≤ 3 ∧ m ≤ 4 ∧ ∀ t H', H t = none → Same H H' → H' t = some (.lst ((allW L m).map fun u => V.str (tx u))) → Q (.ref t) H'
abbrev txV : W → V := fun u => V.str (tx u)
section
variable {P : Program} {w : World} {K : PySem.W.Frag} {mg : Str → Option Value} {base : Heap}
abbrev NA : List Str := ["_law_letters_here", "_law_most", "_law_found", "_law_layer", "_law_size", "_law_longer", "_law_word_here", "_law_letter"]
theorem scLA : FnScope NA ["_law_letters_here", "_law_most"] (defScope sLAll) := ⟨rfl, rfl, rfl, by decide +kernel, rfl, by decide +kernel, by decide +kernel⟩
theorem ok_lall {f : Addr} {fd : FuncData} (F : Fun K "_law_all_words" "_law_all_words" sLAll f fd) (T : TN mg) : FnOk P w K mg base CX0 1 f fd ["_law_letters_here", "_law_most"] spLAll := by
  refine F.ok scLA (fun vs H Q E h => ?_) (fun cdv A outer s H vs Q E hr h => ?_)
  · obtain ⟨u, n, rfl, _⟩ := h
    rfl
  · obtain ⟨L, m, rfl, hL, hm, q⟩ := h
    refine ⟨_, pss_cons (ps_par (i := 2) (j := 3) (by rfl) scLA.nd rfl rfl (by decide) rfl rfl (pa_cons (pe_lst (pa_cons pe_str pa_nil)) (pa_cons (pe_lst (pa_cons pe_str pa_nil)) pa_nil)) (by rfl))
      (pss_cons (ps_for PassesOwn.never rfl (pi_range1 rfl T.rng (pa_cons (pv 1) pa_nil)) (pg_name (i := 4) scLA.nd rfl (Or.inl rfl))
        (pss_cons (ps_set (i := 5) scLA.nd rfl (Or.inl rfl) (pe_lst pa_nil))
        (pss_cons (ps_for PassesOwn.never rfl (pi_list (pe_callTy call_list_of (by rfl) T.list (by decide +kernel) (pa_cons (pv 3) pa_nil))) (pg_name (i := 6) scLA.nd rfl (Or.inr rfl))
          (pss_one (ps_expr (pe_bm PySem.F.plainAttrs_list PySem.F.slot_list_extend PySem.F.type_list_extend mt_extend (pv 5) (pa_cons (pe_lc (own := [("_law_letter", 7)]) (g := gName 7) (tt := tYes) rfl scLA.nd (pi_str (pv 0))
            (blkOk_by (own := [("_law_letter", 7)]) (N := NA) (sc := defScope sLAll) (by decide +kernel)) (fun _ _ _ _ _ => pg_name (i := 7) scLA.nd rfl (Or.inl rfl)) (fun _ _ _ _ _ => pts_nil)
            (fun _ _ _ _ _ => pe_op op_add_str (pv 6) (pv 7))) pa_nil)))))
        (pss_cons (ps_set (i := 3) scLA.nd rfl (Or.inl rfl) (pv 5))
        (pss_one (ps_set (i := 2) scLA.nd rfl (Or.inl rfl) (pe_op op_cat (pv 2) (pv 3))))))))
      (pss_one (ps_ret (pv 2)))), ?_⟩
    refine ⟨(by show 1 ≤ sizeLine; decide), fun fo hfo => ⟨(by show 1 ≤ sizeLine; decide), fun la hla => ⟨_, _, rfl, ?_⟩⟩⟩
    refine ⟨_, rfl, (m : Int), rfl, by omega, by omega, ?_⟩
    refine for_range (lo := 0) (n := m) (fun k σ H1 => ∃ fo la a4 a5 a6, σ = [some (.str (tx L)), some (.int m), some (.ref fo), some (.ref la), a4, a5, a6, none] ∧ H fo = none ∧ Same H H1 ∧ H1 fo = some (.lst ((allW L k).map txV)) ∧ H1 la = some (.lst ((lay L k).map txV))) ?_ ?_ ?_
    · exact ⟨fo, la, none, none, none, rfl, hfo, same_two (same_upd hfo) hla, same_upd hla _ _ upd_same, upd_same⟩
    · rintro k σ H1 hk ⟨fo, la, a4, a5, a6, rfl, hfo, s1, hfo1, hla1⟩
      refine ⟨(by show 0 ≤ sizeLine; decide), fun lo hlo => ?_⟩
      refine ⟨_, rfl, la, _, rfl, .inl (SqL.of (same_upd hlo _ _ hla1)), fun cl hcl => ?_⟩
      refine ⟨cl, rfl, ⟨_, SqL.of upd_same⟩, ?_⟩
      have g1 : Same H1 (upd (upd H1 lo (.lst [])) cl (.lst ((lay L k).map txV))) := same_two (same_upd hlo) hcl
      have g2 : (upd (upd H1 lo (.lst [])) cl (.lst ((lay L k).map txV))) cl = some (.lst ((lay L k).map txV)) := upd_same
      have g3 : (upd (upd H1 lo (.lst [])) cl (.lst ((lay L k).map txV))) lo = some (.lst []) := same_upd hcl _ _ upd_same
      generalize upd (upd H1 lo (.lst [])) cl (.lst ((lay L k).map txV)) = G at g1 g2 g3 ⊢
      have cllo : cl ≠ lo := fun z => by rw [z, upd_same] at hcl; cases hcl
      have lk := lay_81 L hL (show k ≤ 4 by omega)
      have lk1 := lay_81 L hL (show k + 1 ≤ 4 by omega)
      have ak := allW_len L hL k (by omega)
      refine for_it walk_list (fun i σ H2 => ∃ a4 a6, σ = [some (.str (tx L)), some (.int m), some (.ref fo), some (.ref la), a4, some (.ref lo), a6, none] ∧ Same H1 H2 ∧ H2 cl = some (.lst ((lay L k).map txV)) ∧ H2 lo = some (.lst ((((lay L k).take i).flatMap fun u => L.map fun c => u ++ [c]).map txV)))
        ⟨_, a6, rfl, g1, g2, by rw [g3] <;> rfl⟩ (fun i σ H2 _ ⟨_, _, _, _, h, _⟩ => SqL.of h) ?_ ?_
      · rintro i x σ H2 H3 hi ⟨a4, a6, rfl, s2, hcl2, hlo2⟩ ⟨rfl, hx⟩
        rw [List.getElem?_map] at hx
        cases hc : (lay L k)[i]? with
        | none => rw [hc] at hx; cases hx
        | some u =>
          rw [hc] at hx
          obtain rfl : txV u = x := Option.some.inj hx
          have hul : u.length = k := ((mem_lay L k u).mp (List.mem_of_getElem? hc)).1
          refine ⟨_, rfl, .inl ⟨rfl, _, SqL.of hlo2⟩, _, rfl, tx L, rfl, fun D hD => ?_⟩
          refine lc_it walk_str (fun j H5 => Same H3 H5 ∧ H5 D = some (.lst (((L.take j).map fun c => u ++ [c]).map txV))) ⟨same_upd hD, upd_same⟩ (fun _ _ _ _ => trivial) ?_ ?_
          · rintro j y H5 H6 hj ⟨s5, hd5⟩ ⟨rfl, d, hy, rfl⟩
            have hy' : L[j]? = some d := by
              rw [← Array.getElem?_toList, tx_list] at hy
              exact hy
            refine ⟨rfl, _, rfl, _, rfl, _, _, rfl, rfl, ?_, _, hd5, ?_, same_at s5 hD, ?_⟩
            · rw [tx_len, sizeLine_eq, hul]
              show k + 1 ≤ _
              omega
            · rw [List.length_map, List.length_map, List.length_take, sizeLine_eq]
              omega
            · rw [upd_same, List.take_add_one, hy', List.map_append, List.map_append]
              show _ = some (HO.lst (_ ++ [V.str (tx (u ++ [d]))]))
              rw [← tx_app] <;> rfl
          · rintro H5 ⟨s5, hd5⟩
            rw [size_tx, List.take_length] at hd5
            refine ⟨lo, D, _, _, rfl, rfl, s5 _ _ hlo2, hd5, ?_, a4, some (txV u), rfl, ?_, ?_, ?_⟩
            · have h1 : (((lay L k).take i).flatMap fun u => L.map fun c => u ++ [c]).length ≤ ((lay L k).take i).length * 3 := by
                generalize (lay L k).take i = l
                induction l with
                | nil => exact Nat.le_refl _
                | cons u l ih =>
                  rw [List.flatMap_cons, List.length_append, List.length_cons, List.length_map]
                  omega
              rw [List.length_take] at h1
              rw [List.length_map, List.length_map, List.length_map, sizeLine_eq]
              omega
            · exact same_at (s2.trans s5) hlo
            · rw [upd_ne cllo]
              exact s5 _ _ hcl2
            · rw [upd_same, List.take_add_one, hc, List.flatMap_append, List.map_append]
              show _ = some (HO.lst (_ ++ List.map txV (List.flatMap _ [u])))
              rw [List.flatMap_cons, List.flatMap_nil, List.append_nil] <;> rfl
      · rintro σ H2 ⟨a4, a6, rfl, s2, hcl2, hlo2⟩
        rw [List.length_map, List.take_length] at hlo2
        have hlo3 : H2 lo = some (.lst ((lay L (k + 1)).map txV)) := hlo2
        refine ⟨_, rfl, _, rfl, _, rfl, fo, lo, _, _, rfl, rfl, s2 _ _ hfo1, hlo3, ?_, fun nf hnf => ?_⟩
        · rw [List.length_map, List.length_map, sizeLine_eq]
          omega
        · refine ⟨nf, lo, a4, some (.ref lo), a6, rfl, (s1.trans s2).free hnf, same_two (s1.trans s2) hnf, ?_, same_upd hnf _ _ hlo3⟩
          rw [upd_same, ← List.map_append] <;> rfl
    · rintro σ H1 ⟨fo, la, a4, a5, a6, rfl, hfo, s1, hfo1, hla1⟩
      exact ⟨_, rfl, q fo H1 hfo s1 hfo1⟩
end
end WK
set_option Elab.async false
set_option linter.all false
set_option maxRecDepth 100000
set_option maxHeartbeats 16000000
namespace RM
open PySem L2 PyProof.Rows LCX K1 FV DP WK
open TX (sg sigs)
open PySem.W (Frag kitOne)
abbrev sR7 : Stmt := top 73
abbrev NR7 : List Str := ["_law_dice_here", "_law_letters_here", "_law_table_here", "_law_box_here", "_law_word_here", "_law_start", "_law_times", "_law_firsts_here", "_law_spots", "_law_machine", "_law_words", "_law_place", "_law_one"]
def spR7 : Sp := fun vs H Q _ => ∃ p : Addr, vs = [.ref p] ∧ DiceAt H p ∧ ∀ H', DiceAt H' p → But p H H' → Q (.bl true) H'
/-- the class Box, as it is asked -/
structure TB7 (P : Program) (w : World) (K : Frag) (mg : Str → Option Value) (base : Heap) (C : Addr) (gN gE gC : Addr) : Prop where
  nAt : PySem.W.findIn K (.ref C) "__len__" = some (some (.ref gN))
  nFn : PySem.W.isFn K (.ref gN) = true
  nR : FnR P w K mg base CX0 1 gN (fun vs H Q E => spBLen C (vs ++ []) H Q E)
  eAt : PySem.W.findIn K (.ref C) "__eq__" = some (some (.ref gE))
  eFn : PySem.W.isFn K (.ref gE) = true
  eR : FnR P w K mg base CX0 1 gE (fun vs H Q E => spBEq C (vs ++ []) H Q E)
  ne : PySem.W.findIn K (.ref C) "__ne__" = some (some (.builtin "object.__ne__"))
  mo : PySem.W.mroIn K C (.type "object") = some true
  cC : StX.CallO K C gC
  cR : FnR P w K mg base CX0 4 gC (fun vs H Q E => spBCall C (vs ++ []) H Q E)
/-- the class Machine, as it is asked -/
structure TM7 (P : Program) (w : World) (K : Frag) (mg : Str → Option Value) (base : Heap) (CM : Addr) (hE hH : Addr) : Prop where
  eAt : PySem.W.findIn K (.ref CM) "__eq__" = some (some (.ref hE))
  eFn : PySem.W.isFn K (.ref hE) = true
  eR : FnR P w K mg base CX0 1 hE (fun vs H Q E => spMEq CM (vs ++ []) H Q E)
  ne : PySem.W.findIn K (.ref CM) "__ne__" = some (some (.builtin "object.__ne__"))
  mo : PySem.W.mroIn K CM (.type "object") = some true
  hAt : PySem.W.findIn K (.ref CM) "__contains__" = some (some (.ref hH))
  hFn : PySem.W.isFn K (.ref hH) = true
  hR : FnR P w K mg base CX0 2 hH (fun vs H Q E => spMHas CM (vs ++ []) H Q E)
theorem BoxAt.but {C : Addr} {H H' : Hp} {o p : Addr} {L : W} {tb : List (List Int)} (h : BoxAt C H o L tb) (hD : DiceAt H p) (b : But p H H') : BoxAt C H' o L tb := by
  obtain ⟨dx, r, h1, h2⟩ := h
  obtain ⟨_, _, _, e, _⟩ := hD
  exact ⟨dx, r, b _ _ h1 (fun n => by rw [n, e] at h1; cases h1), h2.keep fun q xs hq => b _ _ hq (fun n => by rw [n, e] at hq; cases hq)⟩
theorem mfl_no {a b c : V} : (mfl a b c).lookup ("least" : Str) = none := by
  have e1 : (("least" : Str) == "_letters") = false := by decide +kernel
  have e2 : (("least" : Str) == "_table") = false := by decide +kernel
  have e3 : (("least" : Str) == "_ends") = false := by decide +kernel
  simp only [mfl, List.lookup, e1, e2, e3]
theorem rgV_rng (n : Nat) : rgV 0 (n : Int) = (rngI n).map V.int := by
  unfold rgV rngI
  rw [List.map_map, show ((n : Int) - 0).toNat = n by omega]
  refine List.map_congr_left fun i _ => ?_
  show V.int (0 + (i : Int)) = V.int (i : Int)
  rw [Int.zero_add]
theorem asc_of {zs ns : List Int} {n : Nat} (hp : zs.Perm (rngI n)) {k : Nat} (h : ns.Perm (zs.take k)) (le : ns.Pairwise (· ≤ ·)) : Asc (n : Int) ns := by
  refine ⟨fun i hi => ?_, ?_⟩
  · exact rng_mem.mp (hp.mem_iff.mp (List.mem_of_mem_take (h.mem_iff.mp hi)))
  · have nd : ns.Nodup := by
      refine h.nodup_iff.mpr ?_
      exact (List.take_sublist k zs).nodup (hp.nodup_iff.mpr (rng_nd n))
    refine (List.Pairwise.and le nd).imp fun {a b} hab => ?_
    have h1 : a ≤ b := hab.1
    have h2 : a ≠ b := hab.2
    omega
section
variable {P : Program} {w : World} {K : PySem.W.Frag} {mg : Str → Option Value} {base : Heap} {C cD CM pT gT gN gE gC hE hH gLs : Addr} {dT dLs : FuncData}
variable {fR fO fMi fLM fLl fAll fLL : Addr} {dR dO dMi dLM dLl dAll dLL : FuncData}
theorem scR7 : FnScope NR7 ["_law_dice_here"] (defScope sR7) := ⟨rfl, rfl, rfl, by decide +kernel, rfl, by decide +kernel, by decide +kernel⟩
/-- what stands there -/
structure Sc7 (C : Addr) (H : Hp) (p : Addr) (L : W) (tb : List (List Int)) (n : Int) (l o : Addr) : Prop where
  dice : DiceAt H p
  hL : Let L
  tab : PTab H l tb
  lp : l ≠ p
  box : BoxAt C H o L tb
  ok : TabOk tb L.length n
  n1 : 1 ≤ n
  n5 : n ≤ 5
theorem Sc7.same {C : Addr} {H H' : Hp} {p : Addr} {L : W} {tb : List (List Int)} {n : Int} {l o : Addr} (S : Sc7 C H p L tb n l o) (s : Same H H') : Sc7 C H' p L tb n l o := by
  obtain ⟨d, hL, ⟨as, h1, h2⟩, lp, ⟨dx, r, b1, b2⟩, ok, n1, n5⟩ := S
  exact ⟨d.keep fun _ e => s _ _ e, hL, ⟨as, s _ _ h1, objs_tup h2 (Same.tup' s)⟩, lp, ⟨dx, r, s _ _ b1, b2.keep (Same.tup' s)⟩, ok, n1, n5⟩
theorem Sc7.but {C : Addr} {H H' : Hp} {p : Addr} {L : W} {tb : List (List Int)} {n : Int} {l o : Addr} (S : Sc7 C H p L tb n l o) (hD : DiceAt H' p) (b : But p H H') : Sc7 C H' p L tb n l o :=
  { S with dice := hD, tab := S.tab.but S.lp S.dice b, box := BoxAt.but S.box S.dice b }
theorem tail7C {f : Addr} {cdv : Value} {A : Around} {outer : List Env} {s : Shared} {H : Hp} {Q : VK} {E : XK} (hr : Room 9 (A.deeper (envOfC "_law_right" (defScope sR7) s.heap.objs.size f cdv))) (TT : TN mg) (B : TBx K mg C cD) (M : TMk K mg CM cD) (Tm : TM7 P w K mg base CM hE hH)
    (hLs : Meth K CM "least" gLs) (GLs : FnOk P w K mg base CX0 7 gLs dLs ["self"] (spMLeast CM)) (bLs : Binds K dLs ["self"] [])
    (AR : Fn K mg "_law_roll" sRoll ["_law_dice_here", "_law_total"] fR dR) (GR : FnOk P w K mg base CX0 1 fR dR ["_law_dice_here", "_law_total"] spRoll)
    (AMi : Fn K mg "_law_mixed" sMixed ["_law_dice_here", "_law_items"] fMi dMi) (GMi : FnOk P w K mg base CX0 2 fMi dMi ["_law_dice_here", "_law_items"] spMixedI)
    (ALM : Fn K mg "_law_machine_of" sLMach ["_law_box_here", "_law_spots"] fLM dLM) (GLM : FnOk P w K mg base CX0 8 fLM dLM ["_law_box_here", "_law_spots"] (spLMach C CM))
    (ALl : Fn K mg "_law_led" sLLed ["_law_table_here", "_law_letters_here", "_law_word_here", "_law_start"] fLl dLl) (GLl : FnOk P w K mg base CX0 1 fLl dLl ["_law_table_here", "_law_letters_here", "_law_word_here", "_law_start"] spLLed)
    (ALL : Fn K mg "_law_lean" sLLean ["_law_table_here", "_law_letters_here"] fLL dLL) (GLL : FnOk P w K mg base CX0 2 fLL dLL ["_law_table_here", "_law_letters_here"] spLLean)
    (AAl : Fn K mg "_law_all_words" sLAll ["_law_letters_here", "_law_most"] fAll dAll) (GAl : FnOk P w K mg base CX0 1 fAll dAll ["_law_letters_here", "_law_most"] spLAll) :
    ∃ t, PSs (cxOf CX0 P w K mg base NR7 "_law_right" (defScope sR7) f cdv A outer s H E).nox ((defBody sR7).drop 13) t ∧ ∀ (p : Addr) (L : W) (tb : List (List Int)) (n : Int) (l o : Addr) (x4 x5 x6 x7 x8 : Option V) (H1 : Hp), Sc7 C H1 p L tb n l o → (∀ H', DiceAt H' p → But p H1 H' → Q (.bl true) H') →
      t { nx := fun _ H' => Q .non H', rt := Q } [some (.ref p), some (.str (tx L)), some (.ref l), some (.ref o), x4, x5, x6, x7, x8, none, none, none, none] H1 := by
  have hr1 : Room 1 _ := hr.mono (by decide)
  have hr2 : Room 2 _ := hr.mono (by decide)
  have hr7 : Room 7 _ := hr.mono (by decide)
  have hr8 : Room 8 _ := hr.mono (by decide)
  refine ⟨_, pss_cons (ps_set (i := 8) scR7.nd rfl (Or.inr rfl) (pe_callTy call_tuple_of (by rfl) TT.tuple (by decide +kernel) (pa_cons (pe_callB cr_sorted (by rfl) TT.sorted (by decide +kernel) (pa_cons (pe_slice sl_list
        (pe_call (E := E0) GMi hr2 rfl AMi.g AMi.F.kp AMi.b .nil pass0 (pa_cons (pv 0) (pa_cons (pe_listRg rfl rfl TT.list (prg_1 rfl TT.rng (pe_callB call_len_seq (by rfl) TT.len PySem.boot_len (pa_cons (pv 2) pa_nil)))) pa_nil)))
        po_none (po_some (pe_call (E := E0) GR hr1 rfl AR.g AR.F.kp AR.b .nil pass0 (pa_cons (pv 0) (pa_cons (pe_op op_add (pe_callB call_len_seq (by rfl) TT.len PySem.boot_len (pa_cons (pv 2) pa_nil)) pe_int) pa_nil))))) pa_nil)) pa_nil)))
    (pss_cons (ps_set (i := 9) scR7.nd rfl (Or.inr rfl) (pe_call (E := E0) GLM hr8 rfl ALM.g ALM.F.kp ALM.b .nil pass0 (pa_cons (pv 3) (pa_cons (pv 8) pa_nil))))
    (pss_cons (ps_if (pt_cmp (pc_isN (pv 9))) (pss_one (ps_ret (pe_cmpR op_gt (pe_callB call_len_seq (by rfl) TT.len PySem.boot_len (pa_cons (pe_call (E := E0) GLL hr2 rfl ALL.g ALL.F.kp ALL.b .nil pass0 (pa_cons (pv 2) (pa_cons (pv 1) pa_nil))) pa_nil)) pe_int (nomark _)))) pss_nil)
    (pss_cons (ps_if (pt_cmpR (OWN.op_neO Tm.eAt Tm.eFn Tm.ne Tm.mo Tm.eR hr2) (pe_meth0 (E := E0) (pv 9) M.cl hLs GLs hr7 bLs .nil pass0) (pv 9) (nomark _)) (pss_one ps_never) pss_nil)
    (pss_cons (ps_set (i := 10) scR7.nd rfl (Or.inl rfl) (pe_call (E := E0) GAl hr1 rfl AAl.g AAl.F.kp AAl.b .nil pass0 (pa_cons (pv 1) (pa_cons pe_int pa_nil))))
    (pss_one (ps_ret (pe_cmpR (op_eqD hr.units) (pe_lc (own := [("_law_one", 12)]) (g := gName 12) (tt := tTest (tOp rNe (tOp (OWN.rInO CM (fun vs H Q E => spMHas CM (vs ++ []) H Q E) false) (tVar 12) (tVar 9)) (tOp (rIn K false) (tCall spLLed [] E0 (tCons (tVar 2) (tCons (tVar 1) (tCons (tVar 12) (tCons (tC (.int 0)) tNil))))) (tVar 8)))) (te := tVar 12) rfl scR7.nd (pi_list (pv 10))
        (blkOk_by (own := [("_law_one", 12)]) (N := NR7) (sc := defScope sR7) (by decide +kernel)) (fun _ _ _ _ _ => pg_name (i := 12) scR7.nd rfl (Or.inl rfl))
        (fun _ _ _ _ _ => pts_one (pt_cmpR op_ne (pe_cmpR (OWN.op_inO Tm.hAt Tm.hFn Tm.hR hr2) (pv 12) (pv 9) rfl) (pe_cmpR op_in_seq (pe_call (E := E0) GLl hr1 rfl ALl.g ALl.F.kp ALl.b .nil pass0 (pa_cons (pv 2) (pa_cons (pv 1) (pa_cons (pv 12) (pa_cons pe_int pa_nil))))) (pv 8) (by rfl)) (nomark _)))
        (fun _ _ _ _ _ => pv 12)) (pe_lst pa_nil) (nomark _)))))))), ?_⟩
  intro p L tb n l o x4 x5 x6 x7 x8 H1 S q
  have hln := S.ok.len
  have n1 := S.n1
  have n5 := S.n5
  obtain ⟨as, l1, l2⟩ := id S.tab
  have al : (as.map V.ref).length = tb.length := by rw [List.length_map, l2.len]
  refine ⟨_, rfl, _, rfl, l, _, rfl, .inl (SqL.of l1), _, rfl, RgOk.of_le (by decide) (by rw [al]; omega) (by decide) (by rw [al]; omega), fun g hg => ?_⟩
  rw [al, rgV_rng]
  have sg1 := same_upd (o := .lst ((rngI tb.length).map V.int)) hg
  have S1 := S.same sg1
  have gp : g ≠ p := S.dice.ne hg
  refine ⟨p, g, rngI tb.length, rfl, S1.dice, gp, upd_same, by rw [rng_len]; omega, fun r zs H2 perm hr0 hD2 hB2 hr2' rp => ?_⟩
  have S2 := S1.but hD2 hB2
  have B12 : But p H1 H2 := (But.ofSame sg1).trans hB2
  clear sg1 hr0 hB2
  obtain ⟨as2, l12, l22⟩ := id S2.tab
  have al2 : (as2.map V.ref).length = tb.length := by rw [List.length_map, l22.len]
  refine ⟨_, rfl, _, rfl, l, _, rfl, .inl (SqL.of l12), _, _, rfl, rfl, p, _, rfl, hD2, by rw [al2]; omega, by rw [al2]; omega, fun k H3 k0 k1 hD3 hB3 => ?_⟩
  rw [al2] at k1
  have S3 := S2.but hD3 hB3
  have B13 := B12.trans hB3
  have hr3 := hB3 _ _ hr2' rp
  obtain ⟨kn, rfl⟩ : ∃ kn : Nat, k = (kn : Int) := ⟨k.toNat, by omega⟩
  refine ⟨_, rfl, r, _, rfl, SqL.of hr3, fun c hc => ?_⟩
  rw [cut_take]
  have zl : zs.length = tb.length := by rw [perm.length_eq, rng_len]
  refine ⟨c, _, rfl, SqL.of upd_same, by rw [List.length_take]; omega, fun ns d pm le hd => ?_⟩
  have sc : Same H3 (upd (upd H3 c (.lst ((zs.take kn).map V.int))) d (.lst (ns.map V.int))) := same_two (same_upd hc) hd
  have hdd : upd (upd H3 c (.lst ((zs.take kn).map V.int))) d (.lst (ns.map V.int)) d = some (.lst (ns.map V.int)) := upd_same
  generalize upd (upd H3 c (.lst ((zs.take kn).map V.int))) d (.lst (ns.map V.int)) = H4 at sc hdd
  refine ⟨d, _, rfl, .inl ⟨SqL.of hdd, fun e he => ?_⟩⟩
  have se := same_upd (o := .tup (ns.map V.int)) he
  have hE : upd H4 e (.tup (ns.map V.int)) e = some (oTup ns) := upd_same
  have as' : Asc n ns := by
    rw [← hln]
    exact asc_of perm pm le
  have s35 := sc.trans se
  generalize upd H4 e (.tup (ns.map V.int)) = H5 at se hE s35
  have S5 := S3.same s35
  have B15 : But p H1 H5 := B13.trans (But.ofSame s35)
  obtain ⟨bdx, br, bx1, bx2⟩ := id S5.box
  have few := asc_len as' (by omega)
  refine ⟨_, rfl, _, rfl, o, L, tb, n, e, ns, rfl, S5.box, S5.hL, S5.ok, n1, by omega, hE, as', fun m kp en H6 hm s6 mac lst le4 => ?_, fun kp en H6 s6 lst gt => ?_⟩
  · -- a machine
    have S6 := S5.same s6
    have B16 : But p H1 H6 := B15.trans (But.ofSame s6)
    obtain ⟨t1, t2, t3, t4⟩ := lst.tab S.ok n1
    obtain ⟨mdx, mt, me, m1, m2, m3⟩ := id mac
    have enl := asc_len (lst.asc (n := n)) (by omega)
    have hE6 := s6 _ _ hE
    refine ⟨_, rfl, _, rfl, iteF' (decide_eq_false (fun z => nomatch z)) ?_⟩
    refine ⟨_, rfl, m, mdx, _, rfl, m1, mfl_no, m, L, kp, en, kp.length, rfl, mac, S.hL, t1, by omega, by omega, by omega, fun p2 kp2 en2 H7 np2 s7 mac2 lst2 => ?_⟩
    obtain ⟨e1, e2⟩ := lst.again S.ok n1 lst2
    have mac7 := mac.same s7
    obtain ⟨mdx2, mt2, me2, k1, k2, k3⟩ := id mac2
    refine ⟨_, rfl, p2, mdx2, _, m, mdx, _, rfl, rfl, k1, s7 _ _ m1, p2, m, L, L, kp2, kp, en2, en, rfl, mac2, mac7, _, rfl, _, rfl, iteF' (congrArg not (decide_eq_true ⟨rfl, e1, e2⟩)) ?_⟩
    have S7 := S6.same s7
    refine ⟨_, rfl, L, 3, rfl, S.hL.few, by decide, fun t H8 ht s8 hw => ?_⟩
    have S8 := S7.same s8
    have mac8 := mac7.same s8
    have hE8 := s8 _ _ (s7 _ _ hE6)
    refine ⟨_, rfl, t, rfl, ⟨_, SqL.of hw⟩, fun D hD => ?_⟩
    refine lc_it walk_list (fun i H9 => Same H8 H9 ∧ H9 D = some (.lst [])) ⟨same_upd hD, upd_same⟩ (fun i H9 _ ⟨s9, _⟩ => SqL.of (s9 _ _ hw)) ?_ ?_
    · rintro i x H9 H10 hi ⟨s9, hd9⟩ ⟨rfl, hx⟩
      rw [List.getElem?_map] at hx
      cases hc : (allW L 3)[i]? with
      | none => rw [hc] at hx; cases hx
      | some u =>
        rw [hc] at hx
        obtain rfl : V.str (tx u) = x := Option.some.inj hx
        obtain ⟨ul, uc⟩ := (mem_allW L 3 u).mp (List.mem_of_getElem? hc)
        have mac9 := mac8.same s9
        obtain ⟨mdx9, mt9, me9, g1, _, _⟩ := id mac9
        refine ⟨rfl, _, rfl, _, rfl, m, mdx9, _, rfl, g1, m, u, L, kp, en, kp.length, rfl, mac9, t1, by omega, by omega, S.hL, fun c hc => S.hL.low c (uc c hc), by omega, uc, fun H11 s11 => ⟨_, rfl, ?_⟩⟩
        have S11 := (S8.same s9).same s11
        have hE11 := s11 _ _ (s9 _ _ hE8)
        refine ⟨_, rfl, _, rfl, _, rfl, l, L, u, tb, n, 0, rfl, S11.tab, S.hL, S.ok, Int.le_refl _, by omega, uc, ?_⟩
        refine ⟨_, rfl, e, _, rfl, .inr (SqT.of hE11), rfl, flat_ints _, rfl, _, rfl, ?_⟩
        rw [inV_int]
        have key : decide (ledL L kp u 0 ∈ en) = decide (ledL L tb u 0 ∈ ns) := decide_eq_decide.mpr (lst.words S.ok n1 uc)
        refine iteF' (congrArg not (decide_eq_true (congrArg V.bl key))) ?_
        exact ⟨s9.trans s11, s11 _ _ hd9⟩
    · rintro H9 ⟨s9, hd9⟩
      refine ⟨by show 0 ≤ sizeLine; decide, fun z hz => ?_⟩
      refine ⟨.list [], .list [], .lst (SqL.of (same_upd hz _ _ hd9)) .nil, .lst (SqL.of upd_same) .nil, by decide, by decide, ?_⟩
      have sz := s9.trans (same_upd (o := .lst []) hz)
      exact q _ ((S8.same sz).dice) (B16.trans (But.ofSame (s7.trans (s8.trans sz))))
  · -- too many
    have S6 := S5.same s6
    obtain ⟨t1, t2, t3, t4⟩ := lst.tab S.ok n1
    refine ⟨_, rfl, _, rfl, iteT' (decide_eq_true rfl) ?_⟩
    refine ⟨_, rfl, _, rfl, l, L, tb, n, rfl, S6.tab, S.hL, S.ok, n1, by omega, fun p2 H7 np2 s7 ⟨ts2, w1, w2⟩ => ?_⟩
    refine ⟨p2, _, rfl, .inl (SqL.of w1), _, _, rfl, rfl, ?_⟩
    have : decide ((4 : Int) < (((ts2.map V.ref).length : Nat) : Int)) = true := decide_eq_true (by rw [List.length_map, w2.len]; omega)
    show Q (.bl (decide ((4 : Int) < (((ts2.map V.ref).length : Nat) : Int)))) H7
    rw [this]
    exact q _ ((S6.same s7).dice) (B15.trans (But.ofSame (s6.trans s7)))
end
end RM
set_option Elab.async false
set_option linter.all false
set_option maxRecDepth 100000
set_option maxHeartbeats 16000000
namespace RM
open PySem L2 PyProof.Rows LCX K1 FV DP WK
open TX (sg sigs)
open PySem.W (Frag kitOne)
def fdV : V → PyData
  | .str x => .str x
  | _ => .none
def TxtV (v : V) : Prop := v = .non ∨ ∃ u : W, v = .str (tx u) ∧ Low u
theorem dp_fd {K : Frag} {H : Hp} : ∀ {l : List V}, (∀ v ∈ l, TxtV v) → DpAll K H l (l.map fdV)
  | [], _ => .nil
  | v :: l, h => by
    refine .cons ?_ (dp_fd fun x hx => h x (.tail _ hx))
    rcases h v (.head _) with rfl | ⟨u, rfl, _⟩
    · exact .non
    · exact .str _
theorem eqv_fd : ∀ {l : List V}, (∀ v ∈ l, TxtV v) → PyData.eqvAll (l.map fdV) (l.map fdV) = true
  | [], _ => rfl
  | v :: l, h => by
    have ih := eqv_fd fun x hx => h x (.tail _ hx)
    show (PyData.eqv (fdV v) (fdV v) && PyData.eqvAll (l.map fdV) (l.map fdV)) = true
    rw [ih]
    rcases h v (.head _) with rfl | ⟨u, rfl, _⟩
    · rfl
    · show ((tx u == tx u) && true) = true
      rw [beq_self_eq_true]
      rfl
theorem sh_fd {l : List V} (h : ∀ v ∈ l, TxtV v) : SeqAt.shaped (.list (l.map fdV)) = true := by
  have h1 : ∀ l : List V, (∀ v ∈ l, TxtV v) → PyData.canLayAll0 (l.map fdV) = true := by
    intro l
    induction l with
    | nil => intro _; rfl
    | cons v l ih =>
      intro h
      show (PyData.canLay0 (fdV v) && PyData.canLayAll0 (l.map fdV)) = true
      rw [ih fun x hx => h x (.tail _ hx)]
      rcases h v (.head _) with rfl | ⟨u, rfl, lo⟩
      · rfl
      · show (PyData.canLay0 (.str (tx u)) && true) = true
        rw [low_lay lo]
        rfl
  have h2 : ∀ l : List V, PyData.depthAll (l.map fdV) = 0 := by
    intro l
    induction l with
    | nil => rfl
    | cons v l ih =>
      show max (PyData.depth (fdV v)) (PyData.depthAll (l.map fdV)) = 0
      rw [ih]
      cases v <;> rfl
  show (PyData.canLayAll0 _ && decide (PyData.depthAll _ + 1 ≤ 64)) = true
  rw [h1 l h, h2 l] <;> rfl
theorem foldP_cols {u : List Nat} {wd : Nat} (hu : ∀ c ∈ u, c < wd) : ∀ {l : List (Int × Nat)} {o : Wy}, (∀ p ∈ l, p.2 < wd) → (∀ p ∈ o, ∀ c ∈ p.2, c < wd) → ∀ p ∈ l.foldl (addP u) o, ∀ c ∈ p.2, c < wd
  | [], _, _, h => h
  | q :: l, o, hl, h => foldP_cols hu (l := l) (o := addP u o q) (fun p hp => hl p (.tail _ hp)) fun p hp => by
    unfold addP at hp
    by_cases e : q.1 ∈ o.map (·.1)
    · rw [if_pos e] at hp
      exact h p hp
    · rw [if_neg e] at hp
      rcases List.mem_append.mp hp with z | z
      · exact h p z
      · rw [List.mem_singleton.mp z]
        intro c hc
        rcases List.mem_append.mp hc with y | y
        · exact hu c y
        · rw [List.mem_singleton.mp y]
          exact hl q (.head _)
theorem wyP_cols {tb : List (List Int)} {wd : Nat} {n : Int} (ok : TabOk tb wd n) : ∀ j, ∀ p ∈ wyP tb 0 j, ∀ c ∈ p.2, c < wd
  | 0, p, hp => by
    rw [List.mem_singleton.mp hp]
    exact fun c hc => absurd hc List.not_mem_nil
  | j + 1, p, hp => by
    have ih := wyP_cols ok j
    cases hq : (wyP tb 0 j)[j]? with
    | none =>
      have e : wyP tb 0 (j + 1) = wyP tb 0 j := wyP_stop (List.getElem?_eq_none_iff.mp hq) 1
      rw [e] at hp
      exact ih p hp
    | some q =>
      obtain ⟨r, u⟩ := q
      rw [wyP_at hq] at hp
      refine foldP_cols (fun c hc => ih _ (List.mem_of_getElem? hq) c hc) (fun x hx => ?_) ih p hp
      have hlt := List.snd_lt_of_mem_zipIdx hx
      rw [Nat.add_zero] at hlt
      by_cases hr : r.toNat < tb.length
      · rw [List.getD_eq_getElem?_getD, List.getElem?_eq_getElem hr] at hlt
        have := (ok.row _ (List.getElem_mem hr)).1
        simp only [Option.getD_some] at hlt
        omega
      · rw [List.getD_eq_getElem?_getD, List.getElem?_eq_none (by omega)] at hlt
        simp at hlt
theorem word_low {L : W} (hL : Let L) {u : List Nat} (h : ∀ c ∈ u, c < L.length) : Low (wordL L u) := fun x hx => by
  obtain ⟨c, hc, rfl⟩ := List.mem_map.mp hx
  have lt := h c hc
  rw [List.getD_eq_getElem?_getD, List.getElem?_eq_getElem lt]
  exact hL.low _ (List.getElem_mem lt)
theorem first_txt {L : W} {tb : List (List Int)} {n : Int} (hL : Let L) (ok : TabOk tb L.length n) (p : Int) : TxtV (firstV L tb p) := by
  unfold firstV
  by_cases hin : p ∈ (wyP tb 0 tb.length).map (·.1)
  · obtain ⟨u, e1, e2⟩ := lookup_mem.1 hin
    rw [e1]
    exact .inr ⟨_, rfl, word_low hL fun c hc => wyP_cols ok _ _ e2 c hc⟩
  · rw [lookup_mem.2 hin]
    exact .inl rfl
theorem first_get {L : W} {tb : List (List Int)} {kvs : List (Key × V)} (keys : Keys kvs (wyA tb 0 tb.length)) (vo : VOk L kvs (wyP tb 0 tb.length)) (p : Int) : (valV kvs (Sum.inl p : Key)).getD .non = firstV L tb p := by
  unfold firstV
  have pm := wyP_fst (tb := tb) (st := 0) tb.length
  by_cases hin : p ∈ (wyP tb 0 tb.length).map (·.1)
  · obtain ⟨u, e1, e2⟩ := lookup_mem.1 hin
    rw [e1, vo p u e2] <;> rfl
  · rw [lookup_mem.2 hin]
    have hv : valV kvs (Sum.inl p : Key) = none := Classical.byContradiction fun z => hin (by rw [pm]; exact (keys.val p).mp z)
    rw [hv] <;> rfl
theorem sh_tabL (tb : List (List Int)) : SeqAt.shaped (.list (td_ tb)) = true := by
  show (PyData.canLayAll0 (td_ tb) && decide (PyData.depthAll (td_ tb) + 1 ≤ 64)) = true
  have := dep_tab tb
  rw [lay_tab, decide_eq_true (by omega)] <;> rfl
theorem bfl_noF {a b : V} : (bfl a b).lookup ("first_word" : Str) = none := by
  have e1 : (("first_word" : Str) == "_letters") = false := by decide +kernel
  have e2 : (("first_word" : Str) == "_table") = false := by decide +kernel
  simp only [bfl, List.lookup, e1, e2]
theorem bfl_noL {a b : V} : (bfl a b).lookup ("lean" : Str) = none := by
  have e1 : (("lean" : Str) == "_letters") = false := by decide +kernel
  have e2 : (("lean" : Str) == "_table") = false := by decide +kernel
  simp only [bfl, List.lookup, e1, e2]
section
variable {P : Program} {w : World} {K : PySem.W.Frag} {mg : Str → Option Value} {base : Heap} {C cD CM pT gT gN gE gC gF gLn : Addr} {dT dF dLn : FuncData}
variable {fFi fMB fLL : Addr} {dFi dMB dLL : FuncData}
theorem tail7B {f : Addr} {cdv : Value} {A : Around} {outer : List Env} {s : Shared} {H : Hp} {Q : VK} {E : XK} (hr : Room 9 (A.deeper (envOfC "_law_right" (defScope sR7) s.heap.objs.size f cdv))) (TT : TN mg) (B : TBx K mg C cD) (Bm : TB7 P w K mg base C gN gE gC)
    (hF : Meth K C "first_word" gF) (GF : FnOk P w K mg base CX0 4 gF dF ["self", "place"] (spFirst C)) (bF : Binds K dF ["self", "place"] [])
    (hLn : Meth K C "lean" gLn) (GLn : FnOk P w K mg base CX0 5 gLn dLn ["self"] (spBLeanG C)) (bLn : Binds K dLn ["self"] [])
    (Pt : PropOf K C "table" pT gT) (GTb : FnOk P w K mg base CX0 1 gT dT ["self"] (getSp C "_table")) (bTb : Binds K dT ["self"] [])
    (AFi : Fn K mg "_law_firsts" sLFirsts ["_law_table_here", "_law_letters_here"] fFi dFi) (GFi : FnOk P w K mg base CX0 1 fFi dFi ["_law_table_here", "_law_letters_here"] spLFirsts)
    (AMB : Fn K mg "_law_made_box" sMBox ["_law_letters_here", "_law_table_here"] fMB dMB) (GMB : FnOk P w K mg base CX0 7 fMB dMB ["_law_letters_here", "_law_table_here"] (spMBox C))
    (ALL : Fn K mg "_law_lean" sLLean ["_law_table_here", "_law_letters_here"] fLL dLL) (GLL : FnOk P w K mg base CX0 2 fLL dLL ["_law_table_here", "_law_letters_here"] spLLean)
    {tc : TS} (bC : PSs (cxOf CX0 P w K mg base NR7 "_law_right" (defScope sR7) f cdv A outer s H E).nox ((defBody sR7).drop 13) tc) (hTC : ∀ (p : Addr) (L : W) (tb : List (List Int)) (n : Int) (l o : Addr) (x4 x5 x6 x7 x8 : Option V) (H1 : Hp), Sc7 C H1 p L tb n l o → (∀ H', DiceAt H' p → But p H1 H' → Q (.bl true) H') →
      tc { nx := fun _ H' => Q .non H', rt := Q } [some (.ref p), some (.str (tx L)), some (.ref l), some (.ref o), x4, x5, x6, x7, x8, none, none, none, none] H1) :
    ∃ t, PSs (cxOf CX0 P w K mg base NR7 "_law_right" (defScope sR7) f cdv A outer s H E).nox ((defBody sR7).drop 8) t ∧ ∀ (p : Addr) (L : W) (tb : List (List Int)) (n : Int) (l o : Addr) (x4 x5 x6 : Option V) (H1 : Hp), Sc7 C H1 p L tb n l o → (∀ H', DiceAt H' p → But p H1 H' → Q (.bl true) H') →
      t { nx := fun _ H' => Q .non H', rt := Q } [some (.ref p), some (.str (tx L)), some (.ref l), some (.ref o), x4, x5, x6, none, none, none, none, none, none] H1 := by
  have hub := hu_of hr
  have hr1 : Room 1 _ := hr.mono (by decide)
  have hr2 : Room 2 _ := hr.mono (by decide)
  have hr4 : Room 4 _ := hr.mono (by decide)
  have hr5 : Room 5 _ := hr.mono (by decide)
  have hr7 : Room 7 _ := hr.mono (by decide)
  refine ⟨_, pss_cons (ps_set (i := 7) scR7.nd rfl (Or.inr rfl) (pe_call (E := E0) GFi hr1 rfl AFi.g AFi.F.kp AFi.b .nil pass0 (pa_cons (pv 2) (pa_cons (pv 1) pa_nil))))
    (pss_cons (ps_set (i := 8) scR7.nd rfl (Or.inr rfl) (pe_listRg rfl rfl TT.list (prg_1 rfl TT.rng (pe_callB call_len_seq (by rfl) TT.len PySem.boot_len (pa_cons (pv 2) pa_nil)))))
    (pss_cons (ps_if (pt_cmpR (op_neD hr.units)
        (pe_lc (own := [("_law_place", 11)]) (g := gName 11) (tt := tYes) (te := tMeth C "first_word" (spFirst C) [] E0 (tVar 3) (tCons (tVar 11) tNil)) rfl scR7.nd (pi_list (pv 8))
          (blkOk_by (own := [("_law_place", 11)]) (N := NR7) (sc := defScope sR7) (by decide +kernel)) (fun _ _ _ _ _ => pg_name (i := 11) scR7.nd rfl (Or.inl rfl)) (fun _ _ _ _ _ => pts_nil)
          (fun _ _ _ _ _ => pe_meth (E := E0) (pv 3) B.cl hF GF hr4 bF .nil pass0 (pa_cons (pv 11) pa_nil)))
        (pe_lc (own := [("_law_place", 11)]) (g := gName 11) (tt := tYes) (te := tDGet2 (tVar 7) (tVar 11) (tC .non)) rfl scR7.nd (pi_list (pv 8))
          (blkOk_by (own := [("_law_place", 11)]) (N := NR7) (sc := defScope sR7) (by decide +kernel)) (fun _ _ _ _ _ => pg_name (i := 11) scR7.nd rfl (Or.inl rfl)) (fun _ _ _ _ _ => pts_nil)
          (fun _ _ _ _ _ => pe_dget2 hub (pv 7) (pv 11) pe_non ⟨rfl, rfl, rfl, rfl⟩)) (nomark _)) (pss_one ps_never) pss_nil)
    (pss_cons (ps_if (pt_cmpR (OWN.op_neO Bm.eAt Bm.eFn Bm.ne Bm.mo Bm.eR hr2) (pe_meth0 (E := E0) (pv 3) B.cl hLn GLn hr5 bLn .nil pass0)
        (pe_call (E := E0) GMB hr7 rfl AMB.g AMB.F.kp AMB.b .nil pass0 (pa_cons (pv 1) (pa_cons (pe_call (E := E0) GLL hr2 rfl ALL.g ALL.F.kp ALL.b .nil pass0 (pa_cons (pv 2) (pa_cons (pv 1) pa_nil))) pa_nil))) (nomark _)) (pss_one ps_never) pss_nil)
    (pss_cons (ps_if (PW.pt (pw_or (pt_cmpR (op_neD hr.units) (pe_callTy call_list_of (by rfl) TT.list (by decide +kernel) (pa_cons (pe_prop (E := E0) (pv 3) B.cl Pt GTb hr2 bTb .nil pass0 rfl) pa_nil)) (pv 2) (nomark _))
        (pw_or1 (pt_cmpR op_ne (pe_callB (OWN.call_lenO Bm.nAt Bm.nFn Bm.nR hr2) (by rfl) TT.len PySem.boot_len (pa_cons (pv 3) pa_nil)) (pe_callB call_len_seq (by rfl) TT.len PySem.boot_len (pa_cons (pv 2) pa_nil)) (nomark _))))) (pss_one ps_never) pss_nil) bC)))), ?_⟩
  intro p L tb n l o x4 x5 x6 H1 S q
  have hln := S.ok.len
  have n1 := S.n1
  have n5 := S.n5
  refine ⟨_, rfl, _, rfl, l, L, tb, n, rfl, S.tab, S.hL, S.ok, n1, by omega, fun fD kvs H2 nD s2 hd keys vo => ?_⟩
  have S2 := S.same s2
  obtain ⟨as, l1, l2⟩ := id S2.tab
  have al : (as.map V.ref).length = tb.length := by rw [List.length_map, l2.len]
  refine ⟨_, rfl, l, _, rfl, .inl (SqL.of l1), _, rfl, RgOk.of_le (by decide) (by rw [al]; omega) (by decide) (by rw [al]; omega), fun sp hsp => ?_⟩
  rw [al, rgV_rng]
  have s3 := same_upd (o := .lst ((rngI tb.length).map V.int)) hsp
  have hs3 : upd H2 sp (.lst ((rngI tb.length).map V.int)) sp = some (.lst ((rngI tb.length).map V.int)) := upd_same
  generalize upd H2 sp (.lst ((rngI tb.length).map V.int)) = H3 at s3 hs3
  have S3 := S2.same s3
  have hd3 := s3 _ _ hd
  have s13 := s2.trans s3
  have at_ : ∀ {i : Nat} {x : V}, i < tb.length → ((rngI tb.length).map V.int)[i]? = some x → x = .int (i : Nat) := fun {i x} hi hx => by
    rw [List.getElem?_map, rng_at, if_pos hi] at hx
    exact (Option.some.inj hx).symm
  have txt : ∀ v ∈ (List.range tb.length).map (fun i => firstV L tb (i : Nat)), TxtV v := fun v hv => by
    obtain ⟨i, _, rfl⟩ := List.mem_map.mp hv
    exact first_txt S.hL S.ok _
  refine ⟨_, rfl, sp, rfl, ⟨_, SqL.of hs3⟩, fun D hD => ?_⟩
  refine lc_it walk_list (fun i H4 => Same H3 H4 ∧ H4 D = some (.lst ((List.range i).map fun i => firstV L tb (i : Nat)))) ⟨same_upd hD, upd_same⟩ (fun i H4 _ ⟨s4, _⟩ => SqL.of (s4 _ _ hs3)) ?_ ?_
  · rintro i x H4 H5 hi ⟨s4, hd4⟩ ⟨rfl, hx⟩
    rw [List.length_map, rng_len] at hi
    obtain rfl := at_ hi hx
    obtain ⟨dx, r, b1, _⟩ := id (S3.same s4).box
    refine ⟨rfl, _, rfl, o, dx, _, rfl, b1, bfl_noF, _, rfl, o, L, tb, n, (i : Nat), rfl, (S3.same s4).box, S.hL, S.ok, by omega, by omega, by omega, fun H6 s6 => ?_⟩
    refine ⟨_, s6 _ _ hd4, ?_, same_at (s4.trans s6) hD, ?_⟩
    · rw [List.length_map, List.length_range, sizeLine_eq]
      omega
    · rw [upd_same, List.range_succ, List.map_append] <;> rfl
  rintro H4 ⟨s4, hd4⟩
  rw [List.length_map, rng_len] at hd4
  have hs4 := s4 _ _ hs3
  have hdk4 := s4 _ _ hd3
  refine ⟨_, rfl, sp, rfl, ⟨_, SqL.of hs4⟩, fun D2 hD2 => ?_⟩
  refine lc_it walk_list (fun i H5 => Same H4 H5 ∧ H5 D2 = some (.lst ((List.range i).map fun i => firstV L tb (i : Nat)))) ⟨same_upd hD2, upd_same⟩ (fun i H5 _ ⟨s5, _⟩ => SqL.of (s5 _ _ hs4)) ?_ ?_
  · rintro i x H5 H6 hi ⟨s5, hd5⟩ ⟨rfl, hx⟩
    rw [List.length_map, rng_len] at hi
    obtain rfl := at_ hi hx
    have hdk5 := s5 _ _ hdk4
    refine ⟨rfl, _, rfl, fD, rfl, .inl ⟨_, .inl hdk5⟩, _, rfl, _, DGet.k (k := (Sum.inl ((i : Nat) : Int) : Key)) hdk5, ?_⟩
    rw [first_get keys vo]
    refine ⟨_, hd5, ?_, same_at s5 hD2, ?_⟩
    · rw [List.length_map, List.length_range, sizeLine_eq]
      omega
    · rw [upd_same, List.range_succ, List.map_append] <;> rfl
  rintro H5 ⟨s5, hd5⟩
  rw [List.length_map, rng_len] at hd5
  refine ⟨.list _, .list _, .lst (SqL.of (s5 _ _ hd4)) (dp_fd txt), .lst (SqL.of hd5) (dp_fd txt), sh_fd txt, sh_fd txt, _, rfl, iteF' (congrArg not (eqv_fd txt)) ?_⟩
  have s15 := s13.trans (s4.trans s5)
  have S5 := S.same s15
  obtain ⟨dx, r, b1, _⟩ := id S5.box
  refine ⟨_, rfl, o, dx, _, rfl, b1, bfl_noL, o, L, tb, n, rfl, S5.box, S.hL, S.ok, n1, by omega, fun p1 H6 np1 s6 bx1 => ?_⟩
  have S6 := S5.same s6
  refine ⟨_, rfl, _, rfl, _, rfl, l, L, tb, n, rfl, S6.tab, S.hL, S.ok, n1, by omega, fun p2 H7 np2 s7 pt2 => ?_⟩
  obtain ⟨k1, k2, k3⟩ := lean_tab S.ok n1
  have O := (ord_of S.ok n1).le
  refine ⟨L, p2, _, _, rfl, S.hL, pt2, k1, by omega, by omega, fun o2 H8 no2 s8 bx2 => ?_⟩
  have bx1' := (bx1.same s7).same s8
  obtain ⟨dx1, r1, i1, _⟩ := id bx1'
  obtain ⟨dx2, r2, i2, _⟩ := id bx2
  refine ⟨p1, dx1, _, o2, dx2, _, rfl, rfl, i1, i2, p1, o2, L, L, _, _, rfl, bx1', bx2, _, rfl, _, rfl, iteF' (congrArg not (decide_eq_true ⟨rfl, rfl⟩)) ?_⟩
  have s18 := s15.trans (s6.trans (s7.trans s8))
  have S8 := S.same s18
  obtain ⟨dx, r, b1, ts, b2, b3⟩ := id S8.box
  obtain ⟨as8, a1, a2⟩ := id S8.tab
  refine ⟨_, rfl, o, dx, _, rfl, b1, o, dx, _, _, rfl, b1, bfl_T, r, _, rfl, .inr (SqT.of b2), fun c hc => ?_⟩
  have s9 := same_upd (o := .lst (ts.map V.ref)) hc
  have hc9 : upd H8 c (.lst (ts.map V.ref)) c = some (.lst (ts.map V.ref)) := upd_same
  generalize upd H8 c (.lst (ts.map V.ref)) = H9 at s9 hc9
  have S9 := S8.same s9
  have a19 := s9 _ _ a1
  refine ⟨_, rfl, .list (td_ tb), .list (td_ tb), .lst (SqL.of hc9) (dp_tab (objs_tup b3 (Same.tup' s9))), .lst (SqL.of a19) (dp_tab (objs_tup a2 (Same.tup' s9))), sh_tabL tb, sh_tabL tb, _, rfl, iteF' (congrArg not ((eqv_tabs tb tb).trans (decide_eq_true rfl))) ?_⟩
  have a8l : (as8.map V.ref).length = tb.length := by rw [List.length_map, a2.len]
  refine ⟨_, rfl, o, dx, _, rfl, s9 _ _ b1, o, L, tb, rfl, S9.box, tb.length, rfl, by omega, ?_⟩
  refine ⟨_, rfl, l, _, rfl, .inl (SqL.of a19), rfl, _, rfl, iteF' ?_ ?_⟩
  · rw [a8l]
    exact congrArg not (decide_eq_true rfl)
  · exact hTC p L tb n l o _ _ _ _ _ H9 S9 fun H' d b => q H' d ((But.ofSame (s18.trans s9)).trans b)
end
end RM
set_option Elab.async false
set_option linter.all false
set_option maxRecDepth 100000
set_option maxHeartbeats 16000000
namespace RM
open PySem L2 PyProof.Rows LCX K1 FV DP WK
open TX (sg sigs)
open PySem.W (Frag kitOne)
theorem bfl_noA {a b : V} : (bfl a b).lookup ("action" : Str) = none := by
  have e1 : (("action" : Str) == "_letters") = false := by decide +kernel
  have e2 : (("action" : Str) == "_table") = false := by decide +kernel
  simp only [bfl, List.lookup, e1, e2]
theorem bfl_noP {a b : V} : (bfl a b).lookup ("place" : Str) = none := by
  have e1 : (("place" : Str) == "_letters") = false := by decide +kernel
  have e2 : (("place" : Str) == "_table") = false := by decide +kernel
  simp only [bfl, List.lookup, e1, e2]
section
variable {P : Program} {w : World} {K : PySem.W.Frag} {mg : Str → Option Value} {base : Heap} {C cD CM pT gT gN gE gC gF gLn gA gP : Addr} {dT dF dLn dA dP : FuncData}
variable {fR fO fLe fB fMB fW fLl fAo fFa : Addr} {dR dO dLe dB dMB dW dLl dAo dFa : FuncData}
theorem ok_r7 {f : Addr} {fd : FuncData} (F : Fun K "_law_right" "_law_right" sR7 f fd) (TT : TN mg) (B : TBx K mg C cD) (Bm : TB7 P w K mg base C gN gE gC)
    (hA : Meth K C "action" gA) (GA : FnOk P w K mg base CX0 4 gA dA ["self", "word"] (spAct C)) (bA : Binds K dA ["self", "word"] [])
    (hP : Meth K C "place" gP) (GP : FnOk P w K mg base CX0 4 gP dP ["self", "word", "start", "times"] (spPlace C)) {g : List Value → List Value → List Value} (kP : KBn K dP ["self", "word", "start", "times"] 3 ["times"] g (fun vs zs => vs ++ zs)) {v1 : Value} (rv1 : RelV (.int 1) v1) (bP : Binds K dP ["self", "word", "start", "times"] [v1])
    (AR : Fn K mg "_law_roll" sRoll ["_law_dice_here", "_law_total"] fR dR) (AO : Fn K mg "_law_one_of" sOne ["_law_dice_here", "_law_items"] fO dO)
    (ALe : Fn K mg "_law_letters" sLetters ["_law_dice_here", "_law_total"] fLe dLe) (GLe : FnOk P w K mg base CX0 3 fLe dLe ["_law_dice_here", "_law_total"] spLetters)
    (AB : Fn K mg "_law_box" sLBox ["_law_dice_here", "_law_letters_here", "_law_most"] fB dB) (GB : FnOk P w K mg base CX0 4 fB dB ["_law_dice_here", "_law_letters_here", "_law_most"] spLBox)
    (AMB : Fn K mg "_law_made_box" sMBox ["_law_letters_here", "_law_table_here"] fMB dMB) (GMB : FnOk P w K mg base CX0 7 fMB dMB ["_law_letters_here", "_law_table_here"] (spMBox C))
    (AW : Fn K mg "_law_word" sWord ["_law_dice_here", "_law_letters_here", "_law_most"] fW dW) (GW : FnOk P w K mg base CX0 3 fW dW ["_law_dice_here", "_law_letters_here", "_law_most"] spWordL)
    (ALl : Fn K mg "_law_led" sLLed ["_law_table_here", "_law_letters_here", "_law_word_here", "_law_start"] fLl dLl) (GLl : FnOk P w K mg base CX0 1 fLl dLl ["_law_table_here", "_law_letters_here", "_law_word_here", "_law_start"] spLLed)
    (AAo : Fn K mg "_law_action_of" sLActOf ["_law_table_here", "_law_letters_here", "_law_word_here"] fAo dAo) (GAo : FnOk P w K mg base CX0 2 fAo dAo ["_law_table_here", "_law_letters_here", "_law_word_here"] spLActOf)
    (AFa : Fn K mg "_law_far" sLFar ["_law_table_here", "_law_letters_here", "_law_word_here", "_law_start", "_law_times"] fFa dFa) (GFa : FnOk P w K mg base CX0 2 fFa dFa ["_law_table_here", "_law_letters_here", "_law_word_here", "_law_start", "_law_times"] spFar)
    (hTB : ∀ {cdv : Value} {A : Around} {outer : List Env} {s : Shared} {H : Hp} {Q : VK} {E : XK}, Room 9 (A.deeper (envOfC "_law_right" (defScope sR7) s.heap.objs.size f cdv)) →
      ∃ t, PSs (cxOf CX0 P w K mg base NR7 "_law_right" (defScope sR7) f cdv A outer s H E).nox ((defBody sR7).drop 8) t ∧ ∀ (p : Addr) (L : W) (tb : List (List Int)) (n : Int) (l o : Addr) (x4 x5 x6 : Option V) (H1 : Hp), Sc7 C H1 p L tb n l o → (∀ H', DiceAt H' p → But p H1 H' → Q (.bl true) H') →
        t { nx := fun _ H' => Q .non H', rt := Q } [some (.ref p), some (.str (tx L)), some (.ref l), some (.ref o), x4, x5, x6, none, none, none, none, none, none] H1) :
    FnOk P w K mg base CX0 10 f fd ["_law_dice_here"] spR7 := by
  have GO : FnOk P w K mg base CX0 2 fO dO ["_law_dice_here", "_law_items"] spOne := ok_one AO.F TT.dice AR.g AR.F AR.b
  have GR : FnOk P w K mg base CX0 1 fR dR ["_law_dice_here", "_law_total"] spRoll := ok_roll AR.F TT.dice
  refine F.ok scR7 (fun vs H Q E h => ?_) (fun cdv A outer s H vs Q E hr h => ?_)
  · obtain ⟨p, rfl, _⟩ := h
    rfl
  · obtain ⟨p, rfl, hD, q⟩ := h
    have hr1 : Room 1 _ := hr.mono (by decide)
    have hr2 : Room 2 _ := hr.mono (by decide)
    have hr3 : Room 3 _ := hr.mono (by decide)
    have hr4 : Room 4 _ := hr.mono (by decide)
    have hr7 : Room 7 _ := hr.mono (by decide)
    obtain ⟨tb_, bB, hB⟩ := hTB (cdv := cdv) (A := A) (outer := outer) (s := s) (H := H) (Q := Q) (E := E) hr
    refine ⟨_, pss_cons (ps_set (i := 1) scR7.nd rfl (Or.inr rfl) (pe_call (E := E0) GLe hr3 rfl ALe.g ALe.F.kp ALe.b .nil pass0 (pa_cons (pv 0) (pa_cons (pe_call (E := E0) GO hr2 rfl AO.g AO.F.kp AO.b .nil pass0 (pa_cons (pv 0) (pa_cons (pe_lst (pa_cons pe_int (pa_cons pe_int (pa_cons pe_int (pa_cons pe_int pa_nil))))) pa_nil))) pa_nil))))
      (pss_cons (ps_set (i := 2) scR7.nd rfl (Or.inr rfl) (pe_call (E := E0) GB hr4 rfl AB.g AB.F.kp AB.b .nil pass0 (pa_cons (pv 0) (pa_cons (pv 1) (pa_cons pe_int pa_nil)))))
      (pss_cons (ps_asg (pe_tup (pa_cons (pe_call (E := E0) GMB hr7 rfl AMB.g AMB.F.kp AMB.b .nil pass0 (pa_cons (pv 1) (pa_cons (pv 2) pa_nil))) (pa_cons (pe_call (E := E0) GW hr3 rfl AW.g AW.F.kp AW.b .nil pass0 (pa_cons (pv 0) (pa_cons (pv 1) (pa_cons pe_int pa_nil)))) pa_nil)))
          (pg_tup (by rfl) (pgs_cons (pg_name (i := 3) scR7.nd rfl (Or.inr rfl)) (pgs_cons (pg_name (i := 4) scR7.nd rfl (Or.inl rfl)) pgs_nil))))
      (pss_cons (ps_par (i := 5) (j := 6) (by rfl) scR7.nd rfl rfl (by decide) rfl rfl (pa_cons (pe_call (E := E0) GR hr1 rfl AR.g AR.F.kp AR.b .nil pass0 (pa_cons (pv 0) (pa_cons (pe_callB call_len_seq (by rfl) TT.len PySem.boot_len (pa_cons (pv 2) pa_nil)) pa_nil)))
          (pa_cons (pe_call (E := E0) GO hr2 rfl AO.g AO.F.kp AO.b .nil pass0 (pa_cons (pv 0) (pa_cons (pe_lst (pa_cons pe_int (pa_cons pe_int (pa_cons pe_int (pa_cons pe_int (pa_cons (pe_op op_sub (pe_op op_pow pe_int pe_int) (pe_call (E := E0) GR hr1 rfl AR.g AR.F.kp AR.b .nil pass0 (pa_cons (pv 0) (pa_cons pe_int pa_nil)))) pa_nil)))))) pa_nil))) pa_nil)) (by rfl))
      (pss_cons (ps_if (pt_cmpR op_ne (StX.pe_callO (E := E0) (pv 3) Bm.cC Bm.cR hr4 pass0 (pa_cons (pv 4) pa_nil)) (pe_call (E := E0) GLl hr1 rfl ALl.g ALl.F.kp ALl.b .nil pass0 (pa_cons (pv 2) (pa_cons (pv 1) (pa_cons (pv 4) (pa_cons pe_int pa_nil))))) (nomark _)) (pss_one ps_never) pss_nil)
      (pss_cons (ps_if (pt_cmpR (op_neD hr.units) (pe_meth (E := E0) (pv 3) B.cl hA GA hr4 bA .nil pass0 (pa_cons (pv 4) pa_nil)) (pe_call (E := E0) GAo hr2 rfl AAo.g AAo.F.kp AAo.b .nil pass0 (pa_cons (pv 2) (pa_cons (pv 1) (pa_cons (pv 4) pa_nil)))) (nomark _)) (pss_one ps_never) pss_nil)
      (pss_cons (ps_if (pt_cmpR op_ne (MKW.pe_methN (E := E0) (pv 3) B.cl hP GP hr4 kP pass0 (pa_cons (pv 4) (pa_cons (pv 5) pa_nil)) (pk_cons (pv 6) pk_nil)) (pe_call (E := E0) GFa hr2 rfl AFa.g AFa.F.kp AFa.b .nil pass0 (pa_cons (pv 2) (pa_cons (pv 1) (pa_cons (pv 4) (pa_cons (pv 5) (pa_cons (pv 6) pa_nil)))))) (nomark _)) (pss_one ps_never) pss_nil)
      (pss_cons (ps_if (pt_cmpR op_ne (pe_meth (E := E0) (pv 3) B.cl hP GP hr4 bP (.cons rv1 .nil) pass0 (pa_cons (pv 4) (pa_cons (pv 5) pa_nil))) (pe_call (E := E0) GLl hr1 rfl ALl.g ALl.F.kp ALl.b .nil pass0 (pa_cons (pv 2) (pa_cons (pv 1) (pa_cons (pv 4) (pa_cons (pv 5) pa_nil))))) (nomark _)) (pss_one ps_never) pss_nil) bB))))))), ?_⟩
    refine ⟨_, rfl, _, rfl, by show 4 ≤ sizeLine; decide, fun k1 hk1 => ⟨p, k1, _, rfl, hD.new hk1, hD.ne hk1, upd_same, by decide, by decide, fun v1 H1 hv1 hD1 hB1 => ?_⟩⟩
    obtain ⟨c, rfl, c1, c3⟩ : ∃ c : Int, v1 = .int c ∧ 1 ≤ c ∧ c ≤ 3 := by
      simp only [List.mem_cons, List.not_mem_nil, or_false] at hv1
      rcases hv1 with e | e | e | e <;> exact ⟨_, e, by decide, by decide⟩
    refine ⟨p, c, rfl, hD1, c1, c3, fun L H2 hL hD2 hB2 => ?_⟩
    have b2 : But p H H2 := ((But.ofSame (same_upd hk1)).trans hB1).trans hB2
    have few := hL.few
    refine ⟨_, rfl, _, rfl, p, L, 5, rfl, hD2, hL.ne, by omega, by omega, by omega, fun l tb n H3 nl lp hD3 hB3 pt ok n1 n5 => ?_⟩
    have b3 := b2.trans hB3
    refine ⟨_, rfl, _, rfl, L, l, tb, n, rfl, hL, pt, ok, n1, by omega, fun o H4 no s4 bx => ?_⟩
    have S4 : Sc7 C H4 p L tb n l o := ⟨hD3.keep fun _ e => s4 _ _ e, hL, (let ⟨as, h1, h2⟩ := pt; ⟨as, s4 _ _ h1, objs_tup h2 (Same.tup' s4)⟩), lp, bx, ok, n1, n5⟩
    have b4 := b3.trans (But.ofSame s4)
    refine ⟨_, rfl, _, rfl, p, L, 4, rfl, S4.dice, hL, by decide, by decide, fun u H5 ul uc hD5 hB5 => ?_⟩
    have S5 := S4.but hD5 hB5
    have b5 := b4.trans hB5
    refine ⟨by show 2 ≤ sizeLine; decide, fun tp htp => ?_⟩
    have s6 := same_upd (o := .tup [V.ref o, .str (tx u)]) htp
    have htp6 : upd H5 tp (.tup [V.ref o, .str (tx u)]) tp = some (.tup [V.ref o, .str (tx u)]) := upd_same
    generalize upd H5 tp (.tup [V.ref o, .str (tx u)]) = H6 at s6 htp6
    have S6 := S5.same s6
    have b6 := b5.trans (But.ofSame s6)
    refine ⟨tp, _, rfl, SqT.of htp6, rfl, _, _, rfl, _, _, rfl, rfl, ?_⟩
    obtain ⟨as, l1, l2⟩ := id S6.tab
    have al : (as.map V.ref).length = tb.length := by rw [List.length_map, l2.len]
    have hln := ok.len
    refine ⟨_, rfl, _, rfl, l, _, rfl, .inl (SqL.of l1), p, _, rfl, S6.dice, by rw [al]; omega, by rw [al]; omega, fun st H7 st0 st1 hD7 hB7 => ?_⟩
    rw [al, hln] at st1
    have S7 := S6.but hD7 hB7
    have b7 := b6.trans hB7
    refine ⟨_, rfl, _, _, rfl, rfl, ⟨by decide, by decide, by decide⟩, _, rfl, p, 9, rfl, hD7, by decide, by decide, fun k2 H8 k20 k21 hD8 hB8 => ?_⟩
    have S8 := S7.but hD8 hB8
    have b8 := b7.trans hB8
    refine ⟨_, _, rfl, rfl, by show 5 ≤ sizeLine; decide, fun ls hls => ⟨p, ls, _, rfl, hD8.new hls, hD8.ne hls, upd_same, (by show 0 < 5; decide), (by show 5 < 1000000; decide), fun v2 H9 hv2 hD9 hB9 => ⟨_, _, rfl, ?_⟩⟩⟩
    obtain ⟨tm, rfl, t0, t1⟩ : ∃ c : Int, v2 = .int c ∧ 0 ≤ c ∧ c ≤ 100000000000 := by
      simp only [List.mem_cons, List.not_mem_nil, or_false] at hv2
      rcases hv2 with e | e | e | e | e
      · exact ⟨_, e, by decide, by decide⟩
      · exact ⟨_, e, by decide, by decide⟩
      · exact ⟨_, e, by decide, by decide⟩
      · exact ⟨_, e, by decide, by decide⟩
      · refine ⟨_, e, ?_, ?_⟩
        · rw [show (10 : Int) ^ (11 : Int).toNat = 100000000000 by decide]
          omega
        · rw [show (10 : Int) ^ (11 : Int).toNat = 100000000000 by decide]
          omega
    have S9 := (S8.same (same_upd (o := .lst _) hls)).but hD9 hB9
    have b9 := (b8.trans (But.ofSame (same_upd hls))).trans hB9
    clear S8 S7 S6 S5 S4 hv2 hB9 hD9
    obtain ⟨dx, r, b1, _⟩ := id S9.box
    refine ⟨_, rfl, o, rfl, _, rfl, .inr ⟨dx, _, b1⟩, o, L, u, tb, n, rfl, S9.box, hL, ok, n1, by omega, by omega, uc, fun H10 s10 => ?_⟩
    have S10 := S9.same s10
    refine ⟨_, rfl, _, rfl, _, rfl, l, L, u, tb, n, 0, rfl, S10.tab, hL, ok, Int.le_refl _, by omega, uc, rfl, _, rfl, iteF' (congrArg not (decide_eq_true rfl)) ?_⟩
    obtain ⟨dx, r, b1, _⟩ := id S10.box
    refine ⟨_, rfl, o, dx, _, rfl, b1, bfl_noA, _, rfl, o, L, u, tb, n, rfl, S10.box, hL, ok, by omega, by omega, uc, fun p1 H11 np1 s11 h11 => ?_⟩
    have S11 := S10.same s11
    refine ⟨_, rfl, _, rfl, _, rfl, l, L, u, tb, n, rfl, S11.tab, hL, ok, by omega, uc, fun p2 H12 np2 s12 h12 => ?_⟩
    have S12 := S11.same s12
    refine ⟨.tuple (id_ _), .tuple (id_ _), .tup (SqT.of (s12 _ _ h11)) (dp_int _), .tup (SqT.of h12) (dp_int _), sh_ints _, sh_ints _, _, rfl, iteF' (congrArg not ((eqv_ints _ _).trans (decide_eq_true rfl))) ?_⟩
    obtain ⟨dx, r, b1, _⟩ := id S12.box
    refine ⟨_, rfl, o, dx, _, rfl, b1, bfl_noP, _, rfl, _, rfl, _, rfl, rfl, rfl, o, L, u, tb, n, st, tm, rfl, S12.box, hL, ok, by omega, st0, st1, t0, t1, by omega, uc, fun H13 s13 => ?_⟩
    have S13 := S12.same s13
    refine ⟨_, rfl, _, rfl, _, rfl, _, rfl, _, rfl, l, L, u, tb, n, st, tm, rfl, S13.tab, hL, ok, by omega, st0, st1, uc, t0, fun H14 s14 => ⟨rfl, _, rfl, iteF' (congrArg not (decide_eq_true rfl)) ?_⟩⟩
    have S14 := S13.same s14
    obtain ⟨dx, r, b1, _⟩ := id S14.box
    refine ⟨_, rfl, o, dx, _, rfl, b1, bfl_noP, _, rfl, _, rfl, o, L, u, tb, n, st, 1, rfl, S14.box, hL, ok, by omega, st0, st1, by decide, by decide, by omega, uc, fun H15 s15 => ?_⟩
    have S15 := S14.same s15
    refine ⟨_, rfl, _, rfl, _, rfl, _, rfl, l, L, u, tb, n, st, rfl, S15.tab, hL, ok, st0, st1, uc, rfl, _, rfl, iteF' (congrArg not (decide_eq_true rfl)) ?_⟩
    have sall := s10.trans (s11.trans (s12.trans (s13.trans (s14.trans s15))))
    exact hB p L tb n l o _ _ _ H15 S15 fun H' d b => q H' d ((b9.trans (But.ofSame sall)).trans b)
end
end RM
set_option Elab.async false
set_option linter.all false
set_option maxRecDepth 100000
set_option maxHeartbeats 8000000
namespace RM
open PySem L2 PyProof.Rows LCX K1 FV DP LamX WK
open TX (sg sigs)
open PySem.W (Frag kitOne)
abbrev sLawB : Stmt := top 74
abbrev NLw : List Str := ["_law_script", "_law_spot", "_law_dice_here", "_law_turn"]
def spLawB (K : Frag) (T : List (Addr × Str)) : Sp := fun vs H Q _ => ∃ (s : Addr) (ns : List Int), vs = [.ref s] ∧ SqL K H s (ns.map V.int) ∧ ns.length ≤ 63 ∧ Tabs T H ∧ ∀ H', Q (.bl true) H'
/-- a maker of boxes, as the class has it -/
def Mkr (P : Program) (w : World) (K : Frag) (mg : Str → Option Value) (base : Heap) (C : Addr) (mc : Value) (m : Str) (k : Nat) (sp : Sp) : Prop := ∃ p g, ClX.CMet K C mc m p g ∧ FnR P w K mg base CX0 k g (fun vs H Q E => sp (vs ++ []) H Q E)
structure TMkr (P : Program) (w : World) (K : Frag) (mg : Str → Option Value) (base : Heap) (C : Addr) (mc : Value) (T : List (Addr × Str)) : Prop where
  rd : ClX.CRead K C mc
  gC : mg "Box" = some (.ref C)
  rests : Mkr P w K mg base C mc "rests" 7 (spRests T C)
theorem tabs_but {T : List (Addr × Str)} {H H' : Hp} {p : Addr} (t : Tabs T H) (hD : DiceAt H p) (b : But p H H') : Tabs T H' := fun q hq => by
  obtain ⟨x, y, z, e, _⟩ := hD
  obtain ⟨ps, h1, h2, h3⟩ := t q hq
  refine ⟨ps, b _ _ h1 (fun n => by rw [n, e] at h1; cases h1), h2, fun pos cv hc => ?_⟩
  obtain ⟨c, e1, e2⟩ := h3 pos cv hc
  exact ⟨c, e1, b _ _ e2 (fun n => by rw [n, e] at e2; cases e2)⟩
theorem seqN {K : Frag} {H H' : Hp} {a : Addr} {xs : List V} (e : ExtN H H') (h : SqL K H a xs) : SqL K H' a xs := by
  rcases h with (h | ⟨o, h⟩) | h
  · exact .inl (.inl (e _ _ h fun _ z => nomatch z))
  · exact .inl (.inr ⟨o, e _ _ h fun _ z => nomatch z⟩)
  · exact .inr h
def aa : W := [97]
theorem aa_is : ("a" : Str) = tx aa := by decide +kernel
theorem let_aa : Let aa := ⟨by unfold Low; decide, by decide, by decide, by decide⟩
abbrev tR3 : List (List Int) := (exAll (cntF aa 0 3) aa (zeros aa) 3).2
theorem d_r3 : Done (cntF aa 0 3) aa (zeros aa) 3 := ⟨by decide +kernel, by decide⟩
theorem far_r3 : itL (ledL aa tR3 aa) 2 100000000000 = 0 := by
  have h : itL (ledL aa tR3 aa) 2 3 = itL (ledL aa tR3 aa) 2 0 := by decide +kernel
  have e := it_ring (a := 0) (m := 3) (by decide) h 100000000000
  rw [Nat.zero_add] at e
  rw [e]
  decide +kernel
section
variable {P : Program} {w : World} {K : PySem.W.Frag} {mg : Str → Option Value} {base : Heap} {C : Addr} {cD : Addr} {mc : Value} {gP : Addr} {dP : FuncData} {T : List (Addr × Str)}
variable {fD fRi : Addr} {dD dRi : FuncData}
theorem scLw : FnScope NLw ["_law_script"] (defScope sLawB) := ⟨rfl, rfl, rfl, by decide +kernel, rfl, by decide +kernel, by decide +kernel⟩
theorem ok_lawB {f : Addr} {fd : FuncData} (F : Fun K "law" "law" sLawB f fd) (TT : TN mg) (M : TMkr P w K mg base C mc T) (B : TBx K mg C cD)
    (hP : Meth K C "place" gP) (GP : FnOk P w K mg base CX0 4 gP dP ["self", "word", "start", "times"] (spPlace C)) {g : List Value → List Value → List Value} (kP : KBn K dP ["self", "word", "start", "times"] 3 ["times"] g (fun vs zs => vs ++ zs))
    (AD : Fn K mg "_law_dice" sDice ["_law_script", "_law_at"] fD dD) (GD : FnOk P w K mg base CX0 1 fD dD ["_law_script", "_law_at"] (spDice K))
    (ARi : Fn K mg "_law_right" sR7 ["_law_dice_here"] fRi dRi) (GRi : FnOk P w K mg base CX0 10 fRi dRi ["_law_dice_here"] spR7) : FnOk P w K mg base CX0 12 f fd ["_law_script"] (spLawB K T) := by
  obtain ⟨rd, gB, ⟨p5, g5, c5, f5⟩⟩ := M
  refine F.ok scLw (fun vs H Q E h => ?_) (fun cdv A outer s H vs Q E hr h => ?_)
  · obtain ⟨s, ns, rfl, _⟩ := h
    rfl
  · obtain ⟨sc, ns, rfl, hS, hl, hT, q⟩ := h
    have hr1 : Room 1 _ := hr.mono (by decide)
    have hr4 : Room 4 _ := hr.mono (by decide)
    have hr7 : Room 7 _ := hr.mono (by decide)
    have hr10 : Room 10 _ := hr.mono (by decide)
    refine ⟨_, pss_cons (ps_for PassesOwn.never rfl (pi_range1 rfl TT.rng (pa_cons (pe_callB (call_max2 rfl) (by rfl) TT.max (by decide +kernel) (pa_cons pe_int (pa_cons (pe_callB (call_min2 rfl) (by rfl) TT.min (by decide +kernel) (pa_cons pe_int (pa_cons (pe_callB call_len_seq (by rfl) TT.len PySem.boot_len (pa_cons (pv 0) pa_nil)) pa_nil))) pa_nil))) pa_nil)) (pg_name (i := 1) scLw.nd rfl (Or.inl rfl))
        (pss_cons (ps_set (i := 2) scLw.nd rfl (Or.inl rfl) (pe_call GD hr1 rfl AD.g AD.F.kp AD.b .nil pass0 (pa_cons (pv 0) (pa_cons (pv 1) pa_nil))))
        (pss_one (ps_for PassesOwn.never rfl (pi_range1 rfl TT.rng (pa_cons pe_int pa_nil)) (pg_name (i := 3) scLw.nd rfl (Or.inl rfl))
          (pss_one (ps_if (pt_not (pt_val (pe_call GRi hr10 rfl ARi.g ARi.F.kp ARi.b .nil pass0 (pa_cons (pv 2) pa_nil)))) (pss_one (ps_ret pe_bl)) pss_nil))))))
      (pss_one (ps_ret (pe_cmpR op_eq (MKW.pe_methN (E := E0) (ClX.pe_cmeth (E := E0) (pe_glob rfl gB (show RelV (.ref C) (.ref C) from rfl)) rd c5 f5 hr7 pass0 (pa_cons pe_str (pa_cons pe_int pa_nil))) B.cl hP GP hr4 kP pass0 (pa_cons pe_str (pa_cons pe_int pa_nil)) (pk_cons (pe_op op_pow pe_int pe_int) pk_nil)) pe_int (nomark _)))), ?_⟩
    have len : ((ns.map V.int).length : Int) ≤ 63 := by
      rw [List.length_map]
      omega
    have len0 : (0 : Int) ≤ ((ns.map V.int).length : Int) := Int.natCast_nonneg _
    refine ⟨_, rfl, sc, _, rfl, .inl hS, _, _, rfl, _, _, rfl, _, rfl, by split <;> split <;> omega, by split <;> split <;> omega, ?_⟩
    refine for_range (lo := 0) (fun i σ H1 => (∃ a b c, σ = [some (.ref sc), a, b, c]) ∧ ExtN H H1 ∧ Tabs T H1) ⟨⟨_, _, _, rfl⟩, ExtN.refl H, hT⟩ ?_ ?_
    · rintro i σ H1 hi ⟨⟨a, b, c, rfl⟩, s1, t1⟩
      refine ⟨_, rfl, _, rfl, sc, ns, _, rfl, seqN s1 hS, by omega, fun p H2 hp s2 hD => ?_⟩
      refine ⟨2, rfl, by omega, by omega, ?_⟩
      have free : ∀ b o, H b = some o → (∀ ps, o ≠ .tbl ps) → b ≠ p := fun b o e n => ne_of_none (s1 b o e n) hp
      refine for_range (lo := 0) (n := 2) (fun j σ H3 => (∃ a c, σ = [some (.ref sc), a, some (.ref p), c]) ∧ ExtN H H3 ∧ DiceAt H3 p ∧ Tabs T H3) ⟨⟨_, _, rfl⟩, fun b o e n => s2 _ _ (s1 b o e n), hD, t1.ext s2⟩ ?_ ?_
      · rintro j σ H3 hj ⟨⟨a, c, rfl⟩, s3, hD3, t3⟩
        refine ⟨_, rfl, p, rfl, hD3, fun H4 hD4 b4 => ⟨true, rfl, ?_⟩⟩
        exact ⟨⟨_, _, rfl⟩, fun b o e n => b4 _ _ (s3 b o e n) (free b o e n), hD4, tabs_but t3 hD3 b4⟩
      · rintro σ H3 ⟨⟨a, c, rfl⟩, s3, hD3, t3⟩
        exact ⟨⟨_, _, _, rfl⟩, s3, t3⟩
    rintro σ H1 ⟨⟨a, b, c, rfl⟩, _, t1⟩
    refine ⟨rfl, aa, 3, by rw [aa_is] <;> rfl, by decide, by decide, let_aa, t1, 3, exAll_most (Nat.le_of_eq d_r3.len), by decide, fun o3 H4 n3 gr3 bx3 => ?_⟩
    obtain ⟨x3, r3, i3, _⟩ := id bx3
    refine ⟨o3, x3, _, rfl, i3, bfl_noP, _, _, rfl, rfl, ⟨by decide, by decide, by decide⟩, rfl, rfl, o3, aa, aa, tR3, 3, 2, 100000000000, ?_, bx3, let_aa, d_r3.tab, by decide, by decide, by decide, by decide, by decide, by decide, fun c hc => hc, fun H5 s5 => ⟨rfl, ?_⟩⟩
    · rw [aa_is]
      show [V.ref o3, V.str (tx aa), V.int 2, V.int ((10 : Int) ^ (11 : Int).toNat)] = [V.ref o3, V.str (tx aa), V.int 2, V.int 100000000000]
      rw [show (10 : Int) ^ (11 : Int).toNat = 100000000000 by decide]
    · rw [show (100000000000 : Int).toNat = 100000000000 by decide, far_r3]
      exact q _
end
end RM
set_option Elab.async false
set_option linter.all false
set_option maxRecDepth 100000
set_option maxHeartbeats 4000000
namespace RM
open PySem L2 PyProof.Rows WK
abbrev plFd (D : Addr) (doc pm : Value) (an : Option Addr) (cdv ct : Value) : FuncData := PySem.W.fnOf "place" "Box.place" (defArgs sBPlace) (defBody sBPlace) (defScope sBPlace) .none (.ref D) doc pm an cdv ct
theorem plA (D : Addr) (doc pm : Value) (an : Option Addr) (cdv ct : Value) (a b c k : Value) : bindArgs (plFd D doc pm an cdv ct) ⟨[a, b, c], [(("times" : Str), k)]⟩ = pure [(("self" : Str), a), ("word", b), ("start", c), ("times", k)] := rfl
theorem plB (D : Addr) (doc pm : Value) (an : Option Addr) (cdv ct : Value) (a b c k : Value) : KwChain D [(("times" : Str), k)] (bindArgs (plFd D doc pm an cdv ct) ⟨[a, b, c], []⟩) [(("self" : Str), a), ("word", b), ("start", c), ("times", k)] := by
  rw [KwChain]
  exact ⟨_, _, _, _, _, _, rfl, rfl, rfl⟩
theorem place_kbn {K : PySem.W.Frag} {D : Addr} {doc pm : Value} {an : Option Addr} {cdv ct : Value} : KBn K (plFd D doc pm an cdv ct) ["self", "word", "start", "times"] 3 ["times"] (fun us ws => us ++ ws) (fun vs zs => vs ++ zs) := by
  refine ⟨fun s us ws hin l1 l2 => ?_, fun r1 r2 => r1.append r2⟩
  match us, ws, l1, l2 with
  | [a, b, c], [k], _, _ =>
    intro M A E Q q
    show wpAny M A (bindArgs (plFd D doc pm an cdv ct) ⟨[a, b, c], [(("times" : Str), k)]⟩) Q E s
    rw [plA]
    exact wpAny_pure q
theorem place_binds {K : PySem.W.Frag} {f : Addr} {fd : FuncData} (F : FunD K "place" "Box.place" (defArgs sBPlace) (defBody sBPlace) (defScope sBPlace) [] [("times", .int 1)] f fd) : ∃ ds, Vals [V.int 1] ds ∧ L2.Binds K fd ["self", "word", "start", "times"] ds := by
  refine F.binds0 (ps := ["self", "word", "start", "times"]) 3 (fun z => nomatch z) rfl fun D doc pm an cdv ct us ks l1 l2 => ?_
  match us, ks, l1, l2 with
  | [a, b, c], [k], _, _ => exact plB D doc pm an cdv ct a b c k
theorem place_one {K : PySem.W.Frag} {f : Addr} {fd : FuncData} (F : FunD K "place" "Box.place" (defArgs sBPlace) (defBody sBPlace) (defScope sBPlace) [] [("times", .int 1)] f fd) : ∃ v1, RelV (.int 1) v1 ∧ L2.Binds K fd ["self", "word", "start", "times"] [v1] := by
  obtain ⟨ds, r, b⟩ := place_binds F
  obtain ⟨v1, rfl, r1⟩ := r.one
  exact ⟨v1, r1, b⟩
end RM
set_option Elab.async false
set_option linter.all false
set_option maxRecDepth 100000
set_option maxHeartbeats 8000000
namespace RM
open PySem L2 PyProof.Rows LCX K1 FV DP LamX WK
open TX (sg sigs)
open PySem.W (Frag kitOne)
abbrev sTMI : Stmt := inClass (top 8) 0
theorem scTMI : FnScope ["self", "limit"] ["self", "limit"] (defScope sTMI) := ⟨rfl, rfl, rfl, by decide +kernel, rfl, by decide +kernel, by decide +kernel⟩
theorem ok_tmi {P : Program} {w : World} {K : Frag} {mg : Str → Option Value} {base : Heap} {cT f : Addr} {fd : FuncData} (F : Fun K "__init__" "TooMany.__init__" sTMI f fd) (T : WE.ErrT K cT) (M : WE.ErrI K cT f [.type "OverflowError", .type "ArithmeticError", .type "Exception", .type "BaseException", .type "object"] "OverflowError.__new__" "limit") : FnOk P w K mg base CX0 1 f fd ["self", "limit"] (WE.spErrI cT "limit") := by
  refine F.ok scTMI (fun vs H Q E h => ?_) (fun cdv A outer s H vs Q E hr h => ?_)
  · obtain ⟨a, v, rfl, _⟩ := h
    rfl
  · obtain ⟨a, v, rfl, ha, q⟩ := h
    refine ⟨_, pss_one (WE.ps_setE PySem.F.store_OverflowError T M (pv 0) (pv 1)), ?_⟩
    exact ⟨_, rfl, _, rfl, a, rfl, ha, fun dx hd hne => q dx hd hne⟩
theorem binds_one {K : Frag} {f T : Addr} {e : Value} {j : Option Addr} {u : Value} {m : Nat} {wv : Array (Option Value)} (lt : K.lookup T = some ⟨e, j, .seq #[u] m, wv⟩) {fd : FuncData} {a b c d : Str} (hd : fd.defaults = .ref T)
    (hb : ∀ x1 x2 x3 x4 : Value, ∃ k, bindArgs fd ⟨[x1, x2, x3, x4], []⟩ = seqItems? fd.defaults >>= k ∧ k (some #[u]) = pure [(a, x1), (b, x2), (c, x3), (d, x4)]) : L2.Binds K fd [a, b, c, d] [] := fun s us hin hl => by
  match us, hl with
  | [x1, x2, x3, x4], _ =>
    obtain ⟨k, h1, h2⟩ := hb x1 x2 x3 x4
    exact PySem.W.binds_K hin hd lt rfl h1 h2
theorem binds_dfl {K : Frag} {f T : Addr} {e : Value} {j : Option Addr} {u : Value} {m : Nat} {wv : Array (Option Value)} (lt : K.lookup T = some ⟨e, j, .seq #[u] m, wv⟩) {fd : FuncData} {a b c d : Str} (hd : fd.defaults = .ref T)
    (hb : ∀ x1 x2 x3 : Value, ∃ k, bindArgs fd ⟨[x1, x2, x3], []⟩ = seqItems? fd.defaults >>= k ∧ k (some #[u]) = pure [(a, x1), (b, x2), (c, x3), (d, u)]) : L2.Binds K fd [a, b, c, d] [u] := fun s us hin hl => by
  have three : us.length = 3 := by
    rw [List.length_append] at hl
    exact Nat.succ.inj hl
  match us, three with
  | [x1, x2, x3], _ =>
    obtain ⟨k, h1, h2⟩ := hb x1 x2 x3
    exact PySem.W.binds_K hin hd lt rfl h1 h2
theorem all_mk {l : PySem.W.OpenLaw} {w : World} {K : Frag} {h : Heap} {mg : Str → Option Value} {C cD CM cT fa cN PN DK pR pt t5 t9 t47 f0 f1 f2 f3 f4 f5 f6 f7 f8 f9 f10 f11 f12 f13 f14 f15 f16 f17 f18 f19 f20 f21 f22 f23 f24 f25 f26 f27 f28 f29 f30 f31 f32 f33 f34 f35 f36 f37 f38 f39 f40 f41 f42 f43 f44 f45 f46 f47 f48 f49 f50 f51 f52 f53 f54 f55 f56 f57 f58 f59 f60 f61 f62 : Addr} (X : K.In h) (G : h.Ns mainGlobals mg) (hfa : mg "law" = some (.ref fa))
    {rR rt : List Value} {xkw xLM xMAX_MADE x_MAX_MODULUS xMAX_LETTERS xMAX_PLACES xMAX_STATES xMAX_TIMES : Tok} {e5 u5 e9 e47 u47 : Value} {j5 j9 j47 : Option Addr} {m5 m9 m47 : Nat} {w5 w9 w47 : Array (Option Value)} {od0 an0 od1 an1 od2 an2 od3 an3 od4 an4 od5 an5 od6 an6 od7 an7 od8 an8 od9 an9 od10 an10 od11 an11 od12 an12 od13 an13 od14 an14 od15 an15 od16 an16 od17 an17 od18 an18 od19 an19 od20 an20 od21 an21 od22 an22 od23 an23 od24 an24 od25 an25 od26 an26 od27 an27 od28 an28 od29 an29 od30 an30 od31 an31 od32 an32 od33 an33 od34 an34 od35 an35 od36 an36 od37 an37 od38 an38 od39 an39 od40 an40 od41 an41 od42 an42 od43 an43 od44 an44 od45 an45 od46 an46 od47 an47 od48 an48 od49 an49 od50 an50 od51 an51 od52 an52 od53 an53 od54 an54 od55 an55 od56 an56 od57 an57 od58 an58 od59 an59 od60 an60 od61 an61 od62 an62 : Option Addr} {sl0 sl1 sl2 sl3 sl4 sl5 sl6 sl7 sl8 sl9 sl10 sl11 sl12 sl13 sl14 sl15 sl16 sl17 sl18 sl19 sl20 sl21 sl22 sl23 sl24 sl25 sl26 sl27 sl28 sl29 sl30 sl31 sl32 sl33 sl34 sl35 sl36 sl37 sl38 sl39 sl40 sl41 sl42 sl43 sl44 sl45 sl46 sl47 sl48 sl49 sl50 sl51 sl52 sl53 sl54 sl55 sl56 sl57 sl58 sl59 sl60 sl61 sl62 : Array (Option Value)} {oc0 dc0 pm0 ct0 kV0 cd0 oc1 dc1 pm1 ct1 kV1 cd1 oc2 dc2 pm2 ct2 kV2 cd2 oc3 dc3 pm3 ct3 kV3 cd3 oc4 dc4 pm4 ct4 kV4 cd4 oc5 dc5 pm5 ct5 kV5 cd5 oc6 dc6 pm6 ct6 kV6 cd6 oc7 dc7 pm7 ct7 kV7 cd7 oc8 dc8 pm8 ct8 kV8 cd8 oc9 dc9 pm9 ct9 kV9 cd9 oc10 dc10 pm10 ct10 kV10 cd10 oc11 dc11 pm11 ct11 kV11 cd11 oc12 dc12 pm12 ct12 kV12 cd12 oc13 dc13 pm13 ct13 kV13 cd13 oc14 dc14 pm14 ct14 kV14 cd14 oc15 dc15 pm15 ct15 kV15 cd15 oc16 dc16 pm16 ct16 kV16 cd16 oc17 dc17 pm17 ct17 kV17 cd17 oc18 dc18 pm18 ct18 kV18 cd18 oc19 dc19 pm19 ct19 kV19 cd19 oc20 dc20 pm20 ct20 kV20 cd20 oc21 dc21 pm21 ct21 kV21 cd21 oc22 dc22 pm22 ct22 kV22 cd22 oc23 dc23 pm23 ct23 kV23 cd23 oc24 dc24 pm24 ct24 kV24 oc25 dc25 pm25 ct25 kV25 cd25 oc26 dc26 pm26 ct26 kV26 cd26 oc27 dc27 pm27 ct27 kV27 cd27 oc28 dc28 pm28 ct28 kV28 cd28 oc29 dc29 pm29 ct29 kV29 cd29 oc30 dc30 pm30 ct30 kV30 cd30 oc31 dc31 pm31 ct31 kV31 cd31 oc32 dc32 pm32 ct32 kV32 cd32 oc33 dc33 pm33 ct33 kV33 cd33 oc34 dc34 pm34 ct34 kV34 cd34 oc35 dc35 pm35 ct35 kV35 cd35 oc36 dc36 pm36 ct36 kV36 cd36 oc37 dc37 pm37 ct37 kV37 cd37 oc38 dc38 pm38 ct38 kV38 cd38 oc39 dc39 pm39 ct39 kV39 cd39 oc40 dc40 pm40 ct40 kV40 cd40 oc41 dc41 pm41 ct41 kV41 cd41 oc42 dc42 pm42 ct42 kV42 cd42 oc43 dc43 pm43 ct43 kV43 cd43 oc44 dc44 pm44 ct44 kV44 cd44 oc45 dc45 pm45 ct45 kV45 cd45 oc46 dc46 pm46 ct46 kV46 cd46 oc47 dc47 pm47 ct47 kV47 cd47 oc48 dc48 pm48 ct48 kV48 cd48 oc49 dc49 pm49 ct49 kV49 cd49 oc50 dc50 pm50 ct50 kV50 cd50 oc51 dc51 pm51 ct51 kV51 cd51 oc52 dc52 pm52 ct52 cd52 oc53 dc53 pm53 ct53 kV53 cd53 oc54 dc54 pm54 ct54 kV54 cd54 oc55 dc55 pm55 ct55 kV55 cd55 oc56 dc56 pm56 ct56 kV56 cd56 oc57 dc57 pm57 ct57 kV57 cd57 oc58 dc58 pm58 ct58 kV58 cd58 oc59 dc59 pm59 ct59 kV59 cd59 oc60 dc60 pm60 ct60 kV60 cd60 oc61 dc61 pm61 ct61 kV61 cd61 oc62 dc62 pm62 ct62 kV62 cd62 : Value}
    (gb : PySem.W.nsIn K mainGlobals "Box" = some (some (.ref C)))
    (gd : PySem.W.nsIn K mainGlobals "Made" = some (some (.ref cD)))
    (gm : PySem.W.nsIn K mainGlobals "Machine" = some (some (.ref CM)))
    (gT : PySem.W.nsIn K mainGlobals "TooMany" = some (some (.ref cT)))
    (pgb : PySem.W.plainGet K C Str.empty = true)
    (hdb : PySem.W.hasDictIn K C = true)
    (pob : PySem.W.plainOver K C = true)
    (sab : PySem.W.findIn K (.ref C) "__setattr__" = some (some (.builtin "object.__setattr__")))
    (ccb : PySem.W.findIn K (.ref C) "__class__" = some (some (.builtin "object.__class__")))
    (obb : PySem.W.mroIn K C (.type "object") = some true)
    (mkb : PySem.W.makesIn K C = true)
    (kCb : PySem.W.keepIn K (.ref C) = true)
    (ib : PySem.W.findIn K (.ref C) "__init__" = some (some (.ref f46)))
    (nib : PySem.W.isFn K (.ref f46) = true)
    (pgd : PySem.W.plainGet K cD Str.empty = true)
    (hdd : PySem.W.hasDictIn K cD = true)
    (pod : PySem.W.plainOver K cD = true)
    (sad : PySem.W.findIn K (.ref cD) "__setattr__" = some (some (.builtin "object.__setattr__")))
    (ccd : PySem.W.findIn K (.ref cD) "__class__" = some (some (.builtin "object.__class__")))
    (obd : PySem.W.mroIn K cD (.type "object") = some true)
    (mkd : PySem.W.makesIn K cD = true)
    (kCd : PySem.W.keepIn K (.ref cD) = true)
    (id : PySem.W.findIn K (.ref cD) "__init__" = some (some (.ref f45)))
    (nid : PySem.W.isFn K (.ref f45) = true)
    (pgm : PySem.W.plainGet K CM Str.empty = true)
    (hdm : PySem.W.hasDictIn K CM = true)
    (pom : PySem.W.plainOver K CM = true)
    (sam : PySem.W.findIn K (.ref CM) "__setattr__" = some (some (.builtin "object.__setattr__")))
    (ccm : PySem.W.findIn K (.ref CM) "__class__" = some (some (.builtin "object.__class__")))
    (obm : PySem.W.mroIn K CM (.type "object") = some true)
    (mkm : PySem.W.makesIn K CM = true)
    (kCm : PySem.W.keepIn K (.ref CM) = true)
    (im : PySem.W.findIn K (.ref CM) "__init__" = some (some (.ref f47)))
    (nim : PySem.W.isFn K (.ref f47) = true)
    (cn : PySem.W.specialIn K (.builtin "object.__class__") "__get__" = some (some (.builtin "getset_descriptor.__get__")))
    (ct : PySem.W.takesIn K (.builtin "object.__class__") = some true)
    (nT : PySem.W.findIn K (.ref C) "_table" = some none)
    (nL : PySem.W.findIn K (.ref C) "_letters" = some none)
    (nR : PySem.W.findIn K (.ref cD) "rows" = some none)
    (nMT : PySem.W.findIn K (.ref CM) "_table" = some none)
    (nML : PySem.W.findIn K (.ref CM) "_letters" = some none)
    (nME : PySem.W.findIn K (.ref CM) "_ends" = some none)
    (rd : PySem.W.readsIn K C (.type "type") = true)
    (ga : PySem.W.specialIn K (.ref C) "__getattribute__" = some (some (.builtin "type.__getattribute__")))
    (cmR : PySem.W.findCls K (.ref C) (.type "type") "rests" = some (PySem.W.CFound.get (.builtin "classmethod.__get__") (.ref pR) .none (.ref C)))
    (crR : PySem.W.recIn K pR "classmethod" = some (.ref f49 :: rR))
    (cfR : PySem.W.fnIn K f49 = true)
    (pat : PySem.W.findIn K (.ref C) "table" = some (some (.ref pt)))
    (pg_t : PySem.W.specialIn K (.ref pt) "__get__" = some (some (.builtin "property.__get__")))
    (pt_t : PySem.W.takesIn K (.ref pt) = some true)
    (pr_t : PySem.W.recIn K pt "property" = some (.ref f50 :: rt))
    (a51 : PySem.W.findIn K (.ref C) "__call__" = some (some (.ref f51)))
    (n51 : PySem.W.isFn K (.ref f51) = true)
    (a52 : PySem.W.findIn K (.ref C) "place" = some (some (.ref f52)))
    (n52 : PySem.W.isFn K (.ref f52) = true)
    (a53 : PySem.W.findIn K (.ref C) "action" = some (some (.ref f53)))
    (n53 : PySem.W.isFn K (.ref f53) = true)
    (a54 : PySem.W.findIn K (.ref C) "first_word" = some (some (.ref f54)))
    (n54 : PySem.W.isFn K (.ref f54) = true)
    (a55 : PySem.W.findIn K (.ref C) "lean" = some (some (.ref f55)))
    (n55 : PySem.W.isFn K (.ref f55) = true)
    (a56 : PySem.W.findIn K (.ref C) "machine" = some (some (.ref f56)))
    (n56 : PySem.W.isFn K (.ref f56) = true)
    (a57 : PySem.W.findIn K (.ref C) "__len__" = some (some (.ref f57)))
    (n57 : PySem.W.isFn K (.ref f57) = true)
    (a58 : PySem.W.findIn K (.ref C) "__eq__" = some (some (.ref f58)))
    (n58 : PySem.W.isFn K (.ref f58) = true)
    (a59 : PySem.W.findIn K (.ref CM) "least" = some (some (.ref f59)))
    (n59 : PySem.W.isFn K (.ref f59) = true)
    (a60 : PySem.W.findIn K (.ref CM) "__contains__" = some (some (.ref f60)))
    (n60 : PySem.W.isFn K (.ref f60) = true)
    (a61 : PySem.W.findIn K (.ref CM) "__len__" = some (some (.ref f61)))
    (n61 : PySem.W.isFn K (.ref f61) = true)
    (a62 : PySem.W.findIn K (.ref CM) "__eq__" = some (some (.ref f62)))
    (n62 : PySem.W.isFn K (.ref f62) = true)
    (fiC : PySem.W.fnIn K f51 = true)
    (ne : PySem.W.findIn K (.ref C) "__ne__" = some (some (.builtin "object.__ne__")))
    (nem : PySem.W.findIn K (.ref CM) "__ne__" = some (some (.builtin "object.__ne__")))
    (ki : kitOne K (.ref C) (.ref C) = some true)
    (kim : kitOne K (.ref CM) (.ref CM) = some true)
    (kt : kitOne K (.type "tuple") (.ref cD) = some false)
    (eB : WE.errB K cT = true)
    (iT : PySem.W.findIn K (.ref cT) "__init__" = some (some (.ref f48)))
    (eI : WE.errI K cT f48 [.type "OverflowError", .type "ArithmeticError", .type "Exception", .type "BaseException", .type "object"] "OverflowError.__new__" "limit" = true)
    (tT : PySem.W.typeIn K (.ref cT) = some (.type "type"))
    (xT : PySem.W.exmOne K (.ref cT) (.ref cT) = some true)
    (d0 : PySem.W.nsIn K mainGlobals "led" = some (some (.ref f0)))
    (l0 : K.lookup f0 = some ⟨oc0, od0, .func (PySem.W.fnOf "led" "led" (defArgs sLed) (defBody sLed) (defScope sLed) .none kV0 dc0 pm0 an0 cd0 ct0), sl0⟩)
    (q0 : PySem.W.codeIn K cd0 "led" = true)
    (k0 : PySem.W.keepIn K (.ref f0) = true)
    (d1 : PySem.W.nsIn K mainGlobals "led_often" = some (some (.ref f1)))
    (l1 : K.lookup f1 = some ⟨oc1, od1, .func (PySem.W.fnOf "led_often" "led_often" (defArgs sOft) (defBody sOft) (defScope sOft) .none kV1 dc1 pm1 an1 cd1 ct1), sl1⟩)
    (q1 : PySem.W.codeIn K cd1 "led_often" = true)
    (k1 : PySem.W.keepIn K (.ref f1) = true)
    (d2 : PySem.W.nsIn K mainGlobals "ways" = some (some (.ref f2)))
    (l2 : K.lookup f2 = some ⟨oc2, od2, .func (PySem.W.fnOf "ways" "ways" (defArgs sWays) (defBody sWays) (defScope sWays) .none kV2 dc2 pm2 an2 cd2 ct2), sl2⟩)
    (q2 : PySem.W.codeIn K cd2 "ways" = true)
    (k2 : PySem.W.keepIn K (.ref f2) = true)
    (d3 : PySem.W.nsIn K mainGlobals "word_along" = some (some (.ref f3)))
    (l3 : K.lookup f3 = some ⟨oc3, od3, .func (PySem.W.fnOf "word_along" "word_along" (defArgs sAlong) (defBody sAlong) (defScope sAlong) .none kV3 dc3 pm3 an3 cd3 ct3), sl3⟩)
    (q3 : PySem.W.codeIn K cd3 "word_along" = true)
    (k3 : PySem.W.keepIn K (.ref f3) = true)
    (d4 : PySem.W.nsIn K mainGlobals "trimmed" = some (some (.ref f4)))
    (l4 : K.lookup f4 = some ⟨oc4, od4, .func (PySem.W.fnOf "trimmed" "trimmed" (defArgs sTrim) (defBody sTrim) (defScope sTrim) .none kV4 dc4 pm4 an4 cd4 ct4), sl4⟩)
    (q4 : PySem.W.codeIn K cd4 "trimmed" = true)
    (k4 : PySem.W.keepIn K (.ref f4) = true)
    (d5 : PySem.W.nsIn K mainGlobals "explored" = some (some (.ref f5)))
    (l5 : K.lookup f5 = some ⟨oc5, od5, .func (PySem.W.fnOf "explored" "explored" (defArgs sExpl) (defBody sExpl) (defScope sExpl) (.ref t5) kV5 dc5 pm5 an5 cd5 ct5), sl5⟩)
    (q5 : PySem.W.codeIn K cd5 "explored" = true)
    (k5 : PySem.W.keepIn K (.ref f5) = true)
    (d6 : PySem.W.nsIn K mainGlobals "numbered" = some (some (.ref f6)))
    (l6 : K.lookup f6 = some ⟨oc6, od6, .func (PySem.W.fnOf "numbered" "numbered" (defArgs sNumd) (defBody sNumd) (defScope sNumd) .none kV6 dc6 pm6 an6 cd6 ct6), sl6⟩)
    (q6 : PySem.W.codeIn K cd6 "numbered" = true)
    (k6 : PySem.W.keepIn K (.ref f6) = true)
    (d7 : PySem.W.nsIn K mainGlobals "refined" = some (some (.ref f7)))
    (l7 : K.lookup f7 = some ⟨oc7, od7, .func (PySem.W.fnOf "refined" "refined" (defArgs sRefd) (defBody sRefd) (defScope sRefd) .none kV7 dc7 pm7 an7 cd7 ct7), sl7⟩)
    (q7 : PySem.W.codeIn K cd7 "refined" = true)
    (k7 : PySem.W.keepIn K (.ref f7) = true)
    (d8 : PySem.W.nsIn K mainGlobals "least_parts" = some (some (.ref f8)))
    (l8 : K.lookup f8 = some ⟨oc8, od8, .func (PySem.W.fnOf "least_parts" "least_parts" (defArgs sLP) (defBody sLP) (defScope sLP) .none kV8 dc8 pm8 an8 cd8 ct8), sl8⟩)
    (q8 : PySem.W.codeIn K cd8 "least_parts" = true)
    (k8 : PySem.W.keepIn K (.ref f8) = true)
    (d9 : PySem.W.nsIn K mainGlobals "least_machine" = some (some (.ref f9)))
    (l9 : K.lookup f9 = some ⟨oc9, od9, .func (PySem.W.fnOf "least_machine" "least_machine" (defArgs sLM) (defBody sLM) (defScope sLM) (.ref t9) kV9 dc9 pm9 an9 cd9 ct9), sl9⟩)
    (q9 : PySem.W.codeIn K cd9 "least_machine" = true)
    (k9 : PySem.W.keepIn K (.ref f9) = true)
    (d10 : PySem.W.nsIn K mainGlobals "is_integer" = some (some (.ref f10)))
    (l10 : K.lookup f10 = some ⟨oc10, od10, .func (PySem.W.fnOf "is_integer" "is_integer" (defArgs sIsInt) (defBody sIsInt) (defScope sIsInt) .none kV10 dc10 pm10 an10 cd10 ct10), sl10⟩)
    (q10 : PySem.W.codeIn K cd10 "is_integer" = true)
    (k10 : PySem.W.keepIn K (.ref f10) = true)
    (d11 : PySem.W.nsIn K mainGlobals "is_number" = some (some (.ref f11)))
    (l11 : K.lookup f11 = some ⟨oc11, od11, .func (PySem.W.fnOf "is_number" "is_number" (defArgs sIsNum) (defBody sIsNum) (defScope sIsNum) .none kV11 dc11 pm11 an11 cd11 ct11), sl11⟩)
    (q11 : PySem.W.codeIn K cd11 "is_number" = true)
    (k11 : PySem.W.keepIn K (.ref f11) = true)
    (d12 : PySem.W.nsIn K mainGlobals "need_number" = some (some (.ref f12)))
    (l12 : K.lookup f12 = some ⟨oc12, od12, .func (PySem.W.fnOf "need_number" "need_number" (defArgs sNeedNum) (defBody sNeedNum) (defScope sNeedNum) .none kV12 dc12 pm12 an12 cd12 ct12), sl12⟩)
    (q12 : PySem.W.codeIn K cd12 "need_number" = true)
    (k12 : PySem.W.keepIn K (.ref f12) = true)
    (d13 : PySem.W.nsIn K mainGlobals "ascends" = some (some (.ref f13)))
    (l13 : K.lookup f13 = some ⟨oc13, od13, .func (PySem.W.fnOf "ascends" "ascends" (defArgs sAsc) (defBody sAsc) (defScope sAsc) .none kV13 dc13 pm13 an13 cd13 ct13), sl13⟩)
    (q13 : PySem.W.codeIn K cd13 "ascends" = true)
    (k13 : PySem.W.keepIn K (.ref f13) = true)
    (d14 : PySem.W.nsIn K mainGlobals "is_ascending" = some (some (.ref f14)))
    (l14 : K.lookup f14 = some ⟨oc14, od14, .func (PySem.W.fnOf "is_ascending" "is_ascending" (defArgs sIsAsc) (defBody sIsAsc) (defScope sIsAsc) .none kV14 dc14 pm14 an14 cd14 ct14), sl14⟩)
    (q14 : PySem.W.codeIn K cd14 "is_ascending" = true)
    (k14 : PySem.W.keepIn K (.ref f14) = true)
    (d15 : PySem.W.nsIn K mainGlobals "is_table" = some (some (.ref f15)))
    (l15 : K.lookup f15 = some ⟨oc15, od15, .func (PySem.W.fnOf "is_table" "is_table" (defArgs sIsTab) (defBody sIsTab) (defScope sIsTab) .none kV15 dc15 pm15 an15 cd15 ct15), sl15⟩)
    (q15 : PySem.W.codeIn K cd15 "is_table" = true)
    (k15 : PySem.W.keepIn K (.ref f15) = true)
    (d16 : PySem.W.nsIn K mainGlobals "_is_row" = some (some (.ref f16)))
    (l16 : K.lookup f16 = some ⟨oc16, od16, .func (PySem.W.fnOf "_is_row" "_is_row" (defArgs sIsRow) (defBody sIsRow) (defScope sIsRow) .none kV16 dc16 pm16 an16 cd16 ct16), sl16⟩)
    (q16 : PySem.W.codeIn K cd16 "_is_row" = true)
    (k16 : PySem.W.keepIn K (.ref f16) = true)
    (d17 : PySem.W.nsIn K mainGlobals "is_letters" = some (some (.ref f17)))
    (l17 : K.lookup f17 = some ⟨oc17, od17, .func (PySem.W.fnOf "is_letters" "is_letters" (defArgs sIsLet) (defBody sIsLet) (defScope sIsLet) .none kV17 dc17 pm17 an17 cd17 ct17), sl17⟩)
    (q17 : PySem.W.codeIn K cd17 "is_letters" = true)
    (k17 : PySem.W.keepIn K (.ref f17) = true)
    (d18 : PySem.W.nsIn K mainGlobals "is_word" = some (some (.ref f18)))
    (l18 : K.lookup f18 = some ⟨oc18, od18, .func (PySem.W.fnOf "is_word" "is_word" (defArgs sIsWord) (defBody sIsWord) (defScope sIsWord) .none kV18 dc18 pm18 an18 cd18 ct18), sl18⟩)
    (q18 : PySem.W.codeIn K cd18 "is_word" = true)
    (k18 : PySem.W.keepIn K (.ref f18) = true)
    (d19 : PySem.W.nsIn K mainGlobals "is_over" = some (some (.ref f19)))
    (l19 : K.lookup f19 = some ⟨oc19, od19, .func (PySem.W.fnOf "is_over" "is_over" (defArgs sIsOver) (defBody sIsOver) (defScope sIsOver) .none kV19 dc19 pm19 an19 cd19 ct19), sl19⟩)
    (q19 : PySem.W.codeIn K cd19 "is_over" = true)
    (k19 : PySem.W.keepIn K (.ref f19) = true)
    (d20 : PySem.W.nsIn K mainGlobals "need_letters" = some (some (.ref f20)))
    (l20 : K.lookup f20 = some ⟨oc20, od20, .func (PySem.W.fnOf "need_letters" "need_letters" (defArgs sNeedLet) (defBody sNeedLet) (defScope sNeedLet) .none kV20 dc20 pm20 an20 cd20 ct20), sl20⟩)
    (q20 : PySem.W.codeIn K cd20 "need_letters" = true)
    (k20 : PySem.W.keepIn K (.ref f20) = true)
    (d21 : PySem.W.nsIn K mainGlobals "need_word" = some (some (.ref f21)))
    (l21 : K.lookup f21 = some ⟨oc21, od21, .func (PySem.W.fnOf "need_word" "need_word" (defArgs sNeedWord) (defBody sNeedWord) (defScope sNeedWord) .none kV21 dc21 pm21 an21 cd21 ct21), sl21⟩)
    (q21 : PySem.W.codeIn K cd21 "need_word" = true)
    (k21 : PySem.W.keepIn K (.ref f21) = true)
    (d22 : PySem.W.nsIn K mainGlobals "need_over" = some (some (.ref f22)))
    (l22 : K.lookup f22 = some ⟨oc22, od22, .func (PySem.W.fnOf "need_over" "need_over" (defArgs sNeedOver) (defBody sNeedOver) (defScope sNeedOver) .none kV22 dc22 pm22 an22 cd22 ct22), sl22⟩)
    (q22 : PySem.W.codeIn K cd22 "need_over" = true)
    (k22 : PySem.W.keepIn K (.ref f22) = true)
    (d23 : PySem.W.nsIn K mainGlobals "_grown" = some (some (.ref f23)))
    (l23 : K.lookup f23 = some ⟨oc23, od23, .func (PySem.W.fnOf "_grown" "_grown" (defArgs sGrown) (defBody sGrown) (defScope sGrown) .none kV23 dc23 pm23 an23 cd23 ct23), sl23⟩)
    (q23 : PySem.W.codeIn K cd23 "_grown" = true)
    (k23 : PySem.W.keepIn K (.ref f23) = true)
    (d24 : PySem.W.nsIn K mainGlobals "_counting" = some (some (.ref f24)))
    (l24 : K.lookup f24 = some ⟨oc24, od24, .func (PySem.W.fnOf "_counting" "_counting" (defArgs sCount) (defBody sCount) (defScope sCount) .none kV24 dc24 pm24 an24 (.ref cN) ct24), sl24⟩)
    (q24 : PySem.W.codeIn K (.ref cN) "_counting" = true)
    (k24 : PySem.W.keepIn K (.ref f24) = true)
    (d25 : PySem.W.nsIn K mainGlobals "_one_more" = some (some (.ref f25)))
    (l25 : K.lookup f25 = some ⟨oc25, od25, .func (PySem.W.fnOf "_one_more" "_one_more" (defArgs sOneM) (defBody sOneM) (defScope sOneM) .none kV25 dc25 pm25 an25 cd25 ct25), sl25⟩)
    (q25 : PySem.W.codeIn K cd25 "_one_more" = true)
    (k25 : PySem.W.keepIn K (.ref f25) = true)
    (d26 : PySem.W.nsIn K mainGlobals "_law_dice" = some (some (.ref f26)))
    (l26 : K.lookup f26 = some ⟨oc26, od26, .func (PySem.W.fnOf "_law_dice" "_law_dice" (defArgs sDice) (defBody sDice) (defScope sDice) .none kV26 dc26 pm26 an26 cd26 ct26), sl26⟩)
    (q26 : PySem.W.codeIn K cd26 "_law_dice" = true)
    (k26 : PySem.W.keepIn K (.ref f26) = true)
    (d27 : PySem.W.nsIn K mainGlobals "_law_roll" = some (some (.ref f27)))
    (l27 : K.lookup f27 = some ⟨oc27, od27, .func (PySem.W.fnOf "_law_roll" "_law_roll" (defArgs sRoll) (defBody sRoll) (defScope sRoll) .none kV27 dc27 pm27 an27 cd27 ct27), sl27⟩)
    (q27 : PySem.W.codeIn K cd27 "_law_roll" = true)
    (k27 : PySem.W.keepIn K (.ref f27) = true)
    (d28 : PySem.W.nsIn K mainGlobals "_law_one_of" = some (some (.ref f28)))
    (l28 : K.lookup f28 = some ⟨oc28, od28, .func (PySem.W.fnOf "_law_one_of" "_law_one_of" (defArgs sOne) (defBody sOne) (defScope sOne) .none kV28 dc28 pm28 an28 cd28 ct28), sl28⟩)
    (q28 : PySem.W.codeIn K cd28 "_law_one_of" = true)
    (k28 : PySem.W.keepIn K (.ref f28) = true)
    (d29 : PySem.W.nsIn K mainGlobals "_law_mixed" = some (some (.ref f29)))
    (l29 : K.lookup f29 = some ⟨oc29, od29, .func (PySem.W.fnOf "_law_mixed" "_law_mixed" (defArgs sMixed) (defBody sMixed) (defScope sMixed) .none kV29 dc29 pm29 an29 cd29 ct29), sl29⟩)
    (q29 : PySem.W.codeIn K cd29 "_law_mixed" = true)
    (k29 : PySem.W.keepIn K (.ref f29) = true)
    (d30 : PySem.W.nsIn K mainGlobals "_law_letters" = some (some (.ref f30)))
    (l30 : K.lookup f30 = some ⟨oc30, od30, .func (PySem.W.fnOf "_law_letters" "_law_letters" (defArgs sLetters) (defBody sLetters) (defScope sLetters) .none kV30 dc30 pm30 an30 cd30 ct30), sl30⟩)
    (q30 : PySem.W.codeIn K cd30 "_law_letters" = true)
    (k30 : PySem.W.keepIn K (.ref f30) = true)
    (d31 : PySem.W.nsIn K mainGlobals "_law_word" = some (some (.ref f31)))
    (l31 : K.lookup f31 = some ⟨oc31, od31, .func (PySem.W.fnOf "_law_word" "_law_word" (defArgs sWord) (defBody sWord) (defScope sWord) .none kV31 dc31 pm31 an31 cd31 ct31), sl31⟩)
    (q31 : PySem.W.codeIn K cd31 "_law_word" = true)
    (k31 : PySem.W.keepIn K (.ref f31) = true)
    (d32 : PySem.W.nsIn K mainGlobals "_law_action" = some (some (.ref f32)))
    (l32 : K.lookup f32 = some ⟨oc32, od32, .func (PySem.W.fnOf "_law_action" "_law_action" (defArgs sAct) (defBody sAct) (defScope sAct) .none kV32 dc32 pm32 an32 cd32 ct32), sl32⟩)
    (q32 : PySem.W.codeIn K cd32 "_law_action" = true)
    (k32 : PySem.W.keepIn K (.ref f32) = true)
    (d33 : PySem.W.nsIn K mainGlobals "_law_table" = some (some (.ref f33)))
    (l33 : K.lookup f33 = some ⟨oc33, od33, .func (PySem.W.fnOf "_law_table" "_law_table" (defArgs sLTab) (defBody sLTab) (defScope sLTab) .none kV33 dc33 pm33 an33 cd33 ct33), sl33⟩)
    (q33 : PySem.W.codeIn K cd33 "_law_table" = true)
    (k33 : PySem.W.keepIn K (.ref f33) = true)
    (d34 : PySem.W.nsIn K mainGlobals "_law_led" = some (some (.ref f34)))
    (l34 : K.lookup f34 = some ⟨oc34, od34, .func (PySem.W.fnOf "_law_led" "_law_led" (defArgs sLLed) (defBody sLLed) (defScope sLLed) .none kV34 dc34 pm34 an34 cd34 ct34), sl34⟩)
    (q34 : PySem.W.codeIn K cd34 "_law_led" = true)
    (k34 : PySem.W.keepIn K (.ref f34) = true)
    (d35 : PySem.W.nsIn K mainGlobals "_law_firsts" = some (some (.ref f35)))
    (l35 : K.lookup f35 = some ⟨oc35, od35, .func (PySem.W.fnOf "_law_firsts" "_law_firsts" (defArgs sLFirsts) (defBody sLFirsts) (defScope sLFirsts) .none kV35 dc35 pm35 an35 cd35 ct35), sl35⟩)
    (q35 : PySem.W.codeIn K cd35 "_law_firsts" = true)
    (k35 : PySem.W.keepIn K (.ref f35) = true)
    (d36 : PySem.W.nsIn K mainGlobals "_law_action_of" = some (some (.ref f36)))
    (l36 : K.lookup f36 = some ⟨oc36, od36, .func (PySem.W.fnOf "_law_action_of" "_law_action_of" (defArgs sLActOf) (defBody sLActOf) (defScope sLActOf) .none kV36 dc36 pm36 an36 cd36 ct36), sl36⟩)
    (q36 : PySem.W.codeIn K cd36 "_law_action_of" = true)
    (k36 : PySem.W.keepIn K (.ref f36) = true)
    (d37 : PySem.W.nsIn K mainGlobals "_law_box" = some (some (.ref f37)))
    (l37 : K.lookup f37 = some ⟨oc37, od37, .func (PySem.W.fnOf "_law_box" "_law_box" (defArgs sLBox) (defBody sLBox) (defScope sLBox) .none kV37 dc37 pm37 an37 cd37 ct37), sl37⟩)
    (q37 : PySem.W.codeIn K cd37 "_law_box" = true)
    (k37 : PySem.W.keepIn K (.ref f37) = true)
    (d38 : PySem.W.nsIn K mainGlobals "_law_made_box" = some (some (.ref f38)))
    (l38 : K.lookup f38 = some ⟨oc38, od38, .func (PySem.W.fnOf "_law_made_box" "_law_made_box" (defArgs sMBox) (defBody sMBox) (defScope sMBox) .none kV38 dc38 pm38 an38 cd38 ct38), sl38⟩)
    (q38 : PySem.W.codeIn K cd38 "_law_made_box" = true)
    (k38 : PySem.W.keepIn K (.ref f38) = true)
    (d39 : PySem.W.nsIn K mainGlobals "_law_all_words" = some (some (.ref f39)))
    (l39 : K.lookup f39 = some ⟨oc39, od39, .func (PySem.W.fnOf "_law_all_words" "_law_all_words" (defArgs sLAll) (defBody sLAll) (defScope sLAll) .none kV39 dc39 pm39 an39 cd39 ct39), sl39⟩)
    (q39 : PySem.W.codeIn K cd39 "_law_all_words" = true)
    (k39 : PySem.W.keepIn K (.ref f39) = true)
    (d40 : PySem.W.nsIn K mainGlobals "_law_far" = some (some (.ref f40)))
    (l40 : K.lookup f40 = some ⟨oc40, od40, .func (PySem.W.fnOf "_law_far" "_law_far" (defArgs sLFar) (defBody sLFar) (defScope sLFar) .none kV40 dc40 pm40 an40 cd40 ct40), sl40⟩)
    (q40 : PySem.W.codeIn K cd40 "_law_far" = true)
    (k40 : PySem.W.keepIn K (.ref f40) = true)
    (d41 : PySem.W.nsIn K mainGlobals "_law_lean" = some (some (.ref f41)))
    (l41 : K.lookup f41 = some ⟨oc41, od41, .func (PySem.W.fnOf "_law_lean" "_law_lean" (defArgs sLLean) (defBody sLLean) (defScope sLLean) .none kV41 dc41 pm41 an41 cd41 ct41), sl41⟩)
    (q41 : PySem.W.codeIn K cd41 "_law_lean" = true)
    (k41 : PySem.W.keepIn K (.ref f41) = true)
    (d42 : PySem.W.nsIn K mainGlobals "_law_machine_of" = some (some (.ref f42)))
    (l42 : K.lookup f42 = some ⟨oc42, od42, .func (PySem.W.fnOf "_law_machine_of" "_law_machine_of" (defArgs sLMach) (defBody sLMach) (defScope sLMach) .none kV42 dc42 pm42 an42 cd42 ct42), sl42⟩)
    (q42 : PySem.W.codeIn K cd42 "_law_machine_of" = true)
    (k42 : PySem.W.keepIn K (.ref f42) = true)
    (d43 : PySem.W.nsIn K mainGlobals "_law_right" = some (some (.ref f43)))
    (l43 : K.lookup f43 = some ⟨oc43, od43, .func (PySem.W.fnOf "_law_right" "_law_right" (defArgs sR7) (defBody sR7) (defScope sR7) .none kV43 dc43 pm43 an43 cd43 ct43), sl43⟩)
    (q43 : PySem.W.codeIn K cd43 "_law_right" = true)
    (k43 : PySem.W.keepIn K (.ref f43) = true)
    (d44 : PySem.W.nsIn K mainGlobals "law" = some (some (.ref f44)))
    (l44 : K.lookup f44 = some ⟨oc44, od44, .func (PySem.W.fnOf "law" "law" (defArgs sLawB) (defBody sLawB) (defScope sLawB) .none kV44 dc44 pm44 an44 cd44 ct44), sl44⟩)
    (q44 : PySem.W.codeIn K cd44 "law" = true)
    (k44 : PySem.W.keepIn K (.ref f44) = true)
    (l45 : K.lookup f45 = some ⟨oc45, od45, .func (PySem.W.fnOf "__init__" "Made.__init__" (defArgs sMadeI) (defBody sMadeI) (defScope sMadeI) .none kV45 dc45 pm45 an45 cd45 ct45), sl45⟩)
    (q45 : PySem.W.codeIn K cd45 "Made.__init__" = true)
    (k45 : PySem.W.keepIn K (.ref f45) = true)
    (l46 : K.lookup f46 = some ⟨oc46, od46, .func (PySem.W.fnOf "__init__" "Box.__init__" (defArgs sBoxI) (defBody sBoxI) (defScope sBoxI) .none kV46 dc46 pm46 an46 cd46 ct46), sl46⟩)
    (q46 : PySem.W.codeIn K cd46 "Box.__init__" = true)
    (k46 : PySem.W.keepIn K (.ref f46) = true)
    (l47 : K.lookup f47 = some ⟨oc47, od47, .func (PySem.W.fnOf "__init__" "Machine.__init__" (defArgs sMInit) (defBody sMInit) (defScope sMInit) (.ref t47) kV47 dc47 pm47 an47 cd47 ct47), sl47⟩)
    (q47 : PySem.W.codeIn K cd47 "Machine.__init__" = true)
    (k47 : PySem.W.keepIn K (.ref f47) = true)
    (l48 : K.lookup f48 = some ⟨oc48, od48, .func (PySem.W.fnOf "__init__" "TooMany.__init__" (defArgs sTMI) (defBody sTMI) (defScope sTMI) .none kV48 dc48 pm48 an48 cd48 ct48), sl48⟩)
    (q48 : PySem.W.codeIn K cd48 "TooMany.__init__" = true)
    (k48 : PySem.W.keepIn K (.ref f48) = true)
    (l49 : K.lookup f49 = some ⟨oc49, od49, .func (PySem.W.fnOf "rests" "Box.rests" (defArgs sRests) (defBody sRests) (defScope sRests) .none kV49 dc49 pm49 an49 cd49 ct49), sl49⟩)
    (q49 : PySem.W.codeIn K cd49 "Box.rests" = true)
    (k49 : PySem.W.keepIn K (.ref f49) = true)
    (l50 : K.lookup f50 = some ⟨oc50, od50, .func (PySem.W.fnOf "table" "Box.table" (defArgs sBTab) (defBody sBTab) (defScope sBTab) .none kV50 dc50 pm50 an50 cd50 ct50), sl50⟩)
    (q50 : PySem.W.codeIn K cd50 "Box.table" = true)
    (k50 : PySem.W.keepIn K (.ref f50) = true)
    (l51 : K.lookup f51 = some ⟨oc51, od51, .func (PySem.W.fnOf "__call__" "Box.__call__" (defArgs sBCall) (defBody sBCall) (defScope sBCall) .none kV51 dc51 pm51 an51 cd51 ct51), sl51⟩)
    (q51 : PySem.W.codeIn K cd51 "Box.__call__" = true)
    (k51 : PySem.W.keepIn K (.ref f51) = true)
    (l52 : K.lookup f52 = some ⟨oc52, od52, .func (PySem.W.fnOf "place" "Box.place" (defArgs sBPlace) (defBody sBPlace) (defScope sBPlace) .none (.ref DK) dc52 pm52 an52 cd52 ct52), sl52⟩)
    (q52 : PySem.W.codeIn K cd52 "Box.place" = true)
    (k52 : PySem.W.keepIn K (.ref f52) = true)
    (l53 : K.lookup f53 = some ⟨oc53, od53, .func (PySem.W.fnOf "action" "Box.action" (defArgs sBAct) (defBody sBAct) (defScope sBAct) .none kV53 dc53 pm53 an53 cd53 ct53), sl53⟩)
    (q53 : PySem.W.codeIn K cd53 "Box.action" = true)
    (k53 : PySem.W.keepIn K (.ref f53) = true)
    (l54 : K.lookup f54 = some ⟨oc54, od54, .func (PySem.W.fnOf "first_word" "Box.first_word" (defArgs sBFirst) (defBody sBFirst) (defScope sBFirst) .none kV54 dc54 pm54 an54 cd54 ct54), sl54⟩)
    (q54 : PySem.W.codeIn K cd54 "Box.first_word" = true)
    (k54 : PySem.W.keepIn K (.ref f54) = true)
    (l55 : K.lookup f55 = some ⟨oc55, od55, .func (PySem.W.fnOf "lean" "Box.lean" (defArgs sBLean) (defBody sBLean) (defScope sBLean) .none kV55 dc55 pm55 an55 cd55 ct55), sl55⟩)
    (q55 : PySem.W.codeIn K cd55 "Box.lean" = true)
    (k55 : PySem.W.keepIn K (.ref f55) = true)
    (l56 : K.lookup f56 = some ⟨oc56, od56, .func (PySem.W.fnOf "machine" "Box.machine" (defArgs sBMach) (defBody sBMach) (defScope sBMach) .none kV56 dc56 pm56 an56 cd56 ct56), sl56⟩)
    (q56 : PySem.W.codeIn K cd56 "Box.machine" = true)
    (k56 : PySem.W.keepIn K (.ref f56) = true)
    (l57 : K.lookup f57 = some ⟨oc57, od57, .func (PySem.W.fnOf "__len__" "Box.__len__" (defArgs sBLen) (defBody sBLen) (defScope sBLen) .none kV57 dc57 pm57 an57 cd57 ct57), sl57⟩)
    (q57 : PySem.W.codeIn K cd57 "Box.__len__" = true)
    (k57 : PySem.W.keepIn K (.ref f57) = true)
    (l58 : K.lookup f58 = some ⟨oc58, od58, .func (PySem.W.fnOf "__eq__" "Box.__eq__" (defArgs sBEq) (defBody sBEq) (defScope sBEq) .none kV58 dc58 pm58 an58 cd58 ct58), sl58⟩)
    (q58 : PySem.W.codeIn K cd58 "Box.__eq__" = true)
    (k58 : PySem.W.keepIn K (.ref f58) = true)
    (l59 : K.lookup f59 = some ⟨oc59, od59, .func (PySem.W.fnOf "least" "Machine.least" (defArgs sMLeast) (defBody sMLeast) (defScope sMLeast) .none kV59 dc59 pm59 an59 cd59 ct59), sl59⟩)
    (q59 : PySem.W.codeIn K cd59 "Machine.least" = true)
    (k59 : PySem.W.keepIn K (.ref f59) = true)
    (l60 : K.lookup f60 = some ⟨oc60, od60, .func (PySem.W.fnOf "__contains__" "Machine.__contains__" (defArgs sMHas) (defBody sMHas) (defScope sMHas) .none kV60 dc60 pm60 an60 cd60 ct60), sl60⟩)
    (q60 : PySem.W.codeIn K cd60 "Machine.__contains__" = true)
    (k60 : PySem.W.keepIn K (.ref f60) = true)
    (l61 : K.lookup f61 = some ⟨oc61, od61, .func (PySem.W.fnOf "__len__" "Machine.__len__" (defArgs sMLen) (defBody sMLen) (defScope sMLen) .none kV61 dc61 pm61 an61 cd61 ct61), sl61⟩)
    (q61 : PySem.W.codeIn K cd61 "Machine.__len__" = true)
    (k61 : PySem.W.keepIn K (.ref f61) = true)
    (l62 : K.lookup f62 = some ⟨oc62, od62, .func (PySem.W.fnOf "__eq__" "Machine.__eq__" (defArgs sMEq) (defBody sMEq) (defScope sMEq) .none kV62 dc62 pm62 an62 cd62 ct62), sl62⟩)
    (q62 : PySem.W.codeIn K cd62 "Machine.__eq__" = true)
    (k62 : PySem.W.keepIn K (.ref f62) = true)
    (kw : PySem.W.nsIn K DK "times" = some (some (.int 1 xkw)))
    (y5 : K.lookup t5 = some ⟨e5, j5, .seq #[u5] m5, w5⟩)
    (y9 : K.lookup t9 = some ⟨e9, j9, .seq #[Value.int 0 xLM] m9, w9⟩)
    (y47 : K.lookup t47 = some ⟨e47, j47, .seq #[u47] m47, w47⟩)
    (hPN : h.get? PN = some (PySem.W.tabObj #[]))
    (nPN : K.lookup PN = none)
    (hCN : PySem.W.codeHdIn K cN PN = true)
    (vMAX_MADE : PySem.W.nsIn K mainGlobals "MAX_MADE" = some (some (.int 400 xMAX_MADE)))
    (v_MAX_MODULUS : PySem.W.nsIn K mainGlobals "_MAX_MODULUS" = some (some (.int 12 x_MAX_MODULUS)))
    (vMAX_LETTERS : PySem.W.nsIn K mainGlobals "MAX_LETTERS" = some (some (.int 3 xMAX_LETTERS)))
    (vMAX_PLACES : PySem.W.nsIn K mainGlobals "MAX_PLACES" = some (some (.int 6 xMAX_PLACES)))
    (vMAX_STATES : PySem.W.nsIn K mainGlobals "MAX_STATES" = some (some (.int 4 xMAX_STATES)))
    (vMAX_TIMES : PySem.W.nsIn K mainGlobals "MAX_TIMES" = some (some (.int 100000000000 xMAX_TIMES)))
    (z_len : PySem.W.nsIn K mainGlobals "len" = some none)
    (z_int : PySem.W.nsIn K mainGlobals "int" = some none)
    (z_abs : PySem.W.nsIn K mainGlobals "abs" = some none)
    (z_isinstance : PySem.W.nsIn K mainGlobals "isinstance" = some none)
    (z_bool : PySem.W.nsIn K mainGlobals "bool" = some none)
    (z_str : PySem.W.nsIn K mainGlobals "str" = some none)
    (z_all : PySem.W.nsIn K mainGlobals "all" = some none)
    (z_range : PySem.W.nsIn K mainGlobals "range" = some none)
    (z_sorted : PySem.W.nsIn K mainGlobals "sorted" = some none)
    (z_set : PySem.W.nsIn K mainGlobals "set" = some none)
    (z_tuple : PySem.W.nsIn K mainGlobals "tuple" = some none)
    (z_list : PySem.W.nsIn K mainGlobals "list" = some none)
    (z_max : PySem.W.nsIn K mainGlobals "max" = some none)
    (z_min : PySem.W.nsIn K mainGlobals "min" = some none)
    (z_zip : PySem.W.nsIn K mainGlobals "zip" = some none)
    (z_enumerate : PySem.W.nsIn K mainGlobals "enumerate" = some none) :
    LamX.LawAtS l w K CX0 12 63 "_law_script" mg fa h := by
  have e := hfa.symm.trans (PySem.W.mg_of X G d44)
  cases e
  have T : TN mg := ⟨PySem.W.mg_none_of X G z_len, PySem.W.mg_none_of X G z_int, PySem.W.mg_none_of X G z_abs, PySem.W.mg_none_of X G z_isinstance, PySem.W.mg_none_of X G z_bool, PySem.W.mg_none_of X G z_str, PySem.W.mg_none_of X G z_all, PySem.W.mg_none_of X G z_range, PySem.W.mg_none_of X G z_sorted, PySem.W.mg_none_of X G z_set, PySem.W.mg_none_of X G z_tuple, PySem.W.mg_none_of X G z_list, PySem.W.mg_none_of X G z_max, PySem.W.mg_none_of X G z_min, PySem.W.mg_none_of X G z_zip, ⟨_, PySem.W.mg_of X G vMAX_LETTERS⟩⟩
  have en := PySem.W.mg_none_of X G z_enumerate
  have cl : Cls K C := ⟨pgb, hdb, pob, sab⟩
  have clD : Cls K cD := ⟨pgd, hdd, pod, sad⟩
  have clM : Cls K CM := ⟨pgm, hdm, pom, sam⟩
  have M : TBx K mg C cD := ⟨cl, nT, nL, clD, nR, PySem.W.mg_of X G gb, PySem.W.mg_of X G gd, fun e => .ins e cl ccb cn ct obb, fun e => .ins e clD ccd cn ct obd, ⟨_, PySem.W.mg_of X G vMAX_MADE⟩⟩
  have M7 : TMk K mg CM cD := ⟨clM, nMT, nML, nME, clD, nR, PySem.W.mg_of X G gm, PySem.W.mg_of X G gd, fun e => .ins e clD ccd cn ct obd⟩
  have Y : TBy K C := ⟨⟨ccb, cn, ct, obb⟩, ki⟩
  have YM : SlX.SIsi K CM := ⟨ccm, cn, ct, obm⟩
  have ET : WE.ErrT K cT := WE.ErrT.of eB
  have EI := WE.ErrI.of eI
  have gTM := PySem.W.mg_of X G gT
  have Pt : PropOf K C "table" pt f50 := ⟨pat, pg_t, pt_t, _, pr_t⟩
  have F0 := fun_mk (st := sLed) l0 q0 k0
  have b0 := F0.binds (ps := ["letters", "table", "word", "start"]) fun _ _ _ _ _ _ us hl => match us, hl with | [_, _, _, _], _ => rfl
  have A0 : Fn K mg "led" sLed ["letters", "table", "word", "start"] f0 _ := ⟨PySem.W.mg_of X G d0, F0, b0⟩
  have F1 := fun_mk (st := sOft) l1 q1 k1
  have b1 := F1.binds (ps := ["letters", "table", "word", "start", "times"]) fun _ _ _ _ _ _ us hl => match us, hl with | [_, _, _, _, _], _ => rfl
  have A1 : Fn K mg "led_often" sOft ["letters", "table", "word", "start", "times"] f1 _ := ⟨PySem.W.mg_of X G d1, F1, b1⟩
  have F2 := fun_mk (st := sWays) l2 q2 k2
  have b2 := F2.binds (ps := ["table", "start"]) fun _ _ _ _ _ _ us hl => match us, hl with | [_, _], _ => rfl
  have A2 : Fn K mg "ways" sWays ["table", "start"] f2 _ := ⟨PySem.W.mg_of X G d2, F2, b2⟩
  have F3 := fun_mk (st := sAlong) l3 q3 k3
  have b3 := F3.binds (ps := ["letters", "found", "row"]) fun _ _ _ _ _ _ us hl => match us, hl with | [_, _, _], _ => rfl
  have A3 : Fn K mg "word_along" sAlong ["letters", "found", "row"] f3 _ := ⟨PySem.W.mg_of X G d3, F3, b3⟩
  have F4 := fun_mk (st := sTrim) l4 q4 k4
  have b4 := F4.binds (ps := ["table", "start"]) fun _ _ _ _ _ _ us hl => match us, hl with | [_, _], _ => rfl
  have A4 : Fn K mg "trimmed" sTrim ["table", "start"] f4 _ := ⟨PySem.W.mg_of X G d4, F4, b4⟩
  have b5 := binds_one (fd := PySem.W.fnOf "explored" "explored" (defArgs sExpl) (defBody sExpl) (defScope sExpl) (.ref t5) kV5 dc5 pm5 an5 cd5 ct5) (f := f5) (a := "signs") (b := "start") (c := "step") (d := "most") y5 rfl (fun _ _ _ _ => ⟨_, rfl, rfl⟩)
  have g5 := PySem.W.mg_of X G d5
  have F6 := fun_mk (st := sNumd) l6 q6 k6
  have b6 := F6.binds (ps := ["keys"]) fun _ _ _ _ _ _ us hl => match us, hl with | [_], _ => rfl
  have A6 : Fn K mg "numbered" sNumd ["keys"] f6 _ := ⟨PySem.W.mg_of X G d6, F6, b6⟩
  have F7 := fun_mk (st := sRefd) l7 q7 k7
  have b7 := F7.binds (ps := ["table", "groups"]) fun _ _ _ _ _ _ us hl => match us, hl with | [_, _], _ => rfl
  have A7 : Fn K mg "refined" sRefd ["table", "groups"] f7 _ := ⟨PySem.W.mg_of X G d7, F7, b7⟩
  have F8 := fun_mk (st := sLP) l8 q8 k8
  have b8 := F8.binds (ps := ["table", "ends", "start"]) fun _ _ _ _ _ _ us hl => match us, hl with | [_, _, _], _ => rfl
  have A8 : Fn K mg "least_parts" sLP ["table", "ends", "start"] f8 _ := ⟨PySem.W.mg_of X G d8, F8, b8⟩
  have b9 := binds_one (fd := PySem.W.fnOf "least_machine" "least_machine" (defArgs sLM) (defBody sLM) (defScope sLM) (.ref t9) kV9 dc9 pm9 an9 cd9 ct9) (f := f9) (a := "letters") (b := "table") (c := "ends") (d := "start") y9 rfl (fun _ _ _ _ => ⟨_, rfl, rfl⟩)
  have bd9 := binds_dfl (fd := PySem.W.fnOf "least_machine" "least_machine" (defArgs sLM) (defBody sLM) (defScope sLM) (.ref t9) kV9 dc9 pm9 an9 cd9 ct9) (f := f9) (a := "letters") (b := "table") (c := "ends") (d := "start") y9 rfl (fun _ _ _ => ⟨_, rfl, rfl⟩)
  have g9 := PySem.W.mg_of X G d9
  have F10 := fun_mk (st := sIsInt) l10 q10 k10
  have b10 := F10.binds (ps := ["value"]) fun _ _ _ _ _ _ us hl => match us, hl with | [_], _ => rfl
  have A10 : Fn K mg "is_integer" sIsInt ["value"] f10 _ := ⟨PySem.W.mg_of X G d10, F10, b10⟩
  have F11 := fun_mk (st := sIsNum) l11 q11 k11
  have b11 := F11.binds (ps := ["value", "least", "most"]) fun _ _ _ _ _ _ us hl => match us, hl with | [_, _, _], _ => rfl
  have A11 : Fn K mg "is_number" sIsNum ["value", "least", "most"] f11 _ := ⟨PySem.W.mg_of X G d11, F11, b11⟩
  have F12 := fun_mk (st := sNeedNum) l12 q12 k12
  have b12 := F12.binds (ps := ["value", "least", "most"]) fun _ _ _ _ _ _ us hl => match us, hl with | [_, _, _], _ => rfl
  have A12 : Fn K mg "need_number" sNeedNum ["value", "least", "most"] f12 _ := ⟨PySem.W.mg_of X G d12, F12, b12⟩
  have F13 := fun_mk (st := sAsc) l13 q13 k13
  have b13 := F13.binds (ps := ["values"]) fun _ _ _ _ _ _ us hl => match us, hl with | [_], _ => rfl
  have A13 : Fn K mg "ascends" sAsc ["values"] f13 _ := ⟨PySem.W.mg_of X G d13, F13, b13⟩
  have F14 := fun_mk (st := sIsAsc) l14 q14 k14
  have b14 := F14.binds (ps := ["value", "many"]) fun _ _ _ _ _ _ us hl => match us, hl with | [_, _], _ => rfl
  have A14 : Fn K mg "is_ascending" sIsAsc ["value", "many"] f14 _ := ⟨PySem.W.mg_of X G d14, F14, b14⟩
  have F15 := fun_mk (st := sIsTab) l15 q15 k15
  have b15 := F15.binds (ps := ["value", "width", "most"]) fun _ _ _ _ _ _ us hl => match us, hl with | [_, _, _], _ => rfl
  have A15 : Fn K mg "is_table" sIsTab ["value", "width", "most"] f15 _ := ⟨PySem.W.mg_of X G d15, F15, b15⟩
  have F16 := fun_mk (st := sIsRow) l16 q16 k16
  have b16 := F16.binds (ps := ["value", "width", "many"]) fun _ _ _ _ _ _ us hl => match us, hl with | [_, _, _], _ => rfl
  have A16 : Fn K mg "_is_row" sIsRow ["value", "width", "many"] f16 _ := ⟨PySem.W.mg_of X G d16, F16, b16⟩
  have F17 := fun_mk (st := sIsLet) l17 q17 k17
  have b17 := F17.binds (ps := ["value"]) fun _ _ _ _ _ _ us hl => match us, hl with | [_], _ => rfl
  have A17 : Fn K mg "is_letters" sIsLet ["value"] f17 _ := ⟨PySem.W.mg_of X G d17, F17, b17⟩
  have F18 := fun_mk (st := sIsWord) l18 q18 k18
  have b18 := F18.binds (ps := ["value"]) fun _ _ _ _ _ _ us hl => match us, hl with | [_], _ => rfl
  have A18 : Fn K mg "is_word" sIsWord ["value"] f18 _ := ⟨PySem.W.mg_of X G d18, F18, b18⟩
  have F19 := fun_mk (st := sIsOver) l19 q19 k19
  have b19 := F19.binds (ps := ["letters", "word"]) fun _ _ _ _ _ _ us hl => match us, hl with | [_, _], _ => rfl
  have A19 : Fn K mg "is_over" sIsOver ["letters", "word"] f19 _ := ⟨PySem.W.mg_of X G d19, F19, b19⟩
  have F20 := fun_mk (st := sNeedLet) l20 q20 k20
  have b20 := F20.binds (ps := ["letters"]) fun _ _ _ _ _ _ us hl => match us, hl with | [_], _ => rfl
  have A20 : Fn K mg "need_letters" sNeedLet ["letters"] f20 _ := ⟨PySem.W.mg_of X G d20, F20, b20⟩
  have F21 := fun_mk (st := sNeedWord) l21 q21 k21
  have b21 := F21.binds (ps := ["word"]) fun _ _ _ _ _ _ us hl => match us, hl with | [_], _ => rfl
  have A21 : Fn K mg "need_word" sNeedWord ["word"] f21 _ := ⟨PySem.W.mg_of X G d21, F21, b21⟩
  have F22 := fun_mk (st := sNeedOver) l22 q22 k22
  have b22 := F22.binds (ps := ["letters", "word"]) fun _ _ _ _ _ _ us hl => match us, hl with | [_, _], _ => rfl
  have A22 : Fn K mg "need_over" sNeedOver ["letters", "word"] f22 _ := ⟨PySem.W.mg_of X G d22, F22, b22⟩
  have F23 := fun_mk (st := sGrown) l23 q23 k23
  have b23 := F23.binds (ps := ["letters", "start", "step"]) fun _ _ _ _ _ _ us hl => match us, hl with | [_, _, _], _ => rfl
  have A23 : Fn K mg "_grown" sGrown ["letters", "start", "step"] f23 _ := ⟨PySem.W.mg_of X G d23, F23, b23⟩
  have F24 := fun_mk (st := sCount) l24 q24 k24
  have b24 := F24.binds (ps := ["letters", "cap", "modulus"]) fun _ _ _ _ _ _ us hl => match us, hl with | [_, _, _], _ => rfl
  have A24 : Fn K mg "_counting" sCount ["letters", "cap", "modulus"] f24 _ := ⟨PySem.W.mg_of X G d24, F24, b24⟩
  have F25 := fun_mk (st := sOneM) l25 q25 k25
  have b25 := F25.binds (ps := ["number", "cap", "modulus"]) fun _ _ _ _ _ _ us hl => match us, hl with | [_, _, _], _ => rfl
  have A25 : Fn K mg "_one_more" sOneM ["number", "cap", "modulus"] f25 _ := ⟨PySem.W.mg_of X G d25, F25, b25⟩
  have F26 := fun_mk (st := sDice) l26 q26 k26
  have b26 := F26.binds (ps := ["_law_script", "_law_at"]) fun _ _ _ _ _ _ us hl => match us, hl with | [_, _], _ => rfl
  have A26 : Fn K mg "_law_dice" sDice ["_law_script", "_law_at"] f26 _ := ⟨PySem.W.mg_of X G d26, F26, b26⟩
  have F27 := fun_mk (st := sRoll) l27 q27 k27
  have b27 := F27.binds (ps := ["_law_dice_here", "_law_total"]) fun _ _ _ _ _ _ us hl => match us, hl with | [_, _], _ => rfl
  have A27 : Fn K mg "_law_roll" sRoll ["_law_dice_here", "_law_total"] f27 _ := ⟨PySem.W.mg_of X G d27, F27, b27⟩
  have F28 := fun_mk (st := sOne) l28 q28 k28
  have b28 := F28.binds (ps := ["_law_dice_here", "_law_items"]) fun _ _ _ _ _ _ us hl => match us, hl with | [_, _], _ => rfl
  have A28 : Fn K mg "_law_one_of" sOne ["_law_dice_here", "_law_items"] f28 _ := ⟨PySem.W.mg_of X G d28, F28, b28⟩
  have F29 := fun_mk (st := sMixed) l29 q29 k29
  have b29 := F29.binds (ps := ["_law_dice_here", "_law_items"]) fun _ _ _ _ _ _ us hl => match us, hl with | [_, _], _ => rfl
  have A29 : Fn K mg "_law_mixed" sMixed ["_law_dice_here", "_law_items"] f29 _ := ⟨PySem.W.mg_of X G d29, F29, b29⟩
  have F30 := fun_mk (st := sLetters) l30 q30 k30
  have b30 := F30.binds (ps := ["_law_dice_here", "_law_total"]) fun _ _ _ _ _ _ us hl => match us, hl with | [_, _], _ => rfl
  have A30 : Fn K mg "_law_letters" sLetters ["_law_dice_here", "_law_total"] f30 _ := ⟨PySem.W.mg_of X G d30, F30, b30⟩
  have F31 := fun_mk (st := sWord) l31 q31 k31
  have b31 := F31.binds (ps := ["_law_dice_here", "_law_letters_here", "_law_most"]) fun _ _ _ _ _ _ us hl => match us, hl with | [_, _, _], _ => rfl
  have A31 : Fn K mg "_law_word" sWord ["_law_dice_here", "_law_letters_here", "_law_most"] f31 _ := ⟨PySem.W.mg_of X G d31, F31, b31⟩
  have F32 := fun_mk (st := sAct) l32 q32 k32
  have b32 := F32.binds (ps := ["_law_dice_here", "_law_size", "_law_sort"]) fun _ _ _ _ _ _ us hl => match us, hl with | [_, _, _], _ => rfl
  have A32 : Fn K mg "_law_action" sAct ["_law_dice_here", "_law_size", "_law_sort"] f32 _ := ⟨PySem.W.mg_of X G d32, F32, b32⟩
  have F33 := fun_mk (st := sLTab) l33 q33 k33
  have b33 := F33.binds (ps := ["_law_dice_here", "_law_letters_here", "_law_size", "_law_sorts"]) fun _ _ _ _ _ _ us hl => match us, hl with | [_, _, _, _], _ => rfl
  have A33 : Fn K mg "_law_table" sLTab ["_law_dice_here", "_law_letters_here", "_law_size", "_law_sorts"] f33 _ := ⟨PySem.W.mg_of X G d33, F33, b33⟩
  have F34 := fun_mk (st := sLLed) l34 q34 k34
  have b34 := F34.binds (ps := ["_law_table_here", "_law_letters_here", "_law_word_here", "_law_start"]) fun _ _ _ _ _ _ us hl => match us, hl with | [_, _, _, _], _ => rfl
  have A34 : Fn K mg "_law_led" sLLed ["_law_table_here", "_law_letters_here", "_law_word_here", "_law_start"] f34 _ := ⟨PySem.W.mg_of X G d34, F34, b34⟩
  have F35 := fun_mk (st := sLFirsts) l35 q35 k35
  have b35 := F35.binds (ps := ["_law_table_here", "_law_letters_here"]) fun _ _ _ _ _ _ us hl => match us, hl with | [_, _], _ => rfl
  have A35 : Fn K mg "_law_firsts" sLFirsts ["_law_table_here", "_law_letters_here"] f35 _ := ⟨PySem.W.mg_of X G d35, F35, b35⟩
  have F36 := fun_mk (st := sLActOf) l36 q36 k36
  have b36 := F36.binds (ps := ["_law_table_here", "_law_letters_here", "_law_word_here"]) fun _ _ _ _ _ _ us hl => match us, hl with | [_, _, _], _ => rfl
  have A36 : Fn K mg "_law_action_of" sLActOf ["_law_table_here", "_law_letters_here", "_law_word_here"] f36 _ := ⟨PySem.W.mg_of X G d36, F36, b36⟩
  have F37 := fun_mk (st := sLBox) l37 q37 k37
  have b37 := F37.binds (ps := ["_law_dice_here", "_law_letters_here", "_law_most"]) fun _ _ _ _ _ _ us hl => match us, hl with | [_, _, _], _ => rfl
  have A37 : Fn K mg "_law_box" sLBox ["_law_dice_here", "_law_letters_here", "_law_most"] f37 _ := ⟨PySem.W.mg_of X G d37, F37, b37⟩
  have F38 := fun_mk (st := sMBox) l38 q38 k38
  have b38 := F38.binds (ps := ["_law_letters_here", "_law_table_here"]) fun _ _ _ _ _ _ us hl => match us, hl with | [_, _], _ => rfl
  have A38 : Fn K mg "_law_made_box" sMBox ["_law_letters_here", "_law_table_here"] f38 _ := ⟨PySem.W.mg_of X G d38, F38, b38⟩
  have F39 := fun_mk (st := sLAll) l39 q39 k39
  have b39 := F39.binds (ps := ["_law_letters_here", "_law_most"]) fun _ _ _ _ _ _ us hl => match us, hl with | [_, _], _ => rfl
  have A39 : Fn K mg "_law_all_words" sLAll ["_law_letters_here", "_law_most"] f39 _ := ⟨PySem.W.mg_of X G d39, F39, b39⟩
  have F40 := fun_mk (st := sLFar) l40 q40 k40
  have b40 := F40.binds (ps := ["_law_table_here", "_law_letters_here", "_law_word_here", "_law_start", "_law_times"]) fun _ _ _ _ _ _ us hl => match us, hl with | [_, _, _, _, _], _ => rfl
  have A40 : Fn K mg "_law_far" sLFar ["_law_table_here", "_law_letters_here", "_law_word_here", "_law_start", "_law_times"] f40 _ := ⟨PySem.W.mg_of X G d40, F40, b40⟩
  have F41 := fun_mk (st := sLLean) l41 q41 k41
  have b41 := F41.binds (ps := ["_law_table_here", "_law_letters_here"]) fun _ _ _ _ _ _ us hl => match us, hl with | [_, _], _ => rfl
  have A41 : Fn K mg "_law_lean" sLLean ["_law_table_here", "_law_letters_here"] f41 _ := ⟨PySem.W.mg_of X G d41, F41, b41⟩
  have F42 := fun_mk (st := sLMach) l42 q42 k42
  have b42 := F42.binds (ps := ["_law_box_here", "_law_spots"]) fun _ _ _ _ _ _ us hl => match us, hl with | [_, _], _ => rfl
  have A42 : Fn K mg "_law_machine_of" sLMach ["_law_box_here", "_law_spots"] f42 _ := ⟨PySem.W.mg_of X G d42, F42, b42⟩
  have F43 := fun_mk (st := sR7) l43 q43 k43
  have b43 := F43.binds (ps := ["_law_dice_here"]) fun _ _ _ _ _ _ us hl => match us, hl with | [_], _ => rfl
  have A43 : Fn K mg "_law_right" sR7 ["_law_dice_here"] f43 _ := ⟨PySem.W.mg_of X G d43, F43, b43⟩
  have F44 := fun_mk (st := sLawB) l44 q44 k44
  have F45 := fun_mk (st := sMadeI) l45 q45 k45
  have b45 := F45.binds (ps := ["self", "rows"]) fun _ _ _ _ _ _ us hl => match us, hl with | [_, _], _ => rfl
  have F46 := fun_mk (st := sBoxI) l46 q46 k46
  have b46 := F46.binds (ps := ["self", "letters", "table"]) fun _ _ _ _ _ _ us hl => match us, hl with | [_, _, _], _ => rfl
  have b47 := binds_one (fd := PySem.W.fnOf "__init__" "Machine.__init__" (defArgs sMInit) (defBody sMInit) (defScope sMInit) (.ref t47) kV47 dc47 pm47 an47 cd47 ct47) (f := f47) (a := "self") (b := "letters") (c := "table") (d := "ends") y47 rfl (fun _ _ _ _ => ⟨_, rfl, rfl⟩)
  have F48 := fun_mk (st := sTMI) l48 q48 k48
  have b48 := F48.binds (ps := ["self", "limit"]) fun _ _ _ _ _ _ us hl => match us, hl with | [_, _], _ => rfl
  have F49 := fun_mk (st := sRests) l49 q49 k49
  have b49 := F49.binds (ps := ["cls", "letters", "modulus"]) fun _ _ _ _ _ _ us hl => match us, hl with | [_, _, _], _ => rfl
  have F50 := fun_mk (st := sBTab) l50 q50 k50
  have b50 := F50.binds (ps := ["self"]) fun _ _ _ _ _ _ us hl => match us, hl with | [_], _ => rfl
  have F51 := fun_mk (st := sBCall) l51 q51 k51
  have b51 := F51.binds (ps := ["self", "word"]) fun _ _ _ _ _ _ us hl => match us, hl with | [_, _], _ => rfl
  have FP : FunD K "place" "Box.place" (defArgs sBPlace) (defBody sBPlace) (defScope sBPlace) [] [("times", .int 1)] f52 (plFd DK dc52 pm52 an52 cd52 ct52) := ⟨⟨_, _, _, _, _, _, _, _, _, _, rfl, l52, q52, .inl ⟨rfl, rfl⟩, .inr ⟨DK, rfl, fun q hq => by cases List.mem_singleton.mp hq; exact ⟨_, kw, _, rfl⟩⟩⟩, k52⟩
  obtain ⟨vP, rvP, bP⟩ := place_one FP
  have F53 := fun_mk (st := sBAct) l53 q53 k53
  have b53 := F53.binds (ps := ["self", "word"]) fun _ _ _ _ _ _ us hl => match us, hl with | [_, _], _ => rfl
  have F54 := fun_mk (st := sBFirst) l54 q54 k54
  have b54 := F54.binds (ps := ["self", "place"]) fun _ _ _ _ _ _ us hl => match us, hl with | [_, _], _ => rfl
  have F55 := fun_mk (st := sBLean) l55 q55 k55
  have b55 := F55.binds (ps := ["self"]) fun _ _ _ _ _ _ us hl => match us, hl with | [_], _ => rfl
  have F56 := fun_mk (st := sBMach) l56 q56 k56
  have b56 := F56.binds (ps := ["self", "places"]) fun _ _ _ _ _ _ us hl => match us, hl with | [_, _], _ => rfl
  have F57 := fun_mk (st := sBLen) l57 q57 k57
  have b57 := F57.binds (ps := ["self"]) fun _ _ _ _ _ _ us hl => match us, hl with | [_], _ => rfl
  have F58 := fun_mk (st := sBEq) l58 q58 k58
  have b58 := F58.binds (ps := ["self", "other"]) fun _ _ _ _ _ _ us hl => match us, hl with | [_, _], _ => rfl
  have F59 := fun_mk (st := sMLeast) l59 q59 k59
  have b59 := F59.binds (ps := ["self"]) fun _ _ _ _ _ _ us hl => match us, hl with | [_], _ => rfl
  have F60 := fun_mk (st := sMHas) l60 q60 k60
  have b60 := F60.binds (ps := ["self", "x"]) fun _ _ _ _ _ _ us hl => match us, hl with | [_, _], _ => rfl
  have F61 := fun_mk (st := sMLen) l61 q61 k61
  have b61 := F61.binds (ps := ["self"]) fun _ _ _ _ _ _ us hl => match us, hl with | [_], _ => rfl
  have F62 := fun_mk (st := sMEq) l62 q62 k62
  have b62 := F62.binds (ps := ["self", "other"]) fun _ _ _ _ _ _ us hl => match us, hl with | [_, _], _ => rfl
  refine ⟨PySem.W.fnOf "law" "law" (defArgs sLawB) (defBody sLawB) (defScope sLawB) .none kV44 dc44 pm44 an44 cd44 ct44, [(cN, PN)], spLawB K [(PN, qStep)], ?_, ?_, ?_, fun s v => .of_eq rfl, fun H a ns hl _ hT hS => ⟨a, ns, rfl, hS, hl, ?_, fun _ => rfl⟩, fun base _ _ hB => ?_⟩
  · intro p hp
    cases List.mem_singleton.mp hp
    exact hPN
  · intro p hp
    cases List.mem_singleton.mp hp
    exact nPN
  · intro p hp
    cases List.mem_singleton.mp hp
    exact PySem.W.codeHd_of_K X hCN
  · intro p hp
    cases List.mem_singleton.mp hp
    exact LamX.TabS.nil (hT _ (.head _))
  have TBN : LamX.TabB base mg cN PN := hB _ (.head _)
  have UN : ∀ p ∈ ([(PN, qStep)] : List (Addr × Str)), p.1 = PN → p.2 = qStep := by
    intro p hp e
    cases List.mem_singleton.mp hp
    rfl
  have G11 : FnOk l.prog w K mg base CX0 2 f11 (PySem.W.fnOf "is_number" "is_number" (defArgs sIsNum) (defBody sIsNum) (defScope sIsNum) .none kV11 dc11 pm11 an11 cd11 ct11) ["value", "least", "most"] (spNum2) := ok_num2 F11 T A10
  have G12 : FnOk l.prog w K mg base CX0 3 f12 (PySem.W.fnOf "need_number" "need_number" (defArgs sNeedNum) (defBody sNeedNum) (defScope sNeedNum) .none kV12 dc12 pm12 an12 cd12 ct12) ["value", "least", "most"] (spNeedNum) := ok_neednum F12 T A10 A11
  have G13 : FnOk l.prog w K mg base CX0 1 f13 (PySem.W.fnOf "ascends" "ascends" (defArgs sAsc) (defBody sAsc) (defScope sAsc) .none kV13 dc13 pm13 an13 cd13 ct13) ["values"] (spAscT K) := ok_ascT F13 T
  have G14 : FnOk l.prog w K mg base CX0 3 f14 (PySem.W.fnOf "is_ascending" "is_ascending" (defArgs sIsAsc) (defBody sIsAsc) (defScope sIsAsc) .none kV14 dc14 pm14 an14 cd14 ct14) ["value", "many"] (spIsAsc K) := ok_isasc F14 T A11 G11 A13 G13
  have G16 : FnOk l.prog w K mg base CX0 3 f16 (PySem.W.fnOf "_is_row" "_is_row" (defArgs sIsRow) (defBody sIsRow) (defScope sIsRow) .none kV16 dc16 pm16 an16 cd16 ct16) ["value", "width", "many"] (spRow K) := ok_row F16 T A11 G11
  have G15 : FnOk l.prog w K mg base CX0 4 f15 (PySem.W.fnOf "is_table" "is_table" (defArgs sIsTab) (defBody sIsTab) (defScope sIsTab) .none kV15 dc15 pm15 an15 cd15 ct15) ["value", "width", "most"] (spTab K) := ok_table F15 T A16 G16
  have G18 : FnOk l.prog w K mg base CX0 1 f18 (PySem.W.fnOf "is_word" "is_word" (defArgs sIsWord) (defBody sIsWord) (defScope sIsWord) .none kV18 dc18 pm18 an18 cd18 ct18) ["value"] (spIsWord K) := ok_isword F18 T
  have G17 : FnOk l.prog w K mg base CX0 2 f17 (PySem.W.fnOf "is_letters" "is_letters" (defArgs sIsLet) (defBody sIsLet) (defScope sIsLet) .none kV17 dc17 pm17 an17 cd17 ct17) ["value"] (spIsLet K) := ok_islet F17 T A18 A13
  have G19 : FnOk l.prog w K mg base CX0 1 f19 (PySem.W.fnOf "is_over" "is_over" (defArgs sIsOver) (defBody sIsOver) (defScope sIsOver) .none kV19 dc19 pm19 an19 cd19 ct19) ["letters", "word"] (spOver) := ok_over F19 T
  have G20 : FnOk l.prog w K mg base CX0 3 f20 (PySem.W.fnOf "need_letters" "need_letters" (defArgs sNeedLet) (defBody sNeedLet) (defScope sNeedLet) .none kV20 dc20 pm20 an20 cd20 ct20) ["letters"] (spNeedLet) := ok_needlet F20 A17 G17
  have G21 : FnOk l.prog w K mg base CX0 2 f21 (PySem.W.fnOf "need_word" "need_word" (defArgs sNeedWord) (defBody sNeedWord) (defScope sNeedWord) .none kV21 dc21 pm21 an21 cd21 ct21) ["word"] (spNeedWord) := ok_needword F21 A18 G18
  have G22 : FnOk l.prog w K mg base CX0 2 f22 (PySem.W.fnOf "need_over" "need_over" (defArgs sNeedOver) (defBody sNeedOver) (defScope sNeedOver) .none kV22 dc22 pm22 an22 cd22 ct22) ["letters", "word"] (spNeedOver) := ok_needover F22 A19 G19
  have G45 : FnOk l.prog w K mg base CX0 1 f45 (PySem.W.fnOf "__init__" "Made.__init__" (defArgs sMadeI) (defBody sMadeI) (defScope sMadeI) .none kV45 dc45 pm45 an45 cd45 ct45) ["self", "rows"] (spMadeI cD) := ok_madei l45 q45 M
  have G46 : FnOk l.prog w K mg base CX0 3 f46 (PySem.W.fnOf "__init__" "Box.__init__" (defArgs sBoxI) (defBody sBoxI) (defScope sBoxI) .none kV46 dc46 pm46 an46 cd46 ct46) ["self", "letters", "table"] (spBoxI C cD) := ok_boxi l46 q46 T M A17 G17
  have GBT : FnOk l.prog w K mg base CX0 5 f46 (PySem.W.fnOf "__init__" "Box.__init__" (defArgs sBoxI) (defBody sBoxI) (defScope sBoxI) .none kV46 dc46 pm46 an46 cd46 ct46) ["self", "letters", "table"] (spBoxT C) := ok_boxt l46 q46 T M kt ⟨_, PySem.W.mg_of X G vMAX_PLACES⟩ A17 G17 A15 G15
  have G47 : FnOk l.prog w K mg base CX0 4 f47 (PySem.W.fnOf "__init__" "Machine.__init__" (defArgs sMInit) (defBody sMInit) (defScope sMInit) (.ref t47) kV47 dc47 pm47 an47 cd47 ct47) ["self", "letters", "table", "ends"] (spMInitD CM cD) := ok_minitD l47 q47 T M7 A17 G17 A14 G14
  have G48 : FnOk l.prog w K mg base CX0 1 f48 (PySem.W.fnOf "__init__" "TooMany.__init__" (defArgs sTMI) (defBody sTMI) (defScope sTMI) .none kV48 dc48 pm48 an48 cd48 ct48) ["self", "limit"] (WE.spErrI cT "limit") := ok_tmi F48 ET EI
  have MD : Mk K cD f45 := ⟨mkd, id, nid, kCd⟩
  have MI : Mk K C f46 := ⟨mkb, ib, nib, kCb⟩
  have MIM : Mk K CM f47 := ⟨mkm, im, nim, kCm⟩
  have GEI : FnOk l.prog w K mg base CX0 3 f5 (PySem.W.fnOf "explored" "explored" (defArgs sExpl) (defBody sExpl) (defScope sExpl) (.ref t5) kV5 dc5 pm5 an5 cd5 ct5) ["signs", "start", "step", "most"] (spExpl l.prog w K mg base kitI 2) := ok_expl l5 q5 T
  have GGI : FnOk l.prog w K mg base CX0 5 f23 (PySem.W.fnOf "_grown" "_grown" (defArgs sGrown) (defBody sGrown) (defScope sGrown) .none kV23 dc23 pm23 an23 cd23 ct23) ["letters", "start", "step"] (spGrown l.prog w K mg base kitI 2 cD) := ok_grown F23 M g5 k5 GEI MD G45 b45 b5
  have G25 : FnOk l.prog w K mg base CX0 1 f25 (PySem.W.fnOf "_one_more" "_one_more" (defArgs sOneM) (defBody sOneM) (defScope sOneM) .none kV25 dc25 pm25 an25 cd25 ct25) ["number", "cap", "modulus"] (spOneM) := ok_onem F25
  have G24 : FnOk l.prog w K mg base CX0 6 f24 (PySem.W.fnOf "_counting" "_counting" (defArgs sCount) (defBody sCount) (defScope sCount) .none kV24 dc24 pm24 an24 (.ref cN) ct24) ["letters", "cap", "modulus"] (spCounting [(PN, qStep)] cD) := ok_counting (C := C) l24 q24 TBN (.head _) UN T A25 G25 A23 GGI
  have G49 : FnOk l.prog w K mg base CX0 7 f49 (PySem.W.fnOf "rests" "Box.rests" (defArgs sRests) (defBody sRests) (defScope sRests) .none kV49 dc49 pm49 an49 cd49 ct49) ["cls", "letters", "modulus"] (spRests [(PN, qStep)] C) := ok_rests l49 q49 ⟨_, PySem.W.mg_of X G v_MAX_MODULUS⟩ A20 G20 A12 G12 A24 G24 MI G46 b46
  have Mr : TMkr l.prog w K mg base C (.type "type") [(PN, qStep)] := ⟨⟨rd, ga⟩, PySem.W.mg_of X G gb, ⟨pR, _, ⟨cmR, ⟨_, crR⟩, cfR⟩, G49.raw b49 .nil⟩⟩
  have G0 : FnOk l.prog w K mg base CX0 1 f0 (PySem.W.fnOf "led" "led" (defArgs sLed) (defBody sLed) (defScope sLed) .none kV0 dc0 pm0 an0 cd0 ct0) ["letters", "table", "word", "start"] (spLed K) := ok_led F0 en
  have G1 : FnOk l.prog w K mg base CX0 2 f1 (PySem.W.fnOf "led_often" "led_often" (defArgs sOft) (defBody sOft) (defScope sOft) .none kV1 dc1 pm1 an1 cd1 ct1) ["letters", "table", "word", "start", "times"] (spOft K) := ok_oft F1 T A0 G0
  have G2 : FnOk l.prog w K mg base CX0 1 f2 (PySem.W.fnOf "ways" "ways" (defArgs sWays) (defBody sWays) (defScope sWays) .none kV2 dc2 pm2 an2 cd2 ct2) ["table", "start"] (spWays K) := ok_ways F2 T en
  have GWV : FnOk l.prog w K mg base CX0 1 f2 (PySem.W.fnOf "ways" "ways" (defArgs sWays) (defBody sWays) (defScope sWays) .none kV2 dc2 pm2 an2 cd2 ct2) ["table", "start"] (spWaysV K) := ok_waysV F2 T en
  have G3 : FnOk l.prog w K mg base CX0 1 f3 (PySem.W.fnOf "word_along" "word_along" (defArgs sAlong) (defBody sAlong) (defScope sAlong) .none kV3 dc3 pm3 an3 cd3 ct3) ["letters", "found", "row"] (spAlong) := ok_along F3
  have G4 : FnOk l.prog w K mg base CX0 2 f4 (PySem.W.fnOf "trimmed" "trimmed" (defArgs sTrim) (defBody sTrim) (defScope sTrim) .none kV4 dc4 pm4 an4 cd4 ct4) ["table", "start"] (spTrimG K) := ok_trimG F4 T en A2 G2
  have GNB : FnOk l.prog w K mg base CX0 1 f6 (PySem.W.fnOf "numbered" "numbered" (defArgs sNumd) (defBody sNumd) (defScope sNumd) .none kV6 dc6 pm6 an6 cd6 ct6) ["keys"] (spNumd K (ND.numB l.prog w)) := ok_numd F6 T
  have GNN : FnOk l.prog w K mg base CX0 1 f6 (PySem.W.fnOf "numbered" "numbered" (defArgs sNumd) (defBody sNumd) (defScope sNumd) .none kV6 dc6 pm6 an6 cd6 ct6) ["keys"] (spNumd K (ND.numN l.prog w)) := ok_numd F6 T
  have G7 : FnOk l.prog w K mg base CX0 2 f7 (PySem.W.fnOf "refined" "refined" (defArgs sRefd) (defBody sRefd) (defScope sRefd) .none kV7 dc7 pm7 an7 cd7 ct7) ["table", "groups"] (spRefd K) := ok_refd F7 T en A6 GNN
  have G8 : FnOk l.prog w K mg base CX0 3 f8 (PySem.W.fnOf "least_parts" "least_parts" (defArgs sLP) (defBody sLP) (defScope sLP) .none kV8 dc8 pm8 an8 cd8 ct8) ["table", "ends", "start"] (spLP K) := ok_lp F8 T en A4 G4 A6 GNB A7 G7
  have G9 : FnOk l.prog w K mg base CX0 6 f9 (PySem.W.fnOf "least_machine" "least_machine" (defArgs sLM) (defBody sLM) (defScope sLM) (.ref t9) kV9 dc9 pm9 an9 cd9 ct9) ["letters", "table", "ends", "start"] (spLM K CM) := ok_lm l9 q9 M7 A8 G8 MIM G47 b47 MD G45 b45
  have G61 : FnOk l.prog w K mg base CX0 1 f61 (PySem.W.fnOf "__len__" "Machine.__len__" (defArgs sMLen) (defBody sMLen) (defScope sMLen) .none kV61 dc61 pm61 an61 cd61 ct61) ["self"] (spMLen CM) := ok_mlen F61 T M7
  have G59 : FnOk l.prog w K mg base CX0 7 f59 (PySem.W.fnOf "least" "Machine.least" (defArgs sMLeast) (defBody sMLeast) (defScope sMLeast) .none kV59 dc59 pm59 an59 cd59 ct59) ["self"] (spMLeast CM) := ok_mleast rfl F59 M7 g9 k9 G9 bd9
  have G60 : FnOk l.prog w K mg base CX0 2 f60 (PySem.W.fnOf "__contains__" "Machine.__contains__" (defArgs sMHas) (defBody sMHas) (defScope sMHas) .none kV60 dc60 pm60 an60 cd60 ct60) ["self", "x"] (spMHas CM) := ok_mhas F60 M7 A18 G18 A19 G19 A0 G0
  have G62 : FnOk l.prog w K mg base CX0 1 f62 (PySem.W.fnOf "__eq__" "Machine.__eq__" (defArgs sMEq) (defBody sMEq) (defScope sMEq) .none kV62 dc62 pm62 an62 cd62 ct62) ["self", "other"] (spMEq CM) := ok_meq F62 T M7 YM kim
  have G56 : FnOk l.prog w K mg base (L2.CX l.prog w) 7 f56 (PySem.W.fnOf "machine" "Box.machine" (defArgs sBMach) (defBody sBMach) (defScope sBMach) .none kV56 dc56 pm56 an56 cd56 ct56) ["self", "places"] (spBMach C CM cT) := ok_bmach rfl F56 T M M7 A14 G14 g9 k9 G9 bd9 a61 n61 (G61.raw b61 .nil) ⟨_, PySem.W.mg_of X G vMAX_STATES⟩ ET EI ET.sb tT G48 b48 gTM
  have G50 : FnOk l.prog w K mg base CX0 1 f50 (PySem.W.fnOf "table" "Box.table" (defArgs sBTab) (defBody sBTab) (defScope sBTab) .none kV50 dc50 pm50 an50 cd50 ct50) ["self"] (getSp C "_table") := fn_getter (N := ["self"]) l50 q50 ⟨rfl, rfl, rfl, by decide +kernel, rfl, by decide +kernel, by decide +kernel⟩ rfl rfl cl nT
  have G51 : FnOk l.prog w K mg base CX0 4 f51 (PySem.W.fnOf "__call__" "Box.__call__" (defArgs sBCall) (defBody sBCall) (defScope sBCall) .none kV51 dc51 pm51 an51 cd51 ct51) ["self", "word"] (spBCall C) := ok_bcall F51 M A21 (G21.mono (by decide)) A22 (G22.mono (by decide)) A0 G0
  have G52 : FnOk l.prog w K mg base CX0 4 f52 (PySem.W.fnOf "place" "Box.place" (defArgs sBPlace) (defBody sBPlace) (defScope sBPlace) .none (.ref DK) dc52 pm52 an52 cd52 ct52) ["self", "word", "start", "times"] (spPlace C) := ok_place FP T M A21 (G21.mono (by decide)) A12 G12 A22 (G22.mono (by decide)) A1 G1 ⟨_, PySem.W.mg_of X G vMAX_TIMES⟩
  have G53 : FnOk l.prog w K mg base CX0 4 f53 (PySem.W.fnOf "action" "Box.action" (defArgs sBAct) (defBody sBAct) (defScope sBAct) .none kV53 dc53 pm53 an53 cd53 ct53) ["self", "word"] (spAct C) := ok_act F53 T M A21 (G21.mono (by decide)) A22 (G22.mono (by decide)) A0 G0
  have G54 : FnOk l.prog w K mg base CX0 4 f54 (PySem.W.fnOf "first_word" "Box.first_word" (defArgs sBFirst) (defBody sBFirst) (defScope sBFirst) .none kV54 dc54 pm54 an54 cd54 ct54) ["self", "place"] (spFirst C) := ok_first F54 T M A12 G12 A2 GWV A3 G3
  have G57 : FnOk l.prog w K mg base CX0 1 f57 (PySem.W.fnOf "__len__" "Box.__len__" (defArgs sBLen) (defBody sBLen) (defScope sBLen) .none kV57 dc57 pm57 an57 cd57 ct57) ["self"] (spBLen C) := ok_blen F57 T M
  have G58 : FnOk l.prog w K mg base CX0 1 f58 (PySem.W.fnOf "__eq__" "Box.__eq__" (defArgs sBEq) (defBody sBEq) (defScope sBEq) .none kV58 dc58 pm58 an58 cd58 ct58) ["self", "other"] (spBEq C) := ok_beq F58 T M Y
  have G55 : FnOk l.prog w K mg base CX0 5 f55 (PySem.W.fnOf "lean" "Box.lean" (defArgs sBLean) (defBody sBLean) (defScope sBLean) .none kV55 dc55 pm55 an55 cd55 ct55) ["self"] (spBLeanG C) := ok_bleanG F55 M A4 G4 MI G46 b46 MD G45 b45
  have Bm : TB7 l.prog w K mg base C f57 f58 f51 := ⟨a57, n57, G57.raw b57 .nil, a58, n58, G58.raw b58 .nil, ne, obb, ⟨a51, n51, fiC⟩, G51.raw b51 .nil⟩
  have Tm : TM7 l.prog w K mg base CM f62 f60 := ⟨a62, n62, G62.raw b62 .nil, nem, obm, a60, n60, G60.raw b60 .nil⟩
  have G26 : FnOk l.prog w K mg base CX0 1 f26 (PySem.W.fnOf "_law_dice" "_law_dice" (defArgs sDice) (defBody sDice) (defScope sDice) .none kV26 dc26 pm26 an26 cd26 ct26) ["_law_script", "_law_at"] (spDice K) := ok_dice F26 T.dice
  have G27 : FnOk l.prog w K mg base CX0 1 f27 (PySem.W.fnOf "_law_roll" "_law_roll" (defArgs sRoll) (defBody sRoll) (defScope sRoll) .none kV27 dc27 pm27 an27 cd27 ct27) ["_law_dice_here", "_law_total"] (spRoll) := ok_roll F27 T.dice
  have G29 : FnOk l.prog w K mg base CX0 2 f29 (PySem.W.fnOf "_law_mixed" "_law_mixed" (defArgs sMixed) (defBody sMixed) (defScope sMixed) .none kV29 dc29 pm29 an29 cd29 ct29) ["_law_dice_here", "_law_items"] (spMixed) := ok_mixed F29 T A27
  have GMI : FnOk l.prog w K mg base CX0 2 f29 (PySem.W.fnOf "_law_mixed" "_law_mixed" (defArgs sMixed) (defBody sMixed) (defScope sMixed) .none kV29 dc29 pm29 an29 cd29 ct29) ["_law_dice_here", "_law_items"] (spMixedI) := ok_mixedI F29 T A27
  have G30 : FnOk l.prog w K mg base CX0 3 f30 (PySem.W.fnOf "_law_letters" "_law_letters" (defArgs sLetters) (defBody sLetters) (defScope sLetters) .none kV30 dc30 pm30 an30 cd30 ct30) ["_law_dice_here", "_law_total"] (spLetters) := ok_letters F30 T A29 G29
  have G31 : FnOk l.prog w K mg base CX0 3 f31 (PySem.W.fnOf "_law_word" "_law_word" (defArgs sWord) (defBody sWord) (defScope sWord) .none kV31 dc31 pm31 an31 cd31 ct31) ["_law_dice_here", "_law_letters_here", "_law_most"] (spWordL) := ok_word F31 T A27 A28
  have G33 : FnOk l.prog w K mg base CX0 3 f33 (PySem.W.fnOf "_law_table" "_law_table" (defArgs sLTab) (defBody sLTab) (defScope sLTab) .none kV33 dc33 pm33 an33 cd33 ct33) ["_law_dice_here", "_law_letters_here", "_law_size", "_law_sorts"] (spLTab) := ok_ltab F33 T A27 A28 A32
  have G34 : FnOk l.prog w K mg base CX0 1 f34 (PySem.W.fnOf "_law_led" "_law_led" (defArgs sLLed) (defBody sLLed) (defScope sLLed) .none kV34 dc34 pm34 an34 cd34 ct34) ["_law_table_here", "_law_letters_here", "_law_word_here", "_law_start"] (spLLed) := ok_lled F34
  have G37 : FnOk l.prog w K mg base CX0 4 f37 (PySem.W.fnOf "_law_box" "_law_box" (defArgs sLBox) (defBody sLBox) (defScope sLBox) .none kV37 dc37 pm37 an37 cd37 ct37) ["_law_dice_here", "_law_letters_here", "_law_most"] (spLBox) := ok_lbox F37 T A27 A33 G33
  have G38 : FnOk l.prog w K mg base CX0 7 f38 (PySem.W.fnOf "_law_made_box" "_law_made_box" (defArgs sMBox) (defBody sMBox) (defScope sMBox) .none kV38 dc38 pm38 an38 cd38 ct38) ["_law_letters_here", "_law_table_here"] (spMBox C) := ok_mbox F38 T M MI GBT b46
  have G35 : FnOk l.prog w K mg base CX0 1 f35 (PySem.W.fnOf "_law_firsts" "_law_firsts" (defArgs sLFirsts) (defBody sLFirsts) (defScope sLFirsts) .none kV35 dc35 pm35 an35 cd35 ct35) ["_law_table_here", "_law_letters_here"] (spLFirsts) := ok_lfirsts F35 T
  have G36 : FnOk l.prog w K mg base CX0 2 f36 (PySem.W.fnOf "_law_action_of" "_law_action_of" (defArgs sLActOf) (defBody sLActOf) (defScope sLActOf) .none kV36 dc36 pm36 an36 cd36 ct36) ["_law_table_here", "_law_letters_here", "_law_word_here"] (spLActOf) := ok_lactof F36 T A34 G34
  have G39 : FnOk l.prog w K mg base CX0 1 f39 (PySem.W.fnOf "_law_all_words" "_law_all_words" (defArgs sLAll) (defBody sLAll) (defScope sLAll) .none kV39 dc39 pm39 an39 cd39 ct39) ["_law_letters_here", "_law_most"] (spLAll) := ok_lall F39 T
  have G40 : FnOk l.prog w K mg base CX0 2 f40 (PySem.W.fnOf "_law_far" "_law_far" (defArgs sLFar) (defBody sLFar) (defScope sLFar) .none kV40 dc40 pm40 an40 cd40 ct40) ["_law_table_here", "_law_letters_here", "_law_word_here", "_law_start", "_law_times"] (spFar) := ok_far F40 T A34 G34
  have G41 : FnOk l.prog w K mg base CX0 2 f41 (PySem.W.fnOf "_law_lean" "_law_lean" (defArgs sLLean) (defBody sLLean) (defScope sLLean) .none kV41 dc41 pm41 an41 cd41 ct41) ["_law_table_here", "_law_letters_here"] (spLLean) := ok_llean F41 T A35 G35
  have G42 : FnOk l.prog w K mg base CX0 8 f42 (PySem.W.fnOf "_law_machine_of" "_law_machine_of" (defArgs sLMach) (defBody sLMach) (defScope sLMach) .none kV42 dc42 pm42 an42 cd42 ct42) ["_law_box_here", "_law_spots"] (spLMach C CM) := ok_lmach F42 M ⟨a56, n56, k56⟩ G56 b56 gTM xT ⟨by decide +kernel, by decide +kernel⟩
  have hTB : ∀ {cdv : Value} {A : Around} {outer : List Env} {s : Shared} {H : Hp} {Q : VK} {E : XK}, Room 9 (A.deeper (envOfC "_law_right" (defScope sR7) s.heap.objs.size f43 cdv)) → ∃ t, PSs (cxOf CX0 l.prog w K mg base NR7 "_law_right" (defScope sR7) f43 cdv A outer s H E).nox ((defBody sR7).drop 8) t ∧ ∀ (p : Addr) (L : W) (tb : List (List Int)) (n : Int) (lx ox : Addr) (x4 x5 x6 : Option V) (H1 : Hp), Sc7 C H1 p L tb n lx ox → (∀ H', DiceAt H' p → But p H1 H' → Q (.bl true) H') →
        t { nx := fun _ H' => Q .non H', rt := Q } [some (.ref p), some (.str (tx L)), some (.ref lx), some (.ref ox), x4, x5, x6, none, none, none, none, none, none] H1 := by
    intro cdv A outer s H Q E hr
    obtain ⟨tc, bC, hC⟩ := tail7C (Q := Q) (outer := outer) (H := H) (E := E) hr T M M7 Tm ⟨a59, n59, k59⟩ G59 b59 A27 G27 A29 GMI A42 G42 A34 G34 A41 G41 A39 G39
    exact tail7B hr T M Bm ⟨a54, n54, k54⟩ G54 b54 ⟨a55, n55, k55⟩ G55 b55 Pt G50 b50 A35 G35 A38 G38 A41 G41 bC hC
  have G43 : FnOk l.prog w K mg base CX0 10 f43 (PySem.W.fnOf "_law_right" "_law_right" (defArgs sR7) (defBody sR7) (defScope sR7) .none kV43 dc43 pm43 an43 cd43 ct43) ["_law_dice_here"] (spR7) := ok_r7 F43 T M Bm ⟨a53, n53, k53⟩ G53 b53 ⟨a52, n52, k52⟩ G52 place_kbn rvP bP A27 A28 A30 G30 A37 G37 A38 G38 A31 G31 A34 G34 A36 G36 A40 G40 hTB
  exact ok_lawB F44 T Mr M ⟨a52, n52, k52⟩ G52 place_kbn A26 G26 A43 G43
end RM
set_option Elab.async false
set_option linter.all false
open PySem PySem.W PyProof.Rows
set_option maxRecDepth 100000 in
set_option maxHeartbeats 0 in
theorem PySem.Challenge.cw_watchkinds_k07_boxes_of_tables_led_holds : PySem.Challenge.rw_watchkinds_k07_boxes_of_tables_led.Holds := by
  w_on; o_law; k_head; (case hw => w_witness2)
  k_fill
  refine LamX.walk_ofTs (l := PySem.Challenge.rw_watchkinds_k07_boxes_of_tables_led) (n := 63) (k := 12) (x := "_law_script") (CX := fun _ => L2.CX0) rfl (by decide) rfl ⟨rfl, by decide, by decide⟩ (fun w h Y => PySem.W.km_in_of Y) ?F (fun _ _ _ _ _ z => z)
  case F =>
    intro w mg fa h Y KX G hmg
    refine' RM.all_mk KX G hmg ?gb ?gd ?gm ?gT ?pgb ?hdb ?pob ?sab ?ccb ?obb ?mkb ?kCb ?ib ?nib ?pgd ?hdd ?pod ?sad ?ccd ?obd ?mkd ?kCd ?id ?nid ?pgm ?hdm ?pom ?sam ?ccm ?obm ?mkm ?kCm ?im ?nim ?cn ?ct ?nT ?nL ?nR ?nMT ?nML ?nME ?rd ?ga ?cmR ?crR ?cfR ?pat ?pg_t ?pt_t ?pr_t ?a51 ?n51 ?a52 ?n52 ?a53 ?n53 ?a54 ?n54 ?a55 ?n55 ?a56 ?n56 ?a57 ?n57 ?a58 ?n58 ?a59 ?n59 ?a60 ?n60 ?a61 ?n61 ?a62 ?n62 ?fiC ?ne ?nem ?ki ?kim ?kt ?eB ?iT ?eI ?tT ?xT ?d0 ?l0 ?q0 ?k0 ?d1 ?l1 ?q1 ?k1 ?d2 ?l2 ?q2 ?k2 ?d3 ?l3 ?q3 ?k3 ?d4 ?l4 ?q4 ?k4 ?d5 ?l5 ?q5 ?k5 ?d6 ?l6 ?q6 ?k6 ?d7 ?l7 ?q7 ?k7 ?d8 ?l8 ?q8 ?k8 ?d9 ?l9 ?q9 ?k9 ?d10 ?l10 ?q10 ?k10 ?d11 ?l11 ?q11 ?k11 ?d12 ?l12 ?q12 ?k12 ?d13 ?l13 ?q13 ?k13 ?d14 ?l14 ?q14 ?k14 ?d15 ?l15 ?q15 ?k15 ?d16 ?l16 ?q16 ?k16 ?d17 ?l17 ?q17 ?k17 ?d18 ?l18 ?q18 ?k18 ?d19 ?l19 ?q19 ?k19 ?d20 ?l20 ?q20 ?k20 ?d21 ?l21 ?q21 ?k21 ?d22 ?l22 ?q22 ?k22 ?d23 ?l23 ?q23 ?k23 ?d24 ?l24 ?q24 ?k24 ?d25 ?l25 ?q25 ?k25 ?d26 ?l26 ?q26 ?k26 ?d27 ?l27 ?q27 ?k27 ?d28 ?l28 ?q28 ?k28 ?d29 ?l29 ?q29 ?k29 ?d30 ?l30 ?q30 ?k30 ?d31 ?l31 ?q31 ?k31 ?d32 ?l32 ?q32 ?k32 ?d33 ?l33 ?q33 ?k33 ?d34 ?l34 ?q34 ?k34 ?d35 ?l35 ?q35 ?k35 ?d36 ?l36 ?q36 ?k36 ?d37 ?l37 ?q37 ?k37 ?d38 ?l38 ?q38 ?k38 ?d39 ?l39 ?q39 ?k39 ?d40 ?l40 ?q40 ?k40 ?d41 ?l41 ?q41 ?k41 ?d42 ?l42 ?q42 ?k42 ?d43 ?l43 ?q43 ?k43 ?d44 ?l44 ?q44 ?k44 ?l45 ?q45 ?k45 ?l46 ?q46 ?k46 ?l47 ?q47 ?k47 ?l48 ?q48 ?k48 ?l49 ?q49 ?k49 ?l50 ?q50 ?k50 ?l51 ?q51 ?k51 ?l52 ?q52 ?k52 ?l53 ?q53 ?k53 ?l54 ?q54 ?k54 ?l55 ?q55 ?k55 ?l56 ?q56 ?k56 ?l57 ?q57 ?k57 ?l58 ?q58 ?k58 ?l59 ?q59 ?k59 ?l60 ?q60 ?k60 ?l61 ?q61 ?k61 ?l62 ?q62 ?k62 ?kw ?y5 ?y9 ?y47 ?hPN ?nPN ?hCN ?vMAX_MADE ?v_MAX_MODULUS ?vMAX_LETTERS ?vMAX_PLACES ?vMAX_STATES ?vMAX_TIMES ?z_len ?z_int ?z_abs ?z_isinstance ?z_bool ?z_str ?z_all ?z_range ?z_sorted ?z_set ?z_tuple ?z_list ?z_max ?z_min ?z_zip ?z_enumerate
    (case gb => k_is)
    (case gd => k_is)
    (case gm => k_is)
    (case gT => k_is)
    (case pgb => kernel_rfl)
    (case hdb => kernel_rfl)
    (case pob => kernel_rfl)
    (case sab => kernel_rfl)
    (case ccb => kernel_rfl)
    (case obb => kernel_rfl)
    (case mkb => kernel_rfl)
    (case kCb => kernel_rfl)
    (case ib => k_is)
    (case nib => kernel_rfl)
    (case pgd => kernel_rfl)
    (case hdd => kernel_rfl)
    (case pod => kernel_rfl)
    (case sad => kernel_rfl)
    (case ccd => kernel_rfl)
    (case obd => kernel_rfl)
    (case mkd => kernel_rfl)
    (case kCd => kernel_rfl)
    (case id => k_is)
    (case nid => kernel_rfl)
    (case pgm => kernel_rfl)
    (case hdm => kernel_rfl)
    (case pom => kernel_rfl)
    (case sam => kernel_rfl)
    (case ccm => kernel_rfl)
    (case obm => kernel_rfl)
    (case mkm => kernel_rfl)
    (case kCm => kernel_rfl)
    (case im => k_is)
    (case nim => kernel_rfl)
    (case cn => kernel_rfl)
    (case ct => kernel_rfl)
    (case nT => kernel_rfl)
    (case nL => kernel_rfl)
    (case nR => kernel_rfl)
    (case nMT => kernel_rfl)
    (case nML => kernel_rfl)
    (case nME => kernel_rfl)
    (case rd => kernel_rfl)
    (case ga => kernel_rfl)
    (case cmR => k_is)
    (case crR => k_is)
    (case cfR => kernel_rfl)
    (case pat => k_is)
    (case pg_t => kernel_rfl)
    (case pt_t => kernel_rfl)
    (case pr_t => k_is)
    (case a51 => k_is)
    (case n51 => kernel_rfl)
    (case a52 => k_is)
    (case n52 => kernel_rfl)
    (case a53 => k_is)
    (case n53 => kernel_rfl)
    (case a54 => k_is)
    (case n54 => kernel_rfl)
    (case a55 => k_is)
    (case n55 => kernel_rfl)
    (case a56 => k_is)
    (case n56 => kernel_rfl)
    (case a57 => k_is)
    (case n57 => kernel_rfl)
    (case a58 => k_is)
    (case n58 => kernel_rfl)
    (case a59 => k_is)
    (case n59 => kernel_rfl)
    (case a60 => k_is)
    (case n60 => kernel_rfl)
    (case a61 => k_is)
    (case n61 => kernel_rfl)
    (case a62 => k_is)
    (case n62 => kernel_rfl)
    (case fiC => kernel_rfl)
    (case ne => kernel_rfl)
    (case nem => kernel_rfl)
    (case ki => kernel_rfl)
    (case kim => kernel_rfl)
    (case kt => kernel_rfl)
    (case eB => kernel_rfl)
    (case iT => k_is)
    (case eI => kernel_rfl)
    (case tT => kernel_rfl)
    (case xT => kernel_rfl)
    (case d0 => k_is)
    (case l0 => k_is)
    (case q0 => k_is)
    (case k0 => kernel_rfl)
    (case d1 => k_is)
    (case l1 => k_is)
    (case q1 => k_is)
    (case k1 => kernel_rfl)
    (case d2 => k_is)
    (case l2 => k_is)
    (case q2 => k_is)
    (case k2 => kernel_rfl)
    (case d3 => k_is)
    (case l3 => k_is)
    (case q3 => k_is)
    (case k3 => kernel_rfl)
    (case d4 => k_is)
    (case l4 => k_is)
    (case q4 => k_is)
    (case k4 => kernel_rfl)
    (case d5 => k_is)
    (case l5 => k_is)
    (case q5 => k_is)
    (case k5 => kernel_rfl)
    (case d6 => k_is)
    (case l6 => k_is)
    (case q6 => k_is)
    (case k6 => kernel_rfl)
    (case d7 => k_is)
    (case l7 => k_is)
    (case q7 => k_is)
    (case k7 => kernel_rfl)
    (case d8 => k_is)
    (case l8 => k_is)
    (case q8 => k_is)
    (case k8 => kernel_rfl)
    (case d9 => k_is)
    (case l9 => k_is)
    (case q9 => k_is)
    (case k9 => kernel_rfl)
    (case d10 => k_is)
    (case l10 => k_is)
    (case q10 => k_is)
    (case k10 => kernel_rfl)
    (case d11 => k_is)
    (case l11 => k_is)
    (case q11 => k_is)
    (case k11 => kernel_rfl)
    (case d12 => k_is)
    (case l12 => k_is)
    (case q12 => k_is)
    (case k12 => kernel_rfl)
    (case d13 => k_is)
    (case l13 => k_is)
    (case q13 => k_is)
    (case k13 => kernel_rfl)
    (case d14 => k_is)
    (case l14 => k_is)
    (case q14 => k_is)
    (case k14 => kernel_rfl)
    (case d15 => k_is)
    (case l15 => k_is)
    (case q15 => k_is)
    (case k15 => kernel_rfl)
    (case d16 => k_is)
    (case l16 => k_is)
    (case q16 => k_is)
    (case k16 => kernel_rfl)
    (case d17 => k_is)
    (case l17 => k_is)
    (case q17 => k_is)
    (case k17 => kernel_rfl)
    (case d18 => k_is)
    (case l18 => k_is)
    (case q18 => k_is)
    (case k18 => kernel_rfl)
    (case d19 => k_is)
    (case l19 => k_is)
    (case q19 => k_is)
    (case k19 => kernel_rfl)
    (case d20 => k_is)
    (case l20 => k_is)
    (case q20 => k_is)
    (case k20 => kernel_rfl)
    (case d21 => k_is)
    (case l21 => k_is)
    (case q21 => k_is)
    (case k21 => kernel_rfl)
    (case d22 => k_is)
    (case l22 => k_is)
    (case q22 => k_is)
    (case k22 => kernel_rfl)
    (case d23 => k_is)
    (case l23 => k_is)
    (case q23 => k_is)
    (case k23 => kernel_rfl)
    (case d24 => k_is)
    (case l24 => k_is)
    (case q24 => k_is)
    (case k24 => kernel_rfl)
    (case d25 => k_is)
    (case l25 => k_is)
    (case q25 => k_is)
    (case k25 => kernel_rfl)
    (case d26 => k_is)
    (case l26 => k_is)
    (case q26 => k_is)
    (case k26 => kernel_rfl)
    (case d27 => k_is)
    (case l27 => k_is)
    (case q27 => k_is)
    (case k27 => kernel_rfl)
    (case d28 => k_is)
    (case l28 => k_is)
    (case q28 => k_is)
    (case k28 => kernel_rfl)
    (case d29 => k_is)
    (case l29 => k_is)
    (case q29 => k_is)
    (case k29 => kernel_rfl)
    (case d30 => k_is)
    (case l30 => k_is)
    (case q30 => k_is)
    (case k30 => kernel_rfl)
    (case d31 => k_is)
    (case l31 => k_is)
    (case q31 => k_is)
    (case k31 => kernel_rfl)
    (case d32 => k_is)
    (case l32 => k_is)
    (case q32 => k_is)
    (case k32 => kernel_rfl)
    (case d33 => k_is)
    (case l33 => k_is)
    (case q33 => k_is)
    (case k33 => kernel_rfl)
    (case d34 => k_is)
    (case l34 => k_is)
    (case q34 => k_is)
    (case k34 => kernel_rfl)
    (case d35 => k_is)
    (case l35 => k_is)
    (case q35 => k_is)
    (case k35 => kernel_rfl)
    (case d36 => k_is)
    (case l36 => k_is)
    (case q36 => k_is)
    (case k36 => kernel_rfl)
    (case d37 => k_is)
    (case l37 => k_is)
    (case q37 => k_is)
    (case k37 => kernel_rfl)
    (case d38 => k_is)
    (case l38 => k_is)
    (case q38 => k_is)
    (case k38 => kernel_rfl)
    (case d39 => k_is)
    (case l39 => k_is)
    (case q39 => k_is)
    (case k39 => kernel_rfl)
    (case d40 => k_is)
    (case l40 => k_is)
    (case q40 => k_is)
    (case k40 => kernel_rfl)
    (case d41 => k_is)
    (case l41 => k_is)
    (case q41 => k_is)
    (case k41 => kernel_rfl)
    (case d42 => k_is)
    (case l42 => k_is)
    (case q42 => k_is)
    (case k42 => kernel_rfl)
    (case d43 => k_is)
    (case l43 => k_is)
    (case q43 => k_is)
    (case k43 => kernel_rfl)
    (case d44 => k_is)
    (case l44 => k_is)
    (case q44 => k_is)
    (case k44 => kernel_rfl)
    (case l45 => k_is)
    (case q45 => k_is)
    (case k45 => kernel_rfl)
    (case l46 => k_is)
    (case q46 => k_is)
    (case k46 => kernel_rfl)
    (case l47 => k_is)
    (case q47 => k_is)
    (case k47 => kernel_rfl)
    (case l48 => k_is)
    (case q48 => k_is)
    (case k48 => kernel_rfl)
    (case l49 => k_is)
    (case q49 => k_is)
    (case k49 => kernel_rfl)
    (case l50 => k_is)
    (case q50 => k_is)
    (case k50 => kernel_rfl)
    (case l51 => k_is)
    (case q51 => k_is)
    (case k51 => kernel_rfl)
    (case l52 => k_is)
    (case q52 => k_is)
    (case k52 => kernel_rfl)
    (case l53 => k_is)
    (case q53 => k_is)
    (case k53 => kernel_rfl)
    (case l54 => k_is)
    (case q54 => k_is)
    (case k54 => kernel_rfl)
    (case l55 => k_is)
    (case q55 => k_is)
    (case k55 => kernel_rfl)
    (case l56 => k_is)
    (case q56 => k_is)
    (case k56 => kernel_rfl)
    (case l57 => k_is)
    (case q57 => k_is)
    (case k57 => kernel_rfl)
    (case l58 => k_is)
    (case q58 => k_is)
    (case k58 => kernel_rfl)
    (case l59 => k_is)
    (case q59 => k_is)
    (case k59 => kernel_rfl)
    (case l60 => k_is)
    (case q60 => k_is)
    (case k60 => kernel_rfl)
    (case l61 => k_is)
    (case q61 => k_is)
    (case k61 => kernel_rfl)
    (case l62 => k_is)
    (case q62 => k_is)
    (case k62 => kernel_rfl)
    (case kw => k_is)
    (case y5 => k_is)
    (case y9 => k_is)
    (case y47 => k_is)
    (case hPN => exact PySem.W.km_tabs_of Y _ (.head _))
    (case nPN => kernel_rfl)
    (case hCN => kernel_rfl)
    (case vMAX_MADE => k_is)
    (case v_MAX_MODULUS => k_is)
    (case vMAX_LETTERS => k_is)
    (case vMAX_PLACES => k_is)
    (case vMAX_STATES => k_is)
    (case vMAX_TIMES => k_is)
    (case z_len => k_is)
    (case z_int => k_is)
    (case z_abs => k_is)
    (case z_isinstance => k_is)
    (case z_bool => k_is)
    (case z_str => k_is)
    (case z_all => k_is)
    (case z_range => k_is)
    (case z_sorted => k_is)
    (case z_set => k_is)
    (case z_tuple => k_is)
    (case z_list => k_is)
    (case z_max => k_is)
    (case z_min => k_is)
    (case z_zip => k_is)
    (case z_enumerate => k_is)
