import PyProof.Rows.All
import Wide.All
import OpenK.AllK
import Wide.FinOn
import HandS.ForMost
import HandS.Wide
import HandS.IsInst
import HandS.ExcInit
import HandS.Flow
import HandS.Codes
import KE.KExcIs
import KE.KExcInit
import PyProof.Rows.SetFrom
import PyProof.StrWalks
import HandS.Set
import HandS.TupSets
import HandS.SetTxt0
import HandS.SetTxtIn
import HandS.Strs
import HandS.Style
import HandS.StrMore
import HandS.Text
import PyProof.StrLawsFrom
import PyProof.Rows.StrCountLaw
import PyProof.Rows.StrRev
import PyProof.Rows.StrMul
import HandS.Walk
import HandS.Words
import HandS.Nested
import HandS.Lambda
import HandS.Dict
import PyProof.Rows.TupDisplay
import HandS.WordsExc
import KE.GoesNew
import HandS.DictComp
import HandS.More
import HandS.Zip
import KE.GoesEnum
import HandS.SlotsOwn
import HandS.Property
import KE.KCallOwn
import KE.KFmtOwn
import PyProof.InstNe
import HandS.FStr
import HandS.Star
import KE.KDictZip
import HandS.Zip0
import HandS.ClsMeth
import PyProof.CollectStr
import HandS.ExcValue
import HandS.HeadHook3
import HandS.EndTab
import PySem.Challenge.RW_watchkinds_k06_boxes_by_what_words_have
set_option Elab.async false
set_option linter.all false
set_option maxRecDepth 100000
set_option maxHeartbeats 4000000
/-! The dice of a law: where they stand, what a roll leaves of them. -/
namespace WK
open PySem L2 PyProof.Rows
def top (i : Nat) : Stmt := PySem.Challenge.pw_watchkinds_k06_boxes_by_what_words_have.main.body.getD i (.Pass ⟨0, 0, 0, 0⟩)
abbrev sDice : Stmt := top 50
abbrev sRoll : Stmt := top 51
abbrev sOne : Stmt := top 52
/-- a power of any two numbers of which the result is not too long -/
def CPowW (i j : Int) : Prop := 0 ≤ j ∧ (Builtin.Int.intBits i : Int) * j ≤ 2 ^ 27
theorem op_powW {X : Cx} : OpR X (binaryOp .Pow) (rI CPowW fun i j => .int (i ^ j.toNat)) := opI fun _ _ _ _ _ _ _ hc q => pow_int hc.1 hc.2 q
/-- the dice stand at p -/
def DiceAt (H : Hp) (p : Addr) : Prop := ∃ a b c : Int, H p = some (.lst [.int a, .int b, .int c]) ∧ 0 ≤ a ∧ 0 ≤ b ∧ 0 ≤ c
/-- all that was tracked stands, but for what is at p -/
def But (p : Addr) (H H' : Hp) : Prop := ∀ b o, H b = some o → b ≠ p → H' b = some o
theorem But.refl (p : Addr) (H : Hp) : But p H H := fun _ _ h _ => h
theorem But.trans {p : Addr} {H H1 H2 : Hp} (a : But p H H1) (b : But p H1 H2) : But p H H2 := fun c o h n => b c o (a c o h n) n
theorem But.ofSame {p : Addr} {H H' : Hp} (s : Same H H') : But p H H' := fun b o h _ => s b o h
theorem But.upd {p : Addr} {H : Hp} {o : HO} : But p H (upd H p o) := fun b u h n => by rw [upd_ne n]; exact h
/-- law's number of a cell -/
def big : Int := (10 ^ 60) ^ 10
theorem big_pos : 0 < big := by decide +kernel
def spDice (K : PySem.W.Frag) : Sp := fun vs H Q _ => ∃ (s : Addr) (ns : List Int) (k : Int), vs = [.ref s, .int k] ∧ SqL K H s (ns.map V.int) ∧ 0 ≤ k ∧
  ∀ (p : Addr) (H' : Hp), H p = none → Same H H' → DiceAt H' p → Q (.ref p) H'
def spRoll : Sp := fun vs H Q _ => ∃ (p : Addr) (n : Int), vs = [.ref p, .int n] ∧ DiceAt H p ∧ 0 < n ∧ n < 1073741824 ∧
  ∀ (r : Int) (H' : Hp), 0 ≤ r → r < n → DiceAt H' p → But p H H' → Q (.int r) H'
def spOne : Sp := fun vs H Q _ => ∃ (p q : Addr) (xs : List V), vs = [.ref p, .ref q] ∧ DiceAt H p ∧ q ≠ p ∧ H q = some (.lst xs) ∧ 0 < xs.length ∧ xs.length < 1000000 ∧
  ∀ (v : V) (H' : Hp), v ∈ xs → DiceAt H' p → But p H H' → Q v H'
structure TDice (mg : Str → Option Value) : Prop where
  len : mg "len" = none
  int : mg "int" = none
  abs : mg "abs" = none
section
variable {P : Program} {w : World} {K : PySem.W.Frag} {mg : Str → Option Value} {base : Heap}
theorem scD : FnScope ["_law_script", "_law_at", "_law_cell", "_law_great", "_law_left", "_law_mixed_here"] ["_law_script", "_law_at"] (defScope sDice) := ⟨rfl, rfl, rfl, by decide +kernel, rfl, by decide +kernel, by decide +kernel⟩
theorem ok_dice {f : Addr} {fd : FuncData} (F : Fun K "_law_dice" "_law_dice" sDice f fd) (T : TDice mg) : FnOk P w K mg base CX0 1 f fd ["_law_script", "_law_at"] (spDice K) := by
  refine F.ok scD (fun vs H Q E h => ?_) (fun cdv A outer s H vs Q E hr h => ?_)
  · obtain ⟨s, ns, k, rfl, _⟩ := h
    rfl
  · obtain ⟨s, ns, k, rfl, hS, hk, q⟩ := h
    refine ⟨_, pss_cons (ps_set (i := 2) scD.nd rfl (Or.inl rfl) (pe_op op_add (pe_op op_mul pe_int (pv 1)) pe_int))
      (C8.pss_cut (ps_if (pt_cmpR op_lt (pv 1) (pe_callB call_len_seq (by rfl) T.len PySem.boot_len (pa_cons (pv 0) pa_nil)) (nomark _))
        (pss_one (ps_set (i := 2) scD.nd rfl (Or.inl rfl) (pe_ix ix_list (pv 0) (pv 1) (fun _ _ => rfl)))) pss_nil)
      (pss_cons (ps_set (i := 3) scD.nd rfl (Or.inl rfl) (pe_op op_mod (pe_callTy call_int1 (by rfl) T.int (by decide +kernel) (pa_cons (pe_callB call_abs (by rfl) T.abs (by decide +kernel) (pa_cons (pv 2) pa_nil)) pa_nil)) (pe_op op_powW (pe_op op_pow pe_int pe_int) pe_int)))
      (pss_cons (ps_set (i := 4) scD.nd rfl (Or.inl rfl) (pe_op op_fdivW (pv 3) (pe_op op_pow pe_int pe_int)))
      (pss_cons (ps_set (i := 5) scD.nd rfl (Or.inl rfl) (pe_op op_add (pe_op op_add (pe_op op_add (pe_op op_mul (pe_op op_mod (pv 3) pe_int) pe_int) (pe_op op_mul pe_int (pv 1)))
          (pe_op op_mul pe_int (pe_callTy call_int1 (by rfl) T.int (by decide +kernel) (pa_cons (pe_cmpR op_lt (pv 2) pe_int (nomark _)) pa_nil)))) pe_int))
      (pss_one (ps_ret (pe_lst (pa_cons (pv 4) (pa_cons (pe_op op_mod (pv 5) pe_int) (pa_cons pe_int pa_nil)))))))))), ?_⟩
    refine ⟨_, rfl, _, _, rfl, rfl, .inl ⟨by decide, by decide⟩, _, _, rfl, rfl, ?_⟩
    -- behind the if: some cell
    refine ⟨fun σ H' => H' = H ∧ ∃ c : Int, σ = [some (.ref s), some (.int k), some (.int c), none, none, none], ?_, ?_⟩
    · refine ⟨_, rfl, _, rfl, s, _, rfl, .inl hS, _, _, rfl, rfl, _, rfl, ?_⟩
      refine ite2 (fun hc => ?_) (fun _ => ?_)
      · have hl : k < ((ns.map V.int).length : Int) := of_decide_eq_true hc
        rw [List.length_map] at hl
        have hj : k.toNat < ns.length := by omega
        have e1 : (ns.map V.int)[k.toNat]? = some (V.int ns[k.toNat]) := by
          rw [List.getElem?_map, List.getElem?_eq_getElem hj]
          rfl
        have e2 := atI_nat e1
        rw [Int.toNat_of_nonneg hk] at e2
        exact ⟨_, rfl, _, rfl, s, _, _, _, rfl, rfl, hS, e2, rfl, _, rfl⟩
      · exact ⟨rfl, _, rfl⟩
    · rintro σ H' ⟨rfl, c, rfl⟩
      refine ⟨_, rfl, _, rfl, .inl ⟨_, rfl, ?_⟩⟩
      refine ⟨_, _, rfl, rfl, ⟨by decide, by decide, by decide +kernel⟩, _, _, rfl, rfl, ⟨by decide, by decide +kernel⟩, _, _, rfl, rfl, big_pos, ?_⟩
      refine ⟨_, rfl, _, _, rfl, rfl, ⟨by decide, by decide, by decide +kernel⟩, _, _, rfl, rfl, wide_div (b := 64) (by decide +kernel) (by decide +kernel) (by decide) (by decide), ?_⟩
      refine ⟨_, rfl, _, _, rfl, rfl, (by show (0 : Int) < 2147483059; decide), _, _, rfl, rfl, .inr ⟨by decide, by decide⟩, _, rfl, _, _, rfl, rfl, .inl ⟨by decide, by decide⟩, _, _, rfl, rfl, ?_⟩
      refine ⟨_, rfl, _, _, rfl, rfl, .inr ⟨_, rfl, ?_⟩⟩
      refine ⟨_, _, rfl, rfl, .inl ⟨by decide, by decide⟩, _, _, rfl, rfl, _, _, rfl, rfl, ?_⟩
      refine ⟨_, rfl, _, rfl, _, _, rfl, rfl, (by show (0 : Int) < 2147483053; decide), (by show 3 ≤ sizeLine; decide), fun p hp => q p _ hp (fun b o e => by rw [upd_ne (ne_of_none e hp)]; exact e) ⟨_, _, _, upd_same, ?_, ?_, Int.le_refl 0⟩⟩
      · exact Int.ediv_nonneg (Int.emod_nonneg _ (Int.ne_of_gt big_pos)) (by decide)
      · exact Int.emod_nonneg _ (by decide)
/-- of a roll -/
theorem scR : FnScope ["_law_dice_here", "_law_total_here", "_law_number", "_law_drawn", "_law_one", "_law_two"] ["_law_dice_here", "_law_total_here"] (defScope sRoll) := ⟨rfl, rfl, rfl, by decide +kernel, rfl, by decide +kernel, by decide +kernel⟩
theorem ok_roll {f : Addr} {fd : FuncData} (F : Fun K "_law_roll" "_law_roll" sRoll f fd) (T : TDice mg) : FnOk P w K mg base CX0 1 f fd ["_law_dice_here", "_law_total_here"] spRoll := by
  refine F.ok scR (fun vs H Q E h => ?_) (fun cdv A outer s H vs Q E hr h => ?_)
  · obtain ⟨p, n, rfl, _⟩ := h
    rfl
  · obtain ⟨p, n, rfl, ⟨a, b, c, hD, ha, hb, hc⟩, hn, hn2, q⟩ := h
    refine ⟨_, pss_cons (ps_set (i := 2) scR.nd rfl (Or.inl rfl) (pe_callTy call_int1 (by rfl) T.int (by decide +kernel) (pa_cons (pv 1) pa_nil)))
      (pss_cons (ps_if (pt_cmpR op_gt (pe_ix ix_list (pv 0) pe_int (fun _ _ => rfl)) pe_int (nomark _))
        (pss_cons (ps_set (i := 3) scR.nd rfl (Or.inl rfl) (pe_op op_mod (pe_ix ix_list (pv 0) pe_int (fun _ _ => rfl)) (pv 2)))
        (pss_cons (ps_asg (pe_op op_fdiv (pe_ix ix_list (pv 0) pe_int (fun _ _ => rfl)) (pv 2)) (pg_sub (pv 0) pe_int set_list))
        (pss_one (ps_ret (pe_callTy call_int1 (by rfl) T.int (by decide +kernel) (pa_cons (pv 3) pa_nil)))))) pss_nil)
      (pss_cons (ps_asg (pe_op op_add (pe_ix ix_list (pv 0) pe_int (fun _ _ => rfl)) pe_int) (pg_sub (pv 0) pe_int set_list))
      (pss_cons (ps_set (i := 4) scR.nd rfl (Or.inl rfl) (pe_op op_mod (pe_op op_add (pe_ix ix_list (pv 0) pe_int (fun _ _ => rfl)) (pe_op op_mul pe_int (pe_ix ix_list (pv 0) pe_int (fun _ _ => rfl)))) pe_int))
      (pss_cons (ps_set (i := 5) scR.nd rfl (Or.inl rfl) (pe_op op_add (pe_op op_mul (pe_op op_mod (pe_op op_mul (pv 4) (pv 4)) pe_int) (pv 4)) (pe_op op_mul pe_int (pe_ix ix_list (pv 0) pe_int (fun _ _ => rfl)))))
      (pss_cons (ps_set (i := 5) scR.nd rfl (Or.inl rfl) (pe_op op_mod (pv 5) pe_int))
      (pss_one (ps_ret (pe_callTy call_int1 (by rfl) T.int (by decide +kernel) (pa_cons (pe_op op_mod (pe_op op_fdiv (pv 5) pe_int) (pv 2)) pa_nil))))))))), ?_⟩
    refine ⟨_, rfl, .inl ⟨_, rfl, ?_⟩⟩
    refine ⟨_, rfl, p, _, _, _, rfl, rfl, SqL.of hD, atI_nat (j := 0) rfl, _, _, rfl, rfl, _, rfl, ?_⟩
    refine ite2 (fun hc' => ?_) (fun hc' => ?_)
    · refine ⟨_, rfl, p, _, _, _, rfl, rfl, SqL.of hD, atI_nat (j := 0) rfl, _, rfl, _, _, rfl, rfl, hn, ?_⟩
      refine ⟨_, rfl, p, _, _, _, rfl, rfl, SqL.of hD, atI_nat (j := 0) rfl, _, rfl, _, _, rfl, rfl, ⟨hn, hn2⟩, ?_⟩
      refine ⟨_, rfl, p, _, _, 0, rfl, rfl, hD, rfl, ?_⟩
      refine ⟨_, rfl, .inl ⟨_, rfl, ?_⟩⟩
      exact q _ _ (Int.emod_nonneg _ (Int.ne_of_gt hn)) (Int.emod_lt_of_pos _ hn) ⟨_, _, _, upd_same, Int.ediv_nonneg ha (Int.le_of_lt hn), hb, hc⟩ But.upd
    · refine ⟨_, rfl, p, _, _, _, rfl, rfl, SqL.of hD, atI_nat (j := 2) rfl, _, _, rfl, rfl, _, rfl, p, _, _, 2, rfl, rfl, hD, rfl, ?_⟩
      have h2 : (upd H p (.lst [.int a, .int b, .int (c + 1)])) p = some (.lst [.int a, .int b, .int (c + 1)]) := upd_same
      refine ⟨_, rfl, p, _, _, _, rfl, rfl, SqL.of h2, atI_nat (j := 1) rfl, _, rfl, p, _, _, _, rfl, rfl, SqL.of h2, atI_nat (j := 2) rfl, _, _, rfl, rfl, .inl ⟨by decide, by decide⟩, _, _, rfl, rfl, _, _, rfl, rfl, (by show (0 : Int) < 2305843009213693951; decide), ?_⟩
      have one0 : ∀ x : Int, -(2 ^ 64) < x % 2305843009213693951 ∧ x % 2305843009213693951 < 2 ^ 64 := fun x => by
        have l := Int.emod_nonneg x (show (2305843009213693951 : Int) ≠ 0 by decide)
        have u := Int.emod_lt_of_pos x (show (0 : Int) < 2305843009213693951 by decide)
        exact ⟨by omega, by omega⟩
      refine ⟨_, rfl, _, rfl, _, _, rfl, rfl, .inl (one0 _), _, _, rfl, rfl, (by show (0 : Int) < 2305843009213693921; decide), _, rfl, _, _, rfl, rfl, .inr (one0 _), _, rfl, p, _, _, _, rfl, rfl, SqL.of h2, atI_nat (j := 2) rfl, _, _, rfl, rfl, .inl ⟨by decide, by decide⟩, _, _, rfl, rfl, ?_⟩
      refine ⟨_, rfl, _, _, rfl, rfl, (by show (0 : Int) < 2305843009213693907; decide), ?_⟩
      refine ⟨_, rfl, _, _, rfl, rfl, ⟨by decide, by decide⟩, _, rfl, _, _, rfl, rfl, hn, .inl ⟨_, rfl, ?_⟩⟩
      exact q _ _ (Int.emod_nonneg _ (Int.ne_of_gt hn)) (Int.emod_lt_of_pos _ hn) ⟨_, _, _, upd_same, ha, hb, by omega⟩ But.upd
theorem scO : FnScope ["_law_dice_here", "_law_items"] ["_law_dice_here", "_law_items"] (defScope sOne) := ⟨rfl, rfl, rfl, by decide +kernel, rfl, by decide +kernel, by decide +kernel⟩
theorem ok_one {f fR : Addr} {fd fdR : FuncData} (F : Fun K "_law_one_of" "_law_one_of" sOne f fd) (T : TDice mg) (gR : mg "_law_roll" = some (.ref fR)) (FR : Fun K "_law_roll" "_law_roll" sRoll fR fdR) (bR : Binds K fdR ["_law_dice_here", "_law_total_here"] []) :
    FnOk P w K mg base CX0 2 f fd ["_law_dice_here", "_law_items"] spOne := by
  have GR : FnOk P w K mg base CX0 1 fR fdR ["_law_dice_here", "_law_total_here"] spRoll := ok_roll FR T
  refine F.ok scO (fun vs H Q E h => ?_) (fun cdv A outer s H vs Q E hr h => ?_)
  · obtain ⟨p, n, _, rfl, _⟩ := h
    rfl
  · obtain ⟨p, a, xs, rfl, hD, hne, hx, h0, h1, q⟩ := h
    refine ⟨_, pss_one (ps_ret (pe_ix ix_list (pv 1) (pe_call GR hr rfl gR FR.kp bR .nil pass0 (pa_cons (pv 0) (pa_cons (pe_callB call_len_seq (by rfl) T.len PySem.boot_len (pa_cons (pv 1) pa_nil)) pa_nil))) (fun _ _ => rfl))), ?_⟩
    refine ⟨_, rfl, _, rfl, _, rfl, a, _, rfl, .inl (SqL.of hx), p, _, rfl, hD, by omega, by omega, fun r H' hr0 hr1 hD' hB => ?_⟩
    have hj : r.toNat < xs.length := by omega
    have e1 : xs[r.toNat]? = some xs[r.toNat] := List.getElem?_eq_getElem hj
    have e2 := atI_nat e1
    rw [Int.toNat_of_nonneg hr0] at e2
    exact ⟨a, _, _, _, rfl, rfl, SqL.of (hB _ _ hx hne), e2, q _ _ (List.getElem_mem hj) hD' hB⟩
end
end WK

set_option Elab.async false
set_option linter.all false
set_option maxRecDepth 100000
set_option maxHeartbeats 4000000
/-! Sets of the signs of a text, made by set(text), and sorted. -/
namespace TX
open PySem PySem.Spec PyProof.Rows L2
/-- the text of an entry -/
def txOf (e : Int × Value) : Str := strOf e.2
def GoodX (w : World) (e : Int × Value) : Prop := ∃ k tk, e.2 = Value.str k tk ∧ e.1 = hashStr w k
/-- what holds of the entries of a set of texts, whatever object bears them: T says its members -/
structure Fine (w : World) (T : Str → Bool) (es : Array (Int × Value)) (t : SetTable) : Prop where
  good : ∀ e ∈ es.toList, GoodX w e
  once : (es.toList.map txOf).Nodup
  mem : ∀ k, T k = true ↔ k ∈ es.toList.map txOf
  few : es.size < scanBound
  fit : t.fits es.size = true
  ris : Ris t.place.toList
  led : t.led = true ∨ w.params.followText "set-order" = true
/-- a set of n texts at a -/
structure SetX (w : World) (h : Heap) (a : Addr) (T : Str → Bool) (n : Nat) (o : Obj) (es : Array (Int × Value)) (ep : Nat) (t : SetTable) : Prop where
  ob : h.get? a = some o
  ex : o.ExactSet
  dat : o.data = .set es ep t
  sz : es.size = n
  fine : Fine w T es t
def HasX (w : World) (h : Heap) (a : Addr) (T : Str → Bool) (n : Nat) : Prop := ∃ o es ep t, SetX w h a T n o es ep t
section
variable {P : Program} {w : World} {h h' : Heap} {a : Addr} {T : Str → Bool} {n : Nat}
theorem HasX.at (R : HasX w h a T n) (k : ∀ o, h.get? a = some o → h'.get? a = some o) : HasX w h' a T n := by
  obtain ⟨o, es, ep, t, r⟩ := R
  exact ⟨o, es, ep, t, { r with ob := k o r.ob }⟩
theorem HasX.congr {T' : Str → Bool} (R : HasX w h a T n) (e : ∀ k, T' k = T k) : HasX w h a T' n := by
  have q : T' = T := funext e
  rw [q]; exact R
theorem good_elems {l : List (Int × Value)} (g : ∀ e ∈ l, GoodX w e) : ElemsOf (PySem.strKind P w) l := fun e at_e =>
  match e, g e at_e with
  | (_, _), ⟨k, tk, rfl, hash⟩ => ⟨⟨k, Froz.is_str k tk, hash⟩, by rfl⟩
theorem good_is {e : Int × Value} (g : GoodX w e) (k : Str) : (PySem.strKind P w).is k e.2 = true ↔ txOf e = k :=
  match e, g with
  | (_, _), ⟨j, tk, rfl, _⟩ => ⟨fun q => (PySem.strKind P w).inj (.str j tk) j k (Froz.is_str j tk) q, fun q => q ▸ Froz.is_str j tk⟩
/-- the scan of the entries finds a text just where T says so -/
theorem Fine.look {es : Array (Int × Value)} {t : SetTable} (F : Fine w T es t) (k : Str) : (es.toList.findIdx? fun e => (PySem.strKind P w).is k e.2).isSome = T k := by
  rw [List.findIdx?_isSome, Bool.eq_iff_iff, List.any_eq_true, F.mem k, List.mem_map]
  exact ⟨fun ⟨e, at_e, q⟩ => ⟨e, at_e, (good_is (F.good e at_e) k).mp q⟩, fun ⟨e, at_e, q⟩ => ⟨e, at_e, (good_is (F.good e at_e) k).mpr q⟩⟩
theorem Fine.moved {es fs : Array (Int × Value)} {t u : SetTable} (F : Fine w T es t) (p : fs.toList.Perm es.toList) (fit : u.fits fs.size = true) (ris : Ris u.place.toList) (led : u.led = t.led) : Fine w T fs u ∧ fs.size = es.size := by
  have size := p.length_eq
  rw [Array.length_toList, Array.length_toList] at size
  exact ⟨⟨fun e at_e => F.good e (p.mem_iff.mp at_e), (p.map txOf).nodup_iff.mpr F.once, fun k => (F.mem k).trans (p.map txOf).mem_iff.symm, size ▸ F.few, fit, ris, led ▸ F.led⟩, size⟩
theorem Fine.more {es fs : Array (Int × Value)} {t u : SetTable} {k : Str} {tk : Tok} (F : Fine w T es t) (out : T k = false) (room : es.size + 1 < scanBound)
    (p : fs.toList.Perm (es.push ((PySem.strKind P w).hash k, .str k tk)).toList) (fit : u.fits fs.size = true) (ris : Ris u.place.toList) (led : u.led = t.led) :
    Fine w (fun j => T j || decide (j = k)) fs u ∧ fs.size = es.size + 1 := by
  have pe : fs.toList.Perm (((PySem.strKind P w).hash k, Value.str k tk) :: es.toList) := p.trans (by rw [Array.toList_push]; exact List.perm_append_singleton _ _)
  have pt : (fs.toList.map txOf).Perm (k :: es.toList.map txOf) := pe.map txOf
  have size := pe.length_eq
  rw [List.length_cons, Array.length_toList, Array.length_toList] at size
  refine ⟨⟨fun e at_e => ?_, pt.nodup_iff.mpr (List.nodup_cons.mpr ⟨fun z => ?_, F.once⟩), fun j => ?_, size ▸ room, fit, ris, led ▸ F.led⟩, size⟩
  · cases pe.mem_iff.mp at_e with
    | head => exact ⟨k, tk, rfl, rfl⟩
    | tail _ old => exact F.good e old
  · exact Bool.false_ne_true (out.symm.trans ((F.mem k).mpr z))
  · simp only [pt.mem_iff, List.mem_cons, Bool.or_eq_true, decide_eq_true_eq, F.mem j]
    exact Or.comm
theorem Fine.plainOff {es : Array (Int × Value)} {t : SetTable} (F : Fine w T es t) : Fine w T es { t with plain := false } := { F with fit := SetTable.fits_plain_off F.fit }
end
section
variable {P : Program} {w : World} {A : Around} {E : Value → Shared → Prop} {s : Shared} {a : Addr} {T : Str → Bool} {n : Nat}
/-- the entries are laid down, and laid anew where the table is too full -/
theorem lay {g : Bool → Sem Unit} (calm : ∀ (b : Bool) (r : Shared) (K : Unit → Shared → Prop), K () r → wpAny (model P w) A (g b) K E r) {o : Obj} {es fs : Array (Int × Value)} {ep : Nat} {t u : SetTable}
    (ob : s.heap.get? a = some o) (ex : o.ExactSet) (dat : o.data = .set es ep t) (F : Fine w T fs u) {again : Bool} {R : Option Bool → Shared → Prop}
    (done : ∀ k, Heap.SameBut a s.heap k → HasX w k a T fs.size → R (some true) { s with heap := k }) :
    wpAny (model P w) A (storeSet a fs u >>= fun _ => if (!again && u.tooFull) = true then
        g (relayAll u fs (SetTable.grown fs.size)).2.2 >>= fun _ => storeSet a (relayAll u fs (SetTable.grown fs.size)).1 (relayAll u fs (SetTable.grown fs.size)).2.1 >>= fun _ => pure (some true)
      else pure (some true)) R E s := by
  have same1 := Heap.SameBut.update s.heap a (Obj.putSet fs u)
  have at1 := store_at (es' := fs) (t' := u) ob dat
  refine wpAny_bind (wpAny_storeSet_of ob dat ?_ (fits_of_scanBound F.few))
  by_cases full : (!again && u.tooFull) = true
  · rw [if_pos full]
    obtain ⟨F2, size2⟩ := F.moved (relayAll_perm u fs (SetTable.grown fs.size)) (relayAll_fits u fs _) (relayAll_ris u fs _) (relayAll_led u fs _)
    exact wpAny_bind (calm _ _ _ (wpAny_bind (wpAny_storeSet_of at1 rfl (wpAny_pure (done _ (same1.trans (Heap.SameBut.update _ a _)) ⟨_, _, _, _, store_at at1 rfl, ex, rfl, size2, F2⟩)) (fits_of_scanBound F2.few))))
  · rw [if_neg full]
    exact wpAny_pure (done _ same1 ⟨_, fs, _, u, at1, ex, rfl, rfl, F⟩)
theorem add {k : Str} {tk : Tok} {Q : Bool → Shared → Prop} (R : HasX w s.heap a T n) (room : n + 1 < scanBound)
    (hQ : ∀ h', Heap.SameBut a s.heap h' → HasX w h' a (fun j => T j || decide (j = k)) (if T k = true then n else n + 1) → Q (!T k) { s with heap := h' }) :
    wpAny (model P w) A (setAddHashed a (.str k tk) ((PySem.strKind P w).hash k)) Q E s := by
  obtain ⟨o, es, ep, t, ob, ex, dat, rfl, F⟩ := R
  have scans : (Value.str k tk).scannable = true := rfl
  have els := good_elems (P := P) F.good
  have calm : ∀ (b : Bool) (r : Shared) (K : Unit → Shared → Prop), K () r → wpAny (model P w) A (match b with | true => rule "set.scan.the-table-gave-way" | false => pure ()) K E r
    | true, _, _, q => wpAny_rule q
    | false, _, _, q => wpAny_pure q
  unfold setAddHashed; unfold setAddHashedIn
  refine wpAny_holding (wpAny_bind (wpAny_setState_of ob dat F.fit ?_))
  simp only [byScan_of scans F.few els, ↓reduceIte]
  unfold setAddByScan
  refine wpAny_bind (wpAny_bind (wpAny_rule (wpAny_bind (wpAny_setScan_of (Froz.is_str k tk) ob dat F.fit els ?_))))
  have seen := F.look (P := P) k
  cases found : es.toList.findIdx? (fun e => (PySem.strKind P w).is k e.2) with
  | some j =>
    rw [found] at seen
    have inT : T k = true := seen.symm
    have q := hQ s.heap (Heap.SameBut.refl a s.heap) ⟨o, es, ep, t, ob, ex, dat, (if_pos inT).symm, { F with mem := fun i => (F.mem i).symm.trans ?_ |>.symm }⟩
    · rw [inT] at q
      exact wpAny_pure (wpAny_pure q)
    · simp only [Bool.or_eq_true, decide_eq_true_eq]
      exact ⟨.inl, fun z => z.elim id fun e => e ▸ inT⟩
  | none =>
    rw [found] at seen
    have out : T k = false := seen.symm
    have F1 := F.more (P := P) (k := k) (tk := tk) out room (layNew_perm t es _ _) (layNew_fits t es _ _) (layNew_ris t es _ _ F.ris) (layNew_led t es _ _)
    revert F1
    generalize layNew t es ((PySem.strKind P w).hash k) (.str k tk) = Z
    rcases Z with ⟨fs, u, again, gave⟩
    rintro ⟨F1, size1⟩
    have fin : ∀ g, Heap.SameBut a s.heap g → HasX w g a (fun j => T j || decide (j = k)) fs.size → Q true { s with heap := g } := fun g same r => by
      have q := hQ g same
      simp only [out, Bool.false_eq_true, if_false, Bool.not_false] at q
      exact q (size1 ▸ r)
    dsimp only
    refine wpAny_bind (calm _ _ _ ?_)
    split
    · rw [hashByValue_scannable 8 scans]
      refine wpAny_bind (wpAny_pure (lay (T := fun j => T j || decide (j = k)) ?_ ob ex dat ?_ fun g same r => ?_))
      · exact fun b r K q => by cases b <;> first | exact wpAny_rule q | exact wpAny_pure q
      · first | exact F1 | (split <;> first | exact F1 | exact F1.plainOff)
      · dsimp only
        exact wpAny_pure (fin g same r)
    · refine wpAny_bind (wpAny_pure ?_)
      simp only [↓reduceIte]
      refine lay (T := fun j => T j || decide (j = k)) ?_ ob ex dat F1 fun g same r => ?_
      · exact fun b r K q => by cases b <;> first | exact wpAny_rule q | exact wpAny_pure q
      · dsimp only
        exact wpAny_pure (fin g same r)
end
/-- a set as it is made -/
abbrev newSet (w : World) : Obj := { cls := .type "set", dict := none, data := .set #[] 0 (.fresh 0 0 (!w.params.followText "set-order")) }
theorem fresh {h : Heap} (w : World) : HasX w (h.push (newSet w)) h.objs.size (fun _ => false) 0 := by
  refine ⟨_, #[], 0, _, Heap.get?_push_size _ rfl, ⟨rfl, rfl, rfl⟩, rfl, rfl, ⟨fun e at_e => by simp at at_e, by simp, fun k => by simp, by decide, by rfl, List.Pairwise.nil, ?_⟩⟩
  show (!w.params.followText "set-order") = true ∨ _
  cases w.params.followText "set-order" <;> simp
section
variable {prog : Program} {w : World} {A : Around} {R : Result → Shared → Prop} {I : Addr} {fp wr : List Addr} {n : Nat} {x : Str} {St : Nat → Heap → Prop}
/-- the signs of a text, one after the other, into the set: left of them are still to come -/
theorem loop (W : Walks prog w A.in1 I fp wr n (SignAt x) St) (hn : n = x.cps.size) (S : Addr) (away : S ∉ fp) (room : n + 1 < scanBound) :
    ∀ (left i : Nat) (s : Shared) (T : Str → Bool) (c : Nat), n - i = left → i ≤ n → St i s.heap → HasX w s.heap S T c → c ≤ i →
      (∀ g tk T' c', HasX w g S T' c' → c' ≤ n → (∀ k, T' k = (T k || (x.cps.toList.drop i).any fun z => decide (k = ⟨#[z]⟩))) → (∀ b q, b ∉ S :: wr → s.heap.get? b = some q → g.get? b = some q) →
        R (.ok (.ret .none)) { s with heap := g, toks := tk }) →
      codeAny (model prog w) A (.builtin "set.update.loop" ⟨[.ref S, .ref I], []⟩) R s := by
  have apart : S ∉ wr := fun z => away (W.sub _ z)
  intro left
  induction left with
  | zero =>
    intro i s T c hm hi st isSet hc done
    obtain rfl : i = n := by omega
    refine codeAny_builtin PyProof.Rows.F.entry_set_update_loop (Around.under_plainId PyProof.Rows.F.plain_set_update_loop _ ▸ wpAny_bind (m := pyNext (.ref I)) (W.done s _ _ st fun g tk keep => ?_))
    refine wpAny_pure (done g tk T c (isSet.at fun q at_S => keep S q apart at_S) hc (fun k => ?_) fun b q nb at_b => keep b q (fun z => nb (.tail _ z)) at_b)
    rw [List.drop_of_length_le (by rw [hn]; simp)]
    simp
  | succ left ih =>
    intro i s T c hm hi st isSet hc done
    have more : i < n := by omega
    refine codeAny_builtin PyProof.Rows.F.entry_set_update_loop (Around.under_plainId PyProof.Rows.F.plain_set_update_loop _ ▸ wpAny_bind (m := pyNext (.ref I)) (W.item i s _ _ more st fun v g tk isSign st' keep => ?_))
    obtain ⟨z, t, hz, rfl⟩ := isSign
    refine wpAny_bind (m := holding [Value.str ⟨#[z]⟩ t] (setAdd S (.str ⟨#[z]⟩ t))) (wpAny_holding ?_)
    unfold setAdd
    refine wpAny_holding (wpAny_bind ((PySem.strKind prog w).pyHash (k := ⟨#[z]⟩) (Froz.is_str _ _) ?_))
    refine add (s := { s with heap := g, toks := tk + 1 }) (isSet.at fun q at_S => keep S q apart at_S) (by omega) fun g2 same isSet2 => ?_
    have keep2 : ∀ b q, b ∉ S :: wr → s.heap.get? b = some q → g2.get? b = some q := fun b q nb at_b => (same.2 b fun z => nb (z ▸ List.mem_cons_self)).trans (keep b q (fun z => nb (.tail _ z)) at_b)
    refine wpAny_pure ⟨plainId_quiet PyProof.Rows.F.plain_set_update_loop _, ih (i + 1) { s with heap := g2, toks := tk + 1 } _ _ (by omega) more (W.frame _ g _ st' fun b hb q at_b => ?_) isSet2 (by split <;> omega) fun g3 tk3 T3 c3 r3 l3 m3 k3 => ?_⟩
    · exact (same.2 b fun z : b = S => away (z ▸ hb)).trans at_b
    · refine done g3 tk3 T3 c3 r3 l3 (fun k => ?_) fun b q nb at_b => k3 b q nb (keep2 b q nb at_b)
      rw [m3 k, Fz.drop_at hz, List.any_cons, Bool.or_assoc]
end
section
variable {P : Program} {w : World} {A : Around} {E : Value → Shared → Prop} {s : Shared}
set_option maxHeartbeats 6400000 in
/-- set(text) -/
theorem call_set {x : Str} {t : Tok} {Q : Value → Shared → Prop} (calm : A.handled = none) (room : x.cps.size + 1 < scanBound)
    (h : ∀ (g : Heap) (tk : Nat) T c, HasX w g s.heap.objs.size T c → c ≤ x.cps.size → (∀ k, T k = x.cps.toList.any fun z => decide (k = ⟨#[z]⟩)) → (∀ b q, s.heap.get? b = some q → g.get? b = some q) → Q (.ref s.heap.objs.size) { s with heap := g, toks := tk }) :
    wpAny (model P w) A (call (.type "set") [.str x t]) Q E s := by
  have made := F.called_set.made; have isSub := F.called_set.sub; have noType := F.called_set.notType; have creates := F.called_set.canCreate
  obtain ⟨_, _, _⟩ := F.called_set.mro
  have typeCall := F.typeCall_set_1 (.str x t)
  refine wpAny_call (codeAny_of_tree ?_)
  change wpAny _ _ (callAny (.type "set") _) _ _ s
  refine wpAny_pure (And.intro (Code.quiet_builtin _ (by decide +kernel)) (codeAny_builtin F.entry_type_call ?_))
  rw [Around.under_plain (weight_type_call_type "set" [.str x t] []) rfl]
  repeat any_goals first | assumption | wp_step
  refine codeAny_mono (code_set_led1 (.str x t) (E := E) (Q₁ := fun v r => v = .ref s.heap.objs.size ∧ r = { s with heap := s.heap.push (newSet w) }) ⟨rfl, rfl⟩) fun
    | .error _, _, hr => hr
    | .ok (.ret _), _, ⟨rfl, rfl⟩ => ?_
    | .ok .next, _, hr => hr.elim
    | .ok .brk, _, hr => hr.elim
    | .ok .cont, _, hr => hr.elim
  have isTy : Shared.TypeIs { s with heap := s.heap.push (newSet w) } (.ref s.heap.objs.size) "set" := ⟨_, Heap.get?_push_size _ rfl, rfl⟩
  have found := F.called_set.init.lookup
  have bound := F.called_set.init.bind (.ref s.heap.objs.size)
  repeat any_goals first | assumption | wp_step
  refine codeAny_mono (codeAny_call_builtin (R := wants (fun v r => v = .none ∧ ∃ g tk T c, r = { s with heap := g, toks := tk } ∧ HasX w g s.heap.objs.size T c ∧ c ≤ x.cps.size ∧ (∀ k, T k = x.cps.toList.any fun z => decide (k = ⟨#[z]⟩)) ∧
      ∀ b q, s.heap.get? b = some q → g.get? b = some q) E) F.called_set.init.plain F.entry_set_init (check_set_init_1 isTy ?_)) fun
    | .error _, _, hr => hr
    | .ok (.ret _), _, ⟨rfl, _, _, _, _, rfl, r1, r2, r3, r4⟩ => ?_
    | .ok .next, _, hr => hr.elim
    | .ok .brk, _, hr => hr.elim
    | .ok .cont, _, hr => hr.elim
  · have f1 := F.sub_str_set; have f2 := F.sub_str_frozenset; have f3 := typeIs_str
    have f4 : (Value.type "str" == Value.type "dict") = false := by decide
    unfold Builtin.«set.__init__» noKeywords; unfold Builtin.Frozenset.updateFrom
    generalize asIter : pyIter = PI
    wp_walk
    subst asIter
    have size1 : (s.heap.push (newSet w)).objs.size = s.heap.objs.size + 1 := Heap.size_push ..
    refine wpAny_pyIter_str fun o St W st => wpAny_bind (wpAny_runValue (loop (W _ (by simp [calm])) rfl s.heap.objs.size ?_ room _ 0 _ (fun _ => false) 0 rfl (Nat.zero_le _) st ((fresh w).at fun q at_b => Heap.get?_push_of_some _ at_b) (Nat.le_refl _) fun g tk T c r lc m keep => ?_))
    · rw [List.mem_singleton, size1]
      exact Nat.ne_of_lt (Nat.lt_succ_self _)
    · show wpAny _ _ _ _ _ _
      refine wpAny_pure (wpAny_pure ⟨rfl, g, tk, T, c, rfl, r, lc, fun z => by rw [m z, List.drop_zero, Bool.false_or], fun b q at_b => keep b q ?_ (Heap.get?_push_of_some _ (Heap.get?_push_of_some _ at_b))⟩)
      have below := Heap.lt_size at_b
      simp only [List.mem_cons, List.mem_singleton, List.not_mem_nil, or_false, not_or, size1]
      exact ⟨Nat.ne_of_lt below, Nat.ne_of_lt (Nat.lt_succ_of_lt below)⟩
  · repeat any_goals first | assumption | wp_step
    exact h _ _ _ _ r1 r2 r3 r4
end
end TX

set_option Elab.async false
set_option linter.all false
set_option maxRecDepth 100000
set_option maxHeartbeats 4000000
/-! sorted(set(text)): the signs of a text, each once, ascending; list(text). -/
namespace TX
open PySem PySem.Spec PyProof.Rows L2
/-! ### ascending lists of numbers -/
def ins (c : Nat) : List Nat → List Nat
  | [] => [c]
  | d :: r => if c < d then c :: d :: r else if c = d then d :: r else d :: ins c r
/-- the numbers of a list, each once, ascending -/
def sigs : List Nat → List Nat
  | [] => []
  | c :: r => ins c (sigs r)
theorem mem_ins (c k : Nat) : ∀ l : List Nat, k ∈ ins c l ↔ k = c ∨ k ∈ l
  | [] => by simp [ins]
  | d :: r => by
    unfold ins
    split
    · simp
    · split
      · rename_i _ e
        subst e
        simp
      · simp only [List.mem_cons, mem_ins c k r]
        exact ⟨fun h => h.elim (fun e => .inr (.inl e)) (fun h => h.elim .inl fun h => .inr (.inr h)), fun h => h.elim (fun e => .inr (.inl e)) fun h => h.elim .inl fun h => .inr (.inr h)⟩
theorem mem_sigs (k : Nat) : ∀ l : List Nat, k ∈ sigs l ↔ k ∈ l
  | [] => Iff.rfl
  | c :: r => by rw [sigs, mem_ins, mem_sigs k r, List.mem_cons]
theorem asc_ins (c : Nat) : ∀ l : List Nat, l.Pairwise (· < ·) → (ins c l).Pairwise (· < ·)
  | [], _ => List.pairwise_singleton ..
  | d :: r, h => by
    have ⟨h1, h2⟩ := List.pairwise_cons.mp h
    unfold ins
    split
    · rename_i q
      exact List.pairwise_cons.mpr ⟨fun y hy => by
        rcases List.mem_cons.mp hy with z | z
        · omega
        · have := h1 y z
          omega, h⟩
    · split
      · exact h
      · refine List.pairwise_cons.mpr ⟨fun y hy => ?_, asc_ins c r h2⟩
        rcases (mem_ins c y r).mp hy with z | z
        · omega
        · exact h1 y z
theorem asc_sigs : ∀ l : List Nat, (sigs l).Pairwise (· < ·)
  | [] => List.Pairwise.nil
  | c :: r => asc_ins c _ (asc_sigs r)
theorem asc_eq : ∀ l m : List Nat, l.Pairwise (· < ·) → m.Pairwise (· < ·) → (∀ k, k ∈ l ↔ k ∈ m) → l = m
  | [], [], _, _, _ => rfl
  | [], d :: m, _, _, h => absurd ((h d).mpr List.mem_cons_self) (by simp)
  | c :: l, [], _, _, h => absurd ((h c).mp List.mem_cons_self) (by simp)
  | c :: l, d :: m, hl, hm, h => by
    obtain ⟨l1, l2⟩ := List.pairwise_cons.mp hl
    obtain ⟨m1, m2⟩ := List.pairwise_cons.mp hm
    have e : c = d := by
      rcases List.mem_cons.mp ((h c).mp List.mem_cons_self) with z | z
      · exact z
      · rcases List.mem_cons.mp ((h d).mpr List.mem_cons_self) with y | y
        · exact y.symm
        · have := l1 d y
          have := m1 c z
          omega
    subst e
    rw [asc_eq l m l2 m2 fun k => ?_]
    constructor
    · intro hk
      rcases List.mem_cons.mp ((h k).mp (List.mem_cons_of_mem _ hk)) with z | z
      · have := l1 k hk
        omega
      · exact z
    · intro hk
      rcases List.mem_cons.mp ((h k).mpr (List.mem_cons_of_mem _ hk)) with z | z
      · have := m1 k hk
        omega
      · exact z
/-- a text of one sign -/
abbrev sg (c : Nat) : Str := ⟨#[c]⟩
def hd1 (x : Str) : Nat := x.cps.toList.headD 0
theorem sg_inj {a b : Nat} (h : sg a = sg b) : a = b := congrArg hd1 h
theorem lt_sg (a b : Nat) : ltCps (sg a).cps.toList (sg b).cps.toList = decide (a < b) := by
  rw [ltCps_eq]
  show decide ([a] < [b]) = decide (a < b)
  by_cases h : a < b
  · rw [decide_eq_true h, decide_eq_true]
    exact List.Lex.rel h
  · rw [decide_eq_false h, decide_eq_false]
    intro q
    cases q with
    | rel r => exact h r
    | cons r => cases r
theorem rising_le : ∀ (l : List Nat) (p : Nat), risingS (sg p) (l.map sg) = true → (p :: l).Pairwise (· ≤ ·)
  | [], p, _ => List.pairwise_singleton ..
  | c :: l, p, h => by
    have h' : (!ltCps (sg c).cps.toList (sg p).cps.toList && risingS (sg c) (l.map sg)) = true := h
    rw [Bool.and_eq_true, lt_sg, Bool.not_eq_true', decide_eq_false_iff_not] at h'
    have ih := rising_le l c h'.2
    obtain ⟨i1, _⟩ := List.pairwise_cons.mp ih
    refine List.pairwise_cons.mpr ⟨fun y hy => ?_, ih⟩
    rcases List.mem_cons.mp hy with z | z
    · omega
    · have := i1 y z
      omega
theorem sorted_le (l : List Nat) (h : sortedS (l.map sg) = true) : l.Pairwise (· ≤ ·) := by
  cases l with
  | nil => exact List.Pairwise.nil
  | cons p r => exact rising_le r p h
theorem lt_of_le : ∀ l : List Nat, l.Pairwise (· ≤ ·) → l.Nodup → l.Pairwise (· < ·)
  | [], _, _ => .nil
  | x :: l, .cons up rest, .cons new once => .cons (fun y at_y => Nat.lt_of_le_of_ne (up y at_y) (new y at_y)) (lt_of_le l rest once)
theorem all_sg : ∀ l : List Str, (∀ x ∈ l, ∃ c, x = sg c) → l = (l.map hd1).map sg
  | [], _ => rfl
  | x :: l, h => by
    obtain ⟨c, rfl⟩ := h x List.mem_cons_self
    rw [List.map_cons, List.map_cons, ← all_sg l fun y hy => h y (List.mem_cons_of_mem _ hy)] <;> rfl
theorem sorted_is {ss : List Str} {l : List Nat} (hs : sortedS ss = true) (hn : ss.Nodup) (hm : ∀ k, k ∈ ss ↔ ∃ z ∈ l, k = sg z) : ss = (sigs l).map sg := by
  have e := all_sg ss fun x hx => let ⟨z, _, q⟩ := (hm x).mp hx; ⟨z, q⟩
  have hn2 : (ss.map hd1).Nodup := by
    rw [e] at hn
    exact (List.pairwise_map.mp hn).imp fun h q => h (by rw [q])
  have hs2 : sortedS ((ss.map hd1).map sg) = true := by rw [← e]; exact hs
  have q : ss.map hd1 = sigs l := by
    refine asc_eq _ _ (lt_of_le _ (sorted_le _ hs2) hn2) (asc_sigs l) fun k => ?_
    rw [mem_sigs, List.mem_map]
    constructor
    · rintro ⟨x, hx, rfl⟩
      obtain ⟨z, hz, rfl⟩ := (hm x).mp hx
      exact hz
    · intro hk
      exact ⟨sg k, (hm _).mpr ⟨k, hk, rfl⟩, rfl⟩
  rw [e, q]
theorem len_sigs (l : List Nat) : (sigs l).length ≤ l.length := by
  induction l with
  | nil => exact Nat.le_refl _
  | cons c r ih =>
    have h : ∀ m : List Nat, (ins c m).length ≤ m.length + 1 := by
      intro m
      induction m with
      | nil => exact Nat.le_refl _
      | cons d m ih2 =>
        unfold ins
        split
        · simp
        · split
          · simp
          · simp only [List.length_cons]
            omega
    show (ins c (sigs r)).length ≤ r.length + 1
    have := h (sigs r)
    omega
/-! ### sorted(set) -/
section
variable {P : Program} {w : World} {A : Around} {E : Value → Shared → Prop} {s : Shared} {a : Addr}
/-- sorted(the set of the signs of x): its signs, rising -/
theorem sorted_set {x : Str} {T : Str → Bool} {n : Nat} {Q : Value → Shared → Prop} (R : HasX w s.heap a T n) (hT : ∀ k, T k = x.cps.toList.any fun z => decide (k = ⟨#[z]⟩)) (calm : A.handled = none) (h64 : n < 64)
    (hQ : ∀ r p (out : Array Value) (c : Nat), (∀ b q, s.heap.get? b = some q → r.heap.get? b = some q) → r.gens = s.gens → r.os = s.os → s.heap.objs.size ≤ p →
      r.heap.get? p = some (seqObj "list" out c) → StrsAre out.toList ((sigs x.cps.toList).map sg) → Q (.ref p) r) : wpAny (model P w) A (call (.builtin "sorted") [.ref a]) Q E s := by
  obtain ⟨o, es, ep, t, ob, ex, dat, sz, F⟩ := R
  refine Calls.call_function_entry kind_sorted plain_sorted entry_sorted (args_sorted1 _) (wpAny_bind (m := checkCount "sorted" 1 1 _) (wpAny_pure (wpAny_bind ?_)))
  refine collect_set (A := A.in1) calm ⟨o, ob, ex.1, dat⟩ F.fit F.few F.ris F.led.symm fun r vs keep grows gens os perm => ?_
  have count : vs.length = n := by rw [← sz, perm.length_eq, List.length_map, Array.length_toList]
  have texts : StrsAre vs (vs.map strOf) := strsAre_map vs fun v at_v =>
    let ⟨e, at_e, q⟩ := List.mem_map.mp (perm.mem_iff.mp at_v)
    let ⟨k, tk, isStr, _⟩ := F.good e at_e
    ⟨k, tk, q ▸ isStr⟩
  have perm2 : (vs.map strOf).Perm (es.toList.map txOf) := by have := perm.map strOf; rw [List.map_map] at this; exact this
  refine wpAny_bind (wpAny_newList (wpAny_bind ?_) (by have := count; rw [sizeLine_eq]; omega))
  have listAt : (r.heap.push (seqObj "list" vs.toArray 0)).get? r.heap.objs.size = some (seqObj "list" vs.toArray 0) := Heap.get?_push_size _ rfl
  refine wpAny_holding (wpAny_call_entry slot_list_sort ⟨_, listAt, rfl⟩ entry_list_sort (list_sort_treeK (κ := PyProof.Rows.strKind) strKind_oneLt listAt texts.keysOf (fun v₁ v₂ rest e => keyKind_strs (e ▸ texts)) (by omega) fun st done isSorted => ⟨_, rfl, wpAny_pure ⟨_, rfl, ?_⟩⟩) (args_list_sort _))
  obtain ⟨ss, are, perm3, up⟩ := sorted_out_str texts done isSorted
  obtain ⟨c, outAt⟩ := sortedHeap_at (vs := vs) (out := (arrOf st).map (·.2)) listAt
  have all : ss.Perm (es.toList.map txOf) := perm3.trans perm2
  have eq : ss = (sigs x.cps.toList).map sg := sorted_is up (all.nodup_iff.mpr F.once) fun k => by
    rw [all.mem_iff, ← F.mem k, hT k, List.any_eq_true]
    exact ⟨fun ⟨z, at_z, e⟩ => ⟨z, at_z, of_decide_eq_true e⟩, fun ⟨z, at_z, e⟩ => ⟨z, at_z, decide_eq_true e⟩⟩
  refine hQ _ r.heap.objs.size _ c (fun b q at_b => ?_) gens os grows outAt (eq ▸ are)
  have below := Heap.lt_size (keep b q at_b)
  exact (sortedHeap_old (Nat.ne_of_lt below) (by rw [size_push']; exact Nat.lt_succ_of_lt below)).trans (Heap.get?_push_of_some _ (keep b q at_b))
end
/-! ### the rules -/
/-- the set of the signs of x at a -/
def SetO (w : World) (a : Addr) (x : Str) : HO := .ext fun h => ∃ T n, HasX w h a T n ∧ n ≤ x.cps.size ∧ ∀ k, T k = x.cps.toList.any fun z => decide (k = ⟨#[z]⟩)
theorem setO_new {P : Program} {w : World} {H : Hp} {h : Heap} {a : Addr} {x : Str} {T : Str → Bool} {n : Nat} (R : HasX w h a T n) (hn : n ≤ x.cps.size) (hT : ∀ k, T k = x.cps.toList.any fun z => decide (k = ⟨#[z]⟩)) : ObjOk P w H h a (SetO w a x) := by
  refine ⟨⟨T, n, R, hn, hT⟩, ?_, fun h1 h2 p k => ?_⟩
  · exact let ⟨o, _, _, _, r⟩ := R; ⟨o, r.ob⟩
  · obtain ⟨T', n', R', q⟩ := p
    exact ⟨T', n', R'.at k, q⟩
theorem vals_strs : ∀ {vs : List Value} {ss : List Str}, StrsAre vs ss → Vals (ss.map V.str) vs
  | _, _, .nil => .nil
  | _, _, .cons x t r => .cons ⟨t, rfl⟩ (vals_strs r)
section
variable {X : Cx}
def rSetX (w : World) : List V → Hp → VK → Prop := fun xs H Q => ∃ x : Str, xs = [V.str x] ∧ x.cps.size < 64 ∧ ∀ a o, H a = none → o = SetO w a x → Q (.ref a) (upd H a o)
theorem call_setX (hc : X.calm = true) : CallR X (.type "set") (rSetX X.w) := by
  rintro pins s σ H _ us Q I r ⟨x, rfl, hx, q⟩
  rcases vals1 r with ⟨_, rfl, t, rfl⟩
  refine call_set (P := X.prog) (w := X.w) (I.ok.hd hc) (by unfold scanBound; omega) fun h' tk T c r1 r2 r3 k => ?_
  exact ⟨.ref s.heap.objs.size, upd H s.heap.objs.size (SetO X.w s.heap.objs.size x), I.laid (t' := tk) k (Nat.le_refl _) (setO_new r1 r2 r3), rfl, q _ _ (I.hok.fresh (Nat.le_refl _)) rfl⟩
def rSortX (w : World) : List V → Hp → VK → Prop := fun xs H Q => ∃ (a : Addr) (x : Str) (o : HO), xs = [V.ref a] ∧ H a = some o ∧ o = SetO w a x ∧ x.cps.size < 64 ∧ ∀ p, H p = none → Q (.ref p) (upd H p (.lst ((sigs x.cps.toList).map fun c => V.str (sg c))))
theorem cr_sortX (hc : X.calm = true) : CallR X (.builtin "sorted") (rSortX X.w) := by
  rintro pins s σ H _ us Q I r ⟨a, x, _, rfl, ha, rfl, hx, q⟩
  obtain ⟨T, n, R, hn, hT⟩ := (I.hok a _ ha).1
  rw [Vals.ref1 r]
  refine sorted_set (x := x) R hT (I.ok.hd hc) (by omega) fun s' p out c k g o hp hg hS => ?_
  have hlen : ((sigs x.cps.toList).map fun c => V.str (sg c)).length ≤ sizeLine := by
    have h1 : (sigs x.cps.toList).length ≤ x.cps.toList.length := len_sigs _
    have h2 : x.cps.toList.length = x.cps.size := Array.length_toList
    have h3 := sizeLine_eq
    rw [List.length_map]
    omega
  have free : H p = none := I.hok.fresh hp
  have hv : Vals ((sigs x.cps.toList).map fun c => V.str (sg c)) out.toList := by
    have := vals_strs hS
    rw [List.map_map] at this
    exact this
  have J : Inv X pins σ (upd H p (.lst ((sigs x.cps.toList).map fun c => V.str (sg c)))) { s with heap := s'.heap, gens := s'.gens, drawn := s'.drawn, toks := s'.toks } :=
    I.call (ch := []) (Un.laid k hp free) (I.hok.laid k hp ⟨hlen, _, c, hv, hg⟩) (g ▸ I.bare) nofun
  have same : { s with heap := s'.heap, gens := s'.gens, drawn := s'.drawn, toks := s'.toks } = s' := by
    rcases s with ⟨⟩; rcases s' with ⟨⟩; cases o; rfl
  exact same ▸ ⟨.ref p, _, J, rfl, q p free⟩
/-- list(text) -/
theorem vals_signs {x : Str} : ∀ (l : List Value) (cs : List Nat), l.length = cs.length → (∀ (i : Nat) (v : Value), l[i]? = some v → ∃ (c : Nat) (u : Tok), cs[i]? = some c ∧ v = Value.str ⟨#[c]⟩ u) → Vals (cs.map fun c => V.str (sg c)) l
  | [], [], _, _ => .nil
  | v :: l, c :: cs, h, q => by
    obtain ⟨c', u, e1, e2⟩ := q 0 v rfl
    have e3 : c = c' := Option.some.inj e1
    subst e3
    exact .cons ⟨u, e2⟩ (vals_signs (x := x) l cs (Nat.succ.inj h) fun i v' e => q (i + 1) v' e)
  | [], _ :: _, h, _ => nomatch h
  | _ :: _, [], h, _ => nomatch h
theorem call_listX (hc : X.calm = true) : CallR X (.type "list") (fun xs H Q => ∃ x : Str, xs = [V.str x] ∧ x.cps.size ≤ sizeLine ∧ ∀ l, H l = none → Q (.ref l) (upd H l (.lst (x.cps.toList.map fun c => V.str (sg c))))) := by
  rintro pins s σ H _ us Q I r ⟨x, rfl, hx, q⟩
  rcases vals1 r with ⟨_, rfl, t, rfl⟩
  refine call_list_str (I.ok.hd hc) x t (fun h' tk acc c k hS hacc => ?_) hx
  have hlen : (x.cps.toList.map fun c => V.str (sg c)).length ≤ sizeLine := by
    have h2 : x.cps.toList.length = x.cps.size := Array.length_toList
    rw [List.length_map, h2]
    exact hx
  have hv : Vals (x.cps.toList.map fun c => V.str (sg c)) acc.toList := by
    refine vals_signs (x := x) _ _ (by rw [Array.length_toList, hacc.1, Array.length_toList]) fun i v e => ?_
    rw [Array.getElem?_toList] at e
    obtain ⟨c, u, h1, h2⟩ := hacc.2 i v e
    exact ⟨c, u, by rw [Array.getElem?_toList]; exact h1, h2⟩
  exact ⟨.ref s.heap.objs.size, _, I.laid (t' := tk) k (Nat.le_refl _) (show ObjOk X.prog X.w _ h' _ (.lst _) from ⟨hlen, acc.toList, c, hv, hS⟩), rfl, q _ (I.hok.fresh (Nat.le_refl _))⟩
end
end TX

set_option Elab.async false
set_option linter.all false
set_option maxRecDepth 100000
set_option maxHeartbeats 4000000
/-! Words as lists of numbers: all words, pieces, counts. -/
namespace K1
abbrev W := List Nat
theorem fmap_congr {α β : Type} {f g : α → Option β} : ∀ {l : List α}, (∀ x ∈ l, f x = g x) → l.filterMap f = l.filterMap g
  | [], _ => rfl
  | x :: l, h => by rw [List.filterMap_cons, List.filterMap_cons, h x List.mem_cons_self, fmap_congr fun y hy => h y (List.mem_cons_of_mem _ hy)]
/-- the words of just k letters, and of at most k -/
def lay (L : W) : Nat → List W
  | 0 => [[]]
  | k + 1 => (lay L k).flatMap fun u => L.map fun c => u ++ [c]
def allW (L : W) : Nat → List W
  | 0 => [[]]
  | k + 1 => allW L k ++ lay L (k + 1)
/-- what is left behind the first c -/
def after (c : Nat) : W → Option W
  | [] => none
  | d :: r => if d = c then some r else after c r
/-- what is left behind the first place of a piece -/
def rest : W → W → Option W
  | [], w => some w
  | a :: u, w => (after a w).bind (rest u)
def isP (u w : W) : Bool := (rest u w).isSome
theorem rest_snoc (c : Nat) : ∀ (u w : W), rest (u ++ [c]) w = (rest u w).bind (after c)
  | [], w => by
    show (after c w).bind (rest []) = after c w
    cases after c w <;> rfl
  | a :: u, w => by
    show (after a w).bind (rest (u ++ [c])) = ((after a w).bind (rest u)).bind (after c)
    cases after a w with
    | none => rfl
    | some r => exact rest_snoc c u r
theorem rest_cons (a c : Nat) (u w : W) : rest (a :: u) (c :: w) = if c = a then rest u w else rest (a :: u) w := by
  show (if c = a then some w else after a w).bind (rest u) = _
  split <;> rfl
theorem isP_iff : ∀ (w u : W), isP u w = true ↔ List.Sublist u w
  | w, [] => ⟨fun _ => List.nil_sublist _, fun _ => rfl⟩
  | [], a :: u => ⟨fun h => (nomatch h), fun h => (nomatch h)⟩
  | c :: w, a :: u => by
    show (rest (a :: u) (c :: w)).isSome = true ↔ _
    rw [rest_cons]
    by_cases h : c = a
    · rw [if_pos h]
      subst h
      exact (isP_iff w u).trans List.cons_sublist_cons.symm
    · rw [if_neg h]
      refine (isP_iff w (a :: u)).trans ⟨fun q => q.cons c, fun q => ?_⟩
      cases q with
      | cons _ q => exact q
      | cons_cons _ q => exact absurd rfl h
theorem isP_false {u w : W} : isP u w = false ↔ ¬ List.Sublist u w := by
  rw [← isP_iff]
  cases isP u w <;> simp
/-- what is left of a word, by the law's walk -/
def lp : W → W → W
  | u, [] => u
  | [], _ :: _ => []
  | a :: u, c :: w => if a = c then lp u w else lp (a :: u) w
theorem lp_nil (w : W) : lp [] w = [] := by cases w <;> rfl
theorem lp_iff : ∀ (w u : W), lp u w = [] ↔ isP u w = true
  | [], [] => ⟨fun _ => rfl, fun _ => rfl⟩
  | [], a :: u => ⟨fun h => (nomatch h), fun h => (nomatch h)⟩
  | c :: w, [] => ⟨fun _ => rfl, fun _ => rfl⟩
  | c :: w, a :: u => by
    show (if a = c then lp u w else lp (a :: u) w) = [] ↔ (rest (a :: u) (c :: w)).isSome = true
    rw [rest_cons]
    by_cases h : a = c
    · rw [if_pos h, if_pos h.symm]
      exact lp_iff w u
    · rw [if_neg h, if_neg (fun z => h z.symm)]
      exact lp_iff w (a :: u)
/-- the pieces of just k letters, each with what is left behind it -/
def pl (S w : W) : Nat → List (W × W)
  | 0 => [([], w)]
  | k + 1 => (pl S w k).flatMap fun p => S.filterMap fun c => (after c p.2).map fun r => (p.1 ++ [c], r)
theorem pl_is (S w : W) : ∀ k, pl S w k = (lay S k).filterMap fun u => (rest u w).map fun r => (u, r)
  | 0 => rfl
  | k + 1 => by
    show (pl S w k).flatMap _ = ((lay S k).flatMap _).filterMap _
    rw [pl_is S w k]
    generalize lay S k = l
    induction l with
    | nil => rfl
    | cons u l ih =>
      rw [List.filterMap_cons, List.flatMap_cons, List.filterMap_append, ← ih, List.filterMap_map]
      cases h : rest u w with
      | none =>
        show _ = _ ++ _
        have e : List.filterMap ((fun u => Option.map (fun r => (u, r)) (rest u w)) ∘ fun c => u ++ [c]) S = [] := by
          rw [List.filterMap_eq_nil_iff]
          intro c _
          show Option.map _ (rest (u ++ [c]) w) = none
          rw [rest_snoc, h] <;> rfl
        rw [e, List.nil_append] <;> rfl
      | some r =>
        show List.flatMap _ ((u, r) :: _) = _
        rw [List.flatMap_cons]
        congr 1
        apply fmap_congr
        intro c _
        show _ = Option.map _ (rest (u ++ [c]) w)
        rw [rest_snoc, h] <;> rfl
theorem pl_fst (S w : W) (k : Nat) : (pl S w k).map (·.1) = (lay S k).filter fun u => isP u w := by
  rw [pl_is, List.map_filterMap]
  generalize lay S k = l
  induction l with
  | nil => rfl
  | cons u l ih =>
    rw [List.filterMap_cons, List.filter_cons]
    cases h : rest u w with
    | none =>
      have e : isP u w = false := by unfold isP; rw [h] <;> rfl
      rw [e]
      exact ih
    | some r =>
      have e : isP u w = true := by unfold isP; rw [h] <;> rfl
      rw [e]
      show u :: _ = u :: _
      rw [ih]
/-- all pieces of at most k letters -/
def allP (S w : W) : Nat → List W
  | 0 => [[]]
  | k + 1 => allP S w k ++ (pl S w (k + 1)).map (·.1)
theorem allP_is (S w : W) : ∀ k, allP S w k = (allW S k).filter fun u => isP u w
  | 0 => rfl
  | k + 1 => by
    show allP S w k ++ _ = ((allW S k) ++ lay S (k + 1)).filter _
    rw [List.filter_append, allP_is S w k, pl_fst]
/-! ### who is among them -/
theorem mem_lay (L : W) : ∀ (k : Nat) (u : W), u ∈ lay L k ↔ u.length = k ∧ ∀ c ∈ u, c ∈ L
  | 0, u => by
    show u ∈ [[]] ↔ _
    rw [List.mem_singleton]
    exact ⟨fun h => by subst h; exact ⟨rfl, fun c hc => nomatch hc⟩, fun h => List.length_eq_zero_iff.mp h.1⟩
  | k + 1, u => by
    show u ∈ (lay L k).flatMap _ ↔ _
    rw [List.mem_flatMap]
    constructor
    · rintro ⟨v, hv, hu⟩
      obtain ⟨c, hc, rfl⟩ := List.mem_map.mp hu
      obtain ⟨h1, h2⟩ := (mem_lay L k v).mp hv
      refine ⟨by rw [List.length_append, h1] <;> rfl, fun d hd => ?_⟩
      rcases List.mem_append.mp hd with z | z
      · exact h2 d z
      · rw [List.mem_singleton.mp z]
        exact hc
    · rintro ⟨h1, h2⟩
      have hne : u ≠ [] := fun e => by subst e; cases h1
      refine ⟨u.dropLast, (mem_lay L k _).mpr ⟨by rw [List.length_dropLast]; omega, fun c hc => h2 c (List.dropLast_subset u hc)⟩, List.mem_map.mpr ⟨u.getLast hne, h2 _ (List.getLast_mem hne), List.dropLast_concat_getLast hne⟩⟩
theorem mem_allW (L : W) : ∀ (k : Nat) (u : W), u ∈ allW L k ↔ u.length ≤ k ∧ ∀ c ∈ u, c ∈ L
  | 0, u => by
    show u ∈ [[]] ↔ _
    rw [List.mem_singleton]
    exact ⟨fun h => by subst h; exact ⟨Nat.le_refl _, fun c hc => nomatch hc⟩, fun h => List.length_eq_zero_iff.mp (by omega)⟩
  | k + 1, u => by
    show u ∈ allW L k ++ lay L (k + 1) ↔ _
    rw [List.mem_append, mem_allW L k u, mem_lay]
    constructor
    · rintro (⟨h1, h2⟩ | ⟨h1, h2⟩)
      · exact ⟨by omega, h2⟩
      · exact ⟨by omega, h2⟩
    · rintro ⟨h1, h2⟩
      by_cases h : u.length ≤ k
      · exact .inl ⟨h, h2⟩
      · exact .inr ⟨by omega, h2⟩
/-- the pieces of a word, as it is told -/
def told (w : W) (m : Nat) : List W := (allW (TX.sigs w) m).filter fun u => isP u w
theorem mem_told (w u : W) (m : Nat) : u ∈ told w m ↔ u.length ≤ m ∧ List.Sublist u w := by
  unfold told
  rw [List.mem_filter, mem_allW, isP_iff]
  constructor
  · rintro ⟨⟨h1, _⟩, h2⟩
    exact ⟨h1, h2⟩
  · rintro ⟨h1, h2⟩
    exact ⟨⟨h1, fun c hc => (TX.mem_sigs c w).mpr (h2.subset hc)⟩, h2⟩
theorem told_trans {w u v : W} {m : Nat} (h : u ∈ told w m) (g : v ∈ told u m) : v ∈ told w m := by
  obtain ⟨_, h2⟩ := (mem_told w u m).mp h
  obtain ⟨g1, g2⟩ := (mem_told u v m).mp g
  exact (mem_told w v m).mpr ⟨g1, g2.trans h2⟩
theorem count_le {w o : W} {m : Nat} (h : told o m = told w m) (c : Nat) (hm : w.count c < m) : o.count c ≤ w.count c := by
  apply Nat.le_of_not_lt
  intro hlt
  have h1 : List.replicate (w.count c + 1) c ∈ told o m := (mem_told o _ m).mpr ⟨by rw [List.length_replicate]; omega, List.replicate_sublist_iff.mpr hlt⟩
  rw [h] at h1
  have h2 := List.replicate_sublist_iff.mp ((mem_told w _ m).mp h1).2
  omega
theorem count_same {w o : W} {m : Nat} (h : told o m = told w m) (c : Nat) (hne : w.count c ≠ o.count c) : m ≤ min (w.count c) (o.count c) := by
  apply Nat.le_of_not_lt
  intro hlt
  by_cases h1 : w.count c < m
  · have a := count_le h c h1
    have b := count_le h.symm c (by omega)
    omega
  · have a := count_le h.symm c (by omega)
    omega
/-! ### ends of places -/
theorem after_suffix (c : Nat) : ∀ (w r : W), after c w = some r → ∃ p, w = p ++ c :: r ∧ c ∉ p
  | [], r, h => nomatch h
  | d :: w, r, h => by
    unfold after at h
    by_cases e : d = c
    · rw [if_pos e] at h
      cases h
      exact ⟨[], by rw [e] <;> rfl, by simp⟩
    · rw [if_neg e] at h
      obtain ⟨p, h1, h2⟩ := after_suffix c w r h
      refine ⟨d :: p, by rw [h1] <;> rfl, fun z => ?_⟩
      rcases List.mem_cons.mp z with z | z
      · exact e z.symm
      · exact h2 z
theorem after_none (c : Nat) : ∀ (w : W), after c w = none ↔ c ∉ w
  | [] => ⟨fun _ => by simp, fun _ => rfl⟩
  | d :: w => by
    unfold after
    by_cases e : d = c
    · rw [if_pos e]
      exact ⟨fun h => (nomatch h), fun h => absurd (by rw [e]; exact List.mem_cons_self) h⟩
    · rw [if_neg e, after_none c w]
      exact ⟨fun h z => (List.mem_cons.mp z).elim (fun z => e z.symm) h, fun h z => h (List.mem_cons_of_mem _ z)⟩
/-- the place behind the first c from e on -/
def nx (w : W) (c e : Nat) : Option Nat := (after c (w.drop e)).map fun r => w.length - r.length
theorem nx_some {w : W} {c e e' : Nat} (h : nx w c e = some e') : e < e' ∧ e' ≤ w.length ∧ after c (w.drop e) = some (w.drop e') := by
  unfold nx at h
  cases ha : after c (w.drop e) with
  | none => rw [ha] at h; cases h
  | some r =>
    rw [ha] at h
    have h' : w.length - r.length = e' := Option.some.inj h
    obtain ⟨p, h1, _⟩ := after_suffix c _ _ ha
    have hl := congrArg List.length h1
    rw [List.length_drop, List.length_append, List.length_cons] at hl
    have he : w.drop e' = r := by
      have q : w.drop e' = (w.drop e).drop (e' - e) := by
        rw [List.drop_drop]
        congr 1
        omega
      rw [q, h1]
      have e2 : e' - e = p.length + 1 := by omega
      rw [e2, List.drop_append, List.drop_of_length_le (by omega)]
      have e3 : p.length + 1 - p.length = 1 := by omega
      rw [e3] <;> rfl
    exact ⟨by omega, by omega, by rw [he]⟩
def ple (S w : W) : Nat → List (W × Nat)
  | 0 => [([], 0)]
  | k + 1 => (ple S w k).flatMap fun p => S.filterMap fun c => (nx w c p.2).map fun e => (p.1 ++ [c], e)
theorem ple_pl (S w : W) : ∀ k, pl S w k = (ple S w k).map fun p => (p.1, w.drop p.2)
  | 0 => rfl
  | k + 1 => by
    show (pl S w k).flatMap _ = ((ple S w k).flatMap _).map _
    rw [ple_pl S w k]
    generalize ple S w k = l
    induction l with
    | nil => rfl
    | cons p l ih =>
      rw [List.map_cons, List.flatMap_cons, List.flatMap_cons, List.map_append, ih, List.map_filterMap]
      congr 1
      apply fmap_congr
      intro c _
      show (after c (w.drop p.2)).map _ = ((nx w c p.2).map _).map _
      cases hn : nx w c p.2 with
      | none =>
        have : after c (w.drop p.2) = none := by
          unfold nx at hn
          cases ha : after c (w.drop p.2) with
          | none => rfl
          | some r => rw [ha] at hn; cases hn
        rw [this] <;> rfl
      | some e =>
        rw [(nx_some hn).2.2] <;> rfl
theorem ple_fst (S w : W) (k : Nat) : (ple S w k).map (·.1) = (pl S w k).map (·.1) := by
  rw [ple_pl, List.map_map] <;> rfl
end K1

set_option Elab.async false
set_option linter.all false
set_option maxRecDepth 100000
set_option maxHeartbeats 4000000
/-! Texts of words: find, count, join, product, reversed. -/
namespace K1
open PySem PySem.Spec PyProof.Rows L2
open TX (sg sigs)
/-- the text of a word -/
def tx (w : W) : Str := ⟨w.toArray⟩
theorem tx_of (x : Str) : tx x.cps.toList = x := by
  unfold tx
  rw [Array.toArray_toList]
theorem tx_list (w : W) : (tx w).cps.toList = w := by
  show w.toArray.toList = w
  rw [List.toList_toArray]
theorem tx_inj {u v : W} (h : tx u = tx v) : u = v := by
  have := congrArg (fun x : Str => x.cps.toList) h
  simpa [tx_list] using this
theorem tx_len (w : W) : (tx w).length = w.length := by
  show w.toArray.size = w.length
  rw [List.size_toArray]
theorem tx_app (u v : W) : tx u ++ tx v = tx (u ++ v) := by
  show (⟨u.toArray ++ v.toArray⟩ : Str) = ⟨(u ++ v).toArray⟩
  rw [List.append_toArray]
theorem sg_tx (c : Nat) : sg c = tx [c] := rfl
theorem join_eq0 (ps : List W) : Txt.join (tx []) (ps.map tx) = tx ps.flatten := by
  rw [TL.join_eq]
  have h := TL.tl_join (tx []) (ps.map tx)
  have e : ∀ qs : List (List Nat), TL.joinL [] qs = qs.flatten := by
    intro qs
    induction qs with
    | nil => rfl
    | cons p r ih =>
      cases r with
      | nil => simp [TL.joinL]
      | cons q r => simp [TL.joinL] at ih ⊢; exact ih
  have e1 : TL.tl (tx []) = [] := rfl
  rw [e1, e, List.map_map] at h
  have e2 : (TL.tl ∘ tx) = (id : W → W) := by
    funext u
    exact tx_list u
  rw [e2, List.map_id] at h
  have h2 : (Str.join (tx []) (ps.map tx)).cps.toList = ps.flatten := h
  rw [← tx_of (Str.join (tx []) (ps.map tx)), h2]
theorem count_tx (w : W) (c : Nat) : Txt.count (tx w) (sg c) = (w.count c : Int) := by
  rw [count_is, tx_list]
  show cnt c w = _
  induction w with
  | nil => rfl
  | cons d w ih =>
    rw [cnt_cons, ih, List.count_cons]
    by_cases h : d = c
    · subst h
      simp
      omega
    · simp [h]
theorem getD_tx {w : W} {v c : Nat} (hv : v < w.length) : (tx w).cps.getD v 0 = c ↔ w[v]? = some c := by
  show w.toArray.getD v 0 = c ↔ _
  rw [List.getElem?_eq_getElem hv]
  simp [Array.getD, hv]
/-- the first c from e on -/
theorem find_tx {w : W} {c e : Nat} (he : e ≤ w.length) : Txt.find3 (tx w) (sg c) (e : Int) = match nx w c e with | some e' => (e' : Int) - 1 | none => -1 := by
  have hf : fromIndex (tx w).length (e : Int) = e := by
    unfold fromIndex
    rw [if_neg (by omega)]
    omega
  rcases StrLaws.find3_spec (tx w) c (e : Int) with ⟨h1, h2⟩ | ⟨k, h1, h2, h3, h4, h5⟩
  · rw [hf, tx_len] at h2
    have : nx w c e = none := by
      unfold nx
      have q : after c (w.drop e) = none := (after_none c _).mpr fun hm => by
        have ⟨j, hj⟩ := List.getElem?_of_mem hm
        rw [List.getElem?_drop] at hj
        have hl : e + j < w.length := (List.getElem?_eq_some_iff.mp hj).1
        exact h2 (e + j) (by omega) hl ((getD_tx hl).mpr hj)
      rw [q] <;> rfl
    rw [this]
    exact h1
  · rw [hf] at h2 h5
    rw [tx_len] at h3
    have hk : w[k]? = some c := (getD_tx h3).mp h4
    have hne : after c (w.drop e) ≠ none := fun z => by
      have q := (after_none c _).mp z
      apply q
      have e2 : (w.drop e)[k - e]? = some c := by
        rw [List.getElem?_drop]
        have : e + (k - e) = k := by omega
        rw [this]
        exact hk
      exact List.mem_of_getElem? e2
    cases ha : after c (w.drop e) with
    | none => exact absurd ha hne
    | some r =>
      obtain ⟨p, g1, g2⟩ := after_suffix c _ _ ha
      have hl := congrArg List.length g1
      rw [List.length_drop, List.length_append, List.length_cons] at hl
      -- the place of the first c
      have hpl : k = e + p.length := by
        apply Nat.le_antisymm
        · apply Nat.le_of_not_lt
          intro hlt
          have hq : w[e + p.length]? = some c := by
            have : (w.drop e)[p.length]? = some c := by rw [g1]; simp
            rw [List.getElem?_drop] at this
            exact this
          exact h5 (e + p.length) (by omega) hlt ((getD_tx (List.getElem?_eq_some_iff.mp hq).1).mpr hq)
        · apply Nat.le_of_not_lt
          intro hlt
          have e2 : (w.drop e)[k - e]? = some c := by
            rw [List.getElem?_drop]
            have : e + (k - e) = k := by omega
            rw [this]
            exact hk
          rw [g1, List.getElem?_append_left (by omega)] at e2
          exact g2 (List.mem_of_getElem? e2)
      have hn : nx w c e = some (k + 1) := by
        unfold nx
        rw [ha]
        show some (w.length - r.length) = some (k + 1)
        congr 1
        omega
      rw [hn]
      show _ = ((k + 1 : Nat) : Int) - 1
      rw [h1]
      omega
/-- the letters a to z -/
def Low (w : W) : Prop := ∀ c ∈ w, 97 ≤ c ∧ c ≤ 122
theorem uni : ∀ k : Fin 26, Unicode.isAlpha (97 + k.val) = true ∧ Unicode.isLower (97 + k.val) = true ∧ Unicode.isUpper (97 + k.val) = false ∧ Unicode.isTitle (97 + k.val) = false := by decide +kernel
theorem uni_low {c : Nat} (h : 97 ≤ c ∧ c ≤ 122) : Unicode.isAlpha c = true ∧ Unicode.isLower c = true ∧ Unicode.isUpper c = false ∧ Unicode.isTitle c = false := by
  have := uni ⟨c - 97, by omega⟩
  have e : 97 + (c - 97) = c := by omega
  simp only [e] at this
  exact this
theorem low_facts {w : W} (h : Low w) (hne : w ≠ []) : Txt.isascii (tx w) = true ∧ Txt.isalpha (tx w) = true ∧ Txt.islower (tx w) = true := by
  refine ⟨?_, ?_, ?_⟩
  · show (w.toArray).all _ = true
    rw [List.all_toArray, List.all_eq_true]
    intro c hc
    have := h c hc
    simp only [decide_eq_true_eq]
    omega
  · show ((decide ((tx w).length > 0)) && (w.toArray).all _) = true
    rw [List.all_toArray, tx_len, Bool.and_eq_true]
    refine ⟨decide_eq_true (List.length_pos_iff.mpr hne), ?_⟩
    rw [List.all_eq_true]
    exact fun c hc => (uni_low (h c hc)).1
  · show ((w.toArray).any _ && !(w.toArray).any _) = true
    rw [List.any_toArray, List.any_toArray, Bool.and_eq_true]
    constructor
    · rw [List.any_eq_true]
      obtain ⟨c, r, rfl⟩ : ∃ c r, w = c :: r := by
        cases w with
        | nil => exact absurd rfl hne
        | cons c r => exact ⟨c, r, rfl⟩
      exact ⟨c, List.mem_cons_self, (uni_low (h c List.mem_cons_self)).2.1⟩
    · rw [Bool.not_eq_true', List.any_eq_false]
      intro c hc
      have := uni_low (h c hc)
      rw [this.2.2.1, this.2.2.2]
      exact Bool.false_ne_true
section
variable {X : Cx}
/-- text * int -/
theorem op_mulS : OpR X (binaryOp .Mult) (fun x y H Q => ∃ (z : Str) (n : Int), x = .str z ∧ y = .int n ∧ MulOk z n ∧ Q (.str (Txt.mul z n)) H) := by
  rintro pins s σ H _ _ _ _ Q I rx ry ⟨z, n, rfl, rfl, hk, q⟩
  obtain ⟨t, rfl⟩ := rx
  obtain ⟨t', rfl⟩ := ry
  exact PySem.SB.mul hk fun t2 k => ⟨.str _, H, I.tok _, ⟨t2, rfl⟩, q⟩
def tRevS (te : TE) : TE := fun σ H Q => te σ H fun x H1 => ∃ w : W, x = .str (tx w) ∧ w.length ≤ sizeLine ∧ Q (.str (tx w.reverse)) H1
theorem rev_codes (w : W) : ((Builtin.Str.strSliceIndices none none (-1) (tx w).length).filterMap ((tx w).cps[·]?)).toArray = (w.reverse).toArray := by
  rw [picked_rev, tx_len, filterMap_get, List.map_map]
  · congr 1
    apply List.ext_getElem
    · simp
    · intro i h1 h2
      simp [tx, Array.getD]
      simp at h1
      rw [dif_pos (by omega)]
  · intro i hi
    rcases List.mem_map.mp hi with ⟨k, hk, rfl⟩
    have hk' : k < w.length := List.mem_range.mp hk
    show w.length - 1 - k < w.toArray.size
    rw [List.size_toArray]
    omega
/-- text[::-1] -/
theorem pe_revS {e : Expr} {te : TE} {k : Nat} {p1 p2 p3 pos : Pos} (he : PE X e te) : PE X (.Subscript e (.Slice none none (some (.UnaryOp .USub (.Constant (.int 1) k p1) p2)) p3) pos) (tRevS te) := by
  constructor
  intro pins s σ H Q I h
  refine Subscript_ (thn (he.run pins s σ H _ I h) fun _ s1 ⟨_, H1, I1, isTx, w, isW, hw, q⟩ => ?_)
  subst isW
  obtain ⟨t, rfl⟩ := isTx
  have back : PO X (some (.UnaryOp .USub (.Constant (.int 1) k p1) p2)) (tPart (tUn (rU fun i => .int (-i)) (tC (.int 1)))) :=
    po_some (pe_un un_neg pe_int)
  refine wpAny_Slice (thn (po_none.run pins s1 σ H1 (fun o G => o = none ∧ G = H1) I1 ⟨rfl, rfl⟩) fun low s2 ⟨_, _, I2, isLow, rfl, rfl⟩ => thn (po_none.run pins s2 σ _ (fun o G => o = none ∧ G = H1) I2 ⟨rfl, rfl⟩) fun up s3 ⟨_, _, I3, isUp, rfl, rfl⟩ =>
    thn (back.run pins s3 σ _ (fun o G => o = some (-1) ∧ G = H1) I3 ⟨1, rfl, -1, rfl, rfl, rfl⟩) fun by_ s4 ⟨_, _, I4, isBy, rfl, rfl⟩ => ?_)
  have I5 := I4.kept (h' := s4.heap.push { cls := .type "slice", data := .fields #[low, up, by_] }) (t' := s4.toks) fun b q at_b => Heap.get?_push_of_some _ at_b
  obtain ⟨os, hos, hcs, hds⟩ := Heap.IsSliceOf.new s4.heap low up by_
  obtain ⟨l, rfl, el⟩ := IsPart.raw isLow
  obtain ⟨u, rfl, eu⟩ := IsPart.raw isUp
  obtain ⟨st, rfl, es⟩ := IsPart.raw isBy
  obtain rfl : l = none := by cases l with | none => rfl | some z => cases el
  obtain rfl : u = none := by cases u with | none => rfl | some z => cases eu
  obtain ⟨z, rfl⟩ : ∃ z, st = some (-1, z) := by
    rcases st with _ | ⟨y, z⟩
    · cases es
    · exact ⟨z, by rw [show y = (-1 : Int) from Option.some.inj es]⟩
  refine tail_any (ops := [.str (tx w) t, .ref s4.heap.objs.size]) (typeIs_str _ _ _) (PySem.F.slot_str_getitem.lookup) ?_ (by with_unfolding_all rfl)
  refine wpAny_getItem_str_slice (l := none) (u := none) (st := some (-1, z)) ⟨os, hos, hcs, hds⟩ rfl ?_
  show Made.post (if ((-1 : Int) == 1 && (Builtin.Str.strSliceIndices none none (-1) (tx w).length).length == (tx w).length) = true then Made.val (.str (tx w) t)
    else Made.str ⟨((Builtin.Str.strSliceIndices none none (-1) (tx w).length).filterMap ((tx w).cps[·]?)).toArray⟩) (EP X pins σ Q) _
  rw [if_neg (by simp), rev_codes]
  refine ⟨?_, .str (tx w.reverse), _, I5.tok _, ⟨_, rfl⟩, q⟩
  show (w.reverse.toArray).size ≤ sizeLine
  rw [List.size_toArray, List.length_reverse]
  exact hw
end
end K1

set_option Elab.async false
set_option linter.all false
set_option maxRecDepth 100000
set_option maxHeartbeats 8000000
/-! Numbers, letters, words: what is let. -/
namespace WK
open PySem L2 PyProof.Rows K1
open TX (sg sigs)
open PySem.W (Frag kitOne)
/-- a def of the module by its name -/
structure Fn (K : Frag) (mg : Str → Option Value) (nm : Str) (st : Stmt) (ps : List Str) (f : Addr) (fd : FuncData) : Prop where
  g : mg nm = some (.ref f)
  F : Fun K nm nm st f fd
  b : L2.Binds K fd ps []
structure TN (mg : Str → Option Value) : Prop where
  len : mg "len" = none
  int : mg "int" = none
  abs : mg "abs" = none
  isi : mg "isinstance" = none
  bool : mg "bool" = none
  str : mg "str" = none
  all : mg "all" = none
  rng : mg "range" = none
  sorted : mg "sorted" = none
  set : mg "set" = none
  tuple : mg "tuple" = none
  list : mg "list" = none
  max : mg "max" = none
  min : mg "min" = none
  zip : mg "zip" = none
  most : ∃ t, mg "MAX_LETTERS" = some (.int 3 t)
theorem TN.dice {mg : Str → Option Value} (T : TN mg) : TDice mg := ⟨T.len, T.int, T.abs⟩
abbrev sIsInt : Stmt := top 17
abbrev sIsNum : Stmt := top 18
abbrev sNeedNum : Stmt := top 19
abbrev sAsc : Stmt := top 20
abbrev sIsLet : Stmt := top 25
abbrev sIsWord : Stmt := top 26
abbrev sIsOver : Stmt := top 27
abbrev sNeedLet : Stmt := top 28
abbrev sNeedWord : Stmt := top 29
abbrev sNeedOver : Stmt := top 30
theorem same_upd {H : Hp} {p : Addr} {o : HO} (h : H p = none) : Same H (upd H p o) := fun b u e => by rw [upd_ne (ne_of_none e h)]; exact e
theorem same_at {H H1 : Hp} {p : Addr} {o : HO} (s : Same H H1) (h : H p = none) : Same H (upd H1 p o) := fun b u e => by rw [upd_ne (ne_of_none e h)]; exact s b u e
theorem same_two {H H1 : Hp} {p : Addr} {o : HO} (s : Same H H1) (h : H1 p = none) : Same H (upd H1 p o) := s.trans (same_upd h)
theorem pe_ty {X : Cx} {x : Str} {pos : Pos} (n : String) (hm : X.mg x = none) (hv : bootBuiltins x = some (.type n)) (hg : Gl X x := by rfl) (hn : x ≠ "__name__" := by decide) (hd : (x == ("__debug__" : Str)) = false := by decide) : PE X (.Name x pos) (tC (.ty n)) := pe_bltn hg hm hv rfl hn hd
/-- a set of letters: one to three, ascending, of a to z -/
structure Let (L : W) : Prop where
  low : Low L
  asc : L.Pairwise (· < ·)
  ne : L ≠ []
  few : L.length ≤ 3
/-- what is told of a text: whether it is a word -/
def wordB (x : Str) : Bool := if x = "" then true else if Txt.isascii x = true then if Txt.isalpha x = true then Txt.islower x else false else false
theorem wordB_low {w : W} (h : Low w) : wordB (tx w) = true := by
  unfold wordB
  by_cases e : tx w = ""
  · rw [if_pos e]
  · rw [if_neg e]
    have hne : w ≠ [] := fun z => e (by rw [z] <;> rfl)
    obtain ⟨h1, h2, h3⟩ := low_facts h hne
    rw [if_pos h1, if_pos h2, h3]
def ascB (w : W) : Bool := decide (w.Pairwise (· < ·))
def letB (x : Str) : Bool := wordB x && (decide (1 ≤ x.length) && decide (x.length ≤ 3)) && ascB x.cps.toList
theorem letB_let {L : W} (h : Let L) : letB (tx L) = true := by
  unfold letB
  rw [wordB_low h.low, tx_len, tx_list]
  have h1 : ascB L = true := decide_eq_true h.asc
  have h2 := List.length_pos_iff.mpr h.ne
  rw [h1, decide_eq_true (show 1 ≤ L.length from h2), decide_eq_true h.few] <;> rfl
def spIsNum : Sp := fun vs H Q _ => ∃ i a b : Int, vs = [.int i, .int a, .int b] ∧ Q (.bl (decide (a ≤ i) && decide (i ≤ b))) H
def spNeedNum : Sp := fun vs H Q _ => ∃ i a b : Int, vs = [.int i, .int a, .int b] ∧ a ≤ i ∧ i ≤ b ∧ Q .non H
def spAsc : Sp := fun vs H Q _ => ∃ w : W, vs = [.str (tx w)] ∧ w ≠ [] ∧ w.length ≤ 1000 ∧ ∀ H', Same H H' → Q (.bl (ascB w)) H'
/-- no text -/
def NoText (K : Frag) (H : Hp) (v : V) : Prop := ∃ t, TyX K H v (.type t) ∧ PySem.W.kitOne K (.type t) (.type "str") = some false
def spIsWord (K : Frag) : Sp := fun vs H Q _ => ∃ v, vs = [v] ∧ ((∃ x, v = .str x ∧ Q (.bl (wordB x)) H) ∨ (NoText K H v ∧ Q (.bl false) H))
def spIsLet (K : Frag) : Sp := fun vs H Q _ => ∃ v, vs = [v] ∧ ((∃ x : Str, v = .str x ∧ x.length ≤ 1000 ∧ ∀ H', Same H H' → Q (.bl (letB x)) H') ∨ (NoText K H v ∧ Q (.bl false) H))
section
variable {P : Program} {w : World} {K : PySem.W.Frag} {mg : Str → Option Value} {base : Heap}
theorem scII : FnScope ["value"] ["value"] (defScope sIsInt) := ⟨rfl, rfl, rfl, by decide +kernel, rfl, by decide +kernel, by decide +kernel⟩
def spIsInt : Sp := fun vs H Q _ => ∃ i : Int, vs = [.int i] ∧ Q (.bl true) H
theorem ok_isint {f : Addr} {fd : FuncData} (F : Fun K "is_integer" "is_integer" sIsInt f fd) (T : TN mg) : FnOk P w K mg base CX0 1 f fd ["value"] spIsInt := by
  refine F.ok scII (fun vs H Q E h => ?_) (fun cdv A outer s H vs Q E hr h => ?_)
  · obtain ⟨i, rfl, _⟩ := h
    rfl
  · obtain ⟨i, rfl, q⟩ := h
    refine ⟨_, pss_one (ps_ret (pe_and (pe_callB call_isi (by rfl) T.isi (by decide +kernel) (pa_cons (pv 0) (pa_cons (pe_ty "int" T.int (by decide +kernel)) pa_nil)))
      (pe_one (pe_not (pe_callB call_isi (by rfl) T.isi (by decide +kernel) (pa_cons (pv 0) (pa_cons (pe_ty "bool" T.bool (by decide +kernel)) pa_nil))))))), ?_⟩
    refine ⟨_, rfl, _, _, _, _, true, rfl, .ty "int", .base (.int _), kit_ty (by decide +kernel), true, rfl, ?_⟩
    exact ⟨_, rfl, _, _, _, _, false, rfl, .ty "bool", .base (.int _), kit_ty (by decide +kernel), false, rfl, q⟩
theorem scIN : FnScope ["value", "least", "most"] ["value", "least", "most"] (defScope sIsNum) := ⟨rfl, rfl, rfl, by decide +kernel, rfl, by decide +kernel, by decide +kernel⟩
theorem ok_isnum {f g : Addr} {fd gd : FuncData} (F : Fun K "is_number" "is_number" sIsNum f fd) (T : TN mg) (A0 : Fn K mg "is_integer" sIsInt ["value"] g gd) : FnOk P w K mg base CX0 2 f fd ["value", "least", "most"] spIsNum := by
  have G0 : FnOk P w K mg base CX0 1 g gd ["value"] spIsInt := ok_isint A0.F T
  refine F.ok scIN (fun vs H Q E h => ?_) (fun cdv A outer s H vs Q E hr h => ?_)
  · obtain ⟨i, a, b, rfl, _⟩ := h
    rfl
  · obtain ⟨i, a, b, rfl, q⟩ := h
    refine ⟨_, pss_one (ps_ret (pe_and (pe_call G0 hr rfl A0.g A0.F.kp A0.b .nil pass0 (pa_cons (pv 0) pa_nil)) (pe_one (pe_chain op_le op_le (pv 1) (pv 0) (pv 2))))), ?_⟩
    refine ⟨_, rfl, i, rfl, true, rfl, ?_⟩
    refine ⟨_, rfl, _, rfl, _, _, rfl, rfl, _, rfl, ?_⟩
    by_cases h1 : a ≤ i
    · rw [decide_eq_true h1] at q ⊢
      exact ⟨_, rfl, _, _, rfl, rfl, q⟩
    · rw [decide_eq_false h1] at q ⊢
      exact q
theorem scNN : FnScope ["value", "least", "most"] ["value", "least", "most"] (defScope sNeedNum) := ⟨rfl, rfl, rfl, by decide +kernel, rfl, by decide +kernel, by decide +kernel⟩
theorem ok_neednum {f g e : Addr} {fd gd ed : FuncData} (F : Fun K "need_number" "need_number" sNeedNum f fd) (T : TN mg) (A0 : Fn K mg "is_integer" sIsInt ["value"] e ed) (A1 : Fn K mg "is_number" sIsNum ["value", "least", "most"] g gd) : FnOk P w K mg base CX0 3 f fd ["value", "least", "most"] spNeedNum := by
  have G1 : FnOk P w K mg base CX0 2 g gd _ spIsNum := ok_isnum A1.F T A0
  refine F.ok scNN (fun vs H Q E h => ?_) (fun cdv A outer s H vs Q E hr h => ?_)
  · obtain ⟨i, a, b, rfl, _⟩ := h
    rfl
  · obtain ⟨i, a, b, rfl, h1, h2, q⟩ := h
    refine ⟨_, pss_one (ps_if (pt_not (pt_val (pe_call G1 hr rfl A1.g A1.F.kp A1.b .nil pass0 (pa_cons (pv 0) (pa_cons (pv 1) (pa_cons (pv 2) pa_nil)))))) (pss_one ps_never) pss_nil), ?_⟩
    refine ⟨_, rfl, _, rfl, _, rfl, _, _, _, rfl, _, rfl, ?_⟩
    rw [decide_eq_true h1, decide_eq_true h2]
    exact q
theorem scAs : FnScope ["values", "at"] ["values"] (defScope sAsc) := ⟨rfl, rfl, rfl, by decide +kernel, rfl, by decide +kernel, by decide +kernel⟩
theorem lt_one (a b : Nat) : decide ((sg a).cps.toList < (sg b).cps.toList) = decide (a < b) := by
  rw [← ltCps_eq, TX.lt_sg]
/-- each less than the next -/
def adj (w : W) (i : Nat) : Bool := decide (w.getD i 0 < w.getD (i + 1) 0)
theorem adj_asc : ∀ (w : W), w ≠ [] → ((List.range (w.length - 1)).map (adj w)).all id = ascB w
  | [], h => absurd rfl h
  | [a], _ => by simp [ascB]
  | a :: b :: r, _ => by
    have ih := adj_asc (b :: r) (by simp)
    have e : (a :: b :: r).length - 1 = (b :: r).length - 1 + 1 := by simp
    rw [e, List.range_succ_eq_map, List.map_cons, List.all_cons, List.map_map]
    have e2 : (adj (a :: b :: r) ∘ Nat.succ) = adj (b :: r) := by
      funext i
      rfl
    rw [e2, ih]
    show (decide (a < b) && ascB (b :: r)) = ascB (a :: b :: r)
    unfold ascB
    rw [← Bool.decide_and]
    apply decide_eq_decide.mpr
    rw [List.pairwise_cons (a := a)]
    constructor
    · rintro ⟨h1, h2⟩
      refine ⟨fun y hy => ?_, h2⟩
      rcases List.mem_cons.mp hy with z | z
      · omega
      · have := (List.pairwise_cons.mp h2).1 y z
        omega
    · rintro ⟨h1, h2⟩
      exact ⟨h1 b List.mem_cons_self, h2⟩
theorem ok_asc {f : Addr} {fd : FuncData} (F : Fun K "ascends" "ascends" sAsc f fd) (T : TN mg) : FnOk P w K mg base CX0 1 f fd ["values"] spAsc := by
  refine F.ok scAs (fun vs H Q E h => ?_) (fun cdv A outer s H vs Q E hr h => ?_)
  · obtain ⟨w, rfl, _⟩ := h
    rfl
  · obtain ⟨w, rfl, hne, hl, q⟩ := h
    have hpos := List.length_pos_iff.mpr hne
    refine ⟨_, pss_one (ps_ret (pe_callB (cr_all rfl) (by rfl) T.all (by decide +kernel) (pa_cons (pe_lc (own := [("at", 1)]) (g := gName 1) (tt := tYes) rfl scAs.nd
      (pi_range1 rfl T.rng (pa_cons (pe_op op_sub (pe_callB call_len_str (by rfl) T.len PySem.boot_len (pa_cons (pv 0) pa_nil)) pe_int) pa_nil))
      (blkOk_by (own := [("at", 1)]) (N := ["values", "at"]) (sc := defScope sAsc) (by decide +kernel)) (fun _ _ _ _ _ => pg_name (i := 1) scAs.nd rfl (Or.inl rfl)) (fun _ _ _ _ _ => pts_nil)
      (fun _ _ _ _ _ => pe_cmpR op_lt_str (pe_ix ix_str (pv 0) (pv 1) (fun _ _ => rfl)) (pe_ix ix_str (pv 0) (pe_op op_add (pv 1) pe_int) (fun _ _ => rfl)) (nomark _))) pa_nil))), ?_⟩
    refine ⟨_, rfl, _, rfl, ?_, _, _, rfl, rfl, _, rfl, ?_, ?_, fun D hD => ?_⟩
    · rw [tx_len, sizeLine_eq]; omega
    · rw [tx_len]; omega
    · rw [tx_len]; omega
    · rw [tx_len]
      have e1 : ((w.length : Int) - 1) = ((w.length - 1 : Nat) : Int) := by omega
      rw [e1]
      refine lc_range (lo := 0) (n := w.length - 1) (fun i H1 => Same H H1 ∧ H1 D = some (.lst (((List.range i).map (adj w)).map V.bl))) ?_ ?_ ?_
      · exact ⟨same_upd hD, upd_same⟩
      · rintro i H1 hi ⟨s1, hd⟩
        have hz : (tx w).length ≤ sizeLine := by rw [tx_len, sizeLine_eq]; omega
        have at1 : atI (tx w).cps.toList (0 + (i : Int)) = some (w.getD i 0) := by
          rw [tx_list, Int.zero_add]
          exact atI_nat (by rw [List.getD_eq_getElem?_getD, List.getElem?_eq_getElem (by omega)] <;> rfl)
        have at2 : atI (tx w).cps.toList (0 + (i : Int) + 1) = some (w.getD (i + 1) 0) := by
          have e2 : (0 + (i : Int) + 1) = ((i + 1 : Nat) : Int) := by omega
          rw [tx_list, e2]
          exact atI_nat (by rw [List.getD_eq_getElem?_getD, List.getElem?_eq_getElem (by omega)] <;> rfl)
        refine ⟨rfl, _, rfl, _, rfl, _, _, w.getD i 0, rfl, rfl, hz, at1, _, rfl, _, rfl, _, _, rfl, rfl, _, _, w.getD (i + 1) 0, rfl, rfl, hz, at2, _, _, rfl, rfl, _, hd, ?_, same_at s1 hD, ?_⟩
        · rw [List.length_map, List.length_map, List.length_range, sizeLine_eq]
          omega
        · have e3 := lt_one (w.getD i 0) (w.getD (i + 1) 0)
          rw [e3, upd_same, List.range_succ, List.map_append, List.map_append] <;> rfl
      · rintro H1 ⟨s1, hd⟩
        refine ⟨D, _, rfl, SqL.of hd, ?_⟩
        rw [adj_asc w hne]
        exact q _ s1
theorem scIW : FnScope ["value"] ["value"] (defScope sIsWord) := ⟨rfl, rfl, rfl, by decide +kernel, rfl, by decide +kernel, by decide +kernel⟩
theorem ok_isword {f : Addr} {fd : FuncData} (F : Fun K "is_word" "is_word" sIsWord f fd) (T : TN mg) : FnOk P w K mg base CX0 1 f fd ["value"] (spIsWord K) := by
  refine F.ok scIW (fun vs H Q E h => ?_) (fun cdv A outer s H vs Q E hr h => ?_)
  · obtain ⟨v, rfl, _⟩ := h
    rfl
  · obtain ⟨v, rfl, h⟩ := h
    refine ⟨_, pss_cons (ps_if (pt_not (pt_val (pe_callB call_isi (by rfl) T.isi (by decide +kernel) (pa_cons (pv 0) (pa_cons (pe_ty "str" T.str (by decide +kernel)) pa_nil))))) (pss_one (ps_ret pe_bl)) pss_nil)
      (pss_one (ps_ret (pe_or (pe_cmpR op_eq (pv 0) pe_str (nomark _))
        (pe_one (pe_and (pe_m0 PySem.F.slot_str_isascii PySem.F.type_str_isascii mt_isascii (pv 0))
          (pe_and (pe_m0 PySem.F.slot_str_isalpha PySem.F.type_str_isalpha mt_isalpha (pv 0)) (pe_one (pe_m0 PySem.F.slot_str_islower PySem.F.type_str_islower mt_islower (pv 0))))))))), ?_⟩
    rcases h with ⟨x, rfl, q⟩ | ⟨⟨t, ty, hk⟩, q⟩
    · refine ⟨_, rfl, _, _, _, _, true, rfl, .ty "str", .base (.str _), kit_ty (by decide +kernel), true, rfl, ?_⟩
      refine ⟨_, rfl, rfl, _, rfl, ?_⟩
      unfold wordB at q
      by_cases h1 : x = ""
      · rw [if_pos h1] at q
        rw [if_pos (decide_eq_true (by rw [h1]))]
        exact q
      · rw [if_neg h1] at q
        rw [if_neg (fun z => h1 (V.str.inj (of_decide_eq_true z)))]
        refine ⟨_, rfl, ⟨_, rfl⟩, _, rfl, rfl, trivial, _, rfl, ?_⟩
        by_cases h2 : Txt.isascii x = true
        · rw [if_pos h2] at q ⊢
          refine ⟨_, rfl, ⟨_, rfl⟩, _, rfl, rfl, trivial, _, rfl, ?_⟩
          by_cases h3 : Txt.isalpha x = true
          · rw [if_pos h3] at q ⊢
            exact ⟨_, rfl, ⟨_, rfl⟩, _, rfl, rfl, trivial, q⟩
          · rw [if_neg h3] at q ⊢
            exact q
        · rw [if_neg h2] at q ⊢
          exact q
    · refine ⟨_, rfl, _, _, _, _, false, rfl, .ty "str", ty, hk, false, rfl, ?_⟩
      exact q
theorem scIL : FnScope ["value"] ["value"] (defScope sIsLet) := ⟨rfl, rfl, rfl, by decide +kernel, rfl, by decide +kernel, by decide +kernel⟩
theorem ok_islet {f g h : Addr} {fd gd hd : FuncData} (F : Fun K "is_letters" "is_letters" sIsLet f fd) (T : TN mg) (A1 : Fn K mg "is_word" sIsWord ["value"] g gd) (A2 : Fn K mg "ascends" sAsc ["values"] h hd) : FnOk P w K mg base CX0 2 f fd ["value"] (spIsLet K) := by
  have G1 : FnOk P w K mg base CX0 1 g gd _ (spIsWord K) := ok_isword A1.F T
  have G2 : FnOk P w K mg base CX0 1 h hd _ spAsc := ok_asc A2.F T
  obtain ⟨tM, hM⟩ := T.most
  refine F.ok scIL (fun vs H Q E h => ?_) (fun cdv A outer s H vs Q E hr h => ?_)
  · obtain ⟨v, rfl, _⟩ := h
    rfl
  · obtain ⟨v, rfl, h⟩ := h
    refine ⟨_, pss_one (ps_ret (pe_and (pe_call G1 hr rfl A1.g A1.F.kp A1.b .nil pass0 (pa_cons (pv 0) pa_nil))
      (pe_and (pe_chain op_le op_le pe_int (pe_callB call_len_str (by rfl) T.len PySem.boot_len (pa_cons (pv 0) pa_nil)) (pe_glob rfl hM (show RelV (.int 3) (.int 3 tM) from ⟨tM, rfl⟩)))
        (pe_one (pe_call G2 hr rfl A2.g A2.F.kp A2.b .nil pass0 (pa_cons (pv 0) pa_nil)))))), ?_⟩
    rcases h with ⟨x, rfl, hx, q⟩ | ⟨hn, q⟩
    · unfold letB at q
      refine ⟨_, rfl, _, rfl, .inl ⟨x, rfl, ?_⟩⟩
      refine ⟨_, rfl, ?_⟩
      by_cases h1 : wordB x = true
      · rw [if_pos h1]
        rw [h1] at q
        have hz : x.length ≤ sizeLine := by rw [sizeLine_eq]; omega
        refine ⟨_, rfl, _, rfl, hz, _, _, rfl, rfl, _, rfl, ?_⟩
        by_cases h2 : 1 ≤ x.length
        · have h2' : ((1 : Int) ≤ (x.length : Int)) := by omega
          rw [if_pos (decide_eq_true h2')]
          refine ⟨_, _, rfl, rfl, _, rfl, ?_⟩
          by_cases h3 : x.length ≤ 3
          · have h3' : ((x.length : Int) ≤ 3) := by omega
            rw [if_pos (decide_eq_true h3')]
            rw [decide_eq_true h2, decide_eq_true h3] at q
            refine ⟨_, rfl, x.cps.toList, (by rw [tx_of]; rfl), ?_, ?_, fun H' s1 => q H' s1⟩
            · intro z
              have : x.cps.toList.length = x.length := Array.length_toList
              rw [z] at this
              have h0 : x.length = 0 := this.symm
              omega
            · have : x.cps.toList.length = x.length := Array.length_toList
              omega
          · have h3' : ¬ ((x.length : Int) ≤ 3) := by omega
            rw [decide_eq_true h2, decide_eq_false h3] at q
            rw [if_neg (fun z => h3' (of_decide_eq_true z))]
            exact q _ (Same.refl _)
        · have h2' : ¬ ((1 : Int) ≤ (x.length : Int)) := by omega
          rw [if_neg (fun z => h2' (of_decide_eq_true z))]
          rw [decide_eq_false h2] at q
          exact ⟨_, rfl, q _ (Same.refl _)⟩
      · have h1' : wordB x = false := eq_false_of_ne_true h1
        rw [if_neg h1]
        rw [h1'] at q
        exact q _ (Same.refl _)
    · refine ⟨_, rfl, _, rfl, .inr ⟨hn, ?_⟩⟩
      exact ⟨_, rfl, q⟩
def spOver : Sp := fun vs H Q _ => ∃ L u : W, vs = [.str (tx L), .str (tx u)] ∧ u.length < 64 ∧ (∀ c ∈ u, c ∈ L) ∧ ∀ H', Same H H' → Q (.bl true) H'
def spNeedOver : Sp := fun vs H Q _ => ∃ L u : W, vs = [.str (tx L), .str (tx u)] ∧ u.length < 64 ∧ (∀ c ∈ u, c ∈ L) ∧ ∀ H', Same H H' → Q .non H'
def spNeedWord : Sp := fun vs H Q _ => ∃ u : W, vs = [.str (tx u)] ∧ Low u ∧ Q .non H
def spNeedLet : Sp := fun vs H Q _ => ∃ L : W, vs = [.str (tx L)] ∧ Let L ∧ ∀ H', Same H H' → Q .non H'
theorem scIO : FnScope ["letters", "word", "letter"] ["letters", "word"] (defScope sIsOver) := ⟨rfl, rfl, rfl, by decide +kernel, rfl, by decide +kernel, by decide +kernel⟩
theorem size_tx (u : W) : (tx u).cps.size = u.length := List.size_toArray
theorem all_true : ∀ n : Nat, ((List.replicate n true).all id) = true
  | 0 => rfl
  | n + 1 => by rw [List.replicate_succ, List.all_cons, all_true n] <;> rfl
theorem ok_over {f : Addr} {fd : FuncData} (F : Fun K "is_over" "is_over" sIsOver f fd) (T : TN mg) : FnOk P w K mg base CX0 1 f fd ["letters", "word"] spOver := by
  refine F.ok scIO (fun vs H Q E h => ?_) (fun cdv A outer s H vs Q E hr h => ?_)
  · obtain ⟨L, u, rfl, _⟩ := h
    rfl
  · obtain ⟨L, u, rfl, hu, hL, q⟩ := h
    refine ⟨_, pss_one (ps_ret (pe_callB (cr_all rfl) (by rfl) T.all (by decide +kernel) (pa_cons (pe_lc (own := [("letter", 2)]) (g := gName 2) (tt := tYes) rfl scIO.nd
      (pi_list (pe_callB (TX.cr_sortX rfl) (by rfl) T.sorted (by decide +kernel) (pa_cons (pe_callTy (TX.call_setX rfl) (by rfl) T.set (by decide +kernel) (pa_cons (pv 1) pa_nil)) pa_nil)))
      (blkOk_by (own := [("letter", 2)]) (N := ["letters", "word", "letter"]) (sc := defScope sIsOver) (by decide +kernel)) (fun _ _ _ _ _ => pg_name (i := 2) scIO.nd rfl (Or.inl rfl)) (fun _ _ _ _ _ => pts_nil)
      (fun _ _ _ _ _ => pe_cmpR op_in_sign (pv 2) (pv 0) rfl)) pa_nil))), ?_⟩
    have hz : (tx u).cps.size < 64 := by rw [size_tx]; exact hu
    refine ⟨_, rfl, tx u, rfl, hz, fun a o ha ho => ?_⟩
    refine ⟨a, tx u, o, rfl, upd_same, ho, hz, fun p hp => ?_⟩
    rw [tx_list]
    refine ⟨p, rfl, ⟨_, SqL.of upd_same⟩, fun D hD => ?_⟩
    have sp : Same H (upd (upd H a o) p (.lst ((sigs u).map fun c => V.str (sg c)))) := same_two (same_upd ha) hp
    have hq : (upd (upd H a o) p (.lst ((sigs u).map fun c => V.str (sg c)))) p = some (.lst ((sigs u).map fun c => V.str (sg c))) := upd_same
    generalize upd (upd H a o) p (.lst ((sigs u).map fun c => V.str (sg c))) = G at sp hq hD ⊢
    refine lc_list (xs := (sigs u).map fun c => V.str (sg c)) (fun i H1 => Same G H1 ∧ H1 D = some (.lst ((List.replicate i true).map V.bl))) ⟨same_upd hD, upd_same⟩ (fun i H1 _ ⟨s1, _⟩ => SqL.of (s1 _ _ hq)) ?_ ?_
    · rintro i x H1 hx ⟨s1, hd⟩
      rw [List.getElem?_map] at hx
      cases hc : (sigs u)[i]? with
      | none => rw [hc] at hx; cases hx
      | some c =>
        rw [hc] at hx
        obtain rfl : V.str (sg c) = x := Option.some.inj hx
        have hm : c ∈ sigs u := List.mem_of_getElem? hc
        have hi : i < (sigs u).length := (List.getElem?_eq_some_iff.mp hc).1
        have hi2 := TX.len_sigs u
        refine ⟨rfl, _, rfl, _, rfl, c, tx L, rfl, rfl, _, hd, ?_, same_at s1 hD, ?_⟩
        · rw [List.length_map, List.length_replicate, sizeLine_eq]
          omega
        · have e : c ∈ (tx L).cps.toList := by rw [tx_list]; exact hL c ((TX.mem_sigs c u).mp hm)
          rw [decide_eq_true e, upd_same, List.replicate_succ', List.map_append] <;> rfl
    · rintro H1 ⟨s1, hd⟩
      refine ⟨D, _, rfl, SqL.of hd, ?_⟩
      rw [all_true]
      exact q _ (sp.trans s1)
theorem scNL : FnScope ["letters"] ["letters"] (defScope sNeedLet) := ⟨rfl, rfl, rfl, by decide +kernel, rfl, by decide +kernel, by decide +kernel⟩
theorem ok_needlet {f g : Addr} {fd gd : FuncData} (F : Fun K "need_letters" "need_letters" sNeedLet f fd) (A1 : Fn K mg "is_letters" sIsLet ["value"] g gd) (G1 : FnOk P w K mg base CX0 2 g gd ["value"] (spIsLet K)) : FnOk P w K mg base CX0 3 f fd ["letters"] spNeedLet := by
  refine F.ok scNL (fun vs H Q E h => ?_) (fun cdv A outer s H vs Q E hr h => ?_)
  · obtain ⟨L, rfl, _⟩ := h
    rfl
  · obtain ⟨L, rfl, hL, q⟩ := h
    refine ⟨_, pss_one (ps_if (pt_not (pt_val (pe_call G1 hr rfl A1.g A1.F.kp A1.b .nil pass0 (pa_cons (pv 0) pa_nil)))) (pss_one ps_never) pss_nil), ?_⟩
    refine ⟨_, rfl, _, rfl, .inl ⟨tx L, rfl, ?_, fun H' s1 => ⟨_, rfl, ?_⟩⟩⟩
    · rw [tx_len]
      have := hL.few
      omega
    · rw [letB_let hL]
      exact q _ s1
theorem scNW : FnScope ["word"] ["word"] (defScope sNeedWord) := ⟨rfl, rfl, rfl, by decide +kernel, rfl, by decide +kernel, by decide +kernel⟩
theorem ok_needword {f g : Addr} {fd gd : FuncData} (F : Fun K "need_word" "need_word" sNeedWord f fd) (A1 : Fn K mg "is_word" sIsWord ["value"] g gd) (G1 : FnOk P w K mg base CX0 1 g gd ["value"] (spIsWord K)) : FnOk P w K mg base CX0 2 f fd ["word"] spNeedWord := by
  refine F.ok scNW (fun vs H Q E h => ?_) (fun cdv A outer s H vs Q E hr h => ?_)
  · obtain ⟨L, rfl, _⟩ := h
    rfl
  · obtain ⟨u, rfl, hu, q⟩ := h
    refine ⟨_, pss_one (ps_if (pt_not (pt_val (pe_call G1 hr rfl A1.g A1.F.kp A1.b .nil pass0 (pa_cons (pv 0) pa_nil)))) (pss_one ps_never) pss_nil), ?_⟩
    refine ⟨_, rfl, _, rfl, .inl ⟨tx u, rfl, _, rfl, ?_⟩⟩
    rw [wordB_low hu]
    exact q
theorem scNO : FnScope ["letters", "word"] ["letters", "word"] (defScope sNeedOver) := ⟨rfl, rfl, rfl, by decide +kernel, rfl, by decide +kernel, by decide +kernel⟩
theorem ok_needover {f g : Addr} {fd gd : FuncData} (F : Fun K "need_over" "need_over" sNeedOver f fd) (A1 : Fn K mg "is_over" sIsOver ["letters", "word"] g gd) (G1 : FnOk P w K mg base CX0 1 g gd ["letters", "word"] spOver) : FnOk P w K mg base CX0 2 f fd ["letters", "word"] spNeedOver := by
  refine F.ok scNO (fun vs H Q E h => ?_) (fun cdv A outer s H vs Q E hr h => ?_)
  · obtain ⟨L, u, rfl, _⟩ := h
    rfl
  · obtain ⟨L, u, rfl, hu, hL, q⟩ := h
    refine ⟨_, pss_one (ps_if (pt_not (pt_val (pe_call G1 hr rfl A1.g A1.F.kp A1.b .nil pass0 (pa_cons (pv 0) (pa_cons (pv 1) pa_nil))))) (pss_one ps_never) pss_nil), ?_⟩
    exact ⟨_, rfl, _, rfl, L, u, rfl, hu, hL, fun H' s1 => ⟨_, rfl, q _ s1⟩⟩
end
end WK

set_option Elab.async false
set_option linter.all false
set_option maxRecDepth 100000
set_option maxHeartbeats 8000000
/-! What is told of a word: power, counts, ends, pieces. -/
namespace WK
open PySem L2 PyProof.Rows K1
open TX (sg sigs)
open Walks
open PySem.W (Frag kitOne)
abbrev sLast : Stmt := top 31
abbrev sFirst : Stmt := top 32
def spLast : Sp := fun vs H Q _ => ∃ (u : W) (n : Int), vs = [.str (tx u), .int n] ∧ Low u ∧ u.length ≤ 1000 ∧ 0 ≤ n ∧ n ≤ 400 ∧ Q (.str (tx (u.drop (u.length - n.toNat)))) H
def spFirst : Sp := fun vs H Q _ => ∃ (u : W) (n : Int), vs = [.str (tx u), .int n] ∧ Low u ∧ u.length ≤ 1000 ∧ 0 ≤ n ∧ n ≤ 400 ∧ Q (.str (tx (u.take n.toNat))) H
theorem cut_from (u : W) (i : Nat) : cutS (tx u) (some (i : Int)) none = tx (u.drop i) := by
  unfold cutS
  rw [tx_len, tx_list]
  have h1 : HT.sIx u.length u.length none = u.length := rfl
  have h2 : HT.sIx u.length 0 (some (i : Int)) = min i u.length := by
    unfold HT.sIx
    simp
    try omega
  rw [h1, h2]
  show (⟨_⟩ : Str) = ⟨_⟩
  congr 2
  by_cases h : i ≤ u.length
  · rw [Nat.min_eq_left h, List.take_of_length_le (by rw [List.length_drop]; exact Nat.le_refl _)]
  · rw [Nat.min_eq_right (by omega), List.drop_of_length_le (Nat.le_refl _), List.drop_of_length_le (by omega)]
    simp
theorem cut_to (u : W) (i : Nat) : cutS (tx u) none (some (i : Int)) = tx (u.take i) := by
  unfold cutS
  rw [tx_len, tx_list]
  have h1 : HT.sIx u.length 0 none = 0 := rfl
  have h2 : HT.sIx u.length u.length (some (i : Int)) = min i u.length := by
    unfold HT.sIx
    simp
    try omega
  rw [h1, h2, List.drop_zero, Nat.sub_zero]
  show (⟨_⟩ : Str) = ⟨_⟩
  congr 2
  by_cases h : i ≤ u.length
  · rw [Nat.min_eq_left h]
  · rw [Nat.min_eq_right (by omega), List.take_of_length_le (Nat.le_refl _), List.take_of_length_le (by omega)]
section
variable {P : Program} {w : World} {K : PySem.W.Frag} {mg : Str → Option Value} {base : Heap}
variable {fNL fNW fNO fNN : Addr} {dNL dNW dNO dNN : FuncData}
theorem scLa : FnScope ["word", "number"] ["word", "number"] (defScope sLast) := ⟨rfl, rfl, rfl, by decide +kernel, rfl, by decide +kernel, by decide +kernel⟩
theorem ok_last {f : Addr} {fd : FuncData} (F : Fun K "last_letters" "last_letters" sLast f fd) (T : TN mg) (AW : Fn K mg "need_word" sNeedWord ["word"] fNW dNW) (GW : FnOk P w K mg base CX0 2 fNW dNW ["word"] spNeedWord)
    (AN : Fn K mg "need_number" sNeedNum ["value", "least", "most"] fNN dNN) (GN : FnOk P w K mg base CX0 3 fNN dNN ["value", "least", "most"] spNeedNum) : FnOk P w K mg base CX0 4 f fd ["word", "number"] spLast := by
  refine F.ok scLa (fun vs H Q E h => ?_) (fun cdv A outer s H vs Q E hr h => ?_)
  · obtain ⟨u, n, rfl, _⟩ := h
    rfl
  · obtain ⟨u, n, rfl, hu, hl, h0, h1, q⟩ := h
    refine ⟨_, pss_cons (ps_expr (pe_call GW (hr.mono (by decide)) rfl AW.g AW.F.kp AW.b .nil pass0 (pa_cons (pv 0) pa_nil)))
      (pss_cons (ps_expr (pe_call GN hr rfl AN.g AN.F.kp AN.b .nil pass0 (pa_cons (pv 1) (pa_cons pe_int (pa_cons pe_int pa_nil)))))
      (pss_one (ps_ret (pe_slice sl_str (pv 0) (po_some (pe_callB (call_max2 rfl) (by rfl) T.max (by decide +kernel) (pa_cons pe_int (pa_cons (pe_op op_sub (pe_callB call_len_str (by rfl) T.len PySem.boot_len (pa_cons (pv 0) pa_nil)) (pv 1)) pa_nil)))) po_none)))), ?_⟩
    refine ⟨_, rfl, u, rfl, hu, _, rfl, n, 0, 400, rfl, h0, h1, ?_⟩
    have hz : (tx u).length ≤ sizeLine := by rw [tx_len, sizeLine_eq]; omega
    refine ⟨_, rfl, _, rfl, _, rfl, hz, _, rfl, _, _, rfl, rfl, _, _, rfl, _, rfl, tx u, rfl, hz, ?_⟩
    rw [tx_len]
    have e : (if ((u.length : Int) - n) > 0 then ((u.length : Int) - n) else 0) = ((u.length - n.toNat : Nat) : Int) := by
      split <;> omega
    rw [e, cut_from]
    exact q
theorem scFi : FnScope ["word", "number"] ["word", "number"] (defScope sFirst) := ⟨rfl, rfl, rfl, by decide +kernel, rfl, by decide +kernel, by decide +kernel⟩
theorem ok_first {f : Addr} {fd : FuncData} (F : Fun K "first_letters" "first_letters" sFirst f fd) (AW : Fn K mg "need_word" sNeedWord ["word"] fNW dNW) (GW : FnOk P w K mg base CX0 2 fNW dNW ["word"] spNeedWord)
    (AN : Fn K mg "need_number" sNeedNum ["value", "least", "most"] fNN dNN) (GN : FnOk P w K mg base CX0 3 fNN dNN ["value", "least", "most"] spNeedNum) : FnOk P w K mg base CX0 4 f fd ["word", "number"] spFirst := by
  refine F.ok scFi (fun vs H Q E h => ?_) (fun cdv A outer s H vs Q E hr h => ?_)
  · obtain ⟨u, n, rfl, _⟩ := h
    rfl
  · obtain ⟨u, n, rfl, hu, hl, h0, h1, q⟩ := h
    refine ⟨_, pss_cons (ps_expr (pe_call GW (hr.mono (by decide)) rfl AW.g AW.F.kp AW.b .nil pass0 (pa_cons (pv 0) pa_nil)))
      (pss_cons (ps_expr (pe_call GN hr rfl AN.g AN.F.kp AN.b .nil pass0 (pa_cons (pv 1) (pa_cons pe_int (pa_cons pe_int pa_nil)))))
      (pss_one (ps_ret (pe_slice sl_str (pv 0) po_none (po_some (pv 1)))))), ?_⟩
    refine ⟨_, rfl, u, rfl, hu, _, rfl, n, 0, 400, rfl, h0, h1, ?_⟩
    have hz : (tx u).length ≤ sizeLine := by rw [tx_len, sizeLine_eq]; omega
    refine ⟨_, rfl, _, rfl, _, rfl, tx u, rfl, hz, ?_⟩
    have e : n = ((n.toNat : Nat) : Int) := by omega
    rw [e, cut_to]
    exact q
end
end WK

set_option Elab.async false
set_option linter.all false
set_option maxRecDepth 100000
set_option maxHeartbeats 8000000
/-! The law's own drawing and walks. -/
namespace WK
open PySem L2 PyProof.Rows K1
open TX (sg sigs)
open PySem.W (Frag kitOne)
abbrev sMixed : Stmt := top 53
abbrev sLetters : Stmt := top 54
abbrev sWord : Stmt := top 55
abbrev sLCounts : Stmt := top 56
abbrev sLIsP : Stmt := top 57
abbrev sLAll : Stmt := top 58
abbrev sLPieces : Stmt := top 59
theorem but_at {p a : Addr} {H H1 : Hp} {o : HO} (B : But p H H1) (h : H a = none) : But p H (upd H1 a o) := fun b u e n => by rw [upd_ne (ne_of_none e h)]; exact B b u e n
theorem but_two {p a : Addr} {H H1 : Hp} {o : HO} (B : But p H H1) (h : H1 a = none) : But p H (upd H1 a o) := B.trans (But.ofSame (same_upd h))
theorem DiceAt.keep {H H' : Hp} {p : Addr} (h : DiceAt H p) (k : ∀ o, H p = some o → H' p = some o) : DiceAt H' p := by
  obtain ⟨a, b, c, e, r⟩ := h
  exact ⟨a, b, c, k _ e, r⟩
theorem DiceAt.new {H : Hp} {p a : Addr} {o : HO} (h : DiceAt H p) (ha : H a = none) : DiceAt (upd H a o) p := h.keep fun _ e => same_upd ha _ _ e
theorem DiceAt.ne {H : Hp} {p a : Addr} (h : DiceAt H p) (ha : H a = none) : a ≠ p := fun z => by
  obtain ⟨_, _, _, e, _⟩ := h
  rw [← z, ha] at e
  cases e
/-! ### data of texts -/
theorem dp_strs {K : Frag} {H : Hp} : ∀ ys : List Str, DpAll K H (ys.map V.str) (ys.map PyData.str)
  | [] => .nil
  | y :: ys => .cons (.str y) (dp_strs ys)
theorem shaped_strs (ys : List Str) (h : ∀ y ∈ ys, PyData.canLay0 (.str y) = true) : SeqAt.shaped (.list (ys.map PyData.str)) = true ∧ SeqAt.shaped (.tuple (ys.map PyData.str)) = true := by
  have h1 : ∀ ys : List Str, (∀ y ∈ ys, PyData.canLay0 (.str y) = true) → PyData.canLayAll0 (ys.map PyData.str) = true := by
    intro ys
    induction ys with
    | nil => intro _; rfl
    | cons y ys ih =>
      intro h
      show (PyData.canLay0 (.str y) && PyData.canLayAll0 (ys.map PyData.str)) = true
      rw [h y List.mem_cons_self, ih fun z hz => h z (List.mem_cons_of_mem _ hz)] <;> rfl
  have h2 : ∀ ys : List Str, PyData.depthAll (ys.map PyData.str) = 0 := by
    intro ys
    induction ys with
    | nil => rfl
    | cons y ys ih =>
      show max (PyData.depth (.str y)) (PyData.depthAll (ys.map PyData.str)) = 0
      rw [ih] <;> rfl
  constructor
  · show (PyData.canLayAll0 _ && decide (PyData.depthAll _ + 1 ≤ 64)) = true
    rw [h1 ys h, h2 ys] <;> rfl
  · show (PyData.canLayAll0 _ && decide (PyData.depthAll _ + 1 ≤ 64)) = true
    rw [h1 ys h, h2 ys] <;> rfl
theorem eqv_nil (ys : List Str) : PyData.eqv (.list (ys.map PyData.str)) (.list []) = ys.isEmpty := by
  cases ys <;> rfl
theorem seqIx {i : Int} {n : Nat} (h0 : 0 ≤ i) (h1 : i < (n : Int)) : seqIndex? i n = some i.toNat := by
  unfold seqIndex?
  have e : ¬ i < 0 := by omega
  simp only [e, if_false]
  rw [decide_eq_true h0, decide_eq_true h1] <;> rfl
theorem map_erase {α β : Type} (f : α → β) : ∀ (xs : List α) (k : Nat), (xs.map f).eraseIdx k = (xs.eraseIdx k).map f
  | [], _ => rfl
  | _ :: _, 0 => rfl
  | x :: xs, k + 1 => by
    show f x :: (xs.map f).eraseIdx k = f x :: (xs.eraseIdx k).map f
    rw [map_erase f xs k]
def spMixed : Sp := fun vs H Q _ => ∃ (p q : Addr) (ys : List Str), vs = [.ref p, .ref q] ∧ DiceAt H p ∧ q ≠ p ∧ H q = some (.lst (ys.map V.str)) ∧ ys.length < 100 ∧ (∀ y ∈ ys, PyData.canLay0 (.str y) = true) ∧
  ∀ (r : Addr) (zs : List Str) (H' : Hp), zs.Perm ys → H r = none → DiceAt H' p → But p H H' → H' r = some (.lst (zs.map V.str)) → r ≠ p → Q (.ref r) H'
section
variable {P : Program} {w : World} {K : PySem.W.Frag} {mg : Str → Option Value} {base : Heap}
variable {fR fM fO : Addr} {dR dM dO : FuncData}
def muMix : L2.St → Hp → Nat := fun σ H => match σ with
  | [_, _, some (.ref l), _] => (match H l with | some (.lst xs) => xs.length | _ => 0)
  | _ => 0
theorem scMi : FnScope ["_law_dice_here", "_law_items", "_law_left", "_law_found"] ["_law_dice_here", "_law_items"] (defScope sMixed) := ⟨rfl, rfl, rfl, by decide +kernel, rfl, by decide +kernel, by decide +kernel⟩
theorem ok_mixed {f : Addr} {fd : FuncData} (F : Fun K "_law_mixed" "_law_mixed" sMixed f fd) (T : TN mg) (AR : Fn K mg "_law_roll" sRoll ["_law_dice_here", "_law_total_here"] fR dR) : FnOk P w K mg base CX0 2 f fd ["_law_dice_here", "_law_items"] spMixed := by
  have GR : FnOk P w K mg base CX0 1 fR dR ["_law_dice_here", "_law_total_here"] spRoll := ok_roll AR.F T.dice
  refine F.ok scMi (fun vs H Q E h => ?_) (fun cdv A outer s H vs Q E hr h => ?_)
  · obtain ⟨u, n, _, rfl, _⟩ := h
    rfl
  · obtain ⟨p, q, ys, rfl, hD, hqp, hq, hl, hy, qq⟩ := h

    refine ⟨_, pss_cons (ps_par (i := 2) (j := 3) (by rfl) scMi.nd rfl rfl (by decide) rfl rfl (pa_cons (pe_callTy call_list_of (by rfl) T.list (by decide +kernel) (pa_cons (pv 1) pa_nil)) (pa_cons (pe_lst pa_nil) pa_nil)) (by rfl))
      (pss_cons (ps_while PassesOwn.never (pt_cmpR (op_neD hr.units) (pv 2) (pe_lst pa_nil) (nomark _))
        (pss_one (ps_expr (pe_bm PySem.F.plainAttrs_list PySem.F.slot_list_append PySem.F.type_list_append mt_append (pv 3) (pa_cons
          (pe_bm PySem.F.plainAttrs_list PySem.F.slot_list_pop PySem.F.type_list_pop mt_popAt (pv 2) (pa_cons
            (pe_call GR hr rfl AR.g AR.F.kp AR.b .nil pass0 (pa_cons (pv 0) (pa_cons (pe_callB call_len_seq (by rfl) T.len PySem.boot_len (pa_cons (pv 2) pa_nil)) pa_nil))) pa_nil)) pa_nil)))))
      (pss_one (ps_ret (pv 3)))), ?_⟩
    refine ⟨_, rfl, q, _, rfl, .inl (SqL.of hq), fun l hl1 => ⟨(by show 0 ≤ sizeLine; decide), fun r hr1 => ⟨_, _, rfl, ?_⟩⟩⟩
    refine while_by (fun σ H1 => ∃ zs fs : List Str, σ = [some (.ref p), some (.ref q), some (.ref l), some (.ref r)] ∧ DiceAt H1 p ∧ But p H H1 ∧ H1 l = some (.lst (zs.map V.str)) ∧ H1 r = some (.lst (fs.map V.str)) ∧ (zs ++ fs).Perm ys) muMix ?_ ?_ ?_
    · exact ⟨ys, [], rfl, (hD.new hl1).new hr1, But.ofSame (same_two (same_upd hl1) hr1), same_upd hr1 _ _ upd_same, upd_same, by rw [List.append_nil]⟩
    · have nr : H r = none := (same_upd hl1).free hr1
      have lp := hD.ne hl1
      have rp := hD.ne nr
      have lr : l ≠ r := fun z => by rw [← z, upd_same] at hr1; cases hr1
      rintro σ H1 ⟨zs, fs, rfl, hD1, hB1, hz, hf, hp⟩
      have hzy : ∀ y ∈ zs, PyData.canLay0 (.str y) = true := fun y hm => hy y (hp.mem_iff.mp (List.mem_append_left _ hm))
      have hlen : zs.length + fs.length = ys.length := by rw [← List.length_append, hp.length_eq]
      refine ⟨_, rfl, (by show 0 ≤ sizeLine; decide), fun e he => ⟨.list (zs.map PyData.str), .list [], .lst (SqL.of (same_upd he _ _ hz)) (dp_strs zs), .lst (SqL.of upd_same) .nil, (shaped_strs zs hzy).1, by decide, _, rfl, ?_⟩⟩
      rw [eqv_nil]
      have eD := hD1.new he (o := .lst [])
      have eB : But p H (upd H1 e (.lst [])) := but_two hB1 he
      have ez := same_upd he (o := .lst []) _ _ hz
      have ef := same_upd he (o := .lst []) _ _ hf
      generalize upd H1 e (.lst []) = H2 at eD eB ez ef ⊢
      cases zs with
      | nil => exact ⟨_, rfl, qq r fs _ hp nr eD eB ef rp⟩
      | cons z zs =>
        have len : (((z :: zs).map V.str).length : Int) = (z :: zs).length := by rw [List.length_map]
        have len2 : (z :: zs).length < 100 := by omega
        have len3 : 0 < (z :: zs).length := Nat.succ_pos _
        refine ⟨_, rfl, .inl ⟨rfl, _, SqL.of ef⟩, _, rfl, .inl ⟨rfl, _, SqL.of ez⟩, _, rfl, _, rfl, l, _, rfl, .inl (SqL.of ez), p, _, rfl, eD, by rw [len]; omega, by rw [len]; omega, fun i H3 hi0 hi1 hD3 hB3 => ?_⟩
        rw [len] at hi1
        have hk : i.toNat < (z :: zs).length := by omega
        have hz3 := hB3 _ _ ez lp
        have hf3 := hB3 _ _ ef rp
        have hget : ((z :: zs).map V.str)[i.toNat]? = some (V.str (z :: zs)[i.toNat]) := by rw [List.getElem?_map, List.getElem?_eq_getElem hk] <;> rfl
        have hidx : seqIndex? i ((z :: zs).map V.str).length = some i.toNat := by
          exact seqIx hi0 (by rw [len]; exact hi1)
        refine ⟨l, _, i, i.toNat, _, rfl, rfl, hz3, by omega, by omega, hidx, hget, r, _, _, rfl, rfl, (by rw [upd_ne (Ne.symm lr)]; exact hf3), ?_, ?_, ?_⟩
        · rw [List.length_map, sizeLine_eq]
          omega
        · refine ⟨(z :: zs).eraseIdx i.toNat, fs ++ [(z :: zs)[i.toNat]], rfl, ?_, ?_, ?_, ?_, ?_⟩
          · exact hD3.keep fun o e => by rw [upd_ne (Ne.symm rp), upd_ne (Ne.symm lp)]; exact e
          · exact but_at (but_at (eB.trans hB3) hl1) nr
          · rw [upd_ne lr, upd_same, map_erase]
          · rw [upd_same, List.map_append] <;> rfl
          · refine List.Perm.trans ?_ hp
            have h1 := erase_perm (z :: zs) i.toNat _ (List.getElem?_eq_getElem hk)
            refine List.Perm.trans ?_ (h1.append_right fs)
            show List.Perm (_ ++ (fs ++ [_])) (_ :: (_ ++ fs))
            rw [← List.append_assoc]
            exact List.perm_append_singleton _ _
        · show (match (upd (upd H3 l _) r _) l with | some (.lst xs) => xs.length | _ => 0) < (match H1 l with | some (.lst xs) => xs.length | _ => 0)
          rw [upd_ne lr, upd_same, hz]
          show (((z :: zs).map V.str).eraseIdx i.toNat).length < ((z :: zs).map V.str).length
          rw [List.length_eraseIdx, if_pos (by rw [List.length_map]; exact hk), List.length_map]
          omega
    · exact fun σ H Q Q' hm ⟨v, hv, hl, h⟩ => ⟨v, hv, hl, fun l hl' => let ⟨d, e, a, b, c, dd, k, hk, q⟩ := h l hl'; ⟨d, e, a, b, c, dd, k, hk, hm _ _ q⟩⟩
end
end WK

set_option Elab.async false
set_option linter.all false
set_option maxRecDepth 100000
set_option maxHeartbeats 8000000
/-! The law's letters, words, counts. -/
namespace WK
open PySem L2 PyProof.Rows K1
open TX (sg sigs)
open PySem.W (Frag kitOne)
theorem but_free {p a : Addr} {H H1 : Hp} (B : But p H H1) (ha : H1 a = none) (hne : a ≠ p) : H a = none := by
  cases e : H a with
  | none => rfl
  | some o => rw [B a o e hne] at ha; cases ha
theorem low_lay {u : W} (h : Low u) : PyData.canLay0 (.str (tx u)) = true := by
  show (u.toArray).all _ = true
  rw [List.all_toArray, List.all_eq_true]
  intro c hc
  have := h c hc
  exact decide_eq_true (by omega)
theorem strs_tx (us : List W) : (us.map tx).map V.str = us.map fun u => V.str (tx u) := by rw [List.map_map] <;> rfl
theorem flat_one (us : W) : (us.map fun c => [c]).flatten = us := by
  induction us with
  | nil => rfl
  | cons c us ih => rw [List.map_cons, List.flatten_cons, ih] <;> rfl
theorem join_sg (us : W) : Txt.join (tx []) (us.map sg) = tx us := by
  have e : us.map sg = (us.map fun c => [c]).map tx := by rw [List.map_map] <;> rfl
  rw [e, join_eq0, flat_one]
theorem sum_sg (us : W) : ((us.map sg).map (·.length)).sum = us.length := by
  induction us with
  | nil => rfl
  | cons c us ih =>
    rw [List.map_cons, List.map_cons, List.sum_cons, ih, List.length_cons]
    show 1 + us.length = us.length + 1
    omega
theorem cut_take {α : Type} (f : α → V) (zs : List α) (n : Nat) : cutV (zs.map f) none (some (n : Int)) = (zs.take n).map f := by
  unfold cutV
  have h1 : HT.sIx (zs.map f).length 0 none = 0 := rfl
  have h2 : HT.sIx (zs.map f).length (zs.map f).length (some (n : Int)) = min n zs.length := by
    unfold HT.sIx
    simp
    try omega
  rw [h1, h2, List.drop_zero, Nat.sub_zero, List.map_take]
  by_cases h : n ≤ zs.length
  · rw [Nat.min_eq_left h]
  · rw [Nat.min_eq_right (by omega), List.take_of_length_le (by rw [List.length_map]; exact Nat.le_refl _), List.take_of_length_le (by rw [List.length_map]; omega)]
def six : W := [97, 98, 100, 109, 114, 120]
theorem six_is : ("abdmrx" : Str) = tx six := by decide +kernel
def spLetters : Sp := fun vs H Q _ => ∃ (p : Addr) (n : Int), vs = [.ref p, .int n] ∧ DiceAt H p ∧ 1 ≤ n ∧ n ≤ 3 ∧ ∀ (L : W) (H' : Hp), Let L → DiceAt H' p → But p H H' → Q (.str (tx L)) H'
def spWordL : Sp := fun vs H Q _ => ∃ (p : Addr) (L : W) (m : Int), vs = [.ref p, .str (tx L), .int m] ∧ DiceAt H p ∧ Let L ∧ 0 ≤ m ∧ m ≤ 50 ∧ ∀ (u : W) (H' : Hp), (u.length : Int) ≤ m → (∀ c ∈ u, c ∈ L) → DiceAt H' p → But p H H' → Q (.str (tx u)) H'
section
variable {P : Program} {w : World} {K : PySem.W.Frag} {mg : Str → Option Value} {base : Heap}
variable {fR fM fO : Addr} {dR dM dO : FuncData}
theorem scLe : FnScope ["_law_dice_here", "_law_total_here"] ["_law_dice_here", "_law_total_here"] (defScope sLetters) := ⟨rfl, rfl, rfl, by decide +kernel, rfl, by decide +kernel, by decide +kernel⟩
theorem ok_letters {f : Addr} {fd : FuncData} (F : Fun K "_law_letters" "_law_letters" sLetters f fd) (T : TN mg) (AM : Fn K mg "_law_mixed" sMixed ["_law_dice_here", "_law_items"] fM dM) (GM : FnOk P w K mg base CX0 2 fM dM ["_law_dice_here", "_law_items"] spMixed) : FnOk P w K mg base CX0 3 f fd ["_law_dice_here", "_law_total_here"] spLetters := by
  refine F.ok scLe (fun vs H Q E h => ?_) (fun cdv A outer s H vs Q E hr h => ?_)
  · obtain ⟨u, n, rfl, _⟩ := h
    rfl
  · obtain ⟨p, n, rfl, hD, h1, h3, q⟩ := h
    refine ⟨_, pss_one (ps_ret (pe_join pe_str (pe_callB cr_sortedS (by rfl) T.sorted (by decide +kernel) (pa_cons (pe_slice sl_list
      (pe_call GM hr rfl AM.g AM.F.kp AM.b .nil pass0 (pa_cons (pv 0) (pa_cons (pe_callTy (TX.call_listX rfl) (by rfl) T.list (by decide +kernel) (pa_cons pe_str pa_nil)) pa_nil))) po_none (po_some (pv 1))) pa_nil)))), ?_⟩
    have e0 : (tx six).cps.toList.map (fun c => V.str (sg c)) = (six.map sg).map V.str := by rw [tx_list, List.map_map] <;> rfl
    refine ⟨⟨_, rfl⟩, _, rfl, "abdmrx", rfl, by decide +kernel, fun l hl => ?_⟩
    rw [six_is, e0]
    have lp := hD.ne hl
    refine ⟨p, l, six.map sg, rfl, hD.new hl, lp, upd_same, by decide, by decide +kernel, fun r zs H' hz hr1 hD' hB' hr2 hrp => ?_⟩
    have nr : H r = none := (same_upd hl).free hr1
    have B2 : But p H H' := (But.ofSame (same_upd hl)).trans hB'
    refine ⟨_, rfl, n, rfl, r, _, rfl, SqL.of hr2, fun t ht => ?_⟩
    have en : n = ((n.toNat : Nat) : Int) := by omega
    have zl : zs.length = 6 := hz.length_eq
    rw [en, cut_take]
    refine ⟨t, zs.take n.toNat, rfl, SqL.of upd_same, by rw [List.length_take]; omega, fun ys d hp hs hd => ?_⟩
    -- the letters
    have allz : ∀ x ∈ zs, ∃ c, x = sg c ∧ c ∈ six := fun x hx => by
      obtain ⟨c, hc, e⟩ := List.mem_map.mp (hz.mem_iff.mp hx)
      exact ⟨c, e.symm, hc⟩
    have ally : ∀ x ∈ ys, ∃ c, x = sg c ∧ c ∈ six := fun x hx => allz x (List.mem_of_mem_take (hp.mem_iff.mp hx))
    have ey : ys = (ys.map TX.hd1).map sg := TX.all_sg ys fun x hx => let ⟨c, e, _⟩ := ally x hx; ⟨c, e⟩
    have nz : zs.Nodup := hz.nodup_iff.mpr (by decide)
    have ny : ys.Nodup := hp.nodup_iff.mpr (nz.sublist (List.take_sublist _ _))
    have lenL : (ys.map TX.hd1).length = n.toNat := by
      rw [List.length_map, hp.length_eq, List.length_take]
      omega
    have hL : Let (ys.map TX.hd1) := by
      refine ⟨fun c hc => ?_, ?_, fun z => ?_, by omega⟩
      · obtain ⟨x, hx, e⟩ := List.mem_map.mp hc
        obtain ⟨c', rfl, hc'⟩ := ally x hx
        have : c' = c := e
        rw [← this]
        have h6 : ∀ c ∈ six, 97 ≤ c ∧ c ≤ 122 := by decide
        exact h6 _ hc'
      · rw [ey] at hs ny
        refine TX.lt_of_le _ (TX.sorted_le _ hs) ((List.pairwise_map.mp ny).imp fun h q => h (by rw [q]))
      · rw [z] at lenL
        have : (0 : Nat) = n.toNat := lenL
        omega
    have ey2 : ys.map V.str = ((ys.map TX.hd1).map sg).map V.str := by rw [← ey]
    refine ⟨tx [], d, (ys.map TX.hd1).map sg, rfl, rfl, .inl (SqL.of (by rw [upd_same, ← ey])), ?_, ?_⟩
    · rw [sum_sg]
      show (ys.map TX.hd1).length + _ * 0 ≤ _
      omega
    · rw [join_sg]
      exact q _ _ hL ((hD'.new ht).new hd) (but_two (but_two B2 ht) hd)
theorem scWo : FnScope ["_law_dice_here", "_law_letters_here", "_law_most", "_law_turn"] ["_law_dice_here", "_law_letters_here", "_law_most"] (defScope sWord) := ⟨rfl, rfl, rfl, by decide +kernel, rfl, by decide +kernel, by decide +kernel⟩
theorem ok_word {f : Addr} {fd : FuncData} (F : Fun K "_law_word" "_law_word" sWord f fd) (T : TN mg) (AR : Fn K mg "_law_roll" sRoll ["_law_dice_here", "_law_total_here"] fR dR)
    (AO : Fn K mg "_law_one_of" sOne ["_law_dice_here", "_law_items"] fO dO) : FnOk P w K mg base CX0 3 f fd ["_law_dice_here", "_law_letters_here", "_law_most"] spWordL := by
  have GR : FnOk P w K mg base CX0 1 fR dR ["_law_dice_here", "_law_total_here"] spRoll := ok_roll AR.F T.dice
  have GO : FnOk P w K mg base CX0 2 fO dO ["_law_dice_here", "_law_items"] spOne := ok_one AO.F T.dice AR.g AR.F AR.b
  refine F.ok scWo (fun vs H Q E h => ?_) (fun cdv A outer s H vs Q E hr h => ?_)
  · obtain ⟨u, n, _, rfl, _⟩ := h
    rfl
  · obtain ⟨p, L, m, rfl, hD, hL, h0, h1, q⟩ := h
    have hr1 : Room 1 _ := hr.mono (by decide)
    refine ⟨_, pss_one (ps_ret (pe_join pe_str (pe_lc (own := [("_law_turn", 3)]) (g := gName 3) (tt := tYes) rfl scWo.nd
      (pi_range1 rfl T.rng (pa_cons (pe_call GR hr1 rfl AR.g AR.F.kp AR.b .nil pass0 (pa_cons (pv 0) (pa_cons (pe_op op_add (pv 2) pe_int) pa_nil))) pa_nil))
      (blkOk_by (own := [("_law_turn", 3)]) (N := ["_law_dice_here", "_law_letters_here", "_law_most", "_law_turn"]) (sc := defScope sWord) (by decide +kernel)) (fun _ _ _ _ _ => pg_name (i := 3) scWo.nd rfl (Or.inl rfl)) (fun _ _ _ _ _ => pts_nil)
      (fun _ _ _ _ _ => pe_call GO hr rfl AO.g AO.F.kp AO.b .nil pass0 (pa_cons (pv 0) (pa_cons (pe_callTy (TX.call_listX rfl) (by rfl) T.list (by decide +kernel) (pa_cons (pv 1) pa_nil)) pa_nil)))))), ?_⟩
    refine ⟨⟨_, rfl⟩, _, rfl, _, rfl, _, _, rfl, rfl, p, _, rfl, hD, by omega, by omega, fun r H1 hr0 hr1 hD1 hB1 => ?_⟩
    refine ⟨_, rfl, by omega, by omega, fun D hD2 => ?_⟩
    have Dp := hD1.ne hD2
    have nD : H D = none := but_free hB1 hD2 Dp
    refine lc_range (lo := 0) (n := r.toNat) (fun i H3 => DiceAt H3 p ∧ But p H H3 ∧ ∃ us : W, us.length = i ∧ (∀ c ∈ us, c ∈ L) ∧ H3 D = some (.lst (us.map fun c => V.str (sg c)))) ⟨hD1.new hD2, but_two hB1 hD2, [], rfl, fun c hc => (nomatch hc), upd_same⟩ ?_ ?_
    · rintro i H3 hi ⟨hD3, hB3, us, hlen, hus, hd⟩
      refine ⟨rfl, _, rfl, _, rfl, tx L, rfl, ?_, fun l hl => ?_⟩
      · rw [size_tx, sizeLine_eq]
        have := hL.few
        omega
      rw [tx_list]
      have hne := List.length_pos_iff.mpr hL.ne
      refine ⟨p, l, _, rfl, hD3.new hl, hD3.ne hl, upd_same, by rw [List.length_map]; exact hne, by rw [List.length_map]; have := hL.few; omega, fun v H4 hv hD4 hB4 => ?_⟩
      obtain ⟨c, hc, rfl⟩ := List.mem_map.mp hv
      have hd4 : H4 D = _ := hB4 _ _ (same_upd hl _ _ hd) Dp
      refine ⟨_, hd4, ?_, hD4.keep fun o e => by rw [upd_ne (Ne.symm Dp)]; exact e, but_at ((but_two hB3 hl).trans hB4) nD, us ++ [c], ?_, ?_, ?_⟩
      · rw [List.length_map, hlen, sizeLine_eq]
        omega
      · rw [List.length_append, hlen] <;> rfl
      · intro d hd'
        rcases List.mem_append.mp hd' with z | z
        · exact hus d z
        · rw [List.mem_singleton.mp z]
          exact hc
      · rw [upd_same, List.map_append] <;> rfl
    · rintro H3 ⟨hD3, hB3, us, hlen, hus, hd⟩
      have e1 : us.map (fun c => V.str (sg c)) = (us.map sg).map V.str := by rw [List.map_map] <;> rfl
      rw [e1] at hd
      refine ⟨tx [], D, us.map sg, rfl, rfl, .inl (SqL.of hd), ?_, ?_⟩
      · rw [sum_sg]
        show us.length + _ * 0 ≤ _
        omega
      · rw [join_sg]
        exact q us H3 (by omega) hus hD3 hB3
end
end WK

set_option Elab.async false
set_option linter.all false
set_option maxRecDepth 100000
set_option maxHeartbeats 6000000
/-! A comprehension that picks: each item gives the list r x of none or some values; what else stands stays. -/
namespace LCX
open PySem L2 PyProof.Rows WK
open PySem.W (Frag)
theorem seqT {K : Frag} {H H' : Hp} {a : Addr} {xs : List V} (e : Same H H') (h : SqT K H a xs) : SqT K H' a xs := by
  rcases h with h | h
  · rcases h with h | ⟨ob, h⟩
    · exact .inl (.inl (e _ _ h))
    · exact .inl (.inr ⟨ob, e _ _ h⟩)
  · exact .inr h
theorem take_succ_flat {α : Type} (l : List α) (r : α → List V) (i : Nat) (x : α) (h : l[i]? = some x) : (l.take (i + 1)).flatMap r = (l.take i).flatMap r ++ r x := by
  rw [List.take_add_one, h]
  simp [List.flatMap_append]
theorem flat_filter {α : Type} (l : List α) (f : α → Bool) (v : α → V) : l.flatMap (fun x => if f x = true then [v x] else []) = (l.filter f).map v := by
  induction l with
  | nil => rfl
  | cons x l ih =>
    rw [List.flatMap_cons, ih, List.filter_cons]
    cases f x <;> rfl
theorem flat_map {α : Type} (l : List α) (v : α → V) : l.flatMap (fun x => [v x]) = l.map v := by
  induction l with
  | nil => rfl
  | cons x l ih => rw [List.flatMap_cons, ih] <;> rfl
theorem flat_len {α : Type} (l : List α) (r : α → List V) (h : ∀ x, (r x).length ≤ 1) : (l.flatMap r).length ≤ l.length := by
  induction l with
  | nil => exact Nat.le_refl _
  | cons x l ih =>
    rw [List.flatMap_cons, List.length_append, List.length_cons]
    have := h x
    omega
section
variable {K : Frag} {a D : Addr} {α : Type} {l : List α} {val : α → V} {r : α → List V} {g : TG} {tt : TT} {te : TE} {vs : List Nat} {σ : L2.St} {H1 : Hp} {Qd : Hp → Prop} {G : List V → Prop}
/-- one turn -/
abbrev Turn (g : TG) (tt : TT) (te : TE) (vs : List Nat) (σ : L2.St) (D : Addr) (x : V) (H : Hp) (N : Hp → Prop) : Prop := g x (wipe σ vs) H fun σ2 H2 => wipe σ2 vs = wipe σ vs ∧ tt σ2 H2 fun b H3 =>
  if b = true then te σ2 H3 fun y H4 => ∃ acc, H4 D = some (.lst acc) ∧ acc.length < sizeLine ∧ N (upd H4 D (.lst (acc ++ [y]))) else N H3
/-- what a comprehension asks that adds to the list at D what it picks -/
abbrev Went (J : It) (g : TG) (tt : TT) (te : TE) (vs : List Nat) (σ : L2.St) (D : Addr) (H1 : Hp) (Qd : Hp → Prop) : Prop :=
  ∃ W : Nat → Nat → Hp → Prop, (∃ m, W 0 m (upd H1 D (.lst []))) ∧ ∀ j n G, W j n G → (J.stop j G ∧ Qd G) ∨ (J.go j G ∧ ∃ N : Hp → Prop, (∀ G', N G' → ∃ n', n' < n ∧ W (j + 1) n' G') ∧ ∀ v G', J.yld j G v G' → Turn g tt te vs σ D v G' N)
/-- with an invariant of one's own -/
theorem pick_list (Iv : Hp → Prop) (h0 : Iv (upd H1 D (.lst []))) (hl : ∀ H, Iv H → SqL K H a (l.map val)) (hn : l.length < sizeLine) (hr : ∀ x, (r x).length ≤ 1)
    (hs : ∀ x ∈ l, ∀ H acc, Iv H → H D = some (.lst acc) → acc.length < sizeLine → ∀ N : Hp → Prop, (∀ H', Iv H' → H' D = some (.lst (acc ++ r x)) → N H') → Turn g tt te vs σ D (val x) H N)
    (hd : ∀ H, Iv H → H D = some (.lst (l.flatMap r)) → Qd H) :
    Went (Itl K a) g tt te vs σ D H1 Qd := by
  refine lc_list (K := K) (a := a) (xs := l.map val) (fun i H => Iv H ∧ H D = some (.lst ((l.take i).flatMap r))) ⟨h0, upd_same⟩ (fun i H _ p => hl H p.1) (fun i x H hx p => ?_) (fun H p => ?_)
  · rw [List.getElem?_map] at hx
    cases e : l[i]? with
    | none => rw [e] at hx; cases hx
    | some y =>
      rw [e] at hx
      obtain rfl : val y = x := Option.some.inj hx
      have hlen := flat_len (l.take i) r hr
      have : (l.take i).length ≤ l.length := by rw [List.length_take]; exact Nat.min_le_right ..
      exact hs y (List.mem_of_getElem? e) H _ p.1 p.2 (by omega) _ fun H' q1 q2 => ⟨q1, by rw [take_succ_flat l r i y e]; exact q2⟩
  · rw [List.length_map, List.take_length] at p
    exact hd H p.1 p.2
theorem pick_tup (Iv : Hp → Prop) (h0 : Iv (upd H1 D (.lst []))) (hl : ∀ H, Iv H → SqT K H a (l.map val)) (hn : l.length < sizeLine) (hr : ∀ x, (r x).length ≤ 1)
    (hs : ∀ x ∈ l, ∀ H acc, Iv H → H D = some (.lst acc) → acc.length < sizeLine → ∀ N : Hp → Prop, (∀ H', Iv H' → H' D = some (.lst (acc ++ r x)) → N H') → Turn g tt te vs σ D (val x) H N)
    (hd : ∀ H, Iv H → H D = some (.lst (l.flatMap r)) → Qd H) :
    Went (Itt K a) g tt te vs σ D H1 Qd := by
  refine lc_tup (K := K) (a := a) (xs := l.map val) (fun i H => Iv H ∧ H D = some (.lst ((l.take i).flatMap r))) ⟨h0, upd_same⟩ (fun i H _ p => hl H p.1) (fun i x H hx p => ?_) (fun H p => ?_)
  · rw [List.getElem?_map] at hx
    cases e : l[i]? with
    | none => rw [e] at hx; cases hx
    | some y =>
      rw [e] at hx
      obtain rfl : val y = x := Option.some.inj hx
      have hlen := flat_len (l.take i) r hr
      have : (l.take i).length ≤ l.length := by rw [List.length_take]; exact Nat.min_le_right ..
      exact hs y (List.mem_of_getElem? e) H _ p.1 p.2 (by omega) _ fun H' q1 q2 => ⟨q1, by rw [take_succ_flat l r i y e]; exact q2⟩
  · rw [List.length_map, List.take_length] at p
    exact hd H p.1 p.2
/-- nothing but new things: over a list, over a tuple -/
theorem same_list (hD : H1 D = none) (hl : SqL K H1 a (l.map val)) (hn : l.length < sizeLine) (hr : ∀ x, (r x).length ≤ 1)
    (hs : ∀ x ∈ l, ∀ H acc, Same H1 H → H D = some (.lst acc) → acc.length < sizeLine → ∀ N : Hp → Prop, (∀ H', Same H1 H' → H' D = some (.lst (acc ++ r x)) → N H') → Turn g tt te vs σ D (val x) H N)
    (hd : ∀ H, Same H1 H → H D = some (.lst (l.flatMap r)) → Qd H) :
    Went (Itl K a) g tt te vs σ D H1 Qd :=
  pick_list (Same H1) (same_upd hD) (fun H s => s.seq hl) hn hr hs hd
theorem same_tup (hD : H1 D = none) (hl : SqT K H1 a (l.map val)) (hn : l.length < sizeLine) (hr : ∀ x, (r x).length ≤ 1)
    (hs : ∀ x ∈ l, ∀ H acc, Same H1 H → H D = some (.lst acc) → acc.length < sizeLine → ∀ N : Hp → Prop, (∀ H', Same H1 H' → H' D = some (.lst (acc ++ r x)) → N H') → Turn g tt te vs σ D (val x) H N)
    (hd : ∀ H, Same H1 H → H D = some (.lst (l.flatMap r)) → Qd H) :
    Went (Itt K a) g tt te vs σ D H1 Qd :=
  pick_tup (Same H1) (same_upd hD) (fun H s => seqT s hl) hn hr hs hd
end
end LCX

set_option Elab.async false
set_option linter.all false
set_option maxRecDepth 100000
set_option maxHeartbeats 4000000
/-! Rows of numbers as they lie in the heap. -/
namespace WK
open PySem L2 PyProof.Rows LCX K1
abbrev oTup (r : List Int) : HO := .tup (r.map V.int)
/-- at these places stand these rows -/
def Objs (mk : List Int → HO) (H : Hp) : List Addr → List (List Int) → Prop
  | [], [] => True
  | a :: as, r :: rs => H a = some (mk r) ∧ Objs mk H as rs
  | _, _ => False
theorem Objs.to {mk : List Int → HO} {H H' : Hp} : ∀ {as : List Addr} {rs : List (List Int)}, Objs mk H as rs → (∀ a ∈ as, ∀ r, H a = some (mk r) → H' a = some (mk r)) → Objs mk H' as rs
  | [], [], _, _ => trivial
  | a :: as, _ :: _, h, k => ⟨k a (.head _) _ h.1, h.2.to fun b hb => k b (.tail _ hb)⟩
  | [], _ :: _, h, _ => h.elim
  | _ :: _, [], h, _ => h.elim
theorem Objs.snoc {mk : List Int → HO} {H : Hp} {b : Addr} {s : List Int} : ∀ {as : List Addr} {rs : List (List Int)}, Objs mk H as rs → H b = some (mk s) → Objs mk H (as ++ [b]) (rs ++ [s])
  | [], [], _, k => ⟨k, trivial⟩
  | _ :: _, _ :: _, h, k => ⟨h.1, h.2.snoc k⟩
  | [], _ :: _, h, _ => h.elim
  | _ :: _, [], h, _ => h.elim
theorem Objs.len {mk : List Int → HO} {H : Hp} : ∀ {as : List Addr} {rs : List (List Int)}, Objs mk H as rs → as.length = rs.length
  | [], [], _ => rfl
  | _ :: _, _ :: _, h => congrArg Nat.succ h.2.len
  | [], _ :: _, h => h.elim
  | _ :: _, [], h => h.elim
theorem Objs.at_ {mk : List Int → HO} {H : Hp} : ∀ {as : List Addr} {rs : List (List Int)}, Objs mk H as rs → ∀ p ∈ as.zip rs, H p.1 = some (mk p.2)
  | [], [], _, _, hp => (List.not_mem_nil hp).elim
  | _ :: _, _ :: _, h, p, hp => (List.mem_cons.mp hp).elim (fun e => e ▸ h.1) fun z => h.2.at_ p z
  | [], _ :: _, h, _, _ => h.elim
  | _ :: _, [], h, _, _ => h.elim
theorem Objs.mem {mk : List Int → HO} {H : Hp} : ∀ {as : List Addr} {rs : List (List Int)}, Objs mk H as rs → ∀ a ∈ as, ∃ r ∈ rs, H a = some (mk r)
  | [], [], _, _, ha => (List.not_mem_nil ha).elim
  | _ :: _, _ :: _, h, a, ha => (List.mem_cons.mp ha).elim (fun e => ⟨_, .head _, e ▸ h.1⟩) fun z => let ⟨r, hr, e⟩ := h.2.mem a z; ⟨r, .tail _ hr, e⟩
  | [], _ :: _, h, _, _ => h.elim
  | _ :: _, [], h, _, _ => h.elim
/-- a def as it stands, defaults or none; nothing is raised in it -/
theorem fn_ofN {P : Program} {w : World} {K : PySem.W.Frag} {mg : Str → Option Value} {base : Heap} {k : Nat} {f : Addr} {name qual : Str} {params : Arguments} {body : List Stmt} {scope : Scope} {dV kV doc pm cdv ct oc : Value} {an od : Option Addr} {osl : Array (Option Value)} {N ps : List Str} {sp : Sp}
    (lk : K.lookup f = some ⟨oc, od, .func (PySem.W.fnOf name qual params body scope dV kV doc pm an cdv ct), osl⟩) (hcd : PySem.W.codeIn K cdv qual = true) (S : FnScope N ps scope) (len : ∀ (vs : List V) (H : Hp) (Q : VK) (E : XK), sp vs H Q E → vs.length = ps.length)
    (h : ∀ (A : Around) (outer : List Env) (s : Shared) (H : Hp) (vs : List V) (Q : VK) (E : XK), Room k (A.deeper (envOfC qual scope s.heap.objs.size f cdv)) → sp vs H Q E →
      ∃ t, PSs (cxOf CX0 P w K mg base N qual scope f cdv A outer s H E).nox body t ∧ t { nx := fun x H' => Q V.non H', rt := Q } (L2.start N vs) H) :
    FnOk P w K mg base CX0 (k + 1) f (PySem.W.fnOf name qual params body scope dV kV doc pm an cdv ct) ps sp :=
  fn_of lk hcd S len fun A outer s H vs Q E hr hs => let ⟨t, a, b⟩ := h A outer s H vs Q E hr hs; ⟨t, a.nox, b⟩
end WK

set_option Elab.async false
set_option linter.all false
set_option maxRecDepth 100000
set_option maxHeartbeats 6000000
/-! Functions as values: one that was made with captured cells is called where only the heap tells of it. The cells are tracked, object by object, as long as no frame runs that has them. -/
namespace FV
open PySem PySem.Spec PyProof.Rows L2 LamX NdefX
/-- the very object o stands at c -/
def Fix (c : Addr) (o : Obj) : HO := .ext fun h => h.get? c = some o
abbrev Cs := List (Addr × Obj)
def Lay (cs : Cs) (H : Hp) : Prop := ∀ p ∈ cs, H p.1 = some (Fix p.1 p.2)
def off (cs : Cs) (H : Hp) : Hp := fun b => if b ∈ cs.map (·.1) then none else H b
def onn (cs : Cs) (H : Hp) : Hp := cs.foldr (fun p G => upd G p.1 (Fix p.1 p.2)) H
theorem off_in {cs : Cs} {H : Hp} {b : Addr} (h : b ∈ cs.map (·.1)) : off cs H b = none := if_pos h
theorem off_out {cs : Cs} {H : Hp} {b : Addr} (h : b ∉ cs.map (·.1)) : off cs H b = H b := if_neg h
theorem onn_out {H : Hp} {b : Addr} : ∀ {cs : Cs}, b ∉ cs.map (·.1) → onn cs H b = H b
  | [], _ => rfl
  | p :: cs, h => by
    show upd (onn cs H) p.1 _ b = _
    rw [upd_ne fun (z : b = p.1) => h (List.mem_map.mpr ⟨p, List.mem_cons_self, z.symm⟩)]
    exact onn_out fun z => h (List.mem_cons_of_mem _ z)
theorem onn_off {H : Hp} {b : Addr} : ∀ {cs : Cs}, Lay cs H → onn cs (off cs H) b = H b := by
  intro cs l
  have gen : ∀ (ds : Cs), (∀ p ∈ ds, p ∈ cs) → (b ∈ ds.map (·.1) ∨ b ∉ cs.map (·.1)) → onn ds (off cs H) b = H b := by
    intro ds
    induction ds with
    | nil => exact fun _ h => h.elim (fun z => (List.not_mem_nil z).elim) fun z => off_out z
    | cons p ds ih =>
      intro sub h
      show upd (onn ds (off cs H)) p.1 _ b = _
      by_cases hb : b = p.1
      · rw [hb, upd_same]
        exact (l p (sub p (.head _))).symm
      · rw [upd_ne hb]
        refine ih (fun q hq => sub q (.tail _ hq)) (h.imp_left fun z => ?_)
        rcases List.mem_cons.mp z with e | e
        · exact (hb e).elim
        · exact e
  refine gen cs (fun _ h => h) ?_
  exact Classical.em _
theorem onn_off' {H : Hp} {cs : Cs} (l : Lay cs H) : onn cs (off cs H) = H := funext fun _ => onn_off l
theorem onn_lay {H : Hp} : ∀ {cs : Cs}, (cs.map (·.1)).Nodup → Lay cs (onn cs H)
  | [], _, _, hp => (List.not_mem_nil hp).elim
  | q :: cs, nd, p, hp => by
    obtain ⟨h1, h2⟩ := List.nodup_cons.mp nd
    show upd (onn cs H) q.1 _ p.1 = _
    rcases List.mem_cons.mp hp with rfl | z
    · exact upd_same
    · rw [upd_ne fun (e : p.1 = q.1) => h1 (List.mem_map.mpr ⟨p, z, e⟩)]
      exact onn_lay h2 p z
theorem lay_none {cs : Cs} {H : Hp} (l : Lay cs H) {b : Addr} (h : H b = none) : b ∉ cs.map (·.1) := fun z => by
  obtain ⟨p, hp, rfl⟩ := List.mem_map.mp z
  rw [l p hp] at h
  cases h
theorem lay_not {cs : Cs} {H : Hp} (l : Lay cs H) {b : Addr} {o : HO} (h : H b = some o) (n : ∀ φ, o ≠ .ext φ) : b ∉ cs.map (·.1) := fun z => by
  obtain ⟨p, hp, rfl⟩ := List.mem_map.mp z
  rw [l p hp] at h
  exact n _ (Option.some.inj h).symm
theorem Lay.same {cs : Cs} {H H' : Hp} (l : Lay cs H) (s : ∀ b o, H b = some o → (∀ ps, o ≠ .tbl ps) → H' b = some o) : Lay cs H' := fun p hp => s _ _ (l p hp) fun _ z => nomatch z
section
variable {P : Program} {w : World} {H H' : Hp} {h h' : Heap} {cs : Cs} {fs : List Addr}
theorem lay_at (ok : HOk P w H h) (l : Lay cs H) : ∀ p ∈ cs, h.get? p.1 = some p.2 := fun p hp => (ok p.1 _ (l p hp)).1
theorem hok_off (ok : HOk P w H h) (l : Lay cs H) : HOk P w (off cs H) h := fun b u e => by
  have nb : b ∉ cs.map (·.1) := fun z => by rw [off_in z] at e; cases e
  rw [off_out nb] at e
  exact (ok b u e).stay (fun _ _ _ q => q) (fun d q => by rw [off_out (lay_not l q fun _ z => nomatch z)]; exact q) fun d xs q => by rw [off_out (lay_not l q fun _ z => nomatch z)]; exact q
theorem hok_on (ok : HOk P w H h) (nd : (cs.map (·.1)).Nodup) (n : ∀ p ∈ cs, H p.1 = none) (at_ : ∀ p ∈ cs, h.get? p.1 = some p.2) : HOk P w (onn cs H) h := fun b u e => by
  have out : ∀ {d : Addr} {o : HO}, H d = some o → d ∉ cs.map (·.1) := fun {d o} q z => by
    obtain ⟨p, hp, rfl⟩ := List.mem_map.mp z
    rw [n p hp] at q
    cases q
  by_cases hb : b ∈ cs.map (·.1)
  · obtain ⟨p, hp, rfl⟩ := List.mem_map.mp hb
    rw [onn_lay nd p hp] at e
    cases e
    exact ⟨at_ p hp, ⟨_, at_ p hp⟩, fun _ _ a k => k _ a⟩
  · rw [onn_out hb] at e
    exact (ok b u e).stay (fun _ _ _ q => q) (fun d q => by rw [onn_out (out q)]; exact q) fun d xs q => by rw [onn_out (out q)]; exact q
/-- what a call left of the heap without the cells, told with them -/
theorem un_on (u : Un fs [] (off cs H) H' h h') (l : Lay cs H) : Un fs [] H (onn cs H') h h' where
  keep := fun b o e n hb hx => u.keep b o e (by rw [off_out (lay_none l n)]; exact n) hb hx
  slot := fun b o e n hb hx => u.slot b o e (by rw [off_out (lay_none l n)]; exact n) hb hx
  free := fun b o e n hx => by
    rw [onn_out (lay_none l n)]
    exact u.free b o e (by rw [off_out (lay_none l n)]; exact n) hx
  there := u.there
  tups := fun b xs e => by
    have nb := lay_not l e fun _ z => nomatch z
    rw [onn_out nb]
    exact u.tups b xs (by rw [off_out nb]; exact e)
  frzs := fun b o v e => by
    have nb := lay_not l e fun _ z => nomatch z
    rw [onn_out nb]
    exact u.frzs b o v (by rw [off_out nb]; exact e)
  tbls := fun b ps e => by
    have nb := lay_not l e fun _ z => nomatch z
    obtain ⟨more, q⟩ := u.tbls b ps (by rw [off_out nb]; exact e)
    exact ⟨more, by rw [onn_out nb]; exact q⟩
/-- what a call that was told of the cells left, told without them -/
theorem un_off (u : Un fs [] (onn cs H) H' h h') (nd : (cs.map (·.1)).Nodup) (n : ∀ p ∈ cs, H p.1 = none) (at_ : ∀ p ∈ cs, h.get? p.1 = some p.2) (ok : HOk P w H' h') (l : Lay cs H') : Un fs [] H (off cs H') h h' := by
  have out : ∀ {d : Addr} {o : HO}, H d = some o → d ∉ cs.map (·.1) := fun {d o} q z => by
    obtain ⟨p, hp, rfl⟩ := List.mem_map.mp z
    rw [n p hp] at q
    cases q
  refine ⟨fun b o e nb hb hx => ?_, fun b o e nb hb hx => ?_, fun b o e nb hx => ?_, u.there, fun b xs e => ?_, fun b o v e => ?_, fun b ps e => ?_⟩
  · by_cases hc : b ∈ cs.map (·.1)
    · obtain ⟨p, hp, rfl⟩ := List.mem_map.mp hc
      rw [lay_at ok l p hp, ← e, at_ p hp]
    · exact u.keep b o e (by rw [onn_out hc]; exact nb) hb hx
  · by_cases hc : b ∈ cs.map (·.1)
    · obtain ⟨p, hp, rfl⟩ := List.mem_map.mp hc
      exact ⟨o.slots, by rw [lay_at ok l p hp, ← at_ p hp, e]⟩
    · exact u.slot b o e (by rw [onn_out hc]; exact nb) hb hx
  · by_cases hc : b ∈ cs.map (·.1)
    · exact off_in hc
    · rw [off_out hc]
      exact u.free b o e (by rw [onn_out hc]; exact nb) hx
  · rw [off_out fun z => by obtain ⟨p, hp, rfl⟩ := List.mem_map.mp z; have := u.tups p.1 xs (by rw [onn_out (out e)]; exact e); rw [l p hp] at this; cases this]
    exact u.tups b xs (by rw [onn_out (out e)]; exact e)
  · rw [off_out fun z => by obtain ⟨p, hp, rfl⟩ := List.mem_map.mp z; have := u.frzs p.1 o v (by rw [onn_out (out e)]; exact e); rw [l p hp] at this; cases this]
    exact u.frzs b o v (by rw [onn_out (out e)]; exact e)
  · obtain ⟨more, q⟩ := u.tbls b ps (by rw [onn_out (out e)]; exact e)
    exact ⟨more, by rw [off_out (lay_not l q fun _ z => nomatch z)]; exact q⟩
end
/-- the closure cl has the names fr, at these cells with these values -/
structure Fits (cl : List (Str × Addr)) (fr : List Str) (cs : Cs) (vals : List V) : Prop where
  len : cs.length = fr.length
  lenV : vals.length = fr.length
  at_ : ∀ (i : Nat) (y : Str) (p : Addr × Obj), fr[i]? = some y → cs[i]? = some p → cl.lookup y = some p.1
  only : ∀ (y : Str) (c : Addr), cl.lookup y = some c → y ∈ fr
  nd : (cs.map (·.1)).Nodup
  val : ∀ (i : Nat) (p : Addr × Obj) (v : V), cs[i]? = some p → vals[i]? = some v → ∃ u, RelV v u ∧ p.2.data = .cell (some u)
theorem nodup_at {α : Type} {l : List α} (nd : l.Nodup) {i j : Nat} {x : α} (a : l[i]? = some x) (b : l[j]? = some x) : i = j := by
  obtain ⟨h1, e1⟩ := List.getElem?_eq_some_iff.mp a
  obtain ⟨h2, e2⟩ := List.getElem?_eq_some_iff.mp b
  exact (List.getElem_inj nd).mp (e1.trans e2.symm)
theorem Fits.mem {cl : List (Str × Addr)} {fr : List Str} {cs : Cs} {vals : List V} (F : Fits cl fr cs vals) {y : Str} {c : Addr} (e : cl.lookup y = some c) : ∃ (i : Nat) (p : Addr × Obj), fr[i]? = some y ∧ cs[i]? = some p ∧ p.1 = c := by
  obtain ⟨i, hi⟩ := List.mem_iff_getElem?.mp (F.only y c e)
  have hl : i < cs.length := by rw [F.len]; exact (List.getElem?_eq_some_iff.mp hi).1
  refine ⟨i, cs[i], hi, List.getElem?_eq_getElem hl, ?_⟩
  have := F.at_ i y cs[i] hi (List.getElem?_eq_getElem hl)
  rw [e] at this
  exact (Option.some.inj this).symm
theorem Fits.cells {P : Program} {w : World} {cl : List (Str × Addr)} {fr : List Str} {cs : Cs} {vals : List V} {H : Hp} {h : Heap} (F : Fits cl fr cs vals) (ok : HOk P w H h) (l : Lay cs H) : CellsAt cl fr (vals.map some) h (off cs H) := by
  have cell : ∀ (i : Nat) (p : Addr × Obj), cs[i]? = some p → ∃ v u, vals[i]? = some v ∧ RelV v u ∧ h.IsCell p.1 (some u) := fun i p hp => by
    have hl : i < vals.length := by rw [F.lenV, ← F.len]; exact (List.getElem?_eq_some_iff.mp hp).1
    obtain ⟨u, r, d⟩ := F.val i p vals[i] hp (List.getElem?_eq_getElem hl)
    exact ⟨vals[i], u, List.getElem?_eq_getElem hl, r, p.2, lay_at ok l p (List.mem_of_getElem? hp), d⟩
  refine ⟨by rw [List.length_map]; exact F.lenV, fun y c e => ?_, fun x y c e1 e2 => ?_, fun i y e => ?_⟩
  · obtain ⟨i, p, _, hp, rfl⟩ := F.mem e
    obtain ⟨v, u, _, _, z⟩ := cell i p hp
    exact ⟨off_in (List.mem_map.mpr ⟨p, List.mem_of_getElem? hp, rfl⟩), _, z⟩
  · obtain ⟨i, p, hi, hp, rfl⟩ := F.mem e1
    obtain ⟨j, q, hj, hq, e⟩ := F.mem e2
    have : i = j := nodup_at F.nd (x := p.1) (by rw [List.getElem?_map, hp] <;> rfl) (by rw [List.getElem?_map, hq, ← e] <;> rfl)
    rw [this, hj] at hi
    exact (Option.some.inj hi).symm
  · have hl : i < cs.length := by rw [F.len]; exact (List.getElem?_eq_some_iff.mp e).1
    obtain ⟨v, u, hv, r, z⟩ := cell i cs[i] (List.getElem?_eq_getElem hl)
    refine ⟨cs[i].1, F.at_ i y cs[i] e (List.getElem?_eq_getElem hl), fun v' hv' => ?_⟩
    rw [List.getElem?_map, hv] at hv'
    cases hv'
    exact ⟨u, r, z⟩
/-- the function at f may be called wherever G holds of the heap -/
structure CallV (P : Program) (w : World) (K : PySem.W.Frag) (mg : Str → Option Value) (base : Heap) (CX : CXT) (k : Nat) (f : Addr) (G : Hp → Prop) (sp : Sp) : Prop where
  fn : ∀ {H : Hp} {h : Heap}, HOk P w H h → G H → PySem.W.FnAt f h
  run : ∀ (A : Around) (outer : List Env) (s : Shared) (H : Hp) (us : List Value) (vs : List V) (Q : VK) (E : XK), Room k A → Env0 P w K mg base A outer s H → G H → Vals vs us → sp vs H Q E → codeAny (model P w) A (.call (.ref f) ⟨us, []⟩) (CR CX outer P w H s Q E) s
theorem CallV.mono {P : Program} {w : World} {K : PySem.W.Frag} {mg : Str → Option Value} {base : Heap} {CX : CXT} {j k : Nat} {f : Addr} {G : Hp → Prop} {sp : Sp} (c : CallV P w K mg base CX j f G sp) (h : j ≤ k) : CallV P w K mg base CX k f G sp :=
  ⟨c.fn, fun A outer s H us vs Q E hr => c.run A outer s H us vs Q E (hr.mono h)⟩
theorem CallV.imp {P : Program} {w : World} {K : PySem.W.Frag} {mg : Str → Option Value} {base : Heap} {CX : CXT} {k : Nat} {f : Addr} {G G' : Hp → Prop} {sp sp' : Sp} (c : CallV P w K mg base CX k f G sp) (hG : ∀ H, G' H → G H) (h : ∀ vs H Q E, G' H → sp' vs H Q E → sp vs H Q E) : CallV P w K mg base CX k f G' sp' :=
  ⟨fun ok g => c.fn ok (hG _ g), fun A outer s H us vs Q E hr e0 g r q => c.run A outer s H us vs Q E hr e0 (hG _ g) r (h _ _ _ _ g q)⟩
/-- an exception that leaves a call, told without the cells and with them -/
def CXOn (P : Program) (w : World) (CX : CXT) : Prop := ∀ (cs : Cs) (outer : List Env) (s : Shared) (H : Hp) (E : XK) (e : Value) (s' : Shared), (cs.map (·.1)).Nodup → Lay cs H → HOk P w H s.heap → (∀ b ∈ frs outer, H b = none) → CX outer (off cs H) s (fun cls d H' => E cls d (onn cs H')) e s' → CX outer H s E e s'
theorem cxon_0 {P : Program} {w : World} : CXOn P w L2.CX0 := fun _ _ _ _ _ _ _ _ _ _ _ z => z
section
variable {P : Program} {w : World} {K : PySem.W.Frag} {mg : Str → Option Value} {base : Heap} {CX : CXT} {A : Around} {outer : List Env} {s s' : Shared} {H : Hp} {cs : Cs} {Q : VK} {u : Value}
theorem env0_off (e0 : Env0 P w K mg base A outer s H) (l : Lay cs H) : Env0 P w K mg base A outer s (off cs H) :=
  have n : ∀ {b : Addr}, H b = none → off cs H b = none := fun {b} h => by rw [off_out (lay_none l h)]; exact h
  ⟨e0.frames, e0.mod, fun b o e => ⟨(e0.bs b o e).1, n (e0.bs b o e).2⟩, e0.bsz, e0.funs, fun b hb => n (e0.frf b hb), hok_off e0.hok l, e0.bare⟩
theorem ce_on (e0 : Env0 P w K mg base A outer s H) (nd : (cs.map (·.1)).Nodup) (l : Lay cs H) (h : CE outer P w (off cs H) s (fun v H' => (∀ p ∈ cs, H' p.1 = none) → Q v (onn cs H')) u s') : CE outer P w H s Q u s' := by
  obtain ⟨v, H', os, bare, un, ok, r, q⟩ := h
  have kept : ∀ p ∈ cs, s'.heap.get? p.1 = some p.2 ∧ H' p.1 = none := fun p hp => by
    have e := lay_at e0.hok l p hp
    have n : off cs H p.1 = none := off_in (List.mem_map.mpr ⟨p, hp, rfl⟩)
    refine ⟨un.keep p.1 p.2 e n (fun z => ?_) List.not_mem_nil, un.free p.1 p.2 e n List.not_mem_nil⟩
    have := e0.frf p.1 z
    rw [l p hp] at this
    cases this
  exact ⟨v, onn cs H', os, bare, un_on un l, hok_on ok nd (fun p hp => (kept p hp).2) fun p hp => (kept p hp).1, r, q fun p hp => (kept p hp).2⟩
theorem cr_on (hx : CXOn P w CX) (e0 : Env0 P w K mg base A outer s H) (nd : (cs.map (·.1)).Nodup) (l : Lay cs H) {r : Result} {E : XK} (h : CR CX outer P w (off cs H) s (fun v H' => (∀ p ∈ cs, H' p.1 = none) → Q v (onn cs H')) (fun cls d H' => E cls d (onn cs H')) r s') : CR CX outer P w H s Q E r s' := by
  cases r with
  | error e => exact hx cs outer s H E e s' nd l e0.hok e0.frf h
  | ok fl =>
    cases fl with
    | ret u => exact ce_on e0 nd l h
    | next => exact False.elim h
    | brk => exact False.elim h
    | cont => exact False.elim h
/-- a nested def as a value -/
theorem callV_nok {k : Nat} {f : Addr} {F : NF} {ps fr : List Str} {sp : List (Option V) → Sp} {vals : List V} (o : NOk P w K mg base CX k f F ps fr sp) (hx : CXOn P w CX) (ft : Fits F.cl fr cs vals) :
    CallV P w K mg base CX k f (fun H => H f = some (FnO f F) ∧ H F.c = some (CodeO F.c F.qual) ∧ Lay cs H) (fun vs H Q E => sp (vals.map some) vs (off cs H) (fun v H' => (∀ p ∈ cs, H' p.1 = none) → Q v (onn cs H')) (fun cls d H' => E cls d (onn cs H'))) := by
  have cellv : ∀ p ∈ cs, ∃ u, p.2.data = .cell (some u) := fun p hp => by
    obtain ⟨i, hi⟩ := List.mem_iff_getElem?.mp hp
    have hl : i < vals.length := by rw [ft.lenV, ← ft.len]; exact (List.getElem?_eq_some_iff.mp hi).1
    obtain ⟨u, _, d⟩ := ft.val i p vals[i] hi (List.getElem?_eq_getElem hl)
    exact ⟨u, d⟩
  refine ⟨fun ok g => ?_, fun A outer s H us vs Q E hr e0 ⟨g1, g2, l⟩ r q => ?_⟩
  · obtain ⟨od, sl, doc, pm, ctv, ho⟩ := fnO_at ok g.1
    exact ⟨_, od, _, sl, ho⟩
  · have n1 : f ∉ cs.map (·.1) := fun z => by
      obtain ⟨p, hp, e⟩ := List.mem_map.mp z
      obtain ⟨od, sl, doc, pm, ctv, ho⟩ := fnO_at e0.hok g1
      obtain ⟨u, d⟩ := cellv p hp
      have := lay_at e0.hok l p hp
      rw [e, ho] at this
      rw [← Option.some.inj this] at d
      cases d
    have n2 : F.c ∉ cs.map (·.1) := fun z => by
      obtain ⟨p, hp, e⟩ := List.mem_map.mp z
      obtain ⟨oc, vs2, t, h1, h2, _⟩ := (e0.hok F.c _ g2).1
      obtain ⟨u, d⟩ := cellv p hp
      have := lay_at e0.hok l p hp
      rw [e, h1] at this
      rw [← Option.some.inj this, h2] at d
      cases d
    refine codeAny_mono (o.run A outer s (off cs H) us vs _ _ _ hr (env0_off e0 l) (by rw [off_out n1]; exact g1) (by rw [off_out n2]; exact g2) (ft.cells e0.hok l) r q) fun r s' h => cr_on hx e0 ft.nd l h
end
end FV

set_option Elab.async false
set_option linter.all false
set_option maxRecDepth 100000
set_option maxHeartbeats 6000000
/-! Lambdas as values; a call of what a name holds; a call that is told of the caller's cells. -/
namespace FV
open PySem PySem.Spec PyProof.Rows L2 LamX NdefX
/-- a lambda with the words of F (whose own body is not looked at) and the body b -/
def LamO (f : Addr) (F : NF) (b : Expr) : HO := .ext fun h => ∃ pm ctv, h.get? f = some (PySem.W.kla_obj "<lambda>" F.qual F.params b F.scope F.cl pm F.c ctv)
section
variable {P : Program} {w : World} {K : PySem.W.Frag} {mg : Str → Option Value} {base : Heap} {CX : CXT} {F : NF} {b : Expr} {f : Addr} {k : Nat} {N ps fr : List Str} {sp : List (Option V) → Sp}
structure LOk (P : Program) (w : World) (K : PySem.W.Frag) (mg : Str → Option Value) (base : Heap) (CX : CXT) (k : Nat) (f : Addr) (F : NF) (b : Expr) (fr : List Str) (sp : List (Option V) → Sp) : Prop where
  run : ∀ (A : Around) (outer : List Env) (s : Shared) (H : Hp) (us : List Value) (vs : List V) (ws : List (Option V)) (Q : VK) (E : XK), Room k A → Env0 P w K mg base A outer s H → H f = some (LamO f F b) → H F.c = some (CodeO F.c F.qual) →
    CellsAt F.cl fr ws s.heap H → Vals vs us → sp ws vs H Q E → codeAny (model P w) A (.call (.ref f) ⟨us, []⟩) (CR CX outer P w H s Q E) s
/-- a lambda by its body -/
theorem lok_of (S : NScope N ps fr F.scope) (bind : ∀ (pm cv ctv : Value) (us : List Value), us.length = ps.length → bindArgs (PySem.W.kla_fn "<lambda>" F.qual F.params b F.scope F.cl pm cv ctv) ⟨us, []⟩ = pure (ps.zip us)) (len : ∀ ws vs H Q E, sp ws vs H Q E → vs.length = ps.length)
    (body : ∀ (A : Around) (outer : List Env) (s : Shared) (H : Hp) (vs : List V) (ws : List (Option V)) (Q : VK) (E : XK), Room k (A.deeper (envF F f s.heap.objs.size)) → ws.length = fr.length → sp ws vs H Q E →
      ∃ te, PE (ncx CX P w K mg base N F f A outer s H E) b te ∧ te (startF N vs ws) H Q) : LOk P w K mg base CX (k + 1) f F b fr sp := by
  refine ⟨fun A outer s H us vs ws Q E hr e0 hf hc C r told => ?_⟩
  have few := len _ _ _ _ _ told
  obtain ⟨pm, ctv, at_⟩ := (e0.hok f _ hf).1
  obtain ⟨oc, parts, t, c1, c2, c3⟩ := (e0.hok F.c _ hc).1
  have lim : s.heap.NoLimit := e0.mod.nolimit.keeps fun d o e => (e0.bs d o e).1
  obtain ⟨te, rule, q⟩ := body A outer s H vs ws Q E (hr.deeper _) C.len told
  refine PySem.W.kla_callFunE hr.depth at_ rfl S.co S.gen rfl ⟨F.c, oc, parts, t, rfl, c1, c2, c3⟩ ?_
  rw [bind pm _ ctv us (by rw [← r.length]; exact few)]
  refine wpAny_pure (wpAny_newFunctionEnv S.nocell (fun ⟨n, _⟩ m => S.par n (List.of_mem_zip m).1) (fun hZ ns sb => ⟨lim.fresh _ sb, PySem.W.kla_codeExpr ?_⟩) S.kind)
  have I : Inv (ncx CX P w K mg base N F f A outer s H E) [] (startF N vs ws) H { s with heap := hZ, toks := s.toks + (ps.zip us).length } :=
    inv_startN S hr.hd e0 few r C ns fun d o e => sb.extBut d o (Nat.ne_of_lt (Heap.lt_size e)) (Heap.get?_push_of_some _ e)
  exact wpAny_mono (rule.run [] _ _ H Q I q) (fun _ _ z => let ⟨v, H', J, rv, qv⟩ := z; ⟨v, H', J.os, J.bare, J.base, J.hok, rv, qv⟩) fun _ _ z => z
theorem callV_lok {vals : List V} {cs : Cs} (o : LOk P w K mg base CX k f F b fr sp) (hx : CXOn P w CX) (ft : Fits F.cl fr cs vals) :
    CallV P w K mg base CX k f (fun H => H f = some (LamO f F b) ∧ H F.c = some (CodeO F.c F.qual) ∧ Lay cs H) (fun vs H Q E => sp (vals.map some) vs (off cs H) (fun v H' => (∀ p ∈ cs, H' p.1 = none) → Q v (onn cs H')) (fun cls d H' => E cls d (onn cs H'))) := by
  have cellv : ∀ p ∈ cs, ∃ u, p.2.data = .cell (some u) := fun p hp => by
    obtain ⟨i, hi⟩ := List.mem_iff_getElem?.mp hp
    have hl : i < vals.length := by rw [ft.lenV, ← ft.len]; exact (List.getElem?_eq_some_iff.mp hi).1
    obtain ⟨u, _, d⟩ := ft.val i p vals[i] hi (List.getElem?_eq_getElem hl)
    exact ⟨u, d⟩
  refine ⟨fun ok g => let ⟨_, _, e⟩ := (ok f _ g.1).1; ⟨_, _, _, _, e⟩, fun A outer s H us vs Q E hr e0 ⟨g1, g2, l⟩ r q => ?_⟩
  have n1 : f ∉ cs.map (·.1) := fun z => by
    obtain ⟨p, hp, e⟩ := List.mem_map.mp z
    obtain ⟨pm, ctv, ho⟩ := (e0.hok f _ g1).1
    obtain ⟨u, d⟩ := cellv p hp
    have := lay_at e0.hok l p hp
    rw [e, ho] at this
    rw [← Option.some.inj this] at d
    cases d
  have n2 : F.c ∉ cs.map (·.1) := fun z => by
    obtain ⟨p, hp, e⟩ := List.mem_map.mp z
    obtain ⟨oc, vs2, t, h1, h2, _⟩ := (e0.hok F.c _ g2).1
    obtain ⟨u, d⟩ := cellv p hp
    have := lay_at e0.hok l p hp
    rw [e, h1] at this
    rw [← Option.some.inj this, h2] at d
    cases d
  exact codeAny_mono (o.run A outer s (off cs H) us vs _ _ _ hr (env0_off e0 l) (by rw [off_out n1]; exact g1) (by rw [off_out n2]; exact g2) (ft.cells e0.hok l) r q) fun r s' h => cr_on hx e0 ft.nd l h
end
/-- x(e, ..), x a name of the running frame that holds a function -/
def tCallV (P : Program) (w : World) (K : PySem.W.Frag) (mg : Str → Option Value) (base : Heap) (CX : CXT) (k i : Nat) (E : XK) (t : TA) : TE := fun σ H Q => ∃ f G sp, σ[i]? = some (some (.ref f)) ∧ CallV P w K mg base CX k f G sp ∧ G H ∧ t σ H fun vs H1 => G H1 ∧ sp vs H1 Q E
section
variable {X : Cx} {CX : CXT} {k i : Nat} {x : Str} {E : XK} {t : TA} {e : Expr} {es : List Expr} {p pos : Pos}
theorem run_v {f : Addr} {G : Hp → Prop} {sp : Sp} {pins : List (Addr × Obj)} {σ : L2.St} {H : Hp} {s : Shared} {Q : VK} {us : List Value} {vs : List V} (c : CallV X.prog X.w X.K X.mg X.base CX k f G sp) (hr : Room k X.A) (hx : Passes CX X E) (I : Inv X pins σ H s) (g : G H) (r : Vals vs us) (q : sp vs H Q E) :
    wpAny (model X.prog X.w) X.A (call (.ref f) us) (EP X pins σ Q) X.xe s :=
  wpAny_call (codeAny_mono (c.run X.A X.stack s H us vs Q E hr I.env0 g r q) fun r s' h => match r, h with
    | .error e, h => hx pins σ H s e s' I h
    | .ok (.ret _), h => I.after h
    | .ok .next, h => h.elim
    | .ok .brk, h => h.elim
    | .ok .cont, h => h.elim)
theorem pe_callV (hr : Room k X.A) (hx : Passes CX X E) (hN : X.N[i]? = some x) (hv : Vis X.env.scope x) (ha : PA X (e :: es) t) (hd : (x == ("__debug__" : Str)) = false := by decide) (hcd : (x == ("__classdict__" : Str)) = false := by decide)
    (he : starEach (e :: es) X.env = (false, eval e X.env) :: starEach es X.env := by rfl) (hpl : (backTo pos (starEach es X.env)).any (·.1) = false := by rfl) : PE X (.Call (.Name x p) (e :: es) [] pos) (tCallV X.prog X.w X.K X.mg X.base CX k i E t) := by
  refine ⟨fun pins s σ H Q I ⟨f, G, sp, hs, c, g, ht⟩ => ?_⟩
  refine wpAny_Call_Name_kw (thn ((pe_var (pos := p) hN hv hd hcd).run pins s σ H (fun v H1 => v = .ref f ∧ H1 = H) I ⟨_, hs, rfl, rfl⟩) fun u s1 ⟨v, H1, I1, r1, ev, eH⟩ => ?_)
  subst ev
  subst eH
  cases (show u = Value.ref f from r1)
  exact PySem.W.callWith_F (first := []) (c.fn I1.hok g) (thn (ha.run pos pins s1 σ _ _ I1 ht) fun us s2 ⟨vs, H2, I2, r, g2, q⟩ => ⟨c.fn I2.hok g2, run_v c hr hx I2 g2 r q⟩) he hpl
theorem pe_callV0 (hr : Room k X.A) (hx : Passes CX X E) (hN : X.N[i]? = some x) (hv : Vis X.env.scope x) (hd : (x == ("__debug__" : Str)) = false := by decide) (hcd : (x == ("__classdict__" : Str)) = false := by decide) : PE X (.Call (.Name x p) [] [] pos) (tCallV X.prog X.w X.K X.mg X.base CX k i E tNil) := by
  refine ⟨fun pins s σ H Q I ⟨f, G, sp, hs, c, g, g2, q⟩ => ?_⟩
  refine wpAny_Call_Name_kw (thn ((pe_var (pos := p) hN hv hd hcd).run pins s σ H (fun v H1 => v = .ref f ∧ H1 = H) I ⟨_, hs, rfl, rfl⟩) fun u s1 ⟨v, H1, I1, r1, ev, eH⟩ => ?_)
  subst ev
  subst eH
  cases (show u = Value.ref f from r1)
  exact PySem.W.callWith_F0 (first := []) (c.fn I1.hok g) (run_v (us := []) c hr hx I1 g2 .nil q)
end
section
variable {X : Cx} {σ : L2.St} {H : Hp} {s : Shared} {pins : List (Addr × Obj)} {cs : Cs}
theorem env0_on (I : Inv X pins σ H s) (nd : (cs.map (·.1)).Nodup) (n : ∀ p ∈ cs, H p.1 = none) (at_ : ∀ p ∈ cs, s.heap.get? p.1 = some p.2) (young : ∀ p ∈ cs, X.s_0.heap.objs.size ≤ p.1 ∧ p.1 ≠ X.env.locals) : Env0 X.prog X.w X.K X.mg X.base X.A X.stack s (onn cs H) := by
  have e := I.env0
  have out : ∀ {b : Addr}, b < X.s_0.heap.objs.size → b ∉ cs.map (·.1) := fun {b} lt z => by
    obtain ⟨p, hp, rfl⟩ := List.mem_map.mp z
    exact absurd lt (Nat.not_lt.mpr (young p hp).1)
  refine ⟨e.frames, e.mod, fun b o eb => ⟨(e.bs b o eb).1, ?_⟩, e.bsz, e.funs, fun b hb => ?_, hok_on I.hok nd n at_, e.bare⟩
  · rw [onn_out (out (Nat.lt_of_lt_of_le (Heap.lt_size eb) I.ok.bsz))]
    exact (e.bs b o eb).2
  · have nb : b ∉ cs.map (·.1) := by
      rcases List.mem_cons.mp (I.stkSub b hb) with z | z
      · intro y
        obtain ⟨p, hp, e2⟩ := List.mem_map.mp y
        exact (young p hp).2 (e2.trans z)
      · obtain ⟨_, o, ho, _⟩ := I.ok.funs.mem z
        exact out (Heap.lt_size ho)
    rw [onn_out nb]
    exact e.frf b hb
/-- the running frame's cells, as they stand -/
theorem fits_of {cl : List (Str × Addr)} {fr : List Str} {js : List Nat} {vals : List V} (I : Inv X pins σ H s) (cp : Caps X cl fr js) (only : ∀ (y : Str) (c : Addr), cl.lookup y = some c → y ∈ fr) (nd : fr.Nodup) (hv : js.map (fun j => σ[j]?) = vals.map fun v => some (some v)) :
    ∃ cs, Fits cl fr cs vals ∧ (∀ p ∈ cs, H p.1 = none ∧ s.heap.get? p.1 = some p.2 ∧ ∃ y ∈ fr, X.env.cells.lookup y = some p.1) := by
  have C := cells_of I cp
  have lenJ : js.length = fr.length := by
    have := congrArg List.length cp.at_
    rw [List.length_map, List.length_map] at this
    exact this
  have lenV : vals.length = fr.length := by
    have := congrArg List.length hv
    rw [List.length_map, List.length_map] at this
    omega
  have each : ∀ i : Fin fr.length, ∃ p : Addr × Obj, cl.lookup (fr[i.1]'i.2) = some p.1 ∧ s.heap.get? p.1 = some p.2 ∧ ∃ u, RelV (vals[i.1]'(Nat.lt_of_lt_of_eq i.2 lenV.symm)) u ∧ p.2.data = .cell (some u) := fun ⟨i, hi⟩ => by
    obtain ⟨c, hc, at_⟩ := C.has i _ (List.getElem?_eq_getElem hi)
    have hj : i < js.length := Nat.lt_of_lt_of_eq hi lenJ.symm
    have hV : i < vals.length := Nat.lt_of_lt_of_eq hi lenV.symm
    have e : σ[js[i]]? = some (some vals[i]) := by
      have := congrArg (fun l => l[i]?) hv
      rw [List.getElem?_map, List.getElem?_map, List.getElem?_eq_getElem hj, List.getElem?_eq_getElem hV] at this
      exact Option.some.inj this
    obtain ⟨u, r, o, ho, d⟩ := at_ vals[i] (by rw [List.getElem?_map, List.getElem?_eq_getElem hj]; exact congrArg some (slotAt_of e))
    exact ⟨(c, o), hc, ho, u, r, d⟩
  obtain ⟨g, hg⟩ := Classical.axiomOfChoice each
  have at_ : ∀ (i : Nat) (p : Addr × Obj), (List.ofFn g)[i]? = some p → ∃ hi : i < fr.length, p = g ⟨i, hi⟩ := fun i p h => by
    obtain ⟨h1, h2⟩ := List.getElem?_eq_some_iff.mp h
    have hi : i < fr.length := by rw [List.length_ofFn] at h1; exact h1
    exact ⟨hi, by rw [← h2, List.getElem_ofFn]⟩
  refine ⟨List.ofFn g, ⟨List.length_ofFn, lenV, fun i y p hy hp => ?_, only, ?_, fun i p v hp hv2 => ?_⟩, fun p hp => ?_⟩
  · obtain ⟨hi, rfl⟩ := at_ i p hp
    have := (hg ⟨i, hi⟩).1
    rw [List.getElem?_eq_getElem hi] at hy
    rw [← Option.some.inj hy]
    exact this
  · rw [List.map_ofFn]
    refine List.pairwise_iff_getElem.mpr fun i j h1 h2 lt e => ?_
    rw [List.length_ofFn] at h1 h2
    rw [List.getElem_ofFn, List.getElem_ofFn] at e
    have e2 : (g ⟨i, h1⟩).1 = (g ⟨j, h2⟩).1 := e
    have e3 := C.inj _ _ _ (hg ⟨i, h1⟩).1 (e2 ▸ (hg ⟨j, h2⟩).1)
    have : i = j := nodup_at nd (List.getElem?_eq_getElem h1) (by rw [List.getElem?_eq_getElem h2]; exact congrArg some e3.symm)
    omega
  · obtain ⟨hi, rfl⟩ := at_ i p hp
    have hV : i < vals.length := Nat.lt_of_lt_of_eq hi lenV.symm
    rw [List.getElem?_eq_getElem hV] at hv2
    rw [← Option.some.inj hv2]
    exact (hg ⟨i, hi⟩).2.2
  · obtain ⟨i, hi⟩ := List.mem_iff_getElem?.mp hp
    obtain ⟨hj, rfl⟩ := at_ i p hi
    exact ⟨(C.all _ _ (hg ⟨i, hj⟩).1).1, (hg ⟨i, hj⟩).2.1, _, List.getElem_mem hj, cp.sub _ _ (hg ⟨i, hj⟩).1⟩
end
/-- f(e, ..) of a def of the module that is told of the running frame's cells -/
def tCallC (cl : List (Str × Addr)) (fr : List Str) (js : List Nat) (sp : Sp) (t : TA) : TE := fun σ H Q => t σ H fun vs H1 => ∃ vals : List V, js.map (fun j => σ[j]?) = vals.map (fun v => some (some v)) ∧
  ∀ cs, Fits cl fr cs vals → (∀ p ∈ cs, H1 p.1 = none) → sp vs (onn cs H1) (fun v H' => Lay cs H' ∧ Q v (off cs H')) E0
section
variable {X : Cx} {k : Nat} {f : Addr} {fd : FuncData} {ps : List Str} {sp : Sp} {x : Str} {p pos : Pos} {e : Expr} {es : List Expr} {t : TA} {cl : List (Str × Addr)} {fr : List Str} {js : List Nat}
theorem pe_callC (F : FnOk X.prog X.w X.K X.mg X.base CX0 k f fd ps sp) (hr : Room k X.A) (hg : Gl X x) (hm : X.mg x = some (.ref f)) (hk : PySem.W.keepIn X.K (.ref f) = true) (hb : Binds X.K fd ps [])
    (cp : X.Ok → Caps X cl fr js) (only : ∀ (y : Str) (c : Addr), cl.lookup y = some c → y ∈ fr) (nd : fr.Nodup) (own : ∀ y ∈ fr, X.fn y = true) (ha : PA X (e :: es) t) (hdb : (x == ("__debug__" : Str)) = false := by decide)
    (he : starEach (e :: es) X.env = (false, eval e X.env) :: starEach es X.env := by rfl) (hpl : (backTo pos (starEach es X.env)).any (·.1) = false := by rfl) : PE X (.Call (.Name x p) (e :: es) [] pos) (tCallC cl fr js sp t) := by
  refine ⟨fun pins s σ H Q I h => wpAny_Call_Name_kw (ld_glob I hg hm (PySem.W.callWith_K (h₀ := X.base) I.ok.mod.kin hk (thn (ha.run pos pins s σ H _ I h) fun us s1 ⟨vs, H1, I1, r, vals, hv, q⟩ => ⟨I1.kIn, ?_⟩) he hpl) hdb)⟩
  obtain ⟨cs, ft, hcs⟩ := fits_of I1 (cp I1.ok) only nd hv
  have none_ : ∀ p ∈ cs, H1 p.1 = none := fun p hp => (hcs p hp).1
  have at_ : ∀ p ∈ cs, s1.heap.get? p.1 = some p.2 := fun p hp => (hcs p hp).2.1
  have e0 := env0_on I1 ft.nd none_ at_ fun p hp => let ⟨y, hy, e⟩ := (hcs p hp).2.2; ⟨I1.ok.cab y p.1 (own y hy) e, I1.cne y p.1 e⟩
  have q := q cs ft none_
  have hl : us.length = ps.length := by rw [← r.length]; exact F.len _ _ _ _ q
  have hb2 := hb s1 us I1.kIn (by rw [List.append_nil]; exact hl)
  rw [List.append_nil] at hb2
  refine wpAny_call (codeAny_mono (F.run X.A X.stack s1 (onn cs H1) ⟨us, []⟩ us vs _ E0 hr e0 hb2 r q) fun r s' h => ?_)
  exact match r, h with
    | .error _, h => (show False from h).elim
    | .ok (.ret _), h => I1.after (let ⟨v, H', os, bare, un, ok, rv, l, qv⟩ := h; ⟨v, off cs H', os, bare, un_off un ft.nd none_ at_ ok l, hok_off ok l, rv, qv⟩)
    | .ok .next, h => h.elim
    | .ok .brk, h => h.elim
    | .ok .cont, h => h.elim
end
end FV

set_option Elab.async false
set_option linter.all false
set_option maxRecDepth 100000
set_option maxHeartbeats 6000000
/-! A lambda as a value. -/
namespace FV
open PySem PySem.Spec PyProof.Rows L2 LamX NdefX
/-- the words of a lambda that is made in X -/
abbrev lamF (X : Cx) (params : Arguments) (scope : Scope) (c : Addr) : NF := ⟨"<lambda>", X.env.qual ++ "<lambda>", params, [], scope, cloFrom X.env.cells scope.names [], c⟩
/-- nothing that was tracked is lost, but for tables of code objects, which grow -/
def Grows (T : List (Addr × Str)) (H H1 : Hp) : Prop := ExtN H H1 ∧ Tabs T H1 ∧ ∀ d, H1 d = none → H d = none
def tLamV (X : Cx) (T : List (Addr × Str)) (params : Arguments) (body : Expr) (scope : Scope) : TE := fun σ H Q => Tabs T H ∧ ∀ (f c : Addr) (H1 : Hp), H f = none → Grows T H H1 → H1 f = some (LamO f (lamF X params scope c) body) → H1 c = some (CodeO c (X.env.qual ++ "<lambda>")) → Q (.ref f) H1
section
variable {X : Cx} {T : List (Addr × Str)} {c P : Addr} {params : Arguments} {body : Expr} {scope : Scope} {pos : Pos}
theorem lamO_ok {P : Program} {w : World} {H : Hp} {h : Heap} {f : Addr} {F : NF} {b : Expr} {pm ctv : Value} (e : h.get? f = some (PySem.W.kla_obj "<lambda>" F.qual F.params b F.scope F.cl pm F.c ctv)) : ObjOk P w H h f (LamO f F b) :=
  ⟨⟨pm, ctv, e⟩, ⟨_, e⟩, fun _ _ ⟨pm, ctv, e⟩ k => ⟨pm, ctv, k _ e⟩⟩
theorem pe_lamV (TB : TabB X.base X.mg c P) (code : X.env.code = .ref c) (mem : (P, X.env.qual ++ "<lambda>") ∈ T) (uniq : ∀ p ∈ T, p.1 = P → p.2 = X.env.qual ++ "<lambda>") (plain : defaultsOf params X.env = ([], []))
    (taken : X.Ok → ∀ y ∈ scope.names, y.2 = .free → ∃ c, X.env.cells.lookup y.1 = some c) : PE X (.Lambda params body scope pos) (tLamV X T params body scope) := by
  refine ⟨fun pins s σ H Q I ⟨tabs, told⟩ => PySem.W.kla_eval plain ?_⟩
  obtain ⟨ps, atP, three, known⟩ := tabs _ mem
  have clo := closure_ok (taken I.ok)
  have bP : s.heap.BuiltinsAt X.mg P := TB.bm.keeps I.bk
  have tabO : s.heap.get? P = some (PySem.W.tabObj ps) := I.hok P _ atP
  cases old : codeAmong pos ps.toList with
  | some cv =>
    obtain ⟨c', rfl, isCode⟩ := known pos cv old
    refine PySem.W.kla_makeFunctionHit (mg := X.mg) (c := c) (P := P) (ps := ps) clo I.ok.glob (I.mod.glob.keeps I.bk) code (TB.code.keeps I.bk) tabO three old bP fun ctv h' tk keep size => ?_
    have free : H h'.objs.size = none := I.hok.fresh size
    have J : Inv X pins σ H { s with heap := h', toks := tk } := I.kept (t' := tk) keep
    have J2 := J.laid (t' := tk) (h' := h'.push (PySem.W.kla_obj "<lambda>" (X.env.qual ++ "<lambda>") params body scope (cloFrom X.env.cells scope.names []) ((X.mg "__name__").getD .none) c' ctv)) (fun b u e => Heap.get?_push_of_some _ e) (Nat.le_refl _) (lamO_ok (F := lamF X params scope c') (b := body) (Heap.get?_push_size _ rfl))
    have ext : ∀ b o, H b = some o → upd H h'.objs.size (LamO h'.objs.size (lamF X params scope c') body) b = some o := fun b o e => by rw [upd_ne (ne_of_none e free)]; exact e
    refine ⟨.ref h'.objs.size, _, J2, rfl, told _ c' _ free ⟨ExtN.of ext, tabs.ext ext, fun d n => ?_⟩ upd_same (ext _ _ isCode)⟩
    by_cases z : d = h'.objs.size
    · rw [z]; exact free
    · rw [upd_ne z] at n; exact n
  | none =>
    refine PySem.W.kla_makeFunction (mg := X.mg) (c := c) (P := P) (ps := ps) clo I.ok.glob (I.mod.glob.keeps I.bk) code (TB.code.keeps I.bk) tabO three old TB.gP bP fun c' ctv h' tk but young below isRec grown => ?_
    obtain ⟨_, oc, parts, t, same, c1, c2, c3⟩ := isRec
    cases same
    have newC : H c' = none := I.hok.fresh young
    have J := inv_table (t' := tk) (more := #[rawInt pos.line, rawInt pos.col, .ref c']) (h' := h') I atP (fun b o n e => but b o n e) grown young ⟨oc, parts, t, c1, c2, c3⟩
    have lt : s.heap.objs.size < h'.objs.size := Nat.lt_of_le_of_lt young below
    have ltP : P < h'.objs.size := Nat.lt_trans (Heap.lt_size tabO) lt
    have free0 : H h'.objs.size = none := I.hok.fresh (Nat.le_of_lt lt)
    have J2 := J.laid (t' := tk) (h' := h'.push (PySem.W.kla_obj "<lambda>" (X.env.qual ++ "<lambda>") params body scope (cloFrom X.env.cells scope.names []) ((X.mg "__name__").getD .none) c' ctv)) (fun b u e => Heap.get?_push_of_some _ e) (Nat.le_refl _) (lamO_ok (F := lamF X params scope c') (b := body) (Heap.get?_push_size _ rfl))
    have atC : ∀ (o : HO), upd (upd (upd H P (.tbl (ps ++ #[rawInt pos.line, rawInt pos.col, .ref c']))) c' (CodeO c' (X.env.qual ++ "<lambda>"))) h'.objs.size o c' = some (CodeO c' (X.env.qual ++ "<lambda>")) := fun o => by rw [upd_ne (Nat.ne_of_lt below), upd_same]
    have atP2 : ∀ (o : HO), upd (upd (upd H P (.tbl (ps ++ #[rawInt pos.line, rawInt pos.col, .ref c']))) c' (CodeO c' (X.env.qual ++ "<lambda>"))) h'.objs.size o P = some (.tbl (ps ++ #[rawInt pos.line, rawInt pos.col, .ref c'])) := fun o => by rw [upd_ne (Nat.ne_of_lt ltP), upd_ne (ne_of_none atP newC), upd_same]
    have rest : ∀ (o : HO) (b : Addr) (u : HO), b ≠ P → H b = some u → upd (upd (upd H P (.tbl (ps ++ #[rawInt pos.line, rawInt pos.col, .ref c']))) c' (CodeO c' (X.env.qual ++ "<lambda>"))) h'.objs.size o b = some u := fun o b u n e => by
      rw [upd_ne (ne_of_none e free0), upd_ne (ne_of_none e newC), upd_ne n]
      exact e
    have ext : ∀ (o : HO), ExtN H (upd (upd (upd H P (.tbl (ps ++ #[rawInt pos.line, rawInt pos.col, .ref c']))) c' (CodeO c' (X.env.qual ++ "<lambda>"))) h'.objs.size o) := fun o b u e n => rest o b u (fun z => by rw [z, atP] at e; exact n ps (Option.some.inj e).symm) e
    refine ⟨.ref h'.objs.size, _, J2, rfl, told _ c' _ free0 ⟨ext _, fun p hp => ?_, fun d n => ?_⟩ upd_same (atC _)⟩
    · by_cases hb : p.1 = P
      · refine ⟨_, by rw [hb]; exact atP2 _, by rw [Array.toList_append]; exact PySem.TriplesOk_snoc _ _ _ _ three, fun p' cv hcv => ?_⟩
        rw [Array.toList_append] at hcv
        rw [uniq p hp hb]
        rcases among_app _ three hcv with z | z
        · obtain ⟨d, e1, e2⟩ := known p' cv z
          exact ⟨d, e1, ext _ _ _ e2 codeO_ne⟩
        · exact ⟨c', z, atC _⟩
      · obtain ⟨qs, a1, a2, a3⟩ := tabs p hp
        refine ⟨qs, rest _ _ _ hb a1, a2, fun p' cv hcv => ?_⟩
        obtain ⟨d, e1, e2⟩ := a3 p' cv hcv
        exact ⟨d, e1, ext _ _ _ e2 codeO_ne⟩
    · have n1 : d ≠ h'.objs.size := fun z => by rw [z, upd_same] at n; cases n
      rw [upd_ne n1] at n
      have n2 : d ≠ c' := fun z => by rw [z, upd_same] at n; cases n
      rw [upd_ne n2] at n
      have n3 : d ≠ P := fun z => by rw [z, upd_same] at n; cases n
      rw [upd_ne n3] at n
      exact n
end
end FV

set_option Elab.async false
set_option linter.all false
set_option maxRecDepth 100000
set_option maxHeartbeats 4000000
/-! {k: v}, of which the key may be a tuple. -/
namespace DP
open PySem PySem.Spec PyProof.Rows L2
def tDisp1 (tk tv : TE) : TE := fun σ H Q => ∃ emp : HO, (emp = .dK [] ∨ emp = .dT []) ∧ ∀ p, H p = none → tk σ (upd H p emp) fun y H1 => tv σ H1 fun z H2 => ∃ H3, DPut H2 p y z H3 ∧ Q (.ref p) H3
section
variable {X : Cx} {pins : List (Addr × Obj)} {σ : L2.St} {H H' : Hp} {s : Shared} {a : Addr} {y v : V} {u r : Value}
/-- what a display does with a pair -/
theorem d_set {Q : Unit → Shared → Prop} (hu : X.A.units < cLine) (I : Inv X pins σ H s) (g : DPut H a y v H') (ry : RelV y u) (rv : RelV v r) (h : ∀ s', Inv X pins σ H' s' → Q () s') : wpAny (model X.prog X.w) X.A (dictSet a u r) Q X.xe s := by
  rcases g with ⟨kvs, k, e, rfl, l, rfl⟩ | ⟨kvs, k, b, e, rfl, eb, l, rfl⟩
  · obtain ⟨z, hd, vs, rel, dd⟩ := dk_of I.hok e
    have few := length_putK kvs k v
    refine wpAny_dictSet_pairs (hsz := by rw [← rel.length]; exact z) (kV_is ry) dd fun h' dd' hs => h _ ?_
    exact d_write I (by rw [e]; exact True.intro) hs (let ⟨q, _, _, hq, _⟩ := dd'; ⟨q, hq⟩) (dk_new (by omega) hd (rel.put k rv) dd')
  · cases (show u = Value.ref b from ry)
    obtain ⟨z, hd, xs, rel, dd⟩ := dt_of I.hok e
    have few := length_putK kvs k v
    refine wpAny_dictSet_heap (hsz := by rw [← Paired.length rel]; exact z) hu (key_of I.hok eb) dd fun h' ⟨q, es, ep, hq, h2, h3, h4, _, h5⟩ hs => h _ ?_
    refine d_write I (by rw [e]; exact True.intro) hs ⟨q, hq⟩ ⟨by omega, hd, _, (rel.put k eb rv).keeps fun c ys ec => ?_, q, es, ep, hq, h2, h3, h4, h5⟩
    rw [upd_ne (ne_of ec e fun z => nomatch z)]
    exact ec
end
theorem pe_disp1 {X : Cx} {k v : Expr} {tk tv : TE} {pos : Pos} (hu : X.A.units < cLine) (hk : PE X k tk) (hv : PE X v tv) : PE X (.Dict [some k] [v] pos) (tDisp1 tk tv) := by
  refine ⟨fun pins s σ H Q I ⟨emp, kind, told⟩ => ?_⟩
  have new := I.hok.fresh (Nat.le_refl s.heap.objs.size)
  have J : Inv X pins σ (upd H s.heap.objs.size emp) { s with heap := s.heap.push { cls := .type "dict", data := .dict #[] } } := by
    refine I.laid (t' := s.toks) (fun _ _ q => Heap.get?_push_of_some _ q) (Nat.le_refl _) ?_
    rcases kind with rfl | rfl
    · exact dk_empty s.heap I.big
    · exact dt_empty s.heap I.big
  refine wpAny_Dict_any rfl rfl (fun z => by cases z) (by show 1 ≤ 15; decide) (pairTrees_cons_walk ?_)
  refine thn (hk.run pins _ σ _ _ J (told _ new)) fun u s1 ⟨y, H1, I1, ry, q1⟩ => thn (hv.run pins s1 σ H1 _ I1 q1) fun r s2 ⟨z, H2, I2, rz, H3, g, q2⟩ => pairTrees_nil_walk ?_
  show wpAny _ _ (forIn [(u, r)] PUnit.unit _) _ _ s2
  rw [List.forIn_cons]
  refine wpAny_bind (wpAny_bind (d_set hu I2 g ry rz fun s3 I3 => wpAny_pure ?_))
  exact wpAny_pure ⟨.ref s.heap.objs.size, H3, I3, rfl, q2⟩
end DP

set_option Elab.async false
set_option linter.all false
set_option maxRecDepth 100000
set_option maxHeartbeats 8000000
/-! What a step explores: the keys in the order of the first words, and their table. -/
namespace WK
open PySem L2 PyProof.Rows LCX K1 FV DP
open TX (sg sigs)
open PySem.W (Frag kitOne)
abbrev sExpl : Stmt := top 15
section
variable {α : Type} [DecidableEq α]
/-- one letter: the key behind it, and the row so far -/
def exSign (f : α → Nat → α) (key : α) (st : List α × List Int) (c : Nat) : List α × List Int :=
  if f key c ∈ st.1 then (st.1, st.2 ++ [((st.1.idxOf (f key c) : Nat) : Int)]) else (st.1 ++ [f key c], st.2 ++ [((st.1.length : Nat) : Int)])
def exAll (f : α → Nat → α) (L : W) (start : α) : Nat → List α × List (List Int)
  | 0 => ([start], [])
  | j + 1 => match (exAll f L start j).1[j]? with
    | some key => ((L.foldl (exSign f key) ((exAll f L start j).1, [])).1, (exAll f L start j).2 ++ [(L.foldl (exSign f key) ((exAll f L start j).1, [])).2])
    | none => exAll f L start j
theorem exSign_grows (f : α → Nat → α) (key : α) (st : List α × List Int) (c : Nat) : st.1 <+: (exSign f key st c).1 := by
  unfold exSign
  split
  · exact List.prefix_refl _
  · exact List.prefix_append _ _
theorem exFold_grows (f : α → Nat → α) (key : α) : ∀ (l : W) (st : List α × List Int), st.1 <+: (l.foldl (exSign f key) st).1
  | [], _ => List.prefix_refl _
  | c :: l, st => (exSign_grows f key st c).trans (exFold_grows f key l _)
theorem exAll_at {f : α → Nat → α} {L : W} {start : α} {j : Nat} {key : α} (h : (exAll f L start j).1[j]? = some key) :
    exAll f L start (j + 1) = ((L.foldl (exSign f key) ((exAll f L start j).1, [])).1, (exAll f L start j).2 ++ [(L.foldl (exSign f key) ((exAll f L start j).1, [])).2]) := by
  show (match (exAll f L start j).1[j]? with | some key => _ | none => _) = _
  rw [h]
theorem exAll_stop {f : α → Nat → α} {L : W} {start : α} {j : Nat} (h : (exAll f L start j).1.length ≤ j) : ∀ m, exAll f L start (j + m) = exAll f L start j
  | 0 => rfl
  | m + 1 => by
    have ih := exAll_stop h m
    show (match (exAll f L start (j + m)).1[j + m]? with | some key => _ | none => _) = _
    rw [List.getElem?_eq_none (by rw [ih]; omega)]
    exact ih
end
/-- how keys of a kind lie in the heap, and how a dict has their numbers -/
structure Kit (α : Type) [DecidableEq α] where
  is : Hp → V → α → Prop
  keep : ∀ {H H' : Hp} {v : V} {a : α}, is H v a → (∀ b xs, H b = some (.tup xs) → H' b = some (.tup xs)) → is H' v a
  ho : List α → HO
  kind : ∀ l, (∃ kvs, ho l = .dK kvs) ∨ ∃ kvs, ho l = .dT kvs
  emp : ho [] = .dK [] ∨ ho [] = .dT []
  get : ∀ {H : Hp} {D : Addr} {l : List α} {v : V} {a : α}, H D = some (ho l) → is H v a → DGet H D v (if a ∈ l then some (.int ((l.idxOf a : Nat) : Int)) else none)
  put : ∀ {H : Hp} {D : Addr} {l : List α} {v : V} {a : α}, H D = some (ho l) → is H v a → a ∉ l → l.length < sizeLine → DPut H D v (.int ((l.length : Nat) : Int)) (upd H D (ho (l ++ [a])))
section
variable {α : Type} [DecidableEq α] {kit : Kit α} {H H' : Hp}
def Are (kit : Kit α) (H : Hp) : List V → List α → Prop
  | [], [] => True
  | v :: vs, a :: l => kit.is H v a ∧ Are kit H vs l
  | _, _ => False
theorem Are.keep : ∀ {vs : List V} {l : List α}, Are kit H vs l → (∀ b xs, H b = some (.tup xs) → H' b = some (.tup xs)) → Are kit H' vs l
  | [], [], _, _ => trivial
  | _ :: _, _ :: _, h, k => ⟨kit.keep h.1 k, h.2.keep k⟩
  | [], _ :: _, h, _ => h.elim
  | _ :: _, [], h, _ => h.elim
theorem Are.len : ∀ {vs : List V} {l : List α}, Are kit H vs l → vs.length = l.length
  | [], [], _ => rfl
  | _ :: _, _ :: _, h => congrArg Nat.succ h.2.len
  | [], _ :: _, h => h.elim
  | _ :: _, [], h => h.elim
theorem Are.snoc {v : V} {a : α} : ∀ {vs : List V} {l : List α}, Are kit H vs l → kit.is H v a → Are kit H (vs ++ [v]) (l ++ [a])
  | [], [], _, k => ⟨k, trivial⟩
  | _ :: _, _ :: _, h, k => ⟨h.1, h.2.snoc k⟩
  | [], _ :: _, h, _ => h.elim
  | _ :: _, [], h, _ => h.elim
theorem Are.get {a : α} : ∀ {vs : List V} {l : List α} {i : Nat}, Are kit H vs l → l[i]? = some a → ∃ v, vs[i]? = some v ∧ kit.is H v a
  | v :: _, b :: _, 0, h, e => ⟨v, rfl, by cases e; exact h.1⟩
  | _ :: _, _ :: _, i + 1, h, e => h.2.get (i := i) e
  | [], [], _, _, e => by cases e
  | [], _ :: _, _, h, _ => h.elim
  | _ :: _, [], _, h, _ => h.elim
theorem Kit.not_tup (kit : Kit α) (l : List α) (xs : List V) : kit.ho l ≠ .tup xs := fun e => by
  rcases kit.kind l with ⟨k, z⟩ | ⟨k, z⟩ <;> rw [z] at e <;> cases e
theorem Kit.not_lst (kit : Kit α) (l : List α) (xs : List V) : kit.ho l ≠ .lst xs := fun e => by
  rcases kit.kind l with ⟨k, z⟩ | ⟨k, z⟩ <;> rw [z] at e <;> cases e
theorem Kit.not_ext (kit : Kit α) (l : List α) (φ : Heap → Prop) : kit.ho l ≠ .ext φ := fun e => by
  rcases kit.kind l with ⟨k, z⟩ | ⟨k, z⟩ <;> rw [z] at e <;> cases e
end
/-- what is known of functions stays -/
def KeepsExt (H H' : Hp) : Prop := ∀ b φ, H b = some (.ext φ) → H' b = some (.ext φ)
def KeepsTup (H H' : Hp) : Prop := ∀ b xs, H b = some (.tup xs) → H' b = some (.tup xs)
theorem Same.ext' {H H' : Hp} (s : Same H H') : KeepsExt H H' := fun b _ e => s b _ e
theorem Same.tup' {H H' : Hp} (s : Same H H') : KeepsTup H H' := fun b _ e => s b _ e
theorem KeepsTup.trans {H H1 H2 : Hp} (a : KeepsTup H H1) (b : KeepsTup H1 H2) : KeepsTup H H2 := fun d xs e => b d xs (a d xs e)
theorem KeepsExt.trans {H H1 H2 : Hp} (a : KeepsExt H H1) (b : KeepsExt H1 H2) : KeepsExt H H2 := fun d xs e => b d xs (a d xs e)
theorem tup_upd {H : Hp} {a : Addr} {u o : HO} (h : H a = some u) (n : ∀ xs, u ≠ .tup xs) : KeepsTup H (upd H a o) := fun b xs e => by
  rw [upd_ne fun z => n xs (Option.some.inj (h.symm.trans (by rw [← z]; exact e)))]
  exact e
theorem ext_upd {H : Hp} {a : Addr} {u o : HO} (h : H a = some u) (n : ∀ φ, u ≠ .ext φ) : KeepsExt H (upd H a o) := fun b xs e => by
  rw [upd_ne fun z => n xs (Option.some.inj (h.symm.trans (by rw [← z]; exact e)))]
  exact e
theorem objs_tup {H H' : Hp} {as : List Addr} {rs : List (List Int)} (o : Objs oTup H as rs) (k : KeepsTup H H') : Objs oTup H' as rs := o.to fun a _ r e => k a _ e
theorem idx_end {α : Type} [DecidableEq α] {a : α} : ∀ {l : List α}, a ∉ l → (l ++ [a]).idxOf a = l.length := by
  intro l h
  rw [List.idxOf_append, if_neg h, List.idxOf_cons_self]
  omega
theorem iteF' {c : Bool} {a b : Prop} (h : c = false) (k : b) : (if c = true then a else b) := by
  rw [h]
  exact k
abbrev NEx : List Str := ["signs", "start", "step", "most", "keys", "numbers", "rows", "key", "row", "sign", "after"]
section
variable {α : Type} [DecidableEq α]
def spExpl (P : Program) (w : World) (K : Frag) (mg : Str → Option Value) (base : Heap) (kit : Kit α) (kf : Nat) : Sp := fun vs H Q _ =>
  ∃ (L : W) (v0 : V) (start : α) (fa : Addr) (G : Hp → Prop) (sp : Sp) (f : α → Nat → α) (ok : α → Prop) (B : Nat), vs = [.str (tx L), v0, .ref fa, .int 400] ∧ L.length ≤ 3 ∧ kit.is H v0 start ∧ CallV P w K mg base CX0 kf fa G sp ∧ G H ∧
    (∀ H H', KeepsExt H H' → G H → G H') ∧ ok start ∧ (∀ a c, ok a → c ∈ L → ok (f a c)) ∧
    (∀ (H : Hp) (v : V) (a : α) (c : Nat) (Q : VK), G H → kit.is H v a → ok a → c ∈ L → (∀ v' H', Same H H' → kit.is H' v' (f a c) → Q v' H') → sp [v, .str (sg c)] H Q E0) ∧ (∀ j, (exAll f L start j).1.length ≤ B) ∧ B ≤ 400 ∧
    ∀ (t k r : Addr) (ts : List Addr) (vs : List V) (H' : Hp), Same H H' → H' t = some (.tup [.ref k, .ref r]) → H' k = some (.lst vs) → Are kit H' vs (exAll f L start B).1 → H' r = some (.tup (ts.map V.ref)) → Objs oTup H' ts (exAll f L start B).2 → Q (.ref t) H'
end
section
variable {α : Type} [DecidableEq α] {P : Program} {w : World} {K : PySem.W.Frag} {mg : Str → Option Value} {base : Heap} {kit : Kit α} {kf : Nat}
theorem scEx : FnScope NEx ["signs", "start", "step", "most"] (defScope sExpl) := ⟨rfl, rfl, rfl, by decide +kernel, rfl, by decide +kernel, by decide +kernel⟩
theorem ok_expl {f : Addr} {oc kV dc pm ct cd dV : Value} {an od : Option Addr} {sl : Array (Option Value)} (lk : K.lookup f = some ⟨oc, od, .func (PySem.W.fnOf "explored" "explored" (defArgs sExpl) (defBody sExpl) (defScope sExpl) dV kV dc pm an cd ct), sl⟩) (hcd : PySem.W.codeIn K cd "explored" = true) (T : TN mg) : FnOk P w K mg base CX0 (kf + 1) f (PySem.W.fnOf "explored" "explored" (defArgs sExpl) (defBody sExpl) (defScope sExpl) dV kV dc pm an cd ct) ["signs", "start", "step", "most"] (spExpl P w K mg base kit kf) := by
  refine fn_ofN lk hcd scEx (fun vs H Q E h => ?_) (fun A outer s H vs Q E hr h => ?_)
  · obtain ⟨L, v0, start, fa, G, sp, fn, ok, B, rfl, _⟩ := h
    rfl
  · obtain ⟨L, v0, start, fa, G, sp, fn, ok, B, rfl, hL, is0, cv, g0, gk, ok0, okc, hstep, hB, hB4, q⟩ := h
    have hub := hu_of hr
    refine ⟨_, pss_cons (ps_set (i := 4) scEx.nd rfl (Or.inl rfl) (pe_lst (pa_cons (pv 1) pa_nil)))
      (pss_cons (ps_set (i := 5) scEx.nd rfl (Or.inl rfl) (pe_disp1 (Nat.lt_of_succ_lt hub) (pv 1) pe_int))
      (pss_cons (ps_set (i := 6) scEx.nd rfl (Or.inl rfl) (pe_lst pa_nil))
      (pss_cons (ps_while PassesOwn.never (pt_cmpR op_lt (pe_callB call_len_seq (by rfl) T.len PySem.boot_len (pa_cons (pv 6) pa_nil)) (pe_callB call_len_seq (by rfl) T.len PySem.boot_len (pa_cons (pv 4) pa_nil)) (nomark _))
        (pss_cons (ps_set (i := 7) scEx.nd rfl (Or.inl rfl) (pe_ix ix_list (pv 4) (pe_callB call_len_seq (by rfl) T.len PySem.boot_len (pa_cons (pv 6) pa_nil)) (fun _ _ => rfl)))
        (pss_cons (ps_set (i := 8) scEx.nd rfl (Or.inl rfl) (pe_lst pa_nil))
        (pss_cons (ps_for PassesOwn.never rfl (pi_str (pv 0)) (pg_name (i := 9) scEx.nd rfl (Or.inl rfl))
          (pss_cons (ps_set (i := 10) scEx.nd rfl (Or.inl rfl) (pe_callV (i := 2) (CX := CX0) (E := E0) hr pass0 rfl (.inl rfl) (pa_cons (pv 7) (pa_cons (pv 9) pa_nil))))
          (pss_cons (ps_if (pt_cmp (pc_dnotin hub (pv 10) (pv 5)))
              (pss_cons (ps_if (pt_cmpR op_eq (pe_callB call_len_seq (by rfl) T.len PySem.boot_len (pa_cons (pv 4) pa_nil)) (pv 3) (nomark _)) (pss_one ps_never) pss_nil)
              (pss_cons (ps_dput hub (pv 5) (pv 10) (pe_callB call_len_seq (by rfl) T.len PySem.boot_len (pa_cons (pv 4) pa_nil)) rfl)
              (pss_one (ps_expr (pe_bm PySem.F.plainAttrs_list PySem.F.slot_list_append PySem.F.type_list_append mt_append (pv 4) (pa_cons (pv 10) pa_nil)))))) pss_nil)
          (pss_one (ps_expr (pe_bm PySem.F.plainAttrs_list PySem.F.slot_list_append PySem.F.type_list_append mt_append (pv 8) (pa_cons (pe_dget hub (pv 5) (pv 10) (fun _ _ => rfl)) pa_nil)))))))
        (pss_one (ps_expr (pe_bm PySem.F.plainAttrs_list PySem.F.slot_list_append PySem.F.type_list_append mt_append (pv 6) (pa_cons (pe_callTy call_tuple_of (by rfl) T.tuple (by decide +kernel) (pa_cons (pv 8) pa_nil)) pa_nil))))))))
      (pss_one (ps_ret (pe_tup (pa_cons (pv 4) (pa_cons (pe_callTy call_tuple_of (by rfl) T.tuple (by decide +kernel) (pa_cons (pv 6) pa_nil)) pa_nil)))))))), ?_⟩
    generalize hst : exAll fn L start = st at hB q
    have hz : st 0 = ([start], []) := by rw [← hst] <;> rfl
    have hnx : ∀ (j : Nat) (key : α), (st j).1[j]? = some key → st (j + 1) = ((L.foldl (exSign fn key) ((st j).1, [])).1, (st j).2 ++ [(L.foldl (exSign fn key) ((st j).1, [])).2]) := by
      intro j key e
      have e2 := exAll_at (f := fn) (L := L) (start := start) (j := j) (by rw [hst]; exact e)
      rw [hst] at e2
      exact e2
    have hsp : ∀ (j m : Nat), (st j).1.length ≤ j → st (j + m) = st j := by
      intro j m h
      rw [← hst] at h ⊢
      exact exAll_stop h m
    have hgr : ∀ (j i : Nat) (key : α), (st j).1[j]? = some key → ((L.take i).foldl (exSign fn key) ((st j).1, [])).1.length ≤ B := by
      intro j i key e
      have h2 := hB (j + 1)
      rw [hnx j key e] at h2
      have h3 := exFold_grows fn key (L.drop i) ((L.take i).foldl (exSign fn key) ((st j).1, []))
      rw [← List.foldl_append, List.take_append_drop] at h3
      exact Nat.le_trans h3.length_le h2
    have B1 : 1 ≤ B := by have := hB 0; rw [hz] at this; exact this
    refine ⟨_, rfl, (by show 1 ≤ sizeLine; decide), fun M hM => ?_⟩
    refine ⟨kit.ho [], kit.emp, fun D hD => ⟨_, rfl, _, kit.put (l := []) upd_same (kit.keep is0 (fun b xs e => (same_two (same_upd hM) hD) _ _ e)) List.not_mem_nil (by show 0 < sizeLine; decide), ?_⟩⟩
    rw [upd_upd]
    have nD : H D = none := (same_upd hM).free hD
    have nMD : M ≠ D := fun z => by rw [← z, upd_same] at hD; cases hD
    refine ⟨by show 0 ≤ sizeLine; decide, fun R hR => ?_⟩
    have s0 : Same H (upd (upd (upd H M (.lst [v0])) D (kit.ho [start])) R (.lst [])) := same_two (same_two (same_upd hM) hD) hR
    have nMR : M ≠ R := fun z => by rw [← z, upd_ne nMD, upd_same] at hR; cases hR
    have nDR : D ≠ R := fun z => by rw [← z, upd_same] at hR; cases hR
    have nR : H R = none := (same_two (same_upd hM) hD).free hR
    refine while_by (fun σ H2 => ∃ (j : Nat) (vs : List V) (ts : List Addr) (x7 x8 x9 x10 : Option V), Same H H2 ∧ H2 M = some (.lst vs) ∧ Are kit H2 vs (st j).1 ∧ H2 D = some (kit.ho (st j).1) ∧ H2 R = some (.lst (ts.map V.ref)) ∧ Objs oTup H2 ts (st j).2 ∧ ts.length = j ∧ j ≤ (st j).1.length ∧ (∀ a ∈ (st j).1, ok a) ∧
      σ = [some (.str (tx L)), some v0, some (.ref fa), some (.int 400), some (.ref M), some (.ref D), some (.ref R), x7, x8, x9, x10]) (fun _ H2 => B - (match H2 R with | some (.lst xs) => xs.length | _ => 0)) ?_ ?_ ?_
    · refine ⟨0, [v0], [], none, none, none, none, s0, ?_, ?_, ?_, upd_same, ?_, rfl, Nat.zero_le _, ?_, rfl⟩
      · rw [upd_ne nMR, upd_ne nMD, upd_same]
      · rw [hz]
        exact ⟨kit.keep is0 fun b xs e => s0 _ _ e, trivial⟩
      · rw [upd_ne nDR, upd_same, hz] <;> rfl
      · rw [hz]
        exact trivial
      · rw [hz]
        intro a ha
        rw [List.mem_singleton.mp ha]
        exact ok0
    · rintro σ H2 ⟨j, vs, ts, x7, x8, x9, x10, s2, hm, are, hd, hr2, objs, hts, hle, oks, rfl⟩
      have hvl := are.len
      refine ⟨_, rfl, R, _, rfl, .inl (SqL.of hr2), _, rfl, M, _, rfl, .inl (SqL.of hm), _, _, rfl, rfl, _, rfl, ?_⟩
      rw [List.length_map, hts, hvl]
      refine ite2 (fun hlt => ?_) (fun hge => ?_)
      · have hlt : ((j : Nat) : Int) < (((st j).1.length : Nat) : Int) := of_decide_eq_true hlt
        have hlt : j < (st j).1.length := by omega
        obtain ⟨key, hkey⟩ : ∃ key, (st j).1[j]? = some key := ⟨_, List.getElem?_eq_getElem hlt⟩
        obtain ⟨v, hv, isv⟩ := are.get hkey
        have okk : ok key := oks _ (List.mem_of_getElem? hkey)
        have hstep1 := hnx j key hkey
        have hg := fun i => hgr j i key hkey
        have hlenB := hB j
        refine ⟨_, rfl, _, rfl, R, _, rfl, .inl (SqL.of hr2), M, _, _, _, rfl, rfl, SqL.of hm, by rw [List.length_map, hts]; exact atI_nat hv, ?_⟩
        refine ⟨by show 0 ≤ sizeLine; decide, fun RW hRW => ?_⟩
        have nRW : H RW = none := s2.free hRW
        have nMW : M ≠ RW := fun z => by rw [← z, hm] at hRW; cases hRW
        have nDW : D ≠ RW := fun z => by rw [← z, hd] at hRW; cases hRW
        have nRR : R ≠ RW := fun z => by rw [← z, hr2] at hRW; cases hRW
        generalize hks : (st j).1 = ks at hkey hlenB hg hstep1 hlt hle are hd oks hvl
        generalize hrs : (st j).2 = rs at objs hstep1
        have kt0 : KeepsTup H2 (upd H2 RW (.lst [])) := Same.tup' (same_upd hRW)
        refine ⟨_, rfl, tx L, rfl, ?_⟩
        refine for_it walk_str (fun i σ H3 => ∃ (vs : List V) (x9 x10 : Option V), Same H H3 ∧ H3 M = some (.lst vs) ∧ Are kit H3 vs ((L.take i).foldl (exSign fn key) (ks, [])).1 ∧ H3 D = some (kit.ho ((L.take i).foldl (exSign fn key) (ks, [])).1) ∧ H3 R = some (.lst (ts.map V.ref)) ∧ Objs oTup H3 ts rs ∧ kit.is H3 v key ∧
            H3 RW = some (.lst (((L.take i).foldl (exSign fn key) (ks, [])).2.map V.int)) ∧ ((L.take i).foldl (exSign fn key) (ks, [])).2.length = i ∧ (∀ a ∈ ((L.take i).foldl (exSign fn key) (ks, [])).1, ok a) ∧
            σ = [some (.str (tx L)), some v0, some (.ref fa), some (.int 400), some (.ref M), some (.ref D), some (.ref R), some v, some (.ref RW), x9, x10]) ?_ (fun _ _ _ _ _ => trivial) ?_ ?_
        · refine ⟨vs, x9, x10, s2.trans (same_upd hRW), same_upd hRW _ _ hm, are.keep kt0, same_upd hRW _ _ hd, same_upd hRW _ _ hr2, objs_tup objs kt0, kit.keep isv kt0, upd_same, rfl, oks, rfl⟩
        · rintro i x σ H3 H4 hi ⟨vs, x9, x10, s3, hm3, are3, hd3, hr3, objs3, isv3, hw3, hw3l, oks3, rfl⟩ ⟨rfl, c, hx, rfl⟩
          have hx' : L[i]? = some c := by
            rw [← Array.getElem?_toList, tx_list] at hx
            exact hx
          have hcL : c ∈ L := List.mem_of_getElem? hx'
          have hiL : i < L.length := (List.getElem?_eq_some_iff.mp hx').1
          have hgi1 := hg (i + 1)
          have e1 : (L.take (i + 1)).foldl (exSign fn key) (ks, []) = exSign fn key ((L.take i).foldl (exSign fn key) (ks, [])) c := by
            rw [List.take_add_one, hx', List.foldl_append] <;> rfl
          rw [e1] at hgi1
          rw [e1]
          generalize (L.take i).foldl (exSign fn key) (ks, []) = fo at are3 hd3 hw3 hw3l oks3 hgi1 ⊢
          have gH := gk H H4 (Same.ext' s3) g0
          refine ⟨fa, G, sp, rfl, cv, gH, _, rfl, _, rfl, gH, hstep H4 v key c _ gH isv3 okk hcL fun v' H5 s5 is5 => ?_⟩
          have oka : ok (fn key c) := okc _ _ okk hcL
          replace hm3 := s5 _ _ hm3
          replace are3 := are3.keep (Same.tup' s5)
          replace hd3 := s5 _ _ hd3
          replace hr3 := s5 _ _ hr3
          replace objs3 := objs_tup objs3 (Same.tup' s5)
          replace isv3 := kit.keep isv3 (Same.tup' s5)
          replace hw3 := s5 _ _ hw3
          replace s3 := s3.trans s5
          have vl3 := are3.len
          refine ⟨_, rfl, _, rfl, D, _, rfl, kit.get hd3 is5, _, rfl, ?_⟩
          unfold exSign at hgi1 ⊢
          by_cases hin : fn key c ∈ fo.1
          · rw [if_pos hin] at hgi1 ⊢
            rw [if_pos hin]
            refine iteF ?_
            refine ⟨_, rfl, .inl ⟨rfl, _, SqL.of hw3⟩, _, rfl, _, rfl, D, _, rfl, (if_pos hin) ▸ kit.get hd3 is5, RW, _, _, rfl, rfl, hw3, by rw [List.length_map, hw3l, sizeLine_eq]; omega, ?_⟩
            have kt := tup_upd (o := .lst (fo.2.map V.int ++ [.int ((fo.1.idxOf (fn key c) : Nat) : Int)])) hw3 (fun _ z => nomatch z)
            refine ⟨vs, _, _, same_at s3 nRW, ?_, are3.keep kt, ?_, ?_, objs_tup objs3 kt, kit.keep isv3 kt, ?_, ?_, oks3, rfl⟩
            · rw [upd_ne nMW]
              exact hm3
            · rw [upd_ne nDW]
              exact hd3
            · rw [upd_ne nRR]
              exact hr3
            · rw [upd_same]
              show _ = some (HO.lst ((fo.2 ++ [_]).map V.int))
              rw [List.map_append] <;> rfl
            · show (fo.2 ++ [_]).length = _
              rw [List.length_append, hw3l] <;> rfl
          · rw [if_neg hin] at hgi1 ⊢
            rw [if_neg hin]
            have hlen1 : fo.1.length + 1 ≤ B := by rw [List.length_append] at hgi1; exact hgi1
            refine iteT ?_
            refine ⟨_, rfl, M, _, rfl, .inl (SqL.of hm3), _, rfl, rfl, _, rfl, iteF' ?_ ?_⟩
            · rw [vl3]
              refine decide_eq_false fun z => ?_
              have := V.int.inj z
              omega
            refine ⟨_, rfl, M, _, rfl, .inl (SqL.of hm3), _, rfl, _, rfl, D, _, rfl, by rw [vl3]; exact kit.put hd3 is5 hin (by rw [sizeLine_eq]; omega), ?_⟩
            have k1 := tup_upd (o := kit.ho (fo.1 ++ [fn key c])) hd3 (kit.not_tup _)
            have m1 : upd H5 D (kit.ho (fo.1 ++ [fn key c])) M = some (.lst vs) := by rw [upd_ne nMD]; exact hm3
            have d1 : upd H5 D (kit.ho (fo.1 ++ [fn key c])) D = some (kit.ho (fo.1 ++ [fn key c])) := upd_same
            have r1 : upd H5 D (kit.ho (fo.1 ++ [fn key c])) R = some (.lst (ts.map V.ref)) := by rw [upd_ne (Ne.symm nDR)]; exact hr3
            have w1 : upd H5 D (kit.ho (fo.1 ++ [fn key c])) RW = some (.lst (fo.2.map V.int)) := by rw [upd_ne (Ne.symm nDW)]; exact hw3
            have s1 : Same H (upd H5 D (kit.ho (fo.1 ++ [fn key c]))) := same_at s3 nD
            have a1 := are3.keep k1
            have o1 := objs_tup objs3 k1
            have v1 := kit.keep isv3 k1
            have is1 := kit.keep is5 k1
            generalize upd H5 D (kit.ho (fo.1 ++ [fn key c])) = H6 at m1 d1 r1 w1 s1 a1 o1 v1 is1 ⊢
            refine ⟨_, rfl, .inl ⟨rfl, _, SqL.of m1⟩, _, rfl, M, _, _, rfl, rfl, m1, by rw [vl3, sizeLine_eq]; omega, ?_⟩
            have k2 := tup_upd (o := .lst (vs ++ [v'])) m1 (fun _ z => nomatch z)
            have m2 : upd H6 M (.lst (vs ++ [v'])) M = some (.lst (vs ++ [v'])) := upd_same
            have d2 : upd H6 M (.lst (vs ++ [v'])) D = some (kit.ho (fo.1 ++ [fn key c])) := by rw [upd_ne (Ne.symm nMD)]; exact d1
            have r2 : upd H6 M (.lst (vs ++ [v'])) R = some (.lst (ts.map V.ref)) := by rw [upd_ne (Ne.symm nMR)]; exact r1
            have w2 : upd H6 M (.lst (vs ++ [v'])) RW = some (.lst (fo.2.map V.int)) := by rw [upd_ne (Ne.symm nMW)]; exact w1
            have s2' : Same H (upd H6 M (.lst (vs ++ [v']))) := same_at s1 hM
            have a2 := (a1.snoc is1).keep k2
            have o2 := objs_tup o1 k2
            have v2 := kit.keep v1 k2
            have is2 := kit.keep is1 k2
            generalize upd H6 M (.lst (vs ++ [v'])) = H7 at m2 d2 r2 w2 s2' a2 o2 v2 is2 ⊢
            have gg := kit.get d2 is2
            rw [if_pos (List.mem_append_right _ (List.mem_singleton.mpr rfl)), idx_end hin] at gg
            refine ⟨_, rfl, .inl ⟨rfl, _, SqL.of w2⟩, _, rfl, _, rfl, D, _, rfl, gg, RW, _, _, rfl, rfl, w2, by rw [List.length_map, hw3l, sizeLine_eq]; omega, ?_⟩
            have k3 := tup_upd (o := .lst (fo.2.map V.int ++ [.int ((fo.1.length : Nat) : Int)])) w2 (fun _ z => nomatch z)
            refine ⟨vs ++ [v'], _, _, same_at s2' nRW, ?_, a2.keep k3, ?_, ?_, objs_tup o2 k3, kit.keep v2 k3, ?_, ?_, ?_, rfl⟩
            · rw [upd_ne nMW]
              exact m2
            · rw [upd_ne nDW]
              exact d2
            · rw [upd_ne nRR]
              exact r2
            · rw [upd_same]
              show _ = some (HO.lst ((fo.2 ++ [_]).map V.int))
              rw [List.map_append] <;> rfl
            · show (fo.2 ++ [_]).length = _
              rw [List.length_append, hw3l] <;> rfl
            · intro a ha
              rcases List.mem_append.mp ha with h | h
              · exact oks3 a h
              · rw [List.mem_singleton.mp h]
                exact oka
        · rintro σ H3 ⟨vs, x9, x10, s3, hm3, are3, hd3, hr3, objs3, isv3, hw3, hw3l, oks3, rfl⟩
          rw [size_tx, List.take_length] at are3 hd3 hw3 hw3l oks3
          have fB := hB (j + 1)
          rw [hstep1] at fB
          generalize hfo : L.foldl (exSign fn key) (ks, []) = fo at are3 hd3 hw3 hw3l oks3 fB hstep1
          have grows : ks.length ≤ fo.1.length := by rw [← hfo]; exact (exFold_grows fn key L (ks, [])).length_le
          refine ⟨_, rfl, .inl ⟨rfl, _, SqL.of hr3⟩, _, rfl, RW, _, rfl, .inl ⟨SqL.of hw3, fun t ht => ?_⟩⟩
          have s4 := same_upd (o := .tup (fo.2.map V.int)) ht
          have nt : R ≠ t := fun z => by rw [← z, hr3] at ht; cases ht
          refine ⟨R, _, _, rfl, rfl, s4 _ _ hr3, by rw [List.length_map, hts, sizeLine_eq]; omega, ?_⟩
          have hr4 := s4 _ _ hr3
          have hm4 := s4 _ _ hm3
          have hd4 := s4 _ _ hd3
          have ho4 := objs_tup objs3 (Same.tup' s4)
          have ha4 := are3.keep (Same.tup' s4)
          have ht4 : upd H3 t (.tup (fo.2.map V.int)) t = some (oTup fo.2) := upd_same
          have s5 := s3.trans s4
          generalize upd H3 t (.tup (fo.2.map V.int)) = H4 at hr4 hm4 hd4 ho4 ha4 ht4 s5 ⊢
          have k3 := tup_upd (o := .lst (ts.map V.ref ++ [.ref t])) hr4 (fun _ z => nomatch z)
          refine ⟨⟨j + 1, vs, ts ++ [t], _, _, _, _, same_at s5 nR, ?_, ?_, ?_, ?_, ?_, ?_, ?_, ?_, rfl⟩, ?_⟩
          · rw [upd_ne nMR]
            exact hm4
          · rw [hstep1]
            exact ha4.keep k3
          · rw [upd_ne nDR, hstep1]
            exact hd4
          · rw [upd_same, List.map_append] <;> rfl
          · rw [hstep1]
            exact objs_tup (ho4.snoc ht4) k3
          · rw [List.length_append, hts] <;> rfl
          · rw [hstep1]
            show j + 1 ≤ fo.1.length
            omega
          · rw [hstep1]
            exact oks3
          · show B - (match (upd _ R _) R with | some (.lst xs) => xs.length | _ => 0) < B - (match H2 R with | some (.lst xs) => xs.length | _ => 0)
            rw [upd_same, hr2]
            show _ - (ts.map V.ref ++ [_]).length < _ - (ts.map V.ref).length
            rw [List.length_append, List.length_map, hts]
            show _ - (j + 1) < _
            omega
      · have hge : ¬ (((j : Nat) : Int) < (((st j).1.length : Nat) : Int)) := fun z => hge (decide_eq_true z)
        have e1 : (st j).1.length = j := by omega
        have e2 : st B = st j := by
          have h3 := hB j
          have h4 := hsp j (B - j) (by omega)
          rw [show j + (B - j) = B by omega] at h4
          exact h4
        refine ⟨_, rfl, _, rfl, R, _, rfl, .inl ⟨SqL.of hr2, fun r hr => ?_⟩⟩
        refine ⟨by show 2 ≤ sizeLine; decide, fun t ht => ?_⟩
        have s3 := same_upd (o := .tup (ts.map V.ref)) hr
        have s4 := same_upd (o := .tup [.ref M, .ref r]) ht
        refine q t M r ts vs _ (s2.trans (s3.trans s4)) upd_same (s4 _ _ (s3 _ _ hm)) ?_ (s4 _ _ upd_same) ?_
        · rw [e2]
          exact are.keep (Same.tup' (s3.trans s4))
        · rw [e2]
          exact objs_tup objs (Same.tup' (s3.trans s4))
    · exact fun σ H Q Q' hm ⟨v, hv, M', ys, e, hs, w', hw, M2, ys2, e2, hs2, i, j, a, b, k, hk, q⟩ => ⟨v, hv, M', ys, e, hs, w', hw, M2, ys2, e2, hs2, i, j, a, b, k, hk, hm _ _ q⟩
end
end WK

set_option Elab.async false
set_option linter.all false
set_option maxRecDepth 100000
set_option maxHeartbeats 4000000
/-! Keys of three kinds: texts, tuples of numbers, tuples of texts. -/
namespace WK
open PySem L2 PyProof.Rows LCX K1 FV DP
open TX (sg sigs)
section
variable {α κ : Type} [DecidableEq α] [DecidableEq κ] (e : α → κ)
/-- a dict's pairs: each key with its number, from i on -/
def numK (i : Nat) : List α → List (κ × V)
  | [] => []
  | a :: l => (e a, .int ((i : Nat) : Int)) :: numK (i + 1) l
theorem numK_len : ∀ (l : List α) (i : Nat), (numK e i l).length = l.length
  | [], _ => rfl
  | _ :: l, i => congrArg Nat.succ (numK_len l (i + 1))
theorem numK_snoc (a : α) : ∀ (l : List α) (i : Nat), numK e i (l ++ [a]) = numK e i l ++ [(e a, .int (((i + l.length : Nat) : Nat) : Int))]
  | [], _ => rfl
  | b :: l, i => by
    show (e b, _) :: numK e (i + 1) (l ++ [a]) = (e b, _) :: (numK e (i + 1) l ++ _)
    rw [numK_snoc a l (i + 1), List.length_cons, show i + 1 + l.length = i + (l.length + 1) by omega]
theorem numK_val (inj : ∀ a b, e a = e b → a = b) (a : α) : ∀ (l : List α) (i : Nat), valV (numK e i l) (e a) = if a ∈ l then some (.int (((i + l.idxOf a : Nat) : Nat) : Int)) else none
  | [], _ => rfl
  | b :: l, i => by
    show valV ((e b, V.int ((i : Nat) : Int)) :: numK e (i + 1) l) (e a) = _
    by_cases hb : b = a
    · rw [valV_pos (congrArg e hb), if_pos (hb ▸ List.mem_cons_self), hb, List.idxOf_cons_self] <;> rfl
    · rw [valV_neg fun z => hb (inj _ _ z), numK_val inj a l (i + 1)]
      have hm : (a ∈ b :: l) ↔ a ∈ l := ⟨fun z => (List.mem_cons.mp z).resolve_left fun w => hb w.symm, List.mem_cons_of_mem _⟩
      by_cases h : a ∈ l
      · rw [if_pos h, if_pos (hm.mpr h), List.idxOf_cons, show (b == a) = false from beq_eq_false_iff_ne.mpr hb, show i + 1 + l.idxOf a = i + (l.idxOf a + 1) by omega] <;> rfl
      · rw [if_neg h, if_neg fun z => h (hm.mp z)]
theorem numK_put (inj : ∀ a b, e a = e b → a = b) {a : α} {l : List α} (h : a ∉ l) : putK (numK e 0 l) (e a) (.int ((l.length : Nat) : Int)) = numK e 0 (l ++ [a]) := by
  unfold putK
  rw [valV_any, numK_val e inj, if_neg h, numK_snoc, Nat.zero_add]
  exact if_neg fun z => nomatch z
end
abbrev kT (u : W) : Key := Sum.inr (tx u)
theorem kT_inj (a b : W) (h : kT a = kT b) : a = b := tx_inj (Sum.inr.inj h)
/-- texts -/
def kitW : Kit W where
  is := fun _ v a => v = .str (tx a)
  keep := fun h _ => h
  ho := fun l => .dK (numK kT 0 l)
  kind := fun l => .inl ⟨_, rfl⟩
  emp := .inl rfl
  get := fun {H D l v a} hd hv => by
    cases hv
    have h := DGet.k (k := kT a) hd
    rw [numK_val kT kT_inj, Nat.zero_add] at h
    exact h
  put := fun {H D l v a} hd hv hn hl => by
    cases hv
    have h := DPut.k (k := kT a) (v := .int ((l.length : Nat) : Int)) hd (by rw [numK_len]; exact hl)
    rw [numK_put kT kT_inj hn] at h
    exact h
theorem map_inj {α β : Type} {f : α → β} (inj : ∀ a b, f a = f b → a = b) : ∀ (l m : List α), l.map f = m.map f → l = m
  | [], [], _ => rfl
  | a :: l, b :: m, h => by
    obtain ⟨h1, h2⟩ := List.cons.inj h
    rw [inj a b h1, map_inj inj l m h2]
  | [], _ :: _, h => nomatch h
  | _ :: _, [], h => nomatch h
/-- tuples of keys -/
def kitL {α : Type} [DecidableEq α] (e : α → Key) (inj : ∀ a b, e a = e b → a = b) : Kit (List α) where
  is := fun H v a => ∃ b, v = .ref b ∧ H b = some (.tup ((a.map e).map kV))
  keep := fun ⟨b, hv, hb⟩ k => ⟨b, hv, k _ _ hb⟩
  ho := fun l => .dT (numK (fun a : List α => a.map e) 0 l)
  kind := fun l => .inr ⟨_, rfl⟩
  emp := .inr rfl
  get := fun {H D l v a} hd hv => by
    obtain ⟨b, rfl, hb⟩ := hv
    have h := DGet.t (k := a.map e) hd hb
    rw [numK_val (fun a : List α => a.map e) (fun a b z => map_inj inj a b z), Nat.zero_add] at h
    exact h
  put := fun {H D l v a} hd hv hn hl => by
    obtain ⟨b, rfl, hb⟩ := hv
    have h := DPut.t (k := a.map e) (v := .int ((l.length : Nat) : Int)) hd hb (by rw [numK_len]; exact hl)
    rw [numK_put (fun a : List α => a.map e) (fun a b z => map_inj inj a b z) hn] at h
    exact h
/-- tuples of numbers -/
def kitI : Kit (List Int) := kitL (fun i : Int => (Sum.inl i : Key)) fun _ _ h => Sum.inl.inj h
/-- tuples of texts -/
def kitS : Kit (List W) := kitL kT kT_inj
theorem kitI_is {H : Hp} {b : Addr} {a : List Int} : kitI.is H (.ref b) a ↔ H b = some (.tup (a.map V.int)) := by
  show (∃ c, V.ref b = .ref c ∧ H c = some (.tup ((a.map _).map kV))) ↔ _
  rw [List.map_map]
  exact ⟨fun ⟨c, h, k⟩ => by cases h; exact k, fun h => ⟨b, rfl, h⟩⟩
theorem kitS_is {H : Hp} {b : Addr} {a : List W} : kitS.is H (.ref b) a ↔ H b = some (.tup (a.map fun u => V.str (tx u))) := by
  show (∃ c, V.ref b = .ref c ∧ H c = some (.tup ((a.map _).map kV))) ↔ _
  rw [List.map_map]
  exact ⟨fun ⟨c, h, k⟩ => by cases h; exact k, fun h => ⟨b, rfl, h⟩⟩
end WK

set_option Elab.async false
set_option linter.all false
set_option maxRecDepth 100000
set_option maxHeartbeats 8000000
/-! What the package makes itself: rows, and a box of rows. -/
namespace WK
open PySem L2 PyProof.Rows LCX K1 FV DP
open TX (sg sigs)
open PySem.W (Frag kitOne)
abbrev sMadeI : Stmt := inClass (top 9) 0
abbrev sBoxI : Stmt := inClass (top 43) 0
abbrev sGrown : Stmt := top 45
/-- the class Box at C, the class Made at cD -/
structure TBx (K : Frag) (mg : Str → Option Value) (C cD : Addr) : Prop where
  cl : Cls K C
  nT : NoAttr K C "_table"
  nL : NoAttr K C "_letters"
  clD : Cls K cD
  nR : NoAttr K cD "rows"
  gC : mg "Box" = some (.ref C)
  gD : mg "Made" = some (.ref cD)
  tyC : ∀ {H : Hp} {a dx : Addr} {fs : List (Str × V)}, H a = some (.ins C dx fs) → TyOf K H (.ref a) (.ref C)
  tyD : ∀ {H : Hp} {a dx : Addr} {fs : List (Str × V)}, H a = some (.ins cD dx fs) → TyOf K H (.ref a) (.ref cD)
  most : ∃ t, mg "MAX_MADE" = some (.int 400 t)
def bfl (lt tb : V) : List (Str × V) := [("_table", tb), ("_letters", lt)]
/-- a class is called, which a name of the running frame holds -/
def tMakeV (i : Nat) (C : Addr) (sp : Sp) (dvs : List V) (E : XK) (t : TA) : TE := fun σ H Q => σ[i]? = some (some (.ref C)) ∧ tMake C sp dvs E t σ H Q
theorem pe_makeV {X : Cx} {CX : CXT} {k i : Nat} {f C : Addr} {fd : FuncData} {ps : List Str} {ds : List Value} {dvs : List V} {sp : Sp} {E : XK} {x : Str} {p pos : Pos} {e : Expr} {es : List Expr} {t : TA}
    (M : Mk X.K C f) (F : FnOk X.prog X.w X.K X.mg X.base CX k f fd ps sp) (hr : Room (k + 1) X.A) (hN : X.N[i]? = some x) (hv : Vis X.env.scope x) (hb : Binds X.K fd ps ds) (hd : Vals dvs ds) (hx : Passes CX X E) (ha : PA X (e :: es) t)
    (hdb : (x == ("__debug__" : Str)) = false := by decide) (hcd : (x == ("__classdict__" : Str)) = false := by decide) (he : starEach (e :: es) X.env = (false, eval e X.env) :: starEach es X.env := by rfl) (hpl : (backTo pos (starEach es X.env)).any (·.1) = false := by rfl) :
    PE X (.Call (.Name x p) (e :: es) [] pos) (tMakeV i C sp dvs E t) := by
  refine ⟨fun pins s σ H Q I ⟨hs, h⟩ => ?_⟩
  refine wpAny_Call_Name_kw (thn ((pe_var (pos := p) hN hv hdb hcd).run pins s σ H (fun v H1 => v = .ref C ∧ H1 = H) I ⟨_, hs, rfl, rfl⟩) fun u s1 ⟨v, H1, I1, r1, ev, eH⟩ => ?_)
  subst ev
  subst eH
  cases (show u = Value.ref C from r1)
  refine PySem.W.callWith_K (h₀ := X.base) I1.ok.mod.kin M.kp (thn (ha.run pos pins s1 σ _ _ I1 h) fun us s2 ⟨vs, H2, I2, r, q⟩ => ⟨I2.kIn, ?_⟩) he hpl
  exact run_make M F hr hb hd hx I2 r q
/-- rows as the package made them stand at g -/
def RowsAt (H : Hp) (r : Addr) (tb : List (List Int)) : Prop := ∃ ts : List Addr, H r = some (.tup (ts.map V.ref)) ∧ Objs oTup H ts tb
theorem RowsAt.keep {H H' : Hp} {r : Addr} {tb : List (List Int)} (h : RowsAt H r tb) (k : KeepsTup H H') : RowsAt H' r tb := by
  obtain ⟨ts, h1, h2⟩ := h
  exact ⟨ts, k _ _ h1, objs_tup h2 k⟩
def MadeAt (cD : Addr) (H : Hp) (g : Addr) (tb : List (List Int)) : Prop := ∃ dx r : Addr, H g = some (.ins cD dx [("rows", .ref r)]) ∧ RowsAt H r tb
theorem MadeAt.same {cD : Addr} {H H' : Hp} {g : Addr} {tb : List (List Int)} (h : MadeAt cD H g tb) (s : Same H H') : MadeAt cD H' g tb := by
  obtain ⟨dx, r, h1, h2⟩ := h
  exact ⟨dx, r, s _ _ h1, h2.keep (Same.tup' s)⟩
/-- a box stands at o -/
def BoxAt (C : Addr) (H : Hp) (o : Addr) (L : W) (tb : List (List Int)) : Prop := ∃ dx r : Addr, H o = some (.ins C dx (bfl (.str (tx L)) (.ref r))) ∧ RowsAt H r tb
theorem BoxAt.same {C : Addr} {H H' : Hp} {o : Addr} {L : W} {tb : List (List Int)} (h : BoxAt C H o L tb) (s : Same H H') : BoxAt C H' o L tb := by
  obtain ⟨dx, r, h1, h2⟩ := h
  exact ⟨dx, r, s _ _ h1, h2.keep (Same.tup' s)⟩
def spMadeI (cD : Addr) : Sp := fun vs H Q _ => ∃ p dx r, vs = [.ref p, r] ∧ H p = some (.ins cD dx []) ∧ Q .non (upd H p (.ins cD dx [("rows", r)]))
def spBoxI (C cD : Addr) : Sp := fun vs H Q _ => ∃ (p dx : Addr) (L : W) (g : Addr) (tb : List (List Int)), vs = [.ref p, .str (tx L), .ref g] ∧ Let L ∧ H p = some (.ins C dx []) ∧ g ≠ p ∧ MadeAt cD H g tb ∧
  ∀ (r : Addr) (H' : Hp), H' p = some (.ins C dx (bfl (.str (tx L)) (.ref r))) → (∀ b o, H b = some o → b ≠ p → H' b = some o) → RowsAt H' r tb → Q .non H'
/-- a step that may be explored from a start -/
def Steps {α : Type} [DecidableEq α] (P : Program) (w : World) (K : Frag) (mg : Str → Option Value) (base : Heap) (kit : Kit α) (kf : Nat) (H : Hp) (L : W) (v0 : V) (fa : Addr) (start : α) (f : α → Nat → α) (B : Nat) : Prop :=
  ∃ (G : Hp → Prop) (sp : Sp) (ok : α → Prop), kit.is H v0 start ∧ CallV P w K mg base CX0 kf fa G sp ∧ G H ∧
    (∀ H H', KeepsExt H H' → G H → G H') ∧ ok start ∧ (∀ a c, ok a → c ∈ L → ok (f a c)) ∧
    (∀ (H : Hp) (v : V) (a : α) (c : Nat) (Q : VK), G H → kit.is H v a → ok a → c ∈ L → (∀ v' H', Same H H' → kit.is H' v' (f a c) → Q v' H') → sp [v, .str (sg c)] H Q E0) ∧ (∀ j, (exAll f L start j).1.length ≤ B) ∧ B ≤ 400
def spGrown (P : Program) (w : World) (K : Frag) (mg : Str → Option Value) (base : Heap) {α : Type} [DecidableEq α] (kit : Kit α) (kf : Nat) (cD : Addr) : Sp := fun vs H Q _ =>
  ∃ (L : W) (v0 : V) (start : α) (fa : Addr) (f : α → Nat → α) (B : Nat), vs = [.str (tx L), v0, .ref fa] ∧ L.length ≤ 3 ∧ Steps P w K mg base kit kf H L v0 fa start f B ∧ ∀ g H', H g = none → Same H H' → MadeAt cD H' g (exAll f L start B).2 → Q (.ref g) H'
section
variable {P : Program} {w : World} {K : PySem.W.Frag} {mg : Str → Option Value} {base : Heap} {C cD fL fI fE : Addr} {dL dI dE : FuncData}
theorem scDI : FnScope ["self", "rows"] ["self", "rows"] (defScope sMadeI) := ⟨rfl, rfl, rfl, by decide +kernel, rfl, by decide +kernel, by decide +kernel⟩
theorem ok_madei {f : Addr} {oc kV dc pm ct cd dV : Value} {an od : Option Addr} {sl : Array (Option Value)} (lk : K.lookup f = some ⟨oc, od, .func (PySem.W.fnOf "__init__" "Made.__init__" (defArgs sMadeI) (defBody sMadeI) (defScope sMadeI) dV kV dc pm an cd ct), sl⟩) (hcd : PySem.W.codeIn K cd "Made.__init__" = true) (M : TBx K mg C cD) :
    FnOk P w K mg base CX0 1 f (PySem.W.fnOf "__init__" "Made.__init__" (defArgs sMadeI) (defBody sMadeI) (defScope sMadeI) dV kV dc pm an cd ct) ["self", "rows"] (spMadeI cD) := by
  refine fn_of lk hcd scDI (fun vs H Q E h => ?_) (fun A outer s H vs Q E hr h => ?_)
  · obtain ⟨p, dx, r, rfl, _⟩ := h
    rfl
  · obtain ⟨p, dx, r, rfl, hp, q⟩ := h
    refine ⟨_, pss_one (ps_fld (pv 0) (pv 1) rfl), ?_⟩
    exact ⟨_, rfl, _, rfl, p, cD, dx, [], rfl, hp, M.clD, M.nR, by show 0 < 1000; decide, q⟩
theorem scBI : FnScope ["self", "letters", "table"] ["self", "letters", "table"] (defScope sBoxI) := ⟨rfl, rfl, rfl, by decide +kernel, rfl, by decide +kernel, by decide +kernel⟩
theorem ok_boxi {f : Addr} {oc kV dc pm ct cd dV : Value} {an od : Option Addr} {sl : Array (Option Value)} (lk : K.lookup f = some ⟨oc, od, .func (PySem.W.fnOf "__init__" "Box.__init__" (defArgs sBoxI) (defBody sBoxI) (defScope sBoxI) dV kV dc pm an cd ct), sl⟩) (hcd : PySem.W.codeIn K cd "Box.__init__" = true)
    (T : TN mg) (M : TBx K mg C cD) (AL : Fn K mg "is_letters" sIsLet ["value"] fL dL) (GL : FnOk P w K mg base CX0 2 fL dL ["value"] (spIsLet K)) :
    FnOk P w K mg base CX0 3 f (PySem.W.fnOf "__init__" "Box.__init__" (defArgs sBoxI) (defBody sBoxI) (defScope sBoxI) dV kV dc pm an cd ct) ["self", "letters", "table"] (spBoxI C cD) := by
  refine fn_of lk hcd scBI (fun vs H Q E h => ?_) (fun A outer s H vs Q E hr h => ?_)
  · obtain ⟨p, dx, L, g, tb, rfl, _⟩ := h
    rfl
  · obtain ⟨p, dx, L, g, tb, rfl, hL, hp, hgp, ⟨gx, r, hg, rows⟩, q⟩ := h
    refine ⟨_, pss_cons (ps_if (pt_not (pt_val (pe_call GL hr rfl AL.g AL.F.kp AL.b .nil pass0 (pa_cons (pv 1) pa_nil)))) (pss_one ps_never) pss_nil)
      (pss_cons (ps_if (pt_val (pe_callB call_isi (by rfl) T.isi (by decide +kernel) (pa_cons (pv 2) (pa_cons (pe_glob rfl M.gD (show RelV (.ref cD) (.ref cD) from rfl)) pa_nil)))) (pss_one (ps_fld (pv 0) (pe_fld (pv 2) rfl) rfl)) (pss_one ps_never))
      (pss_one (ps_fld (pv 0) (pv 1) rfl))), ?_⟩
    refine ⟨_, rfl, _, rfl, .inl ⟨tx L, rfl, by rw [tx_len]; have := hL.few; omega, fun H1 s1 => ⟨_, rfl, ?_⟩⟩⟩
    rw [letB_let hL]
    refine ⟨_, rfl, _, _, _, _, true, rfl, .own cD, .base (M.tyD (s1 _ _ hg)), if_pos (beq_self_eq_true _), true, rfl, ?_⟩
    have hp1 := s1 _ _ hp
    refine ⟨_, rfl, g, cD, gx, _, _, rfl, s1 _ _ hg, M.clD, M.nR, rfl, _, rfl, p, C, dx, [], rfl, hp1, M.cl, M.nT, by show 0 < 1000; decide, ?_⟩
    refine ⟨_, rfl, _, rfl, p, C, dx, _, rfl, upd_same, M.cl, M.nL, by show 1 < 1000; decide, ?_⟩
    have kt : KeepsTup H _ := (Same.tup' s1).trans ((tup_upd (o := .ins C dx (putF "_table" (V.ref r) [])) hp1 fun _ z => nomatch z).trans (tup_upd (o := .ins C dx (putF "_letters" (V.str (tx L)) (putF "_table" (V.ref r) []))) upd_same fun _ z => nomatch z))
    refine q r _ ?_ (fun b o z n => ?_) (rows.keep kt)
    · rw [upd_same]
      show _ = some (HO.ins C dx [("_table", V.ref r), ("_letters", V.str (tx L))])
      refine congrArg (fun l => some (HO.ins C dx l)) ?_
      show (if ("_table" : Str) = "_letters" then [(("_table" : Str), V.str (tx L))] else (("_table" : Str), V.ref r) :: putF "_letters" (V.str (tx L)) []) = _
      rw [if_neg (by decide +kernel)]
      rfl
    · rw [upd_ne n, upd_ne n]
      exact s1 _ _ z
theorem scGr : FnScope ["letters", "start", "step"] ["letters", "start", "step"] (defScope sGrown) := ⟨rfl, rfl, rfl, by decide +kernel, rfl, by decide +kernel, by decide +kernel⟩
theorem ok_grown {α : Type} [DecidableEq α] {kit : Kit α} {kf : Nat} {f : Addr} {fd : FuncData} (F : Fun K "_grown" "_grown" sGrown f fd) (M : TBx K mg C cD) (gE : mg "explored" = some (.ref fE)) (kE : PySem.W.keepIn K (.ref fE) = true) (GE : FnOk P w K mg base CX0 (kf + 1) fE dE ["signs", "start", "step", "most"] (spExpl P w K mg base kit kf))
    (MI : Mk K cD fI) (GI : FnOk P w K mg base CX0 1 fI dI ["self", "rows"] (spMadeI cD)) (bI : Binds K dI ["self", "rows"] []) (bE : Binds K dE ["signs", "start", "step", "most"] []) :
    FnOk P w K mg base CX0 (kf + 3) f fd ["letters", "start", "step"] (spGrown P w K mg base kit kf cD) := by
  obtain ⟨tm, most⟩ := M.most
  refine F.ok scGr (fun vs H Q E h => ?_) (fun cdv A outer s H vs Q E hr h => ?_)
  · obtain ⟨L, v0, start, fa, fn, B, rfl, _⟩ := h
    rfl
  · obtain ⟨L, v0, start, fa, fn, B, rfl, hL, ⟨G, sp, ok, is0, cv, g0, gk, ok0, okc, hstep, hB, hB4⟩, q⟩ := h
    have hr1 : Room (kf + 1) _ := hr.mono (by omega)
    have hr2 : Room 2 _ := hr.mono (by omega)
    refine ⟨_, pss_one (ps_ret (pe_make (E := E0) MI GI hr2 rfl M.gD bI .nil pass0 (pa_cons (pe_ix ix_tup (pe_call (E := E0) GE hr1 rfl gE kE bE .nil pass0 (pa_cons (pv 0) (pa_cons (pv 1) (pa_cons (pv 2) (pa_cons (pe_glob rfl most (show RelV (.int 400) (.int 400 tm) from ⟨tm, rfl⟩)) pa_nil))))) pe_int (fun _ _ => rfl)) pa_nil))), ?_⟩
    refine ⟨_, rfl, _, rfl, _, rfl, L, v0, start, fa, G, sp, fn, ok, B, rfl, hL, is0, cv, g0, gk, ok0, okc, hstep, hB, hB4, fun t k r ts vs H1 s1 ht hk hare hr' hobj => ?_⟩
    refine ⟨t, _, _, _, rfl, rfl, SqT.of ht, rfl, ?_⟩
    intro x dx hx hdx ne
    refine ⟨x, dx, _, rfl, upd_same, rfl, ?_⟩
    have s3 : Same H1 (upd (upd (upd H1 dx (.own x)) x (.ins cD dx [])) x (.ins cD dx [("rows", .ref r)])) := fun b o z => by rw [upd_ne (ne_of_none z hx), upd_ne (ne_of_none z hx), upd_ne (ne_of_none z hdx)]; exact z
    exact q x _ (s1.free hx) (s1.trans s3) ⟨dx, r, upd_same, ts, s3 _ _ hr', objs_tup hobj (Same.tup' s3)⟩
end
end WK

set_option Elab.async false
set_option linter.all false
set_option maxRecDepth 100000
set_option maxHeartbeats 8000000
/-! for i, x in enumerate(t), t a text or a tuple. -/
namespace ENU
open PySem PySem.Spec PyProof.Rows L2
/-- the walk over a text: each sign in a new pair -/
def EnS (x : Str) : It := ⟨fun i _ => i < x.cps.size, fun i H v H' => ∃ T c, v = .ref T ∧ H T = none ∧ H' = upd H T (.tup [.int (i : Nat), .str ⟨#[c]⟩]) ∧ x.cps[i]? = some c, fun i _ => i = x.cps.size⟩
/-- .. over the tuple at a -/
def EnT (K : PySem.W.Frag) (a : Addr) (xs : List V) : It :=
  ⟨fun i H => SqT K H a xs ∧ i < xs.length, fun i H v H' => ∃ T y, v = .ref T ∧ H T = none ∧ H' = upd H T (.tup [.int (i : Nat), y]) ∧ xs[i]? = some y, fun i H => SqT K H a xs ∧ i = xs.length⟩
section
variable {X : Cx} {s : Shared} {σ : L2.St} {H : Hp} {pins : List (Addr × Obj)}
/-- one turn, by what the inner walk draws -/
theorem en_item {e it : Addr} {fp : List Addr} {n i kk : Nat} {Pv : Nat → Value → Prop} {St : Nat → Heap → Prop} {E : Value → Shared → Prop} {elts : List Expr} {tpos : Pos} {old : Value} {R : V → Hp → Heap → Prop} (I : Inv X pins σ H s) (D : Draws X.prog X.w X.A.in1 it fp n Pv St)
    (he : IsEnum s.heap e it ((i : Nat) : Int) old) (hst : St i s.heap) (hlt : i < n) (hne : e ≠ it) (hef : e ∉ fp) (hit : it < s.heap.objs.size) (hf : ∀ b ∈ [e, it], FpOk X pins H b)
    (hR : ∀ u, Pv i u → ∃ y, RelV y u ∧ ∀ (T : Addr) (h2 : Heap), H T = none → St (i + 1) h2 → (∃ old, IsEnum h2 e it ((i + 1 : Nat) : Int) old) → R (.ref T) (upd H T (.tup [.int (i : Nat), y])) h2) :
    wpAny (model X.prog X.w) X.A (pyNext (.ref e)) (fun r s1 => ∃ u, r = some u ∧
      wpAny (model X.prog X.w) X.A (letOwnedTupleGo (.Tuple elts kk tpos) (.ref e) u) (fun _ s2 => ∃ x H', Inv X pins σ H' s2 ∧ RelV x u ∧ R x H' s2.heap ∧ ∀ b ∈ [e, it], H' b = none) E s1) E s := by
  have elt : e < s.heap.objs.size := Heap.lt_size he
  refine wpAny_pyNext_enum_itemD D he hst hlt hne hef fun u h1 tk hP ho hst1 hT hsz kp => ⟨_, rfl, wpAny_letOwnedTupleGo_enum (s := { s with heap := h1, toks := tk + 1 }) ho fun h2 he2 sb => ?_⟩
  obtain ⟨y, ry, q⟩ := hR u hP
  have fresh : H s.heap.objs.size = none := I.hok.fresh (Nat.le_refl _)
  have stay : ∀ b o, b ∉ [e, it] → s.heap.get? b = some o → h2.get? b = some o := fun b o hb z => (sb.2 b fun w => hb (by simp [w])).trans (kp b o (fun w => hb (by simp [w])) (fun w => hb (by simp [w])) z)
  have pair : h2.get? s.heap.objs.size = some { cls := .type "tuple", data := .seq #[.int i tk, u] } := (sb.2 _ (Nat.ne_of_gt elt)).trans hT
  have new : ObjOk X.prog X.w (upd H s.heap.objs.size (.tup [.int (i : Nat), y])) h2 s.heap.objs.size (.tup [.int (i : Nat), y]) := ⟨by show 2 ≤ sizeLine; decide, [.int i tk, u], .cons ⟨_, rfl⟩ (.cons ry .nil), _, pair, rfl, _, rfl⟩
  refine ⟨.ref s.heap.objs.size, _, I.turnedNew (ch := [e, it]) stay hf (Nat.le_refl _) new, rfl, q _ _ fresh (D.frame _ _ _ hst1 fun b hb o z => (sb.2 b fun w => hef (w ▸ hb)).trans z) ⟨u, ?_⟩, fun b hb => ?_⟩
  · rw [show ((i + 1 : Nat) : Int) = (i : Int) + 1 from Int.natCast_add i 1]
    exact he2
  · have hlt : b < s.heap.objs.size := by
      obtain z | z := List.mem_cons.mp hb
      · rw [z]
        exact elt
      · rw [List.mem_singleton.mp z]
        exact hit
    rw [upd_ne (Nat.ne_of_lt hlt)]
    exact (hf b hb).1
end
theorem DQT {h : Heap} {a : Addr} {its : Array Value} (p : IsTup h a its) : h.IsTuple a its := let ⟨o, e, c, n, d⟩ := p; ⟨o, e, c, n, d⟩
theorem turn_enS {P : Program} {w : World} {K : PySem.W.Frag} {elts : List Expr} {kk : Nat} {tpos : Pos} (x : Str) (t : Tok) (e it : Addr) :
    Turn P w K (.Tuple elts kk tpos) (EnS x) [e, it] e (fun i h => (∃ old, IsEnum h e it ((i : Nat) : Int) old) ∧ h.IsStrIter it (strIterType x) x t i ∧ e ≠ it) where
  mem := .head _
  obj := fun i h st b hb => by
    obtain ⟨⟨old, he⟩, ⟨o, ho, _, hd⟩, _⟩ := st
    obtain z | z := List.mem_cons.mp hb
    · exact ⟨_, z ▸ he, fun v q => by cases q⟩
    · exact ⟨o, List.mem_singleton.mp z ▸ ho, fun v q => by cases hd.symm.trans q⟩
  keep := fun i h h' st k => let ⟨⟨old, he⟩, ⟨o, ho, r⟩, hne⟩ := st; ⟨⟨old, k e (.head _) _ he⟩, ⟨o, k it (.tail _ (.head _)) _ ho, r⟩, hne⟩
  item := by
    intro X hP hw hK hc i pins s σ H E I hf ⟨⟨old, he⟩, hit, hne⟩ hg
    subst hP hw hK
    obtain ⟨o, ho, _⟩ := id hit
    have D := Draws.text (prog := X.prog) (w := X.w) (A := X.A.in1) (I.ok.hd hc) it x t
    refine wpAny_mono (en_item (elts := elts) (kk := kk) (tpos := tpos) (R := fun v H' h2 => (EnS x).yld i H v H' ∧ (∃ old, IsEnum h2 e it ((i + 1 : Nat) : Int) old) ∧ h2.IsStrIter it (strIterType x) x t (i + 1)) I D he hit hg hne (fun z => hne (List.mem_singleton.mp z)) (Heap.lt_size ho) hf (fun u hu => ?_)) (fun r s1 q => ?_) fun _ _ z => z
    · obtain ⟨c, tk, hx, eu⟩ := hu
      exact ⟨.str ⟨#[c]⟩, ⟨tk, eu⟩, fun T h2 hT st z => ⟨⟨T, c, rfl, hT, rfl, hx⟩, z, st⟩⟩
    obtain ⟨u, rfl, q⟩ := q
    exact ⟨u, rfl, wpAny_mono q (fun _ s2 ⟨v, H', I', rv, ⟨a, b, c⟩, d⟩ => ⟨v, H', I', rv, a, ⟨b, c, hne⟩, d⟩) fun _ _ z => z⟩
  done := by
    intro X hP hw hK hc i pins s σ H E I hf ⟨⟨old, he⟩, hit, hne⟩ hg
    subst hP hw hK
    obtain ⟨f0, f1, f2, f3, f4, f5⟩ := hf it (.tail _ (.head _))
    have D := Draws.text (prog := X.prog) (w := X.w) (A := X.A.in1) (I.ok.hd hc) it x t
    exact wpAny_pyNext_enum_endD D he (show s.heap.IsStrIter it (strIterType x) x t x.cps.size from hg ▸ hit) fun h1 eb => ⟨rfl, I.turned (t' := s.toks) (fun b o hb q => eb b o hb q) f0 f1 f3 f4 f5⟩
  self := fun _ _ _ _ _ st q => wpAny_pyIter_enum st.1.choose_spec q
theorem turn_enT {P : Program} {w : World} {K : PySem.W.Frag} {elts : List Expr} {kk : Nat} {tpos : Pos} (a : Addr) (xs : List V) (e it : Addr) :
    Turn P w K (.Tuple elts kk tpos) (EnT K a xs) [e, it] e (fun i h => (∃ old, IsEnum h e it ((i : Nat) : Int) old) ∧ h.IsTupleIter it a i ∧ e ≠ it ∧ e ≠ a ∧ a ≠ it) where
  mem := .head _
  obj := fun i h st b hb => by
    obtain ⟨⟨old, he⟩, ⟨o, ho, _, hd⟩, _⟩ := st
    obtain z | z := List.mem_cons.mp hb
    · exact ⟨_, z ▸ he, fun v q => by cases q⟩
    · exact ⟨o, List.mem_singleton.mp z ▸ ho, fun v q => by cases hd.symm.trans q⟩
  keep := fun i h h' st k => let ⟨⟨old, he⟩, ⟨o, ho, r⟩, hne⟩ := st; ⟨⟨old, k e (.head _) _ he⟩, ⟨o, k it (.tail _ (.head _)) _ ho, r⟩, hne⟩
  item := by
    intro X hP hw hK hc i pins s σ H E I hf ⟨⟨old, he⟩, hit, hne, hea, hai⟩ ⟨hT, hi⟩
    subst hP hw hK
    obtain ⟨o, ho, _⟩ := id hit
    obtain ⟨its, rv, pt, _⟩ := I.tuple hT
    have D := Draws.tuple (prog := X.prog) (w := X.w) (A := X.A.in1) (I.ok.hd hc) it a hai its.toArray
    have hl : i < its.toArray.size := by
      have := rv.length
      simp only [List.size_toArray]
      omega
    refine wpAny_mono (en_item (elts := elts) (kk := kk) (tpos := tpos) (R := fun v H' h2 => (EnT X.K a xs).yld i H v H' ∧ (∃ old, IsEnum h2 e it ((i + 1 : Nat) : Int) old) ∧ h2.IsTupleIter it a (i + 1)) I D he ⟨hit, DQT pt⟩ hl hne (fun z => ?_) (Heap.lt_size ho) hf (fun u hu => ?_)) (fun r s1 q => ?_) fun _ _ z => z
    · obtain z | z := List.mem_cons.mp z
      · exact hne z
      · exact hea (List.mem_singleton.mp z)
    · obtain ⟨y, hy⟩ : ∃ y, xs[i]? = some y := ⟨xs[i], List.getElem?_eq_getElem hi⟩
      obtain ⟨u2, h1, h2⟩ := rv.get hy
      have e1 : u2 = u := Option.some.inj (h1.symm.trans (by rw [← List.getElem?_toArray]; exact hu))
      exact ⟨y, e1 ▸ h2, fun T h2 hT st z => ⟨⟨T, y, rfl, hT, rfl, hy⟩, z, st.1⟩⟩
    obtain ⟨u, rfl, q⟩ := q
    exact ⟨u, rfl, wpAny_mono q (fun _ s2 ⟨v, H', I', rv, ⟨a, b, c⟩, d⟩ => ⟨v, H', I', rv, a, ⟨b, c, hne, hea, hai⟩, d⟩) fun _ _ z => z⟩
  done := by
    intro X hP hw hK hc i pins s σ H E I hf ⟨⟨old, he⟩, hit, hne, hea, hai⟩ ⟨hT, hi⟩
    subst hP hw hK
    obtain ⟨f0, f1, f2, f3, f4, f5⟩ := hf it (.tail _ (.head _))
    obtain ⟨its, rv, pt, _⟩ := I.tuple hT
    have D := Draws.tuple (prog := X.prog) (w := X.w) (A := X.A.in1) (I.ok.hd hc) it a hai its.toArray
    have hl : i = its.toArray.size := by
      have := rv.length
      simp only [List.size_toArray]
      omega
    exact wpAny_pyNext_enum_endD D he ⟨hl ▸ hit, DQT pt⟩ fun h1 eb => ⟨rfl, I.turned (t' := s.toks) (fun b o hb q => eb b o hb q) f0 f1 f3 f4 f5⟩
  self := fun _ _ _ _ _ st q => wpAny_pyIter_enum st.1.choose_spec q
/-- enumerate(v) of anything whose iterator is one new object -/
theorem meets_one {v : Value} {o : Obj} {G : Heap → Prop} (B : PySem.Begins v o G) : Meets (Builtin.«enumerate.__new__» ⟨[.type "enumerate", v], []⟩) (fun _ R s => G s.heap ∧
    R (.ok (.ret (.ref (s.heap.push o).objs.size))) { s with heap := (s.heap.push o).push { cls := .type "enumerate", data := .fields #[.none, .bool false, .ref s.heap.objs.size, rawInt 0, .none, .none] } }) :=
  .of_wp fun prog w _ _ ⟨hp, g, d, tk, os⟩ ⟨h1, h2⟩ => by
    have f1 := sub_enumerate
    have f2 : ∀ {A1 : Around} {E : Value → Shared → Prop} {Q : Value → Shared → Prop}, Q (.ref hp.objs.size) ⟨hp.push o, g, d, tk, os⟩ → wpAny (model prog w) A1 (pyIter v) Q E ⟨hp, g, d, tk, os⟩ := fun q => B.iter prog w _ _ _ _ h1 q
    wp_walk using f2
    refine wpAny_stack_any fun _ => wpAny_pure ?_
    split
    · rename_i c _ _ _ _ _
      cases (c == Value.type "enumerate") <;> (wp_walk using f2; exact ⟨_, rfl, h2⟩)
    · wp_walk using f2
      exact ⟨_, rfl, h2⟩
theorem call_one {prog : Program} {w : World} {A : Around} {E : Value → Shared → Prop} {s : Shared} {v : Value} {o : Obj} {G : Heap → Prop} {Q : Value → Shared → Prop} (B : PySem.Begins v o G) (h1 : G s.heap)
    (k : ∀ h1, IsEnum h1 (s.heap.objs.size + 1) s.heap.objs.size 0 .none → h1.get? s.heap.objs.size = some o → (∀ b u, s.heap.get? b = some u → h1.get? b = some u) → Q (.ref (s.heap.objs.size + 1)) { s with heap := h1 }) :
    wpAny (model prog w) A (call (.type "enumerate") [v]) Q E s := by
  have sz : (s.heap.push o).objs.size = s.heap.objs.size + 1 := Heap.size_push ..
  have at_ : IsEnum ((s.heap.push o).push { cls := .type "enumerate", data := .fields #[.none, .bool false, .ref s.heap.objs.size, rawInt 0, .none, .none] }) (s.heap.objs.size + 1) s.heap.objs.size 0 .none := by
    have z := Heap.get?_push_size (s.heap.push o) (o := { cls := .type "enumerate", data := .fields #[.none, .bool false, .ref s.heap.objs.size, rawInt 0, .none, .none] }) rfl
    rw [sz] at z
    exact z
  refine callType_new F.called_enumerate (by decide) (F.typeCall_enumerate_1 _) (F.newCall_enumerate_1 _) (fun obj => F.args_object_init_2 obj _) F.entry_enumerate_new (meets_one B) ⟨h1, ?_⟩
  rw [sz]
  exact ⟨⟨_, at_, rfl⟩, k _ at_ (Heap.get?_push_of_some _ (Heap.get?_push_size _ B.free)) fun b u x => Heap.get?_push_of_some _ (Heap.get?_push_of_some _ x)⟩
def iEnS (ta : TA) : TI := fun σ H R => ta σ H fun vs H1 => ∃ x, vs = [.str x] ∧ R (EnS x) H1
def iEnT (K : PySem.W.Frag) (ta : TA) : TI := fun σ H R => ta σ H fun vs H1 => ∃ a xs, vs = [.ref a] ∧ SqT K H1 a xs ∧ R (EnT K a xs) H1
section
variable {X : Cx} {e : Expr} {ta : TA} {p pos tpos : Pos} {elts : List Expr} {kk : Nat}
theorem two_new {pins : List (Addr × Obj)} {σ : L2.St} {H : Hp} {s : Shared} (I : Inv X pins σ H s) : ∀ b ∈ [s.heap.objs.size + 1, s.heap.objs.size], FpOk X pins H b := fun b hb => by
  have le : s.heap.objs.size ≤ b := by
    obtain z | z := List.mem_cons.mp hb
    · rw [z]
      exact Nat.le_succ _
    · rw [List.mem_singleton.mp z]
      exact Nat.le_refl _
  exact I.fpOk le (I.hok.fresh le)
theorem pi_enS (hg : Gl X "enumerate") (hm : X.mg "enumerate" = none) (ha : PA X [e] ta) (hs : starEach [e] X.env = [(false, eval e X.env)] := by rfl) : PI X (.Tuple elts kk tpos) (.Call (.Name "enumerate" p) [e] [] pos) (iEnS ta) := by
  refine ⟨fun pins s σ H R I h => Call_ (ld_blt I hg hm boot_enumerate (PyProof.Rows.callWith_type1 (thn (ha.run pos pins s σ H _ I h) fun us s1 ⟨vs, H1, I1, r1, x, ex, q⟩ => ?_) hs rfl))⟩
  subst ex
  obtain ⟨u, rfl, t, rfl⟩ := r1.one
  refine call_one (PySem.begins_text x t) trivial fun h1 he hi kp => wpAny_pyIter_enum he ?_
  exact ⟨s1.heap.objs.size + 1, _, _, _, H1, rfl, I1.kept (t' := s1.toks) kp, turn_enS x t _ s1.heap.objs.size, ⟨⟨.none, he⟩, ⟨_, hi, rfl, rfl⟩, Nat.succ_ne_self _⟩, two_new I1, q⟩
theorem pi_enT (hg : Gl X "enumerate") (hm : X.mg "enumerate" = none) (ha : PA X [e] ta) (hs : starEach [e] X.env = [(false, eval e X.env)] := by rfl) : PI X (.Tuple elts kk tpos) (.Call (.Name "enumerate" p) [e] [] pos) (iEnT X.K ta) := by
  refine ⟨fun pins s σ H R I h => Call_ (ld_blt I hg hm boot_enumerate (PyProof.Rows.callWith_type1 (thn (ha.run pos pins s σ H _ I h) fun us s1 ⟨vs, H1, I1, r1, a, xs, ex, hT, q⟩ => ?_) hs rfl))⟩
  subst ex
  obtain ⟨u, rfl, rfl⟩ := r1.one
  obtain ⟨its, rv, pt, _⟩ := I1.tuple hT
  obtain ⟨o, ho, _⟩ := id pt
  have lt := Heap.lt_size ho
  refine call_one (PySem.begins_tuple a its.toArray) (DQT pt) fun h1 he hi kp => wpAny_pyIter_enum he ?_
  exact ⟨s1.heap.objs.size + 1, _, _, _, H1, rfl, I1.kept (t' := s1.toks) kp, turn_enT a xs _ s1.heap.objs.size, ⟨⟨.none, he⟩, ⟨_, hi, rfl, rfl⟩, Nat.succ_ne_self _, Nat.ne_of_gt (Nat.lt_succ_of_lt lt), Nat.ne_of_lt lt⟩, two_new I1, q⟩
end
theorem walk_enS {z : Str} : Walk (EnS z) z.cps.size (fun _ => True) (fun i H v H' => ∃ T c, v = .ref T ∧ H T = none ∧ H' = upd H T (.tup [.int (i : Nat), .str ⟨#[c]⟩]) ∧ z.cps[i]? = some c) := ⟨fun _ _ hi _ => hi, fun _ _ => rfl, fun _ _ _ _ _ _ y => y⟩
theorem walk_enT {K : PySem.W.Frag} {a : Addr} {xs : List V} : Walk (EnT K a xs) xs.length (fun H => SqT K H a xs) (fun i H v H' => ∃ T y, v = .ref T ∧ H T = none ∧ H' = upd H T (.tup [.int (i : Nat), y]) ∧ xs[i]? = some y) := ⟨fun _ _ hi q => ⟨q, hi⟩, fun _ q => ⟨q, rfl⟩, fun _ _ _ _ _ _ y => y⟩
end ENU

set_option Elab.async false
set_option linter.all false
set_option maxRecDepth 100000
set_option maxHeartbeats 8000000
/-! A dict by a comprehension, stored under a name; the place to which a word leads. -/
namespace L2
open PySem PySem.Spec PyProof.Rows
section
variable {X : Cx}
/-- y = {k: v for .. in ..} -/
theorem ps_setDc {i : Nat} {y : Str} {py pos spos : Pos} {kx vx tg iter : Expr} {ifs : List Expr} {scope : Scope} {own : List (Str × Nat)} {wi : TI} {g : TG} {tt : TT} {tk tv : TE} (hc : X.calm = true) (hN : X.N.Nodup) (hy : X.N[i]? = some y) (hyl : X.env.scope.names.lookup y = some .local)
    (hsw : swapsWith (.DictComp kx vx [⟨tg, iter, ifs, 0⟩] scope pos) (some (.Name y py)) spos.line X.env = pure true) (hi : PI X tg iter wi) (ok : BlkOk X.N X.env.scope scope own)
    (hg : ∀ s H C cl fp, PG (X.blk s H scope (compEnvC scope cl C X.env) fp) tg g) (ht : ∀ s H C cl fp, PTs (X.blk s H scope (compEnvC scope cl C X.env) fp) ifs tt) (hk : ∀ s H C cl fp, PE (X.blk s H scope (compEnvC scope cl C X.env) fp) kx tk) (he : ∀ s H C cl fp, PE (X.blk s H scope (compEnvC scope cl C X.env) fp) vx tv)
    (hs : ∀ x, foldedSetIterable iter X.env x = pure x := by intro _; rfl) : PS X (.Assign [.Name y py] (.DictComp kx vx [⟨tg, iter, ifs, 0⟩] scope pos) spos) (tAsg (tDc wi g tt tk tv (own.map (·.2))) (gName i)) := by
  refine ⟨fun pins s σ H D I h => ?_⟩
  have made : wpAny (model X.prog X.w) X.A (comprehension (.DictComp kx vx [⟨tg, iter, ifs, 0⟩] scope pos) scope X.env (firstIterPos [⟨tg, iter, ifs, 0⟩] pos) newDict false (eval iter X.env) (some (assign (.Name y py) X.env))) (fun _ s' => SP X pins D .next s') X.xe s := by
    refine dc_core hc hN I hi ok hg ht hk he hs (Q := fun x H1 => gName i x σ H1 D.nx) h fun L C s' m H' I' q hn f => ?_
    obtain ⟨g0, g1, _, g3, g4, g5⟩ := f
    show wpAny (model X.prog X.w) X.A (assign (.Name y py) X.env (.ref L)) _ X.xe _
    refine wpAny_assign_Name (store_ok2 (v := .ref L) I' hN hy (.inl hyl) rfl (fun s2 I2 z => ?_) (.inr hyl))
    obtain ⟨a, sb, at_⟩ := z
    exact ⟨m, hn.sameBut sb (at_.elim (fun z => z ▸ g1) fun z w => g4 y a z w.symm), fun h3 sb3 => ⟨_, H', I2.turned (t' := s2.toks) (fun b o hb e => (sb3.2 b hb).trans e) g0 g1 g3 g4 g5, q⟩⟩
  rw [exec_Assign_Name_used (hs := hsw)]
  refine wpAny_bind (wpAny_standAt ?_)
  refine wpAny_bind ?_
  show wpAny _ X.A (do let _ ← comprehension (.DictComp kx vx [⟨tg, iter, ifs, 0⟩] scope pos) scope X.env (firstIterPos [⟨tg, iter, ifs, 0⟩] pos) newDict false (eval iter X.env) (some (assign (.Name y py) X.env))) _ _ s
  exact wpAny_bind (thn made fun _ _ z => wpAny_pure (wpAny_pure z))
end
end L2
namespace LCX
open PySem L2 PyProof.Rows WK
/-- one turn of a dict's comprehension -/
abbrev DTurn (g : TG) (tt : TT) (tk tv : TE) (vs : List Nat) (σ : L2.St) (D : Addr) (x : V) (H : Hp) (N : Hp → Prop) : Prop := g x (wipe σ vs) H fun σ2 H2 => wipe σ2 vs = wipe σ vs ∧ tt σ2 H2 fun b H3 =>
  if b = true then tk σ2 H3 fun y H4 => tv σ2 H4 fun z H5 => ∃ kvs k, y = kV k ∧ H5 D = some (.dK kvs) ∧ kvs.length < sizeLine ∧ N (upd H5 D (.dK (putK kvs k z))) else N H3
abbrev DWent (J : It) (g : TG) (tt : TT) (tk tv : TE) (vs : List Nat) (σ : L2.St) (D : Addr) (H1 : Hp) (Qd : Hp → Prop) : Prop :=
  ∃ W : Nat → Nat → Hp → Prop, (∃ m, W 0 m (upd H1 D (.dK []))) ∧ ∀ j n G, W j n G → (J.stop j G ∧ Qd G) ∨ (J.go j G ∧ ∃ N : Hp → Prop, (∀ G', N G' → ∃ n', n' < n ∧ W (j + 1) n' G') ∧ ∀ v G', J.yld j G v G' → DTurn g tt tk tv vs σ D v G' N)
theorem dc_it {J : It} {n : Nat} {G : Hp → Prop} {Y : Nat → Hp → V → Hp → Prop} (wk : Walk J n G Y) {g : TG} {tt : TT} {tk tv : TE} {vs : List Nat} {σ : L2.St} {H1 : Hp} {D : Addr} {Qd : Hp → Prop} (Pv : Nat → Hp → Prop) (h0 : Pv 0 (upd H1 D (.dK []))) (hG : ∀ i H, i ≤ n → Pv i H → G H)
    (hs : ∀ i x H H', i < n → Pv i H → Y i H x H' → DTurn g tt tk tv vs σ D x H' (Pv (i + 1))) (hd : ∀ H, Pv n H → Qd H) : DWent J g tt tk tv vs σ D H1 Qd := by
  refine ⟨fun i m H => m + i = n ∧ Pv i H, ⟨n, rfl, h0⟩, fun i m H ⟨e, p⟩ => ?_⟩
  have gd := hG i H (by omega) p
  rcases Nat.lt_or_ge i n with lt | ge
  · exact .inr ⟨wk.goes i H lt gd, Pv (i + 1), fun H' p' => ⟨m - 1, by omega, by omega, p'⟩, fun x H' y => hs i x H H' lt p (wk.yields i H x H' lt gd y)⟩
  · obtain rfl : i = n := by omega
    exact .inl ⟨wk.stops H gd, hd H p⟩
end LCX
namespace WK
open PySem L2 PyProof.Rows LCX K1
open TX (sg sigs)
open PySem.W (Frag kitOne)
abbrev sLed : Stmt := top 10
def Bel (n : Int) (ns : List Int) : Prop := ∀ i ∈ ns, 0 ≤ i ∧ i < n
/-- a table of n rows, each of wd numbers below n -/
structure TabOk (tb : List (List Int)) (wd : Nat) (n : Int) : Prop where
  len : (tb.length : Int) = n
  row : ∀ r ∈ tb, r.length = wd ∧ Bel n r
/-- one step, and the way of a word -/
def stepL (L : W) (tb : List (List Int)) (r : Int) (c : Nat) : Int := (tb.getD r.toNat []).getD (L.idxOf c) 0
def ledL (L : W) (tb : List (List Int)) (u : W) (st : Int) : Int := u.foldl (stepL L tb) st
theorem stepL_in {L : W} {tb : List (List Int)} {n r : Int} {c : Nat} (ok : TabOk tb L.length n) (hr : 0 ≤ r ∧ r < n) (hc : c ∈ L) : 0 ≤ stepL L tb r c ∧ stepL L tb r c < n := by
  have hl := ok.len
  have h1 : r.toNat < tb.length := by omega
  have e1 : tb.getD r.toNat [] = tb[r.toNat] := by rw [List.getD_eq_getElem?_getD, List.getElem?_eq_getElem h1] <;> rfl
  obtain ⟨a, b⟩ := ok.row _ (List.getElem_mem h1)
  have h2 : L.idxOf c < tb[r.toNat].length := by rw [a]; exact List.idxOf_lt_length_of_mem hc
  unfold stepL
  rw [e1, List.getD_eq_getElem?_getD, List.getElem?_eq_getElem h2]
  exact b _ (List.getElem_mem h2)
theorem Objs.get {mk : List Int → HO} {H : Hp} : ∀ {as : List Addr} {rs : List (List Int)} {i : Nat}, Objs mk H as rs → i < rs.length → ∃ a, as[i]? = some a ∧ H a = some (mk (rs.getD i []))
  | _ :: _, _ :: _, 0, h, _ => ⟨_, rfl, h.1⟩
  | _ :: _, _ :: _, _ + 1, h, hi => h.2.get (Nat.lt_of_succ_lt_succ hi)
  | [], _ :: _, _, h, _ => h.elim
  | _, [], _, _, hi => absurd hi (Nat.not_lt_zero _)
theorem ledL_snoc (L : W) (tb : List (List Int)) (u : W) (c : Nat) (st : Int) : ledL L tb (u ++ [c]) st = stepL L tb (ledL L tb u st) c := by
  unfold ledL
  rw [List.foldl_append] <;> rfl
theorem ledL_in {L : W} {tb : List (List Int)} {n : Int} (ok : TabOk tb L.length n) : ∀ {u : W} {st : Int}, 0 ≤ st ∧ st < n → (∀ c ∈ u, c ∈ L) → 0 ≤ ledL L tb u st ∧ ledL L tb u st < n
  | [], _, h, _ => h
  | c :: u, st, h, hc => ledL_in ok (u := u) (stepL_in ok h (hc c (.head _))) fun d hd => hc d (.tail _ hd)
theorem nodup_of {L : W} (h : Let L) : L.Nodup := h.asc.imp fun z => Nat.ne_of_lt z
theorem idx_of {L : W} (h : L.Nodup) {i c : Nat} (e : L[i]? = some c) : L.idxOf c = i := by
  obtain ⟨hi, rfl⟩ := List.getElem?_eq_some_iff.mp e
  exact List.Nodup.idxOf_getElem h i hi
/-- a table in tuples at t -/
def TTab (K : Frag) (H : Hp) (t : Addr) (tb : List (List Int)) : Prop := ∃ ts : List Addr, SqT K H t (ts.map V.ref) ∧ Objs oTup H ts tb
theorem TTab.same {K : Frag} {H H' : Hp} {t : Addr} {tb : List (List Int)} (h : TTab K H t tb) (s : Same H H') : TTab K H' t tb := let ⟨ts, a, b⟩ := h; ⟨ts, seqT s a, b.to fun _ _ _ z => s _ _ z⟩
def spLed (K : Frag) : Sp := fun vs H Q _ => ∃ (t : Addr) (L u : W) (tb : List (List Int)) (n st : Int), vs = [.str (tx L), .ref t, .str (tx u), .int st] ∧ TTab K H t tb ∧ Let L ∧ TabOk tb L.length n ∧ n ≤ 1000 ∧ 0 ≤ st ∧ st < n ∧ u.length ≤ 1000 ∧ (∀ c ∈ u, c ∈ L) ∧
  ∀ H', Same H H' → Q (.int (ledL L tb u st)) H'
abbrev NLd : List Str := ["letters", "table", "word", "start", "columns", "row", "letter", "at"]
section
variable {P : Program} {w : World} {K : PySem.W.Frag} {mg : Str → Option Value} {base : Heap}
theorem scLd : FnScope NLd ["letters", "table", "word", "start"] (defScope sLed) := ⟨rfl, rfl, rfl, by decide +kernel, rfl, by decide +kernel, by decide +kernel⟩
theorem ok_led {f : Addr} {fd : FuncData} (F : Fun K "led" "led" sLed f fd) (en : mg "enumerate" = none) : FnOk P w K mg base CX0 1 f fd ["letters", "table", "word", "start"] (spLed K) := by
  refine F.ok scLd (fun vs H Q E h => ?_) (fun cdv A outer s H vs Q E hr h => ?_)
  · obtain ⟨t, L, u, tb, n, st, rfl, _⟩ := h
    rfl
  · obtain ⟨t, L, u, tb, n, st, rfl, hT, hL, ok, hn, s0, s1, hu, hc, q⟩ := h
    have hub := hu_of hr
    refine ⟨_, pss_cons (ps_setDc (i := 4) (own := [("at", 7), ("letter", 6)]) (g := gTup K 2 (gCons (gName 7) (gCons (gName 6) gNil))) (tt := tYes) (tk := tVar 6) (tv := tVar 7) rfl scLd.nd rfl rfl (by rfl) (ENU.pi_enS rfl en (pa_cons (pv 0) pa_nil))
        (blkOk_by (own := [("at", 7), ("letter", 6)]) (N := NLd) (sc := defScope sLed) (by decide +kernel)) (fun _ _ _ _ _ => pg_tup (by rfl) (pgs_cons (pg_name (i := 7) scLd.nd rfl (Or.inl rfl)) (pgs_cons (pg_name (i := 6) scLd.nd rfl (Or.inl rfl)) pgs_nil))) (fun _ _ _ _ _ => pts_nil)
        (fun _ _ _ _ _ => pv 6) (fun _ _ _ _ _ => pv 7))
      (pss_cons (ps_set (i := 5) scLd.nd rfl (Or.inl rfl) (pv 3))
      (pss_cons (ps_for PassesOwn.never rfl (pi_str (pv 2)) (pg_name (i := 6) scLd.nd rfl (Or.inl rfl))
        (pss_one (ps_set (i := 5) scLd.nd rfl (Or.inl rfl) (pe_ix ix_tup (pe_ix ix_tup (pv 1) (pv 5) (fun _ _ => rfl)) (pe_dget hub (pv 4) (pv 6) (fun _ _ => rfl)) (fun _ _ => rfl)))))
      (pss_one (ps_ret (pv 5))))), ?_⟩
    have hnd := nodup_of hL
    refine ⟨_, rfl, tx L, rfl, fun D hD => ?_⟩
    refine dc_it ENU.walk_enS (fun i H3 => Same H H3 ∧ ∃ kvs : List (Key × V), H3 D = some (.dK kvs) ∧ kvs.length ≤ i ∧ ∀ c ∈ L.take i, valV kvs (Sum.inr (sg c) : Key) = some (.int ((L.idxOf c : Nat) : Int))) ⟨same_upd hD, [], upd_same, Nat.le_refl _, fun c hc => by simp at hc⟩ (fun _ _ _ _ => trivial) ?_ ?_
    · rintro i x H3 H4 hi ⟨s3, kvs, hd, hl, hv⟩ ⟨T, c, rfl, hT2, rfl, hx⟩
      have hx' : L[i]? = some c := by
        rw [← Array.getElem?_toList, tx_list] at hx
        exact hx
      have hi' : i < L.length := (List.getElem?_eq_some_iff.mp hx').1
      have s4 : Same H3 (upd H3 T (.tup [.int (i : Nat), .str ⟨#[c]⟩])) := same_upd hT2
      refine ⟨T, _, rfl, SqT.of upd_same, rfl, _, _, rfl, _, _, rfl, rfl, rfl, _, rfl, _, rfl, kvs, Sum.inr (sg c), rfl, s4 _ _ hd, by have := hL.few; rw [sizeLine_eq]; omega, same_at (s3.trans s4) hD, _, upd_same, ?_, fun d hd2 => ?_⟩
      · have := length_putK kvs (Sum.inr (sg c) : Key) (.int (i : Nat))
        omega
      · rw [valV_put]
        by_cases e : d = c
        · rw [if_pos (by rw [e]), e, idx_of hnd hx']
        · rw [if_neg fun z => e (TX.sg_inj (Sum.inr.inj z))]
          refine hv d ?_
          rw [List.take_add_one, hx'] at hd2
          rcases List.mem_append.mp hd2 with z | z
          · exact z
          · exact absurd (by simpa using z) e
    · rintro H3 ⟨s3, kvs, hd, hl, hv⟩
      rw [size_tx, List.take_length] at hv
      refine ⟨_, rfl, _, rfl, tx u, rfl, ?_⟩
      refine for_it walk_str (fun i σ H1 => H1 = H3 ∧ ∃ l : Option V, σ = [some (.str (tx L)), some (.ref t), some (.str (tx u)), some (.int st), some (.ref D), some (.int (ledL L tb (u.take i) st)), l, none]) ⟨rfl, none, rfl⟩ (fun _ _ _ _ _ => trivial) ?_ ?_
      · rintro i x σ H1 H2 hi ⟨rfl, l, rfl⟩ ⟨rfl, c, hx, rfl⟩
        have hx' : u[i]? = some c := by
          rw [← Array.getElem?_toList, tx_list] at hx
          exact hx
        have hcL : c ∈ L := hc c (List.mem_of_getElem? hx')
        have hin := ledL_in ok (u := u.take i) (st := st) ⟨s0, s1⟩ fun d hd => hc d (List.mem_of_mem_take hd)
        obtain ⟨ts, h1, h2⟩ := hT.same s3
        have hrl : (ledL L tb (u.take i) st).toNat < tb.length := by have := ok.len; omega
        obtain ⟨a, e1, e2⟩ := h2.get hrl
        have at1 : atI (ts.map V.ref) (ledL L tb (u.take i) st) = some (.ref a) := by
          have e3 : ledL L tb (u.take i) st = (((ledL L tb (u.take i) st).toNat : Nat) : Int) := by omega
          rw [e3]
          exact atI_nat (by rw [List.getElem?_map, e1] <;> rfl)
        have e4 : tb.getD (ledL L tb (u.take i) st).toNat [] = tb[(ledL L tb (u.take i) st).toNat] := by rw [List.getD_eq_getElem?_getD, List.getElem?_eq_getElem hrl] <;> rfl
        have hil : L.idxOf c < (tb.getD (ledL L tb (u.take i) st).toNat []).length := by rw [e4, (ok.row _ (List.getElem_mem hrl)).1]; exact List.idxOf_lt_length_of_mem hcL
        have at2 : atI ((tb.getD (ledL L tb (u.take i) st).toNat []).map V.int) ((L.idxOf c : Nat) : Int) = some (.int (stepL L tb (ledL L tb (u.take i) st) c)) := by
          refine atI_nat ?_
          unfold stepL
          rw [List.getElem?_map, List.getD_eq_getElem?_getD (l := tb.getD _ _), List.getElem?_eq_getElem hil] <;> rfl
        refine ⟨_, rfl, _, rfl, t, _, _, _, rfl, rfl, h1, at1, _, rfl, _, rfl, D, _, rfl, (hv c hcL) ▸ DGet.k (k := Sum.inr (sg c)) hd, a, _, _, _, rfl, rfl, SqT.of e2, at2, rfl, some (.str (sg c)), ?_⟩
        rw [List.take_add_one, hx']
        show _ = [_, _, _, _, _, some (V.int (ledL L tb (u.take i ++ [c]) st)), _, _]
        rw [ledL_snoc] <;> rfl
      · rintro σ H1 ⟨rfl, l, rfl⟩
        rw [size_tx, List.take_length]
        exact ⟨_, rfl, q _ s3⟩
end
end WK

set_option Elab.async false
set_option linter.all false
set_option maxRecDepth 100000
set_option maxHeartbeats 8000000
/-! The rows that words reach, in the order of the first words. -/
namespace WK
open PySem L2 PyProof.Rows LCX K1 FV DP
open TX (sg sigs)
open PySem.W (Frag kitOne)
abbrev sWays : Stmt := top 12
def addN (o : List Int) (a : Int) : List Int := if a ∈ o then o else o ++ [a]
/-- what is met when j rows are done -/
def wyA (tb : List (List Int)) (st : Int) : Nat → List Int
  | 0 => [st]
  | j + 1 => match (wyA tb st j)[j]? with
    | some r => (tb.getD r.toNat []).foldl addN (wyA tb st j)
    | none => wyA tb st j
abbrev rngI (n : Nat) : List Int := (List.range n).map fun i => ((i : Nat) : Int)
theorem addN_grows (o : List Int) (a : Int) : o <+: addN o a := by
  unfold addN
  split
  · exact List.prefix_refl _
  · exact List.prefix_append _ _
theorem addF_grows : ∀ (l o : List Int), o <+: l.foldl addN o
  | [], _ => List.prefix_refl _
  | a :: l, o => (addN_grows o a).trans (addF_grows l _)
theorem wyA_at {tb : List (List Int)} {st r : Int} {j : Nat} (h : (wyA tb st j)[j]? = some r) : wyA tb st (j + 1) = (tb.getD r.toNat []).foldl addN (wyA tb st j) := by
  show (match (wyA tb st j)[j]? with | some r => _ | none => _) = _
  rw [h]
theorem wyA_stop {tb : List (List Int)} {st : Int} {j : Nat} (h : (wyA tb st j).length ≤ j) : ∀ m, wyA tb st (j + m) = wyA tb st j
  | 0 => rfl
  | m + 1 => by
    have ih := wyA_stop h m
    show (match (wyA tb st (j + m))[j + m]? with | some r => _ | none => _) = _
    rw [List.getElem?_eq_none (by rw [ih]; omega)]
    exact ih
/-- numbers below n, each once -/
structure Few (n : Int) (o : List Int) : Prop where
  nd : o.Nodup
  in_ : ∀ a ∈ o, 0 ≤ a ∧ a < n
theorem Few.add {n a : Int} {o : List Int} (h : Few n o) (ha : 0 ≤ a ∧ a < n) : Few n (addN o a) := by
  unfold addN
  by_cases e : a ∈ o
  · rw [if_pos e]
    exact h
  · rw [if_neg e]
    refine ⟨List.nodup_append.mpr ⟨h.nd, List.nodup_cons.mpr ⟨List.not_mem_nil, List.nodup_nil⟩, fun x hx y hy z => ?_⟩, fun x hx => ?_⟩
    · rw [List.mem_singleton.mp hy] at z
      exact e (z ▸ hx)
    · rcases List.mem_append.mp hx with z | z
      · exact h.in_ x z
      · rw [List.mem_singleton.mp z]
        exact ha
theorem Few.fold {n : Int} : ∀ {l o : List Int}, Few n o → (∀ a ∈ l, 0 ≤ a ∧ a < n) → Few n (l.foldl addN o)
  | [], _, h, _ => h
  | a :: l, _, h, k => (h.add (k a (.head _))).fold fun b hb => k b (.tail _ hb)
theorem Few.len {n : Int} {o : List Int} (h : Few n o) : (o.length : Int) ≤ n ∨ o = [] := by
  cases o with
  | nil => exact .inr rfl
  | cons a o =>
    refine .inl ?_
    have h0 := h.in_ a (.head _)
    have sub : (a :: o) ⊆ rngI n.toNat := fun x hx => by
      have := h.in_ x hx
      exact List.mem_map.mpr ⟨x.toNat, List.mem_range.mpr (by omega), by omega⟩
    have := h.nd.length_le_of_subset sub
    rw [List.length_map, List.length_range] at this
    omega
def Keys (kvs : List (Key × V)) (o : List Int) : Prop := kvs.map (·.1) = o.map (Sum.inl : Int → Key)
theorem Keys.len {kvs : List (Key × V)} {o : List Int} (h : Keys kvs o) : kvs.length = o.length := by
  have := congrArg List.length h
  rw [List.length_map, List.length_map] at this
  exact this
theorem Keys.val {kvs : List (Key × V)} {o : List Int} (h : Keys kvs o) (a : Int) : valV kvs (Sum.inl a : Key) ≠ none ↔ a ∈ o := by
  have e1 : (Sum.inl a : Key) ∈ kvs.map (·.1) ↔ a ∈ o := by
    rw [show kvs.map (·.1) = _ from h, List.mem_map]
    exact ⟨fun ⟨b, hb, e⟩ => Sum.inl.inj e ▸ hb, fun hb => ⟨a, hb, rfl⟩⟩
  rw [← e1]
  unfold valV
  rw [List.mem_map, ne_eq, Option.map_eq_none_iff, List.find?_eq_none]
  constructor
  · intro z
    rcases Classical.em (∃ p, p ∈ kvs ∧ p.1 = (Sum.inl a : Key)) with y | y
    · exact y
    · exact absurd (fun p hp q => y ⟨p, hp, of_decide_eq_true q⟩) z
  · rintro ⟨p, hp, e⟩ z
    exact z p hp (decide_eq_true e)
theorem Keys.put {kvs : List (Key × V)} {o : List Int} (h : Keys kvs o) {a : Int} (ha : a ∉ o) (v : V) : Keys (putK kvs (Sum.inl a : Key) v) (o ++ [a]) := by
  have : valV kvs (Sum.inl a : Key) = none := Classical.byContradiction fun z => ha ((h.val a).mp z)
  rw [putK_new v this]
  unfold Keys
  rw [List.map_append, List.map_append, show kvs.map (·.1) = _ from h] <;> rfl
def spWays (K : Frag) : Sp := fun vs H Q _ => ∃ (t : Addr) (tb : List (List Int)) (wd : Nat) (n st : Int), vs = [.ref t, .int st] ∧ TTab K H t tb ∧ TabOk tb wd n ∧ n ≤ 1000 ∧ wd ≤ 1000 ∧ 0 ≤ st ∧ st < n ∧
  ∀ D kvs H', H D = none → Same H H' → H' D = some (.dK kvs) → Keys kvs (wyA tb st tb.length) → Few n (wyA tb st tb.length) → Q (.ref D) H'
def doneOf (σ : L2.St) : Nat := match σ[4]? with
  | some (some (V.int j)) => j.toNat
  | _ => 0
abbrev NWy : List Str := ["table", "start", "found", "queue", "done", "row", "column", "after"]
section
variable {P : Program} {w : World} {K : PySem.W.Frag} {mg : Str → Option Value} {base : Heap}
theorem scWy : FnScope NWy ["table", "start"] (defScope sWays) := ⟨rfl, rfl, rfl, by decide +kernel, rfl, by decide +kernel, by decide +kernel⟩
theorem ok_ways {f : Addr} {fd : FuncData} (F : Fun K "ways" "ways" sWays f fd) (T : TN mg) (en : mg "enumerate" = none) : FnOk P w K mg base CX0 1 f fd ["table", "start"] (spWays K) := by
  refine F.ok scWy (fun vs H Q E h => ?_) (fun cdv A outer s H vs Q E hr h => ?_)
  · obtain ⟨t, tb, wd, n, st, rfl, _⟩ := h
    rfl
  · obtain ⟨t, tb, wd, n, st, rfl, hT, ok, hn, hw, s0, s1, q⟩ := h
    have hub := hu_of hr
    refine ⟨_, pss_cons (ps_set (i := 2) scWy.nd rfl (Or.inl rfl) (pe_disp1 (Nat.lt_of_succ_lt hub) (pv 1) pe_non))
      (pss_cons (ps_set (i := 3) scWy.nd rfl (Or.inl rfl) (pe_lst (pa_cons (pv 1) pa_nil)))
      (pss_cons (ps_set (i := 4) scWy.nd rfl (Or.inl rfl) pe_int)
      (pss_cons (ps_while PassesOwn.never (pt_cmpR op_lt (pv 4) (pe_callB call_len_seq (by rfl) T.len PySem.boot_len (pa_cons (pv 3) pa_nil)) (nomark _))
        (pss_cons (ps_set (i := 5) scWy.nd rfl (Or.inl rfl) (pe_ix ix_list (pv 3) (pv 4) (fun _ _ => rfl)))
        (pss_cons (ps_aug (i := 4) scWy.nd rfl (Or.inl rfl) pe_int ip_add)
        (pss_one (ps_for PassesOwn.never rfl (ENU.pi_enT rfl en (pa_cons (pe_ix ix_tup (pv 0) (pv 5) (fun _ _ => rfl)) pa_nil)) (pg_tup (by rfl) (pgs_cons (pg_name (i := 6) scWy.nd rfl (Or.inl rfl)) (pgs_cons (pg_name (i := 7) scWy.nd rfl (Or.inl rfl)) pgs_nil)))
          (pss_one (ps_if (pt_cmp (pc_dnotin hub (pv 7) (pv 2)))
            (pss_cons (ps_dput hub (pv 2) (pv 7) (pe_tup (pa_cons (pv 5) (pa_cons (pv 6) pa_nil))) rfl)
            (pss_one (ps_expr (pe_bm PySem.F.plainAttrs_list PySem.F.slot_list_append PySem.F.type_list_append mt_append (pv 3) (pa_cons (pv 7) pa_nil))))) pss_nil)))))))
      (pss_one (ps_ret (pv 2)))))), ?_⟩
    refine ⟨.dK [], .inl rfl, fun D hD => ⟨_, rfl, _, DPut.k (kvs := []) (k := (Sum.inl st : Key)) upd_same (by show 0 < sizeLine; decide), ?_⟩⟩
    rw [upd_upd]
    refine ⟨_, rfl, by show 1 ≤ sizeLine; decide, fun M hM => ?_⟩
    have nD : H D = none := hD
    have nDM : D ≠ M := fun z => by rw [← z, upd_same] at hM; cases hM
    have nM : H M = none := (same_upd hD).free hM
    have hrow : ∀ r : Int, 0 ≤ r → r < n → (tb.getD r.toNat []) ∈ tb := fun r h0 h1 => by
      have hl := ok.len
      have : r.toNat < tb.length := by omega
      rw [List.getD_eq_getElem?_getD, List.getElem?_eq_getElem this]
      exact List.getElem_mem this
    refine while_by (fun σ H2 => ∃ (j : Nat) (kvs : List (Key × V)) (x5 x6 x7 : Option V), Same H H2 ∧ H2 D = some (.dK kvs) ∧ Keys kvs (wyA tb st j) ∧ H2 M = some (.lst ((wyA tb st j).map V.int)) ∧ Few n (wyA tb st j) ∧ j ≤ (wyA tb st j).length ∧
      σ = [some (.ref t), some (.int st), some (.ref D), some (.ref M), some (.int (j : Nat)), x5, x6, x7]) (fun σ _ => n.toNat - doneOf σ) ?_ ?_ ?_
    · refine ⟨0, _, none, none, none, same_two (same_upd hD) hM, same_upd hM _ _ upd_same, rfl, ?_, ⟨List.nodup_cons.mpr ⟨List.not_mem_nil, List.nodup_nil⟩, fun a ha => ?_⟩, Nat.zero_le _, rfl⟩
      · exact upd_same
      · rw [List.mem_singleton.mp ha]
        exact ⟨s0, s1⟩
    · rintro σ H2 ⟨j, kvs, x5, x6, x7, s2, hd, keys, hm, few, hle, rfl⟩
      have hlen : ((wyA tb st j).length : Int) ≤ n := few.len.elim id fun z => by rw [z]; show (0 : Int) ≤ n; omega
      refine ⟨_, rfl, _, rfl, M, _, rfl, .inl (SqL.of hm), _, _, rfl, rfl, _, rfl, ?_⟩
      rw [List.length_map]
      refine ite2 (fun hlt => ?_) (fun hge => ?_)
      · have hlt : ((j : Nat) : Int) < (((wyA tb st j).length : Nat) : Int) := of_decide_eq_true hlt
        have hlt : j < (wyA tb st j).length := by omega
        obtain ⟨r, hr2⟩ : ∃ r, (wyA tb st j)[j]? = some r := ⟨_, List.getElem?_eq_getElem hlt⟩
        have hrin := few.in_ r (List.mem_of_getElem? hr2)
        have hstep := wyA_at hr2
        obtain ⟨ts, h1, h2⟩ := hT.same s2
        have hrl : r.toNat < tb.length := by have := ok.len; omega
        obtain ⟨a, e1, e2⟩ := h2.get hrl
        have at1 : atI (ts.map V.ref) r = some (.ref a) := by
          have e3 : r = ((r.toNat : Nat) : Int) := by omega
          rw [e3]
          exact atI_nat (by rw [List.getElem?_map, e1] <;> rfl)
        obtain ⟨rl, rb⟩ := ok.row _ (hrow r hrin.1 hrin.2)
        generalize tb.getD r.toNat [] = row at hstep e2 rl rb
        generalize hks : wyA tb st j = o at hr2 hstep hlen hlt hle hm keys few
        refine ⟨_, rfl, _, rfl, M, _, _, _, rfl, rfl, SqL.of hm, atI_nat (by rw [List.getElem?_map, hr2] <;> rfl), ?_⟩
        refine ⟨_, rfl, _, _, rfl, rfl, ?_⟩
        refine ⟨_, rfl, _, rfl, t, _, _, _, rfl, rfl, h1, at1, a, _, rfl, SqT.of e2, ?_⟩
        have naD : a ≠ D := fun z => by rw [z, hd] at e2; cases e2
        have naM : a ≠ M := fun z => by rw [z, hm] at e2; cases e2
        refine for_it ENU.walk_enT (fun i σ H3 => ∃ (kvs : List (Key × V)) (x6 x7 : Option V), Same H H3 ∧ H3 a = some (oTup row) ∧ H3 D = some (.dK kvs) ∧ Keys kvs ((row.take i).foldl addN o) ∧ H3 M = some (.lst (((row.take i).foldl addN o).map V.int)) ∧ Few n ((row.take i).foldl addN o) ∧
          σ = [some (.ref t), some (.int st), some (.ref D), some (.ref M), some (.int ((j : Int) + 1)), some (.int r), x6, x7]) ?_ (fun i σ H3 _ ⟨_, _, _, _, h, _⟩ => SqT.of h) ?_ ?_
        · exact ⟨kvs, x6, x7, s2, e2, hd, keys, hm, few, rfl⟩
        · rintro i x σ H3 H4 hi ⟨kvs, x6, x7, s3, ha3, hd3, keys3, hm3, few3, rfl⟩ ⟨T2, y, rfl, hT2, rfl, hy⟩
          rw [List.getElem?_map] at hy
          cases hc : row[i]? with
          | none => rw [hc] at hy; cases hy
          | some y2 =>
            rw [hc] at hy
            obtain rfl : V.int y2 = y := Option.some.inj hy
            have yin := rb y2 (List.mem_of_getElem? hc)
            have tk : (row.take (i + 1)).foldl addN o = addN ((row.take i).foldl addN o) y2 := by
              rw [List.take_add_one, hc, List.foldl_append] <;> rfl
            rw [tk]
            generalize (row.take i).foldl addN o = o3 at keys3 hm3 few3 ⊢
            have hlen3 : (o3.length : Int) ≤ n := few3.len.elim id fun z => by rw [z]; show (0 : Int) ≤ n; omega
            have s4 : Same H3 (upd H3 T2 (.tup [.int (i : Nat), .int y2])) := same_upd hT2
            have ha4 := s4 _ _ ha3
            have hd4 := s4 _ _ hd3
            have hm4 := s4 _ _ hm3
            have tu : (upd H3 T2 (.tup [.int (i : Nat), .int y2])) T2 = some (.tup [.int (i : Nat), .int y2]) := upd_same
            have s04 := s3.trans s4
            generalize upd H3 T2 (.tup [.int (i : Nat), .int y2]) = H4 at ha4 hd4 hm4 tu s04 ⊢
            refine ⟨T2, _, rfl, SqT.of tu, rfl, _, _, rfl, _, _, rfl, rfl, ?_⟩
            refine ⟨_, rfl, _, rfl, D, _, rfl, DGet.k (k := (Sum.inl y2 : Key)) hd4, _, rfl, ?_⟩
            by_cases hin : y2 ∈ o3
            · obtain ⟨v, hv⟩ := Option.ne_none_iff_exists'.mp ((keys3.val y2).mpr hin)
              rw [hv]
              refine iteF ?_
              refine ⟨kvs, _, _, s04, ha4, hd4, ?_, ?_, ?_, rfl⟩
              · unfold addN
                rw [if_pos hin]
                exact keys3
              · unfold addN
                rw [if_pos hin]
                exact hm4
              · unfold addN
                rw [if_pos hin]
                exact few3
            · have hv : valV kvs (Sum.inl y2 : Key) = none := Classical.byContradiction fun z => hin ((keys3.val y2).mp z)
              rw [hv]
              refine iteT ?_
              refine ⟨_, rfl, _, rfl, by show 2 ≤ sizeLine; decide, fun T3 hT3 => ?_⟩
              have s5 : Same H4 (upd H4 T3 (.tup [.int r, .int (i : Nat)])) := same_upd hT3
              refine ⟨_, rfl, _, rfl, D, _, rfl, DPut.k (k := (Sum.inl y2 : Key)) (s5 _ _ hd4) (by rw [keys3.len, sizeLine_eq]; omega), ?_⟩
              have hd5 := s5 _ _ hd4
              have hm5 := s5 _ _ hm4
              have ha5 := s5 _ _ ha4
              have s05 := s04.trans s5
              generalize upd H4 T3 (.tup [.int r, .int (i : Nat)]) = H5 at hd5 hm5 ha5 s05 ⊢
              have hm6 : upd H5 D (.dK (putK kvs (Sum.inl y2) (.ref T3))) M = some (.lst (o3.map V.int)) := by
                rw [upd_ne (Ne.symm nDM)]
                exact hm5
              refine ⟨_, rfl, .inl ⟨rfl, _, SqL.of hm6⟩, _, rfl, M, _, _, rfl, rfl, hm6, by rw [List.length_map, sizeLine_eq]; omega, ?_⟩
              refine ⟨putK kvs (Sum.inl y2) (.ref T3), _, _, same_at (same_at s05 nD) nM, ?_, ?_, ?_, ?_, few3.add yin, rfl⟩
              · rw [upd_ne naM, upd_ne naD]
                exact ha5
              · rw [upd_ne nDM, upd_same]
              · unfold addN
                rw [if_neg hin]
                exact keys3.put hin _
              · rw [upd_same]
                unfold addN
                rw [if_neg hin, List.map_append] <;> rfl
        · rintro σ H3 ⟨kvs, x6, x7, s3, ha3, hd3, keys3, hm3, few3, rfl⟩
          rw [List.length_map, List.take_length, ← hstep] at keys3 hm3 few3
          refine ⟨⟨j + 1, kvs, _, _, _, s3, hd3, keys3, hm3, few3, ?_, rfl⟩, ?_⟩
          · have : o.length ≤ (wyA tb st (j + 1)).length := by rw [hstep]; exact (addF_grows row o).length_le
            omega
          · show n.toNat - ((j : Int) + 1).toNat < n.toNat - ((j : Int)).toNat
            omega
      · have hge : ¬ (((j : Nat) : Int) < (((wyA tb st j).length : Nat) : Int)) := fun z => hge (decide_eq_true z)
        have e1 : wyA tb st tb.length = wyA tb st j := by
          have h4 := wyA_stop (tb := tb) (st := st) (j := j) (by omega) (tb.length - j)
          have := ok.len
          rw [show j + (tb.length - j) = tb.length by omega] at h4
          exact h4
        refine ⟨_, rfl, q D kvs H2 hD s2 hd ?_ ?_⟩
        · rw [e1]
          exact keys
        · rw [e1]
          exact few
    · exact fun σ H Q Q' hm ⟨v, hv, w', hw, M2, ys2, e2, hs2, i, j, a, b, k, hk, q⟩ => ⟨v, hv, w', hw, M2, ys2, e2, hs2, i, j, a, b, k, hk, hm _ _ q⟩
abbrev sTrim : Stmt := top 13
abbrev scTI : Scope := { kind := .function, names := [(".0", .local), ("row", .local), ("tuple", .globalImplicit), ("numbers", .cell), ("table", .cell)], isGenerator := false, isCoroutine := false }
abbrev NTr : List Str := ["table", "start", "order", "numbers", "row", "at", "after"]
/-- all rows are met, each as its number tells -/
structure LeanT (tb : List (List Int)) : Prop where
  all : wyA tb 0 tb.length = rngI tb.length
def spTrim (K : Frag) : Sp := fun vs H Q _ => ∃ (t : Addr) (tb : List (List Int)) (wd : Nat) (n : Int), vs = [.ref t, .int 0] ∧ TTab K H t tb ∧ TabOk tb wd n ∧ 1 ≤ n ∧ n ≤ 1000 ∧ wd ≤ 1000 ∧ LeanT tb ∧
  ∀ p u v H', H p = none → Same H H' → H' p = some (.tup [u, .ref v]) → RowsAt H' v tb → Q (.ref p) H'
theorem scTr : FnScope NTr ["table", "start"] (defScope sTrim) := ⟨rfl, rfl, rfl, by decide +kernel, rfl, by decide +kernel, by decide +kernel⟩
theorem ok_trim {f fW : Addr} {fd dW : FuncData} (F : Fun K "trimmed" "trimmed" sTrim f fd) (T : TN mg) (en : mg "enumerate" = none) (AW : Fn K mg "ways" sWays ["table", "start"] fW dW) (GW : FnOk P w K mg base CX0 1 fW dW ["table", "start"] (spWays K)) : FnOk P w K mg base CX0 2 f fd ["table", "start"] (spTrim K) := by
  refine F.ok scTr (fun vs H Q E h => ?_) (fun cdv A outer s H vs Q E hr h => ?_)
  · obtain ⟨t, tb, wd, n, rfl, _⟩ := h
    rfl
  · obtain ⟨t, tb, wd, n, rfl, hT, ok, h1n, hn, hw, lean, q⟩ := h
    have hub := hu_of hr
    refine ⟨_, pss_cons (ps_set (i := 2) scTr.nd rfl (Or.inl rfl) (pe_callTy (call_listD rfl) (by rfl) T.list (by decide +kernel) (pa_cons (pe_call GW hr rfl AW.g AW.F.kp AW.b .nil pass0 (pa_cons (pv 0) (pa_cons (pv 1) pa_nil))) pa_nil)))
      (pss_cons (ps_set (i := 3) scTr.nd rfl (Or.inr rfl) (pe_dc (own := [("at", 5), ("row", 4)]) (g := gTup K 2 (gCons (gName 5) (gCons (gName 4) gNil))) (tt := tYes) (tk := tVar 4) (tv := tVar 5) rfl scTr.nd (pi_enum rfl en (pa_cons (pv 2) pa_nil))
        (blkOk_by (own := [("at", 5), ("row", 4)]) (N := NTr) (sc := defScope sTrim) (by decide +kernel)) (fun _ _ _ _ _ => pg_tup (by rfl) (pgs_cons (pg_name (i := 5) scTr.nd rfl (Or.inl rfl)) (pgs_cons (pg_name (i := 4) scTr.nd rfl (Or.inl rfl)) pgs_nil))) (fun _ _ _ _ _ => pts_nil)
        (fun _ _ _ _ _ => pv 4) (fun _ _ _ _ _ => pv 5)))
      (pss_one (ps_ret (pe_tup (pa_cons (pv 2) (pa_cons (pe_callTy call_tuple_of (by rfl) T.tuple (by decide +kernel) (pa_cons (pe_lc (own := [("row", 4)]) (g := gName 4) (tt := tYes)
        (te := tCB (fun xs H Q => ∃ p ys, xs = [V.ref p] ∧ ((SqL K H p ys ∧ ∀ l, H l = none → Q (V.ref l) (upd H l (.tup ys))) ∨ (SqT K H p ys ∧ Q (V.ref p) H))) (tCons (tLc (iTup K (tOp (rIxT K) (tVar 0) (tVar 4))) (gName 6) tYes (tDGet (tVar 3) (tVar 6)) [6]) tNil)) rfl scTr.nd (pi_list (pv 2))
        (blkOk_by (own := [("row", 4)]) (N := NTr) (sc := defScope sTrim) (by decide +kernel)) (fun _ _ _ _ _ => pg_name (i := 4) scTr.nd rfl (Or.inl rfl)) (fun _ _ _ _ _ => pts_nil)
        (fun _ _ _ _ _ => pe_callTy call_tuple_of (by rfl) T.tuple (by decide +kernel) (pa_cons (pe_lc (own := [("after", 6)]) (g := gName 6) (tt := tYes) (te := tDGet (tVar 3) (tVar 6)) rfl scTr.nd (pi_tup (pe_ix ix_tup (pv 0) (pv 4) (fun _ _ => rfl)))
          (blkOk_by (own := [("after", 6)]) (N := NTr) (sc := scTI) (by decide +kernel)) (fun _ _ _ _ _ => pg_name (i := 6) scTr.nd rfl (Or.inl rfl)) (fun _ _ _ _ _ => pts_nil) (fun _ _ _ _ _ => pe_dget hub (pv 3) (pv 6) (fun _ _ => rfl))) pa_nil))) pa_nil)) pa_nil)))))), ?_⟩
    refine ⟨_, rfl, _, rfl, t, tb, wd, n, 0, rfl, hT, ok, hn, hw, Int.le_refl _, by omega, fun D kvs H1 nD s1 hd keys few => ?_⟩
    refine ⟨D, kvs, rfl, .inl hd, fun p hp => ?_⟩
    have e1 : (kvs.map fun kv => kV kv.1) = (rngI tb.length).map V.int := by
      have : (kvs.map fun kv => kV kv.1) = (kvs.map (·.1)).map kV := by rw [List.map_map] <;> rfl
      rw [this, show kvs.map (·.1) = _ from keys, lean.all, List.map_map] <;> rfl
    rw [e1]
    have s2 : Same H (upd H1 p (.lst ((rngI tb.length).map V.int))) := s1.trans (same_upd hp)
    have hp2 : (upd H1 p (.lst ((rngI tb.length).map V.int))) p = some (.lst ((rngI tb.length).map V.int)) := upd_same
    clear hd hp
    generalize upd H1 p (.lst ((rngI tb.length).map V.int)) = H2 at s2 hp2 ⊢
    have hl := ok.len
    have rl : ((rngI tb.length).map V.int).length = tb.length := by rw [List.length_map, List.length_map, List.length_range]
    have rat : ∀ i < tb.length, ((rngI tb.length).map V.int)[i]? = some (.int ((i : Nat) : Int)) := fun i hi => by
      rw [List.getElem?_map, List.getElem?_map, List.getElem?_range hi] <;> rfl
    refine ⟨_, rfl, p, _, rfl, SqL.of hp2, fun D2 hD2 => ?_⟩
    refine dc_it walk_enum (fun i H3 => Same H2 H3 ∧ ∃ kvs : List (Key × V), H3 D2 = some (.dK kvs) ∧ kvs.length ≤ i ∧ ∀ j < i, valV kvs (Sum.inl ((j : Nat) : Int) : Key) = some (.int ((j : Nat) : Int))) ⟨same_upd hD2, [], upd_same, Nat.le_refl _, fun j hj => absurd hj (Nat.not_lt_zero _)⟩ (fun i H3 _ ⟨s3, _⟩ => SqL.of (s3 _ _ hp2)) ?_ ?_
    · rintro i x H3 H4 hi ⟨s3, kvs, hd, hlk, hv⟩ ⟨T2, y, z, rfl, hT2, rfl, hy, hz⟩
      rw [rl] at hi
      obtain rfl : V.int ((i : Nat) : Int) = y := Option.some.inj hy
      obtain rfl : V.int ((i : Nat) : Int) = z := Option.some.inj ((rat i hi).symm.trans hz)
      have s4 : Same H3 (upd H3 T2 (.tup [.int (i : Nat), .int (i : Nat)])) := same_upd hT2
      refine ⟨T2, _, rfl, SqT.of upd_same, rfl, _, _, rfl, _, _, rfl, rfl, rfl, _, rfl, _, rfl, kvs, Sum.inl ((i : Nat) : Int), rfl, s4 _ _ hd, by rw [sizeLine_eq]; omega, same_at (s3.trans s4) hD2, _, upd_same, ?_, fun j hj => ?_⟩
      · have := length_putK kvs (Sum.inl ((i : Nat) : Int) : Key) (.int (i : Nat))
        omega
      · rw [valV_put]
        by_cases e : j = i
        · rw [if_pos (by rw [e]), e]
        · rw [if_neg fun z => e (by have := Sum.inl.inj z; omega)]
          exact hv j (by omega)
    · rintro H3 ⟨s3, kvs3, hd3, _, hv3⟩
      rw [rl] at hv3
      refine ⟨_, rfl, _, rfl, p, rfl, ⟨_, SqL.of (s3 _ _ hp2)⟩, fun D4 hD4 => ?_⟩
      refine lc_it walk_list (fun i H5 => Same H3 H5 ∧ ∃ ts : List Addr, H5 D4 = some (.lst (ts.map V.ref)) ∧ Objs oTup H5 ts (tb.take i) ∧ ts.length = i) ⟨same_upd hD4, [], upd_same, trivial, rfl⟩ (fun i H5 _ ⟨s5, _⟩ => SqL.of (s5 _ _ (s3 _ _ hp2))) ?_ ?_
      · rintro i x H5 H6 hi ⟨s5, ts, hd5, ho5, hts⟩ ⟨rfl, hx⟩
        rw [rl] at hi
        obtain rfl : V.int ((i : Nat) : Int) = x := Option.some.inj ((rat i hi).symm.trans hx)
        have s25 := (s2.trans s3).trans s5
        obtain ⟨us, h1, h2⟩ := hT.same s25
        obtain ⟨a, e1, e2⟩ := h2.get hi
        have at1 : atI (us.map V.ref) ((i : Nat) : Int) = some (.ref a) := atI_nat (by rw [List.getElem?_map, e1] <;> rfl)
        have erow : tb.getD i [] = tb[i] := by rw [List.getD_eq_getElem?_getD, List.getElem?_eq_getElem hi] <;> rfl
        rw [erow] at e2
        obtain ⟨rw1, rw2⟩ := ok.row _ (List.getElem_mem hi)
        refine ⟨rfl, _, rfl, _, rfl, t, _, _, _, rfl, rfl, h1, at1, a, rfl, ⟨_, SqT.of e2⟩, fun D6 hD6 => ?_⟩
        refine lc_it walk_tup (fun k H7 => Same H6 H7 ∧ H7 D6 = some (.lst ((tb[i].take k).map V.int))) ⟨same_upd hD6, upd_same⟩ (fun k H7 _ ⟨s7, _⟩ => SqT.of (s7 _ _ e2)) ?_ ?_
        · rintro k y H7 H8 hk ⟨s7, hd7⟩ ⟨rfl, hy⟩
          rw [List.length_map] at hk
          have hy2 : y = .int tb[i][k] := by
            rw [List.getElem?_map, List.getElem?_eq_getElem hk] at hy
            exact (Option.some.inj hy).symm
          subst hy2
          have hin := rw2 _ (List.getElem_mem hk)
          have hval : valV kvs3 (Sum.inl tb[i][k] : Key) = some (.int tb[i][k]) := by
            have := hv3 tb[i][k].toNat (by omega)
            rw [show ((tb[i][k].toNat : Nat) : Int) = tb[i][k] by omega] at this
            exact this
          refine ⟨rfl, _, rfl, _, rfl, D2, _, rfl, hval ▸ DGet.k (k := (Sum.inl tb[i][k] : Key)) (s7 _ _ (s5 _ _ hd3)), _, hd7, ?_, same_at s7 hD6, ?_⟩
          · rw [List.length_map, List.length_take, sizeLine_eq]
            omega
          · rw [upd_same, List.take_add_one, List.getElem?_eq_getElem hk, List.map_append] <;> rfl
        · rintro H7 ⟨s7, hd7⟩
          rw [List.length_map, List.take_length] at hd7
          refine ⟨D6, _, rfl, .inl ⟨SqL.of hd7, fun r hr => ?_⟩⟩
          have s8 := same_upd (o := .tup (tb[i].map V.int)) hr
          have s68 := s7.trans s8
          refine ⟨_, s68 _ _ hd5, by rw [List.length_map, hts, sizeLine_eq]; omega, same_at (s5.trans s68) hD4, ts ++ [r], ?_, ?_, ?_⟩
          · rw [upd_same, List.map_append] <;> rfl
          · have kt := tup_upd (o := .lst (ts.map V.ref ++ [.ref r])) (s68 _ _ hd5) (fun _ z => nomatch z)
            have hr1 : (upd H7 r (.tup (tb[i].map V.int))) r = some (oTup tb[i]) := upd_same
            rw [List.take_add_one, List.getElem?_eq_getElem hi]
            exact objs_tup ((objs_tup ho5 (Same.tup' s68)).snoc hr1) kt
          · rw [List.length_append, hts] <;> rfl
      · rintro H5 ⟨s5, ts, hd5, ho5, hts⟩
        rw [rl, List.take_length] at ho5
        refine ⟨D4, _, rfl, .inl ⟨SqL.of hd5, fun v hv => ?_⟩⟩
        have s6 := same_upd (o := .tup (ts.map V.ref)) hv
        refine ⟨by show 2 ≤ sizeLine; decide, fun u hu => ?_⟩
        have s7 := same_upd (o := .tup [V.ref p, .ref v]) hu
        have s57 := s6.trans s7
        have sall := ((s2.trans s3).trans s5).trans s57
        refine q u _ v _ (((s2.trans s3).trans (s5.trans s6)).free hu) sall upd_same ⟨ts, s7 _ _ upd_same, objs_tup ho5 (Same.tup' s57)⟩
end
end WK

set_option Elab.async false
set_option linter.all false
set_option maxRecDepth 100000
set_option maxHeartbeats 8000000
/-! Steps that are lambdas with one captured number. -/
namespace WK
open PySem L2 PyProof.Rows LCX K1 FV DP LamX NdefX
open TX (sg sigs)
open PySem.W (Frag kitOne)
/-- the lambda with which a maker of boxes ends -/
def lamOf (s : Stmt) : Expr := match (defBody s).getLast? with
  | some (.Return (some (.Call _ [_, .Call _ [_, _, l] _ _] _ _)) _) => l
  | _ => .Constant .none 0 ⟨0, 0, 0, 0⟩
def lamSc : Expr → Scope
  | .Lambda _ _ s _ => s
  | _ => defScope (.Pass ⟨0, 0, 0, 0⟩)
def lamPar : Expr → Arguments
  | .Lambda a _ _ _ => a
  | _ => defArgs (.Pass ⟨0, 0, 0, 0⟩)
def lamBody : Expr → Expr
  | .Lambda _ b _ _ => b
  | e => e
abbrev sWindow : Stmt := inClass (top 43) 1
abbrev sHeads : Stmt := inClass (top 43) 2
def lastF (n : Nat) (u : W) (c : Nat) : W := (u ++ [c]).drop ((u ++ [c]).length - n)
def headF (n : Nat) (u : W) (c : Nat) : W := (u ++ [c]).take n
theorem clo_only {cells : List (Str × Addr)} {y : Str} {c : Addr} : ∀ {names : List (Str × NameKind)} {acc : List (Str × Addr)}, (cloFrom cells names acc).lookup y = some c → (y, NameKind.free) ∈ names ∨ acc.lookup y = some c
  | [], _, h => .inr h
  | (n, k) :: r, acc, h => by
    unfold cloFrom at h
    by_cases hk : (k == NameKind.free) = true
    · rw [if_pos hk] at h
      rcases clo_only h with z | z
      · exact .inl (.tail _ z)
      · rw [List.lookup_cons] at z
        by_cases hy : (y == n) = true
        · have e1 : y = n := beq_iff_eq.mp hy
          have e2 : k = .free := by cases k <;> first | rfl | cases hk
          rw [e1, e2]
          exact .inl (.head _)
        · rw [show (y == n) = false from Bool.eq_false_iff.mpr hy] at z
          exact .inr z
    · rw [if_neg hk] at h
      rcases clo_only h with z | z
      · exact .inl (.tail _ z)
      · exact .inr z
/-- what a call of a text's step asks and gives -/
def spTxtL (g : Nat → W → Nat → W) (ws : List (Option V)) : Sp := fun vs H Q _ => ∃ (u : W) (c n : Nat), ws = [some (.int (n : Int))] ∧ vs = [.str (tx u), .str (sg c)] ∧ Low (u ++ [c]) ∧ u.length ≤ 900 ∧ n ≤ 4 ∧ Q (.str (tx (g n u c))) H
section
variable {P : Program} {w : World} {K : PySem.W.Frag} {mg : Str → Option Value} {base : Heap} {fl : Addr} {dl : FuncData}
theorem scLW : NScope ["seen", "letter", "size"] ["seen", "letter"] ["size"] (lamSc (lamOf sWindow)) := nscope_by (by decide +kernel)
theorem scLH : NScope ["seen", "letter", "size"] ["seen", "letter"] ["size"] (lamSc (lamOf sHeads)) := nscope_by (by decide +kernel)
theorem lok_win {f : Addr} {F : NF} (hs : F.scope = lamSc (lamOf sWindow)) (hp : F.params = lamPar (lamOf sWindow)) (AL : Fn K mg "last_letters" sLast ["word", "number"] fl dl) (GL : FnOk P w K mg base CX0 4 fl dl ["word", "number"] spLast) :
    LOk P w K mg base CX0 5 f F (lamBody (lamOf sWindow)) ["size"] (spTxtL lastF) := by
  obtain ⟨nm, qual, params, body, scope, cl, c⟩ := F
  dsimp only at hs hp
  subst hs
  subst hp
  refine lok_of (N := ["seen", "letter", "size"]) (ps := ["seen", "letter"]) scLW (fun pm cv ctv us hl => ?_) (fun ws vs H Q E h => ?_) (fun A outer s H vs ws Q E hr hw h => ?_)
  · obtain ⟨a, b, rfl⟩ : ∃ a b, us = [a, b] := by
      match us, hl with
      | [a, b], _ => exact ⟨a, b, rfl⟩
    rfl
  · obtain ⟨u, c, n, _, rfl, _⟩ := h
    rfl
  · obtain ⟨u, c, n, rfl, rfl, hu, hl, hn, q⟩ := h
    refine ⟨_, pe_call GL hr rfl AL.g AL.F.kp AL.b .nil pass0 (pa_cons (pe_op op_add_str (pv 0) (pv 1)) (pa_cons (pv 2) pa_nil)), ?_⟩
    refine ⟨_, rfl, _, rfl, _, _, rfl, rfl, ?_, _, rfl, u ++ [c], (n : Int), ?_, hu, ?_, by omega, by omega, q⟩
    · rw [tx_len, sizeLine_eq]
      show u.length + 1 ≤ _
      omega
    · rw [← tx_app] <;> rfl
    · rw [List.length_append]
      show u.length + 1 ≤ _
      omega
theorem lok_head {f : Addr} {F : NF} (hs : F.scope = lamSc (lamOf sHeads)) (hp : F.params = lamPar (lamOf sHeads)) (AL : Fn K mg "first_letters" sFirst ["word", "number"] fl dl) (GL : FnOk P w K mg base CX0 4 fl dl ["word", "number"] spFirst) :
    LOk P w K mg base CX0 5 f F (lamBody (lamOf sHeads)) ["size"] (spTxtL headF) := by
  obtain ⟨nm, qual, params, body, scope, cl, c⟩ := F
  dsimp only at hs hp
  subst hs
  subst hp
  refine lok_of (N := ["seen", "letter", "size"]) (ps := ["seen", "letter"]) scLH (fun pm cv ctv us hl => ?_) (fun ws vs H Q E h => ?_) (fun A outer s H vs ws Q E hr hw h => ?_)
  · obtain ⟨a, b, rfl⟩ : ∃ a b, us = [a, b] := by
      match us, hl with
      | [a, b], _ => exact ⟨a, b, rfl⟩
    rfl
  · obtain ⟨u, c, n, _, rfl, _⟩ := h
    rfl
  · obtain ⟨u, c, n, rfl, rfl, hu, hl, hn, q⟩ := h
    refine ⟨_, pe_call GL hr rfl AL.g AL.F.kp AL.b .nil pass0 (pa_cons (pe_op op_add_str (pv 0) (pv 1)) (pa_cons (pv 2) pa_nil)), ?_⟩
    refine ⟨_, rfl, _, rfl, _, _, rfl, rfl, ?_, _, rfl, u ++ [c], (n : Int), ?_, hu, ?_, by omega, by omega, q⟩
    · rw [tx_len, sizeLine_eq]
      show u.length + 1 ≤ _
      omega
    · rw [← tx_app] <;> rfl
    · rw [List.length_append]
      show u.length + 1 ≤ _
      omega
/-- such a lambda, laid out, is a step from the empty word -/
theorem steps_txt {g : Nat → W → Nat → W} {f c : Addr} {F : NF} {b : Expr} {cs : Cs} {n B : Nat} {L : W} {H : Hp} (o : LOk P w K mg base CX0 5 f F b ["size"] (spTxtL g)) (ft : Fits F.cl ["size"] cs [.int (n : Int)]) (hc : F.c = c) (h1 : H f = some (LamO f F b)) (h2 : H c = some (CodeO c F.qual)) (l : Lay cs H)
    (hL : Let L) (hn : n ≤ 4) (hg : ∀ u c, ∀ d ∈ g n u c, d ∈ u ∨ d = c) (hgl : ∀ u c, u.length ≤ 4 → (g n u c).length ≤ 4) (hB : ∀ j, (exAll (g n) L [] j).1.length ≤ B) (hB4 : B ≤ 400) :
    Steps P w K mg base kitW 5 H L (.str "") f [] (g n) B := by
  subst hc
  refine ⟨_, _, fun u => (∀ d ∈ u, d ∈ L) ∧ u.length ≤ 4, rfl, callV_lok o cxon_0 ft, ⟨h1, h2, l⟩, fun H H' k ⟨a, b, c⟩ => ⟨k _ _ a, k _ _ b, fun p hp => k _ _ (c p hp)⟩, ⟨fun d hd => (List.not_mem_nil hd).elim, Nat.zero_le _⟩, fun u c ⟨h, h'⟩ hc => ⟨fun d hd => (hg u c d hd).elim (h d) fun z => z ▸ hc, hgl u c h'⟩, fun H v u c Q ⟨_, _, l⟩ hv hu hc q => ?_, hB, hB4⟩
  obtain rfl : v = .str (tx u) := hv
  refine ⟨u, c, n, rfl, rfl, ?_, by omega, hn, fun _ => ?_⟩
  · intro d hd
    rcases List.mem_append.mp hd with z | z
    · exact hL.low d (hu.1 d z)
    · rw [List.mem_singleton.mp z]
      exact hL.low c hc
  · rw [onn_off' l]
    exact q _ _ (Same.refl H) rfl
end
end WK

set_option Elab.async false
set_option linter.all false
set_option maxRecDepth 100000
set_option maxHeartbeats 8000000
/-! Boxes of last and of first letters. -/
namespace WK
open PySem L2 PyProof.Rows LCX K1 FV DP LamX NdefX
open TX (sg sigs)
open PySem.W (Frag kitOne)
abbrev qWin : Str := (envOfC "Box.window" (defScope sWindow) 0 0 .none).qual ++ "<lambda>"
abbrev qHead : Str := (envOfC "Box.heads" (defScope sHeads) 0 0 .none).qual ++ "<lambda>"
def spTxtBox (T : List (Addr × Str)) (C : Addr) (g : Nat → W → Nat → W) : Sp := fun vs H Q _ => ∃ (L : W) (n B : Nat), vs = [.ref C, .str (tx L), .int (n : Int)] ∧ Let L ∧ n ≤ 4 ∧ Tabs T H ∧ (∀ j, (exAll (g n) L [] j).1.length ≤ B) ∧ B ≤ 400 ∧
  ∀ o H', H o = none → Grows T H H' → BoxAt C H' o L (exAll (g n) L [] B).2 → Q (.ref o) H'
theorem Grows.refl {T : List (Addr × Str)} {H : Hp} (t : Tabs T H) : Grows T H H := ⟨ExtN.refl H, t, fun _ h => h⟩
theorem grows_same {T : List (Addr × Str)} {H H1 H2 : Hp} (a : Grows T H H1) (s : Same H1 H2) : Grows T H H2 := ⟨fun b o e n => s _ _ (a.1 b o e n), a.2.1.ext s, fun d n => a.2.2 d (s.free n)⟩
/-- what a call that was told of cells made, told without them -/
theorem same_off {cs : Cs} {H H' : Hp} (n : ∀ p ∈ cs, H p.1 = none) (s : Same (onn cs H) H') : Same H (off cs H') := fun b o e => by
  have nb : b ∉ cs.map (·.1) := fun z => by
    obtain ⟨p, hp, rfl⟩ := List.mem_map.mp z
    rw [n p hp] at e
    cases e
  rw [off_out nb]
  exact s b o (by rw [onn_out nb]; exact e)
theorem lay_same {cs : Cs} {H H' : Hp} (nd : (cs.map (·.1)).Nodup) (s : Same (onn cs H) H') : Lay cs H' := fun p hp => s _ _ (onn_lay nd p hp)
theorem madeAt_off {cs : Cs} {cD : Addr} {H : Hp} {g : Addr} {tb : List (List Int)} (l : Lay cs H) (m : MadeAt cD H g tb) : MadeAt cD (off cs H) g tb := by
  obtain ⟨dx, r, h1, ts, h2, h3⟩ := m
  exact ⟨dx, r, by rw [off_out (lay_not l h1 fun _ z => nomatch z)]; exact h1, ts, by rw [off_out (lay_not l h2 fun _ z => nomatch z)]; exact h2, h3.to fun a _ r z => by rw [off_out (lay_not l z fun _ z => nomatch z)]; exact z⟩
theorem last_in (n : Nat) (u : W) (c : Nat) : ∀ d ∈ lastF n u c, d ∈ u ∨ d = c := fun d hd => by
  have := List.mem_of_mem_drop hd
  rcases List.mem_append.mp this with z | z
  · exact .inl z
  · exact .inr (List.mem_singleton.mp z)
theorem head_in (n : Nat) (u : W) (c : Nat) : ∀ d ∈ headF n u c, d ∈ u ∨ d = c := fun d hd => by
  have := List.mem_of_mem_take hd
  rcases List.mem_append.mp this with z | z
  · exact .inl z
  · exact .inr (List.mem_singleton.mp z)
theorem last_len {n : Nat} (hn : n ≤ 4) (u : W) (c : Nat) : (lastF n u c).length ≤ 4 := by
  unfold lastF
  rw [List.length_drop]
  omega
theorem head_len {n : Nat} (hn : n ≤ 4) (u : W) (c : Nat) : (headF n u c).length ≤ 4 := by
  unfold headF
  rw [List.length_take]
  omega
section
variable {P : Program} {w : World} {K : PySem.W.Frag} {mg : Str → Option Value} {base : Heap} {C cD fNL fNN fG fB fl : Addr} {dNL dNN dG dB dl : FuncData} {T : List (Addr × Str)}
theorem capW : ∀ y ∈ (lamSc (lamOf sWindow)).names, y.2 = .free → (defScope sWindow).names.lookup y.1 = some .cell ∨ (defScope sWindow).names.lookup y.1 = some .free := by decide +kernel
theorem scWi : FnScope ["cls", "letters", "size"] ["cls", "letters", "size"] (defScope sWindow) := ⟨rfl, rfl, rfl, by decide +kernel, rfl, by decide +kernel, by decide +kernel⟩
theorem ok_window {f cW PW : Addr} {oc kV dc pm ct dV : Value} {an od : Option Addr} {sl : Array (Option Value)} (lk : K.lookup f = some ⟨oc, od, .func (PySem.W.fnOf "window" "Box.window" (defArgs sWindow) (defBody sWindow) (defScope sWindow) dV kV dc pm an (.ref cW) ct), sl⟩) (hcd : PySem.W.codeIn K (.ref cW) "Box.window" = true)
    (TB : TabB base mg cW PW) (mem : (PW, qWin) ∈ T) (uniq : ∀ p ∈ T, p.1 = PW → p.2 = qWin) (M : TBx K mg C cD) (m4 : ∃ t, mg "_MAX_SIZE" = some (.int 4 t))
    (AL : Fn K mg "need_letters" sNeedLet ["letters"] fNL dNL) (GL : FnOk P w K mg base CX0 3 fNL dNL ["letters"] spNeedLet) (AN : Fn K mg "need_number" sNeedNum ["value", "least", "most"] fNN dNN) (GN : FnOk P w K mg base CX0 3 fNN dNN ["value", "least", "most"] spNeedNum)
    (AG : Fn K mg "_grown" sGrown ["letters", "start", "step"] fG dG) (GG : FnOk P w K mg base CX0 8 fG dG ["letters", "start", "step"] (spGrown P w K mg base kitW 5 cD)) (MI : Mk K C fB) (GI : FnOk P w K mg base CX0 3 fB dB ["self", "letters", "table"] (spBoxI C cD)) (bI : Binds K dB ["self", "letters", "table"] [])
    (Al : Fn K mg "last_letters" sLast ["word", "number"] fl dl) (Gl : FnOk P w K mg base CX0 4 fl dl ["word", "number"] spLast) :
    FnOk P w K mg base CX0 9 f (PySem.W.fnOf "window" "Box.window" (defArgs sWindow) (defBody sWindow) (defScope sWindow) dV kV dc pm an (.ref cW) ct) ["cls", "letters", "size"] (spTxtBox T C lastF) := by
  obtain ⟨tm, most⟩ := m4
  refine fn_of lk hcd scWi (fun vs H Q E h => ?_) (fun A outer s H vs Q E hr h => ?_)
  · obtain ⟨L, n, B, rfl, _⟩ := h
    rfl
  · obtain ⟨L, n, B, rfl, hL, hn, tabs, hB, hB4, q⟩ := h
    have hr3 : Room 3 _ := hr.mono (by decide)
    have hr4 : Room 4 _ := hr.mono (by decide)
    refine ⟨_, pss_cons (ps_expr (pe_call GL hr3 rfl AL.g AL.F.kp AL.b .nil pass0 (pa_cons (pv 1) pa_nil)))
      (pss_cons (ps_expr (pe_call GN hr3 rfl AN.g AN.F.kp AN.b .nil pass0 (pa_cons (pv 2) (pa_cons pe_int (pa_cons (pe_glob rfl most (show RelV (.int 4) (.int 4 tm) from ⟨tm, rfl⟩)) pa_nil)))))
      (pss_one (ps_ret (pe_makeV (i := 0) (E := E0) MI GI hr4 rfl (.inl rfl) bI .nil pass0 (pa_cons (pv 1) (pa_cons
        (pe_callC (fr := ["size"]) (js := [2]) GG hr rfl AG.g AG.F.kp AG.b (fun ok => Caps.made (scope := lamSc (lamOf sWindow)) ok capW (by decide +kernel) rfl)
          (fun y c h => by
            rcases clo_only h with z | z
            · have : ∀ p ∈ (lamSc (lamOf sWindow)).names, p.2 = .free → p.1 ∈ (["size"] : List Str) := by decide +kernel
              exact this _ z rfl
            · cases z) (by decide +kernel) (fun _ _ => rfl)
          (pa_cons (pv 1) (pa_cons pe_str (pa_cons (pe_lamV (T := T) TB rfl mem uniq rfl
            (fun ok y hy e => ok.has _ (.inl (by
              have : ∀ p ∈ (lamSc (lamOf sWindow)).names, p.2 = .free → (defScope sWindow).names.lookup p.1 = some .cell := by decide +kernel
              exact this _ hy e)))) pa_nil))))
        pa_nil)))))), ?_⟩
    refine ⟨_, rfl, L, rfl, hL, fun H1 s1 => ⟨_, rfl, (n : Int), 0, 4, rfl, by omega, by omega, ?_⟩⟩
    have tabs1 := tabs.ext s1
    refine ⟨rfl, _, rfl, _, rfl, tabs1, fun fv c H2 nf gr hf hc => ?_⟩
    refine ⟨[.int (n : Int)], rfl, fun cs ft none_ => ?_⟩
    have out : ∀ {b : Addr} {o : HO}, H2 b = some o → onn cs H2 b = some o := fun {b o} e => by
      rw [onn_out fun z => ?_]
      · exact e
      · obtain ⟨p, hp, rfl⟩ := List.mem_map.mp z
        rw [none_ p hp] at e
        cases e
    refine ⟨L, .str "", [], fv, lastF n, B, rfl, hL.few, steps_txt (lok_win rfl rfl Al Gl) ft rfl (out hf) (out hc) (onn_lay ft.nd) hL hn (last_in n) (fun u c _ => last_len hn u c) hB hB4, fun g H3 ng s3 mk => ⟨lay_same ft.nd s3, ?_⟩⟩
    have l3 := lay_same ft.nd s3
    have s4 := same_off none_ s3
    have mk4 := madeAt_off l3 mk
    generalize FV.off cs H3 = H4 at s4 mk4 ⊢
    intro x dx hx hdx ne
    have s5 : Same H4 (upd (upd H4 dx (.own x)) x (.ins C dx [])) := fun b o z => by rw [upd_ne (ne_of_none z hx), upd_ne (ne_of_none z hdx)]; exact z
    refine ⟨x, dx, L, g, _, rfl, hL, upd_same, fun z => ?_, mk4.same s5, fun r H6 h6 k6 rows => ⟨rfl, ?_⟩⟩
    · obtain ⟨gx, r, e, _⟩ := mk4
      rw [z, hx] at e
      cases e
    · have s6 : Same H4 H6 := fun b o z => k6 b o (s5 _ _ z) (ne_of_none z hx)
      have gr2 : Grows T H H2 := by
        have := grows_same (Grows.refl tabs) s1
        exact ⟨fun b o e n => gr.1 b o (this.1 b o e n) n, gr.2.1, fun d z => this.2.2 d (gr.2.2 d z)⟩
      have gr6 : Grows T H H6 := grows_same (grows_same gr2 s4) s6
      exact q x H6 (gr2.2.2 x (s4.free hx)) gr6 ⟨dx, r, h6, rows⟩
theorem capH : ∀ y ∈ (lamSc (lamOf sHeads)).names, y.2 = .free → (defScope sHeads).names.lookup y.1 = some .cell ∨ (defScope sHeads).names.lookup y.1 = some .free := by decide +kernel
theorem scHe : FnScope ["cls", "letters", "size"] ["cls", "letters", "size"] (defScope sHeads) := ⟨rfl, rfl, rfl, by decide +kernel, rfl, by decide +kernel, by decide +kernel⟩
theorem ok_heads {f cE PE2 : Addr} {oc kV dc pm ct dV : Value} {an od : Option Addr} {sl : Array (Option Value)} (lk : K.lookup f = some ⟨oc, od, .func (PySem.W.fnOf "heads" "Box.heads" (defArgs sHeads) (defBody sHeads) (defScope sHeads) dV kV dc pm an (.ref cE) ct), sl⟩) (hcd : PySem.W.codeIn K (.ref cE) "Box.heads" = true)
    (TB : TabB base mg cE PE2) (mem : (PE2, qHead) ∈ T) (uniq : ∀ p ∈ T, p.1 = PE2 → p.2 = qHead) (M : TBx K mg C cD) (m4 : ∃ t, mg "_MAX_SIZE" = some (.int 4 t))
    (AL : Fn K mg "need_letters" sNeedLet ["letters"] fNL dNL) (GL : FnOk P w K mg base CX0 3 fNL dNL ["letters"] spNeedLet) (AN : Fn K mg "need_number" sNeedNum ["value", "least", "most"] fNN dNN) (GN : FnOk P w K mg base CX0 3 fNN dNN ["value", "least", "most"] spNeedNum)
    (AG : Fn K mg "_grown" sGrown ["letters", "start", "step"] fG dG) (GG : FnOk P w K mg base CX0 8 fG dG ["letters", "start", "step"] (spGrown P w K mg base kitW 5 cD)) (MI : Mk K C fB) (GI : FnOk P w K mg base CX0 3 fB dB ["self", "letters", "table"] (spBoxI C cD)) (bI : Binds K dB ["self", "letters", "table"] [])
    (Al : Fn K mg "first_letters" sFirst ["word", "number"] fl dl) (Gl : FnOk P w K mg base CX0 4 fl dl ["word", "number"] spFirst) :
    FnOk P w K mg base CX0 9 f (PySem.W.fnOf "heads" "Box.heads" (defArgs sHeads) (defBody sHeads) (defScope sHeads) dV kV dc pm an (.ref cE) ct) ["cls", "letters", "size"] (spTxtBox T C headF) := by
  obtain ⟨tm, most⟩ := m4
  refine fn_of lk hcd scHe (fun vs H Q E h => ?_) (fun A outer s H vs Q E hr h => ?_)
  · obtain ⟨L, n, B, rfl, _⟩ := h
    rfl
  · obtain ⟨L, n, B, rfl, hL, hn, tabs, hB, hB4, q⟩ := h
    have hr3 : Room 3 _ := hr.mono (by decide)
    have hr4 : Room 4 _ := hr.mono (by decide)
    refine ⟨_, pss_cons (ps_expr (pe_call GL hr3 rfl AL.g AL.F.kp AL.b .nil pass0 (pa_cons (pv 1) pa_nil)))
      (pss_cons (ps_expr (pe_call GN hr3 rfl AN.g AN.F.kp AN.b .nil pass0 (pa_cons (pv 2) (pa_cons pe_int (pa_cons (pe_glob rfl most (show RelV (.int 4) (.int 4 tm) from ⟨tm, rfl⟩)) pa_nil)))))
      (pss_one (ps_ret (pe_makeV (i := 0) (E := E0) MI GI hr4 rfl (.inl rfl) bI .nil pass0 (pa_cons (pv 1) (pa_cons
        (pe_callC (fr := ["size"]) (js := [2]) GG hr rfl AG.g AG.F.kp AG.b (fun ok => Caps.made (scope := lamSc (lamOf sHeads)) ok capH (by decide +kernel) rfl)
          (fun y c h => by
            rcases clo_only h with z | z
            · have : ∀ p ∈ (lamSc (lamOf sHeads)).names, p.2 = .free → p.1 ∈ (["size"] : List Str) := by decide +kernel
              exact this _ z rfl
            · cases z) (by decide +kernel) (fun _ _ => rfl)
          (pa_cons (pv 1) (pa_cons pe_str (pa_cons (pe_lamV (T := T) TB rfl mem uniq rfl
            (fun ok y hy e => ok.has _ (.inl (by
              have : ∀ p ∈ (lamSc (lamOf sHeads)).names, p.2 = .free → (defScope sHeads).names.lookup p.1 = some .cell := by decide +kernel
              exact this _ hy e)))) pa_nil))))
        pa_nil)))))), ?_⟩
    refine ⟨_, rfl, L, rfl, hL, fun H1 s1 => ⟨_, rfl, (n : Int), 0, 4, rfl, by omega, by omega, ?_⟩⟩
    have tabs1 := tabs.ext s1
    refine ⟨rfl, _, rfl, _, rfl, tabs1, fun fv c H2 nf gr hf hc => ?_⟩
    refine ⟨[.int (n : Int)], rfl, fun cs ft none_ => ?_⟩
    have out : ∀ {b : Addr} {o : HO}, H2 b = some o → onn cs H2 b = some o := fun {b o} e => by
      rw [onn_out fun z => ?_]
      · exact e
      · obtain ⟨p, hp, rfl⟩ := List.mem_map.mp z
        rw [none_ p hp] at e
        cases e
    refine ⟨L, .str "", [], fv, headF n, B, rfl, hL.few, steps_txt (lok_head rfl rfl Al Gl) ft rfl (out hf) (out hc) (onn_lay ft.nd) hL hn (head_in n) (fun u c _ => head_len hn u c) hB hB4, fun g H3 ng s3 mk => ⟨lay_same ft.nd s3, ?_⟩⟩
    have l3 := lay_same ft.nd s3
    have s4 := same_off none_ s3
    have mk4 := madeAt_off l3 mk
    generalize FV.off cs H3 = H4 at s4 mk4 ⊢
    intro x dx hx hdx ne
    have s5 : Same H4 (upd (upd H4 dx (.own x)) x (.ins C dx [])) := fun b o z => by rw [upd_ne (ne_of_none z hx), upd_ne (ne_of_none z hdx)]; exact z
    refine ⟨x, dx, L, g, _, rfl, hL, upd_same, fun z => ?_, mk4.same s5, fun r H6 h6 k6 rows => ⟨rfl, ?_⟩⟩
    · obtain ⟨gx, r, e, _⟩ := mk4
      rw [z, hx] at e
      cases e
    · have s6 : Same H4 H6 := fun b o z => k6 b o (s5 _ _ z) (ne_of_none z hx)
      have gr2 : Grows T H H2 := by
        have := grows_same (Grows.refl tabs) s1
        exact ⟨fun b o e n => gr.1 b o (this.1 b o e n) n, gr.2.1, fun d z => this.2.2 d (gr.2.2 d z)⟩
      have gr6 : Grows T H H6 := grows_same (grows_same gr2 s4) s6
      exact q x H6 (gr2.2.2 x (s4.free hx)) gr6 ⟨dx, r, h6, rows⟩
end
end WK

set_option Elab.async false
set_option linter.all false
set_option maxRecDepth 100000
set_option maxHeartbeats 4000000
/-! set(list of texts), and sorted of it. -/
namespace TL
open PySem PySem.Spec PyProof.Rows L2 TX
/-- the item with number i is the text with number i -/
def TextAt (xs : List Str) (i : Nat) (v : Value) : Prop := ∃ k t, xs[i]? = some k ∧ v = Value.str k t
section
variable {prog : Program} {w : World} {A : Around} {R : Result → Shared → Prop} {I : Addr} {fp wr : List Addr} {n : Nat} {xs : List Str} {Is : Nat → Value → Prop} {St : Nat → Heap → Prop}
/-- what is still to come goes into the set, text by text -/
theorem fill (W : Walks prog w A.in1 I fp wr n Is St) (texts : ∀ i v, Is i v → TextAt xs i v) (hn : n = xs.length) (S : Addr) (away : S ∉ fp) (room : n + 1 < scanBound) :
    ∀ (left i : Nat) (s : Shared) (T : Str → Bool) (c : Nat), n - i = left → i ≤ n → St i s.heap → HasX w s.heap S T c → c ≤ i →
      (∀ g tk T' c', HasX w g S T' c' → c' ≤ n → (∀ k, T' k = (T k || (xs.drop i).any fun z => decide (k = z))) → (∀ b q, b ∉ S :: wr → s.heap.get? b = some q → g.get? b = some q) →
        R (.ok (.ret .none)) { s with heap := g, toks := tk }) →
      codeAny (model prog w) A (.builtin "set.update.loop" ⟨[.ref S, .ref I], []⟩) R s := by
  have other : S ∉ wr := fun z => away (W.sub _ z)
  intro left
  induction left with
  | zero =>
    intro i s T c hm hi st isSet hc done
    have e : i = n := by omega
    subst e
    refine codeAny_builtin PyProof.Rows.F.entry_set_update_loop (Around.under_plainId PyProof.Rows.F.plain_set_update_loop _ ▸ wpAny_bind (m := pyNext (.ref I)) (W.done s _ _ st fun g tk keep => ?_))
    have rest : xs.drop i = [] := List.drop_eq_nil_of_le (by omega)
    refine wpAny_pure (done g tk T c (isSet.at fun q z => keep S q other z) hc (fun k => ?_) fun b q nb z => keep b q (fun y => nb (.tail _ y)) z)
    rw [rest]
    exact (Bool.or_false _).symm
  | succ left ih =>
    intro i s T c hm hi st isSet hc done
    have more : i < n := by omega
    refine codeAny_builtin PyProof.Rows.F.entry_set_update_loop (Around.under_plainId PyProof.Rows.F.plain_set_update_loop _ ▸ wpAny_bind (m := pyNext (.ref I)) (W.item i s _ _ more st fun v g tk is st' keep => ?_))
    rcases texts i v is with ⟨z, t, hz, rfl⟩
    refine wpAny_bind (m := holding [Value.str z t] (setAdd S (.str z t))) (wpAny_holding ?_)
    unfold setAdd
    refine wpAny_holding (wpAny_bind ((PySem.strKind prog w).pyHash (k := z) (Froz.is_str _ _) ?_))
    have there : HasX w g S T c := isSet.at fun q y => keep S q other y
    refine add (s := { s with heap := g, toks := tk + 1 }) there (by omega) fun g2 same isSet2 => ?_
    have old : ∀ b q, b ∉ S :: wr → s.heap.get? b = some q → g2.get? b = some q := fun b q nb y => (same.2 b fun e => nb (by rw [e]; exact List.mem_cons_self)).trans (keep b q (fun e => nb (.tail _ e)) y)
    refine wpAny_pure ⟨plainId_quiet PyProof.Rows.F.plain_set_update_loop _, ih (i + 1) { s with heap := g2, toks := tk + 1 } _ _ (by omega) more (W.frame _ g _ st' fun b hb q y => ?_) isSet2 (by split <;> omega) fun g3 tk3 T3 c3 r3 l3 m3 k3 => ?_⟩
    · have ne : b ≠ S := fun e => away (e ▸ hb)
      exact (same.2 b ne).trans y
    · refine done g3 tk3 T3 c3 r3 l3 (fun k => ?_) fun b q nb y => k3 b q nb (old b q nb y)
      have step : xs.drop i = z :: xs.drop (i + 1) := by
        obtain ⟨hi2, e⟩ := List.getElem?_eq_some_iff.mp hz
        rw [List.drop_eq_getElem_cons hi2, e]
      rw [m3 k, step, List.any_cons, Bool.or_assoc]
end
section
variable {P : Program} {w : World} {A : Around} {E : Value → Shared → Prop} {s : Shared}
set_option maxHeartbeats 6400000 in
/-- set(list of texts) -/
theorem set_of {l : Addr} {items : Array Value} {xs : List Str} {Q : Value → Shared → Prop} (calm : A.handled = none) (isL : s.heap.IsList l items) (texts : ∀ i v, items[i]? = some v → TextAt xs i v) (len : items.size = xs.length) (room : xs.length + 1 < scanBound)
    (h : ∀ (g : Heap) (tk : Nat) T c, HasX w g s.heap.objs.size T c → c ≤ xs.length → (∀ k, T k = xs.any fun z => decide (k = z)) → (∀ b q, s.heap.get? b = some q → g.get? b = some q) → Q (.ref s.heap.objs.size) { s with heap := g, toks := tk }) :
    wpAny (model P w) A (call (.type "set") [.ref l]) Q E s := by
  have made := F.called_set.made
  have isSub := F.called_set.sub
  have noType := F.called_set.notType
  have creates := F.called_set.canCreate
  obtain ⟨_, _, _⟩ := F.called_set.mro
  have typeCall := F.typeCall_set_1 (.ref l)
  refine wpAny_call (codeAny_of_tree ?_)
  change wpAny _ _ (callAny (.type "set") _) _ _ s
  refine wpAny_pure (And.intro (Code.quiet_builtin _ (by decide +kernel)) (codeAny_builtin F.entry_type_call ?_))
  rw [Around.under_plain (weight_type_call_type "set" [.ref l] []) rfl]
  repeat any_goals first | assumption | wp_step
  refine codeAny_mono (code_set_led1 (.ref l) (E := E) (Q₁ := fun v r => v = .ref s.heap.objs.size ∧ r = { s with heap := s.heap.push (newSet w) }) ⟨rfl, rfl⟩) fun
    | .error _, _, bad => bad
    | .ok .next, _, bad => bad.elim
    | .ok .brk, _, bad => bad.elim
    | .ok .cont, _, bad => bad.elim
    | .ok (.ret _), _, ⟨rfl, rfl⟩ => ?_
  have isTy : Shared.TypeIs { s with heap := s.heap.push (newSet w) } (.ref s.heap.objs.size) "set" := ⟨_, Heap.get?_push_size _ rfl, rfl⟩
  have found := F.called_set.init.lookup
  have bound := F.called_set.init.bind (.ref s.heap.objs.size)
  repeat any_goals first | assumption | wp_step
  refine codeAny_mono (codeAny_call_builtin (R := wants (fun v r => v = .none ∧ ∃ g tk T c, r = { s with heap := g, toks := tk } ∧ HasX w g s.heap.objs.size T c ∧ c ≤ xs.length ∧ (∀ k, T k = xs.any fun z => decide (k = z)) ∧
      ∀ b q, s.heap.get? b = some q → g.get? b = some q) E) F.called_set.init.plain F.entry_set_init (check_set_init_1 isTy ?_)) fun
    | .error _, _, bad => bad
    | .ok .next, _, bad => bad.elim
    | .ok .brk, _, bad => bad.elim
    | .ok .cont, _, bad => bad.elim
    | .ok (.ret _), _, ⟨rfl, _, _, _, _, rfl, r1, r2, r3, r4⟩ => ?_
  · obtain ⟨⟨ocls, odict, odata, osl⟩, ho, hcl, nl, hd⟩ := isL
    dsimp only at hcl hd
    subst hcl
    subst hd
    have atL : (s.heap.push (newSet w)).get? l = some { cls := .type "list", dict := odict, data := .seq items nl, slots := osl } := Heap.get?_push_of_some _ ho
    have f1 := F.sub_list_set
    have f2 := F.sub_list_frozenset
    have f3 : (Value.type "list" == Value.type "dict") = false := by decide
    have isL1 : (s.heap.push (newSet w)).IsList l items := ⟨_, atL, rfl, nl, rfl⟩
    unfold Builtin.«set.__init__» noKeywords Builtin.Frozenset.updateFrom
    generalize asIter : pyIter = PI
    wp_walk
    subst asIter
    have size1 : (s.heap.push (newSet w)).objs.size = s.heap.objs.size + 1 := Heap.size_push ..
    have below := Heap.lt_size ho
    have calm3 : A.in1.in1.in1.handled = none := by simp [calm]
    have neI : l ≠ (s.heap.push (newSet w)).objs.size := by
      rw [size1]
      exact Nat.ne_of_lt (Nat.lt_succ_of_lt below)
    refine wpAny_pyIter_list isL1 (wpAny_bind (wpAny_runValue ?_))
    refine fill (xs := xs) (Walks.list calm3 _ l neI items) texts len s.heap.objs.size ?_ (by omega) _ 0 _ (fun _ => false) 0 rfl (Nat.zero_le _) ⟨⟨_, Heap.get?_push_size _ rfl, rfl, rfl⟩, isL1.push _⟩ ((TX.fresh w).at fun q z => Heap.get?_push_of_some _ z) (Nat.le_refl _) fun g tk T c r lc m keep => ?_
    · simp only [List.mem_cons, List.mem_singleton, List.not_mem_nil, or_false, not_or, size1]
      exact ⟨Nat.ne_of_lt (Nat.lt_succ_self _), Nat.ne_of_gt below⟩
    · show wpAny _ _ _ _ _ _
      refine wpAny_pure (wpAny_pure ⟨rfl, g, tk, T, c, rfl, r, by omega, fun z => by rw [m z, List.drop_zero, Bool.false_or], fun b q z => keep b q ?_ (Heap.get?_push_of_some _ (Heap.get?_push_of_some _ z))⟩)
      have lt := Heap.lt_size z
      simp only [List.mem_cons, List.mem_singleton, List.not_mem_nil, or_false, not_or, size1]
      exact ⟨Nat.ne_of_lt lt, Nat.ne_of_lt (Nat.lt_succ_of_lt lt)⟩
  · repeat any_goals first | assumption | wp_step
    exact h _ _ _ _ r1 r2 r3 r4
end
section
variable {P : Program} {w : World} {A : Around} {E : Value → Shared → Prop} {s : Shared} {a : Addr}
/-- sorted(a set of texts): its members, rising, each once -/
theorem sorted_of {T : Str → Bool} {n : Nat} {Q : Value → Shared → Prop} (R : HasX w s.heap a T n) (calm : A.handled = none) (h64 : n < 64)
    (hQ : ∀ r p (out : Array Value) (c : Nat) (ss : List Str), (∀ b q, s.heap.get? b = some q → r.heap.get? b = some q) → r.gens = s.gens → r.os = s.os → s.heap.objs.size ≤ p →
      r.heap.get? p = some (seqObj "list" out c) → StrsAre out.toList ss → sortedS ss = true → ss.Nodup → (∀ k, k ∈ ss ↔ T k = true) → ss.length = n → Q (.ref p) r) : wpAny (model P w) A (call (.builtin "sorted") [.ref a]) Q E s := by
  obtain ⟨o, es, ep, t, ob, ex, dat, sz, F⟩ := R
  refine Calls.call_function_entry kind_sorted plain_sorted entry_sorted (args_sorted1 _) (wpAny_bind (m := checkCount "sorted" 1 1 _) (wpAny_pure (wpAny_bind ?_)))
  refine collect_set (A := A.in1) calm ⟨o, ob, ex.1, dat⟩ F.fit F.few F.ris F.led.symm fun r vs keep grows gens os perm => ?_
  have texts : StrsAre vs (vs.map strOf) := strsAre_map vs fun v hv => by
    obtain ⟨e, he, q⟩ := List.mem_map.mp (perm.mem_iff.mp hv)
    obtain ⟨k, tk, isStr, _⟩ := F.good e he
    exact ⟨k, tk, q ▸ isStr⟩
  have many : vs.length = n := by
    rw [perm.length_eq, List.length_map, Array.length_toList]
    exact sz
  have perm2 : (vs.map strOf).Perm (es.toList.map txOf) := by
    have := perm.map strOf
    rwa [List.map_map] at this
  refine wpAny_bind (wpAny_newList (wpAny_bind ?_) (by rw [sizeLine_eq]; omega))
  have listAt : (r.heap.push (seqObj "list" vs.toArray 0)).get? r.heap.objs.size = some (seqObj "list" vs.toArray 0) := Heap.get?_push_size _ rfl
  refine wpAny_holding (wpAny_call_entry slot_list_sort ⟨_, listAt, rfl⟩ entry_list_sort (list_sort_treeK (κ := PyProof.Rows.strKind) strKind_oneLt listAt texts.keysOf (fun v₁ v₂ rest e => keyKind_strs (e ▸ texts)) (by omega) fun st done isSorted => ⟨_, rfl, wpAny_pure ⟨_, rfl, ?_⟩⟩) (args_list_sort _))
  obtain ⟨ss, are, perm3, up⟩ := sorted_out_str texts done isSorted
  obtain ⟨c, outAt⟩ := sortedHeap_at (vs := vs) (out := (arrOf st).map (·.2)) listAt
  have all := perm3.trans perm2
  refine hQ _ r.heap.objs.size _ c ss (fun b q z => ?_) gens os grows outAt are up (all.nodup_iff.mpr F.once) (fun k => by rw [all.mem_iff]; exact (F.mem k).symm) ?_
  · have lt := Heap.lt_size (keep b q z)
    exact (sortedHeap_old (Nat.ne_of_lt lt) (by rw [size_push']; exact Nat.lt_succ_of_lt lt)).trans (Heap.get?_push_of_some _ (keep b q z))
  · rw [all.length_eq, List.length_map, Array.length_toList]
    exact sz
end
/-! ### the rules -/
/-- the set of these texts at a -/
def SetL (w : World) (a : Addr) (xs : List Str) : HO := .ext fun h => ∃ T n, HasX w h a T n ∧ n ≤ xs.length ∧ ∀ k, T k = xs.any fun z => decide (k = z)
theorem setL_new {P : Program} {w : World} {H : Hp} {h : Heap} {a : Addr} {xs : List Str} {T : Str → Bool} {n : Nat} (R : HasX w h a T n) (hn : n ≤ xs.length) (hT : ∀ k, T k = xs.any fun z => decide (k = z)) : ObjOk P w H h a (SetL w a xs) :=
  ⟨⟨T, n, R, hn, hT⟩, let ⟨o, _, _, _, r⟩ := R; ⟨o, r.ob⟩, fun _ _ ⟨T', n', R', q⟩ k => ⟨T', n', R'.at k, q⟩⟩
theorem texts_of : ∀ {us : List Value} {xs : List Str}, Vals (xs.map V.str) us → us.length = xs.length ∧ ∀ i v, us[i]? = some v → TextAt xs i v
  | [], [], _ => ⟨rfl, fun i v e => by cases e⟩
  | u :: us, x :: xs, .cons ⟨t, ht⟩ r => by
    obtain ⟨h1, h2⟩ := texts_of r
    refine ⟨congrArg Nat.succ h1, fun i v e => ?_⟩
    cases i with
    | zero =>
      cases e
      exact ⟨x, t, rfl, ht⟩
    | succ i => exact h2 i v e
  | _ :: _, [], r => nomatch r
  | [], _ :: _, r => nomatch r
section
variable {X : Cx}
def rSetL (K : PySem.W.Frag) (w : World) : List V → Hp → VK → Prop := fun vs H Q => ∃ (l : Addr) (xs : List Str), vs = [V.ref l] ∧ SqL K H l (xs.map V.str) ∧ xs.length < 64 ∧ ∀ a o, H a = none → o = SetL w a xs → Q (.ref a) (upd H a o)
theorem call_setL (hc : X.calm = true) : CallR X (.type "set") (rSetL X.K X.w) := by
  rintro pins s σ H _ us Q I r ⟨l, xs, rfl, hl, hx, q⟩
  rw [Vals.ref1 r]
  obtain ⟨its, rv, pl, hz⟩ := I.list hl
  obtain ⟨h1, h2⟩ := texts_of rv
  refine set_of (P := X.prog) (w := X.w) (xs := xs) (I.ok.hd hc) pl.isList (fun i v e => h2 i v (by simpa using e)) (by simpa using h1) (by unfold scanBound; omega) fun h' tk T c r1 r2 r3 k => ?_
  exact ⟨.ref s.heap.objs.size, upd H s.heap.objs.size (SetL X.w s.heap.objs.size xs), I.laid (t' := tk) k (Nat.le_refl _) (setL_new r1 r2 r3), rfl, q _ _ (I.hok.fresh (Nat.le_refl _)) rfl⟩
def rSortL (w : World) : List V → Hp → VK → Prop := fun vs H Q => ∃ (a : Addr) (xs : List Str) (o : HO), vs = [V.ref a] ∧ H a = some o ∧ o = SetL w a xs ∧ xs.length < 64 ∧ ∀ (p : Addr) (ss : List Str), H p = none → sortedS ss = true → ss.Nodup → (∀ k, k ∈ ss ↔ k ∈ xs) → Q (.ref p) (upd H p (.lst (ss.map V.str)))
theorem cr_sortL (hc : X.calm = true) : CallR X (.builtin "sorted") (rSortL X.w) := by
  rintro pins s σ H _ us Q I r ⟨a, xs, _, rfl, ha, rfl, hx, q⟩
  obtain ⟨T, n, R, hn, hT⟩ := (I.hok a _ ha).1
  rw [Vals.ref1 r]
  refine sorted_of R (I.ok.hd hc) (by omega) fun s' p out c ss k g o hp hg hS up nd mem few => ?_
  have hlen : (ss.map V.str).length ≤ sizeLine := by
    rw [List.length_map, sizeLine_eq]
    omega
  have free : H p = none := I.hok.fresh hp
  have J : Inv X pins σ (upd H p (.lst (ss.map V.str))) { s with heap := s'.heap, gens := s'.gens, drawn := s'.drawn, toks := s'.toks } :=
    I.call (ch := []) (Un.laid k hp free) (I.hok.laid k hp ⟨hlen, _, c, vals_strs hS, hg⟩) (g ▸ I.bare) nofun
  have same : { s with heap := s'.heap, gens := s'.gens, drawn := s'.drawn, toks := s'.toks } = s' := by
    rcases s with ⟨⟩; rcases s' with ⟨⟩; cases o; rfl
  refine same ▸ ⟨.ref p, _, J, rfl, q p ss free up nd fun k => ?_⟩
  rw [mem k, hT k, List.any_eq_true]
  exact ⟨fun ⟨z, hz, e⟩ => of_decide_eq_true e ▸ hz, fun h => ⟨k, h, decide_eq_true rfl⟩⟩
end
end TL

set_option Elab.async false
set_option linter.all false
set_option maxRecDepth 100000
set_option maxHeartbeats 4000000
/-! The order of words, and sorted lists of them. -/
namespace WK
open PySem PySem.Spec L2 PyProof.Rows K1
theorem lt_iff : ∀ a b : List Nat, ltCps a b = true ↔ a < b
  | [], [] => ⟨fun h => (by cases h), fun h => absurd h (List.lt_irrefl _)⟩
  | [], b :: bs => ⟨fun _ => List.nil_lt_cons _ _, fun _ => rfl⟩
  | a :: as, [] => ⟨fun h => (by cases h), fun h => absurd h (List.not_lt_nil _)⟩
  | a :: as, b :: bs => by
    rw [List.cons_lt_cons_iff]
    have ih := lt_iff as bs
    unfold ltCps
    by_cases h1 : a < b
    · simp [h1]
    · by_cases h2 : b < a
      · simp [h1, h2]
        omega
      · have e : a = b := by omega
        simp [h1, h2, e, ih]
theorem le_iff (x y : Str) : (!ltCps y.cps.toList x.cps.toList) = true ↔ x.cps.toList ≤ y.cps.toList := by
  rw [← List.not_lt, ← lt_iff]
  cases ltCps y.cps.toList x.cps.toList <;> simp
def leW (a b : W) : Bool := decide (a ≤ b)
def nubW : List W → List W
  | [] => []
  | u :: l => if u ∈ nubW l then nubW l else u :: nubW l
theorem mem_nub {u : W} : ∀ {l : List W}, u ∈ nubW l ↔ u ∈ l
  | [] => Iff.rfl
  | v :: l => by
    show u ∈ (if v ∈ nubW l then nubW l else v :: nubW l) ↔ _
    split
    · rename_i h
      rw [mem_nub (l := l), List.mem_cons]
      exact ⟨.inr, fun z => z.elim (fun e => e ▸ mem_nub.mp h) id⟩
    · rw [List.mem_cons, List.mem_cons, mem_nub (l := l)]
theorem nodup_nub : ∀ l : List W, (nubW l).Nodup
  | [] => List.nodup_nil
  | v :: l => by
    show (if v ∈ nubW l then nubW l else v :: nubW l).Nodup
    split
    · exact nodup_nub l
    · rename_i h
      exact List.nodup_cons.mpr ⟨h, nodup_nub l⟩
/-- the words of l in order, each once -/
def srtW (l : List W) : List W := (nubW l).mergeSort leW
theorem le_tr (a b c : W) (h : leW a b = true) (k : leW b c = true) : leW a c = true := decide_eq_true (List.le_trans (of_decide_eq_true h) (of_decide_eq_true k))
theorem le_to (a b : W) : (leW a b || leW b a) = true := by
  rcases List.le_total a b with h | h
  · rw [show leW a b = true from decide_eq_true h] <;> rfl
  · rw [show leW b a = true from decide_eq_true h, Bool.or_true]
theorem mem_srt {u : W} {l : List W} : u ∈ srtW l ↔ u ∈ l := by
  unfold srtW
  rw [(List.mergeSort_perm _ _).mem_iff, mem_nub]
theorem nodup_srt (l : List W) : (srtW l).Nodup := ((List.mergeSort_perm _ _).nodup_iff).mpr (nodup_nub l)
theorem asc_srt (l : List W) : (srtW l).Pairwise fun a b => leW a b = true := List.pairwise_mergeSort le_tr le_to _
theorem uniq_srt {l m : List W} (h1 : l.Pairwise fun a b => leW a b = true) (h2 : m.Pairwise fun a b => leW a b = true) (n1 : l.Nodup) (n2 : m.Nodup) (e : ∀ u, u ∈ l ↔ u ∈ m) : l = m :=
  List.Perm.eq_of_pairwise (fun a b _ _ p q => List.le_antisymm (of_decide_eq_true p) (of_decide_eq_true q)) h1 h2 ((List.perm_ext_iff_of_nodup n1 n2).mpr e)
theorem srt_eq {l m : List W} : srtW l = srtW m ↔ ∀ u, u ∈ l ↔ u ∈ m :=
  ⟨fun h u => by rw [← mem_srt, h, mem_srt], fun h => uniq_srt (asc_srt l) (asc_srt m) (nodup_srt l) (nodup_srt m) fun u => by rw [mem_srt, mem_srt]; exact h u⟩
theorem len_nub (l : List W) : (nubW l).length ≤ l.length := by
  induction l with
  | nil => exact Nat.le_refl _
  | cons u l ih =>
    show (if u ∈ nubW l then nubW l else u :: nubW l).length ≤ l.length + 1
    split
    · omega
    · rw [List.length_cons]
      omega
theorem len_srt (l : List W) : (srtW l).length ≤ l.length := by
  unfold srtW
  rw [(List.mergeSort_perm _ _).length_eq]
  exact len_nub l
abbrev wd (x : Str) : W := x.cps.toList
theorem rise_pair : ∀ (l : List Str) (p : Str), risingS p l = true → ((p :: l).map wd).Pairwise fun a b => leW a b = true
  | [], p, _ => List.pairwise_cons.mpr ⟨fun _ h => (List.not_mem_nil h).elim, List.Pairwise.nil⟩
  | x :: l, p, h => by
    have h' : ((!ltCps x.cps.toList p.cps.toList) && risingS x l) = true := h
    rw [Bool.and_eq_true] at h'
    have ih := rise_pair l x h'.2
    have px : leW (wd p) (wd x) = true := decide_eq_true ((le_iff p x).mp h'.1)
    refine List.pairwise_cons.mpr ⟨fun b hb => ?_, ih⟩
    rcases List.mem_cons.mp hb with rfl | hb
    · exact px
    · exact le_tr _ _ _ px ((List.pairwise_cons.mp ih).1 b hb)
theorem sort_pair {l : List Str} (h : sortedS l = true) : (l.map wd).Pairwise fun a b => leW a b = true := by
  cases l with
  | nil => exact List.Pairwise.nil
  | cons p l => exact rise_pair l p h
theorem srt_is {ss : List Str} {l : List W} (up : sortedS ss = true) (nd : ss.Nodup) (mem : ∀ k, k ∈ ss ↔ k ∈ l.map tx) : ss = (srtW l).map tx := by
  have e : ss.map wd = srtW l := by
    refine uniq_srt (sort_pair up) (asc_srt l) (List.Pairwise.map wd (fun a b h z => h (by rw [← tx_of a, ← tx_of b, show a.cps.toList = b.cps.toList from z])) nd) (nodup_srt l) fun u => ?_
    rw [mem_srt, List.mem_map]
    · constructor
      · rintro ⟨x, hx, rfl⟩
        obtain ⟨v, hv, e⟩ := List.mem_map.mp ((mem x).mp hx)
        rw [← e]
        show (tx v).cps.toList ∈ l
        rw [tx_list]
        exact hv
      · intro hu
        exact ⟨tx u, (mem _).mpr (List.mem_map.mpr ⟨u, hu, rfl⟩), tx_list u⟩
  rw [← e, List.map_map]
  exact ((List.map_congr_left fun x _ => tx_of x).trans (List.map_id ss)).symm
end WK

set_option Elab.async false
set_option linter.all false
set_option maxRecDepth 100000
set_option maxHeartbeats 8000000
/-! Pieces so far, and a letter more. -/
namespace WK
open PySem L2 PyProof.Rows LCX K1 FV DP LamX NdefX
open TX (sg sigs)
open PySem.W (Frag kitOne)
abbrev sWith : Stmt := top 46
/-- the pieces with a letter more -/
def pieF (m : Nat) (a : List W) (c : Nat) : List W := srtW (a ++ (a.filter fun u => decide (u.length < m)).map fun u => u ++ [c])
abbrev tS (a : List W) : List V := a.map fun u => V.str (tx u)
abbrev NWP : List Str := ["seen", "letter", "most", "longer", "piece"]
def spWith : Sp := fun vs H Q _ => ∃ (b : Addr) (a : List W) (c m : Nat), vs = [.ref b, .str (sg c), .int (m : Int)] ∧ H b = some (.tup (tS a)) ∧ a.length ≤ 30 ∧ (∀ u ∈ a, u.length ≤ 50) ∧ ∀ t H', H t = none → Same H H' → H' t = some (.tup (tS (pieF m a c))) → Q (.ref t) H'
theorem one_if' {b : Bool} {v : V} : (if b = true then [v] else []).length ≤ 1 := by
  cases b <;> exact by first | exact Nat.le_refl _ | exact Nat.zero_le _
theorem flat_pick {α β : Type} (p : α → Bool) (g : α → β) : ∀ l : List α, (l.flatMap fun x => if p x = true then [g x] else []) = (l.filter p).map g
  | [] => rfl
  | x :: l => by
    rw [List.flatMap_cons, List.filter_cons, flat_pick p g l]
    cases p x <;> rfl
section
variable {P : Program} {w : World} {K : PySem.W.Frag} {mg : Str → Option Value} {base : Heap}
theorem scWP : FnScope NWP ["seen", "letter", "most"] (defScope sWith) := ⟨rfl, rfl, rfl, by decide +kernel, rfl, by decide +kernel, by decide +kernel⟩
theorem ok_with {f : Addr} {fd : FuncData} (F : Fun K "_with_pieces" "_with_pieces" sWith f fd) (T : TN mg) : FnOk P w K mg base CX0 2 f fd ["seen", "letter", "most"] spWith := by
  refine F.ok scWP (fun vs H Q E h => ?_) (fun cdv A outer s H vs Q E hr h => ?_)
  · obtain ⟨b, a, c, m, rfl, _⟩ := h
    rfl
  · obtain ⟨b, a, c, m, rfl, hb, hn, hu, q⟩ := h
    refine ⟨_, pss_cons (ps_setLc (i := 3) (own := [("piece", 4)]) (g := gName 4) (tt := tTest (tOp (rI0 fun i j => .bl (decide (i < j))) (tCB (fun xs H Q => ∃ z, xs = [V.str z] ∧ z.length ≤ sizeLine ∧ Q (.int z.length) H) (tCons (tVar 4) tNil)) (tVar 2)))
        (te := tOp (fun x y H Q => ∃ i j, x = V.str i ∧ y = V.str j ∧ i.length + j.length ≤ sizeLine ∧ Q (.str (i ++ j)) H) (tVar 4) (tVar 1)) rfl scWP.nd rfl rfl (sw_true rfl rfl rfl (by decide +kernel)) (pi_tup (pv 0))
        (blkOk_by (own := [("piece", 4)]) (N := NWP) (sc := defScope sWith) (by decide +kernel)) (fun _ _ _ _ _ => pg_name (i := 4) scWP.nd rfl (Or.inl rfl))
        (fun _ _ _ _ _ => pts_one (pt_cmpR op_lt (pe_callB call_len_str (by rfl) T.len PySem.boot_len (pa_cons (pv 4) pa_nil)) (pv 2) (nomark _)))
        (fun _ _ _ _ _ => pe_op op_add_str (pv 4) (pv 1)))
      (pss_one (ps_ret (pe_callTy call_tuple_of (by rfl) T.tuple (by decide +kernel) (pa_cons (pe_callB (TL.cr_sortL rfl) (by rfl) T.sorted (by decide +kernel) (pa_cons (pe_callTy (TL.call_setL rfl) (by rfl) T.set (by decide +kernel) (pa_cons (pe_op op_cat (pe_callTy call_list_of (by rfl) T.list (by decide +kernel) (pa_cons (pv 0) pa_nil)) (pv 3)) pa_nil)) pa_nil)) pa_nil)))), ?_⟩
    refine ⟨_, rfl, b, rfl, ⟨_, SqT.of hb⟩, fun D hD => ?_⟩
    refine same_tup (val := fun u => V.str (tx u)) (r := fun u => if decide (u.length < m) = true then [V.str (tx (u ++ [c]))] else []) hD (SqT.of hb) (by rw [sizeLine_eq]; omega) (fun _ => one_if') (fun u hu' H1 acc s1 hacc hlen N hN => ?_) (fun H1 s1 hd => ?_)
    · have hul := hu u hu'
      refine ⟨rfl, _, rfl, tx u, rfl, by rw [tx_len, sizeLine_eq]; omega, _, rfl, _, _, rfl, rfl, _, rfl, ?_⟩
      rw [tx_len, show decide (((u.length : Nat) : Int) < (m : Int)) = decide (u.length < m) from decide_eq_decide.mpr (by omega)]
      cases e : decide (u.length < m) with
      | true =>
        refine ⟨_, rfl, _, rfl, _, _, rfl, rfl, ?_, acc, hacc, hlen, hN _ (same_at s1 hD) ?_⟩
        · rw [tx_len, sizeLine_eq]
          show u.length + 1 ≤ _
          omega
        · rw [upd_same, e]
          show _ = some (HO.lst (acc ++ [V.str (tx (u ++ [c]))]))
          rw [← tx_app] <;> rfl
      | false =>
        refine hN _ s1 ?_
        rw [hacc, e]
        show some (HO.lst acc) = some (HO.lst (acc ++ []))
        rw [List.append_nil]
    · rw [flat_pick] at hd
      generalize hlg : ((a.filter fun u => decide (u.length < m)).map fun u => V.str (tx (u ++ [c]))) = lg at hd
      have hlg2 : lg = tS ((a.filter fun u => decide (u.length < m)).map fun u => u ++ [c]) := by
        rw [← hlg]
        show _ = List.map _ (List.map _ _)
        rw [List.map_map] <;> rfl
      subst hlg2
      clear hlg
      have few : ((a.filter fun u => decide (u.length < m)).map fun u => u ++ [c]).length ≤ a.length := by
        rw [List.length_map]
        exact List.length_filter_le _ _
      generalize hln : ((a.filter fun u => decide (u.length < m)).map fun u => u ++ [c]) = ln at hd few
      have hb1 := s1 _ _ hb
      refine ⟨_, rfl, b, _, rfl, .inr (SqT.of hb1), fun cl hcl => ?_⟩
      have s2 := same_upd (o := .lst (tS a)) hcl
      refine ⟨_, rfl, cl, D, _, _, rfl, rfl, upd_same, s2 _ _ hd, ?_, fun e he => ?_⟩
      · rw [List.length_map, List.length_map, sizeLine_eq]
        omega
      have s3 := same_upd (o := .lst (tS a ++ tS ln)) he
      have he3 : (upd (upd H1 cl (.lst (tS a))) e (.lst (tS a ++ tS ln))) e = some (.lst (((a ++ ln).map tx).map V.str)) := by
        rw [upd_same, List.map_map, List.map_append] <;> rfl
      have s03 := s1.trans (s2.trans s3)
      generalize (upd (upd H1 cl (.lst (tS a))) e (.lst (tS a ++ tS ln))) = H3 at he3 s03 ⊢
      have few64 : ((a ++ ln).map tx).length < 64 := by
        rw [List.length_map, List.length_append]
        omega
      refine ⟨e, _, rfl, SqL.of he3, few64, fun st o hst ho => ?_⟩
      refine ⟨st, _, o, rfl, upd_same, ho, few64, fun p ss hp up nd mem => ?_⟩
      have es := srt_is up nd mem
      refine ⟨p, _, rfl, .inl ⟨SqL.of upd_same, fun t ht => ?_⟩⟩
      have s4 : Same H3 (upd (upd (upd H3 st o) p (.lst (ss.map V.str))) t (.tup (ss.map V.str))) := same_two (same_two (same_upd hst) hp) ht
      refine q t _ ((s03.trans (same_two (same_upd hst) hp)).free ht) (s03.trans s4) ?_
      rw [upd_same, es, List.map_map]
      unfold pieF
      rw [hln] <;> rfl
end
end WK

set_option Elab.async false
set_option linter.all false
set_option maxRecDepth 100000
set_option maxHeartbeats 8000000
/-! Boxes of pieces. -/
namespace WK
open PySem L2 PyProof.Rows LCX K1 FV DP LamX NdefX
open TX (sg sigs)
open PySem.W (Frag kitOne)
abbrev sPiecesB : Stmt := inClass (top 43) 3
abbrev qPie : Str := (envOfC "Box.pieces" (defScope sPiecesB) 0 0 .none).qual ++ "<lambda>"
/-- what a call of the step of pieces asks and gives -/
def spPieL (ws : List (Option V)) : Sp := fun vs H Q _ => ∃ (b : Addr) (a : List W) (c m : Nat), ws = [some (.int (m : Int))] ∧ vs = [.ref b, .str (sg c)] ∧ H b = some (.tup (tS a)) ∧ a.length ≤ 30 ∧ (∀ u ∈ a, u.length ≤ 50) ∧ ∀ t H', H t = none → Same H H' → H' t = some (.tup (tS (pieF m a c))) → Q (.ref t) H'
/-- which lists of pieces come: closed, and short -/
structure PieOk (L : W) (m : Nat) (ok : List W → Prop) : Prop where
  one : ok [[]]
  next : ∀ a c, ok a → c ∈ L → ok (pieF m a c)
  few : ∀ a, ok a → a.length ≤ 30
  low : ∀ a, ok a → ∀ u ∈ a, u.length ≤ 50
def spPieBox (T : List (Addr × Str)) (C : Addr) : Sp := fun vs H Q _ => ∃ (L : W) (m B : Nat) (ok : List W → Prop), vs = [.ref C, .str (tx L), .int (m : Int)] ∧ Let L ∧ m ≤ 3 ∧ Tabs T H ∧ PieOk L m ok ∧ (∀ j, (exAll (pieF m) L [[]] j).1.length ≤ B) ∧ B ≤ 400 ∧
  ∀ o H', H o = none → Grows T H H' → BoxAt C H' o L (exAll (pieF m) L [[]] B).2 → Q (.ref o) H'
section
variable {P : Program} {w : World} {K : PySem.W.Frag} {mg : Str → Option Value} {base : Heap} {C cD fNL fNN fG fB fl : Addr} {dNL dNN dG dB dl : FuncData} {T : List (Addr × Str)}
theorem scLmP : NScope ["seen", "letter", "most"] ["seen", "letter"] ["most"] (lamSc (lamOf sPiecesB)) := nscope_by (by decide +kernel)
theorem lok_pie {f : Addr} {F : NF} (hs : F.scope = lamSc (lamOf sPiecesB)) (hp : F.params = lamPar (lamOf sPiecesB)) (AL : Fn K mg "_with_pieces" sWith ["seen", "letter", "most"] fl dl) (GL : FnOk P w K mg base CX0 2 fl dl ["seen", "letter", "most"] spWith) :
    LOk P w K mg base CX0 5 f F (lamBody (lamOf sPiecesB)) ["most"] spPieL := by
  obtain ⟨nm, qual, params, body, scope, cl, c⟩ := F
  dsimp only at hs hp
  subst hs
  subst hp
  refine lok_of (N := ["seen", "letter", "most"]) (ps := ["seen", "letter"]) scLmP (fun pm cv ctv us hl => ?_) (fun ws vs H Q E h => ?_) (fun A outer s H vs ws Q E hr hw h => ?_)
  · obtain ⟨a, b, rfl⟩ : ∃ a b, us = [a, b] := by
      match us, hl with
      | [a, b], _ => exact ⟨a, b, rfl⟩
    rfl
  · obtain ⟨b, a, c, m, _, rfl, _⟩ := h
    rfl
  · obtain ⟨b, a, c, m, rfl, rfl, hb, hn, hu, q⟩ := h
    refine ⟨_, pe_call GL (hr.mono (by decide)) rfl AL.g AL.F.kp AL.b .nil pass0 (pa_cons (pv 0) (pa_cons (pv 1) (pa_cons (pv 2) pa_nil))), ?_⟩
    exact ⟨_, rfl, _, rfl, _, rfl, b, a, c, m, rfl, hb, hn, hu, q⟩
theorem off_keep {cs : Cs} {H : Hp} {b : Addr} {o : HO} (l : Lay cs H) (e : H b = some o) (n : ∀ φ, o ≠ .ext φ) : FV.off cs H b = some o := by
  rw [off_out (lay_not l e n)]
  exact e
/-- what a call made without the cells, told with them -/
theorem same_on {cs : Cs} {H H' : Hp} (l : Lay cs H) (nd : (cs.map (·.1)).Nodup) (s : Same (FV.off cs H) H') (n : ∀ p ∈ cs, H' p.1 = none) : Same H (onn cs H') := fun b o e => by
  by_cases hb : b ∈ cs.map (·.1)
  · obtain ⟨p, hp, rfl⟩ := List.mem_map.mp hb
    rw [onn_lay nd p hp, ← l p hp]
    exact e
  · rw [onn_out hb]
    exact s b o (by rw [off_out hb]; exact e)
theorem on_keep {cs : Cs} {H : Hp} {b : Addr} {o : HO} (n : ∀ p ∈ cs, H p.1 = none) (e : H b = some o) : onn cs H b = some o := by
  rw [onn_out fun z => ?_]
  · exact e
  · obtain ⟨p, hp, rfl⟩ := List.mem_map.mp z
    rw [n p hp] at e
    cases e
theorem steps_pie {f c b0 : Addr} {F : NF} {b : Expr} {cs : Cs} {m B : Nat} {L : W} {H : Hp} {ok : List W → Prop} (o : LOk P w K mg base CX0 5 f F b ["most"] spPieL) (ft : Fits F.cl ["most"] cs [.int (m : Int)]) (hc : F.c = c) (h1 : H f = some (LamO f F b)) (h2 : H c = some (CodeO c F.qual)) (l : Lay cs H)
    (h0 : H b0 = some (.tup (tS [[]]))) (O : PieOk L m ok) (hB : ∀ j, (exAll (pieF m) L [[]] j).1.length ≤ B) (hB4 : B ≤ 400) :
    Steps P w K mg base kitS 5 H L (.ref b0) f [[]] (pieF m) B := by
  subst hc
  refine ⟨_, _, ok, kitS_is.mpr h0, callV_lok o cxon_0 ft, ⟨h1, h2, l⟩, fun H H' k ⟨a, b, c⟩ => ⟨k _ _ a, k _ _ b, fun p hp => k _ _ (c p hp)⟩, O.one, O.next, fun H v a c Q ⟨_, _, l⟩ hv hu hc q => ?_, hB, hB4⟩
  obtain ⟨b1, e1, hb0⟩ := hv
  subst e1
  have hb1 := kitS_is.mp ⟨b1, rfl, hb0⟩
  refine ⟨b1, a, c, m, rfl, rfl, off_keep l hb1 (fun _ z => nomatch z), O.few a hu, O.low a hu, fun t H' _ s ht n => ?_⟩
  exact q _ _ (same_on l ft.nd s n) (kitS_is.mpr (on_keep n ht))
theorem capP : ∀ y ∈ (lamSc (lamOf sPiecesB)).names, y.2 = .free → (defScope sPiecesB).names.lookup y.1 = some .cell ∨ (defScope sPiecesB).names.lookup y.1 = some .free := by decide +kernel
theorem scPi : FnScope ["cls", "letters", "most"] ["cls", "letters", "most"] (defScope sPiecesB) := ⟨rfl, rfl, rfl, by decide +kernel, rfl, by decide +kernel, by decide +kernel⟩
theorem ok_pieces {f cP PP : Addr} {oc kV dc pm ct dV : Value} {an od : Option Addr} {sl : Array (Option Value)} (lk : K.lookup f = some ⟨oc, od, .func (PySem.W.fnOf "pieces" "Box.pieces" (defArgs sPiecesB) (defBody sPiecesB) (defScope sPiecesB) dV kV dc pm an (.ref cP) ct), sl⟩) (hcd : PySem.W.codeIn K (.ref cP) "Box.pieces" = true)
    (TB : TabB base mg cP PP) (mem : (PP, qPie) ∈ T) (uniq : ∀ p ∈ T, p.1 = PP → p.2 = qPie) (M : TBx K mg C cD) (m3 : ∃ t, mg "_MAX_PIECES" = some (.int 3 t))
    (AL : Fn K mg "need_letters" sNeedLet ["letters"] fNL dNL) (GL : FnOk P w K mg base CX0 3 fNL dNL ["letters"] spNeedLet) (AN : Fn K mg "need_number" sNeedNum ["value", "least", "most"] fNN dNN) (GN : FnOk P w K mg base CX0 3 fNN dNN ["value", "least", "most"] spNeedNum)
    (AG : Fn K mg "_grown" sGrown ["letters", "start", "step"] fG dG) (GG : FnOk P w K mg base CX0 8 fG dG ["letters", "start", "step"] (spGrown P w K mg base kitS 5 cD)) (MI : Mk K C fB) (GI : FnOk P w K mg base CX0 3 fB dB ["self", "letters", "table"] (spBoxI C cD)) (bI : Binds K dB ["self", "letters", "table"] [])
    (Al : Fn K mg "_with_pieces" sWith ["seen", "letter", "most"] fl dl) (Gl : FnOk P w K mg base CX0 2 fl dl ["seen", "letter", "most"] spWith) :
    FnOk P w K mg base CX0 9 f (PySem.W.fnOf "pieces" "Box.pieces" (defArgs sPiecesB) (defBody sPiecesB) (defScope sPiecesB) dV kV dc pm an (.ref cP) ct) ["cls", "letters", "most"] (spPieBox T C) := by
  obtain ⟨tm, most⟩ := m3
  refine fn_of lk hcd scPi (fun vs H Q E h => ?_) (fun A outer s H vs Q E hr h => ?_)
  · obtain ⟨L, m, B, ok, rfl, _⟩ := h
    rfl
  · obtain ⟨L, n, B, ok, rfl, hL, hn, tabs, O, hB, hB4, q⟩ := h
    have hr3 : Room 3 _ := hr.mono (by decide)
    have hr4 : Room 4 _ := hr.mono (by decide)
    refine ⟨_, pss_cons (ps_expr (pe_call GL hr3 rfl AL.g AL.F.kp AL.b .nil pass0 (pa_cons (pv 1) pa_nil)))
      (pss_cons (ps_expr (pe_call GN hr3 rfl AN.g AN.F.kp AN.b .nil pass0 (pa_cons (pv 2) (pa_cons pe_int (pa_cons (pe_glob rfl most (show RelV (.int 3) (.int 3 tm) from ⟨tm, rfl⟩)) pa_nil)))))
      (pss_one (ps_ret (pe_makeV (i := 0) (E := E0) MI GI hr4 rfl (.inl rfl) bI .nil pass0 (pa_cons (pv 1) (pa_cons
        (pe_callC (fr := ["most"]) (js := [2]) GG hr rfl AG.g AG.F.kp AG.b (fun ok => Caps.made (scope := lamSc (lamOf sPiecesB)) ok capP (by decide +kernel) rfl)
          (fun y c h => by
            rcases clo_only h with z | z
            · have : ∀ p ∈ (lamSc (lamOf sPiecesB)).names, p.2 = .free → p.1 ∈ (["most"] : List Str) := by decide +kernel
              exact this _ z rfl
            · cases z) (by decide +kernel) (fun _ _ => rfl)
          (pa_cons (pv 1) (pa_cons (pe_tup (pa_cons pe_str pa_nil)) (pa_cons (pe_lamV (T := T) TB rfl mem uniq rfl
            (fun ok y hy e => ok.has _ (.inl (by
              have : ∀ p ∈ (lamSc (lamOf sPiecesB)).names, p.2 = .free → (defScope sPiecesB).names.lookup p.1 = some .cell := by decide +kernel
              exact this _ hy e)))) pa_nil))))
        pa_nil)))))), ?_⟩
    refine ⟨_, rfl, L, rfl, hL, fun H1 s1 => ⟨_, rfl, (n : Int), 0, 3, rfl, by omega, by omega, ?_⟩⟩
    have tabs1 := tabs.ext s1
    refine ⟨rfl, _, rfl, _, rfl, by show 1 ≤ sizeLine; decide, fun t0 ht0 => ?_⟩
    have sT := same_upd (o := .tup [V.str ""]) ht0
    have tabsT := tabs1.ext sT
    have g0 : Grows T H (upd H1 t0 (.tup [V.str ""])) := grows_same (grows_same (Grows.refl tabs) s1) sT
    have a0 : (upd H1 t0 (.tup [V.str ""])) t0 = some (.tup (tS [[]])) := upd_same
    show tLamV _ T _ _ _ _ _ _
    generalize upd H1 t0 (.tup [V.str ""]) = HT at sT tabsT g0 a0 ⊢
    refine ⟨tabsT, fun fv c H2 nf gr hf hc => ?_⟩
    refine ⟨[.int (n : Int)], rfl, fun cs ft none_ => ?_⟩
    have out : ∀ {b : Addr} {o : HO}, H2 b = some o → onn cs H2 b = some o := fun {b o} e => by
      rw [onn_out fun z => ?_]
      · exact e
      · obtain ⟨p, hp, rfl⟩ := List.mem_map.mp z
        rw [none_ p hp] at e
        cases e
    refine ⟨L, .ref t0, [[]], fv, pieF n, B, rfl, hL.few, steps_pie (lok_pie rfl rfl Al Gl) ft rfl (out hf) (out hc) (onn_lay ft.nd) (out (gr.1 _ _ a0 fun _ z => nomatch z)) O hB hB4, fun g H3 ng s3 mk => ⟨lay_same ft.nd s3, ?_⟩⟩
    have l3 := lay_same ft.nd s3
    have s4 := same_off none_ s3
    have mk4 := madeAt_off l3 mk
    generalize FV.off cs H3 = H4 at s4 mk4 ⊢
    intro x dx hx hdx ne
    have s5 : Same H4 (upd (upd H4 dx (.own x)) x (.ins C dx [])) := fun b o z => by rw [upd_ne (ne_of_none z hx), upd_ne (ne_of_none z hdx)]; exact z
    refine ⟨x, dx, L, g, _, rfl, hL, upd_same, fun z => ?_, mk4.same s5, fun r H6 h6 k6 rows => ⟨rfl, ?_⟩⟩
    · obtain ⟨gx, r, e, _⟩ := mk4
      rw [z, hx] at e
      cases e
    · have s6 : Same H4 H6 := fun b o z => k6 b o (s5 _ _ z) (ne_of_none z hx)
      have gr2 : Grows T H H2 := ⟨fun b o e n => gr.1 b o (g0.1 b o e n) n, gr.2.1, fun d z => g0.2.2 d (gr.2.2 d z)⟩
      have gr6 : Grows T H H6 := grows_same (grows_same gr2 s4) s6
      exact q x H6 (gr2.2.2 x (s4.free hx)) gr6 ⟨dx, r, h6, rows⟩
end
end WK

set_option Elab.async false
set_option linter.all false
set_option maxRecDepth 100000
set_option maxHeartbeats 8000000
/-! for x, y in zip(t, u), t a text and u a tuple as long. -/
namespace ZPT
open PySem PySem.Spec PyProof.Rows L2
/-- each sign with the tuple's item, in a new pair -/
def ZiST (K : PySem.W.Frag) (x : Str) (a : Addr) (ys : List V) : It :=
  ⟨fun i H => SqT K H a ys ∧ i < x.cps.size ∧ i < ys.length, fun i H v H' => ∃ T c y, v = .ref T ∧ H T = none ∧ H' = upd H T (.tup [.str ⟨#[c]⟩, y]) ∧ x.cps[i]? = some c ∧ ys[i]? = some y, fun i H => SqT K H a ys ∧ i = x.cps.size ∧ i ≤ ys.length⟩
theorem tup_is {h : Heap} {a : Addr} {its : Array Value} (p : IsTup h a its) : h.IsTuple a its := let ⟨o, e, c, n, d⟩ := p; ⟨o, e, c, n, d⟩
/-- where it stands, i pairs out -/
def At (x : Str) (t : Tok) (a z TI TO i1 i2 : Addr) (i : Nat) (h : Heap) : Prop :=
  IsZip h z TI TO .none ∧ IsTupOf2 h TI (.ref i1) (.ref i2) ∧ (∃ p q, IsTupOf2 h TO p q) ∧ h.IsStrIter i1 (strIterType x) x t i ∧ h.IsTupleIter i2 a i
theorem turn_st {P : Program} {w : World} {K : PySem.W.Frag} {elts : List Expr} {kk : Nat} {tpos : Pos} (x : Str) (t : Tok) (a : Addr) (ys : List V) {z TI TO i1 i2 : Addr} (S : ZipSep2 z TI TO i1 i2 [i1] [i2, a]) (hai : a ≠ i2) :
    Turn P w K (.Tuple elts kk tpos) (ZiST K x a ys) [z, TI, TO, i1, i2] z (At x t a z TI TO i1 i2) where
  mem := .head _
  obj := fun i h ⟨hz, h1, ⟨p, q, h2⟩, ⟨o3, h3, _, d3⟩, ⟨o4, h4, _, d4⟩⟩ b hb => by
    simp only [List.mem_cons, List.not_mem_nil, or_false] at hb
    rcases hb with rfl | rfl | rfl | rfl | rfl
    · exact ⟨_, hz, fun v q => nomatch q⟩
    · exact ⟨_, h1, fun v q => nomatch q⟩
    · exact ⟨_, h2, fun v q => nomatch q⟩
    · exact ⟨o3, h3, fun v q => nomatch d3.symm.trans q⟩
    · exact ⟨o4, h4, fun v q => nomatch d4.symm.trans q⟩
  keep := fun i h h' ⟨hz, h1, ⟨p, q, h2⟩, ⟨o3, e3, r3⟩, h4⟩ k => ⟨k z (by simp) _ hz, k TI (by simp) _ h1, ⟨p, q, k TO (by simp) _ h2⟩, ⟨o3, k i1 (by simp) _ e3, r3⟩, h4.at fun o e => k i2 (by simp) o e⟩
  item := by
    intro X hP hw hK hc i pins s σ H E I hf ⟨hz, h1, ⟨p, q, h2⟩, h3, h4⟩ ⟨hT, hi1, hi2⟩
    subst hP hw hK
    obtain ⟨its, rv, pt, _⟩ := I.tuple hT
    have hl : its.toArray.size = ys.length := by rw [List.size_toArray, rv.length]
    have D1 := Draws.text (prog := X.prog) (w := X.w) (A := X.A.in1) (I.ok.hd hc) i1 x t
    have D2 := Draws.tuple (prog := X.prog) (w := X.w) (A := X.A.in1) (I.ok.hd hc) i2 a hai its.toArray
    have zlt : z < s.heap.objs.size := Heap.lt_size hz
    have old : ∀ b ∈ [z, TI, TO, i1, i2], b < s.heap.objs.size := fun b hb => by
      simp only [List.mem_cons, List.not_mem_nil, or_false] at hb
      rcases hb with rfl | rfl | rfl | rfl | rfl
      · exact zlt
      · exact Heap.lt_size h1
      · exact Heap.lt_size h2
      · obtain ⟨o, e, _⟩ := h3
        exact Heap.lt_size e
      · obtain ⟨o, e, _⟩ := h4
        exact Heap.lt_size e
    refine wpAny_pyNext_zipD2_item S D1 D2 hz h1 h2 h3 ⟨h4, tup_is pt⟩ hi1 (by rw [hl]; exact hi2) fun u v h' tk hu hv z1 TO1 n1 n2 made size kp => ?_
    obtain ⟨c, tc, hc', rfl⟩ := hu
    obtain ⟨y, hy⟩ : ∃ y, ys[i]? = some y := ⟨_, List.getElem?_eq_getElem hi2⟩
    obtain ⟨v2, e2, ry⟩ := rv.get hy
    have ev : v2 = v := Option.some.inj (e2.symm.trans (by rw [← List.getElem?_toArray]; exact hv))
    subst ev
    refine ⟨_, rfl, wpAny_letOwnedTupleGo_zip (s := { s with heap := h', toks := tk }) z1 fun h'' z2 sb => ?_⟩
    have free : H s.heap.objs.size = none := I.hok.fresh (Nat.le_refl _)
    have pair : h''.get? s.heap.objs.size = some { cls := .type "tuple", data := .seq #[.str ⟨#[c]⟩ tc, v2] } := (sb.2 _ (Nat.ne_of_gt zlt)).trans made
    have new : ObjOk X.prog X.w (upd H s.heap.objs.size (.tup [.str ⟨#[c]⟩, y])) h'' s.heap.objs.size (.tup [.str ⟨#[c]⟩, y]) := ⟨by show 2 ≤ sizeLine; decide, [.str ⟨#[c]⟩ tc, v2], .cons ⟨tc, rfl⟩ (.cons ry .nil), _, pair, rfl, _, rfl⟩
    have stay : ∀ b o, b ∉ [z, TI, TO, i1, i2] → s.heap.get? b = some o → h''.get? b = some o := fun b o hb e => (sb.2 b fun w => hb (by simp [w])).trans (kp b o (fun w => hb (by simp [w])) (fun w => hb (by simp [w])) (fun w => hb (by simp [w])) (fun w => hb (by simp [w])) e)
    refine ⟨.ref s.heap.objs.size, _, I.turnedNew (ch := [z, TI, TO, i1, i2]) stay hf (Nat.le_refl _) new, rfl, ⟨_, c, y, rfl, free, rfl, hc', hy⟩, ⟨z2, ?_, ⟨_, _, (sb.2 _ S.TOz).trans TO1⟩, ?_, ?_⟩, fun b hb => ?_⟩
    · exact (sb.2 _ S.TIz).trans (kp _ _ S.TIz S.TITO S.TIi1 S.TIi2 h1)
    · obtain ⟨o, e, r⟩ := n1
      exact ⟨o, (sb.2 _ S.zi1.symm).trans e, r⟩
    · exact n2.1.at fun o e => (sb.2 _ S.zi2.symm).trans e
    · rw [upd_ne (Nat.ne_of_lt (old b hb))]
      exact (hf b hb).1
  done := by
    intro X hP hw hK hc i pins s σ H E I hf ⟨hz, h1, ⟨p, q, h2⟩, h3, h4⟩ ⟨hT, hi1, hi2⟩
    subst hP hw hK
    obtain ⟨its, rv, pt, _⟩ := I.tuple hT
    have hl : its.toArray.size = ys.length := by rw [List.size_toArray, rv.length]
    have D1 := Draws.text (prog := X.prog) (w := X.w) (A := X.A.in1) (I.ok.hd hc) i1 x t
    have D2 := Draws.tuple (prog := X.prog) (w := X.w) (A := X.A.in1) (I.ok.hd hc) i2 a hai its.toArray
    exact wpAny_pyNext_zipD2_end S D1 D2 hz h1 h2 h3 ⟨h4, tup_is pt⟩ (Nat.le_of_eq hi1) (by rw [hl]; exact hi2) (.inl hi1) fun h' tk kp => ⟨rfl, I.turnedL (t' := tk) (ch := [z, TI, TO, i1, i2]) (fun b o hb e =>
      kp b o (fun w => hb (by simp [w])) (fun w => hb (by simp [w])) (fun w => hb (by simp [w])) (fun w => hb (by simp [w])) e) hf⟩
  self := fun _ _ _ _ _ st q => wpAny_pyIter_zip st.1 q
def iZipST (K : PySem.W.Frag) (ta : TA) : TI := fun σ H R => ta σ H fun vs H1 => ∃ x a ys, vs = [.str x, .ref a] ∧ SqT K H1 a ys ∧ R (ZiST K x a ys) H1
theorem pi_zipST {X : Cx} {e e2 : Expr} {ta : TA} {p pos tpos : Pos} {elts : List Expr} {kk : Nat} (hg : Gl X "zip") (hm : X.mg "zip" = none) (ha : PA X [e, e2] ta)
    (hs : starEach [e, e2] X.env = (false, eval e X.env) :: starEach [e2] X.env := by rfl) (hpl : (backTo pos (starEach [e2] X.env)).any (·.1) = false := by rfl) :
    PI X (.Tuple elts kk tpos) (.Call (.Name "zip" p) [e, e2] [] pos) (iZipST X.K ta) := by
  refine ⟨fun pins s σ H R I h => Call_ (ld_blt I hg hm PyProof.Rows.boot_zip (PyProof.Rows.callWith_type1 (thn (ha.run pos pins s σ H _ I h) fun us s1 ⟨vs, H1, I1, r1, x, a, ys, ex, hT, q⟩ => ?_) hs hpl))⟩
  subst ex
  cases r1 with
  | cons r rr =>
   cases rr with
   | cons r' rr =>
    cases rr
    obtain ⟨t, rfl⟩ := r
    cases r'
    obtain ⟨its, rv, pt, _⟩ := I1.tuple hT
    obtain ⟨o, ho, _⟩ := id pt
    have lt := Heap.lt_size ho
    refine zip_begins2 (begins_text x t) (begins_tuple a its.toArray) trivial (tup_is pt) fun h' hz hTI hTO g1 g2 size kp => wpAny_pyIter_zip hz ?_
    have fresh : ∀ b ∈ [s1.heap.objs.size + 4, s1.heap.objs.size + 2, s1.heap.objs.size + 3, s1.heap.objs.size, s1.heap.objs.size + 1], FpOk X pins H1 b := fun b hb => by
      have le : s1.heap.objs.size ≤ b := by
        have hb' : b = s1.heap.objs.size + 4 ∨ b = s1.heap.objs.size + 2 ∨ b = s1.heap.objs.size + 3 ∨ b = s1.heap.objs.size ∨ b = s1.heap.objs.size + 1 := by simpa using hb
        rcases hb' with z | z | z | z | z <;> rw [z] <;> first | exact Nat.le_refl _ | exact Nat.le_add_right _ _
      exact I1.fpOk le (I1.hok.fresh le)
    have S := zip_sep2 (N := s1.heap.objs.size) (fp1 := []) (fp2 := [a]) (fun _ h => (List.not_mem_nil h).elim) fun b hb => by rw [List.mem_singleton.mp hb]; exact lt
    exact ⟨s1.heap.objs.size + 4, [s1.heap.objs.size + 4, s1.heap.objs.size + 2, s1.heap.objs.size + 3, s1.heap.objs.size, s1.heap.objs.size + 1], _, _, H1, rfl, I1.kept (t' := s1.toks) kp, turn_st x t a ys S (Nat.ne_of_lt (Nat.lt_succ_of_lt lt)), ⟨hz, hTI, ⟨_, _, hTO⟩, ⟨_, g1, rfl, rfl⟩, ⟨_, g2, rfl, rfl⟩⟩, fresh, q⟩
theorem walk_st {K : PySem.W.Frag} {x : Str} {a : Addr} {ys : List V} (hl : x.cps.size = ys.length) : Walk (ZiST K x a ys) x.cps.size (fun H => SqT K H a ys) (YPair (fun i => (x.cps[i]?).map fun c => V.str ⟨#[c]⟩) (fun i => ys[i]?)) :=
  ⟨fun i H hi q => ⟨q, hi, by omega⟩, fun H q => ⟨q, rfl, by omega⟩, fun i H v H' _ _ ⟨T, c, y, e1, e2, e3, e4, e5⟩ => ⟨T, _, y, e1, e2, e3, by show Option.map _ (x.cps[i]?) = _; rw [e4] <;> rfl, e5⟩⟩
end ZPT

set_option Elab.async false
set_option linter.all false
set_option maxRecDepth 100000
set_option maxHeartbeats 4000000
/-! A nested def that keeps cells of its own beside the captured ones. -/
namespace NCX
open PySem PySem.Spec PyProof.Rows L2 LamX NdefX
/-- the new cells lie ahead of the captured ones -/
theorem cf_app : ∀ (names : List (Str × NameKind)) (n : Nat) (acc : List (Str × Addr)), cellsFrom n names acc = cellsFrom n names [] ++ acc
  | [], _, _ => rfl
  | (x, k) :: r, n, acc => by
    unfold cellsFrom
    split
    · rw [cf_app r (n + 1) ((x, n) :: acc), cf_app r (n + 1) [(x, n)], List.append_assoc] <;> rfl
    · exact cf_app r n acc
theorem look_app {α : Type} {x : Str} : ∀ (l m : List (Str × α)), (l ++ m).lookup x = (l.lookup x).or (m.lookup x)
  | [], _ => rfl
  | (y, a) :: l, m => by
    rw [List.cons_append, List.lookup_cons, List.lookup_cons]
    cases x == y with
    | true => rfl
    | false => exact look_app l m
theorem own_look {names : List (Str × NameKind)} {n : Nat} {cl : List (Str × Addr)} {x : Str} {c : Addr} (h : (cellsFrom n names []).lookup x = some c) : (cellsFrom n names cl).lookup x = some c := by
  rw [cf_app, look_app, h] <;> rfl
theorem two_look {names : List (Str × NameKind)} {n : Nat} {cl : List (Str × Addr)} {x : Str} {c : Addr} (h : (cellsFrom n names cl).lookup x = some c) : (cellsFrom n names []).lookup x = some c ∨ ((cellsFrom n names []).lookup x = none ∧ cl.lookup x = some c) := by
  rw [cf_app, look_app] at h
  cases e : (cellsFrom n names []).lookup x with
  | some d =>
    rw [e] at h
    exact .inl h
  | none =>
    rw [e] at h
    exact .inr ⟨rfl, h⟩
theorem own_only : ∀ (names : List (Str × NameKind)) (n : Nat) (acc : List (Str × Addr)) {x : Str} {c : Addr}, (cellsFrom n names acc).lookup x = some c → (∃ q ∈ names, q.1 = x ∧ q.2 = .cell) ∨ acc.lookup x = some c
  | [], _, _, _, _, h => .inr h
  | (y, k) :: r, n, acc, x, c, h => by
    unfold cellsFrom at h
    split at h
    · rename_i hk
      rcases own_only r _ _ h with ⟨q, h1, h2⟩ | z
      · exact .inl ⟨q, .tail _ h1, h2⟩
      · rw [List.lookup_cons] at z
        cases e : x == y with
        | true => exact .inl ⟨_, .head _, (beq_iff_eq.mp e).symm, beq_iff_eq.mp hk⟩
        | false =>
          rw [e] at z
          exact .inr z
    · rcases own_only r _ _ h with ⟨q, h1, h2⟩ | z
      · exact .inl ⟨q, .tail _ h1, h2⟩
      · exact .inr z
section
variable {M : Model} {A : Around} {E : Value → Shared → Prop} {s₀ s : Shared} {env : Env} {cs : List (Str × Addr)}
/-- the parameters are stored, where the frame's own cells are cs -/
theorem bindN (f : Str × Value → PUnit → Sem (ForInStep PUnit)) (hf : ∀ n v u, f (n, v) u = (do storeName env n v; pure (.yield ⟨⟩))) (hk : env.scope.kind = .function) :
    ∀ (binds : List (Str × Value)) (m cm : Str → Option Value) (s : Shared) (Q : PUnit → Shared → Prop), InCallC s₀ env.locals m cs cm s →
      (∀ x ∈ binds, env.kindOf x.1 = some .local ∨ (env.kindOf x.1 = some .cell ∧ ∃ c, env.cells.lookup x.1 = some c ∧ cs.lookup x.1 = some c)) →
      (∀ s', InCallC s₀ env.locals (bindL env.kindOf binds m) cs (bindC env.kindOf binds cm) s' → Q ⟨⟩ s') → wpAny M A (forIn binds ⟨⟩ f) Q E s
  | [], m, cm, s, Q, x, _, h => by
    rw [List.forIn_nil]
    exact wpAny_pure (h s x)
  | (n, v) :: r, m, cm, s, Q, x, kinds, h => by
    rw [List.forIn_cons, hf]
    have rest := fun y hy => kinds y (List.mem_cons_of_mem _ hy)
    have same : storeName env n v = storeName { env with cells := cs } n v := by
      rcases kinds (n, v) (.head _) with hl | ⟨hl, c, h1, h2⟩
      · unfold storeName
        have hl2 : ({ env with cells := cs } : Env).kindOf n = some .local := hl
        rw [hl, hl2]
        rfl
      · unfold storeName
        have hl2 : ({ env with cells := cs } : Env).kindOf n = some .cell := hl
        rw [hl, hl2]
        simp only [PySem.cellOf, h1, h2]
        rfl
    rw [same]
    rcases kinds (n, v) (.head _) with hl | ⟨hl, c, h1, h2⟩
    · refine wpAny_bind (wpAny_bind (stLC (env := { env with cells := cs }) x hk hl fun s' x' => wpAny_pure (bindN f hf hk r _ _ s' Q x' rest fun s'' x'' => h s'' ?_)))
      unfold bindL bindC
      rw [if_pos hl, if_pos hl]
      exact x''
    · have hnl : ¬ env.kindOf n = some .local := by rw [hl]; decide
      refine wpAny_bind (wpAny_bind (stCC (env := { env with cells := cs }) x hk hl h2 fun s' x' => wpAny_pure (bindN f hf hk r _ _ s' Q x' rest fun s'' x'' => h s'' ?_)))
      unfold bindL bindC
      rw [if_neg hnl, if_neg hnl]
      exact x''
theorem frame_made {scope : Scope} {globals : Addr} {cl : List (Str × Addr)} {binds : List (Str × Value)} {qual : Str} {func : Option Addr} {code : Value} {builtins : Addr} {Q : Env → Shared → Prop} (hk : scope.kind = .function)
    (kinds : ∀ x ∈ binds, scope.names.lookup x.1 = some .local ∨ scope.names.lookup x.1 = some .cell)
    (h : ∀ env, env = newEnv scope s.heap.objs.size globals (cellsFrom (s.heap.objs.size + 1) scope.names cl) qual func code none builtins →
      ∀ s', InCallC s env.locals (bindL env.kindOf binds fun _ => none) (cellsFrom (s.heap.objs.size + 1) scope.names []) (bindC env.kindOf binds fun _ => none) s' → Q env s') :
    wpAny M A (newFunctionEnv scope globals cl binds qual func code none builtins) Q E s := by
  simp only [newFunctionEnv, Option.isSome_none, Bool.false_eq_true, if_false]
  refine wpAny_bind (wpAny_alloc (wpAny_bind (wpAny_layCells _ (fun name kind cells => by cases hkc : kind == NameKind.cell <;> simp [hkc]) _ _ _ _ ?_)))
  have size : (s.heap.push { cls := .type "frame", data := .dict #[] }).objs.size = s.heap.objs.size + 1 := Heap.size_push ..
  have ok := cellsFrom_ok scope.names (s.heap.push { cls := .type "frame", data := .dict #[] }) (s.heap.objs.size + 1) [] ⟨fun _ _ hm => (nomatch hm), List.Pairwise.nil⟩ (Nat.le_of_eq size.symm)
  rw [size] at ok
  rw [show ({ s with heap := s.heap.push { cls := .type "frame", data := .dict #[] } } : Shared).heap.objs.size = s.heap.objs.size + 1 from size]
  refine wpAny_bind (bindN (s₀ := s) (env := newEnv scope s.heap.objs.size globals (cellsFrom (s.heap.objs.size + 1) scope.names cl) qual func code none builtins) _ (fun _ _ _ => rfl) hk binds (fun _ => none) (fun _ => none) _ _
    ⟨⟨⟨_, _, rfl⟩, (Heap.Ns.new s.heap (.type "frame")).keeps (pushCells_keeps _ _), fun b o e => pushCells_keeps _ _ b o (Heap.get?_push_of_some _ e), Nat.le_refl _⟩, fun n c hc => (ok.empty n c (mem_of_lookup hc)).1, ok.apart, fun n c hm => (ok.empty n c hm).2⟩
    (fun x hx => (kinds x hx).imp id fun z => ?_) fun s' x => wpAny_pure (h _ rfl s' x))
  obtain ⟨c, hc⟩ := Option.isSome_iff_exists.mp (PySem.W.cellsFrom_some scope.names (s.heap.objs.size + 1) [] (.inl z))
  exact ⟨z, c, own_look hc, hc⟩
end
/-- how a def's names lie: those it is asked with, those it caught, its own; what it is asked with may be kept in a cell -/
structure NScopeC (N asked caught : List Str) (sc : Scope) : Prop where
  plain : sc.kind = .function ∧ sc.isCoroutine = false ∧ sc.isGenerator = false
  lie : ∃ own : List Str, N = asked ++ (caught ++ own)
  nd : N.Nodup
  ask : ∀ p ∈ asked, sc.names.lookup p = some .local ∨ sc.names.lookup p = some .cell
  got : ∀ p ∈ caught, sc.names.lookup p = some .free ∧ (p, NameKind.cell) ∉ sc.names
  only : ∀ q ∈ sc.names, q.2 = .free → q.1 ∈ caught
/-- what a slot holds at the entry: what was asked, or what was caught -/
theorem slot_of {N asked caught own : List Str} (e : N = asked ++ (caught ++ own)) {vs : List V} {ws : List (Option V)} (la : vs.length = asked.length) (lc : ws.length = caught.length) {i : Nat} {y : Str} {v : V} (hy : N[i]? = some y) (hv : (startF N vs ws)[i]? = some (some v)) :
    (asked[i]? = some y ∧ vs[i]? = some v) ∨ ∃ j : Nat, caught[j]? = some y ∧ ws[j]? = some (some v) := by
  subst e
  unfold startF at hv
  rcases Nat.lt_or_ge i asked.length with lt | ge
  · left
    rw [List.getElem?_append_left (by rw [List.length_map]; omega), List.getElem?_map, Option.map_eq_some_iff] at hv
    obtain ⟨z, h1, h2⟩ := hv
    cases h2
    exact ⟨by rw [List.getElem?_append_left lt] at hy; exact hy, h1⟩
  · right
    rw [List.getElem?_append_right ge] at hy
    rw [List.getElem?_append_right (by rw [List.length_map]; omega), List.length_map, la] at hv
    generalize i - asked.length = j at hy hv
    rcases Nat.lt_or_ge j caught.length with lt | ge2
    · rw [List.getElem?_append_left (Nat.lt_of_lt_of_eq lt lc.symm)] at hv
      rw [List.getElem?_append_left lt] at hy
      exact ⟨j, hy, hv⟩
    · rw [List.getElem?_append_right (Nat.le_trans (Nat.le_of_eq lc) ge2)] at hv
      cases (List.mem_replicate.mp (List.mem_of_getElem? hv)).2
abbrev envC (F : NF) (f L : Addr) : Env := PySem.W.envX F.qual F.scope L f (.ref F.c) (cellsFrom (L + 1) F.scope.names F.cl)
/-- where its body runs -/
def ccx (CX : CXT) (P : Program) (w : World) (K : PySem.W.Frag) (mg : Str → Option Value) (base : Heap) (N : List Str) (F : NF) (f : Addr) (A : Around) (outer : List Env) (s : Shared) (H : Hp) (E : XK) : Cx :=
  let here := envC F f s.heap.objs.size
  { prog := P, w := w, K := K, mg := mg, base := base, A := A.deeper here, N := N, s_0 := s, H_0 := H, env := here, outer := outer, stack := here :: outer, ex := [], calm := true, fn := fun _ => false, pn := [],
    xe := fun e s' => wpAny (model P w) (A.deeper here) (leaving here e) (fun _ s'' => CX outer H s E e s'') (fun e' s'' => CX outer H s E e' s'') s' }
section
variable {CX : CXT} {P : Program} {w : World} {K : PySem.W.Frag} {mg : Str → Option Value} {base : Heap} {N ps fr : List Str} {F : NF} {f : Addr} {A : Around} {outer : List Env} {s s1 : Shared} {H : Hp} {E : XK} {us : List Value} {vs : List V} {ws : List (Option V)} {k : Nat} {sp : List (Option V) → Sp}
/-- a name asked, once it was stored -/
theorem asked_at (S : NScopeC N ps fr F.scope) {i : Nat} {y : Str} {u : Value} (hp : ps[i]? = some y) (hu : us[i]? = some u)
    (x : InCallC s s.heap.objs.size (bindL (envC F f s.heap.objs.size).kindOf (ps.zip us) fun _ => none) (cellsFrom (s.heap.objs.size + 1) F.scope.names []) (bindC (envC F f s.heap.objs.size).kindOf (ps.zip us) fun _ => none) s1) :
    (F.scope.names.lookup y = some .local ∧ bindL (envC F f s.heap.objs.size).kindOf (ps.zip us) (fun _ => none) y = some u) ∨
    (F.scope.names.lookup y = some .cell ∧ ∃ c, (cellsFrom (s.heap.objs.size + 1) F.scope.names F.cl).lookup y = some c ∧ s1.heap.IsCell c (some u)) := by
  obtain ⟨own, e⟩ := S.lie
  have once : ps.Nodup := (List.nodup_append.mp (e ▸ S.nd)).1
  rcases S.ask y (List.mem_of_getElem? hp) with here | here
  · exact .inl ⟨here, bindL_get once hp hu here⟩
  · obtain ⟨c, hc⟩ := Option.isSome_iff_exists.mp (PySem.W.cellsFrom_some F.scope.names (s.heap.objs.size + 1) [] (.inl here))
    have held := x.cell y c hc
    rw [bindC_get once hp hu (fun z => by cases here.symm.trans z)] at held
    exact .inr ⟨here, c, own_look hc, held⟩
/-- a caught name finds the cell that it was caught with -/
theorem caught_at (S : NScopeC N ps fr F.scope) {n : Nat} {y : Str} {c : Addr} (hy : y ∈ fr) (hc : F.cl.lookup y = some c) : (cellsFrom n F.scope.names F.cl).lookup y = some c := by
  rw [cf_app, look_app]
  cases e : (cellsFrom n F.scope.names []).lookup y with
  | none => exact hc
  | some d =>
    rcases own_only _ _ _ e with ⟨⟨q1, q2⟩, hq, rfl, rfl⟩ | z
    · exact absurd hq (S.got _ hy).2
    · cases z
theorem inv_startC (S : NScopeC N ps fr F.scope) (hd : A.handled = none) (e0 : Env0 P w K mg base A outer s H) (hl : vs.length = ps.length) (r : Vals vs us) (C : CellsAt F.cl fr ws s.heap H)
    (x : InCallC s s.heap.objs.size (bindL (envC F f s.heap.objs.size).kindOf (ps.zip us) fun _ => none) (cellsFrom (s.heap.objs.size + 1) F.scope.names []) (bindC (envC F f s.heap.objs.size).kindOf (ps.zip us) fun _ => none) s1) :
    Inv (ccx CX P w K mg base N F f A outer s H E) [] (startF N vs ws) H s1 := by
  obtain ⟨own, lie⟩ := S.lie
  have kept := x.done
  obtain ⟨_, tk, rfl, hk⟩ := kept
  have none_out : ∀ b : Addr, ¬ b ∈ (ccx CX P w K mg base N F f A outer s H E).ex := fun b z => List.not_mem_nil (show b ∈ ([] : List Addr) from z)
  have before : ∀ {y : Str} {c : Addr}, F.cl.lookup y = some c → c < s.heap.objs.size := fun {y c} e => (C.all y c e).2.elim fun _ z => z.elim fun _ z => Heap.lt_size z.1
  have after : ∀ {y : Str} {c : Addr}, (cellsFrom (s.heap.objs.size + 1) F.scope.names []).lookup y = some c → s.heap.objs.size < c := fun {y c} e => x.above y c (mem_of_lookup e)
  have found : ∀ y : Str, F.scope.names.lookup y = some .cell ∨ F.scope.names.lookup y = some .free → ∃ c, (cellsFrom (s.heap.objs.size + 1) F.scope.names F.cl).lookup y = some c := fun y hy => by
    rcases hy with z | z
    · exact Option.isSome_iff_exists.mp (PySem.W.cellsFrom_some _ _ _ (.inl z))
    · have inF := S.only _ (mem_of_lookup z) rfl
      obtain ⟨j, hj⟩ := List.mem_iff_getElem?.mp inF
      obtain ⟨c, hc, _⟩ := C.has j y hj
      exact ⟨c, caught_at S inF hc⟩
  have one : ∀ (y z : Str) (c : Addr), (cellsFrom (s.heap.objs.size + 1) F.scope.names F.cl).lookup y = some c → (cellsFrom (s.heap.objs.size + 1) F.scope.names F.cl).lookup z = some c → y = z := fun y z c h1 h2 => by
    rcases two_look h1 with a | ⟨_, a⟩ <;> rcases two_look h2 with b | ⟨_, b⟩
    · exact name_of_addr x.apart (mem_of_lookup a) (mem_of_lookup b)
    · exact absurd (Nat.lt_trans (after a) (before b)) (Nat.lt_irrefl _)
    · exact absurd (Nat.lt_trans (after b) (before a)) (Nat.lt_irrefl _)
    · exact C.inj y z c a b
  have slots : ∀ (i : Nat) (y : Str) (v : V), N[i]? = some y → (startF N vs ws)[i]? = some (some v) → ∃ u, L2.RelV v u ∧ ((F.scope.names.lookup y = some .local ∧ bindL (envC F f s.heap.objs.size).kindOf (ps.zip us) (fun _ => none) y = some u) ∨
      ((F.scope.names.lookup y = some .cell ∨ F.scope.names.lookup y = some .free) ∧ ∃ c, (cellsFrom (s.heap.objs.size + 1) F.scope.names F.cl).lookup y = some c ∧ Heap.IsCell _ c (some u))) := fun i y v hy hv => by
    rcases slot_of lie hl C.len hy hv with ⟨a, b⟩ | ⟨j, a, b⟩
    · obtain ⟨u, hu, rv⟩ := r.get b
      exact ⟨u, rv, (asked_at S a hu x).imp id fun z => ⟨.inl z.1, z.2⟩⟩
    · obtain ⟨c, hc, told⟩ := C.has j y a
      obtain ⟨u, ru, o, ho, hd⟩ := told v b
      have inF := List.mem_of_getElem? a
      exact ⟨u, ru, .inr ⟨.inr (S.got y inF).1, c, caught_at S inF hc, o, hk _ _ ho, hd⟩⟩
  refine ⟨⟨e0.mod, S.plain.1, rfl, rfl, Nat.le_refl _, one, found, fun y c h _ => (Bool.false_ne_true h).elim, fun _ => hd, Around.frames_deeper e0.frames, .inr ⟨rfl, rfl⟩, fun b z => absurd z (none_out b), e0.bs, e0.bsz, fun b _ _ => none_out b, fun b z => absurd z (none_out b), e0.funs, e0.frf⟩,
    rfl, e0.bare, Un.kept hk, ⟨_, x.toInCall.ns, fun i y v a b _ => slots i y v a b⟩, fun y c h => ?_, e0.hok.fresh (Nat.le_refl _), fun y c h => ?_, fun p hp => (List.not_mem_nil hp).elim, e0.hok.kept hk, ?_⟩
  · rcases two_look h with a | ⟨_, a⟩
    · exact ⟨_, x.cell y c a⟩
    · exact (C.all y c a).2.elim fun v z => z.elim fun o z => ⟨v, o, hk _ _ z.1, z.2⟩
  · exact (two_look h).elim (fun a => e0.hok.fresh (Nat.le_of_lt (after a))) fun a => (C.all y c a.2).1
  · have lens := congrArg List.length lie
    have lc := C.len
    simp only [List.length_append] at lens
    show (List.map some vs ++ (ws ++ List.replicate (N.length - vs.length - ws.length) none)).length = N.length
    simp only [List.length_append, List.length_map, List.length_replicate]
    omega
/-- what a body left is what its call gives -/
theorem left_by {σ' : L2.St} {H' : Hp} {s' : Shared} {v : V} {u : Value} {Q : VK} (J : Inv (ccx CX P w K mg base N F f A outer s H E) [] σ' H' s') (rv : L2.RelV v u) (q : Q v H') : CE outer P w H s Q u s' := by
  exact ⟨v, H', J.os, J.bare, J.base, J.hok, rv, q⟩
/-- a nested def with cells of its own, by its body -/
theorem nokC_of (S : NScopeC N ps fr F.scope) (hb : ∀ (doc pm ctv : Value) (us : List Value), us.length = ps.length → bindArgs (F.fd doc pm ctv) ⟨us, []⟩ = pure (ps.zip us)) (len : ∀ ws vs H Q E, sp ws vs H Q E → vs.length = ps.length)
    (body : ∀ (A : Around) (outer : List Env) (s : Shared) (H : Hp) (vs : List V) (ws : List (Option V)) (Q : VK) (E : XK), Room k (A.deeper (envC F f s.heap.objs.size)) → ws.length = fr.length → sp ws vs H Q E →
      ∃ t, PSs (ccx CX P w K mg base N F f A outer s H E) F.body t ∧ t { nx := fun _ H' => Q .non H', rt := Q } (startF N vs ws) H) : NOk P w K mg base CX (k + 1) f F ps fr sp where
  len := len
  run := fun A outer s H us vs ws Q E hr e0 hf hc C r told => by
    have hl := len _ _ _ _ _ told
    obtain ⟨t, rule, q⟩ := body A outer s H vs ws Q E (hr.deeper _) C.len told
    obtain ⟨_, _, doc, pm, ctv, stands⟩ := fnO_at e0.hok hf
    refine codeAny_call_function hr.depth stands rfl S.plain.2.1 S.plain.2.2 rfl (codeO_at e0.hok hc) ?_
    rw [hb doc pm ctv us (r.length ▸ hl)]
    refine wpAny_pure (frame_made S.plain.1 (fun ⟨n, _⟩ hy => S.ask n (List.of_mem_zip hy).1) fun env he s1 x => ?_)
    cases he
    refine ⟨Heap.NoLimit.keeps (e0.mod.nolimit.keeps fun b o e => (e0.bs b o e).1) x.toInCall.keep, codeAny_func (wpAny_mono (rule.run [] s1 (startF N vs ws) H _ (inv_startC S hr.hd e0 hl r C x) q) (fun fl s' z => ?_) fun _ _ z => z)⟩
    cases fl with
    | ret u => exact let ⟨_, _, _, J, rv, a⟩ := z; left_by J rv a
    | next => exact let ⟨_, _, J, a⟩ := z; left_by J (v := .non) rfl a
    | brk => exact z.elim fun _ z => z.elim fun _ z => z.2.elim
    | cont => exact z.elim fun _ z => z.elim fun _ z => z.2.elim
end
end NCX

set_option Elab.async false
set_option linter.all false
set_option maxRecDepth 100000
set_option maxHeartbeats 8000000
/-! Boxes that count. -/
namespace WK
open PySem L2 PyProof.Rows LCX K1 FV DP LamX NdefX NCX
open TX (sg sigs)
open PySem.W (Frag kitOne)
abbrev sCount : Stmt := top 47
abbrev sOneM : Stmt := top 48
abbrev sStep : Stmt := (defBody sCount).getD 0 (.Pass ⟨0, 0, 0, 0⟩)
abbrev qStep : Str := (envOfC "_counting" (defScope sCount) 0 0 .none).qual ++ "step"
/-- one more of a letter, and the counts with a letter more -/
def oneM (cap md n : Int) : Int := if n + 1 < cap + md then n + 1 else cap
def cntF (L : W) (cap md : Int) (a : List Int) (c : Nat) : List Int := (L.zip a).map fun p => if p.1 = c then oneM cap md p.2 else p.2
abbrev zeros (L : W) : List Int := L.map fun _ => 0
def spOneM : Sp := fun vs H Q _ => ∃ n cap md : Int, vs = [.int n, .int cap, .int md] ∧ Q (.int (oneM cap md n)) H
def spStep (ws : List (Option V)) : Sp := fun vs H Q _ => ∃ (b : Addr) (L : W) (a : List Int) (c : Nat) (cap md : Int), ws = [some (.str (tx L)), some (.int cap), some (.int md)] ∧ vs = [.ref b, .str (sg c)] ∧ H b = some (.tup (a.map V.int)) ∧ a.length = L.length ∧ L.length ≤ 3 ∧
  ∀ t H', H t = none → Same H H' → H' t = some (.tup ((cntF L cap md a c).map V.int)) → Q (.ref t) H'
theorem cnt_len (L : W) (cap md : Int) (a : List Int) (c : Nat) (h : a.length = L.length) : (cntF L cap md a c).length = L.length := by
  unfold cntF
  rw [List.length_map, List.length_zip, h, Nat.min_self]
section
variable {P : Program} {w : World} {K : PySem.W.Frag} {mg : Str → Option Value} {base : Heap}
theorem scOM : FnScope ["number", "cap", "modulus"] ["number", "cap", "modulus"] (defScope sOneM) := ⟨rfl, rfl, rfl, by decide +kernel, rfl, by decide +kernel, by decide +kernel⟩
theorem ok_onem {f : Addr} {fd : FuncData} (F : Fun K "_one_more" "_one_more" sOneM f fd) : FnOk P w K mg base CX0 1 f fd ["number", "cap", "modulus"] spOneM := by
  refine F.ok scOM (fun vs H Q E h => ?_) (fun cdv A outer s H vs Q E hr h => ?_)
  · obtain ⟨n, cap, md, rfl, _⟩ := h
    rfl
  · obtain ⟨n, cap, md, rfl, q⟩ := h
    refine ⟨_, pss_one (ps_ret (pe_ifExp (pt_cmpR op_lt (pe_op op_add (pv 0) pe_int) (pe_op op_add (pv 1) (pv 2)) (nomark _)) (pe_op op_add (pv 0) pe_int) (pv 1))), ?_⟩
    refine ⟨_, rfl, _, _, rfl, rfl, _, rfl, _, rfl, _, _, rfl, rfl, _, _, rfl, rfl, _, rfl, ?_⟩
    unfold oneM at q
    by_cases h1 : n + 1 < cap + md
    · rw [if_pos h1] at q
      rw [if_pos (decide_eq_true h1)]
      exact ⟨_, rfl, _, _, rfl, rfl, q⟩
    · rw [if_neg h1] at q
      rw [if_neg fun z => h1 (of_decide_eq_true z)]
      exact ⟨_, rfl, q⟩
abbrev NSt : List Str := ["held", "letter", "letters", "cap", "modulus", "sign", "number"]
theorem scSt : NScopeC NSt ["held", "letter"] ["letters", "cap", "modulus"] (C8.fnScope sStep) := ⟨⟨rfl, rfl, rfl⟩, ⟨["sign", "number"], rfl⟩, by decide +kernel, by decide +kernel, by decide +kernel, by decide +kernel⟩
theorem nok_step {f fO : Addr} {dO : FuncData} {F : NF} (hs : F.scope = C8.fnScope sStep) (hp : F.params = C8.fnArgs sStep) (hbd : F.body = C8.fnBody sStep) (T : TN mg) (AO : Fn K mg "_one_more" sOneM ["number", "cap", "modulus"] fO dO) (GO : FnOk P w K mg base CX0 1 fO dO ["number", "cap", "modulus"] spOneM) :
    NOk P w K mg base CX0 2 f F ["held", "letter"] ["letters", "cap", "modulus"] spStep := by
  obtain ⟨nm, qual, params, body, scope, cl, c⟩ := F
  dsimp only at hs hp hbd
  subst hs
  subst hp
  subst hbd
  refine nokC_of (N := NSt) scSt (fun doc pm ctv us hl => ?_) (fun ws vs H Q E h => ?_) (fun A outer s H vs ws Q E hr hw h => ?_)
  · obtain ⟨a, b, rfl⟩ : ∃ a b, us = [a, b] := by
      match us, hl with
      | [a, b], _ => exact ⟨a, b, rfl⟩
    rfl
  · obtain ⟨b, L, a, c, cap, md, _, rfl, _⟩ := h
    rfl
  · obtain ⟨b, L, a, c, cap, md, rfl, rfl, hb, hl, hL, q⟩ := h
    refine ⟨_, pss_one (ps_ret (pe_callTy call_tuple_of (by rfl) T.tuple (by decide +kernel) (pa_cons (pe_lc (own := [("number", 6), ("sign", 5)]) (g := gTup K 2 (gCons (gName 5) (gCons (gName 6) gNil))) (tt := tYes)
        (te := tIf (tTest (tOp rEq (tVar 5) (tVar 1))) (tCall spOneM [] E0 (tCons (tVar 6) (tCons (tVar 3) (tCons (tVar 4) tNil)))) (tVar 6)) rfl scSt.nd (ZPT.pi_zipST rfl T.zip (pa_cons (pv 2) (pa_cons (pv 0) pa_nil)))
        (blkOk_by (own := [("number", 6), ("sign", 5)]) (N := NSt) (sc := C8.fnScope sStep) (by decide +kernel)) (fun _ _ _ _ _ => pg_tup (by rfl) (pgs_cons (pg_name (i := 5) scSt.nd rfl (Or.inl rfl)) (pgs_cons (pg_name (i := 6) scSt.nd rfl (Or.inl rfl)) pgs_nil))) (fun _ _ _ _ _ => pts_nil)
        (fun _ _ _ _ _ => pe_ifExp (pt_cmpR op_eq (pv 5) (pv 1) (nomark _)) (pe_call GO hr rfl AO.g AO.F.kp AO.b .nil pass0 (pa_cons (pv 6) (pa_cons (pv 3) (pa_cons (pv 4) pa_nil)))) (pv 6))) pa_nil))), ?_⟩
    refine ⟨_, rfl, _, rfl, _, b, _, rfl, SqT.of hb, fun D hD => ?_⟩
    have hz : (tx L).cps.size = (a.map V.int).length := by rw [size_tx, List.length_map, hl]
    refine lc_it (ZPT.walk_st hz) (fun i H3 => Same H H3 ∧ H3 D = some (.lst (((cntF L cap md a c).take i).map V.int))) ⟨same_upd hD, upd_same⟩ (fun i H3 _ ⟨s3, _⟩ => SqT.of (s3 _ _ hb)) ?_ ?_
    · rintro i x H3 H4 hi ⟨s3, hd⟩ ⟨T2, y, z, rfl, hT2, rfl, hy, hz2⟩
      rw [size_tx] at hi
      have hia : i < a.length := by omega
      have hy' : y = .str (sg L[i]) := by
        have : (tx L).cps[i]? = some L[i] := by rw [← Array.getElem?_toList, tx_list, List.getElem?_eq_getElem hi]
        have hy2 : Option.map (fun c => V.str ⟨#[c]⟩) ((tx L).cps[i]?) = some y := hy
        rw [this] at hy2
        exact (Option.some.inj hy2).symm
      have hz' : z = .int a[i] := by
        have hz3 : (a.map V.int)[i]? = some z := hz2
        rw [List.getElem?_map, List.getElem?_eq_getElem hia] at hz3
        exact (Option.some.inj hz3).symm
      subst hy'
      subst hz'
      have s4 : Same H3 (upd H3 T2 (.tup [.str (sg L[i]), .int a[i]])) := same_upd hT2
      have tk : (cntF L cap md a c).take (i + 1) = (cntF L cap md a c).take i ++ [if L[i] = c then oneM cap md a[i] else a[i]] := by
        rw [List.take_add_one]
        congr 1
        unfold cntF
        rw [List.getElem?_map, List.getElem?_eq_getElem (by rw [List.length_zip]; omega)]
        simp
      have fewD : (((cntF L cap md a c).take i).map V.int).length < sizeLine := by
        rw [List.length_map, List.length_take, sizeLine_eq]
        omega
      refine ⟨T2, _, rfl, SqT.of upd_same, rfl, _, _, rfl, _, _, rfl, rfl, rfl, _, rfl, _, rfl, rfl, ?_⟩
      have hd4 := s4 _ _ hd
      have done : ∀ y, y = V.int (if L[i] = c then oneM cap md a[i] else a[i]) → Same H (upd (upd H3 T2 (.tup [.str (sg L[i]), .int a[i]])) D (.lst (((cntF L cap md a c).take i).map V.int ++ [y]))) ∧ upd (upd H3 T2 (.tup [.str (sg L[i]), .int a[i]])) D (.lst (((cntF L cap md a c).take i).map V.int ++ [y])) D = some (.lst (((cntF L cap md a c).take (i + 1)).map V.int)) := fun y e => by
        refine ⟨same_at (s3.trans s4) hD, ?_⟩
        rw [upd_same, tk, List.map_append, e] <;> rfl
      by_cases hc : L[i] = c
      · refine ⟨true, congrArg V.bl (decide_eq_true (by rw [hc])), ?_⟩
        refine ⟨_, rfl, _, rfl, _, rfl, _, _, _, rfl, _, hd4, fewD, done _ ?_⟩
        rw [if_pos hc]
      · refine ⟨false, congrArg V.bl (decide_eq_false fun z => hc (TX.sg_inj (V.str.inj z))), ?_⟩
        refine ⟨_, rfl, _, hd4, fewD, done _ ?_⟩
        rw [if_neg hc]
    · rintro H3 ⟨s3, hd⟩
      rw [size_tx, List.take_of_length_le (Nat.le_of_eq (cnt_len L cap md a c hl))] at hd
      refine ⟨D, _, rfl, .inl ⟨SqL.of hd, fun t ht => ?_⟩⟩
      exact q t _ (s3.free ht) (s3.trans (same_upd ht)) upd_same
/-- the tables of code objects, as the rules of nested defs tell them -/
abbrev nTabs (T : List (Addr × Str)) : List NTab := T.map fun p => (p.1, fun _ _ => p.2)
theorem tabsN_of {T : List (Addr × Str)} {H : Hp} (t : Tabs T H) : TabsN (nTabs T) H := fun p hp => by
  obtain ⟨q, hq, rfl⟩ := List.mem_map.mp hp
  exact TabN.of (t q hq)
theorem tabs_ofN {T : List (Addr × Str)} {H : Hp} (t : TabsN (nTabs T) H) : Tabs T H := fun p hp => TabN.to (t (p.1, fun _ _ => p.2) (List.mem_map.mpr ⟨p, hp, rfl⟩))
theorem steps_cnt {f : Addr} {F : NF} {cs : Cs} {B : Nat} {L : W} {cap md : Int} {H : Hp} {b0 : Addr} (o : NOk P w K mg base CX0 2 f F ["held", "letter"] ["letters", "cap", "modulus"] spStep) (ft : Fits F.cl ["letters", "cap", "modulus"] cs [.str (tx L), .int cap, .int md])
    (h1 : H f = some (FnO f F)) (h2 : H F.c = some (CodeO F.c F.qual)) (l : Lay cs H) (h0 : H b0 = some (.tup ((zeros L).map V.int))) (hL : L.length ≤ 3) (hB : ∀ j, (exAll (cntF L cap md) L (zeros L) j).1.length ≤ B) (hB4 : B ≤ 400) :
    Steps P w K mg base kitI 2 H L (.ref b0) f (zeros L) (cntF L cap md) B := by
  refine ⟨_, _, fun a => a.length = L.length, kitI_is.mpr h0, callV_nok o cxon_0 ft, ⟨h1, h2, l⟩, fun H H' k ⟨a, b, c⟩ => ⟨k _ _ a, k _ _ b, fun p hp => k _ _ (c p hp)⟩, List.length_map _, fun a c h _ => cnt_len L cap md a c h, fun H v a c Q ⟨_, _, l⟩ hv ha hc q => ?_, hB, hB4⟩
  obtain ⟨b1, e1, hb0⟩ := hv
  subst e1
  have hb1 := kitI_is.mp ⟨b1, rfl, hb0⟩
  refine ⟨b1, L, a, c, cap, md, rfl, rfl, off_keep l hb1 (fun _ z => nomatch z), ha, hL, fun t H' _ s ht n => ?_⟩
  exact q _ _ (same_on l ft.nd s n) (kitI_is.mpr (on_keep n ht))
def spCounting (T : List (Addr × Str)) (cD : Addr) : Sp := fun vs H Q _ => ∃ (L : W) (cap md : Int) (B : Nat), vs = [.str (tx L), .int cap, .int md] ∧ L.length ≤ 3 ∧ Tabs T H ∧ (∀ j, (exAll (cntF L cap md) L (zeros L) j).1.length ≤ B) ∧ B ≤ 400 ∧
  ∀ g H', H g = none → Grows T H H' → MadeAt cD H' g (exAll (cntF L cap md) L (zeros L) B).2 → Q (.ref g) H'
abbrev NCo : List Str := ["letters", "cap", "modulus", "step", "_"]
theorem scCn : FnScope NCo ["letters", "cap", "modulus"] (defScope sCount) := ⟨rfl, rfl, rfl, by decide +kernel, rfl, by decide +kernel, by decide +kernel⟩
theorem capS : ∀ y ∈ (C8.fnScope sStep).names, y.2 = .free → (defScope sCount).names.lookup y.1 = some .cell ∨ (defScope sCount).names.lookup y.1 = some .free := by decide +kernel
theorem ok_counting {f cN PN fG fO : Addr} {dG dO : FuncData} {C cD : Addr} {T : List (Addr × Str)} {oc kV dc pm ct dV : Value} {an od : Option Addr} {sl : Array (Option Value)} (lk : K.lookup f = some ⟨oc, od, .func (PySem.W.fnOf "_counting" "_counting" (defArgs sCount) (defBody sCount) (defScope sCount) dV kV dc pm an (.ref cN) ct), sl⟩) (hcd : PySem.W.codeIn K (.ref cN) "_counting" = true)
    (TB : TabB base mg cN PN) (mem : (PN, qStep) ∈ T) (uniq : ∀ p ∈ T, p.1 = PN → p.2 = qStep) (TT : TN mg) (AO : Fn K mg "_one_more" sOneM ["number", "cap", "modulus"] fO dO) (GO : FnOk P w K mg base CX0 1 fO dO ["number", "cap", "modulus"] spOneM)
    (AG : Fn K mg "_grown" sGrown ["letters", "start", "step"] fG dG) (GG : FnOk P w K mg base CX0 5 fG dG ["letters", "start", "step"] (spGrown P w K mg base kitI 2 cD)) :
    FnOk P w K mg base CX0 6 f (PySem.W.fnOf "_counting" "_counting" (defArgs sCount) (defBody sCount) (defScope sCount) dV kV dc pm an (.ref cN) ct) ["letters", "cap", "modulus"] (spCounting T cD) := by
  refine fn_of lk hcd scCn (fun vs H Q E h => ?_) (fun A outer s H vs Q E hr h => ?_)
  · obtain ⟨L, cap, md, B, rfl, _⟩ := h
    rfl
  · obtain ⟨L, cap, md, B, rfl, hL, tabs, hB, hB4, q⟩ := h
    refine ⟨_, pss_cons (ps_ndefMS (T := nTabs T) (nm := fun _ _ => qStep) (i := 3) rfl TB rfl (List.mem_map.mpr ⟨_, mem, rfl⟩) rfl (fun p hp e => by
          obtain ⟨q, hq, rfl⟩ := List.mem_map.mp hp
          show (fun _ _ => q.2) = _
          rw [uniq q hq e]) capS rfl rfl rfl scCn.nd rfl (Or.inl rfl) (Or.inl rfl))
      (pss_one (ps_ret (pe_callC (fr := ["letters", "cap", "modulus"]) (js := [0, 1, 2]) GG hr rfl AG.g AG.F.kp AG.b (fun ok => Caps.made (scope := C8.fnScope sStep) ok capS (by decide +kernel) rfl)
          (fun y c h => by
            rcases clo_only h with z | z
            · have : ∀ p ∈ (C8.fnScope sStep).names, p.2 = .free → p.1 ∈ (["letters", "cap", "modulus"] : List Str) := by decide +kernel
              exact this _ z rfl
            · cases z) (by decide +kernel) (fun _ _ => rfl)
          (pa_cons (pv 0) (pa_cons (pe_callTy call_tuple_of (by rfl) TT.tuple (by decide +kernel) (pa_cons (pe_lc (own := [("_", 4)]) (g := gName 4) (tt := tYes) (te := tC (.int 0)) rfl scCn.nd (pi_str (pv 0))
            (blkOk_by (own := [("_", 4)]) (N := NCo) (sc := defScope sCount) (by decide +kernel)) (fun _ _ _ _ _ => pg_name (i := 4) scCn.nd rfl (Or.inl rfl)) (fun _ _ _ _ _ => pts_nil) (fun _ _ _ _ _ => pe_int)) pa_nil)) (pa_cons (pv 3) pa_nil)))))), ?_⟩
    refine ⟨tabsN_of tabs, fun f c' H1 e1 back t1 nf hf hc => ?_⟩
    have g1 : Grows T H H1 := ⟨e1, tabs_ofN t1, back⟩
    refine ⟨_, rfl, _, rfl, tx L, rfl, fun D hD => ?_⟩
    refine lc_it walk_str (fun i H3 => Same H1 H3 ∧ H3 D = some (.lst ((zeros (L.take i)).map V.int))) ⟨same_upd hD, upd_same⟩ (fun _ _ _ _ => trivial) ?_ ?_
    · rintro i x H3 H4 hi ⟨s3, hd⟩ ⟨rfl, y, hy, rfl⟩
      have hy' : L[i]? = some y := by
        rw [← Array.getElem?_toList, tx_list] at hy
        exact hy
      refine ⟨rfl, _, hd, ?_, same_at s3 hD, ?_⟩
      · rw [List.length_map, List.length_map, List.length_take, sizeLine_eq]
        omega
      · rw [upd_same, List.take_add_one, hy']
        show _ = some (HO.lst (((L.take i ++ [y]).map fun _ => (0 : Int)).map V.int))
        rw [List.map_append, List.map_append] <;> rfl
    · rintro H3 ⟨s3, hd⟩
      rw [size_tx, List.take_length] at hd
      refine ⟨D, _, rfl, .inl ⟨SqL.of hd, fun t ht => ?_⟩⟩
      have s4 := same_upd (o := .tup ((zeros L).map V.int)) ht
      have g4 : Grows T H (upd H3 t (.tup ((zeros L).map V.int))) := grows_same (grows_same g1 s3) s4
      have a4 : (upd H3 t (.tup ((zeros L).map V.int))) t = some (.tup ((zeros L).map V.int)) := upd_same
      have hf4 := s4 _ _ (s3 _ _ hf)
      have hc4 := s4 _ _ (s3 _ _ hc)
      generalize upd H3 t (.tup ((zeros L).map V.int)) = H4 at g4 a4 hf4 hc4 ⊢
      refine ⟨_, rfl, [.str (tx L), .int cap, .int md], rfl, fun cs ft none_ => ?_⟩
      refine ⟨L, .ref t, zeros L, f, cntF L cap md, B, rfl, hL, steps_cnt (nok_step rfl rfl rfl TT AO GO) ft (on_keep none_ hf4) (on_keep none_ hc4) (onn_lay ft.nd) (on_keep none_ a4) hL hB hB4, fun g H5 ng s5 mk => ⟨lay_same ft.nd s5, ?_⟩⟩
      have l5 := lay_same ft.nd s5
      have s6 := same_off none_ s5
      have mk6 := madeAt_off l5 mk
      have ng4 : H4 g = none := by
        by_cases z : g ∈ cs.map (·.1)
        · obtain ⟨p, hp, rfl⟩ := List.mem_map.mp z
          exact none_ p hp
        · rw [onn_out z] at ng
          exact ng
      exact q g _ (g4.2.2 g ng4) (grows_same g4 s6) mk6
abbrev sCaps : Stmt := inClass (top 43) 4
abbrev sRests : Stmt := inClass (top 43) 5
abbrev sClerk : Stmt := inClass (top 43) 6
/-- what the makers of boxes that count ask and give -/
def CntBox (T : List (Addr × Str)) (C : Addr) (L : W) (cap md : Int) (H : Hp) (Q : VK) : Prop := Let L ∧ Tabs T H ∧ ∃ B, (∀ j, (exAll (cntF L cap md) L (zeros L) j).1.length ≤ B) ∧ B ≤ 400 ∧ ∀ o H', H o = none → Grows T H H' → BoxAt C H' o L (exAll (cntF L cap md) L (zeros L) B).2 → Q (.ref o) H'
def spCaps (T : List (Addr × Str)) (C : Addr) : Sp := fun vs H Q _ => ∃ (L : W) (n : Int), vs = [.ref C, .str (tx L), .int n] ∧ 0 ≤ n ∧ n ≤ 9 ∧ CntBox T C L n 1 H Q
def spRests (T : List (Addr × Str)) (C : Addr) : Sp := fun vs H Q _ => ∃ (L : W) (n : Int), vs = [.ref C, .str (tx L), .int n] ∧ 1 ≤ n ∧ n ≤ 12 ∧ CntBox T C L 0 n H Q
def spClerk (T : List (Addr × Str)) (C : Addr) : Sp := fun vs H Q _ => ∃ (L : W) (n m : Int), vs = [.ref C, .str (tx L), .int n, .int m] ∧ 0 ≤ n ∧ n ≤ 9 ∧ 1 ≤ m ∧ m ≤ 12 ∧ CntBox T C L n m H Q
section
variable {C cD fNL fNN fG fB : Addr} {dNL dNN dG dB : FuncData} {T : List (Addr × Str)}
/-- rows were made, a box of them is made -/
theorem box_made {H H1 : Hp} {L : W} {tb : List (List Int)} {g : Addr} {Q : VK} (hL : Let L) (gr : Grows T H H1) (mk : MadeAt cD H1 g tb) (q : ∀ o H', H o = none → Grows T H H' → BoxAt C H' o L tb → Q (.ref o) H') :
    ∀ x dx, H1 x = none → H1 dx = none → dx ≠ x → spBoxI C cD [.ref x, .str (tx L), .ref g] (upd (upd H1 dx (.own x)) x (.ins C dx [])) (fun v H' => v = .non ∧ Q (.ref x) H') E0 := by
  intro x dx hx hdx ne
  have s5 : Same H1 (upd (upd H1 dx (.own x)) x (.ins C dx [])) := fun b o z => by rw [upd_ne (ne_of_none z hx), upd_ne (ne_of_none z hdx)]; exact z
  refine ⟨x, dx, L, g, _, rfl, hL, upd_same, fun z => ?_, mk.same s5, fun r H6 h6 k6 rows => ⟨rfl, ?_⟩⟩
  · obtain ⟨gx, r, e, _⟩ := mk
    rw [z, hx] at e
    cases e
  · have s6 : Same H1 H6 := fun b o z => k6 b o (s5 _ _ z) (ne_of_none z hx)
    exact q x H6 (gr.2.2 x hx) (grows_same gr s6) ⟨dx, r, h6, rows⟩
theorem scCa : FnScope ["cls", "letters", "most"] ["cls", "letters", "most"] (defScope sCaps) := ⟨rfl, rfl, rfl, by decide +kernel, rfl, by decide +kernel, by decide +kernel⟩
theorem ok_caps {f : Addr} {oc kV dc pm ct cd dV : Value} {an od : Option Addr} {sl : Array (Option Value)} (lk : K.lookup f = some ⟨oc, od, .func (PySem.W.fnOf "caps" "Box.caps" (defArgs sCaps) (defBody sCaps) (defScope sCaps) dV kV dc pm an cd ct), sl⟩) (hcd : PySem.W.codeIn K cd "Box.caps" = true)
    (m9 : ∃ t, mg "_MAX_CAP" = some (.int 9 t)) (AL : Fn K mg "need_letters" sNeedLet ["letters"] fNL dNL) (GL : FnOk P w K mg base CX0 3 fNL dNL ["letters"] spNeedLet) (AN : Fn K mg "need_number" sNeedNum ["value", "least", "most"] fNN dNN) (GN : FnOk P w K mg base CX0 3 fNN dNN ["value", "least", "most"] spNeedNum)
    (AG : Fn K mg "_counting" sCount ["letters", "cap", "modulus"] fG dG) (GG : FnOk P w K mg base CX0 6 fG dG ["letters", "cap", "modulus"] (spCounting T cD)) (MI : Mk K C fB) (GI : FnOk P w K mg base CX0 3 fB dB ["self", "letters", "table"] (spBoxI C cD)) (bI : Binds K dB ["self", "letters", "table"] []) :
    FnOk P w K mg base CX0 7 f (PySem.W.fnOf "caps" "Box.caps" (defArgs sCaps) (defBody sCaps) (defScope sCaps) dV kV dc pm an cd ct) ["cls", "letters", "most"] (spCaps T C) := by
  obtain ⟨tm, most⟩ := m9
  refine fn_of lk hcd scCa (fun vs H Q E h => ?_) (fun A outer s H vs Q E hr h => ?_)
  · obtain ⟨L, n, rfl, _⟩ := h
    rfl
  · obtain ⟨L, n, rfl, n0, n9, hL, tabs, B, hB, hB4, q⟩ := h
    have hr3 : Room 3 _ := hr.mono (by decide)
    have hr4 : Room 4 _ := hr.mono (by decide)
    refine ⟨_, pss_cons (ps_expr (pe_call GL hr3 rfl AL.g AL.F.kp AL.b .nil pass0 (pa_cons (pv 1) pa_nil)))
      (pss_cons (ps_expr (pe_call GN hr3 rfl AN.g AN.F.kp AN.b .nil pass0 (pa_cons (pv 2) (pa_cons pe_int (pa_cons (pe_glob rfl most (show RelV (.int 9) (.int 9 tm) from ⟨tm, rfl⟩)) pa_nil)))))
      (pss_one (ps_ret (pe_makeV (i := 0) (E := E0) MI GI hr4 rfl (.inl rfl) bI .nil pass0 (pa_cons (pv 1) (pa_cons
        (pe_call GG hr rfl AG.g AG.F.kp AG.b .nil pass0 (pa_cons (pv 1) (pa_cons (pv 2) (pa_cons pe_int pa_nil)))) pa_nil)))))), ?_⟩
    refine ⟨_, rfl, L, rfl, hL, fun H1 s1 => ⟨_, rfl, n, 0, 9, rfl, n0, n9, ?_⟩⟩
    refine ⟨rfl, _, rfl, _, rfl, _, rfl, L, n, 1, B, rfl, hL.few, tabs.ext s1, hB, hB4, fun g H2 ng gr mk => ?_⟩
    have gr2 : Grows T H H2 := by
      have := grows_same (Grows.refl tabs) s1
      exact ⟨fun b o e n => gr.1 b o (this.1 b o e n) n, gr.2.1, fun d z => this.2.2 d (gr.2.2 d z)⟩
    exact box_made hL gr2 mk q
theorem scRe : FnScope ["cls", "letters", "modulus"] ["cls", "letters", "modulus"] (defScope sRests) := ⟨rfl, rfl, rfl, by decide +kernel, rfl, by decide +kernel, by decide +kernel⟩
theorem ok_rests {f : Addr} {oc kV dc pm ct cd dV : Value} {an od : Option Addr} {sl : Array (Option Value)} (lk : K.lookup f = some ⟨oc, od, .func (PySem.W.fnOf "rests" "Box.rests" (defArgs sRests) (defBody sRests) (defScope sRests) dV kV dc pm an cd ct), sl⟩) (hcd : PySem.W.codeIn K cd "Box.rests" = true)
    (m9 : ∃ t, mg "_MAX_MODULUS" = some (.int 12 t)) (AL : Fn K mg "need_letters" sNeedLet ["letters"] fNL dNL) (GL : FnOk P w K mg base CX0 3 fNL dNL ["letters"] spNeedLet) (AN : Fn K mg "need_number" sNeedNum ["value", "least", "most"] fNN dNN) (GN : FnOk P w K mg base CX0 3 fNN dNN ["value", "least", "most"] spNeedNum)
    (AG : Fn K mg "_counting" sCount ["letters", "cap", "modulus"] fG dG) (GG : FnOk P w K mg base CX0 6 fG dG ["letters", "cap", "modulus"] (spCounting T cD)) (MI : Mk K C fB) (GI : FnOk P w K mg base CX0 3 fB dB ["self", "letters", "table"] (spBoxI C cD)) (bI : Binds K dB ["self", "letters", "table"] []) :
    FnOk P w K mg base CX0 7 f (PySem.W.fnOf "rests" "Box.rests" (defArgs sRests) (defBody sRests) (defScope sRests) dV kV dc pm an cd ct) ["cls", "letters", "modulus"] (spRests T C) := by
  obtain ⟨tm, most⟩ := m9
  refine fn_of lk hcd scRe (fun vs H Q E h => ?_) (fun A outer s H vs Q E hr h => ?_)
  · obtain ⟨L, n, rfl, _⟩ := h
    rfl
  · obtain ⟨L, n, rfl, n0, n9, hL, tabs, B, hB, hB4, q⟩ := h
    have hr3 : Room 3 _ := hr.mono (by decide)
    have hr4 : Room 4 _ := hr.mono (by decide)
    refine ⟨_, pss_cons (ps_expr (pe_call GL hr3 rfl AL.g AL.F.kp AL.b .nil pass0 (pa_cons (pv 1) pa_nil)))
      (pss_cons (ps_expr (pe_call GN hr3 rfl AN.g AN.F.kp AN.b .nil pass0 (pa_cons (pv 2) (pa_cons pe_int (pa_cons (pe_glob rfl most (show RelV (.int 12) (.int 12 tm) from ⟨tm, rfl⟩)) pa_nil)))))
      (pss_one (ps_ret (pe_makeV (i := 0) (E := E0) MI GI hr4 rfl (.inl rfl) bI .nil pass0 (pa_cons (pv 1) (pa_cons
        (pe_call GG hr rfl AG.g AG.F.kp AG.b .nil pass0 (pa_cons (pv 1) (pa_cons pe_int (pa_cons (pv 2) pa_nil)))) pa_nil)))))), ?_⟩
    refine ⟨_, rfl, L, rfl, hL, fun H1 s1 => ⟨_, rfl, n, 1, 12, rfl, n0, n9, ?_⟩⟩
    refine ⟨rfl, _, rfl, _, rfl, _, rfl, L, 0, n, B, rfl, hL.few, tabs.ext s1, hB, hB4, fun g H2 ng gr mk => ?_⟩
    have gr2 : Grows T H H2 := by
      have := grows_same (Grows.refl tabs) s1
      exact ⟨fun b o e n => gr.1 b o (this.1 b o e n) n, gr.2.1, fun d z => this.2.2 d (gr.2.2 d z)⟩
    exact box_made hL gr2 mk q
theorem scCl : FnScope ["cls", "letters", "cap", "modulus"] ["cls", "letters", "cap", "modulus"] (defScope sClerk) := ⟨rfl, rfl, rfl, by decide +kernel, rfl, by decide +kernel, by decide +kernel⟩
theorem ok_clerk {f : Addr} {oc kV dc pm ct cd dV : Value} {an od : Option Addr} {sl : Array (Option Value)} (lk : K.lookup f = some ⟨oc, od, .func (PySem.W.fnOf "clerk" "Box.clerk" (defArgs sClerk) (defBody sClerk) (defScope sClerk) dV kV dc pm an cd ct), sl⟩) (hcd : PySem.W.codeIn K cd "Box.clerk" = true)
    (m9 : ∃ t, mg "_MAX_CAP" = some (.int 9 t)) (m12 : ∃ t, mg "_MAX_MODULUS" = some (.int 12 t)) (AL : Fn K mg "need_letters" sNeedLet ["letters"] fNL dNL) (GL : FnOk P w K mg base CX0 3 fNL dNL ["letters"] spNeedLet) (AN : Fn K mg "need_number" sNeedNum ["value", "least", "most"] fNN dNN) (GN : FnOk P w K mg base CX0 3 fNN dNN ["value", "least", "most"] spNeedNum)
    (AG : Fn K mg "_counting" sCount ["letters", "cap", "modulus"] fG dG) (GG : FnOk P w K mg base CX0 6 fG dG ["letters", "cap", "modulus"] (spCounting T cD)) (MI : Mk K C fB) (GI : FnOk P w K mg base CX0 3 fB dB ["self", "letters", "table"] (spBoxI C cD)) (bI : Binds K dB ["self", "letters", "table"] []) :
    FnOk P w K mg base CX0 7 f (PySem.W.fnOf "clerk" "Box.clerk" (defArgs sClerk) (defBody sClerk) (defScope sClerk) dV kV dc pm an cd ct) ["cls", "letters", "cap", "modulus"] (spClerk T C) := by
  obtain ⟨tm, most⟩ := m9
  obtain ⟨tm2, most2⟩ := m12
  refine fn_of lk hcd scCl (fun vs H Q E h => ?_) (fun A outer s H vs Q E hr h => ?_)
  · obtain ⟨L, n, m, rfl, _⟩ := h
    rfl
  · obtain ⟨L, n, m, rfl, n0, n9, m1, m12, hL, tabs, B, hB, hB4, q⟩ := h
    have hr3 : Room 3 _ := hr.mono (by decide)
    have hr4 : Room 4 _ := hr.mono (by decide)
    refine ⟨_, pss_cons (ps_expr (pe_call GL hr3 rfl AL.g AL.F.kp AL.b .nil pass0 (pa_cons (pv 1) pa_nil)))
      (pss_cons (ps_expr (pe_call GN hr3 rfl AN.g AN.F.kp AN.b .nil pass0 (pa_cons (pv 2) (pa_cons pe_int (pa_cons (pe_glob rfl most (show RelV (.int 9) (.int 9 tm) from ⟨tm, rfl⟩)) pa_nil)))))
      (pss_cons (ps_expr (pe_call GN hr3 rfl AN.g AN.F.kp AN.b .nil pass0 (pa_cons (pv 3) (pa_cons pe_int (pa_cons (pe_glob rfl most2 (show RelV (.int 12) (.int 12 tm2) from ⟨tm2, rfl⟩)) pa_nil)))))
      (pss_one (ps_ret (pe_makeV (i := 0) (E := E0) MI GI hr4 rfl (.inl rfl) bI .nil pass0 (pa_cons (pv 1) (pa_cons
        (pe_call GG hr rfl AG.g AG.F.kp AG.b .nil pass0 (pa_cons (pv 1) (pa_cons (pv 2) (pa_cons (pv 3) pa_nil)))) pa_nil))))))), ?_⟩
    refine ⟨_, rfl, L, rfl, hL, fun H1 s1 => ⟨_, rfl, n, 0, 9, rfl, n0, n9, _, rfl, m, 1, 12, rfl, m1, m12, ?_⟩⟩
    refine ⟨rfl, _, rfl, _, rfl, _, rfl, _, rfl, L, n, m, B, rfl, hL.few, tabs.ext s1, hB, hB4, fun g H2 ng gr mk => ?_⟩
    have gr2 : Grows T H H2 := by
      have := grows_same (Grows.refl tabs) s1
      exact ⟨fun b o e n => gr.1 b o (this.1 b o e n) n, gr.2.1, fun d z => this.2.2 d (gr.2.2 d z)⟩
    exact box_made hL gr2 mk q
end
end
end WK

set_option Elab.async false
set_option linter.all false
set_option maxRecDepth 100000
set_option maxHeartbeats 8000000
/-! len(o), str(o), x in o, o == y, o != y of an instance of an own class that has the method; the method raises nothing. -/
namespace OWN
open PySem PySem.Spec L2 PyProof.Rows
/-- an instance that stands in H -/
theorem inst_at {X : Cx} {pins : List (Addr × Obj)} {σ : L2.St} {H : Hp} {s : Shared} {a C dx : Addr} {fs : List (Str × V)} (I : Inv X pins σ H s) (at_ : H a = some (.ins C dx fs)) : ∃ od : Obj, PySem.W.InstAt s.heap a (PySem.W.instObj C dx) C (some od) :=
  let ⟨_, j, _⟩ := ins_get I.hok at_
  let ⟨od, k, _⟩ := j.look
  ⟨od, k⟩
section
variable {X : Cx} {C g : Addr} {n : Nat} {sp : Sp}
def rLenO (C : Addr) (sp : Sp) : List V → Hp → VK → Prop := fun xs H Q => ∃ a dx fs, xs = [.ref a] ∧ H a = some (.ins C dx fs) ∧ sp [.ref a] H (fun z H' => ∃ k : Nat, z = .int k ∧ (k : Int) < 2 ^ 62 ∧ Q z H') E0
theorem call_lenO (hs : PySem.W.findIn X.K (.ref C) "__len__" = some (some (.ref g))) (hf : PySem.W.isFn X.K (.ref g) = true) (F : FnR X.prog X.w X.K X.mg X.base CX0 n g sp) (hr : Room (n + 1) X.A) : CallR X (.builtin "len") (rLenO C sp) := by
  intro _ s _ _ _ _ _ I r ⟨a, dx, fs, ex, ha, q⟩
  subst ex
  obtain ⟨u, rfl, ru⟩ := r.one
  obtain rfl : u = .ref a := ru
  obtain ⟨od, J⟩ := inst_at I ha
  obtain ⟨m, hF⟩ := I.fr
  refine PySem.W.len_K hF I.ok.mod.kin J hs hf (wpAny_mono (wpAny_call (SlX.run_at (us := [.ref a]) (ws := [.ref a]) F (Room.in1 hr) I.env0.in1 pass0 I (.cons rfl .nil) q)) (fun w s' z => ?_) fun _ _ x => x)
  obtain ⟨z', H', I', rz, k, ez, hk, qz⟩ := z
  subst ez
  obtain ⟨t, e⟩ := (show ∃ t, w = Value.int k t from rz)
  cases e
  exact ⟨⟨by omega, by omega⟩, .int k, H', I'.tok _, ⟨_, rfl⟩, qz⟩
def rStrO (C : Addr) (sp : Sp) : List V → Hp → VK → Prop := fun xs H Q => ∃ a dx fs, xs = [.ref a] ∧ H a = some (.ins C dx fs) ∧ sp [.ref a] H (fun z H' => ∃ x : Str, z = .str x ∧ Q z H') E0
theorem call_strO (hs : PySem.W.findIn X.K (.ref C) "__str__" = some (some (.ref g))) (hf : PySem.W.isFn X.K (.ref g) = true) (F : FnR X.prog X.w X.K X.mg X.base CX0 n g sp) (hr : Room (n + 2) X.A) : CallR X (.type "str") (rStrO C sp) := by
  intro _ s _ _ _ _ _ I r ⟨a, dx, fs, ex, ha, q⟩
  subst ex
  obtain ⟨u, rfl, ru⟩ := r.one
  obtain rfl : u = .ref a := ru
  obtain ⟨od, J⟩ := inst_at I ha
  have hr2 := Room.in1 (show Room (n + 1) X.A.in1 from hr.in1)
  refine PySem.W.kso_call hr2.units0 I.kIn J hs hf (wpAny_mono (wpAny_call (SlX.run_at (us := [.ref a]) (ws := [.ref a]) F hr2 I.env0.in1.in1 pass0 I (.cons rfl .nil) q)) (fun w s' z => ?_) fun _ _ x => x)
  obtain ⟨z', H', I', rz, x, ez, qz⟩ := z
  subst ez
  obtain ⟨t, e⟩ := (show ∃ t, w = Value.str x t from rz)
  cases e
  exact ⟨.str x, H', I', ⟨_, rfl⟩, qz⟩
/-- x in o, x not in o -/
def rInO (C : Addr) (sp : Sp) (neg : Bool) : R2 := fun x y H Q => ∃ a dx fs, y = .ref a ∧ H a = some (.ins C dx fs) ∧ sp [.ref a, x] H (fun z H' => ∃ b : Bool, z = .bl b ∧ Q (.bl (if neg = true then !b else b)) H') E0
theorem op_inO (hs : PySem.W.findIn X.K (.ref C) "__contains__" = some (some (.ref g))) (hf : PySem.W.isFn X.K (.ref g) = true) (F : FnR X.prog X.w X.K X.mg X.base CX0 n g sp) (hr : Room n X.A) : OpR X (compareOp .In) (rInO C sp false) := by
  intro pins s σ H x _ v _ Q I rx ry ⟨a, dx, fs, ey, ha, q⟩
  subst ey
  obtain rfl : _ = Value.ref a := ry
  obtain ⟨od, J⟩ := inst_at I ha
  obtain ⟨m, hF⟩ := I.fr
  refine PySem.W.in_K hF I.ok.mod.kin J hs hf (wpAny_mono (wpAny_call (run_fnR (us := [.ref a, v]) (vs := [.ref a, x]) F hr pass0 I (.cons rfl (.cons rx .nil)) q)) (fun w s' z => ?_) fun _ _ x => x)
  obtain ⟨z', H', I', rz, b, ez, qz⟩ := z
  subst ez
  cases (show w = Value.bool b from rz)
  exact wpAny_truthy_bool ⟨.bl b, H', I', rfl, qz⟩
theorem op_notinO (hs : PySem.W.findIn X.K (.ref C) "__contains__" = some (some (.ref g))) (hf : PySem.W.isFn X.K (.ref g) = true) (F : FnR X.prog X.w X.K X.mg X.base CX0 n g sp) (hr : Room n X.A) : OpR X (compareOp .NotIn) (rInO C sp true) := by
  intro pins s σ H x _ v _ Q I rx ry ⟨a, dx, fs, ey, ha, q⟩
  subst ey
  obtain rfl : _ = Value.ref a := ry
  obtain ⟨od, J⟩ := inst_at I ha
  obtain ⟨m, hF⟩ := I.fr
  refine PySem.W.notIn_K hF I.ok.mod.kin J hs hf (wpAny_mono (wpAny_call (run_fnR (us := [.ref a, v]) (vs := [.ref a, x]) F hr pass0 I (.cons rfl (.cons rx .nil)) q)) (fun w s' z => ?_) fun _ _ x => x)
  obtain ⟨z', H', I', rz, b, ez, qz⟩ := z
  subst ez
  cases (show w = Value.bool b from rz)
  exact wpAny_truthy_bool ⟨.bl !b, H', I', rfl, qz⟩
end
end OWN
namespace OWN
open PySem PySem.Spec L2 PyProof.Rows
open Builtin in
/-- a special method that object has, by what Python does where it compares -/
theorem ask_obj {M : Model} {A : Around} {E : Value → Shared → Prop} {s : Shared} {K : PySem.W.Frag} {x C : Addr} {ox : Obj} {od : Option Obj} {nm : Str} {id : String} {y : Value} {Q : Option Value → Shared → Prop} (X : K.In s.heap) (J : PySem.W.InstAt s.heap x ox C od)
    (at_ : PySem.W.findIn K (.ref C) nm = some (some (.builtin id))) (bd : ∀ z, bindSpecial (.builtin id) z = pure (.builtin id, [z])) (run : wpAny M A (call (.builtin id) [.ref x, y]) (fun v => Q (some v)) E s) : wpAny M A (callSpecialIfBound? (.ref x) nm [y]) Q E s := by
  have last : wpAny M A (call (.builtin id) ([.ref x] ++ [y]) >>= fun v => pure (some v)) Q E s := wpAny_bind (wpAny_mono run (fun _ _ => wpAny_pure) fun _ _ z => z)
  have bound : PySem.W.Looks M s.heap (bindSpecial (.builtin id) (.ref x)) (.builtin id, [.ref x]) := PySem.W.Looks.of_pure (bd _)
  simp only [bindSpecialIfBound?, callSpecialIfBound?]
  refine wpAny_holding (wpAny_bind (wpAny_bind (wpAny_bind (J.type.here ((PySem.W.looks_findIn X at_).here (wpAny_bind (wpAny_askSetting (wpAny_ite ?_))))))))
  split
  · exact wpAny_bind (bound.here (wpAny_pure (by exact last)))
  · exact wpAny_tryCatch (wpAny_bind (bound.here (wpAny_pure (by exact last))))
section
variable {X : Cx} {C g : Addr} {n : Nat} {sp : Sp}
/-- o == y, y another instance or a list -/
def rEqO (C : Addr) (sp : Sp) : R2 := fun x y H Q => ∃ a dx fs b, x = .ref a ∧ y = .ref b ∧ H a = some (.ins C dx fs) ∧ ((∃ dy gs, H b = some (.ins C dy gs)) ∨ ∃ ys, H b = some (.lst ys)) ∧ sp [x, y] H (fun z H' => ∃ k : Bool, z = .bl k ∧ Q (.bl k) H') E0
theorem op_eqO (hs : PySem.W.findIn X.K (.ref C) "__eq__" = some (some (.ref g))) (hf : PySem.W.isFn X.K (.ref g) = true) (hl : PySem.W.notFirst X.K C (.type "list") = true) (F : FnR X.prog X.w X.K X.mg X.base CX0 n g sp) (hr : Room n X.A) : OpR X (compareOp .Eq) (rEqO C sp) := by
  intro pins s σ H x y v u Q I rx ry h0
  obtain ⟨a, dx, fs, b, rfl, rfl, ha, hb, q⟩ := h0
  obtain rfl : v = .ref a := rx
  obtain rfl : u = .ref b := ry
  obtain ⟨od, J⟩ := inst_at I ha
  obtain ⟨m, hF⟩ := I.fr
  obtain ⟨tb, hT, hn⟩ : ∃ tb, PySem.W.Looks (model X.prog X.w) s.heap (typeOf (.ref b)) tb ∧ PySem.W.notFirst X.K C tb = true := by
    rcases hb with ⟨dy, gs, hb⟩ | ⟨ys, hb⟩
    · obtain ⟨mB, J', _⟩ := ins_get I.hok hb
      obtain ⟨od', J', _⟩ := J'.look
      exact ⟨_, J'.type, by simp [PySem.W.notFirst]⟩
    · obtain ⟨its, _, ⟨o, k, e, c, _⟩, _⟩ := I.list (SqL.of (K := X.K) hb)
      exact ⟨_, c ▸ (PySem.W.Looks.ld e).andThen .now, hl⟩
  refine PySem.W.cmp_K (op := .Eq) (tb := tb) hr.units0 hF I.ok.mod.kin J hT hn hs hf ?_
  refine wpAny_mono (wpAny_call (run_fnR (us := [.ref a, .ref b]) (vs := [.ref a, .ref b]) F hr pass0 I (.cons rfl (.cons rfl .nil)) q)) (fun w s' z => ?_) fun _ _ x => x
  obtain ⟨z', H', I', rz, k, ez, qz⟩ := z
  subst ez
  cases (show w = Value.bool k from rz)
  exact ⟨.bl k, H', I', rfl, qz⟩
/-- o != p, both instances of the class, whose own == is asked -/
def rNeO (C : Addr) (sp : Sp) : R2 := fun x y H Q => ∃ a dx fs b dy gs, x = .ref a ∧ y = .ref b ∧ H a = some (.ins C dx fs) ∧ H b = some (.ins C dy gs) ∧ sp [x, y] H (fun z H' => ∃ k : Bool, z = .bl k ∧ Q (.bl !k) H') E0
open Builtin in
theorem op_neO (hs : PySem.W.findIn X.K (.ref C) "__eq__" = some (some (.ref g))) (hf : PySem.W.isFn X.K (.ref g) = true) (hne : PySem.W.findIn X.K (.ref C) "__ne__" = some (some (.builtin "object.__ne__"))) (hm : PySem.W.mroIn X.K C (.type "object") = some true)
    (F : FnR X.prog X.w X.K X.mg X.base CX0 n g sp) (hr : Room (n + 1) X.A) : OpR X (compareOp .NotEq) (rNeO C sp) := by
  intro pins s σ H x y v u Q I rx ry h0
  obtain ⟨a, dx, fs, b, dy, gs, rfl, rfl, ha, hb, q⟩ := h0
  obtain rfl : v = .ref a := rx
  obtain rfl : u = .ref b := ry
  obtain ⟨od, J⟩ := inst_at I ha
  obtain ⟨od', J'⟩ := inst_at I hb
  have run : wpAny (model X.prog X.w) X.A.in1 (call (.ref g) [.ref a, .ref b]) (fun r s' => ∃ k : Bool, r = .bool k ∧ EP X pins σ Q (.bool !k) s') X.xe s :=
    wpAny_mono (wpAny_call (SlX.run_at (us := [.ref a, .ref b]) (ws := [.ref a, .ref b]) F (Room.in1 hr) I.env0.in1 pass0 I (.cons rfl (.cons rfl .nil)) q)) (fun w s' z => by
      obtain ⟨z', H', I', rz, k, ez, qz⟩ := z
      subst ez
      cases (show w = Value.bool k from rz)
      exact ⟨k, rfl, .bl !k, H', I', rfl, qz⟩) fun _ _ x => x
  have body : wpAny (model X.prog X.w) X.A.in1 (Builtin.«object.__ne__» ⟨[.ref a, .ref b], []⟩) (fun f s' => ∃ k : Bool, f = .done (.ret (.bool !k)) ∧ EP X pins σ Q (.bool !k) s') X.xe s := by
    refine wpAny_bind (m := slotArgs "__ne__" 1 _) (wpAny_pure ?_)
    refine wpAny_bind (m := cRoomFor _ _) (wpAny_cRoomFor (Room.in1 hr).units0 ?_)
    refine wpAny_bind (m := callSpecialIfBound? (.ref a) (Str.ofString "__eq__") [.ref b]) (PySem.W.ifBound_K I.kIn J hs hf (wpAny_mono run (fun r s' z => ?_) fun _ _ x => x))
    obtain ⟨k, rfl, q⟩ := z
    exact wpAny_bind (wpAny_truthy_bool (wpAny_pure ⟨k, rfl, q⟩))
  have one : wpAny (model X.prog X.w) X.A (tryCompare (.ref a) "__ne__" (.ref b)) (fun r s' => ∃ k : Bool, r = some (.bool !k) ∧ EP X pins σ Q (.bool !k) s') X.xe s := by
    unfold tryCompare
    refine wpAny_bind (ask_obj I.kIn J hne PySem.F.cmp_object.ne.bind (wpAny_call (codeAny_call_builtin PySem.F.cmp_object.ne.plain PySem.F.cmpEntry_ne
      (PySem.W.check_slot (i := "object.__ne__") (owner := "object") (n := "__ne__") PySem.F.cmpKind_ne PySem.F.cmpSplit_ne (J.type.andThen (PySem.W.looks_mroIn I.kIn hm)) (PySem.F.cmpArgs_ne _ _) (wpAny_mono body (fun f s' z => ?_) fun _ _ x => x)))))
    obtain ⟨k, rfl, z⟩ := z
    exact wpAny_pure ⟨k, rfl, z⟩
  show wpAny (model X.prog X.w) X.A (richCompare .NotEq (.ref a) (.ref b)) _ _ _
  unfold richCompare
  rw [cmpInfo_NotEq]
  simp only [oneThing_ref]
  refine wpAny_holding (wpAny_bind (wpAny_cRoomFor hr.units0 (wpAny_bind (J.type.here (wpAny_bind (J'.type.here ?_))))))
  rw [show (Value.ref C != Value.ref C) = false from bne_self_eq_false _, if_neg Bool.false_ne_true]
  refine wpAny_bind (wpAny_pure (wpAny_bind (wpAny_mono one (fun r s' z => ?_) fun _ _ x => x)))
  obtain ⟨k, rfl, z⟩ := z
  exact wpAny_pure z
end
end OWN

set_option Elab.async false
set_option linter.all false
set_option maxRecDepth 100000
set_option maxHeartbeats 8000000
/-! What a box does. -/
namespace OWN
open PySem PySem.Spec L2 PyProof.Rows
/-- a op b of two instances of one class, whose own method is asked; it gives an object -/
def rBinO (C : Addr) (sp : Sp) : R2 := fun x y H Q => ∃ a dx fs b dy gs, x = .ref a ∧ y = .ref b ∧ H a = some (.ins C dx fs) ∧ H b = some (.ins C dy gs) ∧ sp [x, y] H (fun z H' => ∃ r : Addr, z = .ref r ∧ Q (.ref r) H') E0
theorem op_binO {X : Cx} {C g : Addr} {n : Nat} {sp : Sp} {op : Operator} (hs : PySem.W.findIn X.K (.ref C) (PySem.dunder op.info.2) = some (some (.ref g))) (hf : PySem.W.isFn X.K (.ref g) = true) (hc : PySem.W.selfFirst X.K C = true) (F : FnR X.prog X.w X.K X.mg X.base CX0 n g sp) (hr : Room n X.A) : OpR X (binaryOp op) (rBinO C sp) := by
  intro pins s σ H x y v u Q I rx ry h0
  obtain ⟨a, dx, fs, b, dy, gs, rfl, rfl, ha, hb, q⟩ := h0
  obtain rfl : v = .ref a := rx
  obtain rfl : u = .ref b := ry
  obtain ⟨od, J⟩ := inst_at I ha
  obtain ⟨od', J'⟩ := inst_at I hb
  obtain ⟨m, hF⟩ := I.fr
  refine PySem.W.binop_K hF I.ok.mod.kin J J'.type hc hs hf ?_
  refine wpAny_mono (wpAny_call (run_fnR (us := [.ref a, .ref b]) (vs := [.ref a, .ref b]) F hr pass0 I (.cons rfl (.cons rfl .nil)) q)) (fun w s' z => ?_) fun _ _ x => x
  obtain ⟨z', H', I', rz, r, ez, qz⟩ := z
  subst ez
  cases (show w = Value.ref r from rz)
  exact ⟨.ref r, H', I', rfl, qz⟩
end OWN
namespace WK
open PySem L2 PyProof.Rows LCX K1 FV DP LamX NdefX NCX
open TX (sg sigs)
open PySem.W (Frag kitOne)
abbrev sBGet : Stmt := inClass (top 43) 7
abbrev sBTab : Stmt := inClass (top 43) 8
abbrev sBCall : Stmt := inClass (top 43) 9
abbrev sBLean : Stmt := inClass (top 43) 13
abbrev sBAnd : Stmt := inClass (top 43) 15
abbrev sBLen : Stmt := inClass (top 43) 16
abbrev sBEq : Stmt := inClass (top 43) 17
abbrev sBStr : Stmt := inClass (top 43) 18
abbrev id_ (r : List Int) : List PyData := r.map PyData.int
abbrev td_ (tb : List (List Int)) : List PyData := tb.map fun r => PyData.tuple (id_ r)
theorem dp_int {K : Frag} {H : Hp} : ∀ r : List Int, DpAll K H (r.map V.int) (id_ r)
  | [] => .nil
  | i :: r => .cons (.int i) (dp_int r)
theorem dp_tab {K : Frag} {H : Hp} : ∀ {ts : List Addr} {tb : List (List Int)}, Objs oTup H ts tb → DpAll K H (ts.map V.ref) (td_ tb)
  | [], [], _ => .nil
  | _ :: _, r :: _, h => .cons (.tup (SqT.of h.1) (dp_int r)) (dp_tab h.2)
  | [], _ :: _, h => h.elim
  | _ :: _, [], h => h.elim
theorem eqv_ints : ∀ a b : List Int, PyData.eqvAll (id_ a) (id_ b) = decide (a = b)
  | [], [] => rfl
  | [], _ :: _ => rfl
  | _ :: _, [] => rfl
  | i :: a, j :: b => by
    show ((i == j) && PyData.eqvAll (id_ a) (id_ b)) = _
    rw [eqv_ints a b, show (i == j) = decide (i = j) from rfl, ← Bool.decide_and]
    exact decide_eq_decide.mpr (List.cons.injEq .. ▸ Iff.rfl)
theorem eqv_tabs : ∀ a b : List (List Int), PyData.eqvAll (td_ a) (td_ b) = decide (a = b)
  | [], [] => rfl
  | [], _ :: _ => rfl
  | _ :: _, [] => rfl
  | r :: a, q :: b => by
    show (PyData.eqvAll (id_ r) (id_ q) && PyData.eqvAll (td_ a) (td_ b)) = _
    rw [eqv_tabs a b, eqv_ints r q, ← Bool.decide_and]
    exact decide_eq_decide.mpr (List.cons.injEq .. ▸ Iff.rfl)
theorem lay_ints : ∀ r : List Int, PyData.canLayAll0 (id_ r) = true
  | [] => rfl
  | i :: r => by
    show (PyData.canLay0 (.int i) && PyData.canLayAll0 (id_ r)) = true
    rw [lay_ints r] <;> rfl
theorem dep_ints : ∀ r : List Int, PyData.depthAll (id_ r) = 0
  | [] => rfl
  | i :: r => by
    show max (PyData.depth (.int i)) (PyData.depthAll (id_ r)) = 0
    rw [dep_ints r] <;> rfl
theorem lay_tab : ∀ tb : List (List Int), PyData.canLayAll0 (td_ tb) = true
  | [] => rfl
  | r :: tb => by
    show (PyData.canLayAll0 (id_ r) && PyData.canLayAll0 (td_ tb)) = true
    rw [lay_ints, lay_tab tb] <;> rfl
theorem dep_tab : ∀ tb : List (List Int), PyData.depthAll (td_ tb) ≤ 1
  | [] => Nat.zero_le _
  | r :: tb => by
    show max (PyData.depthAll (id_ r) + 1) (PyData.depthAll (td_ tb)) ≤ 1
    rw [dep_ints]
    exact Nat.max_le.mpr ⟨Nat.le_refl _, dep_tab tb⟩
theorem sh_tab (tb : List (List Int)) : SeqAt.shaped (.tuple (td_ tb)) = true := by
  show (PyData.canLayAll0 (td_ tb) && decide (PyData.depthAll (td_ tb) + 1 ≤ 64)) = true
  have := dep_tab tb
  rw [lay_tab, decide_eq_true (by omega)] <;> rfl
theorem bfl_L {l t : V} : (bfl l t).lookup ("_letters" : Str) = some l := by
  show (match (("_letters" : Str) == ("_table" : Str)) with | true => some t | false => (([(("_letters" : Str), l)] : List (Str × V)).lookup ("_letters" : Str))) = some l
  rw [show (("_letters" : Str) == ("_table" : Str)) = false from by decide +kernel]
  rfl
theorem bfl_T {l t : V} : (bfl l t).lookup ("_table" : Str) = some t := rfl
/-- what is known of the class Box beside its makers -/
structure TBy (K : Frag) (C : Addr) : Prop where
  is : SlX.SIsi K C
  kC : kitOne K (.ref C) (.ref C) = some true
def spBCall (C : Addr) : Sp := fun vs H Q _ => ∃ (o : Addr) (L u : W) (tb : List (List Int)) (n : Int), vs = [.ref o, .str (tx u)] ∧ BoxAt C H o L tb ∧ Let L ∧ TabOk tb L.length n ∧ 1 ≤ n ∧ n ≤ 1000 ∧ u.length < 64 ∧ (∀ c ∈ u, c ∈ L) ∧ ∀ H', Same H H' → Q (.int (ledL L tb u 0)) H'
def spBLean (C : Addr) : Sp := fun vs H Q _ => ∃ (o : Addr) (L : W) (tb : List (List Int)) (n : Int), vs = [.ref o] ∧ BoxAt C H o L tb ∧ Let L ∧ TabOk tb L.length n ∧ 1 ≤ n ∧ n ≤ 1000 ∧ LeanT tb ∧ ∀ p H', H p = none → Same H H' → BoxAt C H' p L tb → Q (.ref p) H'
def spBLen (C : Addr) : Sp := fun vs H Q _ => ∃ (o : Addr) (L : W) (tb : List (List Int)), vs = [.ref o] ∧ BoxAt C H o L tb ∧ Q (.int (tb.length : Int)) H
def spBEq (C : Addr) : Sp := fun vs H Q _ => ∃ (a b : Addr) (L L' : W) (tb tb' : List (List Int)), vs = [.ref a, .ref b] ∧ BoxAt C H a L tb ∧ BoxAt C H b L' tb' ∧ Q (.bl (decide (L = L' ∧ tb = tb'))) H
def txtB (n : Int) (L : W) : Str := Str.ofString "box of " ++ Str.ofString (toString n) ++ Str.ofString " places for " ++ tx L
theorem box_fits : ∀ n ≤ 400, (Str.empty ++ Str.ofString "box of ").length ≤ 100 ∧ (Str.empty ++ Str.ofString "box of " ++ Str.ofString (toString ((n : Nat) : Int))).length ≤ 100 ∧ (Str.empty ++ Str.ofString "box of " ++ Str.ofString (toString ((n : Nat) : Int)) ++ Str.ofString " places for ").length ≤ 100 ∧
    ((n : Nat) : Int).natAbs.log2 < 1920 := by decide +kernel
theorem Str_empty_add (x : Str) : Str.empty ++ x = x := by
  show (⟨#[] ++ x.cps⟩ : Str) = x
  rw [Array.empty_append]
theorem str_add_len (x y : Str) : (x ++ y).length = x.length + y.length := by
  show (x.cps ++ y.cps).size = _
  rw [Array.size_append] <;> rfl
def spBStr (C : Addr) : Sp := fun vs H Q _ => ∃ (o : Addr) (L : W) (tb : List (List Int)), vs = [.ref o] ∧ BoxAt C H o L tb ∧ tb.length ≤ 400 ∧ L.length ≤ 3 ∧ Q (.str (txtB (tb.length : Int) L)) H
theorem rows_tt {K : Frag} {H : Hp} {r : Addr} {tb : List (List Int)} (h : RowsAt H r tb) : TTab K H r tb := let ⟨ts, a, b⟩ := h; ⟨ts, SqT.of a, b⟩
/-- rows were made, a box of them is made: what was there is there -/
theorem box_madeS {C cD : Addr} {H H1 : Hp} {L : W} {tb : List (List Int)} {g : Addr} {Q : VK} (hL : Let L) (s : Same H H1) (mk : MadeAt cD H1 g tb) (q : ∀ o H', H o = none → Same H H' → BoxAt C H' o L tb → Q (.ref o) H') :
    ∀ x dx, H1 x = none → H1 dx = none → dx ≠ x → spBoxI C cD [.ref x, .str (tx L), .ref g] (upd (upd H1 dx (.own x)) x (.ins C dx [])) (fun v H' => v = .non ∧ Q (.ref x) H') E0 := by
  intro x dx hx hdx ne
  have s5 : Same H1 (upd (upd H1 dx (.own x)) x (.ins C dx [])) := fun b o z => by rw [upd_ne (ne_of_none z hx), upd_ne (ne_of_none z hdx)]; exact z
  refine ⟨x, dx, L, g, _, rfl, hL, upd_same, fun z => ?_, mk.same s5, fun r H6 h6 k6 rows => ⟨rfl, ?_⟩⟩
  · obtain ⟨gx, r, e, _⟩ := mk
    rw [z, hx] at e
    cases e
  · have s6 : Same H1 H6 := fun b o z => k6 b o (s5 _ _ z) (ne_of_none z hx)
    exact q x H6 (s.free hx) (s.trans s6) ⟨dx, r, h6, rows⟩
section
variable {P : Program} {w : World} {K : PySem.W.Frag} {mg : Str → Option Value} {base : Heap} {C cD fNW fNO fL fB fD fT : Addr} {dNW dNO dL dB dD dT : FuncData}
theorem scBC : FnScope ["self", "word"] ["self", "word"] (defScope sBCall) := ⟨rfl, rfl, rfl, by decide +kernel, rfl, by decide +kernel, by decide +kernel⟩
theorem ok_bcall {f : Addr} {fd : FuncData} (F : Fun K "__call__" "Box.__call__" sBCall f fd) (M : TBx K mg C cD) (AW : Fn K mg "need_word" sNeedWord ["word"] fNW dNW) (GW : FnOk P w K mg base CX0 3 fNW dNW ["word"] spNeedWord) (AO : Fn K mg "need_over" sNeedOver ["letters", "word"] fNO dNO) (GO : FnOk P w K mg base CX0 3 fNO dNO ["letters", "word"] spNeedOver)
    (AL : Fn K mg "led" sLed ["letters", "table", "word", "start"] fL dL) (GL : FnOk P w K mg base CX0 1 fL dL ["letters", "table", "word", "start"] (spLed K)) : FnOk P w K mg base CX0 4 f fd ["self", "word"] (spBCall C) := by
  refine F.ok scBC (fun vs H Q E h => ?_) (fun cdv A outer s H vs Q E hr h => ?_)
  · obtain ⟨o, L, u, tb, n, rfl, _⟩ := h
    rfl
  · obtain ⟨o, L, u, tb, n, rfl, ⟨dx, r, h1, rows⟩, hL, ok, n1, n2, hu, hc, q⟩ := h
    have hr1 : Room 1 _ := hr.mono (by decide)
    refine ⟨_, pss_cons (ps_expr (pe_call GW hr rfl AW.g AW.F.kp AW.b .nil pass0 (pa_cons (pv 1) pa_nil)))
      (pss_cons (ps_expr (pe_call GO hr rfl AO.g AO.F.kp AO.b .nil pass0 (pa_cons (pe_fld (pv 0) rfl) (pa_cons (pv 1) pa_nil))))
      (pss_one (ps_ret (pe_call GL hr1 rfl AL.g AL.F.kp AL.b .nil pass0 (pa_cons (pe_fld (pv 0) rfl) (pa_cons (pe_fld (pv 0) rfl) (pa_cons (pv 1) (pa_cons pe_int pa_nil)))))))), ?_⟩
    refine ⟨_, rfl, u, rfl, fun c hc' => hL.low c (hc c hc'), _, rfl, o, C, dx, _, _, rfl, h1, M.cl, M.nL, bfl_L, _, rfl, L, u, rfl, hu, hc, fun H1 s1 => ?_⟩
    have g1 := s1 _ _ h1
    refine ⟨_, rfl, o, C, dx, _, _, rfl, g1, M.cl, M.nL, bfl_L, _, rfl, o, C, dx, _, _, rfl, g1, M.cl, M.nT, bfl_T, _, rfl, r, L, u, tb, n, 0, rfl, (rows_tt rows).same s1, hL, ok, n2, Int.le_refl _, by omega, by omega, hc, fun H2 s2 => q H2 (s1.trans s2)⟩
theorem scBN : FnScope ["self"] ["self"] (defScope sBLen) := ⟨rfl, rfl, rfl, by decide +kernel, rfl, by decide +kernel, by decide +kernel⟩
theorem ok_blen {f : Addr} {fd : FuncData} (F : Fun K "__len__" "Box.__len__" sBLen f fd) (T : TN mg) (M : TBx K mg C cD) : FnOk P w K mg base CX0 1 f fd ["self"] (spBLen C) := by
  refine F.ok scBN (fun vs H Q E h => ?_) (fun cdv A outer s H vs Q E hr h => ?_)
  · obtain ⟨o, _, _, rfl, _⟩ := h
    rfl
  · obtain ⟨o, L, tb, rfl, ⟨dx, r, h1, ts, h2, h3⟩, q⟩ := h
    refine ⟨_, pss_one (ps_ret (pe_callB call_len_seq (by rfl) T.len PySem.boot_len (pa_cons (pe_fld (pv 0) rfl) pa_nil))), ?_⟩
    refine ⟨_, rfl, o, C, dx, _, _, rfl, h1, M.cl, M.nT, bfl_T, r, _, rfl, .inr (SqT.of h2), ?_⟩
    rw [List.length_map, h3.len]
    exact q
theorem scBE : FnScope ["self", "other"] ["self", "other"] (defScope sBEq) := ⟨rfl, rfl, rfl, by decide +kernel, rfl, by decide +kernel, by decide +kernel⟩
theorem ok_beq {f : Addr} {fd : FuncData} (F : Fun K "__eq__" "Box.__eq__" sBEq f fd) (T : TN mg) (M : TBx K mg C cD) (Y : TBy K C) : FnOk P w K mg base CX0 1 f fd ["self", "other"] (spBEq C) := by
  refine F.ok scBE (fun vs H Q E h => ?_) (fun cdv A outer s H vs Q E hr h => ?_)
  · obtain ⟨a, b, _, _, _, _, rfl, _⟩ := h
    rfl
  · obtain ⟨a, b, L, L', tb, tb', rfl, ⟨dx, r, h1, ts, h2, h3⟩, ⟨dx', r', g1, ts', g2, g3⟩, q⟩ := h
    refine ⟨_, pss_one (ps_ret (pe_and (pe_callB call_isi (by rfl) T.isi (by decide +kernel) (pa_cons (pv 1) (pa_cons (pe_glob rfl M.gC (show RelV (.ref C) (.ref C) from rfl)) pa_nil)))
      (pe_and (pe_cmpR op_eq (pe_fld (pv 0) rfl) (pe_fld (pv 1) rfl) (nomark _)) (pe_one (pe_cmpR (op_eqD hr.units) (pe_fld (pv 0) rfl) (pe_fld (pv 1) rfl) (nomark _)))))), ?_⟩
    refine ⟨_, rfl, _, _, _, _, true, rfl, .own C, .base (.ins g1 M.cl Y.is.ca Y.is.cn Y.is.ct Y.is.cm), Y.kC, true, rfl, ?_⟩
    refine ⟨_, rfl, a, C, dx, _, _, rfl, h1, M.cl, M.nL, bfl_L, _, rfl, b, C, dx', _, _, rfl, g1, M.cl, M.nL, bfl_L, rfl, _, rfl, ?_⟩
    by_cases e1 : L = L'
    · rw [decide_eq_true (congrArg (fun z => V.str (tx z)) e1)]
      refine ⟨_, rfl, a, C, dx, _, _, rfl, h1, M.cl, M.nT, bfl_T, _, rfl, b, C, dx', _, _, rfl, g1, M.cl, M.nT, bfl_T, .tuple (td_ tb), .tuple (td_ tb'), .tup (SqT.of h2) (dp_tab h3), .tup (SqT.of g2) (dp_tab g3), sh_tab tb, sh_tab tb', ?_⟩
      show Q (.bl (PyData.eqvAll (td_ tb) (td_ tb'))) H
      rw [eqv_tabs, show decide (tb = tb') = decide (L = L' ∧ tb = tb') from decide_eq_decide.mpr ⟨fun z => ⟨e1, z⟩, fun z => z.2⟩]
      exact q
    · rw [decide_eq_false fun z => e1 (K1.tx_inj (V.str.inj z))]
      rw [decide_eq_false fun z => e1 z.1] at q
      exact q
theorem scBS : FnScope ["self"] ["self"] (defScope sBStr) := ⟨rfl, rfl, rfl, by decide +kernel, rfl, by decide +kernel, by decide +kernel⟩
theorem ok_bstr {f : Addr} {fd : FuncData} (F : Fun K "__str__" "Box.__str__" sBStr f fd) (T : TN mg) (M : TBx K mg C cD) : FnOk P w K mg base CX0 1 f fd ["self"] (spBStr C) := by
  refine F.ok scBS (fun vs H Q E h => ?_) (fun cdv A outer s H vs Q E hr h => ?_)
  · obtain ⟨o, _, _, rfl, _⟩ := h
    rfl
  · obtain ⟨o, L, tb, rfl, ⟨dx, r, h1, ts, h2, h3⟩, b1, b2, q⟩ := h
    refine ⟨_, pss_one (ps_ret (pe_joined (.cons pe_str (.cons (pe_fmt (pe_callB call_len_seq (by rfl) T.len PySem.boot_len (pa_cons (pe_fld (pv 0) rfl) pa_nil))) (.cons pe_str (.cons (pe_fmt (pe_fld (pv 0) rfl)) .nil)))))), ?_⟩
    obtain ⟨z1, z2, z3, z4⟩ := box_fits tb.length b1
    have big : ∀ {n : Nat}, n ≤ 100 → n ≤ sizeLine := fun h => by rw [sizeLine_eq]; omega
    refine ⟨_, rfl, big z1, _, rfl, o, C, dx, _, _, rfl, h1, M.cl, M.nT, bfl_T, r, _, rfl, .inr (SqT.of h2), .inr ⟨_, rfl, ?_, ?_⟩⟩
    · rw [List.length_map, h3.len]
      exact z4
    · rw [List.length_map, h3.len]
      refine ⟨_, rfl, big z2, _, rfl, big z3, _, rfl, o, C, dx, _, _, rfl, h1, M.cl, M.nL, bfl_L, .inl ⟨tx L, rfl, ?_, _, rfl, ?_, ?_⟩⟩
      · rw [tx_len, sizeLine_eq]
        omega
      · rw [sizeLine_eq, str_add_len, tx_len]
        omega
      · rw [Str_empty_add]
        exact q
theorem scBLn : FnScope ["self"] ["self"] (defScope sBLean) := ⟨rfl, rfl, rfl, by decide +kernel, rfl, by decide +kernel, by decide +kernel⟩
theorem ok_blean {f : Addr} {fd : FuncData} (F : Fun K "lean" "Box.lean" sBLean f fd) (M : TBx K mg C cD) (AT : Fn K mg "trimmed" sTrim ["table", "start"] fT dT) (GT : FnOk P w K mg base CX0 2 fT dT ["table", "start"] (spTrim K)) (MI : Mk K C fB) (GI : FnOk P w K mg base CX0 3 fB dB ["self", "letters", "table"] (spBoxI C cD)) (bI : Binds K dB ["self", "letters", "table"] [])
    (MD : Mk K cD fD) (GD : FnOk P w K mg base CX0 1 fD dD ["self", "rows"] (spMadeI cD)) (bD : Binds K dD ["self", "rows"] []) : FnOk P w K mg base CX0 5 f fd ["self"] (spBLean C) := by
  refine F.ok scBLn (fun vs H Q E h => ?_) (fun cdv A outer s H vs Q E hr h => ?_)
  · obtain ⟨o, _, _, _, rfl, _⟩ := h
    rfl
  · obtain ⟨o, L, tb, n, rfl, ⟨dx, r, h1, rows⟩, hL, ok, n1, n2, lean, q⟩ := h
    have hr2 : Room 2 _ := hr.mono (by decide)
    refine ⟨_, pss_one (ps_ret (pe_make (E := E0) MI GI hr rfl M.gC bI .nil pass0 (pa_cons (pe_fld (pv 0) rfl) (pa_cons (pe_make (E := E0) MD GD hr2 rfl M.gD bD .nil pass0 (pa_cons (pe_ix ix_tup (pe_call (E := E0) GT hr2 rfl AT.g AT.F.kp AT.b .nil pass0 (pa_cons (pe_fld (pv 0) rfl) (pa_cons pe_int pa_nil))) pe_int (fun _ _ => rfl)) pa_nil)) pa_nil)))), ?_⟩
    refine ⟨_, rfl, o, C, dx, _, _, rfl, h1, M.cl, M.nL, bfl_L, _, rfl, o, C, dx, _, _, rfl, h1, M.cl, M.nT, bfl_T, r, tb, L.length, n, rfl, rows_tt rows, ok, n1, n2, by have := hL.few; omega, lean, fun p u v H1 np s1 hp rows1 => ?_⟩
    refine ⟨p, _, _, _, rfl, rfl, SqT.of hp, rfl, ?_⟩
    intro x dx2 hx hdx ne
    refine ⟨x, dx2, _, rfl, upd_same, rfl, ?_⟩
    have s3 : Same H1 (upd (upd (upd H1 dx2 (.own x)) x (.ins cD dx2 [])) x (.ins cD dx2 [("rows", .ref v)])) := fun b o z => by rw [upd_ne (ne_of_none z hx), upd_ne (ne_of_none z hx), upd_ne (ne_of_none z hdx)]; exact z
    have mk : MadeAt cD (upd (upd (upd H1 dx2 (.own x)) x (.ins cD dx2 [])) x (.ins cD dx2 [("rows", .ref v)])) x tb := ⟨dx2, v, upd_same, rows1.keep (Same.tup' s3)⟩
    have s13 := s1.trans s3
    exact box_madeS hL s13 mk q
end
end WK

set_option Elab.async false
set_option linter.all false
set_option maxRecDepth 100000
set_option maxHeartbeats 4000000
/-! list(zip(t, u)) of two tuples. -/
namespace RZ
open PySem
open PySem.Sem (wp)
section
variable {prog : Program} {w : World} {A : Around} {E : Value → Shared → Prop} {s : Shared}
/-- a zip of two tuples that holds the pair that it gave before, asked once more: the next pair while the first tuple has an item, its end after that -/
theorem held_asked {z TI TO T i1 i2 l1 l2 : Addr} {f : Bool} {old : Obj} {m n : Nat} {us vs : Array Value} {Q : Fin → Shared → Prop} (D : ZipApart z TI TO i1 i2 l1 l2)
    (isZ : IsZipHeld s.heap z TI TO T f) (oldAt : s.heap.get? T = some old) (its : IsPair s.heap TI (.ref i1) (.ref i2)) (w1 : s.heap.IsTupleIter i1 l1 m) (w2 : s.heap.IsTupleIter i2 l2 n)
    (t1 : s.heap.IsTuple l1 us) (t2 : s.heap.IsTuple l2 vs) (both : ∀ u, us[m]? = some u → ∃ v, vs[n]? = some v)
    (pair : ∀ u v, us[m]? = some u → vs[n]? = some v → ∀ g, IsZipHeld g z TI TO T true → g.IsTupleIter i1 l1 (m + 1) → g.IsTupleIter i2 l2 (n + 1) → IsPair g s.heap.objs.size u v → g.objs.size = s.heap.objs.size + 1 →
      (∀ b q, b ≠ z → b ≠ i1 → b ≠ i2 → s.heap.get? b = some q → g.get? b = some q) → Q (.done (.ret (.ref s.heap.objs.size))) { s with heap := g })
    (over : us[m]? = none → A.handled = none ∧ ∀ g err, (∀ b q, b ≠ z → b ≠ i1 → b ≠ i2 → s.heap.get? b = some q → g.get? b = some q) → (∃ q, g.get? err = some q ∧ q.cls = .type "StopIteration") → E (.ref err) { s with heap := g }) :
    wpAny (model prog w) A (Builtin.«zip.__next__» ⟨[.ref z], []⟩) Q E s := by
  refine wpAny_bind (m := field (.ref z) 2) (wpAny_field isZ rfl (x := .bool false) rfl ?_)
  refine wpAny_bind (m := field (.ref z) 3) (wpAny_field isZ rfl (x := .ref TI) rfl (wpAny_bind (wpAny_seqItems its rfl ?_)))
  refine wpAny_bind (m := Builtin.SmallTypes.ownedTupleIsFree (.ref z)) (wpAny_tupleHeld_zip isZ oldAt fun g1 z1 same1 => ?_)
  simp only [← Array.forIn_toList, List.forIn_cons, List.forIn_nil, Bool.false_eq_true, if_false]
  have v1 := w1.extBut same1.extBut D.i1z
  have y1 := t1.extBut same1.extBut D.l1z
  refine wpAny_bind (wpAny_bind (wpAny_bind (wpAny_holding (wpAny_bind (m := Builtin.SmallTypes.nextOf (.ref i1)) ?_))))
  cases look : us[m]? with
  | none =>
    obtain ⟨calm, over⟩ := over look
    exact nextOf_tuple_end (s := { s with heap := g1 }) calm v1 y1 look fun g err keep isStop => over g err (fun b q bz b1 _ at_b => keep _ _ b1 (same1.extBut _ _ bz at_b)) isStop
  | some u =>
    obtain ⟨v, look2⟩ := both u look
    refine nextOf_tuple_item (s := { s with heap := g1 }) v1 y1 look fun g2 v1' same2 => wpAny_pure (wpAny_pure ?_)
    refine wpAny_bind (wpAny_bind (wpAny_holding (wpAny_bind (m := Builtin.SmallTypes.nextOf (.ref i2)) ?_)))
    refine nextOf_tuple_item (s := { s with heap := g2 }) ((w2.extBut same1.extBut D.i2z).extBut same2.extBut D.i12.symm) ((t2.extBut same1.extBut D.l2z).extBut same2.extBut D.l2i1) look2 fun g3 v2' same3 => ?_
    refine wpAny_pure (wpAny_pure (wpAny_pure (wpAny_bind (m := newTuple [u, v]) (wpAny_newTuple ?_))))
    have size3 : g3.objs.size = s.heap.objs.size := same3.1.trans (same2.1.trans same1.1)
    refine wpAny_pure ?_
    show Q (.done (.ret (.ref g3.objs.size))) _
    have made : IsPair (g3.push { cls := .type "tuple", data := .seq #[u, v] }) g3.objs.size u v := Heap.get?_push_size _ rfl
    have grown : (g3.push { cls := .type "tuple", data := .seq #[u, v] }).objs.size = g3.objs.size + 1 := Heap.size_push ..
    rw [size3] at made grown ⊢
    refine pair u v look look2 _ (Heap.get?_push_of_some _ (same3.extBut _ _ D.i2z.symm (same2.extBut _ _ D.i1z.symm z1))) ((v1'.extBut same3.extBut D.i12).at fun o at_b => Heap.get?_push_of_some _ at_b)
      (v2'.at fun o at_b => Heap.get?_push_of_some _ at_b) made grown fun b q bz b1 b2 at_b => ?_
    exact Heap.get?_push_of_some _ (same3.extBut _ _ b2 (same2.extBut _ _ b1 (same1.extBut _ _ bz at_b)))
/-- where zip stands, i pairs out -/
def ZS (h : Heap) (z TI TO i1 i2 l1 l2 : Addr) (i : Nat) : Prop := IsPair h TI (.ref i1) (.ref i2) ∧ h.IsTupleIter i1 l1 i ∧ h.IsTupleIter i2 l2 i ∧
  ((IsZip h z TI TO .none ∧ ∃ a b, IsPair h TO a b) ∨ ∃ T f oT, IsZipHeld h z TI TO T f ∧ h.get? T = some oT)
theorem ZS.typeIs {z TI TO i1 i2 l1 l2 : Addr} {i : Nat} (h : ZS s.heap z TI TO i1 i2 l1 l2 i) : s.TypeIs (.ref z) "zip" := by
  obtain ⟨_, _, _, ⟨h, _⟩ | ⟨T, f, oT, h, _⟩⟩ := h
  · exact ⟨_, h, rfl⟩
  · exact ⟨_, h, rfl⟩
theorem ZS.keep {h h' : Heap} {z TI TO i1 i2 l1 l2 S : Addr} {i : Nat} (x : ZS h z TI TO i1 i2 l1 l2 i) (hS : ∃ acc c, h.get? S = some { cls := .type "list", dict := none, data := .seq acc c, slots := #[] })
    (k : ∀ b o, b ≠ S → h.get? b = some o → h'.get? b = some o) (kS : ∃ o, h'.get? S = some o) : ZS h' z TI TO i1 i2 l1 l2 i := by
  obtain ⟨acc, c, hS⟩ := hS
  obtain ⟨h1, ⟨o2, h2, c2, r2⟩, ⟨o3, h3, c3, r3⟩, h4⟩ := x
  have ne : ∀ b o, h.get? b = some o → o.cls ≠ .type "list" → b ≠ S := fun b o e q z => by
    rw [z, hS] at e
    cases e
    exact q rfl
  refine ⟨k _ _ (ne _ _ h1 (fun z => by simp at z)) h1, ⟨o2, k _ _ (ne _ _ h2 (by rw [c2]; simp)) h2, c2, r2⟩, ⟨o3, k _ _ (ne _ _ h3 (by rw [c3]; simp)) h3, c3, r3⟩, ?_⟩
  rcases h4 with ⟨h4, a, b, h5⟩ | ⟨T, f, oT, h4, h5⟩
  · exact .inl ⟨k _ _ (ne _ _ h4 (fun z => by simp at z)) h4, a, b, k _ _ (ne _ _ h5 (fun z => by simp at z)) h5⟩
  · by_cases hT : T = S
    · obtain ⟨o, kS⟩ := kS
      exact .inr ⟨T, f, o, k _ _ (ne _ _ h4 (fun z => by simp at z)) h4, by rw [hT]; exact kS⟩
    · exact .inr ⟨T, f, oT, k _ _ (ne _ _ h4 (fun z => by simp at z)) h4, k _ _ hT h5⟩
theorem next_item {z TI TO i1 i2 l1 l2 : Addr} {i : Nat} {xs ys : Array Value} {x y : Value} {Q : Option Value → Shared → Prop} (D : ZipApart z TI TO i1 i2 l1 l2) (st : ZS s.heap z TI TO i1 i2 l1 l2 i)
    (hl1 : s.heap.IsTuple l1 xs) (hl2 : s.heap.IsTuple l2 ys) (hx : xs[i]? = some x) (hy : ys[i]? = some y)
    (hQ : ∀ g, ZS g z TI TO i1 i2 l1 l2 (i + 1) → IsPair g s.heap.objs.size x y → g.objs.size = s.heap.objs.size + 1 →
      (∀ b q, b ≠ z → b ≠ TO → b ≠ i1 → b ≠ i2 → s.heap.get? b = some q → g.get? b = some q) → Q (some (.ref s.heap.objs.size)) { s with heap := g }) : wpAny (model prog w) A (pyNext (.ref z)) Q E s := by
  have isTy := st.typeIs
  obtain ⟨h1, h2, h3, ⟨new, a, b, bare⟩ | ⟨T, f, oT, held, atT⟩⟩ := st
  · refine pyNext_zipT_item D new h1 bare h2 h3 hl1 hl2 hx hy fun g z' _ w1 w2 made grown keep => hQ g ⟨keep _ _ D.TIz D.TITO D.TIi1 D.TIi2 h1, w1, w2, .inr ⟨s.heap.objs.size, false, _, z', made⟩⟩ made grown keep
  · unfold pyNext
    refine wpAny_bind (wpAny_attempt (wpAny_callSpecial?_slot (name := Str.ofString "__next__") isTy F.slot_zip_next (wpAny_call_entry F.slot_zip_next isTy F.entry_zip_next ?_ (F.args_zip_next_1 _))))
    refine held_asked D held atT h1 h2 h3 hl1 hl2 (fun _ _ => ⟨y, hy⟩) (fun u v hu hv g z' w1 w2 made grown keep => ?_) (fun no => nomatch hx.symm.trans no)
    cases hx.symm.trans hu
    cases hy.symm.trans hv
    refine ⟨_, rfl, wpAny_pure (hQ g ⟨keep _ _ D.TIz D.TIi1 D.TIi2 h1, w1, w2, .inr ?_⟩ made grown fun b q bz _ b1 b2 at_b => keep b q bz b1 b2 at_b)⟩
    by_cases eT : T = z ∨ T = i1 ∨ T = i2
    · rcases eT with rfl | rfl | rfl
      · exact ⟨_, true, _, z', z'⟩
      · exact let ⟨o, at_o, _⟩ := w1; ⟨_, true, o, z', at_o⟩
      · exact let ⟨o, at_o, _⟩ := w2; ⟨_, true, o, z', at_o⟩
    · obtain ⟨nz, n1, n2⟩ : T ≠ z ∧ T ≠ i1 ∧ T ≠ i2 := by simpa [not_or] using eT
      exact ⟨T, true, oT, z', keep T oT nz n1 n2 atT⟩
theorem next_end {z TI TO i1 i2 l1 l2 : Addr} {i : Nat} {xs ys : Array Value} {Q : Option Value → Shared → Prop} (hh : A.handled = none) (D : ZipApart z TI TO i1 i2 l1 l2) (st : ZS s.heap z TI TO i1 i2 l1 l2 i)
    (hl1 : s.heap.IsTuple l1 xs) (hl2 : s.heap.IsTuple l2 ys) (hx : xs[i]? = none)
    (hQ : ∀ g, (∀ b q, b ≠ z → b ≠ TO → b ≠ i1 → b ≠ i2 → s.heap.get? b = some q → g.get? b = some q) → Q none { s with heap := g }) : wpAny (model prog w) A (pyNext (.ref z)) Q E s := by
  have isTy := st.typeIs
  obtain ⟨h1, h2, h3, ⟨new, a, b, bare⟩ | ⟨T, f, oT, held, atT⟩⟩ := st
  · exact pyNext_zipT_end hh D new h1 bare h2 h3 hl1 hl2 (.inl hx) hQ
  · unfold pyNext
    refine wpAny_bind (wpAny_attempt (wpAny_callSpecial?_slot (name := Str.ofString "__next__") isTy F.slot_zip_next (wpAny_call_entry F.slot_zip_next isTy F.entry_zip_next ?_ (F.args_zip_next_1 _))))
    refine held_asked D held atT h1 h2 h3 hl1 hl2 (fun u hu => nomatch hx.symm.trans hu) (fun u v hu => nomatch hx.symm.trans hu) fun _ => ⟨hh, fun g err keep isStop => ?_⟩
    obtain ⟨o, at_o, cls_o⟩ := isStop
    exact wpAny_bind (wpAny_isInstance (T := "StopIteration") (b := true) ⟨o, at_o, cls_o⟩ isSubtype_stop (wpAny_pure (hQ g fun b q bz _ b1 b2 at_b => keep b q bz b1 b2 at_b)))
theorem zip_no_len : typeLookup (.type "zip") "__len__" = pure none := am_miss_of_fast (by decide +kernel)
theorem zip_no_hint : typeLookup (.type "zip") "__length_hint__" = pure none := am_miss_of_fast (by decide +kernel)
end
end RZ

set_option Elab.async false
set_option linter.all false
set_option maxRecDepth 100000
set_option maxHeartbeats 8000000
/-! for p in zip(t, u), t and u tuples as long as one another: the first pair stays with the zip. -/
namespace ZQT
open PySem PySem.Spec PyProof.Rows L2 RZ
section
variable {prog : Program} {w : World} {A : Around} {E : Value → Shared → Prop} {s : Shared}
/-- where it stands, i pairs out, the first of them l -/
structure At (a b z TI TO i1 i2 : Addr) (i : Nat) (l : Option Addr) (h : Heap) : Prop where
  ti : IsPair h TI (.ref i1) (.ref i2)
  to : ∃ p q, IsPair h TO p q
  it1 : h.IsTupleIter i1 a i
  it2 : h.IsTupleIter i2 b i
  none_ : l = none → IsZip h z TI TO .none
  some_ : ∀ T, l = some T → ∃ f, IsZipHeld h z TI TO T f
theorem At.obj {a b z TI TO i1 i2 : Addr} {i : Nat} {l : Option Addr} {h : Heap} (x : At a b z TI TO i1 i2 i l h) : ∀ c ∈ [z, TI, TO, i1, i2], ∃ o, h.get? c = some o ∧ ∀ v, o.data ≠ .cell v := by
  obtain ⟨h1, ⟨p, q, h2⟩, ⟨o3, e3, _, d3⟩, ⟨o4, e4, _, d4⟩, h5, h6⟩ := x
  intro c hc
  have hc' : c = z ∨ c = TI ∨ c = TO ∨ c = i1 ∨ c = i2 := by simpa using hc
  rcases hc' with y | y | y | y | y
  · rw [y]
    cases l with
    | none => exact ⟨_, h5 rfl, fun v q => nomatch q⟩
    | some T =>
      obtain ⟨f, q⟩ := h6 T rfl
      exact ⟨_, q, fun v q => nomatch q⟩
  · rw [y]
    exact ⟨_, h1, fun v q => nomatch q⟩
  · rw [y]
    exact ⟨_, h2, fun v q => nomatch q⟩
  · rw [y]
    exact ⟨o3, e3, fun v q => nomatch d3.symm.trans q⟩
  · rw [y]
    exact ⟨o4, e4, fun v q => nomatch d4.symm.trans q⟩
theorem At.keep {a b z TI TO i1 i2 : Addr} {i : Nat} {l : Option Addr} {h h' : Heap} (x : At a b z TI TO i1 i2 i l h) (k : ∀ c ∈ [z, TI, TO, i1, i2], ∀ o, h.get? c = some o → h'.get? c = some o) : At a b z TI TO i1 i2 i l h' :=
  ⟨k TI (by simp) _ x.ti, let ⟨p, q, e⟩ := x.to; ⟨p, q, k TO (by simp) _ e⟩, x.it1.at fun o e => k i1 (by simp) o e, x.it2.at fun o e => k i2 (by simp) o e, fun e => k z (by simp) _ (x.none_ e), fun T e => let ⟨f, q⟩ := x.some_ T e; ⟨f, k z (by simp) _ q⟩⟩
theorem At.typeIs {a b z TI TO i1 i2 : Addr} {i : Nat} {l : Option Addr} (x : At a b z TI TO i1 i2 i l s.heap) : s.TypeIs (.ref z) "zip" := by
  cases l with
  | none => exact ⟨_, x.none_ rfl, rfl⟩
  | some T =>
    obtain ⟨f, q⟩ := x.some_ T rfl
    exact ⟨_, q, rfl⟩
theorem item {a b z TI TO i1 i2 : Addr} {i : Nat} {l : Option Addr} {xs ys : Array Value} {x y : Value} {Q : Option Value → Shared → Prop} (D : ZipApart z TI TO i1 i2 a b) (st : At a b z TI TO i1 i2 i l s.heap) (old : ∀ T, l = some T → ∃ o, s.heap.get? T = some o ∧ T ∉ [z, TI, TO, i1, i2])
    (ha : s.heap.IsTuple a xs) (hb : s.heap.IsTuple b ys) (hx : xs[i]? = some x) (hy : ys[i]? = some y)
    (hQ : ∀ g, At a b z TI TO i1 i2 (i + 1) (some (l.getD s.heap.objs.size)) g → IsPair g s.heap.objs.size x y → (∀ c o, c ≠ z → c ≠ TO → c ≠ i1 → c ≠ i2 → s.heap.get? c = some o → g.get? c = some o) → Q (some (.ref s.heap.objs.size)) { s with heap := g }) :
    wpAny (model prog w) A (pyNext (.ref z)) Q E s := by
  have isTy := st.typeIs
  obtain ⟨h1, ⟨p, q, h2⟩, h3, h4, h5, h6⟩ := st
  cases l with
  | none =>
    refine pyNext_zipT_item D (h5 rfl) h1 h2 h3 h4 ha hb hx hy fun g z' TO' w1 w2 made _ keep => hQ g ⟨keep _ _ D.TIz D.TITO D.TIi1 D.TIi2 h1, ⟨_, _, TO'⟩, w1, w2, (fun e => nomatch e), fun T e => ?_⟩ made keep
    cases e
    exact ⟨false, z'⟩
  | some T =>
    obtain ⟨f, held⟩ := h6 T rfl
    obtain ⟨oT, atT, nT⟩ := old T rfl
    unfold pyNext
    refine wpAny_bind (wpAny_attempt (wpAny_callSpecial?_slot (name := Str.ofString "__next__") isTy F.slot_zip_next (wpAny_call_entry F.slot_zip_next isTy F.entry_zip_next ?_ (F.args_zip_next_1 _))))
    refine held_asked D held atT h1 h3 h4 ha hb (fun _ _ => ⟨y, hy⟩) (fun u v hu hv g z' w1 w2 made _ keep => ?_) (fun no => nomatch hx.symm.trans no)
    cases hx.symm.trans hu
    cases hy.symm.trans hv
    refine ⟨_, rfl, wpAny_pure (hQ g ⟨keep _ _ D.TIz D.TIi1 D.TIi2 h1, ⟨p, q, keep _ _ D.TOz D.TOi1 D.TOi2 h2⟩, w1, w2, (fun e => nomatch e), fun T' e => ?_⟩ made fun c o cz _ c1 c2 e => keep c o cz c1 c2 e)⟩
    cases e
    exact ⟨true, z'⟩
theorem over {a b z TI TO i1 i2 : Addr} {i : Nat} {l : Option Addr} {xs ys : Array Value} {Q : Option Value → Shared → Prop} (hh : A.handled = none) (D : ZipApart z TI TO i1 i2 a b) (st : At a b z TI TO i1 i2 i l s.heap) (old : ∀ T, l = some T → ∃ o, s.heap.get? T = some o)
    (ha : s.heap.IsTuple a xs) (hb : s.heap.IsTuple b ys) (hx : xs[i]? = none) (hQ : ∀ g, (∀ c o, c ≠ z → c ≠ TO → c ≠ i1 → c ≠ i2 → s.heap.get? c = some o → g.get? c = some o) → Q none { s with heap := g }) : wpAny (model prog w) A (pyNext (.ref z)) Q E s := by
  have isTy := st.typeIs
  obtain ⟨h1, ⟨p, q, h2⟩, h3, h4, h5, h6⟩ := st
  cases l with
  | none => exact pyNext_zipT_end hh D (h5 rfl) h1 h2 h3 h4 ha hb (.inl hx) hQ
  | some T =>
    obtain ⟨f, held⟩ := h6 T rfl
    obtain ⟨oT, atT⟩ := old T rfl
    unfold pyNext
    refine wpAny_bind (wpAny_attempt (wpAny_callSpecial?_slot (name := Str.ofString "__next__") isTy F.slot_zip_next (wpAny_call_entry F.slot_zip_next isTy F.entry_zip_next ?_ (F.args_zip_next_1 _))))
    refine held_asked D held atT h1 h3 h4 ha hb (fun u hu => nomatch hx.symm.trans hu) (fun u v hu => nomatch hx.symm.trans hu) fun _ => ⟨hh, fun g err keep isStop => ?_⟩
    obtain ⟨o, at_o, cls_o⟩ := isStop
    exact wpAny_bind (wpAny_isInstance (T := "StopIteration") (b := true) ⟨o, at_o, cls_o⟩ isSubtype_stop (wpAny_pure (hQ g fun c o cz _ c1 c2 e => keep c o cz c1 c2 e)))
end
/-- the loop: l is the pair that the zip still has -/
def tForZ (K : PySem.W.Frag) (ta : TA) (g : TG) (tb : TS) : TS := fun D σ H => ta σ H fun vs H1 => ∃ (a b : Addr) (xs ys : List V) (Pv : Nat → Option Addr → L2.St → Hp → Prop), vs = [.ref a, .ref b] ∧ xs.length = ys.length ∧ Pv 0 none σ H1 ∧
  (∀ i l σ H, i ≤ xs.length → Pv i l σ H → SqT K H a xs ∧ SqT K H b ys ∧ ∀ T, l = some T → ∃ zs, H T = some (.tup zs)) ∧
  (∀ i l σ H x y T, xs[i]? = some x → ys[i]? = some y → Pv i l σ H → H T = none → g (.ref T) σ (upd H T (.tup [x, y])) fun σ2 H2 => tb { D with nx := Pv (i + 1) (some (l.getD T)), ct := Pv (i + 1) (some (l.getD T)), bk := D.nx } σ2 H2) ∧ ∀ l σ H, Pv xs.length l σ H → D.nx σ H
theorem forZ_it {K : PySem.W.Frag} {g : TG} {tb : TS} {D : Ends} {σ : L2.St} {H1 : Hp} {a b : Addr} {xs ys : List V} (Pv : Nat → Option Addr → L2.St → Hp → Prop) (hl : xs.length = ys.length) (h0 : Pv 0 none σ H1)
    (hq : ∀ i l σ H, i ≤ xs.length → Pv i l σ H → SqT K H a xs ∧ SqT K H b ys ∧ ∀ T, l = some T → ∃ zs, H T = some (.tup zs))
    (hs : ∀ i l σ H x y T, xs[i]? = some x → ys[i]? = some y → Pv i l σ H → H T = none → g (.ref T) σ (upd H T (.tup [x, y])) fun σ2 H2 => tb { D with nx := Pv (i + 1) (some (l.getD T)), ct := Pv (i + 1) (some (l.getD T)), bk := D.nx } σ2 H2) (hd : ∀ l σ H, Pv xs.length l σ H → D.nx σ H) :
    ∃ (a' b' : Addr) (xs ys : List V) (Pv : Nat → Option Addr → L2.St → Hp → Prop), [V.ref a, V.ref b] = [.ref a', .ref b'] ∧ xs.length = ys.length ∧ Pv 0 none σ H1 ∧
      (∀ i l σ H, i ≤ xs.length → Pv i l σ H → SqT K H a' xs ∧ SqT K H b' ys ∧ ∀ T, l = some T → ∃ zs, H T = some (.tup zs)) ∧
      (∀ i l σ H x y T, xs[i]? = some x → ys[i]? = some y → Pv i l σ H → H T = none → g (.ref T) σ (upd H T (.tup [x, y])) fun σ2 H2 => tb { D with nx := Pv (i + 1) (some (l.getD T)), ct := Pv (i + 1) (some (l.getD T)), bk := D.nx } σ2 H2) ∧ ∀ l σ H, Pv xs.length l σ H → D.nx σ H :=
  ⟨a, b, xs, ys, Pv, rfl, hl, h0, hq, hs, hd⟩
theorem ps_forZ {X : Cx} {e e2 : Expr} {body : List Stmt} {ta : TA} {g : TG} {tb : TS} {x : Str} {px p cpos pos : Pos} (hp : PassesOwn (model X.prog X.w) X.A X.env X.xe) (hc : X.calm = true) (hg : Gl X "zip") (hm : X.mg "zip" = none) (ha : PA X [e, e2] ta) (ht : PG X (.Name x px) g) (hb : PSs X body tb)
    (hs : starEach [e, e2] X.env = (false, eval e X.env) :: starEach [e2] X.env := by rfl) (hpl : (backTo cpos (starEach [e2] X.env)).any (·.1) = false := by rfl)
    (hf : ∀ y, foldedSetIterable (.Call (.Name "zip" p) [e, e2] [] cpos) X.env y = pure y := by intro _; rfl) : PS X (.For (.Name x px) (.Call (.Name "zip" p) [e, e2] [] cpos) body [] pos) (tForZ X.K ta g tb) := by
  refine ⟨fun pins s σ H D I h => ?_⟩
  refine wpAny_For (Call_ (ld_blt I hg hm PyProof.Rows.boot_zip (PyProof.Rows.callWith_type1 (thn (ha.run cpos pins s σ H _ I h) fun us s1 ⟨vs, H1, I1, r1, a, b, xs, ys, Pv, ex, hl, p0, seqs, step, done⟩ => ?_) hs hpl))) hf
  subst ex
  cases r1 with
  | cons r rr =>
   cases rr with
   | cons r' rr =>
    cases rr
    cases r
    cases r'
    obtain ⟨q1, q2, _⟩ := seqs 0 none σ H1 (Nat.zero_le _) p0
    obtain ⟨its, rv, t1, _⟩ := I1.tuple q1
    obtain ⟨its2, rv2, t2, _⟩ := I1.tuple q2
    obtain ⟨o1, ho1, _⟩ := id t1
    obtain ⟨o2, ho2, _⟩ := id t2
    refine call_zipT (ZPT.tup_is t1) (ZPT.tup_is t2) fun h' hz hTI hTO h1 h2 hsz hk => wpAny_pyIter_zip hz ?_
    have fresh5 : ∀ c ∈ [s1.heap.objs.size + 4, s1.heap.objs.size + 2, s1.heap.objs.size + 3, s1.heap.objs.size, s1.heap.objs.size + 1], FpOk X pins H1 c := fun c hcm => by
      have above : s1.heap.objs.size ≤ c := by
        simp only [List.mem_cons, List.not_mem_nil, or_false] at hcm
        rcases hcm with rfl | rfl | rfl | rfl | rfl <;> first | exact Nat.le_refl _ | exact Nat.le_add_right _ _
      exact I1.fpOk above (I1.hok.fresh above)
    have Dz := PySem.W.ktu_apart s1.heap.objs.size a b (Heap.lt_size ho1) (Heap.lt_size ho2)
    have I2 := I1.kept (t' := s1.toks) hk
    have st0 : At a b (s1.heap.objs.size + 4) (s1.heap.objs.size + 2) (s1.heap.objs.size + 3) s1.heap.objs.size (s1.heap.objs.size + 1) 0 none h' := ⟨hTI, ⟨_, _, hTO⟩, h1, h2, fun _ => hz, fun T e => nomatch e⟩
    generalize s1.heap.objs.size + 4 = z at *
    generalize s1.heap.objs.size + 2 = TI at *
    generalize s1.heap.objs.size + 3 = TO at *
    generalize s1.heap.objs.size + 1 = i2 at *
    generalize s1.heap.objs.size = i1 at *
    clear hz hTI hTO h1 h2 hsz
    have stat : ∀ {H' : Hp}, (∀ c ∈ [z, TI, TO, i1, i2], H' c = none) → ∀ c ∈ [z, TI, TO, i1, i2], FpOk X pins H' c := fun hn c hc => ⟨hn c hc, (fresh5 c hc).2⟩
    refine codeAny_forLoop_any (fun n s' => ∃ i l σ' H', n = xs.length - i ∧ i ≤ xs.length ∧ Inv X pins σ' H' s' ∧ At a b z TI TO i1 i2 i l s'.heap ∧ (∀ c ∈ [z, TI, TO, i1, i2], H' c = none) ∧ Pv i l σ' H') ?_ xs.length ⟨0, none, σ, H1, rfl, Nat.zero_le _, I2, st0, fun c hc => (fresh5 c hc).1, p0⟩
    rintro n s3 ⟨i, l, σ3, H3, rfl, hi, I3, st3, fr3, p3⟩
    obtain ⟨e1, e2, e3⟩ := seqs i l σ3 H3 hi p3
    obtain ⟨jts, sv, u1, _⟩ := I3.tuple e1
    obtain ⟨jts2, sv2, u2, _⟩ := I3.tuple e2
    have l1 := sv.length
    have l2 := sv2.length
    have oldT : ∀ T, l = some T → ∃ o, s3.heap.get? T = some o ∧ T ∉ [z, TI, TO, i1, i2] := fun T e => by
      obtain ⟨zs, hT⟩ := e3 T e
      obtain ⟨_, _, tt, _⟩ := I3.tuple (SqT.of (K := X.K) hT)
      obtain ⟨o, ho, _⟩ := id tt
      refine ⟨o, ho, fun c => ?_⟩
      have := fr3 T c
      rw [hT] at this
      cases this
    by_cases lt : i < xs.length
    · obtain ⟨x1, hx⟩ : ∃ x1, xs[i]? = some x1 := ⟨_, List.getElem?_eq_getElem lt⟩
      obtain ⟨y1, hy⟩ : ∃ y1, ys[i]? = some y1 := ⟨_, List.getElem?_eq_getElem (by omega)⟩
      obtain ⟨u, hu, ru⟩ := sv.get hx
      obtain ⟨v, hv, rw2⟩ := sv2.get hy
      refine wpAny_passesOwn hp (item Dz st3 oldT (ZPT.tup_is u1) (ZPT.tup_is u2) (x := u) (y := v) (by simpa using hu) (by simpa using hv) fun g st4 made keep => ?_)
      have free : H3 s3.heap.objs.size = none := I3.hok.fresh (Nat.le_refl _)
      have new : ObjOk X.prog X.w (upd H3 s3.heap.objs.size (.tup [x1, y1])) g s3.heap.objs.size (.tup [x1, y1]) := ⟨by show 2 ≤ sizeLine; decide, [u, v], .cons ru (.cons rw2 .nil), _, made, rfl, _, rfl⟩
      have I4 : Inv X pins σ3 (upd H3 s3.heap.objs.size (.tup [x1, y1])) { s3 with heap := g } := I3.turnedNew (t' := s3.toks) (ch := [z, TI, TO, i1, i2]) (fun c o hc e => keep c o (fun w => hc (by simp [w])) (fun w => hc (by simp [w])) (fun w => hc (by simp [w])) (fun w => hc (by simp [w])) e) (stat fr3) (Nat.le_refl _) new
      have fr4 : ∀ c ∈ [z, TI, TO, i1, i2], upd H3 s3.heap.objs.size (.tup [x1, y1]) c = none := fun c hc => by
        obtain ⟨o, ho, _⟩ := st3.obj c hc
        exact (upd_ne (Nat.ne_of_lt (Heap.lt_size ho))).trans (fr3 c hc)
      have I5 := I4.pinned (stat fr4) st4.obj
      refine wpAny_passesOwn hp (wpAny_pure ?_)
      refine wpAny_passesOwn hp (thn (ht.run _ _ σ3 _ (.ref s3.heap.objs.size) (.ref s3.heap.objs.size) _ I5 rfl (step i l σ3 H3 x1 y1 _ hx hy p3 free)) fun _ s6 ⟨σ6, H6, I6, q6⟩ => ?_)
      refine wpAny_passesOwn hp (thn (hb.run _ s6 σ6 H6 _ I6 q6) fun fl s7 went => ?_)
      have again : ∀ {σ7 : L2.St} {H7 : Hp}, Inv X (pins ++ pinsAt [z, TI, TO, i1, i2] g) σ7 H7 s7 → Pv (i + 1) (some (l.getD s3.heap.objs.size)) σ7 H7 → ∃ m, m < xs.length - i ∧ ∃ i l σ' H', m = xs.length - i ∧ i ≤ xs.length ∧ Inv X pins σ' H' s7 ∧ At a b z TI TO i1 i2 i l s7.heap ∧ (∀ c ∈ [z, TI, TO, i1, i2], H' c = none) ∧ Pv i l σ' H' := fun {σ7 H7} I7 p7 => by
        refine ⟨xs.length - (i + 1), by omega, i + 1, _, σ7, H7, rfl, lt, I7.unpinned, st4.keep fun c hc o e => (I7.pin (c, o) (List.mem_append_right _ (List.mem_append_right _ (mem_pinsAt hc e)))).1, fun c hc => ?_, p7⟩
        obtain ⟨o, e, d⟩ := st4.obj c hc
        exact (I7.pin (c, o) (List.mem_append_right _ (List.mem_append_right _ (mem_pinsAt hc e)))).2.1
      cases fl with
      | next => exact went.elim fun _ z => z.elim fun _ z => again z.1 z.2
      | cont => exact went.elim fun _ z => z.elim fun _ z => again z.1 z.2
      | brk => exact went.elim fun σ7 z => z.elim fun H7 z => ⟨σ7, H7, z.1.unpinned, z.2⟩
      | ret v => exact let ⟨x7, σ7, H7, I7, r7, q7⟩ := went; ⟨x7, σ7, H7, I7.unpinned, r7, q7⟩
    · obtain rfl : i = xs.length := by omega
      refine wpAny_passesOwn hp (over (I3.ok.hd hc) Dz st3 (fun T e => let ⟨o, ho, _⟩ := oldT T e; ⟨o, ho⟩) (ZPT.tup_is u1) (ZPT.tup_is u2) (by simp; omega) fun g keep => ?_)
      refine wpAny_execs_nil ⟨σ3, H3, ?_, done l σ3 H3 p3⟩
      exact I3.turnedL (t' := s3.toks) (ch := [z, TI, TO, i1, i2]) (fun c o hc e => keep c o (fun w => hc (by simp [w])) (fun w => hc (by simp [w])) (fun w => hc (by simp [w])) (fun w => hc (by simp [w])) e) (stat fr3)
end ZQT

set_option Elab.async false
set_option linter.all false
set_option maxRecDepth 100000
set_option maxHeartbeats 8000000
/-! Pairs of rows, and boxes side by side. -/
namespace WK
open PySem L2 PyProof.Rows LCX K1 FV DP
open TX (sg sigs)
open PySem.W (Frag kitOne)
abbrev sPaired : Stmt := top 14
abbrev NPd : List Str := ["one", "other", "start", "most", "pairs", "numbers", "rows", "left", "right", "row", "after"]
/-- the pair of rows behind a column -/
def pairF (A B : List (List Int)) (k : List Int) (c : Nat) : List Int := [(A.getD (k.getD 0 0).toNat []).getD c 0, (B.getD (k.getD 1 0).toNat []).getD c 0]
def spPaired (K : Frag) : Sp := fun vs H Q _ => ∃ (t1 t2 p0 : Addr) (U Z : List (List Int)) (wd : Nat) (n m : Int) (B : Nat), vs = [.ref t1, .ref t2,   .ref p0, .int 400] ∧ TTab K H t1 U ∧ TTab K H t2 Z ∧ TabOk U wd n ∧ TabOk Z wd m ∧ 1 ≤ n ∧ 1 ≤ m ∧ n ≤ 1000 ∧ m ≤ 1000 ∧ wd ≤ 3 ∧ H p0 = some (.tup [.int 0, .int 0]) ∧
  (∀ j, (exAll (pairF U Z) (List.range wd) [0, 0] j).1.length ≤ B) ∧ B ≤ 400 ∧ ∀ (t k r : Addr) (H' : Hp), Same H H' → H' t = some (.tup [.ref k, .ref r]) → RowsAt H' r (exAll (pairF U Z) (List.range wd) [0, 0] B).2 → Q (.ref t) H'
section
variable {P : Program} {w : World} {K : PySem.W.Frag} {mg : Str → Option Value} {base : Heap}
theorem scPd : FnScope NPd ["one", "other", "start", "most"] (defScope sPaired) := ⟨rfl, rfl, rfl, by decide +kernel, rfl, by decide +kernel, by decide +kernel⟩
theorem ok_paired {f : Addr} {oc kV dc pm ct cd dV : Value} {an od : Option Addr} {sl : Array (Option Value)} (lk : K.lookup f = some ⟨oc, od, .func (PySem.W.fnOf "paired" "paired" (defArgs sPaired) (defBody sPaired) (defScope sPaired) dV kV dc pm an cd ct), sl⟩) (hcd : PySem.W.codeIn K cd "paired" = true) (T : TN mg) : FnOk P w K mg base CX0 1 f (PySem.W.fnOf "paired" "paired" (defArgs sPaired) (defBody sPaired) (defScope sPaired) dV kV dc pm an cd ct) ["one", "other", "start", "most"] (spPaired K) := by
  refine fn_ofN lk hcd scPd (fun vs H Q E h => ?_) (fun A outer s H vs Q E hr h => ?_)
  · obtain ⟨t1, t2, p0, U, Z, wd, n, m, B, rfl, _⟩ := h
    rfl
  · obtain ⟨t1, t2, p0, U, Z, wd, n, m, B, rfl, hT1, hT2, okA, okB, n1, m1, n2, m2, hw, hs0, hB, hB4, q⟩ := h
    have hub := hu_of hr
    refine ⟨_, pss_cons (ps_set (i := 4) scPd.nd rfl (Or.inl rfl) (pe_lst (pa_cons (pv 2) pa_nil)))
      (pss_cons (ps_set (i := 5) scPd.nd rfl (Or.inl rfl) (pe_disp1 (Nat.lt_of_succ_lt hub) (pv 2) pe_int))
      (pss_cons (ps_set (i := 6) scPd.nd rfl (Or.inl rfl) (pe_lst pa_nil))
      (pss_cons (ps_while PassesOwn.never (pt_cmpR op_lt (pe_callB call_len_seq (by rfl) T.len PySem.boot_len (pa_cons (pv 6) pa_nil)) (pe_callB call_len_seq (by rfl) T.len PySem.boot_len (pa_cons (pv 4) pa_nil)) (nomark _))
        (pss_cons (ps_asg (pe_ix ix_list (pv 4) (pe_callB call_len_seq (by rfl) T.len PySem.boot_len (pa_cons (pv 6) pa_nil)) (fun _ _ => rfl)) (pg_tup (n := 2) (by rfl) (pgs_cons (pg_name (i := 7) scPd.nd rfl (Or.inl rfl)) (pgs_cons (pg_name (i := 8) scPd.nd rfl (Or.inl rfl)) pgs_nil))))
        (pss_cons (ps_set (i := 9) scPd.nd rfl (Or.inl rfl) (pe_lst pa_nil))
        (pss_cons (ZQT.ps_forZ PassesOwn.never rfl rfl T.zip (pa_cons (pe_ix ix_tup (pv 0) (pv 7) (fun _ _ => rfl)) (pa_cons (pe_ix ix_tup (pv 1) (pv 8) (fun _ _ => rfl)) pa_nil)) (pg_name (i := 10) scPd.nd rfl (Or.inl rfl))
          (pss_cons (ps_if (pt_cmp (pc_dnotin hub (pv 10) (pv 5)))
              (pss_cons (ps_if (pt_cmpR op_eq (pe_callB call_len_seq (by rfl) T.len PySem.boot_len (pa_cons (pv 4) pa_nil)) (pv 3) (nomark _)) (pss_one ps_never) pss_nil)
              (pss_cons (ps_dput hub (pv 5) (pv 10) (pe_callB call_len_seq (by rfl) T.len PySem.boot_len (pa_cons (pv 4) pa_nil)) rfl)
              (pss_one (ps_expr (pe_bm PySem.F.plainAttrs_list PySem.F.slot_list_append PySem.F.type_list_append mt_append (pv 4) (pa_cons (pv 10) pa_nil)))))) pss_nil)
          (pss_one (ps_expr (pe_bm PySem.F.plainAttrs_list PySem.F.slot_list_append PySem.F.type_list_append mt_append (pv 9) (pa_cons (pe_dget hub (pv 5) (pv 10) (fun _ _ => rfl)) pa_nil))))))
        (pss_one (ps_expr (pe_bm PySem.F.plainAttrs_list PySem.F.slot_list_append PySem.F.type_list_append mt_append (pv 6) (pa_cons (pe_callTy call_tuple_of (by rfl) T.tuple (by decide +kernel) (pa_cons (pv 9) pa_nil)) pa_nil))))))))
      (pss_one (ps_ret (pe_tup (pa_cons (pv 4) (pa_cons (pe_callTy call_tuple_of (by rfl) T.tuple (by decide +kernel) (pa_cons (pv 6) pa_nil)) pa_nil)))))))), ?_⟩
    obtain ⟨fn, hfn⟩ : ∃ fn, fn = pairF U Z := ⟨_, rfl⟩
    obtain ⟨L, hLr⟩ : ∃ L : W, L = List.range wd := ⟨_, rfl⟩
    rw [← hfn, ← hLr] at hB q
    obtain ⟨ok, hok⟩ : ∃ ok : List Int → Prop, ok = fun k => ∃ l r : Int, k = [l, r] ∧ 0 ≤ l ∧ l < n ∧ 0 ≤ r ∧ r < m := ⟨_, rfl⟩
    have ok0 : ok [0, 0] := by
      rw [hok]
      exact ⟨0, 0, rfl, by omega, by omega, by omega, by omega⟩
    have hrow : ∀ {tb : List (List Int)} {n r : Int}, TabOk tb wd n → 0 ≤ r → r < n → (tb.getD r.toNat []) ∈ tb := fun {tb n r} o h0 h1 => by
      have hl := o.len
      have : r.toNat < tb.length := by omega
      rw [List.getD_eq_getElem?_getD, List.getElem?_eq_getElem this]
      exact List.getElem_mem this
    have hent : ∀ {tb : List (List Int)} {n r : Int} {c : Nat}, TabOk tb wd n → 0 ≤ r → r < n → c < wd → 0 ≤ (tb.getD r.toNat []).getD c 0 ∧ (tb.getD r.toNat []).getD c 0 < n := fun {tb n r c} o h0 h1 hc => by
      obtain ⟨a, b⟩ := o.row _ (hrow o h0 h1)
      have : c < (tb.getD r.toNat []).length := by omega
      rw [List.getD_eq_getElem?_getD (l := tb.getD r.toNat []), List.getElem?_eq_getElem this]
      exact b _ (List.getElem_mem this)
    have okc : ∀ a c, ok a → c ∈ L → ok (fn a c) := by
      rw [hok, hfn, hLr]
      rintro a c ⟨l, r, rfl, h1, h2, h3, h4⟩ hc
      have hc := List.mem_range.mp hc
      obtain ⟨a1, a2⟩ := hent okA h1 h2 hc
      obtain ⟨b1, b2⟩ := hent okB h3 h4 hc
      exact ⟨_, _, rfl, a1, a2, b1, b2⟩
    have is0 : kitI.is H (.ref p0) [0, 0] := kitI_is.mpr hs0
    generalize hst : exAll fn L [0, 0] = st at hB q
    have hz : st 0 = ([[0, 0]], []) := by rw [← hst] <;> rfl
    have hnx : ∀ (j : Nat) (key : List Int), (st j).1[j]? = some key → st (j + 1) = ((L.foldl (exSign fn key) ((st j).1, [])).1, (st j).2 ++ [(L.foldl (exSign fn key) ((st j).1, [])).2]) := by
      intro j key e
      have e2 := exAll_at (f := fn) (L := L) (start := [0, 0]) (j := j) (by rw [hst]; exact e)
      rw [hst] at e2
      exact e2
    have hsp : ∀ (j m : Nat), (st j).1.length ≤ j → st (j + m) = st j := by
      intro j m h
      rw [← hst] at h ⊢
      exact exAll_stop h m
    have hgr : ∀ (j i : Nat) (key : List Int), (st j).1[j]? = some key → ((L.take i).foldl (exSign fn key) ((st j).1, [])).1.length ≤ B := by
      intro j i key e
      have h2 := hB (j + 1)
      rw [hnx j key e] at h2
      have h3 := exFold_grows fn key (L.drop i) ((L.take i).foldl (exSign fn key) ((st j).1, []))
      rw [← List.foldl_append, List.take_append_drop] at h3
      exact Nat.le_trans h3.length_le h2
    have B1 : 1 ≤ B := by have := hB 0; rw [hz] at this; exact this
    refine ⟨_, rfl, (by show 1 ≤ sizeLine; decide), fun M hM => ?_⟩
    refine ⟨kitI.ho [], kitI.emp, fun D hD => ⟨_, rfl, _, kitI.put (l := []) upd_same (kitI.keep is0 (fun b xs e => (same_two (same_upd hM) hD) _ _ e)) List.not_mem_nil (by show 0 < sizeLine; decide), ?_⟩⟩
    rw [upd_upd]
    have nD : H D = none := (same_upd hM).free hD
    have nMD : M ≠ D := fun z => by rw [← z, upd_same] at hD; cases hD
    refine ⟨by show 0 ≤ sizeLine; decide, fun R hR => ?_⟩
    have s0 : Same H (upd (upd (upd H M (.lst [.ref p0])) D (kitI.ho [[0, 0]])) R (.lst [])) := same_two (same_two (same_upd hM) hD) hR
    have nMR : M ≠ R := fun z => by rw [← z, upd_ne nMD, upd_same] at hR; cases hR
    have nDR : D ≠ R := fun z => by rw [← z, upd_same] at hR; cases hR
    have nR : H R = none := (same_two (same_upd hM) hD).free hR
    refine while_by (fun σ H2 => ∃ (j : Nat) (vs : List V) (ts : List Addr) (x7 x8 x9 x10 : Option V), Same H H2 ∧ H2 M = some (.lst vs) ∧ Are kitI H2 vs (st j).1 ∧ H2 D = some (kitI.ho (st j).1) ∧ H2 R = some (.lst (ts.map V.ref)) ∧ Objs oTup H2 ts (st j).2 ∧ ts.length = j ∧ j ≤ (st j).1.length ∧ (∀ a ∈ (st j).1, ok a) ∧
      σ = [some (.ref t1), some (.ref t2), some (.ref p0), some (.int 400), some (.ref M), some (.ref D), some (.ref R), x7, x8, x9, x10]) (fun _ H2 => B - (match H2 R with | some (.lst xs) => xs.length | _ => 0)) ?_ ?_ ?_
    · refine ⟨0, [.ref p0], [], none, none, none, none, s0, ?_, ?_, ?_, upd_same, ?_, rfl, Nat.zero_le _, ?_, rfl⟩
      · rw [upd_ne nMR, upd_ne nMD, upd_same]
      · rw [hz]
        exact ⟨kitI.keep is0 fun b xs e => s0 _ _ e, trivial⟩
      · rw [upd_ne nDR, upd_same, hz] <;> rfl
      · rw [hz]
        exact trivial
      · rw [hz]
        intro a ha
        rw [List.mem_singleton.mp ha]
        exact ok0
    · rintro σ H2 ⟨j, vs, ts, x7, x8, x9, x10, s2, hm, are, hd, hr2, objs, hts, hle, oks, rfl⟩
      have hvl := are.len
      refine ⟨_, rfl, R, _, rfl, .inl (SqL.of hr2), _, rfl, M, _, rfl, .inl (SqL.of hm), _, _, rfl, rfl, _, rfl, ?_⟩
      rw [List.length_map, hts, hvl]
      refine ite2 (fun hlt => ?_) (fun hge => ?_)
      · have hlt : ((j : Nat) : Int) < (((st j).1.length : Nat) : Int) := of_decide_eq_true hlt
        have hlt : j < (st j).1.length := by omega
        obtain ⟨key, hkey⟩ : ∃ key, (st j).1[j]? = some key := ⟨_, List.getElem?_eq_getElem hlt⟩
        obtain ⟨v, hv, isv⟩ := are.get hkey
        have okk : ok key := oks _ (List.mem_of_getElem? hkey)
        have hstep1 := hnx j key hkey
        have hg := fun i => hgr j i key hkey
        have hlenB := hB j
        refine ⟨_, rfl, _, rfl, R, _, rfl, .inl (SqL.of hr2), M, _, _, _, rfl, rfl, SqL.of hm, by rw [List.length_map, hts]; exact atI_nat hv, ?_⟩
        obtain ⟨b1, ev1, hb1⟩ := isv
        subst ev1
        have hb1 := kitI_is.mp ⟨b1, rfl, hb1⟩
        have okk2 := okk
        rw [hok] at okk2
        obtain ⟨l1, r1, rfl, l0, l2, r0, r2⟩ := okk2
        refine ⟨b1, _, rfl, SqT.of hb1, rfl, _, _, rfl, _, _, rfl, rfl, ?_⟩
        refine ⟨by show 0 ≤ sizeLine; decide, fun RW hRW => ?_⟩
        have nRW : H RW = none := s2.free hRW
        have nMW : M ≠ RW := fun z => by rw [← z, hm] at hRW; cases hRW
        have nDW : D ≠ RW := fun z => by rw [← z, hd] at hRW; cases hRW
        have nRR : R ≠ RW := fun z => by rw [← z, hr2] at hRW; cases hRW
        generalize hks : (st j).1 = ks at hkey hlenB hg hstep1 hlt hle are hd oks hvl
        generalize hrs : (st j).2 = rs at objs hstep1
        have kt0 : KeepsTup H2 (upd H2 RW (.lst [])) := Same.tup' (same_upd hRW)
        obtain ⟨us1, u1, u2⟩ := hT1.same (s2.trans (same_upd (o := .lst []) hRW))
        obtain ⟨us2, w1, w2⟩ := hT2.same (s2.trans (same_upd (o := .lst []) hRW))
        have hl1 : l1.toNat < U.length := by have := okA.len; omega
        have hl2 : r1.toNat < Z.length := by have := okB.len; omega
        obtain ⟨a1, f1, f2⟩ := u2.get hl1
        obtain ⟨a2, f3, f4⟩ := w2.get hl2
        have at1 : atI (us1.map V.ref) l1 = some (.ref a1) := by
          rw [show l1 = ((l1.toNat : Nat) : Int) by omega]
          exact atI_nat (by rw [List.getElem?_map, f1] <;> rfl)
        have at2 : atI (us2.map V.ref) r1 = some (.ref a2) := by
          rw [show r1 = ((r1.toNat : Nat) : Int) by omega]
          exact atI_nat (by rw [List.getElem?_map, f3] <;> rfl)
        obtain ⟨rA, rbA⟩ := okA.row _ (hrow okA l0 l2)
        obtain ⟨rB, rbB⟩ := okB.row _ (hrow okB r0 r2)
        have hkey3 : ∀ c, fn [l1, r1] c = [(U.getD l1.toNat []).getD c 0, (Z.getD r1.toNat []).getD c 0] := fun c => by rw [hfn] <;> rfl
        generalize U.getD l1.toNat [] = rowA at f2 rA rbA hkey3
        generalize Z.getD r1.toNat [] = rowB at f4 rB rbB hkey3
        have hlL : L.length = wd := by rw [hLr, List.length_range]
        obtain ⟨key, hkk⟩ : ∃ key : List Int, key = [l1, r1] := ⟨_, rfl⟩
        rw [← hkk] at hkey3 hkey hstep1 hg okk
        refine ⟨_, rfl, _, rfl, t1, _, _, _, rfl, rfl, u1, at1, _, rfl, _, rfl, t2, _, _, _, rfl, rfl, w1, at2, ?_⟩
        refine ZQT.forZ_it (a := a1) (b := a2) (xs := rowA.map V.int) (ys := rowB.map V.int) (fun i l σ H3 => ∃ (vs : List V) (x10 : Option V), Same H H3 ∧ H3 M = some (.lst vs) ∧ Are kitI H3 vs ((L.take i).foldl (exSign fn key) (ks, [])).1 ∧ H3 D = some (kitI.ho ((L.take i).foldl (exSign fn key) (ks, [])).1) ∧ H3 R = some (.lst (ts.map V.ref)) ∧ Objs oTup H3 ts rs ∧ H3 a1 = some (oTup rowA) ∧ H3 a2 = some (oTup rowB) ∧ (∀ T, l = some T → ∃ zs, H3 T = some (.tup zs)) ∧
            H3 RW = some (.lst (((L.take i).foldl (exSign fn key) (ks, [])).2.map V.int)) ∧ ((L.take i).foldl (exSign fn key) (ks, [])).2.length = i ∧ (∀ a ∈ ((L.take i).foldl (exSign fn key) (ks, [])).1, ok a) ∧
            σ = [some (.ref t1), some (.ref t2), some (.ref p0), some (.int 400), some (.ref M), some (.ref D), some (.ref R), some (.int l1), some (.int r1), some (.ref RW), x10]) (by rw [List.length_map, List.length_map, rA, rB]) ?_ ?_ ?_ ?_
        · exact ⟨vs, x10, s2.trans (same_upd hRW), same_upd hRW _ _ hm, are.keep kt0, same_upd hRW _ _ hd, same_upd hRW _ _ hr2, objs_tup objs kt0, f2, f4, (fun T e => nomatch e), upd_same, rfl, oks, rfl⟩
        · rintro i l σ H3 _ ⟨vs, x10, _, _, _, _, _, _, h1, h2, h3, _⟩
          exact ⟨SqT.of h1, SqT.of h2, h3⟩
        · rintro i l σ H3 x y T2 hx hy ⟨vs, x10, s3, hm3, are3, hd3, hr3, objs3, ha1, ha2, hT3, hw3, hw3l, oks3, rfl⟩ hT2
          have hiw : i < wd := by
            have := (List.getElem?_eq_some_iff.mp hx).1
            rw [List.length_map] at this
            omega
          obtain rfl : V.int (rowA.getD i 0) = x := by
            have hi1 : i < rowA.length := by omega
            rw [List.getElem?_map, List.getElem?_eq_getElem hi1] at hx
            rw [List.getD_eq_getElem?_getD, List.getElem?_eq_getElem hi1]
            exact Option.some.inj hx
          obtain rfl : V.int (rowB.getD i 0) = y := by
            have hi1 : i < rowB.length := by omega
            rw [List.getElem?_map, List.getElem?_eq_getElem hi1] at hy
            rw [List.getD_eq_getElem?_getD, List.getElem?_eq_getElem hi1]
            exact Option.some.inj hy
          have hx' : L[i]? = some i := by rw [hLr, List.getElem?_range hiw]
          obtain ⟨c, hc⟩ : ∃ c : Nat, c = i := ⟨_, rfl⟩
          have hx' : L[i]? = some c := by rw [hc]; exact hx'
          have hcL : c ∈ L := List.mem_of_getElem? hx'
          have hiL : i < L.length := (List.getElem?_eq_some_iff.mp hx').1
          have hgi1 := hg (i + 1)
          have e1 : (L.take (i + 1)).foldl (exSign fn key) (ks, []) = exSign fn key ((L.take i).foldl (exSign fn key) (ks, [])) c := by
            rw [List.take_add_one, hx', List.foldl_append] <;> rfl
          rw [e1] at hgi1
          rw [e1]
          generalize (L.take i).foldl (exSign fn key) (ks, []) = fo at are3 hd3 hw3 hw3l oks3 hgi1 ⊢
          have s5 : Same H3 (upd H3 T2 (.tup [.int (rowA.getD i 0), .int (rowB.getD i 0)])) := same_upd hT2
          have is5 : kitI.is (upd H3 T2 (.tup [.int (rowA.getD i 0), .int (rowB.getD i 0)])) (.ref T2) (fn key c) := by
            rw [hkey3 c, hc]
            exact kitI_is.mpr upd_same
          have tT : ∀ T, some (l.getD T2) = some T → ∃ zs, (upd H3 T2 (.tup [.int (rowA.getD i 0), .int (rowB.getD i 0)])) T = some (.tup zs) := fun T e => by
            cases l with
            | none =>
              cases e
              exact ⟨_, upd_same⟩
            | some T0 =>
              cases e
              obtain ⟨zs, hz⟩ := hT3 T0 rfl
              exact ⟨zs, s5 _ _ hz⟩
          generalize upd H3 T2 (.tup [.int (rowA.getD i 0), .int (rowB.getD i 0)]) = H5 at s5 is5 tT ⊢
          have oka : ok (fn key c) := okc _ _ okk hcL
          replace hm3 := s5 _ _ hm3
          replace are3 := are3.keep (Same.tup' s5)
          replace hd3 := s5 _ _ hd3
          replace hr3 := s5 _ _ hr3
          replace objs3 := objs_tup objs3 (Same.tup' s5)
          replace ha1 := s5 _ _ ha1
          replace ha2 := s5 _ _ ha2
          replace hw3 := s5 _ _ hw3
          replace s3 := s3.trans s5
          have vl3 := are3.len
          refine ⟨_, rfl, _, rfl, D, _, rfl, kitI.get hd3 is5, _, rfl, ?_⟩
          unfold exSign at hgi1 ⊢
          by_cases hin : fn key c ∈ fo.1
          · rw [if_pos hin] at hgi1 ⊢
            rw [if_pos hin]
            refine iteF ?_
            refine ⟨_, rfl, .inl ⟨rfl, _, SqL.of hw3⟩, _, rfl, _, rfl, D, _, rfl, (if_pos hin) ▸ kitI.get hd3 is5, RW, _, _, rfl, rfl, hw3, by rw [List.length_map, hw3l, sizeLine_eq]; omega, ?_⟩
            have kt : ∀ o, KeepsTup H5 (upd H5 RW o) := fun o => tup_upd hw3 (fun _ z => nomatch z)
            refine ⟨vs, _, same_at s3 nRW, ?_, are3.keep (kt _), ?_, ?_, objs_tup objs3 (kt _), kt _ _ _ ha1, kt _ _ _ ha2, (fun T e => let ⟨zs, z⟩ := tT T e; ⟨zs, kt _ _ _ z⟩), ?_, ?_, oks3, rfl⟩
            · rw [upd_ne nMW]
              exact hm3
            · rw [upd_ne nDW]
              exact hd3
            · rw [upd_ne nRR]
              exact hr3
            · rw [upd_same]
              show _ = some (HO.lst ((fo.2 ++ [_]).map V.int))
              rw [List.map_append] <;> rfl
            · show (fo.2 ++ [_]).length = _
              rw [List.length_append, hw3l] <;> rfl
          · rw [if_neg hin] at hgi1 ⊢
            rw [if_neg hin]
            have hlen1 : fo.1.length + 1 ≤ B := by rw [List.length_append] at hgi1; exact hgi1
            refine iteT ?_
            refine ⟨_, rfl, M, _, rfl, .inl (SqL.of hm3), _, rfl, rfl, _, rfl, iteF' ?_ ?_⟩
            · rw [vl3]
              refine decide_eq_false fun z => ?_
              have := V.int.inj z
              omega
            refine ⟨_, rfl, M, _, rfl, .inl (SqL.of hm3), _, rfl, _, rfl, D, _, rfl, by rw [vl3]; exact kitI.put hd3 is5 hin (by rw [sizeLine_eq]; omega), ?_⟩
            have k1 := tup_upd (o := kitI.ho (fo.1 ++ [fn key c])) hd3 (kitI.not_tup _)
            have m1q : upd H5 D (kitI.ho (fo.1 ++ [fn key c])) M = some (.lst vs) := by rw [upd_ne nMD]; exact hm3
            have d1q : upd H5 D (kitI.ho (fo.1 ++ [fn key c])) D = some (kitI.ho (fo.1 ++ [fn key c])) := upd_same
            have r1q : upd H5 D (kitI.ho (fo.1 ++ [fn key c])) R = some (.lst (ts.map V.ref)) := by rw [upd_ne (Ne.symm nDR)]; exact hr3
            have w1q : upd H5 D (kitI.ho (fo.1 ++ [fn key c])) RW = some (.lst (fo.2.map V.int)) := by rw [upd_ne (Ne.symm nDW)]; exact hw3
            have s1q : Same H (upd H5 D (kitI.ho (fo.1 ++ [fn key c]))) := same_at s3 nD
            have a1q := are3.keep k1
            have o1q := objs_tup objs3 k1
            have b1q := k1 _ _ ha1
            have c1q := k1 _ _ ha2
            have t1q : ∀ T, some (l.getD T2) = some T → ∃ zs, (upd H5 D (kitI.ho (fo.1 ++ [fn key c]))) T = some (.tup zs) := fun T e => let ⟨zs, z⟩ := tT T e; ⟨zs, k1 _ _ z⟩
            have is1 := kitI.keep is5 k1
            generalize upd H5 D (kitI.ho (fo.1 ++ [fn key c])) = H6 at m1q d1q r1q w1q s1q a1q o1q b1q c1q t1q is1 ⊢
            refine ⟨_, rfl, .inl ⟨rfl, _, SqL.of m1q⟩, _, rfl, M, _, _, rfl, rfl, m1q, by rw [vl3, sizeLine_eq]; omega, ?_⟩
            have k2 := tup_upd (o := .lst (vs ++ [.ref T2])) m1q (fun _ z => nomatch z)
            have m2q : upd H6 M (.lst (vs ++ [.ref T2])) M = some (.lst (vs ++ [.ref T2])) := upd_same
            have d2q : upd H6 M (.lst (vs ++ [.ref T2])) D = some (kitI.ho (fo.1 ++ [fn key c])) := by rw [upd_ne (Ne.symm nMD)]; exact d1q
            have r2q : upd H6 M (.lst (vs ++ [.ref T2])) R = some (.lst (ts.map V.ref)) := by rw [upd_ne (Ne.symm nMR)]; exact r1q
            have w2q : upd H6 M (.lst (vs ++ [.ref T2])) RW = some (.lst (fo.2.map V.int)) := by rw [upd_ne (Ne.symm nMW)]; exact w1q
            have s2q' : Same H (upd H6 M (.lst (vs ++ [.ref T2]))) := same_at s1q hM
            have a2q := (a1q.snoc is1).keep k2
            have o2q := objs_tup o1q k2
            have b2q := k2 _ _ b1q
            have c2q := k2 _ _ c1q
            have t2q : ∀ T, some (l.getD T2) = some T → ∃ zs, (upd H6 M (.lst (vs ++ [.ref T2]))) T = some (.tup zs) := fun T e => let ⟨zs, z⟩ := t1q T e; ⟨zs, k2 _ _ z⟩
            have is2 := kitI.keep is1 k2
            generalize upd H6 M (.lst (vs ++ [.ref T2])) = H7 at m2q d2q r2q w2q s2q' a2q o2q b2q c2q t2q is2 ⊢
            have gg := kitI.get d2q is2
            rw [if_pos (List.mem_append_right _ (List.mem_singleton.mpr rfl)), idx_end hin] at gg
            refine ⟨_, rfl, .inl ⟨rfl, _, SqL.of w2q⟩, _, rfl, _, rfl, D, _, rfl, gg, RW, _, _, rfl, rfl, w2q, by rw [List.length_map, hw3l, sizeLine_eq]; omega, ?_⟩
            have k3 := tup_upd (o := .lst (fo.2.map V.int ++ [.int ((fo.1.length : Nat) : Int)])) w2q (fun _ z => nomatch z)
            refine ⟨vs ++ [.ref T2], _, same_at s2q' nRW, ?_, a2q.keep k3, ?_, ?_, objs_tup o2q k3, k3 _ _ b2q, k3 _ _ c2q, (fun T e => let ⟨zs, z⟩ := t2q T e; ⟨zs, k3 _ _ z⟩), ?_, ?_, ?_, rfl⟩
            · rw [upd_ne nMW]
              exact m2q
            · rw [upd_ne nDW]
              exact d2q
            · rw [upd_ne nRR]
              exact r2q
            · rw [upd_same]
              show _ = some (HO.lst ((fo.2 ++ [_]).map V.int))
              rw [List.map_append] <;> rfl
            · show (fo.2 ++ [_]).length = _
              rw [List.length_append, hw3l] <;> rfl
            · intro a ha
              rcases List.mem_append.mp ha with h | h
              · exact oks3 a h
              · rw [List.mem_singleton.mp h]
                exact oka
        · rintro l σ H3 ⟨vs, x10, s3, hm3, are3, hd3, hr3, objs3, _, _, _, hw3, hw3l, oks3, rfl⟩
          rw [List.length_map, rA, ← hlL, List.take_length] at are3 hd3 hw3 hw3l oks3
          have fB := hB (j + 1)
          rw [hstep1] at fB
          generalize hfo : L.foldl (exSign fn key) (ks, []) = fo at are3 hd3 hw3 hw3l oks3 fB hstep1
          have grows : ks.length ≤ fo.1.length := by rw [← hfo]; exact (exFold_grows fn key L (ks, [])).length_le
          refine ⟨_, rfl, .inl ⟨rfl, _, SqL.of hr3⟩, _, rfl, RW, _, rfl, .inl ⟨SqL.of hw3, fun t ht => ?_⟩⟩
          have s4 := same_upd (o := .tup (fo.2.map V.int)) ht
          have nt : R ≠ t := fun z => by rw [← z, hr3] at ht; cases ht
          refine ⟨R, _, _, rfl, rfl, s4 _ _ hr3, by rw [List.length_map, hts, sizeLine_eq]; omega, ?_⟩
          have hr4 := s4 _ _ hr3
          have hm4 := s4 _ _ hm3
          have hd4 := s4 _ _ hd3
          have ho4 := objs_tup objs3 (Same.tup' s4)
          have ha4 := are3.keep (Same.tup' s4)
          have ht4 : upd H3 t (.tup (fo.2.map V.int)) t = some (oTup fo.2) := upd_same
          have s5 := s3.trans s4
          generalize upd H3 t (.tup (fo.2.map V.int)) = H4 at hr4 hm4 hd4 ho4 ha4 ht4 s5 ⊢
          have k3 := tup_upd (o := .lst (ts.map V.ref ++ [.ref t])) hr4 (fun _ z => nomatch z)
          refine ⟨⟨j + 1, vs, ts ++ [t], _, _, _, _, same_at s5 nR, ?_, ?_, ?_, ?_, ?_, ?_, ?_, ?_, rfl⟩, ?_⟩
          · rw [upd_ne nMR]
            exact hm4
          · rw [hstep1]
            exact ha4.keep k3
          · rw [upd_ne nDR, hstep1]
            exact hd4
          · rw [upd_same, List.map_append] <;> rfl
          · rw [hstep1]
            exact objs_tup (ho4.snoc ht4) k3
          · rw [List.length_append, hts] <;> rfl
          · rw [hstep1]
            show j + 1 ≤ fo.1.length
            omega
          · rw [hstep1]
            exact oks3
          · show B - (match (upd _ R _) R with | some (.lst xs) => xs.length | _ => 0) < B - (match H2 R with | some (.lst xs) => xs.length | _ => 0)
            rw [upd_same, hr2]
            show _ - (ts.map V.ref ++ [_]).length < _ - (ts.map V.ref).length
            rw [List.length_append, List.length_map, hts]
            show _ - (j + 1) < _
            omega
      · have hge : ¬ (((j : Nat) : Int) < (((st j).1.length : Nat) : Int)) := fun z => hge (decide_eq_true z)
        have e1 : (st j).1.length = j := by omega
        have e2 : st B = st j := by
          have h3 := hB j
          have h4 := hsp j (B - j) (by omega)
          rw [show j + (B - j) = B by omega] at h4
          exact h4
        refine ⟨_, rfl, _, rfl, R, _, rfl, .inl ⟨SqL.of hr2, fun r hr => ?_⟩⟩
        refine ⟨by show 2 ≤ sizeLine; decide, fun t ht => ?_⟩
        have s3 := same_upd (o := .tup (ts.map V.ref)) hr
        have s4 := same_upd (o := .tup [.ref M, .ref r]) ht
        refine q t M r _ (s2.trans (s3.trans s4)) upd_same ⟨ts, s4 _ _ upd_same, ?_⟩
        rw [e2]
        exact objs_tup objs (Same.tup' (s3.trans s4))
    · exact fun σ H Q Q' hm ⟨v, hv, M', ys, e, hs, w', hw, M2, ys2, e2, hs2, i, j, a, b, k, hk, q⟩ => ⟨v, hv, M', ys, e, hs, w', hw, M2, ys2, e2, hs2, i, j, a, b, k, hk, hm _ _ q⟩
end
end WK

set_option Elab.async false
set_option linter.all false
set_option maxRecDepth 100000
set_option maxHeartbeats 4000000
/-! What is explored, as mathematics: the keys, their table, where a word leads. -/
namespace WK
open PySem PySem.Spec L2 PyProof.Rows K1
section
variable {α : Type} [DecidableEq α] {f : α → Nat → α} {L : W} {start : α}
theorem exSign_nd {key : α} {st : List α × List Int} {c : Nat} (h : st.1.Nodup) : (exSign f key st c).1.Nodup := by
  unfold exSign
  split
  · exact h
  · rename_i hn
    refine List.nodup_append.mpr ⟨h, List.nodup_cons.mpr ⟨List.not_mem_nil, List.nodup_nil⟩, fun x hx y hy z => ?_⟩
    rw [List.mem_singleton.mp hy] at z
    exact hn (z ▸ hx)
theorem exFold_nd {key : α} : ∀ {l : W} {st : List α × List Int}, st.1.Nodup → (l.foldl (exSign f key) st).1.Nodup
  | [], _, h => h
  | c :: l, _, h => exFold_nd (l := l) (exSign_nd h)
theorem exAll_cases (j : Nat) : (∃ key, (exAll f L start j).1[j]? = some key ∧ exAll f L start (j + 1) = ((L.foldl (exSign f key) ((exAll f L start j).1, [])).1, (exAll f L start j).2 ++ [(L.foldl (exSign f key) ((exAll f L start j).1, [])).2])) ∨
    ((exAll f L start j).1.length ≤ j ∧ exAll f L start (j + 1) = exAll f L start j) := by
  cases e : (exAll f L start j).1[j]? with
  | some key => exact .inl ⟨key, rfl, exAll_at e⟩
  | none =>
    have h := List.getElem?_eq_none_iff.mp e
    exact .inr ⟨h, exAll_stop h 1⟩
theorem exAll_nd : ∀ j, (exAll f L start j).1.Nodup
  | 0 => List.nodup_cons.mpr ⟨List.not_mem_nil, List.nodup_nil⟩
  | j + 1 => by
    rcases exAll_cases (f := f) (L := L) (start := start) j with ⟨key, _, e⟩ | ⟨_, e⟩
    · rw [e]
      exact exFold_nd (exAll_nd j)
    · rw [e]
      exact exAll_nd j
theorem exAll_grow (j : Nat) : (exAll f L start j).1 <+: (exAll f L start (j + 1)).1 ∧ (exAll f L start j).2 <+: (exAll f L start (j + 1)).2 := by
  rcases exAll_cases (f := f) (L := L) (start := start) j with ⟨key, _, e⟩ | ⟨_, e⟩
  · rw [e]
    exact ⟨exFold_grows f key L ((exAll f L start j).1, []), List.prefix_append _ _⟩
  · rw [e]
    exact ⟨List.prefix_refl _, List.prefix_refl _⟩
theorem exAll_pre (j : Nat) : ∀ m, (exAll f L start j).1 <+: (exAll f L start (j + m)).1 ∧ (exAll f L start j).2 <+: (exAll f L start (j + m)).2
  | 0 => ⟨List.prefix_refl _, List.prefix_refl _⟩
  | m + 1 => ⟨(exAll_pre j m).1.trans (exAll_grow (j + m)).1, (exAll_pre j m).2.trans (exAll_grow (j + m)).2⟩
theorem exAll_most {N : Nat} (h : (exAll f L start N).1.length ≤ N) (j : Nat) : (exAll f L start j).1.length ≤ N := by
  rcases Nat.le_total j N with a | a
  · have := (exAll_pre (f := f) (L := L) (start := start) j (N - j)).1.length_le
    rw [show j + (N - j) = N by omega] at this
    exact Nat.le_trans this h
  · have := exAll_stop h (j - N)
    rw [show N + (j - N) = j by omega] at this
    rw [this]
    exact h
theorem exAll_rows : ∀ j, (exAll f L start j).2.length = min j (exAll f L start j).1.length
  | 0 => by
    show 0 = min 0 1
    rfl
  | j + 1 => by
    have ih := exAll_rows j
    rcases exAll_cases (f := f) (L := L) (start := start) j with ⟨key, hk, e⟩ | ⟨h, e⟩
    · have hj := (List.getElem?_eq_some_iff.mp hk).1
      have hg := (exAll_grow (f := f) (L := L) (start := start) j).1.length_le
      have h2 : (exAll f L start (j + 1)).2.length = (exAll f L start j).2.length + 1 := by rw [e, List.length_append] <;> rfl
      rw [h2, ih]
      omega
    · rw [e, ih]
      omega
theorem idx_pre {a : α} {l m : List α} (h : a ∈ l) (p : l <+: m) : m.idxOf a = l.idxOf a := by
  obtain ⟨t, rfl⟩ := p
  rw [List.idxOf_append, if_pos h]
theorem fold_row (key : α) : ∀ (l : W) (st : List α × List Int), (l.foldl (exSign f key) st).2 = st.2 ++ l.map (fun c => (((l.foldl (exSign f key) st).1.idxOf (f key c) : Nat) : Int)) ∧ ∀ c ∈ l, f key c ∈ (l.foldl (exSign f key) st).1
  | [], st => ⟨(List.append_nil _).symm, fun c hc => (List.not_mem_nil hc).elim⟩
  | c :: l, st => by
    have one : f key c ∈ (exSign f key st c).1 ∧ (exSign f key st c).2 = st.2 ++ [(((exSign f key st c).1.idxOf (f key c) : Nat) : Int)] := by
      unfold exSign
      by_cases h : f key c ∈ st.1
      · rw [if_pos h]
        exact ⟨h, rfl⟩
      · rw [if_neg h]
        refine ⟨List.mem_append_right _ (List.mem_singleton.mpr rfl), ?_⟩
        show _ = st.2 ++ [(((st.1 ++ [f key c]).idxOf (f key c) : Nat) : Int)]
        rw [idx_end h]
    obtain ⟨ih1, ih2⟩ := fold_row key l (exSign f key st c)
    have pre := exFold_grows f key l (exSign f key st c)
    rw [List.foldl_cons]
    refine ⟨?_, fun d hd => ?_⟩
    · rw [ih1, one.2, List.append_assoc, List.map_cons, idx_pre one.1 pre] <;> rfl
    · rcases List.mem_cons.mp hd with rfl | z
      · exact pre.subset one.1
      · exact ih2 d z
/-- each row tells where the letters lead -/
theorem exAll_row : ∀ (j i : Nat) (r : List Int), (exAll f L start j).2[i]? = some r → ∃ key, (exAll f L start j).1[i]? = some key ∧ r = L.map (fun c => (((exAll f L start j).1.idxOf (f key c) : Nat) : Int)) ∧ ∀ c ∈ L, f key c ∈ (exAll f L start j).1
  | 0, i, r, h => by
    have : (exAll f L start 0).2 = [] := rfl
    rw [this] at h
    cases h
  | j + 1, i, r, h => by
    rcases exAll_cases (f := f) (L := L) (start := start) j with ⟨key, hk, e⟩ | ⟨_, e⟩
    · have pre := (exAll_grow (f := f) (L := L) (start := start) j).1
      have hj := (List.getElem?_eq_some_iff.mp hk).1
      have hl := exAll_rows (f := f) (L := L) (start := start) j
      rw [e] at h pre ⊢
      by_cases hi : i < (exAll f L start j).2.length
      · rw [List.getElem?_append_left hi] at h
        obtain ⟨k, k1, k2, k3⟩ := exAll_row j i r h
        refine ⟨k, ?_, ?_, fun c hc => pre.subset (k3 c hc)⟩
        · obtain ⟨t, ht⟩ := pre
          show (L.foldl (exSign f key) ((exAll f L start j).1, [])).1[i]? = _
          rw [← ht, List.getElem?_append_left (List.getElem?_eq_some_iff.mp k1).1]
          exact k1
        · rw [k2]
          refine List.map_congr_left fun c hc => ?_
          rw [idx_pre (k3 c hc) pre]
      · have hi2 : i = j := by
          have := (List.getElem?_eq_some_iff.mp h).1
          rw [List.length_append] at this
          have : i < (exAll f L start j).2.length + 1 := this
          omega
        rw [List.getElem?_append_right (by omega), hi2, hl, show j - min j (exAll f L start j).1.length = 0 by omega] at h
        obtain rfl := Option.some.inj h
        obtain ⟨f1, f2⟩ := fold_row (f := f) key L ((exAll f L start j).1, [])
        refine ⟨key, ?_, by rw [f1, List.nil_append], f2⟩
        obtain ⟨t, ht⟩ := pre
        show (L.foldl (exSign f key) ((exAll f L start j).1, [])).1[i]? = _
        rw [← ht, hi2, List.getElem?_append_left hj]
        exact hk
    · rw [e] at h ⊢
      exact exAll_row j i r h
theorem fold_add (key : α) : ∀ (l : W) (st : List α × List Int), ∃ es, (l.foldl (exSign f key) st).2 = st.2 ++ es ∧ es.foldl addN (rngI st.1.length) = rngI (l.foldl (exSign f key) st).1.length
  | [], st => ⟨[], (List.append_nil _).symm, rfl⟩
  | c :: l, st => by
    have one : ∃ e, (exSign f key st c).2 = st.2 ++ [e] ∧ addN (rngI st.1.length) e = rngI (exSign f key st c).1.length := by
      unfold exSign
      by_cases h : f key c ∈ st.1
      · rw [if_pos h]
        refine ⟨_, rfl, ?_⟩
        unfold addN
        rw [if_pos]
        exact List.mem_map.mpr ⟨_, List.mem_range.mpr (List.idxOf_lt_length_of_mem h), rfl⟩
      · rw [if_neg h]
        refine ⟨_, rfl, ?_⟩
        unfold addN
        rw [if_neg]
        · show _ = rngI (st.1 ++ [f key c]).length
          unfold rngI
          rw [List.length_append, show st.1.length + [f key c].length = st.1.length + 1 from rfl, List.range_succ, List.map_append] <;> rfl
        · intro z
          obtain ⟨i, hi, e⟩ := List.mem_map.mp z
          have := List.mem_range.mp hi
          omega
    obtain ⟨e, h1, h2⟩ := one
    obtain ⟨es, h3, h4⟩ := fold_add key l (exSign f key st c)
    rw [List.foldl_cons]
    refine ⟨e :: es, by rw [h3, h1, List.append_assoc] <;> rfl, ?_⟩
    rw [List.foldl_cons, h2]
    exact h4
theorem rng_at {n j : Nat} : (rngI n)[j]? = if j < n then some ((j : Nat) : Int) else none := by
  unfold rngI
  rw [List.getElem?_map]
  by_cases h : j < n
  · rw [if_pos h, List.getElem?_range h] <;> rfl
  · rw [if_neg h, List.getElem?_eq_none (by rw [List.length_range]; omega)] <;> rfl
theorem ex_way {N : Nat} : ∀ j ≤ N, wyA (exAll f L start N).2 0 j = rngI (exAll f L start j).1.length
  | 0, _ => rfl
  | j + 1, hj => by
    have ih := ex_way j (Nat.le_of_succ_le hj)
    have hl := exAll_rows (f := f) (L := L) (start := start) j
    rcases exAll_cases (f := f) (L := L) (start := start) j with ⟨key, hk, e⟩ | ⟨h, e⟩
    · have hlt := (List.getElem?_eq_some_iff.mp hk).1
      have h1 : (wyA (exAll f L start N).2 0 j)[j]? = some ((j : Nat) : Int) := by rw [ih, rng_at, if_pos hlt]
      rw [wyA_at h1, ih, e]
      obtain ⟨es, a1, a2⟩ := fold_add (f := f) key L ((exAll f L start j).1, [])
      have row : (exAll f L start N).2.getD ((j : Nat) : Int).toNat [] = es := by
        have pre := (exAll_pre (f := f) (L := L) (start := start) (j + 1) (N - (j + 1))).2
        rw [show j + 1 + (N - (j + 1)) = N by omega, e] at pre
        obtain ⟨t, ht⟩ := pre
        rw [← ht, List.getD_eq_getElem?_getD, Int.toNat_natCast, List.append_assoc, List.getElem?_append_right (by omega), hl, show j - min j (exAll f L start j).1.length = 0 by omega]
        show (L.foldl (exSign f key) ((exAll f L start j).1, [])).2 = es
        rw [a1] <;> rfl
      rw [row]
      exact a2
    · rw [e, ← ih]
      have h1 : (wyA (exAll f L start N).2 0 j).length ≤ j := by rw [ih]; unfold rngI; rw [List.length_map, List.length_range]; exact h
      exact wyA_stop h1 1
/-- all is explored in N steps -/
structure Done (f : α → Nat → α) (L : W) (start : α) (N : Nat) : Prop where
  len : (exAll f L start N).1.length = N
  pos : 1 ≤ N
theorem Done.lean {N : Nat} (d : Done f L start N) : LeanT (exAll f L start N).2 := by
  have hl := exAll_rows (f := f) (L := L) (start := start) N
  rw [d.len, Nat.min_self] at hl
  refine ⟨?_⟩
  rw [hl, ex_way N (Nat.le_refl _), d.len]
theorem Done.tab {N : Nat} (d : Done f L start N) : TabOk (exAll f L start N).2 L.length (N : Int) := by
  have hl := exAll_rows (f := f) (L := L) (start := start) N
  rw [d.len, Nat.min_self] at hl
  refine ⟨by rw [hl], fun r hr => ?_⟩
  obtain ⟨i, hi⟩ := List.mem_iff_getElem?.mp hr
  obtain ⟨key, _, h2, h3⟩ := exAll_row N i r hi
  refine ⟨by rw [h2, List.length_map], fun x hx => ?_⟩
  rw [h2] at hx
  obtain ⟨c, hc, rfl⟩ := List.mem_map.mp hx
  have := List.idxOf_lt_length_of_mem (h3 c hc)
  rw [d.len] at this
  omega
theorem Done.led {N : Nat} (d : Done f L start N) : ∀ (u : W) (key : α), key ∈ (exAll f L start N).1 → (∀ c ∈ u, c ∈ L) → u.foldl f key ∈ (exAll f L start N).1 ∧ ledL L (exAll f L start N).2 u (((exAll f L start N).1.idxOf key : Nat) : Int) = (((exAll f L start N).1.idxOf (u.foldl f key) : Nat) : Int)
  | [], key, hk, _ => ⟨hk, rfl⟩
  | c :: u, key, hk, hu => by
    have hl := exAll_rows (f := f) (L := L) (start := start) N
    rw [d.len, Nat.min_self] at hl
    have hi := List.idxOf_lt_length_of_mem hk
    have hi2 : (exAll f L start N).1.idxOf key < (exAll f L start N).2.length := Nat.lt_of_lt_of_eq hi (d.len.trans hl.symm)
    obtain ⟨key2, k1, k2, k3⟩ := exAll_row N _ _ (List.getElem?_eq_getElem hi2)
    have ek : key2 = key := by
      rw [List.getElem?_eq_getElem hi] at k1
      rw [← Option.some.inj k1]
      exact List.getElem_idxOf hi
    subst ek
    have hc := hu c (.head _)
    obtain ⟨a, b⟩ := Done.led d u (f key2 c) (k3 c hc) fun x hx => hu x (.tail _ hx)
    refine ⟨a, ?_⟩
    rw [List.foldl_cons, ← b]
    show ledL L _ u (stepL L _ _ c) = _
    congr 1
    unfold stepL
    have e1 : (exAll f L start N).2.getD (((exAll f L start N).1.idxOf key2 : Nat) : Int).toNat [] = (exAll f L start N).2[(exAll f L start N).1.idxOf key2] := by
      rw [Int.toNat_natCast, List.getD_eq_getElem?_getD, List.getElem?_eq_getElem hi2] <;> rfl
    rw [e1, k2, List.getD_eq_getElem?_getD, List.getElem?_map, List.getElem?_eq_getElem (List.idxOf_lt_length_of_mem hc)]
    show (((exAll f L start N).1.idxOf (f key2 (L[L.idxOf c]'(List.idxOf_lt_length_of_mem hc))) : Nat) : Int) = _
    rw [List.getElem_idxOf (List.idxOf_lt_length_of_mem hc)]
theorem Done.zero {N : Nat} (d : Done f L start N) : start ∈ (exAll f L start N).1 ∧ (exAll f L start N).1.idxOf start = 0 := by
  have pre := (exAll_pre (f := f) (L := L) (start := start) 0 N).1
  rw [Nat.zero_add] at pre
  obtain ⟨t, ht⟩ := pre
  have : (exAll f L start N).1 = start :: t := by rw [← ht] <;> rfl
  rw [this]
  exact ⟨List.mem_cons_self, List.idxOf_cons_self⟩
/-- two words lead to one place just if they make one key -/
theorem Done.same {N : Nat} (d : Done f L start N) {u v : W} (hu : ∀ c ∈ u, c ∈ L) (hv : ∀ c ∈ v, c ∈ L) : ledL L (exAll f L start N).2 u 0 = ledL L (exAll f L start N).2 v 0 ↔ u.foldl f start = v.foldl f start := by
  obtain ⟨z1, z2⟩ := d.zero
  obtain ⟨a1, a2⟩ := d.led u start z1 hu
  obtain ⟨b1, b2⟩ := d.led v start z1 hv
  rw [z2] at a2 b2
  have a2' : ledL L (exAll f L start N).2 u 0 = _ := a2
  have b2' : ledL L (exAll f L start N).2 v 0 = _ := b2
  rw [a2', b2']
  constructor
  · intro e
    have h1 := List.idxOf_lt_length_of_mem a1
    have h2 := List.idxOf_lt_length_of_mem b1
    have e : (exAll f L start N).1.idxOf (u.foldl f start) = (exAll f L start N).1.idxOf (v.foldl f start) := by omega
    rw [← List.getElem_idxOf h1, ← List.getElem_idxOf h2]
    congr 1
  · intro e
    rw [e]
theorem Done.most {N : Nat} (d : Done f L start N) (hN : N ≤ 400) : (∀ j, (exAll f L start j).1.length ≤ 400) ∧ exAll f L start 400 = exAll f L start N := by
  refine ⟨fun j => Nat.le_trans (exAll_most (Nat.le_of_eq d.len) j) hN, ?_⟩
  have := exAll_stop (Nat.le_of_eq d.len) (400 - N)
  rw [show N + (400 - N) = 400 by omega] at this
  exact this
end
/-- told in other keys and letters, the table is the same -/
theorem ex_move {α β : Type} [DecidableEq α] [DecidableEq β] {f : α → Nat → α} {g : β → Nat → β} {φ : β → α} {ρ : Nat → Nat} {L : W} {start : β} (ok : β → Prop) (inj : ∀ a b, ok a → ok b → φ a = φ b → a = b) (h0 : ok start) (hs : ∀ a, ∀ c ∈ L, ok a → ok (g a c) ∧ f (φ a) (ρ c) = φ (g a c)) :
    ∀ j, exAll f (L.map ρ) (φ start) j = ((exAll g L start j).1.map φ, (exAll g L start j).2) ∧ ∀ a ∈ (exAll g L start j).1, ok a := by
  have memP : ∀ {l : List β} {a : β}, (∀ x ∈ l, ok x) → ok a → (φ a ∈ l.map φ ↔ a ∈ l) := fun {l a} hl ha => by
    constructor
    · intro h
      obtain ⟨b, hb, e⟩ := List.mem_map.mp h
      exact inj b a (hl b hb) ha e ▸ hb
    · exact fun h => List.mem_map.mpr ⟨a, h, rfl⟩
  have idxP : ∀ {l : List β} {a : β}, (∀ x ∈ l, ok x) → ok a → (l.map φ).idxOf (φ a) = l.idxOf a := fun {l a} hl ha => by
    induction l with
    | nil => rfl
    | cons b l ih =>
      rw [List.map_cons, List.idxOf_cons, List.idxOf_cons, ih fun x hx => hl x (.tail _ hx)]
      by_cases e : b = a
      · rw [e, beq_self_eq_true, beq_self_eq_true]
      · rw [show (b == a) = false from beq_eq_false_iff_ne.mpr e, show (φ b == φ a) = false from beq_eq_false_iff_ne.mpr fun z => e (inj b a (hl b (.head _)) ha z)]
  have foldP : ∀ (l : W) (key : β) (st : List β × List Int), (∀ c ∈ l, c ∈ L) → ok key → (∀ x ∈ st.1, ok x) → (l.map ρ).foldl (exSign f (φ key)) (st.1.map φ, st.2) = ((l.foldl (exSign g key) st).1.map φ, (l.foldl (exSign g key) st).2) ∧ ∀ x ∈ (l.foldl (exSign g key) st).1, ok x := by
    intro l
    induction l with
    | nil => exact fun key st _ _ h => ⟨rfl, h⟩
    | cons c l ih =>
      intro key st hl hk hst
      obtain ⟨o, e⟩ := hs key c (hl c (.head _)) hk
      have one : exSign f (φ key) (st.1.map φ, st.2) (ρ c) = ((exSign g key st c).1.map φ, (exSign g key st c).2) ∧ ∀ x ∈ (exSign g key st c).1, ok x := by
        unfold exSign
        rw [e]
        by_cases h : g key c ∈ st.1
        · rw [if_pos h, if_pos ((memP hst o).mpr h), idxP hst o]
          exact ⟨rfl, hst⟩
        · rw [if_neg h, if_neg fun z => h ((memP hst o).mp z)]
          refine ⟨?_, fun x hx => ?_⟩
          · show (st.1.map φ ++ [φ (g key c)], st.2 ++ [(((st.1.map φ).length : Nat) : Int)]) = ((st.1 ++ [g key c]).map φ, _)
            rw [List.length_map, List.map_append] <;> rfl
          · rcases List.mem_append.mp hx with z | z
            · exact hst x z
            · rw [List.mem_singleton.mp z]
              exact o
      rw [List.map_cons, List.foldl_cons, List.foldl_cons, one.1]
      exact ih key _ (fun d hd => hl d (.tail _ hd)) hk one.2
  intro j
  induction j with
  | zero => exact ⟨rfl, fun a ha => by rw [List.mem_singleton.mp ha]; exact h0⟩
  | succ j ih =>
    obtain ⟨ih1, ih2⟩ := ih
    rcases exAll_cases (f := g) (L := L) (start := start) j with ⟨key, hk, e⟩ | ⟨h, e⟩
    · have hk2 : (exAll f (L.map ρ) (φ start) j).1[j]? = some (φ key) := by
        rw [ih1, List.getElem?_map, hk] <;> rfl
      have ok2 := ih2 key (List.mem_of_getElem? hk)
      obtain ⟨a, b⟩ := foldP L key ((exAll g L start j).1, []) (fun _ h => h) ok2 ih2
      rw [exAll_at hk2, e, ih1]
      refine ⟨?_, b⟩
      show (((L.map ρ).foldl (exSign f (φ key)) ((exAll g L start j).1.map φ, [])).1, _) = _
      rw [a]
    · have h2 : (exAll f (L.map ρ) (φ start) j).1.length ≤ j := by rw [ih1, List.length_map]; exact h
      rw [exAll_stop h2 1, e, ih1]
      exact ⟨rfl, ih2⟩
theorem done_move {α β : Type} [DecidableEq α] [DecidableEq β] {f : α → Nat → α} {g : β → Nat → β} {φ : β → α} {ρ : Nat → Nat} {L : W} {start : β} {N : Nat} (ok : β → Prop) (inj : ∀ a b, ok a → ok b → φ a = φ b → a = b) (h0 : ok start) (hs : ∀ a, ∀ c ∈ L, ok a → ok (g a c) ∧ f (φ a) (ρ c) = φ (g a c)) (d : Done g L start N) :
    Done f (L.map ρ) (φ start) N := ⟨by rw [(ex_move ok inj h0 hs N).1, List.length_map, d.len], d.pos⟩
end WK

set_option Elab.async false
set_option linter.all false
set_option maxRecDepth 1000000
set_option maxHeartbeats 4000000
/-! The boxes' keys: how many. -/
namespace WK
open PySem PySem.Spec L2 PyProof.Rows K1
open TX (sg sigs)
/-! ### letters by their numbers -/
def rho (L : W) (i : Nat) : Nat := L.getD i (i + 1000)
theorem rho_map (L : W) : (List.range L.length).map (rho L) = L := by
  refine List.ext_getElem (by rw [List.length_map, List.length_range]) fun i h1 h2 => ?_
  rw [List.getElem_map, List.getElem_range]
  unfold rho
  rw [List.getD_eq_getElem?_getD, List.getElem?_eq_getElem h2] <;> rfl
theorem rho_lt {L : W} (h : Let L) {i j : Nat} (hij : i < j) : rho L i < rho L j := by
  unfold rho
  rw [List.getD_eq_getElem?_getD, List.getD_eq_getElem?_getD]
  by_cases hj : j < L.length
  · have hi : i < L.length := by omega
    rw [List.getElem?_eq_getElem hi, List.getElem?_eq_getElem hj]
    exact List.pairwise_iff_getElem.mp h.asc i j hi hj hij
  · rw [List.getElem?_eq_none (show L.length ≤ j by omega)]
    by_cases hi : i < L.length
    · rw [List.getElem?_eq_getElem hi]
      have := h.low _ (List.getElem_mem hi)
      show L[i] < j + 1000
      omega
    · rw [List.getElem?_eq_none (show L.length ≤ i by omega)]
      show i + 1000 < j + 1000
      omega
theorem rho_inj {L : W} (h : Let L) {i j : Nat} (e : rho L i = rho L j) : i = j := by
  rcases Nat.lt_trichotomy i j with a | a | a
  · have := rho_lt h a
    omega
  · exact a
  · have := rho_lt h a
    omega
/-! ### by the kernel, over 0, 1, 2 -/
def tot (k : Nat) : Nat → Nat
  | 0 => 1
  | n + 1 => tot k n + k ^ (n + 1)
def chkW (k n : Nat) : Bool := (exAll (lastF n) (List.range k) [] (tot k n)).1.length == tot k n
def chkH (k n : Nat) : Bool := (exAll (headF n) (List.range k) [] (tot k n)).1.length == tot k n
def chkC (k cap md : Nat) : Bool := (exAll (cntF (List.range k) cap md) (List.range k) (zeros (List.range k)) ((cap + md) ^ k)).1.length == (cap + md) ^ k
def kn : List (Nat × Nat) := [(1, 0), (1, 1), (1, 2), (1, 3), (2, 0), (2, 1), (2, 2), (2, 3), (3, 0), (3, 1), (3, 2)]
theorem allW_ok : (kn.all fun p => chkW p.1 p.2 && chkH p.1 p.2 && decide (1 ≤ tot p.1 p.2) && decide (tot p.1 p.2 ≤ 400)) = true := by decide +kernel
theorem allC_ok : ([1, 2, 3].all fun k => [0, 1, 2].all fun cap => [1, 2, 3].all fun md => chkC k cap md && decide (1 ≤ (cap + md) ^ k) && decide ((cap + md) ^ k ≤ 400)) = true := by decide +kernel
def W0 (k : Nat) : Nat → List W
  | 0 => [[]]
  | m + 1 => [] :: (List.range k).flatMap fun c => (W0 k m).map fun u => c :: u
def pieG (k m : Nat) (a : List W) (c : Nat) : List W := (W0 k m).filter fun p => a.contains p || (p != [] && p.getLast? == some c && a.contains p.dropLast)
def piN (k m : Nat) : Nat := if m = 0 then 1 else if m = 1 then 2 ^ k else if k = 1 then 3 else if k = 2 then 16 else 152
def chkP (k m : Nat) : Bool := (exAll (pieG k m) (List.range k) [[]] (piN k m)).1.length == piN k m
theorem allP_ok : ([1, 2, 3].all fun k => [0, 1, 2].all fun m => chkP k m && decide (1 ≤ piN k m) && decide (piN k m ≤ 400)) = true := by decide +kernel
theorem W0_asc : ∀ k ≤ 3, ∀ m ≤ 2, (W0 k m).Pairwise (fun a b => leW a b = true) ∧ (W0 k m).Nodup := by decide +kernel
theorem done_win {k n : Nat} (h : (k, n) ∈ kn) : Done (lastF n) (List.range k) [] (tot k n) ∧ Done (headF n) (List.range k) [] (tot k n) ∧ tot k n ≤ 400 := by
  have := List.all_eq_true.mp allW_ok _ h
  simp only [Bool.and_eq_true, decide_eq_true_eq] at this
  obtain ⟨⟨⟨a, b⟩, c⟩, d⟩ := this
  exact ⟨⟨beq_iff_eq.mp a, c⟩, ⟨beq_iff_eq.mp b, c⟩, d⟩
theorem done_cnt0 {k cap md : Nat} (hk : 1 ≤ k ∧ k ≤ 3) (hc : cap ≤ 2) (hm : 1 ≤ md ∧ md ≤ 3) : Done (cntF (List.range k) cap md) (List.range k) (zeros (List.range k)) ((cap + md) ^ k) ∧ (cap + md) ^ k ≤ 400 := by
  have a1 : k ∈ [1, 2, 3] := by simp; omega
  have a2 : cap ∈ [0, 1, 2] := by simp; omega
  have a3 : md ∈ [1, 2, 3] := by simp; omega
  have := List.all_eq_true.mp (List.all_eq_true.mp (List.all_eq_true.mp allC_ok _ a1) _ a2) _ a3
  simp only [Bool.and_eq_true, decide_eq_true_eq] at this
  obtain ⟨⟨a, b⟩, c⟩ := this
  exact ⟨⟨beq_iff_eq.mp a, b⟩, c⟩
theorem done_pie0 {k m : Nat} (hk : 1 ≤ k ∧ k ≤ 3) (hm : m ≤ 2) : Done (pieG k m) (List.range k) [[]] (piN k m) ∧ piN k m ≤ 400 := by
  have a1 : k ∈ [1, 2, 3] := by simp; omega
  have a2 : m ∈ [0, 1, 2] := by simp; omega
  have := List.all_eq_true.mp (List.all_eq_true.mp allP_ok _ a1) _ a2
  simp only [Bool.and_eq_true, decide_eq_true_eq] at this
  obtain ⟨⟨a, b⟩, c⟩ := this
  exact ⟨⟨beq_iff_eq.mp a, b⟩, c⟩
end WK

set_option Elab.async false
set_option linter.all false
set_option maxRecDepth 1000000
set_option maxHeartbeats 4000000
/-! The boxes' keys, moved to the letters. -/
namespace WK
open PySem PySem.Spec L2 PyProof.Rows K1
open TX (sg sigs)
/-! ### moved to the letters -/
theorem map_inj' {L : W} (h : Let L) {u v : W} (e : u.map (rho L) = v.map (rho L)) : u = v := map_inj (fun _ _ z => rho_inj h z) u v e
theorem done_last {L : W} (hL : Let L) {n : Nat} (h : (L.length, n) ∈ kn) : Done (lastF n) L [] (tot L.length n) := by
  have := done_move (f := lastF n) (φ := List.map (rho L)) (ρ := rho L) (fun _ => True) (fun a b _ _ e => map_inj' hL e) trivial (fun a c _ _ => ⟨trivial, by
    unfold lastF
    rw [← List.map_singleton, ← List.map_append, List.length_map, List.map_drop]⟩) (done_win h).1
  rw [rho_map] at this
  exact this
theorem done_head {L : W} (hL : Let L) {n : Nat} (h : (L.length, n) ∈ kn) : Done (headF n) L [] (tot L.length n) := by
  have := done_move (f := headF n) (φ := List.map (rho L)) (ρ := rho L) (fun _ => True) (fun a b _ _ e => map_inj' hL e) trivial (fun a c _ _ => ⟨trivial, by
    unfold headF
    rw [← List.map_singleton, ← List.map_append, List.map_take]⟩) (done_win h).2.1
  rw [rho_map] at this
  exact this
theorem cnt_move {L : W} (hL : Let L) (l : W) (cap md : Int) (a : List Int) (c : Nat) : cntF (l.map (rho L)) cap md a (rho L c) = cntF l cap md a c := by
  unfold cntF
  induction l generalizing a with
  | nil => rfl
  | cons d l ih =>
    cases a with
    | nil => rfl
    | cons x a =>
      rw [List.map_cons, List.zip_cons_cons, List.zip_cons_cons, List.map_cons, List.map_cons, ih]
      by_cases e : d = c
      · rw [if_pos e, if_pos (congrArg (rho L) e)]
      · rw [if_neg e, if_neg fun z => e (rho_inj hL z)]
theorem done_cnt {L : W} (hL : Let L) {cap md : Nat} (hc : cap ≤ 2) (hm : 1 ≤ md ∧ md ≤ 3) : Done (cntF L cap md) L (zeros L) ((cap + md) ^ L.length) ∧ (cap + md) ^ L.length ≤ 400 := by
  have hk : 1 ≤ L.length ∧ L.length ≤ 3 := ⟨List.length_pos_iff.mpr hL.ne, hL.few⟩
  obtain ⟨d, le⟩ := done_cnt0 hk hc hm
  refine ⟨?_, le⟩
  have := done_move (f := cntF ((List.range L.length).map (rho L)) cap md) (φ := id) (ρ := rho L) (fun _ => True) (fun a b _ _ e => e) trivial (fun a c _ _ => ⟨trivial, cnt_move hL _ cap md a c⟩) d
  rw [rho_map] at this
  have z : zeros (List.range L.length) = zeros L := by
    show (List.range L.length).map (fun _ => (0 : Int)) = L.map fun _ => 0
    rw [List.map_const', List.map_const', List.length_range]
  rw [id, z] at this
  exact this
/-! ### pieces -/
theorem mem_W0 (k : Nat) : ∀ (m : Nat) (p : W), p ∈ W0 k m ↔ p.length ≤ m ∧ ∀ c ∈ p, c < k
  | 0, p => by
    show p ∈ [[]] ↔ _
    rw [List.mem_singleton]
    exact ⟨fun h => by rw [h]; exact ⟨Nat.le_refl _, fun c hc => (List.not_mem_nil hc).elim⟩, fun h => List.length_eq_zero_iff.mp (by omega)⟩
  | m + 1, p => by
    show p ∈ [] :: _ ↔ _
    rw [List.mem_cons, List.mem_flatMap]
    constructor
    · rintro (rfl | ⟨c, hc, hp⟩)
      · exact ⟨Nat.zero_le _, fun c hc => (List.not_mem_nil hc).elim⟩
      · obtain ⟨u, hu, rfl⟩ := List.mem_map.mp hp
        obtain ⟨h1, h2⟩ := (mem_W0 k m u).mp hu
        refine ⟨by rw [List.length_cons]; omega, fun d hd => ?_⟩
        rcases List.mem_cons.mp hd with rfl | z
        · exact List.mem_range.mp hc
        · exact h2 d z
    · rintro ⟨h1, h2⟩
      cases p with
      | nil => exact .inl rfl
      | cons c u => exact .inr ⟨c, List.mem_range.mpr (h2 c (.head _)), List.mem_map.mpr ⟨u, (mem_W0 k m u).mpr ⟨by rw [List.length_cons] at h1; omega, fun d hd => h2 d (.tail _ hd)⟩, rfl⟩⟩
theorem snoc_of {p : W} {c : Nat} (h : p ≠ []) (hl : p.getLast? = some c) : p = p.dropLast ++ [c] := by
  obtain ⟨q, x, rfl⟩ : ∃ q x, p = q ++ [x] := ⟨_, _, (List.dropLast_concat_getLast h).symm⟩
  rw [List.getLast?_concat] at hl
  rw [List.dropLast_concat, Option.some.inj hl]
theorem pie_G {k m : Nat} (hk : k ≤ 3) (hm : m ≤ 2) {a : List W} (ha : ∀ p ∈ a, p ∈ W0 k m) {c : Nat} (hc : c < k) : pieF m a c = pieG k m a c := by
  obtain ⟨asc, nd⟩ := W0_asc k hk m hm
  unfold pieF pieG
  refine uniq_srt (asc_srt _) (asc.sublist List.filter_sublist) (nodup_srt _) (nd.sublist List.filter_sublist) fun p => ?_
  rw [mem_srt, List.mem_append, List.mem_map, List.mem_filter]
  simp only [Bool.or_eq_true, Bool.and_eq_true, bne_iff_ne, beq_iff_eq, List.contains_iff_mem]
  constructor
  · rintro (h | ⟨q, hq, rfl⟩)
    · exact ⟨ha p h, .inl h⟩
    · obtain ⟨q1, q2⟩ := List.mem_filter.mp hq
      have q2 := of_decide_eq_true q2
      obtain ⟨w1, w2⟩ := (mem_W0 k m q).mp (ha q q1)
      refine ⟨(mem_W0 k m _).mpr ⟨by rw [List.length_append]; show q.length + 1 ≤ m; omega, fun d hd => ?_⟩, .inr ⟨⟨by simp, by simp⟩, by rw [List.dropLast_concat]; exact q1⟩⟩
      rcases List.mem_append.mp hd with z | z
      · exact w2 d z
      · rw [List.mem_singleton.mp z]
        exact hc
  · rintro ⟨h0, h | ⟨⟨h1, h2⟩, h3⟩⟩
    · exact .inl h
    · have e := snoc_of h1 h2
      have hl := ((mem_W0 k m p).mp h0).1
      refine .inr ⟨p.dropLast, List.mem_filter.mpr ⟨h3, decide_eq_true ?_⟩, e.symm⟩
      have := congrArg List.length e
      rw [List.length_append] at this
      have : p.length = p.dropLast.length + 1 := this
      omega
theorem lt_map {L : W} (hL : Let L) : ∀ a b : List Nat, ltCps (a.map (rho L)) (b.map (rho L)) = ltCps a b
  | [], [] => rfl
  | [], b :: bs => rfl
  | a :: as, [] => rfl
  | a :: as, b :: bs => by
    have ih := lt_map hL as bs
    rw [List.map_cons, List.map_cons]
    unfold ltCps
    rcases Nat.lt_trichotomy a b with h | h | h
    · have := rho_lt hL h
      simp [h, this]
    · subst h
      simp [ih]
    · have h2 := rho_lt hL h
      have e1 : (a == b) = false := beq_eq_false_iff_ne.mpr (Nat.ne_of_gt h)
      have e2 : (rho L a == rho L b) = false := beq_eq_false_iff_ne.mpr (Nat.ne_of_gt h2)
      simp [h, h2, Nat.lt_asymm h, Nat.lt_asymm h2, e1, e2]
theorem le_map {L : W} (hL : Let L) (a b : W) : leW (a.map (rho L)) (b.map (rho L)) = leW a b := by
  unfold leW
  refine decide_eq_decide.mpr ?_
  rw [← List.not_lt, ← List.not_lt, ← lt_iff, ← lt_iff, lt_map hL]
theorem srt_map {L : W} (hL : Let L) (l : List W) : srtW (l.map (List.map (rho L))) = (srtW l).map (List.map (rho L)) := by
  refine uniq_srt (asc_srt _) ?_ (nodup_srt _) ?_ fun p => ?_
  · exact List.pairwise_map.mpr ((asc_srt l).imp fun {a b} h => by rw [le_map hL]; exact h)
  · exact List.pairwise_map.mpr ((nodup_srt l).imp fun {a b} h z => h (map_inj' hL z))
  · rw [mem_srt, List.mem_map, List.mem_map]
    exact ⟨fun ⟨q, a, b⟩ => ⟨q, mem_srt.mpr a, b⟩, fun ⟨q, a, b⟩ => ⟨q, mem_srt.mp a, b⟩⟩
theorem pie_map {L : W} (hL : Let L) (m : Nat) (a : List W) (c : Nat) : pieF m (a.map (List.map (rho L))) (rho L c) = (pieF m a c).map (List.map (rho L)) := by
  unfold pieF
  rw [← srt_map hL, List.map_append, List.map_map, List.filter_map, List.map_map]
  congr 3
  · funext u
    show u.map (rho L) ++ [rho L c] = (u ++ [c]).map (rho L)
    rw [List.map_append] <;> rfl
  · refine congrArg (fun p => List.filter p a) (funext fun u => ?_)
    show decide ((u.map (rho L)).length < m) = decide (u.length < m)
    rw [List.length_map]
theorem done_pie {L : W} (hL : Let L) {m : Nat} (hm : m ≤ 2) : Done (pieF m) L [[]] (piN L.length m) ∧ piN L.length m ≤ 400 := by
  have hk : 1 ≤ L.length ∧ L.length ≤ 3 := ⟨List.length_pos_iff.mpr hL.ne, hL.few⟩
  obtain ⟨d, le⟩ := done_pie0 hk hm
  refine ⟨?_, le⟩
  have d1 : Done (pieF m) (List.range L.length) [[]] (piN L.length m) := by
    have := done_move (f := pieF m) (φ := id) (ρ := id) (fun a => ∀ p ∈ a, p ∈ W0 L.length m) (fun a b _ _ e => e) (fun p hp => by
      rw [List.mem_singleton.mp hp]
      exact (mem_W0 _ _ _).mpr ⟨Nat.zero_le _, fun c hc => (List.not_mem_nil hc).elim⟩) (fun a c hc ha => ⟨fun p hp => (List.mem_filter.mp hp).1, pie_G hk.2 hm ha (List.mem_range.mp hc)⟩) d
    rw [List.map_id] at this
    exact this
  have := done_move (f := pieF m) (φ := List.map (List.map (rho L))) (ρ := rho L) (fun _ => True) (fun a b _ _ e => map_inj (fun _ _ z => map_inj' hL z) a b e) trivial (fun a c _ _ => ⟨trivial, pie_map hL m a c⟩) d1
  rw [rho_map] at this
  exact this
end WK

set_option Elab.async false
set_option linter.all false
set_option maxRecDepth 100000
set_option maxHeartbeats 8000000
/-! The law's own counts, pieces and words. -/
namespace WK
open PySem L2 PyProof.Rows K1
open TX (sg sigs)
open PySem.W (Frag kitOne)
abbrev scIn : Scope := { kind := .function, names := [(".0", .local), ("_law_letter", .cell), ("len", .globalImplicit), ("_law_word_here", .cell)], isGenerator := false, isCoroutine := false }
abbrev rLen (K : Frag) : List V → Hp → VK → Prop := fun xs H Q => ∃ p ys, xs = [V.ref p] ∧ (SqL K H p ys ∨ SqT K H p ys) ∧ Q (V.int (ys.length : Int)) H
def spLCounts : Sp := fun vs H Q _ => ∃ L u : W, vs = [.str (tx L), .str (tx u)] ∧ L.length ≤ 3 ∧ u.length ≤ 1000 ∧ ∀ t H', H t = none → Same H H' → H' t = some (.lst (L.map fun c => .int (u.count c : Int))) → Q (.ref t) H'
def spLIsP : Sp := fun vs H Q _ => ∃ u v : W, vs = [.str (tx u), .str (tx v)] ∧ u.length < 1000 ∧ v.length < 1000 ∧ Q (.bl (isP u v)) H
def spLAll : Sp := fun vs H Q _ => ∃ (L : W) (m : Nat), vs = [.str (tx L), .int (m : Int)] ∧ L.length ≤ 3 ∧ m ≤ 4 ∧ ∀ t H', H t = none → Same H H' → H' t = some (.lst ((allW L m).map fun u => V.str (tx u))) → Q (.ref t) H'
def spLPieces : Sp := fun vs H Q _ => ∃ (L u : W) (m : Nat), vs = [.str (tx L), .str (tx u), .int (m : Int)] ∧ L.length ≤ 3 ∧ u.length < 1000 ∧ m ≤ 4 ∧ ∀ t H', H t = none → Same H H' → H' t = some (.lst (((allW L m).filter fun p => isP p u).map fun u => V.str (tx u))) → Q (.ref t) H'
theorem count_filter (u : W) (c : Nat) : (u.filter fun d => decide (d = c)).length = u.count c := by
  rw [List.count_eq_countP, List.countP_eq_length_filter]
  congr 1
section
variable {P : Program} {w : World} {K : PySem.W.Frag} {mg : Str → Option Value} {base : Heap}
theorem scLC : FnScope ["_law_letters_here", "_law_word_here", "_law_letter", "_law_sign"] ["_law_letters_here", "_law_word_here"] (defScope sLCounts) := ⟨rfl, rfl, rfl, by decide +kernel, rfl, by decide +kernel, by decide +kernel⟩
theorem ok_lcounts {f : Addr} {fd : FuncData} (F : Fun K "_law_counts" "_law_counts" sLCounts f fd) (T : TN mg) : FnOk P w K mg base CX0 1 f fd ["_law_letters_here", "_law_word_here"] spLCounts := by
  refine F.ok scLC (fun vs H Q E h => ?_) (fun cdv A outer s H vs Q E hr h => ?_)
  · obtain ⟨u, n, rfl, _⟩ := h
    rfl
  · obtain ⟨L, u, rfl, hL, hu, q⟩ := h
    refine ⟨_, pss_one (ps_ret (pe_lc (own := [("_law_letter", 2)]) (g := gName 2) (tt := tYes) (te := tCB (rLen K) (tCons (tLc (iStr (tVar 1)) (gName 3) (tTest (tOp rEq (tVar 3) (tVar 2))) (tC (.int 1)) [3]) tNil)) rfl scLC.nd (pi_str (pv 0))
      (blkOk_by (own := [("_law_letter", 2)]) (N := ["_law_letters_here", "_law_word_here", "_law_letter", "_law_sign"]) (sc := defScope sLCounts) (by decide +kernel)) (fun _ _ _ _ _ => pg_name (i := 2) scLC.nd rfl (Or.inr rfl)) (fun _ _ _ _ _ => pts_nil)
      (fun _ _ _ _ _ => pe_callB call_len_seq (by rfl) T.len PySem.boot_len (pa_cons (pe_lc (own := [("_law_sign", 3)]) (g := gName 3) (tt := tTest (tOp rEq (tVar 3) (tVar 2))) (te := tC (.int 1)) rfl scLC.nd (pi_str (pv 1))
        (blkOk_by (own := [("_law_sign", 3)]) (N := ["_law_letters_here", "_law_word_here", "_law_letter", "_law_sign"]) (sc := scIn) (by decide +kernel)) (fun _ _ _ _ _ => pg_name (i := 3) scLC.nd rfl (Or.inl rfl)) (fun _ _ _ _ _ => pts_one (pt_cmpR op_eq (pv 3) (pv 2) (nomark _)))
        (fun _ _ _ _ _ => pe_int)) pa_nil)))), ?_⟩
    refine ⟨_, rfl, tx L, rfl, fun D hD => ?_⟩
    refine lc_it walk_str (fun i H3 => Same H H3 ∧ H3 D = some (.lst ((L.take i).map fun c => .int (u.count c : Int)))) ⟨same_upd hD, upd_same⟩ (fun _ _ _ _ => trivial) ?_ ?_
    · rintro i x H3 H4 hi ⟨s3, hd⟩ ⟨rfl, c, hx, rfl⟩
      have hx' : L[i]? = some c := by
        rw [← Array.getElem?_toList, tx_list] at hx
        exact hx
      refine ⟨rfl, _, rfl, tx u, rfl, fun D2 hD2 => ?_⟩
      refine lc_it walk_str (fun j H5 => Same H4 H5 ∧ H5 D2 = some (.lst (((u.take j).filter fun d => decide (d = c)).map fun _ => .int 1))) ⟨same_upd hD2, upd_same⟩ (fun _ _ _ _ => trivial) ?_ ?_
      · rintro j y H5 H6 hj ⟨s5, hd5⟩ ⟨rfl, d, hy, rfl⟩
        have hy' : u[j]? = some d := by
          rw [← Array.getElem?_toList, tx_list] at hy
          exact hy
        have hju : j < u.length := (List.getElem?_eq_some_iff.mp hy').1
        refine ⟨rfl, _, rfl, _, rfl, rfl, ?_⟩
        by_cases hdc : d = c
        · subst hdc
          refine ⟨true, congrArg V.bl (decide_eq_true rfl), ?_⟩
          refine ⟨_, hd5, ?_, same_at s5 hD2, ?_⟩
          · rw [List.length_map, sizeLine_eq]
            have h1 := List.length_filter_le (fun e => decide (e = d)) (u.take j)
            rw [List.length_take] at h1
            omega
          · rw [upd_same, List.take_add_one, hy', List.filter_append, List.map_append]
            simp
        · refine ⟨false, congrArg V.bl (decide_eq_false fun z => hdc (TX.sg_inj (V.str.inj z))), ?_⟩
          refine ⟨s5, ?_⟩
          rw [List.take_add_one, hy', List.filter_append, hd5]
          simp [hdc]
      · rintro H5 ⟨s5, hd5⟩
        rw [size_tx, List.take_length] at hd5
        refine ⟨D2, _, rfl, .inl (SqL.of hd5), _, s5 _ _ hd, ?_, same_at (s3.trans s5) hD, ?_⟩
        · rw [List.length_map, List.length_take, sizeLine_eq]
          omega
        · rw [List.length_map, count_filter, upd_same, List.take_add_one, hx', List.map_append] <;> rfl
    · rintro H3 ⟨s3, hd⟩
      rw [size_tx, List.take_length] at hd
      exact q D H3 hD s3 hd
theorem scLI : FnScope ["_law_word_here", "_law_other", "_law_at", "_law_sign"] ["_law_word_here", "_law_other"] (defScope sLIsP) := ⟨rfl, rfl, rfl, by decide +kernel, rfl, by decide +kernel, by decide +kernel⟩
theorem ok_lisp {f : Addr} {fd : FuncData} (F : Fun K "_law_is_piece" "_law_is_piece" sLIsP f fd) (T : TN mg) : FnOk P w K mg base CX0 1 f fd ["_law_word_here", "_law_other"] spLIsP := by
  refine F.ok scLI (fun vs H Q E h => ?_) (fun cdv A outer s H vs Q E hr h => ?_)
  · obtain ⟨u, n, rfl, _⟩ := h
    rfl
  · obtain ⟨u, v, rfl, hu, hv, q⟩ := h
    refine ⟨_, pss_cons (ps_set (i := 2) scLI.nd rfl (Or.inl rfl) pe_int)
      (pss_cons (ps_for PassesOwn.never rfl (pi_str (pv 1)) (pg_name (i := 3) scLI.nd rfl (Or.inl rfl))
        (pss_one (ps_if (PW.pt (pw_and (pt_cmpR op_lt (pv 2) (pe_callB call_len_str (by rfl) T.len PySem.boot_len (pa_cons (pv 0) pa_nil)) (nomark _)) (pw_and1 (pt_cmpR op_eq (pe_ix ix_str (pv 0) (pv 2) (fun _ _ => rfl)) (pv 3) (nomark _)))))
          (pss_one (ps_set (i := 2) scLI.nd rfl (Or.inl rfl) (pe_op op_add (pv 2) pe_int))) pss_nil)))
      (pss_one (ps_ret (pe_cmpR op_eq (pv 2) (pe_callB call_len_str (by rfl) T.len PySem.boot_len (pa_cons (pv 0) pa_nil)) (nomark _))))), ?_⟩
    have hz : (tx u).length ≤ sizeLine := by rw [tx_len, sizeLine_eq]; omega
    refine ⟨_, rfl, tx v, rfl, ?_⟩
    refine for_it walk_str (fun i σ H1 => H1 = H ∧ ∃ (a : Nat) (l : Option V), a ≤ u.length ∧ σ = [some (.str (tx u)), some (.str (tx v)), some (.int (a : Int)), l] ∧ lp u v = lp (u.drop a) (v.drop i)) ⟨rfl, 0, none, Nat.zero_le _, rfl, rfl⟩ (fun _ _ _ _ _ => trivial) ?_ ?_
    · rintro i x σ H1 H2 hi ⟨rfl, a, l, ha, rfl, hI⟩ ⟨rfl, c, hx, rfl⟩
      have hx' : v[i]? = some c := by
        rw [← Array.getElem?_toList, tx_list] at hx
        exact hx
      have hiv : i < v.length := (List.getElem?_eq_some_iff.mp hx').1
      have ev : v.drop i = c :: v.drop (i + 1) := by rw [List.drop_eq_getElem_cons hiv, (List.getElem?_eq_some_iff.mp hx').2]
      rw [ev] at hI
      refine ⟨_, rfl, _, rfl, _, rfl, hz, _, _, rfl, rfl, ?_⟩
      rw [tx_len]
      by_cases h1 : a < u.length
      · have h1' : ((a : Int) < (u.length : Int)) := by omega
        refine ⟨true, congrArg V.bl (decide_eq_true h1'), ?_⟩
        have eu : u.drop a = u[a] :: u.drop (a + 1) := List.drop_eq_getElem_cons h1
        rw [eu] at hI
        have at1 : atI (tx u).cps.toList (a : Int) = some u[a] := by
          rw [tx_list]
          exact atI_nat (List.getElem?_eq_getElem h1)
        refine ⟨_, rfl, _, rfl, _, _, u[a], rfl, rfl, hz, at1, _, rfl, rfl, ?_⟩
        by_cases h2 : u[a] = c
        · refine ⟨true, congrArg V.bl (decide_eq_true (by rw [h2])), ?_⟩
          refine ⟨_, rfl, _, _, rfl, rfl, rfl, a + 1, some (.str (sg c)), h1, rfl, ?_⟩
          rw [hI]
          show (if u[a] = c then _ else _) = _
          rw [if_pos h2]
        · refine ⟨false, congrArg V.bl (decide_eq_false fun z => h2 (TX.sg_inj (V.str.inj z))), ?_⟩
          refine ⟨rfl, a, some (.str (sg c)), ha, rfl, ?_⟩
          rw [hI, eu]
          show (if u[a] = c then _ else _) = _
          rw [if_neg h2]
      · have h1' : ¬ ((a : Int) < (u.length : Int)) := by omega
        refine ⟨false, congrArg V.bl (decide_eq_false h1'), ?_⟩
        refine ⟨rfl, a, some (.str (sg c)), ha, rfl, ?_⟩
        rw [hI, List.drop_of_length_le (by omega), lp_nil, lp_nil]
    · rintro σ H1 ⟨rfl, a, l, ha, rfl, hI⟩
      rw [size_tx, List.drop_of_length_le (Nat.le_refl _)] at hI
      have hI2 : lp u v = u.drop a := by
        rw [hI]
        cases u.drop a <;> rfl
      refine ⟨_, rfl, _, rfl, _, rfl, hz, rfl, ?_⟩
      rw [tx_len]
      have e : decide (V.int (a : Int) = V.int (u.length : Int)) = isP u v := by
        rw [Bool.eq_iff_iff, decide_eq_true_eq, ← lp_iff, hI2, List.drop_eq_nil_iff]
        constructor
        · intro z
          have := V.int.inj z
          omega
        · intro z
          have : a = u.length := by omega
          rw [this]
      rw [e]
      exact q
end
end WK

set_option Elab.async false
set_option linter.all false
set_option maxRecDepth 100000
set_option maxHeartbeats 8000000
/-! The law's own words and pieces. -/
namespace WK
open PySem L2 PyProof.Rows K1
open TX (sg sigs)
open PySem.W (Frag kitOne)
theorem lay_len (L : W) (hL : L.length ≤ 3) : ∀ k, (lay L k).length ≤ 3 ^ k
  | 0 => Nat.le_refl _
  | k + 1 => by
    have ih := lay_len L hL k
    have h : ∀ l : List W, (l.flatMap fun u => L.map fun c => u ++ [c]).length ≤ l.length * 3 := by
      intro l
      induction l with
      | nil => exact Nat.le_refl _
      | cons u l ih =>
        rw [List.flatMap_cons, List.length_append, List.length_cons, List.length_map]
        omega
    have h1 := h (lay L k)
    exact Nat.le_trans h1 (by rw [Nat.pow_succ]; omega)
theorem lay_81 (L : W) (hL : L.length ≤ 3) {k : Nat} (hk : k ≤ 4) : (lay L k).length ≤ 81 := by
  have h1 := lay_len L hL k
  have h2 : (3 : Nat) ^ k ≤ 3 ^ 4 := Nat.pow_le_pow_right (by decide) hk
  have h3 : (3 : Nat) ^ 4 = 81 := by decide
  omega
theorem allW_len (L : W) (hL : L.length ≤ 3) : ∀ k, k ≤ 4 → (allW L k).length ≤ (k + 1) * 81
  | 0, _ => by show 1 ≤ 81; decide
  | k + 1, h => by
    have ih := allW_len L hL k (by omega)
    have h1 := lay_81 L hL h
    show (allW L k ++ lay L (k + 1)).length ≤ _
    rw [List.length_append]
    omega
abbrev txV : W → V := fun u => V.str (tx u)
section
variable {P : Program} {w : World} {K : PySem.W.Frag} {mg : Str → Option Value} {base : Heap}
abbrev NA : List Str := ["_law_letters_here", "_law_most", "_law_found", "_law_layer", "_law_size", "_law_longer", "_law_word_here", "_law_letter"]
theorem scLA : FnScope NA ["_law_letters_here", "_law_most"] (defScope sLAll) := ⟨rfl, rfl, rfl, by decide +kernel, rfl, by decide +kernel, by decide +kernel⟩
theorem ok_lall {f : Addr} {fd : FuncData} (F : Fun K "_law_all_words" "_law_all_words" sLAll f fd) (T : TN mg) : FnOk P w K mg base CX0 1 f fd ["_law_letters_here", "_law_most"] spLAll := by
  refine F.ok scLA (fun vs H Q E h => ?_) (fun cdv A outer s H vs Q E hr h => ?_)
  · obtain ⟨u, n, rfl, _⟩ := h
    rfl
  · obtain ⟨L, m, rfl, hL, hm, q⟩ := h
    refine ⟨_, pss_cons (ps_par (i := 2) (j := 3) (by rfl) scLA.nd rfl rfl (by decide) rfl rfl (pa_cons (pe_lst (pa_cons pe_str pa_nil)) (pa_cons (pe_lst (pa_cons pe_str pa_nil)) pa_nil)) (by rfl))
      (pss_cons (ps_for PassesOwn.never rfl (pi_range1 rfl T.rng (pa_cons (pv 1) pa_nil)) (pg_name (i := 4) scLA.nd rfl (Or.inl rfl))
        (pss_cons (ps_set (i := 5) scLA.nd rfl (Or.inl rfl) (pe_lst pa_nil))
        (pss_cons (ps_for PassesOwn.never rfl (pi_list (pe_callTy call_list_of (by rfl) T.list (by decide +kernel) (pa_cons (pv 3) pa_nil))) (pg_name (i := 6) scLA.nd rfl (Or.inr rfl))
          (pss_one (ps_expr (pe_bm PySem.F.plainAttrs_list PySem.F.slot_list_extend PySem.F.type_list_extend mt_extend (pv 5) (pa_cons (pe_lc (own := [("_law_letter", 7)]) (g := gName 7) (tt := tYes) rfl scLA.nd (pi_str (pv 0))
            (blkOk_by (own := [("_law_letter", 7)]) (N := NA) (sc := defScope sLAll) (by decide +kernel)) (fun _ _ _ _ _ => pg_name (i := 7) scLA.nd rfl (Or.inl rfl)) (fun _ _ _ _ _ => pts_nil)
            (fun _ _ _ _ _ => pe_op op_add_str (pv 6) (pv 7))) pa_nil)))))
        (pss_cons (ps_set (i := 3) scLA.nd rfl (Or.inl rfl) (pv 5))
        (pss_one (ps_set (i := 2) scLA.nd rfl (Or.inl rfl) (pe_op op_cat (pv 2) (pv 3))))))))
      (pss_one (ps_ret (pv 2)))), ?_⟩
    refine ⟨(by show 1 ≤ sizeLine; decide), fun fo hfo => ⟨(by show 1 ≤ sizeLine; decide), fun la hla => ⟨_, _, rfl, ?_⟩⟩⟩
    refine ⟨_, rfl, (m : Int), rfl, by omega, by omega, ?_⟩
    refine for_range (lo := 0) (n := m) (fun k σ H1 => ∃ fo la a4 a5 a6, σ = [some (.str (tx L)), some (.int m), some (.ref fo), some (.ref la), a4, a5, a6, none] ∧ H fo = none ∧ Same H H1 ∧ H1 fo = some (.lst ((allW L k).map txV)) ∧ H1 la = some (.lst ((lay L k).map txV))) ?_ ?_ ?_
    · exact ⟨fo, la, none, none, none, rfl, hfo, same_two (same_upd hfo) hla, same_upd hla _ _ upd_same, upd_same⟩
    · rintro k σ H1 hk ⟨fo, la, a4, a5, a6, rfl, hfo, s1, hfo1, hla1⟩
      refine ⟨(by show 0 ≤ sizeLine; decide), fun lo hlo => ?_⟩
      refine ⟨_, rfl, la, _, rfl, .inl (SqL.of (same_upd hlo _ _ hla1)), fun cl hcl => ?_⟩
      refine ⟨cl, rfl, ⟨_, SqL.of upd_same⟩, ?_⟩
      have g1 : Same H1 (upd (upd H1 lo (.lst [])) cl (.lst ((lay L k).map txV))) := same_two (same_upd hlo) hcl
      have g2 : (upd (upd H1 lo (.lst [])) cl (.lst ((lay L k).map txV))) cl = some (.lst ((lay L k).map txV)) := upd_same
      have g3 : (upd (upd H1 lo (.lst [])) cl (.lst ((lay L k).map txV))) lo = some (.lst []) := same_upd hcl _ _ upd_same
      generalize upd (upd H1 lo (.lst [])) cl (.lst ((lay L k).map txV)) = G at g1 g2 g3 ⊢
      have cllo : cl ≠ lo := fun z => by rw [z, upd_same] at hcl; cases hcl
      have lk := lay_81 L hL (show k ≤ 4 by omega)
      have lk1 := lay_81 L hL (show k + 1 ≤ 4 by omega)
      have ak := allW_len L hL k (by omega)
      refine for_it walk_list (fun i σ H2 => ∃ a4 a6, σ = [some (.str (tx L)), some (.int m), some (.ref fo), some (.ref la), a4, some (.ref lo), a6, none] ∧ Same H1 H2 ∧ H2 cl = some (.lst ((lay L k).map txV)) ∧ H2 lo = some (.lst ((((lay L k).take i).flatMap fun u => L.map fun c => u ++ [c]).map txV)))
        ⟨_, a6, rfl, g1, g2, by rw [g3] <;> rfl⟩ (fun i σ H2 _ ⟨_, _, _, _, h, _⟩ => SqL.of h) ?_ ?_
      · rintro i x σ H2 H3 hi ⟨a4, a6, rfl, s2, hcl2, hlo2⟩ ⟨rfl, hx⟩
        rw [List.getElem?_map] at hx
        cases hc : (lay L k)[i]? with
        | none => rw [hc] at hx; cases hx
        | some u =>
          rw [hc] at hx
          obtain rfl : txV u = x := Option.some.inj hx
          have hul : u.length = k := ((mem_lay L k u).mp (List.mem_of_getElem? hc)).1
          refine ⟨_, rfl, .inl ⟨rfl, _, SqL.of hlo2⟩, _, rfl, tx L, rfl, fun D hD => ?_⟩
          refine lc_it walk_str (fun j H5 => Same H3 H5 ∧ H5 D = some (.lst (((L.take j).map fun c => u ++ [c]).map txV))) ⟨same_upd hD, upd_same⟩ (fun _ _ _ _ => trivial) ?_ ?_
          · rintro j y H5 H6 hj ⟨s5, hd5⟩ ⟨rfl, d, hy, rfl⟩
            have hy' : L[j]? = some d := by
              rw [← Array.getElem?_toList, tx_list] at hy
              exact hy
            refine ⟨rfl, _, rfl, _, rfl, _, _, rfl, rfl, ?_, _, hd5, ?_, same_at s5 hD, ?_⟩
            · rw [tx_len, sizeLine_eq, hul]
              show k + 1 ≤ _
              omega
            · rw [List.length_map, List.length_map, List.length_take, sizeLine_eq]
              omega
            · rw [upd_same, List.take_add_one, hy', List.map_append, List.map_append]
              show _ = some (HO.lst (_ ++ [V.str (tx (u ++ [d]))]))
              rw [← tx_app] <;> rfl
          · rintro H5 ⟨s5, hd5⟩
            rw [size_tx, List.take_length] at hd5
            refine ⟨lo, D, _, _, rfl, rfl, s5 _ _ hlo2, hd5, ?_, a4, some (txV u), rfl, ?_, ?_, ?_⟩
            · have h1 : (((lay L k).take i).flatMap fun u => L.map fun c => u ++ [c]).length ≤ ((lay L k).take i).length * 3 := by
                generalize (lay L k).take i = l
                induction l with
                | nil => exact Nat.le_refl _
                | cons u l ih =>
                  rw [List.flatMap_cons, List.length_append, List.length_cons, List.length_map]
                  omega
              rw [List.length_take] at h1
              rw [List.length_map, List.length_map, List.length_map, sizeLine_eq]
              omega
            · exact same_at (s2.trans s5) hlo
            · rw [upd_ne cllo]
              exact s5 _ _ hcl2
            · rw [upd_same, List.take_add_one, hc, List.flatMap_append, List.map_append]
              show _ = some (HO.lst (_ ++ List.map txV (List.flatMap _ [u])))
              rw [List.flatMap_cons, List.flatMap_nil, List.append_nil] <;> rfl
      · rintro σ H2 ⟨a4, a6, rfl, s2, hcl2, hlo2⟩
        rw [List.length_map, List.take_length] at hlo2
        have hlo3 : H2 lo = some (.lst ((lay L (k + 1)).map txV)) := hlo2
        refine ⟨_, rfl, _, rfl, _, rfl, fo, lo, _, _, rfl, rfl, s2 _ _ hfo1, hlo3, ?_, fun nf hnf => ?_⟩
        · rw [List.length_map, List.length_map, sizeLine_eq]
          omega
        · refine ⟨nf, lo, a4, some (.ref lo), a6, rfl, (s1.trans s2).free hnf, same_two (s1.trans s2) hnf, ?_, same_upd hnf _ _ hlo3⟩
          rw [upd_same, ← List.map_append] <;> rfl
    · rintro σ H1 ⟨fo, la, a4, a5, a6, rfl, hfo, s1, hfo1, hla1⟩
      exact ⟨_, rfl, q fo H1 hfo s1 hfo1⟩
theorem scLP : FnScope ["_law_letters_here", "_law_word_here", "_law_most", "_law_piece"] ["_law_letters_here", "_law_word_here", "_law_most"] (defScope sLPieces) := ⟨rfl, rfl, rfl, by decide +kernel, rfl, by decide +kernel, by decide +kernel⟩
theorem ok_lpieces {f fA fI : Addr} {fd dA dI : FuncData} (F : Fun K "_law_pieces" "_law_pieces" sLPieces f fd) (AA : Fn K mg "_law_all_words" sLAll ["_law_letters_here", "_law_most"] fA dA) (GA : FnOk P w K mg base CX0 1 fA dA ["_law_letters_here", "_law_most"] spLAll)
    (AI : Fn K mg "_law_is_piece" sLIsP ["_law_word_here", "_law_other"] fI dI) (GI : FnOk P w K mg base CX0 1 fI dI ["_law_word_here", "_law_other"] spLIsP) : FnOk P w K mg base CX0 2 f fd ["_law_letters_here", "_law_word_here", "_law_most"] spLPieces := by
  refine F.ok scLP (fun vs H Q E h => ?_) (fun cdv A outer s H vs Q E hr h => ?_)
  · obtain ⟨u, n, _, rfl, _⟩ := h
    rfl
  · obtain ⟨L, u, m, rfl, hL, hu, hm, q⟩ := h
    refine ⟨_, pss_one (ps_ret (pe_lc (own := [("_law_piece", 3)]) (g := gName 3) rfl scLP.nd (pi_list (pe_call GA hr rfl AA.g AA.F.kp AA.b .nil pass0 (pa_cons (pv 0) (pa_cons (pv 2) pa_nil))))
      (blkOk_by (own := [("_law_piece", 3)]) (N := ["_law_letters_here", "_law_word_here", "_law_most", "_law_piece"]) (sc := defScope sLPieces) (by decide +kernel)) (fun _ _ _ _ _ => pg_name (i := 3) scLP.nd rfl (Or.inl rfl))
      (fun _ _ _ _ _ => pts_one (pt_val (pe_call GI hr rfl AI.g AI.F.kp AI.b .nil pass0 (pa_cons (pv 3) (pa_cons (pv 1) pa_nil))))) (fun _ _ _ _ _ => pv 3))), ?_⟩
    refine ⟨_, rfl, _, rfl, L, m, rfl, hL, hm, fun t H1 nt s1 ht => ?_⟩
    refine ⟨t, rfl, ⟨_, SqL.of ht⟩, fun D hD => ?_⟩
    have ak := allW_len L hL m hm
    refine lc_it walk_list (fun i H3 => Same H1 H3 ∧ H3 D = some (.lst ((((allW L m).take i).filter fun p => isP p u).map txV))) ⟨same_upd hD, upd_same⟩ (fun i H3 _ ⟨s3, _⟩ => SqL.of (s3 _ _ ht)) ?_ ?_
    · rintro i x H3 H4 hi ⟨s3, hd⟩ ⟨rfl, hx⟩
      rw [List.getElem?_map] at hx
      cases hc : (allW L m)[i]? with
      | none => rw [hc] at hx; cases hx
      | some p =>
        rw [hc] at hx
        obtain rfl : V.str (tx p) = x := Option.some.inj hx
        have hpl : p.length ≤ m := ((mem_allW L m p).mp (List.mem_of_getElem? hc)).1
        refine ⟨rfl, _, rfl, _, rfl, p, u, rfl, by omega, hu, _, rfl, ?_⟩
        have tk : (allW L m).take (i + 1) = (allW L m).take i ++ [p] := by rw [List.take_add_one, hc] <;> rfl
        rw [tk, List.filter_append]
        cases hp : isP p u with
        | true =>
          refine ⟨_, rfl, _, hd, ?_, same_at s3 hD, ?_⟩
          · have h1 := List.length_filter_le (fun p => isP p u) ((allW L m).take i)
            rw [List.length_take] at h1
            rw [List.length_map, sizeLine_eq]
            omega
          · rw [upd_same, List.filter_cons, hp, List.map_append] <;> rfl
        | false =>
          refine ⟨s3, ?_⟩
          rw [hd, List.filter_cons, hp]
          simp
    · rintro H3 ⟨s3, hd⟩
      rw [List.length_map, List.take_length] at hd
      exact q D H3 (s1.free hD) (s1.trans s3) hd
end
end WK

set_option Elab.async false
set_option linter.all false
set_option maxRecDepth 100000
set_option maxHeartbeats 4000000
/-! What a key tells of a word. -/
namespace WK
open PySem PySem.Spec L2 PyProof.Rows K1
theorem key_last (n : Nat) : ∀ (u a : W), u.foldl (lastF n) (a.drop (a.length - n)) = (a ++ u).drop ((a ++ u).length - n)
  | [], a => by rw [List.append_nil] <;> rfl
  | c :: u, a => by
    have ih := key_last n u (a ++ [c])
    rw [List.append_assoc] at ih
    rw [List.foldl_cons, show a ++ c :: u = a ++ ([c] ++ u) from rfl, ← ih]
    congr 1
    unfold lastF
    rw [← List.drop_append_of_le_length (show a.length - n ≤ a.length by omega), List.drop_drop]
    congr 1
    rw [List.length_drop, List.length_append]
    show a.length - n + (a.length + 1 - (a.length - n) - n) = a.length + 1 - n
    omega
theorem last_is (n : Nat) (u : W) : u.foldl (lastF n) [] = u.drop (u.length - n) := by
  have := key_last n u []
  rw [List.nil_append, List.drop_nil] at this
  exact this
theorem key_head (n : Nat) : ∀ (u a : W), u.foldl (headF n) (a.take n) = (a ++ u).take n
  | [], a => by rw [List.append_nil] <;> rfl
  | c :: u, a => by
    have ih := key_head n u (a ++ [c])
    rw [List.append_assoc] at ih
    rw [List.foldl_cons, show a ++ c :: u = a ++ ([c] ++ u) from rfl, ← ih]
    congr 1
    unfold headF
    rcases Nat.le_total n a.length with h | h
    · rw [List.take_append_of_le_length (by rw [List.length_take]; omega), List.take_take, Nat.min_self, List.take_append_of_le_length h]
    · rw [List.take_of_length_le h]
theorem head_is (n : Nat) (u : W) : u.foldl (headF n) [] = u.take n := by
  have := key_head n u []
  rw [List.nil_append, List.take_nil] at this
  exact this
/-- a count, as it is told up to a cap and by the rests behind it -/
def gN (cap md n : Nat) : Int := if n < cap then (n : Int) else (cap : Int) + ((n : Int) - cap) % md
theorem gN_next (cap md n : Nat) (hm : 1 ≤ md) : oneM cap md (gN cap md n) = gN cap md (n + 1) := by
  unfold oneM gN
  by_cases h : n < cap
  · rw [if_pos h, if_pos (by omega)]
    by_cases h2 : n + 1 < cap
    · rw [if_pos h2]
      omega
    · rw [if_neg h2]
      have : ((n + 1 : Nat) : Int) - (cap : Int) = 0 := by omega
      rw [this, Int.zero_emod]
      omega
  · rw [if_neg h, if_neg (show ¬ n + 1 < cap by omega)]
    have e : ((n + 1 : Nat) : Int) - (cap : Int) = ((n : Int) - cap) + 1 := by omega
    rw [e]
    have hd : 0 < (md : Int) := by omega
    have m0 := Int.emod_nonneg ((n : Int) - cap) (show (md : Int) ≠ 0 by omega)
    have m1 := Int.emod_lt_of_pos ((n : Int) - cap) hd
    have key : (((n : Int) - cap) + 1) % md = (((n : Int) - cap) % md + 1) % md := by rw [Int.emod_add_emod]
    rw [key]
    generalize ((n : Int) - cap) % md = r at m0 m1
    by_cases h3 : r + 1 < md
    · rw [if_pos (by omega), Int.emod_eq_of_lt (by omega) h3]
      omega
    · have : r + 1 = md := by omega
      rw [if_neg (by omega), this, Int.emod_self, Int.add_zero]
theorem cnt_step (L : W) (cap md : Int) (h : Nat → Int) (c : Nat) : cntF L cap md (L.map h) c = L.map fun d => if d = c then oneM cap md (h d) else h d := by
  unfold cntF
  induction L with
  | nil => rfl
  | cons d L ih =>
    rw [List.map_cons, List.zip_cons_cons, List.map_cons, List.map_cons, ih]
theorem key_cnt (L : W) (cap md : Nat) (hm : 1 ≤ md) : ∀ (u a : W), u.foldl (cntF L cap md) (L.map fun d => gN cap md (a.count d)) = L.map fun d => gN cap md ((a ++ u).count d)
  | [], a => by rw [List.append_nil] <;> rfl
  | c :: u, a => by
    have ih := key_cnt L cap md hm u (a ++ [c])
    rw [List.append_assoc] at ih
    rw [List.foldl_cons, show a ++ c :: u = a ++ ([c] ++ u) from rfl, ← ih, cnt_step]
    congr 1
    refine List.map_congr_left fun d _ => ?_
    rw [List.count_append, List.count_cons, List.count_nil]
    by_cases e : d = c
    · subst e
      rw [if_pos rfl, gN_next cap md _ hm, beq_self_eq_true, if_pos rfl]
    · rw [if_neg e, show (c == d) = false from beq_eq_false_iff_ne.mpr (Ne.symm e), if_neg Bool.false_ne_true]
      rfl
theorem gN_zero (cap md : Nat) : gN cap md 0 = 0 := by
  unfold gN
  by_cases h : 0 < cap
  · rw [if_pos h] <;> rfl
  · rw [if_neg h]
    have : cap = 0 := by omega
    rw [this]
    show (0 : Int) + (0 - 0) % _ = 0
    rw [Int.sub_zero, Int.zero_emod] <;> rfl
theorem cnt_is (L : W) (cap md : Nat) (hm : 1 ≤ md) (u : W) : u.foldl (cntF L cap md) (zeros L) = L.map fun d => gN cap md (u.count d) := by
  have := key_cnt L cap md hm u []
  rw [List.nil_append] at this
  rw [← this]
  congr 1
  refine List.map_congr_left fun d _ => ?_
  rw [List.count_nil, gN_zero]
theorem sub_snoc {p a : W} {c : Nat} : List.Sublist p (a ++ [c]) ↔ List.Sublist p a ∨ ∃ q, p = q ++ [c] ∧ List.Sublist q a := by
  rw [List.sublist_append_iff]
  constructor
  · rintro ⟨x, y, rfl, h1, h2⟩
    cases h2 with
    | cons _ h =>
      rw [List.sublist_nil.mp h, List.append_nil]
      exact .inl h1
    | cons_cons _ h =>
      rw [List.sublist_nil.mp h]
      exact .inr ⟨x, rfl, h1⟩
  · rintro (h | ⟨q, rfl, h⟩)
    · exact ⟨p, [], (List.append_nil p).symm, h, List.nil_sublist _⟩
    · exact ⟨q, [c], rfl, h, List.Sublist.refl _⟩
/-- the key of pieces: which pieces a word has -/
structure PieKey (m : Nat) (a : List W) (u : W) : Prop where
  asc : a.Pairwise fun x y => leW x y = true
  nd : a.Nodup
  mem : ∀ p, p ∈ a ↔ p.length ≤ m ∧ List.Sublist p u
theorem PieKey.next {m : Nat} {a : List W} {u : W} (h : PieKey m a u) (c : Nat) : PieKey m (pieF m a c) (u ++ [c]) := by
  refine ⟨asc_srt _, nodup_srt _, fun p => ?_⟩
  unfold pieF
  rw [mem_srt, List.mem_append, List.mem_map, sub_snoc]
  constructor
  · rintro (hp | ⟨q, hq, rfl⟩)
    · obtain ⟨h1, h2⟩ := (h.mem p).mp hp
      exact ⟨h1, .inl h2⟩
    · obtain ⟨q1, q2⟩ := List.mem_filter.mp hq
      have q2 := of_decide_eq_true q2
      obtain ⟨h1, h2⟩ := (h.mem q).mp q1
      exact ⟨by rw [List.length_append]; show q.length + 1 ≤ m; omega, .inr ⟨q, rfl, h2⟩⟩
  · rintro ⟨h1, h2 | ⟨q, rfl, h2⟩⟩
    · exact .inl ((h.mem p).mpr ⟨h1, h2⟩)
    · rw [List.length_append] at h1
      have h1 : q.length + 1 ≤ m := h1
      exact .inr ⟨q, List.mem_filter.mpr ⟨(h.mem q).mpr ⟨by omega, h2⟩, decide_eq_true (by omega)⟩, rfl⟩
theorem key_pie (m : Nat) : ∀ (u a : W) (k : List W), PieKey m k a → PieKey m (u.foldl (pieF m) k) (a ++ u)
  | [], a, k, h => by rw [List.append_nil]; exact h
  | c :: u, a, k, h => by
    have := key_pie m u (a ++ [c]) _ (h.next c)
    rw [List.append_assoc] at this
    exact this
theorem pie_is (m : Nat) (u : W) : PieKey m (u.foldl (pieF m) [[]]) u := by
  have := key_pie m u [] [[]] ⟨List.pairwise_singleton _ _, List.nodup_cons.mpr ⟨List.not_mem_nil, List.nodup_nil⟩, fun p => by
    rw [List.mem_singleton]
    exact ⟨fun h => by rw [h]; exact ⟨Nat.zero_le _, List.Sublist.refl _⟩, fun h => List.sublist_nil.mp h.2⟩⟩
  rw [List.nil_append] at this
  exact this
theorem pie_same {L : W} {m : Nat} {u v : W} (hu : ∀ c ∈ u, c ∈ L) (hv : ∀ c ∈ v, c ∈ L) : u.foldl (pieF m) [[]] = v.foldl (pieF m) [[]] ↔ (allW L m).filter (fun p => isP p u) = (allW L m).filter (fun p => isP p v) := by
  have a := pie_is m u
  have b := pie_is m v
  constructor
  · intro e
    refine List.filter_congr fun p hp => ?_
    obtain ⟨h1, _⟩ := (mem_allW L m p).mp hp
    rw [Bool.eq_iff_iff, isP_iff, isP_iff]
    have h2 := a.mem p
    rw [e] at h2
    have h3 := h2.symm.trans (b.mem p)
    exact ⟨fun z => (h3.mp ⟨h1, z⟩).2, fun z => (h3.mpr ⟨h1, z⟩).2⟩
  · intro e
    refine uniq_srt a.asc b.asc a.nd b.nd fun p => ?_
    rw [a.mem, b.mem]
    have key : ∀ (w : W), (∀ c ∈ w, c ∈ L) → (p.length ≤ m ∧ List.Sublist p w ↔ p ∈ (allW L m).filter fun p => isP p w) := fun w hw => by
      rw [List.mem_filter, mem_allW, isP_iff]
      exact ⟨fun ⟨h1, h2⟩ => ⟨⟨h1, fun c hc => hw c (h2.subset hc)⟩, h2⟩, fun ⟨⟨h1, _⟩, h2⟩ => ⟨h1, h2⟩⟩
    rw [key u hu, key v hv, e]
theorem pie_ok {L : W} (hL : L.length ≤ 3) {m : Nat} (hm : m ≤ 2) : PieOk L m fun a => a.Nodup ∧ ∀ p ∈ a, p.length ≤ m ∧ ∀ c ∈ p, c ∈ L := by
  have few : (allW L m).length ≤ 30 := by
    have l1 := lay_len L hL 1
    have l2 := lay_len L hL 2
    have e1 : (3 : Nat) ^ 1 = 3 := rfl
    have e2 : (3 : Nat) ^ 2 = 9 := rfl
    match m, hm with
    | 0, _ => show 1 ≤ 30; omega
    | 1, _ =>
      show ([[]] ++ lay L 1).length ≤ 30
      rw [List.length_append]
      show 1 + _ ≤ 30
      omega
    | 2, _ =>
      show (([[]] ++ lay L 1) ++ lay L 2).length ≤ 30
      rw [List.length_append, List.length_append]
      show 1 + _ + _ ≤ 30
      omega
  refine ⟨⟨List.nodup_cons.mpr ⟨List.not_mem_nil, List.nodup_nil⟩, fun p hp => ?_⟩, fun a c ⟨_, h⟩ hc => ⟨nodup_srt _, fun p hp => ?_⟩, fun a ⟨nd, h⟩ => ?_, fun a ⟨_, h⟩ u hu => by have := (h u hu).1; omega⟩
  · rw [List.mem_singleton.mp hp]
    exact ⟨Nat.zero_le _, fun c hc => (List.not_mem_nil hc).elim⟩
  · unfold pieF at hp
    rw [mem_srt, List.mem_append, List.mem_map] at hp
    rcases hp with hp | ⟨q, hq, rfl⟩
    · exact h p hp
    · obtain ⟨q1, q2⟩ := List.mem_filter.mp hq
      have q2 := of_decide_eq_true q2
      refine ⟨by rw [List.length_append]; show q.length + 1 ≤ m; omega, fun d hd => ?_⟩
      rcases List.mem_append.mp hd with z | z
      · exact (h q q1).2 d z
      · rw [List.mem_singleton.mp z]
        exact hc
  · exact Nat.le_trans (nd.length_le_of_subset fun p hp => (mem_allW L m p).mpr (h p hp)) few
end WK

set_option Elab.async false
set_option linter.all false
set_option maxRecDepth 100000
set_option maxHeartbeats 8000000
/-! A box beside a box. -/
namespace WK
open PySem L2 PyProof.Rows LCX K1 FV DP
open TX (sg sigs)
open PySem.W (Frag kitOne)
abbrev sNeedBox : Stmt := top 44
abbrev sSame : Stmt := top 35
def spNeedBox (C : Addr) : Sp := fun vs H Q _ => ∃ (o : Addr) (L : W) (tb : List (List Int)), vs = [.ref o] ∧ BoxAt C H o L tb ∧ Q .non H
def spSame : Sp := fun vs H Q _ => ∃ L : W, vs = [.str (tx L), .str (tx L)] ∧ Q .non H
def spBAnd (C : Addr) : Sp := fun vs H Q _ => ∃ (a b : Addr) (L : W) (U Z : List (List Int)) (n m : Int) (B : Nat), vs = [.ref a, .ref b] ∧ BoxAt C H a L U ∧ BoxAt C H b L Z ∧ Let L ∧ TabOk U L.length n ∧ TabOk Z L.length m ∧ 1 ≤ n ∧ 1 ≤ m ∧ n ≤ 1000 ∧ m ≤ 1000 ∧
  (∀ j, (exAll (pairF U Z) (List.range L.length) [0, 0] j).1.length ≤ B) ∧ B ≤ 400 ∧ ∀ o H', H o = none → Same H H' → BoxAt C H' o L (exAll (pairF U Z) (List.range L.length) [0, 0] B).2 → Q (.ref o) H'
/-- the properties letters and table -/
structure TPr (K : Frag) (C : Addr) (pL gL pT gT : Addr) : Prop where
  l : PropOf K C "letters" pL gL
  t : PropOf K C "table" pT gT
section
variable {P : Program} {w : World} {K : PySem.W.Frag} {mg : Str → Option Value} {base : Heap} {C cD : Addr}
theorem scNB : FnScope ["box"] ["box"] (defScope sNeedBox) := ⟨rfl, rfl, rfl, by decide +kernel, rfl, by decide +kernel, by decide +kernel⟩
theorem ok_needbox {f : Addr} {fd : FuncData} (F : Fun K "need_box" "need_box" sNeedBox f fd) (T : TN mg) (M : TBx K mg C cD) (Y : TBy K C) : FnOk P w K mg base CX0 1 f fd ["box"] (spNeedBox C) := by
  refine F.ok scNB (fun vs H Q E h => ?_) (fun cdv A outer s H vs Q E hr h => ?_)
  · obtain ⟨o, L, tb, rfl, _⟩ := h
    rfl
  · obtain ⟨o, L, tb, rfl, ⟨dx, r, h1, rows⟩, q⟩ := h
    refine ⟨_, pss_one (ps_if (pt_not (pt_val (pe_callB call_isi (by rfl) T.isi (by decide +kernel) (pa_cons (pv 0) (pa_cons (pe_glob rfl M.gC (show RelV (.ref C) (.ref C) from rfl)) pa_nil))))) (pss_one ps_never) pss_nil), ?_⟩
    exact ⟨_, rfl, _, _, _, _, true, rfl, .own C, .base (.ins h1 M.cl Y.is.ca Y.is.cn Y.is.ct Y.is.cm), Y.kC, _, rfl, q⟩
theorem scSm : FnScope ["one", "other"] ["one", "other"] (defScope sSame) := ⟨rfl, rfl, rfl, by decide +kernel, rfl, by decide +kernel, by decide +kernel⟩
theorem ok_same {f : Addr} {fd : FuncData} (F : Fun K "need_same_letters" "need_same_letters" sSame f fd) : FnOk P w K mg base CX0 1 f fd ["one", "other"] spSame := by
  refine F.ok scSm (fun vs H Q E h => ?_) (fun cdv A outer s H vs Q E hr h => ?_)
  · obtain ⟨L, rfl, _⟩ := h
    rfl
  · obtain ⟨L, rfl, q⟩ := h
    refine ⟨_, pss_one (ps_if (pt_cmpR op_ne (pv 0) (pv 1) (nomark _)) (pss_one ps_never) pss_nil), ?_⟩
    refine ⟨_, rfl, _, rfl, rfl, _, rfl, ?_⟩
    rw [decide_eq_true rfl]
    exact q
theorem scBA : FnScope ["self", "other"] ["self", "other"] (defScope sBAnd) := ⟨rfl, rfl, rfl, by decide +kernel, rfl, by decide +kernel, by decide +kernel⟩
theorem ok_band {f fNB fS fP fB fD pL gL pT gT : Addr} {fd dNB dS dP dB dD dL dT : FuncData} (F : Fun K "__and__" "Box.__and__" sBAnd f fd) (M : TBx K mg C cD) (R : TPr K C pL gL pT gT) (AN : Fn K mg "need_box" sNeedBox ["box"] fNB dNB) (GN : FnOk P w K mg base CX0 1 fNB dNB ["box"] (spNeedBox C))
    (AS : Fn K mg "need_same_letters" sSame ["one", "other"] fS dS) (GS : FnOk P w K mg base CX0 1 fS dS ["one", "other"] spSame) (gP : mg "paired" = some (.ref fP)) (kP : PySem.W.keepIn K (.ref fP) = true) (GP : FnOk P w K mg base CX0 1 fP dP ["one", "other", "start", "most"] (spPaired K)) (bP : Binds K dP ["one", "other", "start", "most"] [])
    (GL : FnOk P w K mg base CX0 1 gL dL ["self"] (getSp C "_letters")) (bL : Binds K dL ["self"] []) (GT : FnOk P w K mg base CX0 1 gT dT ["self"] (getSp C "_table")) (bT : Binds K dT ["self"] [])
    (MI : Mk K C fB) (GI : FnOk P w K mg base CX0 3 fB dB ["self", "letters", "table"] (spBoxI C cD)) (bI : Binds K dB ["self", "letters", "table"] []) (MD : Mk K cD fD) (GD : FnOk P w K mg base CX0 1 fD dD ["self", "rows"] (spMadeI cD)) (bD : Binds K dD ["self", "rows"] []) :
    FnOk P w K mg base CX0 5 f fd ["self", "other"] (spBAnd C) := by
  obtain ⟨tm, most⟩ := M.most
  refine F.ok scBA (fun vs H Q E h => ?_) (fun cdv A outer s H vs Q E hr h => ?_)
  · obtain ⟨a, b, L, U, Z, n, m, B, rfl, _⟩ := h
    rfl
  · obtain ⟨a, b, L, U, Z, n, m, B, rfl, ⟨dx, r, h1, ro1⟩, ⟨dx', r', g1, ro2⟩, hL, okA, okB, n1, m1, n2, m2, hB, hB4, q⟩ := h
    have hr1 : Room 1 _ := hr.mono (by decide)
    have hr2 : Room 2 _ := hr.mono (by decide)
    refine ⟨_, pss_cons (ps_expr (pe_call GN hr1 rfl AN.g AN.F.kp AN.b .nil pass0 (pa_cons (pv 1) pa_nil)))
      (pss_cons (ps_expr (pe_call GS hr1 rfl AS.g AS.F.kp AS.b .nil pass0 (pa_cons (pe_fld (pv 0) rfl) (pa_cons (pe_prop (E := E0) (pv 1) M.cl R.l GL hr2 bL .nil pass0 rfl) pa_nil))))
      (pss_one (ps_ret (pe_make (E := E0) MI GI hr rfl M.gC bI .nil pass0 (pa_cons (pe_fld (pv 0) rfl) (pa_cons (pe_make (E := E0) MD GD hr2 rfl M.gD bD .nil pass0 (pa_cons (pe_ix ix_tup
        (pe_call (E := E0) GP hr1 rfl gP kP bP .nil pass0 (pa_cons (pe_fld (pv 0) rfl) (pa_cons (pe_prop (E := E0) (pv 1) M.cl R.t GT hr2 bT .nil pass0 rfl) (pa_cons (pe_tup (pa_cons pe_int (pa_cons pe_int pa_nil))) (pa_cons (pe_glob rfl most (show RelV (.int 400) (.int 400 tm) from ⟨tm, rfl⟩)) pa_nil))))) pe_int (fun _ _ => rfl)) pa_nil)) pa_nil)))))), ?_⟩
    refine ⟨_, rfl, b, L, Z, rfl, ⟨dx', r', g1, ro2⟩, ?_⟩
    refine ⟨_, rfl, a, C, dx, _, _, rfl, h1, M.cl, M.nL, bfl_L, _, rfl, b, dx', _, rfl, g1, b, dx', _, _, rfl, g1, bfl_L, L, rfl, ?_⟩
    refine ⟨_, rfl, a, C, dx, _, _, rfl, h1, M.cl, M.nL, bfl_L, _, rfl, a, C, dx, _, _, rfl, h1, M.cl, M.nT, bfl_T, _, rfl, b, dx', _, rfl, g1, b, dx', _, _, rfl, g1, bfl_T, by show 2 ≤ sizeLine; decide, fun p0 hp0 => ?_⟩
    have s1 := same_upd (o := .tup [.int 0, .int 0]) hp0
    have a1 : upd H p0 (.tup [.int 0, .int 0]) p0 = some (.tup [.int 0, .int 0]) := upd_same
    refine ⟨r, r', p0, U, Z, L.length, n, m, B, rfl, (rows_tt ro1).same s1, (rows_tt ro2).same s1, okA, okB, n1, m1, n2, m2, hL.few, a1, hB, hB4, fun t k v H1 s2 ht rows1 => ?_⟩
    have s12 := s1.trans s2
    refine ⟨t, _, _, _, rfl, rfl, SqT.of ht, rfl, ?_⟩
    intro x dx2 hx hdx ne
    refine ⟨x, dx2, _, rfl, upd_same, rfl, ?_⟩
    have s3 : Same H1 (upd (upd (upd H1 dx2 (.own x)) x (.ins cD dx2 [])) x (.ins cD dx2 [("rows", .ref v)])) := fun b o z => by rw [upd_ne (ne_of_none z hx), upd_ne (ne_of_none z hx), upd_ne (ne_of_none z hdx)]; exact z
    have mk : MadeAt cD (upd (upd (upd H1 dx2 (.own x)) x (.ins cD dx2 [])) x (.ins cD dx2 [("rows", .ref v)])) x (exAll (pairF U Z) (List.range L.length) [0, 0] B).2 := ⟨dx2, v, upd_same, rows1.keep (Same.tup' s3)⟩
    exact box_madeS hL (s12.trans s3) mk q
end
end WK

set_option Elab.async false
set_option linter.all false
set_option maxRecDepth 100000
set_option maxHeartbeats 8000000
/-! The law's own numbers, and what it sees. -/
namespace WK
open PySem L2 PyProof.Rows LCX K1 FV DP
open TX (sg sigs)
open PySem.W (Frag kitOne)
abbrev sLSeen : Stmt := top 60
abbrev sLMade : Stmt := top 61
abbrev sLTot : Stmt := top 62
abbrev sLPow : Stmt := top 63
def wayS : Nat → Str
  | 0 => "window"
  | 1 => "heads"
  | 2 => "pieces"
  | 3 => "caps"
  | 4 => "rests"
  | _ => "clerk"
theorem way_ne : ∀ i < 6, ∀ j < 6, wayS i = wayS j → i = j := by decide +kernel
theorem way_is {i j : Nat} (hi : i < 6) (hj : j < 6) : decide (V.str (wayS i) = V.str (wayS j)) = decide (i = j) := decide_eq_decide.mpr ⟨fun e => way_ne i hi j hj (V.str.inj e), fun e => by rw [e]⟩
/-- what is seen of a word -/
inductive Seen where
  | txt (u : W)
  | wrds (l : List W)
  | nums (l : List Int)
  deriving DecidableEq
def SeenAt (H : Hp) (v : V) : Seen → Prop
  | .txt u => v = .str (tx u)
  | .wrds l => ∃ a, v = .ref a ∧ H a = some (.lst (l.map txV))
  | .nums l => ∃ a, v = .ref a ∧ H a = some (.lst (l.map V.int))
theorem SeenAt.same {H H' : Hp} {v : V} {d : Seen} (h : SeenAt H v d) (s : Same H H') : SeenAt H' v d := by
  cases d with
  | txt u => exact h
  | wrds l => exact let ⟨a, e, z⟩ := h; ⟨a, e, s _ _ z⟩
  | nums l => exact let ⟨a, e, z⟩ := h; ⟨a, e, s _ _ z⟩
def capN (wy one : Nat) : Nat := if wy = 4 then 0 else one
def modN (wy one two : Nat) : Nat := if wy = 3 then 1 else if wy = 4 then one else two
def seenW (L : W) (wy one two : Nat) (u : W) : Seen :=
  if wy = 0 then .txt (u.drop (u.length - one)) else if wy = 1 then .txt (u.take one) else if wy = 2 then .wrds ((allW L one).filter fun p => isP p u)
  else .nums (L.map fun c => gN (capN wy one) (modN wy one two) (u.count c))
def spLSeen : Sp := fun vs H Q _ => ∃ (L u : W) (wy one two : Nat), vs = [.str (tx L), .str (wayS wy), .int (one : Int), .int (two : Int), .str (tx u)] ∧ L.length ≤ 3 ∧ u.length ≤ 60 ∧ wy < 6 ∧ one ≤ 3 ∧ (wy = 4 → 1 ≤ one) ∧ 1 ≤ two ∧ two ≤ 3 ∧ ∀ v H', Same H H' → SeenAt H' v (seenW L wy one two u) → Q v H'
theorem capMul {a b : Int} (h0 : 0 ≤ a) (h1 : a ≤ 100000) (h2 : 0 ≤ b) (h3 : b ≤ 100000) : CMul a b := .inl ⟨by omega, by omega⟩
def spLPow : Sp := fun vs H Q _ => ∃ b t : Nat, vs = [.int (b : Int), .int (t : Int)] ∧ b ≤ 10 ∧ t ≤ 3 ∧ Q (.int ((b ^ t : Nat) : Int)) H
def baseW (wy one two : Nat) : Nat := if wy = 3 then one + 1 else if wy = 4 then one else one + two
def totV (k wy one two : Nat) : V := if wy ≤ 1 then .int ((tot k one : Nat) : Int) else if wy = 2 then .non else .int ((baseW wy one two ^ k : Nat) : Int)
def spLTot : Sp := fun vs H Q _ => ∃ (L : W) (wy one two : Nat), vs = [.str (tx L), .str (wayS wy), .int (one : Int), .int (two : Int)] ∧ L.length ≤ 3 ∧ wy < 6 ∧ one ≤ 3 ∧ two ≤ 3 ∧ ∀ H', Same H H' → Q (totV L.length wy one two) H'
theorem pow_few {b t : Nat} (hb : b ≤ 10) : ∀ t ≤ 3, b ^ t ≤ 1000 := fun t ht => by
  have h1 : b ^ t ≤ 10 ^ t := Nat.pow_le_pow_left hb t
  have h2 : (10 : Nat) ^ t ≤ 10 ^ 3 := Nat.pow_le_pow_right (by decide) ht
  exact Nat.le_trans h1 h2
theorem way_in : ∀ i < 6, inV (V.str (wayS i)) [V.str "window", V.str "heads"] = decide (i ≤ 1) := by decide +kernel
def totS (k : Nat) : Nat → Nat
  | 0 => 0
  | n + 1 => totS k n + k ^ n
theorem tot_S (k : Nat) : ∀ n, tot k n = totS k (n + 1)
  | 0 => by
    show 1 = 0 + k ^ 0
    rw [Nat.pow_zero]
  | n + 1 => by
    show tot k n + k ^ (n + 1) = totS k (n + 1) + k ^ (n + 1)
    rw [tot_S k n]
section
variable {P : Program} {w : World} {K : PySem.W.Frag} {mg : Str → Option Value} {base : Heap}
theorem scLPw : FnScope ["_law_base", "_law_times", "_law_found", "_law_turn"] ["_law_base", "_law_times"] (defScope sLPow) := ⟨rfl, rfl, rfl, by decide +kernel, rfl, by decide +kernel, by decide +kernel⟩
theorem ok_lpow {f : Addr} {fd : FuncData} (F : Fun K "_law_power" "_law_power" sLPow f fd) (T : TN mg) : FnOk P w K mg base CX0 1 f fd ["_law_base", "_law_times"] spLPow := by
  refine F.ok scLPw (fun vs H Q E h => ?_) (fun cdv A outer s H vs Q E hr h => ?_)
  · obtain ⟨b, t, rfl, _⟩ := h
    rfl
  · obtain ⟨b, t, rfl, hb, ht, q⟩ := h
    refine ⟨_, pss_cons (ps_set (i := 2) scLPw.nd rfl (Or.inl rfl) pe_int)
      (pss_cons (ps_for PassesOwn.never rfl (pi_range1 rfl T.rng (pa_cons (pv 1) pa_nil)) (pg_name (i := 3) scLPw.nd rfl (Or.inl rfl))
        (pss_one (ps_set (i := 2) scLPw.nd rfl (Or.inl rfl) (pe_op op_mul (pv 2) (pv 0)))))
      (pss_one (ps_ret (pv 2)))), ?_⟩
    refine ⟨_, rfl, (t : Int), rfl, by omega, by omega, ?_⟩
    refine for_range (lo := 0) (n := t) (fun k σ H1 => H1 = H ∧ ∃ x3, σ = [some (.int (b : Int)), some (.int (t : Int)), some (.int ((b ^ k : Nat) : Int)), x3]) ⟨rfl, none, rfl⟩ ?_ ?_
    · rintro k σ H1 hk ⟨rfl, x3, rfl⟩
      have hp := pow_few (t := k) hb k (by omega)
      refine ⟨_, rfl, _, rfl, _, _, rfl, rfl, capMul (by omega) (by omega) (by omega) (by omega), rfl, some (.int (0 + (k : Int))), ?_⟩
      show [_, _, some (V.int (((b ^ k : Nat) : Int) * (b : Int))), _] = _
      rw [← Int.natCast_mul, ← Nat.pow_succ]
    · rintro σ H1 ⟨rfl, x3, rfl⟩
      exact ⟨_, rfl, q⟩
abbrev NTo : List Str := ["_law_letters_here", "_law_way", "_law_one", "_law_two", "_law_total_here", "_law_size", "_law_base"]
theorem scLTo : FnScope NTo ["_law_letters_here", "_law_way", "_law_one", "_law_two"] (defScope sLTot) := ⟨rfl, rfl, rfl, by decide +kernel, rfl, by decide +kernel, by decide +kernel⟩
theorem ok_ltot {f fP : Addr} {fd dP : FuncData} (F : Fun K "_law_total" "_law_total" sLTot f fd) (T : TN mg) (AP : Fn K mg "_law_power" sLPow ["_law_base", "_law_times"] fP dP) (GP : FnOk P w K mg base CX0 1 fP dP ["_law_base", "_law_times"] spLPow) :
    FnOk P w K mg base CX0 2 f fd ["_law_letters_here", "_law_way", "_law_one", "_law_two"] spLTot := by
  refine F.ok scLTo (fun vs H Q E h => ?_) (fun cdv A outer s H vs Q E hr h => ?_)
  · obtain ⟨L, wy, one, two, rfl, _⟩ := h
    rfl
  · obtain ⟨L, wy, one, two, rfl, hL, hw, h1, h2, q⟩ := h
    refine ⟨_, pss_cons (ps_if (pt_cmpR op_in_seq (pv 1) (pe_lst (pa_cons pe_str (pa_cons pe_str pa_nil))) (by rfl))
        (pss_cons (ps_set (i := 4) scLTo.nd rfl (Or.inl rfl) pe_int)
        (pss_cons (ps_for PassesOwn.never rfl (pi_range1 rfl T.rng (pa_cons (pe_op op_add (pv 2) pe_int) pa_nil)) (pg_name (i := 5) scLTo.nd rfl (Or.inl rfl))
          (pss_one (ps_set (i := 4) scLTo.nd rfl (Or.inl rfl) (pe_op op_add (pv 4) (pe_call GP hr rfl AP.g AP.F.kp AP.b .nil pass0 (pa_cons (pe_callB call_len_str (by rfl) T.len PySem.boot_len (pa_cons (pv 0) pa_nil)) (pa_cons (pv 5) pa_nil)))))))
        (pss_one (ps_ret (pv 4))))) pss_nil)
      (pss_cons (ps_if (pt_cmpR op_eq (pv 1) pe_str (nomark _)) (pss_one (ps_ret pe_non)) pss_nil)
      (pss_cons (ps_set (i := 6) scLTo.nd rfl (Or.inl rfl) (pe_ifExp (pt_cmpR op_eq (pv 1) pe_str (nomark _)) (pe_op op_add (pv 2) pe_int) (pe_ifExp (pt_cmpR op_eq (pv 1) pe_str (nomark _)) (pv 2) (pe_op op_add (pv 2) (pv 3)))))
      (pss_one (ps_ret (pe_call GP hr rfl AP.g AP.F.kp AP.b .nil pass0 (pa_cons (pv 6) (pa_cons (pe_callB call_len_str (by rfl) T.len PySem.boot_len (pa_cons (pv 0) pa_nil)) pa_nil))))))), ?_⟩
    have hz : (tx L).length ≤ sizeLine := by rw [tx_len, sizeLine_eq]; omega
    refine ⟨_, rfl, by show 2 ≤ sizeLine; decide, fun l hl => ?_⟩
    have s1 := same_upd (o := .lst [V.str "window", V.str "heads"]) hl
    have a1 : upd H l (.lst [V.str "window", V.str "heads"]) l = some (.lst [V.str "window", V.str "heads"]) := upd_same
    show rIn K false (V.str (wayS wy)) (V.ref l) (upd H l (.lst [V.str "window", V.str "heads"])) _
    generalize upd H l (.lst [V.str "window", V.str "heads"]) = H1 at s1 a1 ⊢
    refine ⟨l, _, rfl, .inl (SqL.of a1), rfl, rfl, _, rfl, ?_⟩
    show (if inV (V.str (wayS wy)) [V.str "window", V.str "heads"] = true then _ else _)
    rw [way_in wy hw]
    by_cases hw1 : wy ≤ 1
    · rw [if_pos (decide_eq_true hw1)]
      have q := q H1 s1
      unfold totV at q
      rw [if_pos hw1] at q
      refine ⟨_, rfl, _, _, rfl, rfl, _, rfl, by omega, by omega, ?_⟩
      have e2 : (one : Int) + 1 = ((one + 1 : Nat) : Int) := by omega
      rw [e2]
      refine for_range (lo := 0) (n := one + 1) (fun j σ H2 => H2 = H1 ∧ ∃ x5, σ = [some (.str (tx L)), some (.str (wayS wy)), some (.int (one : Int)), some (.int (two : Int)), some (.int ((totS L.length j : Nat) : Int)), x5, none]) ⟨rfl, none, rfl⟩ ?_ ?_
      · rintro j σ H2 hj ⟨rfl, x5, rfl⟩
        refine ⟨_, rfl, _, rfl, _, rfl, hz, _, rfl, ?_⟩
        rw [tx_len, Int.zero_add]
        refine ⟨L.length, j, rfl, by omega, by omega, _, _, rfl, rfl, rfl, some (.int (j : Int)), ?_⟩
        show [_, _, _, _, some (V.int (((totS L.length j : Nat) : Int) + ((L.length ^ j : Nat) : Int))), _, _] = _
        rw [← Int.natCast_add] <;> rfl
      · rintro σ H2 ⟨rfl, x5, rfl⟩
        rw [tot_S] at q
        exact ⟨_, rfl, q⟩
    · rw [if_neg (by simp [hw1])]
      have q := q H1 s1
      unfold totV at q
      rw [if_neg hw1] at q
      refine ⟨_, rfl, rfl, _, rfl, ?_⟩
      show (if decide (V.str (wayS wy) = V.str (wayS 2)) = true then _ else _)
      rw [way_is hw (by decide)]
      by_cases hw2 : wy = 2
      · rw [if_pos hw2] at q
        rw [if_pos (decide_eq_true hw2)]
        exact q
      · rw [if_neg hw2] at q
        rw [if_neg (by simp [hw2])]
        refine ⟨_, rfl, rfl, _, rfl, ?_⟩
        show (if decide (V.str (wayS wy) = V.str (wayS 3)) = true then _ else _)
        rw [way_is hw (by decide)]
        have fin : ∀ b : Nat, b = baseW wy one two → spLPow [.int (b : Int), .int (L.length : Nat)] H1 Q E0 := fun b e => by
          refine ⟨b, L.length, rfl, ?_, hL, by rw [e]; exact q⟩
          rw [e]
          unfold baseW
          split <;> (try split) <;> omega
        by_cases hw3 : wy = 3
        · rw [if_pos (decide_eq_true hw3)]
          refine ⟨_, rfl, _, _, rfl, rfl, _, rfl, _, rfl, _, rfl, hz, ?_⟩
          rw [tx_len]
          exact fin (one + 1) (by unfold baseW; rw [if_pos hw3])
        · rw [if_neg (by simp [hw3])]
          refine ⟨_, rfl, rfl, _, rfl, ?_⟩
          show (if decide (V.str (wayS wy) = V.str (wayS 4)) = true then _ else _)
          rw [way_is hw (by decide)]
          by_cases hw4 : wy = 4
          · rw [if_pos (decide_eq_true hw4)]
            refine ⟨_, rfl, _, rfl, _, rfl, _, rfl, hz, ?_⟩
            rw [tx_len]
            exact fin one (by unfold baseW; rw [if_neg hw3, if_pos hw4])
          · rw [if_neg (by simp [hw4])]
            refine ⟨_, rfl, _, rfl, _, _, rfl, rfl, _, rfl, _, rfl, _, rfl, hz, ?_⟩
            rw [tx_len]
            exact fin (one + two) (by unfold baseW; rw [if_neg hw3, if_neg hw4])
abbrev NSe : List Str := ["_law_letters_here", "_law_way", "_law_one", "_law_two", "_law_word_here", "_law_cap", "_law_modulus", "_law_found", "_law_count"]
theorem scLSe : FnScope NSe ["_law_letters_here", "_law_way", "_law_one", "_law_two", "_law_word_here"] (defScope sLSeen) := ⟨rfl, rfl, rfl, by decide +kernel, rfl, by decide +kernel, by decide +kernel⟩
theorem ok_lseen {f fP fC : Addr} {fd dP dC : FuncData} (F : Fun K "_law_seen" "_law_seen" sLSeen f fd) (T : TN mg) (AP : Fn K mg "_law_pieces" sLPieces ["_law_letters_here", "_law_word_here", "_law_most"] fP dP) (GP : FnOk P w K mg base CX0 2 fP dP ["_law_letters_here", "_law_word_here", "_law_most"] spLPieces)
    (AC : Fn K mg "_law_counts" sLCounts ["_law_letters_here", "_law_word_here"] fC dC) (GC : FnOk P w K mg base CX0 1 fC dC ["_law_letters_here", "_law_word_here"] spLCounts) :
    FnOk P w K mg base CX0 3 f fd ["_law_letters_here", "_law_way", "_law_one", "_law_two", "_law_word_here"] spLSeen := by
  refine F.ok scLSe (fun vs H Q E h => ?_) (fun cdv A outer s H vs Q E hr h => ?_)
  · obtain ⟨L, u, wy, one, two, rfl, _⟩ := h
    rfl
  · obtain ⟨L, u, wy, one, two, rfl, hL, hu, hw, h1, h4, t1, t3, q⟩ := h
    have hr1 : Room 1 _ := hr.mono (by decide)
    refine ⟨_, pss_cons (ps_if (pt_cmpR op_eq (pv 1) pe_str (nomark _)) (pss_one (ps_ret (pe_slice sl_str (pv 4) (po_some (pe_callB (call_max2 rfl) (by rfl) T.max (by decide +kernel) (pa_cons pe_int (pa_cons (pe_op op_sub (pe_callB call_len_str (by rfl) T.len PySem.boot_len (pa_cons (pv 4) pa_nil)) (pv 2)) pa_nil)))) po_none))) pss_nil)
      (pss_cons (ps_if (pt_cmpR op_eq (pv 1) pe_str (nomark _)) (pss_one (ps_ret (pe_slice sl_str (pv 4) po_none (po_some (pv 2))))) pss_nil)
      (pss_cons (ps_if (pt_cmpR op_eq (pv 1) pe_str (nomark _)) (pss_one (ps_ret (pe_call GP hr rfl AP.g AP.F.kp AP.b .nil pass0 (pa_cons (pv 0) (pa_cons (pv 4) (pa_cons (pv 2) pa_nil)))))) pss_nil)
      (pss_cons (ps_par (i := 5) (j := 6) (by rfl) scLSe.nd rfl rfl (by decide) rfl rfl (pa_cons (pv 2) (pa_cons (pv 3) pa_nil)) (by rfl))
      (pss_cons (ps_if (pt_cmpR op_eq (pv 1) pe_str (nomark _)) (pss_one (ps_set (i := 6) scLSe.nd rfl (Or.inl rfl) pe_int)) pss_nil)
      (pss_cons (ps_if (pt_cmpR op_eq (pv 1) pe_str (nomark _)) (pss_one (ps_par (i := 5) (j := 6) (by rfl) scLSe.nd rfl rfl (by decide) rfl rfl (pa_cons pe_int (pa_cons (pv 2) pa_nil)) (by rfl))) pss_nil)
      (pss_cons (ps_set (i := 7) scLSe.nd rfl (Or.inl rfl) (pe_lst pa_nil))
      (pss_cons (ps_for PassesOwn.never rfl (pi_list (pe_call GC hr1 rfl AC.g AC.F.kp AC.b .nil pass0 (pa_cons (pv 0) (pa_cons (pv 4) pa_nil)))) (pg_name (i := 8) scLSe.nd rfl (Or.inl rfl))
        (pss_one (ps_expr (pe_bm PySem.F.plainAttrs_list PySem.F.slot_list_append PySem.F.type_list_append mt_append (pv 7) (pa_cons (pe_ifExp (pt_cmpR op_lt (pv 8) (pv 5) (nomark _)) (pv 8) (pe_op op_add (pv 5) (pe_op op_mod (pe_callTy call_int1 (by rfl) T.int (by decide +kernel) (pa_cons (pe_op op_sub (pv 8) (pv 5)) pa_nil)) (pv 6)))) pa_nil)))))
      (pss_one (ps_ret (pv 7)))))))))), ?_⟩
    have hz : (tx u).length ≤ sizeLine := by rw [tx_len, sizeLine_eq]; omega
    refine ⟨_, rfl, rfl, _, rfl, ?_⟩
    show (if decide (V.str (wayS wy) = V.str (wayS 0)) = true then _ else _)
    rw [way_is hw (by decide)]
    unfold seenW at q
    by_cases w0 : wy = 0
    · rw [if_pos w0] at q
      rw [if_pos (decide_eq_true w0)]
      refine ⟨_, rfl, _, rfl, _, rfl, hz, _, rfl, _, _, rfl, rfl, _, _, rfl, _, rfl, tx u, rfl, hz, ?_⟩
      rw [tx_len]
      have e : (if ((u.length : Int) - (one : Int)) > 0 then ((u.length : Int) - (one : Int)) else 0) = ((u.length - one : Nat) : Int) := by
        split <;> omega
      rw [e, cut_from]
      exact q _ _ (Same.refl H) rfl
    rw [if_neg w0] at q
    rw [if_neg (by simp [w0])]
    refine ⟨_, rfl, rfl, _, rfl, ?_⟩
    show (if decide (V.str (wayS wy) = V.str (wayS 1)) = true then _ else _)
    rw [way_is hw (by decide)]
    by_cases w1 : wy = 1
    · rw [if_pos w1] at q
      rw [if_pos (decide_eq_true w1)]
      refine ⟨_, rfl, _, rfl, _, rfl, tx u, rfl, hz, ?_⟩
      rw [cut_to]
      exact q _ _ (Same.refl H) rfl
    rw [if_neg w1] at q
    rw [if_neg (by simp [w1])]
    refine ⟨_, rfl, rfl, _, rfl, ?_⟩
    show (if decide (V.str (wayS wy) = V.str (wayS 2)) = true then _ else _)
    rw [way_is hw (by decide)]
    by_cases w2 : wy = 2
    · rw [if_pos w2] at q
      rw [if_pos (decide_eq_true w2)]
      exact ⟨_, rfl, _, rfl, _, rfl, L, u, one, rfl, hL, by omega, by omega, fun t H' _ s1 ht => q _ _ s1 ⟨t, rfl, ht⟩⟩
    rw [if_neg w2] at q
    rw [if_neg (by simp [w2])]
    refine ⟨_, rfl, _, rfl, _, _, rfl, ?_⟩
    refine ⟨_, rfl, rfl, _, rfl, ?_⟩
    show (if decide (V.str (wayS wy) = V.str (wayS 3)) = true then _ else _)
    rw [way_is hw (by decide)]
    by_cases w3 : wy = 3
    · have e1 : capN wy one = one := by unfold capN; rw [if_neg (by omega)]
      have e2 : modN wy one two = 1 := by unfold modN; rw [if_pos w3]
      rw [e1, e2] at q
      rw [if_pos (decide_eq_true w3)]
      refine ⟨_, rfl, rfl, _, rfl, ?_⟩
      show (if decide (V.str (wayS wy) = V.str (wayS 4)) = true then _ else _)
      rw [way_is hw (by decide), if_neg (by simp [show ¬ wy = 4 by omega])]
      refine ⟨by show 0 ≤ sizeLine; decide, fun fo hfo => ?_⟩
      refine ⟨_, rfl, _, rfl, L, u, rfl, hL, by omega, fun ct H2 nct s2 hct => ?_⟩
      have nf : fo ≠ ct := fun z => by rw [z, upd_same] at nct; cases nct
      refine ⟨ct, rfl, ⟨_, SqL.of hct⟩, ?_⟩
      refine for_it walk_list (fun i σ H3 => ∃ x8, Same H H3 ∧ H3 ct = some (.lst (L.map fun c => .int (u.count c : Int))) ∧ H3 fo = some (.lst (((L.take i).map fun c => gN one 1 (u.count c)).map V.int)) ∧ σ = [some (.str (tx L)), some (.str (wayS wy)), some (.int (one : Int)), some (.int (two : Int)), some (.str (tx u)), some (.int (one : Int)), some (.int 1), some (.ref fo), x8])
        ⟨none, (same_upd hfo).trans s2, hct, s2 _ _ upd_same, rfl⟩ (fun i σ H3 _ ⟨_, _, h, _⟩ => SqL.of h) ?_ ?_
      · rintro i x σ H3 H4 hi ⟨x8, s3, hc3, hf3, rfl⟩ ⟨rfl, hx⟩
        rw [List.length_map] at hi
        have hx2 : x = .int (u.count L[i] : Int) := by
          rw [List.getElem?_map, List.getElem?_eq_getElem hi] at hx
          exact (Option.some.inj hx).symm
        subst hx2
        have done : ∀ y, y = V.int (gN one 1 (u.count L[i])) → ∃ (l : Addr) (xs : List V) (z : V), V.ref fo = .ref l ∧ [y] = [z] ∧ H4 l = some (.lst xs) ∧ xs.length < sizeLine ∧ ∃ x8, Same H (upd H4 l (.lst (xs ++ [z]))) ∧ (upd H4 l (.lst (xs ++ [z]))) ct = some (.lst (L.map fun c => .int (u.count c : Int))) ∧ (upd H4 l (.lst (xs ++ [z]))) fo = some (.lst (((L.take (i + 1)).map fun c => gN one 1 (u.count c)).map V.int)) ∧ [some (V.str (tx L)), some (.str (wayS wy)), some (.int (one : Int)), some (.int (two : Int)), some (.str (tx u)), some (.int (one : Int)), some (.int 1), some (.ref fo), some (.int (u.count L[i] : Int))] = [some (.str (tx L)), some (.str (wayS wy)), some (.int (one : Int)), some (.int (two : Int)), some (.str (tx u)), some (.int (one : Int)), some (.int 1), some (.ref fo), x8] := fun y e => by
          refine ⟨fo, _, _, rfl, rfl, hf3, ?_, _, same_at s3 hfo, ?_, ?_, rfl⟩
          · rw [List.length_map, List.length_map, List.length_take, sizeLine_eq]
            omega
          · rw [upd_ne (Ne.symm nf)]
            exact hc3
          · rw [upd_same, List.take_add_one, List.getElem?_eq_getElem hi, e, List.map_append, List.map_append] <;> rfl
        refine ⟨_, rfl, .inl ⟨rfl, _, SqL.of hf3⟩, _, rfl, _, rfl, _, _, rfl, rfl, ?_⟩
        by_cases hlt : ((u.count L[i] : Nat) : Int) < (one : Int)
        · refine ⟨true, congrArg V.bl (decide_eq_true hlt), ?_⟩
          refine ⟨_, rfl, done _ ?_⟩
          unfold gN
          rw [if_pos (by omega)]
        · refine ⟨false, congrArg V.bl (decide_eq_false hlt), ?_⟩
          refine ⟨_, rfl, _, rfl, _, rfl, _, _, rfl, rfl, .inl ⟨_, rfl, _, rfl, _, _, rfl, rfl, ?_, _, _, rfl, rfl, done _ ?_⟩⟩
          · show (0 : Int) < 1
            omega
          · unfold gN
            rw [if_neg (by omega)] <;> rfl
      · rintro σ H3 ⟨x8, s3, hc3, hf3, rfl⟩
        rw [List.length_map, List.take_length] at hf3
        exact ⟨_, rfl, q _ _ s3 ⟨fo, rfl, hf3⟩⟩
    rw [if_neg (by simp [w3])]
    refine ⟨_, rfl, rfl, _, rfl, ?_⟩
    show (if decide (V.str (wayS wy) = V.str (wayS 4)) = true then _ else _)
    rw [way_is hw (by decide)]
    by_cases w4 : wy = 4
    · have e1 : capN wy one = 0 := by unfold capN; rw [if_pos w4]
      have e2 : modN wy one two = one := by unfold modN; rw [if_neg w3, if_pos w4]
      rw [e1, e2] at q
      have h4 := h4 w4
      rw [if_pos (decide_eq_true w4)]
      refine ⟨_, rfl, _, _, rfl, ?_⟩
      refine ⟨by show 0 ≤ sizeLine; decide, fun fo hfo => ?_⟩
      refine ⟨_, rfl, _, rfl, L, u, rfl, hL, by omega, fun ct H2 nct s2 hct => ?_⟩
      have nf : fo ≠ ct := fun z => by rw [z, upd_same] at nct; cases nct
      refine ⟨ct, rfl, ⟨_, SqL.of hct⟩, ?_⟩
      refine for_it walk_list (fun i σ H3 => ∃ x8, Same H H3 ∧ H3 ct = some (.lst (L.map fun c => .int (u.count c : Int))) ∧ H3 fo = some (.lst (((L.take i).map fun c => gN 0 one (u.count c)).map V.int)) ∧ σ = [some (.str (tx L)), some (.str (wayS wy)), some (.int (one : Int)), some (.int (two : Int)), some (.str (tx u)), some (.int 0), some (.int (one : Int)), some (.ref fo), x8])
        ⟨none, (same_upd hfo).trans s2, hct, s2 _ _ upd_same, rfl⟩ (fun i σ H3 _ ⟨_, _, h, _⟩ => SqL.of h) ?_ ?_
      · rintro i x σ H3 H4 hi ⟨x8, s3, hc3, hf3, rfl⟩ ⟨rfl, hx⟩
        rw [List.length_map] at hi
        have hx2 : x = .int (u.count L[i] : Int) := by
          rw [List.getElem?_map, List.getElem?_eq_getElem hi] at hx
          exact (Option.some.inj hx).symm
        subst hx2
        have done : ∀ y, y = V.int (gN 0 one (u.count L[i])) → ∃ (l : Addr) (xs : List V) (z : V), V.ref fo = .ref l ∧ [y] = [z] ∧ H4 l = some (.lst xs) ∧ xs.length < sizeLine ∧ ∃ x8, Same H (upd H4 l (.lst (xs ++ [z]))) ∧ (upd H4 l (.lst (xs ++ [z]))) ct = some (.lst (L.map fun c => .int (u.count c : Int))) ∧ (upd H4 l (.lst (xs ++ [z]))) fo = some (.lst (((L.take (i + 1)).map fun c => gN 0 one (u.count c)).map V.int)) ∧ [some (V.str (tx L)), some (.str (wayS wy)), some (.int (one : Int)), some (.int (two : Int)), some (.str (tx u)), some (.int 0), some (.int (one : Int)), some (.ref fo), some (.int (u.count L[i] : Int))] = [some (.str (tx L)), some (.str (wayS wy)), some (.int (one : Int)), some (.int (two : Int)), some (.str (tx u)), some (.int 0), some (.int (one : Int)), some (.ref fo), x8] := fun y e => by
          refine ⟨fo, _, _, rfl, rfl, hf3, ?_, _, same_at s3 hfo, ?_, ?_, rfl⟩
          · rw [List.length_map, List.length_map, List.length_take, sizeLine_eq]
            omega
          · rw [upd_ne (Ne.symm nf)]
            exact hc3
          · rw [upd_same, List.take_add_one, List.getElem?_eq_getElem hi, e, List.map_append, List.map_append] <;> rfl
        refine ⟨_, rfl, .inl ⟨rfl, _, SqL.of hf3⟩, _, rfl, _, rfl, _, _, rfl, rfl, ?_⟩
        by_cases hlt : ((u.count L[i] : Nat) : Int) < 0
        · refine ⟨true, congrArg V.bl (decide_eq_true hlt), ?_⟩
          refine ⟨_, rfl, done _ ?_⟩
          unfold gN
          rw [if_pos (by omega)]
        · refine ⟨false, congrArg V.bl (decide_eq_false hlt), ?_⟩
          refine ⟨_, rfl, _, rfl, _, rfl, _, _, rfl, rfl, .inl ⟨_, rfl, _, rfl, _, _, rfl, rfl, ?_, _, _, rfl, rfl, done _ ?_⟩⟩
          · show (0 : Int) < (one : Int)
            omega
          · unfold gN
            rw [if_neg (by omega)] <;> rfl
      · rintro σ H3 ⟨x8, s3, hc3, hf3, rfl⟩
        rw [List.length_map, List.take_length] at hf3
        exact ⟨_, rfl, q _ _ s3 ⟨fo, rfl, hf3⟩⟩
    have e1 : capN wy one = one := by unfold capN; rw [if_neg w4]
    have e2 : modN wy one two = two := by unfold modN; rw [if_neg w3, if_neg w4]
    rw [e1, e2] at q
    rw [if_neg (by simp [w4])]
    refine ⟨by show 0 ≤ sizeLine; decide, fun fo hfo => ?_⟩
    refine ⟨_, rfl, _, rfl, L, u, rfl, hL, by omega, fun ct H2 nct s2 hct => ?_⟩
    have nf : fo ≠ ct := fun z => by rw [z, upd_same] at nct; cases nct
    refine ⟨ct, rfl, ⟨_, SqL.of hct⟩, ?_⟩
    refine for_it walk_list (fun i σ H3 => ∃ x8, Same H H3 ∧ H3 ct = some (.lst (L.map fun c => .int (u.count c : Int))) ∧ H3 fo = some (.lst (((L.take i).map fun c => gN one two (u.count c)).map V.int)) ∧ σ = [some (.str (tx L)), some (.str (wayS wy)), some (.int (one : Int)), some (.int (two : Int)), some (.str (tx u)), some (.int (one : Int)), some (.int (two : Int)), some (.ref fo), x8])
      ⟨none, (same_upd hfo).trans s2, hct, s2 _ _ upd_same, rfl⟩ (fun i σ H3 _ ⟨_, _, h, _⟩ => SqL.of h) ?_ ?_
    · rintro i x σ H3 H4 hi ⟨x8, s3, hc3, hf3, rfl⟩ ⟨rfl, hx⟩
      rw [List.length_map] at hi
      have hx2 : x = .int (u.count L[i] : Int) := by
        rw [List.getElem?_map, List.getElem?_eq_getElem hi] at hx
        exact (Option.some.inj hx).symm
      subst hx2
      have done : ∀ y, y = V.int (gN one two (u.count L[i])) → ∃ (l : Addr) (xs : List V) (z : V), V.ref fo = .ref l ∧ [y] = [z] ∧ H4 l = some (.lst xs) ∧ xs.length < sizeLine ∧ ∃ x8, Same H (upd H4 l (.lst (xs ++ [z]))) ∧ (upd H4 l (.lst (xs ++ [z]))) ct = some (.lst (L.map fun c => .int (u.count c : Int))) ∧ (upd H4 l (.lst (xs ++ [z]))) fo = some (.lst (((L.take (i + 1)).map fun c => gN one two (u.count c)).map V.int)) ∧ [some (V.str (tx L)), some (.str (wayS wy)), some (.int (one : Int)), some (.int (two : Int)), some (.str (tx u)), some (.int (one : Int)), some (.int (two : Int)), some (.ref fo), some (.int (u.count L[i] : Int))] = [some (.str (tx L)), some (.str (wayS wy)), some (.int (one : Int)), some (.int (two : Int)), some (.str (tx u)), some (.int (one : Int)), some (.int (two : Int)), some (.ref fo), x8] := fun y e => by
        refine ⟨fo, _, _, rfl, rfl, hf3, ?_, _, same_at s3 hfo, ?_, ?_, rfl⟩
        · rw [List.length_map, List.length_map, List.length_take, sizeLine_eq]
          omega
        · rw [upd_ne (Ne.symm nf)]
          exact hc3
        · rw [upd_same, List.take_add_one, List.getElem?_eq_getElem hi, e, List.map_append, List.map_append] <;> rfl
      refine ⟨_, rfl, .inl ⟨rfl, _, SqL.of hf3⟩, _, rfl, _, rfl, _, _, rfl, rfl, ?_⟩
      by_cases hlt : ((u.count L[i] : Nat) : Int) < (one : Int)
      · refine ⟨true, congrArg V.bl (decide_eq_true hlt), ?_⟩
        refine ⟨_, rfl, done _ ?_⟩
        unfold gN
        rw [if_pos (by omega)]
      · refine ⟨false, congrArg V.bl (decide_eq_false hlt), ?_⟩
        refine ⟨_, rfl, _, rfl, _, rfl, _, _, rfl, rfl, .inl ⟨_, rfl, _, rfl, _, _, rfl, rfl, ?_, _, _, rfl, rfl, done _ ?_⟩⟩
        · show (0 : Int) < (two : Int)
          omega
        · unfold gN
          rw [if_neg (by omega)] <;> rfl
    · rintro σ H3 ⟨x8, s3, hc3, hf3, rfl⟩
      rw [List.length_map, List.take_length] at hf3
      exact ⟨_, rfl, q _ _ s3 ⟨fo, rfl, hf3⟩⟩
end
end WK

set_option Elab.async false
set_option linter.all false
set_option maxRecDepth 100000
set_option maxHeartbeats 8000000
/-! The drawn boxes: what is known of them, and how they are made. -/
namespace WK
open PySem L2 PyProof.Rows LCX K1 FV DP LamX
open TX (sg sigs)
open PySem.W (Frag kitOne)
def tabW (L : W) (wy one two : Nat) : List (List Int) :=
  if wy = 0 then (exAll (lastF one) L [] 400).2 else if wy = 1 then (exAll (headF one) L [] 400).2 else if wy = 2 then (exAll (pieF one) L [[]] 400).2
  else (exAll (cntF L (capN wy one : Nat) (modN wy one two : Nat)) L (zeros L) 400).2
structure Cfg (L : W) (wy one two : Nat) : Prop where
  lt : Let L
  w6 : wy < 6
  win : wy ≤ 1 → (L.length, one) ∈ kn
  most : 2 ≤ wy → one ≤ 2
  rest : wy = 4 → 1 ≤ one
  t1 : 1 ≤ two
  t3 : two ≤ 3
theorem Cfg.one3 {L : W} {wy one two : Nat} (c : Cfg L wy one two) : one ≤ 3 := by
  by_cases h : wy ≤ 1
  · have := c.win h
    simp [kn] at this
    omega
  · have := c.most (by omega)
    omega
theorem of_done {α : Type} [DecidableEq α] {f : α → Nat → α} {L : W} {start : α} {N : Nat} (d : Done f L start N) (hN : N ≤ 400) : TabOk (exAll f L start 400).2 L.length (N : Int) ∧ LeanT (exAll f L start 400).2 ∧
    ∀ u v : W, (∀ c ∈ u, c ∈ L) → (∀ c ∈ v, c ∈ L) → (ledL L (exAll f L start 400).2 u 0 = ledL L (exAll f L start 400).2 v 0 ↔ u.foldl f start = v.foldl f start) := by
  rw [(d.most hN).2]
  exact ⟨d.tab, d.lean, fun u v hu hv => d.same hu hv⟩
theorem Cfg.mod {L : W} {wy one two : Nat} (c : Cfg L wy one two) (h : 2 < wy) : capN wy one ≤ 2 ∧ 1 ≤ modN wy one two ∧ modN wy one two ≤ 3 ∧ capN wy one + modN wy one two = baseW wy one two := by
  have a := c.most (by omega)
  have b := c.rest
  have c1 := c.t1
  have c3 := c.t3
  unfold capN modN baseW
  by_cases w3 : wy = 3
  · rw [if_neg (by omega), if_pos w3, if_pos w3]
    omega
  · rw [if_neg w3, if_neg w3]
    by_cases w4 : wy = 4
    · have := b w4
      rw [if_pos w4, if_pos w4, if_pos w4]
      omega
    · rw [if_neg w4, if_neg w4, if_neg w4]
      omega
/-- what the law asks of a drawn box, as mathematics -/
theorem Cfg.all {L : W} {wy one two : Nat} (c : Cfg L wy one two) : ∃ N : Nat, 1 ≤ N ∧ N ≤ 400 ∧ TabOk (tabW L wy one two) L.length (N : Int) ∧ LeanT (tabW L wy one two) ∧ (totV L.length wy one two = .non ∨ totV L.length wy one two = .int (N : Int)) ∧
    ∀ u v : W, (∀ c ∈ u, c ∈ L) → (∀ c ∈ v, c ∈ L) → (ledL L (tabW L wy one two) u 0 = ledL L (tabW L wy one two) v 0 ↔ seenW L wy one two u = seenW L wy one two v) := by
  have hk : 1 ≤ L.length ∧ L.length ≤ 3 := ⟨List.length_pos_iff.mpr c.lt.ne, c.lt.few⟩
  unfold tabW seenW totV
  by_cases w0 : wy = 0
  · have h := c.win (by omega)
    have d := done_last c.lt h
    obtain ⟨a1, a2, a3⟩ := of_done d (done_win h).2.2
    rw [if_pos w0, if_pos (show wy ≤ 1 by omega)]
    refine ⟨_, d.pos, (done_win h).2.2, a1, a2, .inr rfl, fun u v hu hv => ?_⟩
    rw [a3 u v hu hv, last_is, last_is, if_pos w0, if_pos w0]
    exact ⟨fun e => by rw [e], fun e => Seen.txt.inj e⟩
  rw [if_neg w0]
  by_cases w1 : wy = 1
  · have h := c.win (by omega)
    have d := done_head c.lt h
    obtain ⟨a1, a2, a3⟩ := of_done d (done_win h).2.2
    rw [if_pos w1, if_pos (show wy ≤ 1 by omega)]
    refine ⟨_, d.pos, (done_win h).2.2, a1, a2, .inr rfl, fun u v hu hv => ?_⟩
    rw [a3 u v hu hv, head_is, head_is, if_neg w0, if_neg w0, if_pos w1, if_pos w1]
    exact ⟨fun e => by rw [e], fun e => Seen.txt.inj e⟩
  rw [if_neg w1, if_neg (show ¬ wy ≤ 1 by omega)]
  have m2 := c.most (by omega)
  by_cases w2 : wy = 2
  · obtain ⟨d, le⟩ := done_pie c.lt m2
    obtain ⟨a1, a2, a3⟩ := of_done d le
    rw [if_pos w2, if_pos w2]
    refine ⟨_, d.pos, le, a1, a2, .inl rfl, fun u v hu hv => ?_⟩
    rw [a3 u v hu hv, pie_same hu hv, if_neg w0, if_neg w0, if_neg w1, if_neg w1, if_pos w2, if_pos w2]
    exact ⟨fun e => by rw [e], fun e => Seen.wrds.inj e⟩
  obtain ⟨b1, b2, b3, b4⟩ := c.mod (by omega)
  obtain ⟨d, le⟩ := done_cnt c.lt b1 ⟨b2, b3⟩
  obtain ⟨a1, a2, a3⟩ := of_done d le
  rw [if_neg w2, if_neg w2]
  refine ⟨_, d.pos, le, a1, a2, .inr (by rw [b4]), fun u v hu hv => ?_⟩
  rw [a3 u v hu hv, cnt_is L _ _ b2, cnt_is L _ _ b2, if_neg w0, if_neg w0, if_neg w1, if_neg w1, if_neg w2, if_neg w2]
  exact ⟨fun e => by rw [e], fun e => Seen.nums.inj e⟩
/-- a maker of boxes, as the class has it -/
def Mkr (P : Program) (w : World) (K : Frag) (mg : Str → Option Value) (base : Heap) (C : Addr) (mc : Value) (m : Str) (k : Nat) (sp : Sp) : Prop := ∃ p g, ClX.CMet K C mc m p g ∧ FnR P w K mg base CX0 k g (fun vs H Q E => sp (vs ++ []) H Q E)
structure TMkr (P : Program) (w : World) (K : Frag) (mg : Str → Option Value) (base : Heap) (C : Addr) (mc : Value) (T : List (Addr × Str)) : Prop where
  rd : ClX.CRead K C mc
  gC : mg "Box" = some (.ref C)
  win : Mkr P w K mg base C mc "window" 9 (spTxtBox T C lastF)
  head : Mkr P w K mg base C mc "heads" 9 (spTxtBox T C headF)
  pie : Mkr P w K mg base C mc "pieces" 9 (spPieBox T C)
  caps : Mkr P w K mg base C mc "caps" 7 (spCaps T C)
  rests : Mkr P w K mg base C mc "rests" 7 (spRests T C)
  clerk : Mkr P w K mg base C mc "clerk" 7 (spClerk T C)
def spLMade (T : List (Addr × Str)) (C : Addr) : Sp := fun vs H Q _ => ∃ (L : W) (wy one two : Nat), vs = [.str (tx L), .str (wayS wy), .int (one : Int), .int (two : Int)] ∧ Cfg L wy one two ∧ Tabs T H ∧ ∀ o H', H o = none → Grows T H H' → BoxAt C H' o L (tabW L wy one two) → Q (.ref o) H'
section
variable {P : Program} {w : World} {K : PySem.W.Frag} {mg : Str → Option Value} {base : Heap} {C : Addr} {mc : Value} {T : List (Addr × Str)}
theorem scLMd : FnScope ["_law_letters_here", "_law_way", "_law_one", "_law_two"] ["_law_letters_here", "_law_way", "_law_one", "_law_two"] (defScope sLMade) := ⟨rfl, rfl, rfl, by decide +kernel, rfl, by decide +kernel, by decide +kernel⟩
theorem ok_lmade {f : Addr} {fd : FuncData} (F : Fun K "_law_made" "_law_made" sLMade f fd) (M : TMkr P w K mg base C mc T) : FnOk P w K mg base CX0 10 f fd ["_law_letters_here", "_law_way", "_law_one", "_law_two"] (spLMade T C) := by
  obtain ⟨rd, gC, ⟨p1, g1, c1, f1⟩, ⟨p2, g2, c2, f2⟩, ⟨p3, g3, c3, f3⟩, ⟨p4, g4, c4, f4⟩, ⟨p5, g5, c5, f5⟩, ⟨p6, g6, c6, f6⟩⟩ := M
  refine F.ok scLMd (fun vs H Q E h => ?_) (fun cdv A outer s H vs Q E hr h => ?_)
  · obtain ⟨L, wy, one, two, rfl, _⟩ := h
    rfl
  · obtain ⟨L, wy, one, two, rfl, c, tabs, q⟩ := h
    have hr7 : Room 7 _ := hr.mono (by decide)
    refine ⟨_, pss_cons (ps_if (pt_cmpR op_eq (pv 1) pe_str (nomark _)) (pss_one (ps_ret (ClX.pe_cmeth (E := E0) (pe_glob rfl gC (show RelV (.ref C) (.ref C) from rfl)) rd c1 f1 hr pass0 (pa_cons (pv 0) (pa_cons (pv 2) pa_nil))))) pss_nil)
      (pss_cons (ps_if (pt_cmpR op_eq (pv 1) pe_str (nomark _)) (pss_one (ps_ret (ClX.pe_cmeth (E := E0) (pe_glob rfl gC (show RelV (.ref C) (.ref C) from rfl)) rd c2 f2 hr pass0 (pa_cons (pv 0) (pa_cons (pv 2) pa_nil))))) pss_nil)
      (pss_cons (ps_if (pt_cmpR op_eq (pv 1) pe_str (nomark _)) (pss_one (ps_ret (ClX.pe_cmeth (E := E0) (pe_glob rfl gC (show RelV (.ref C) (.ref C) from rfl)) rd c3 f3 hr pass0 (pa_cons (pv 0) (pa_cons (pv 2) pa_nil))))) pss_nil)
      (pss_cons (ps_if (pt_cmpR op_eq (pv 1) pe_str (nomark _)) (pss_one (ps_ret (ClX.pe_cmeth (E := E0) (pe_glob rfl gC (show RelV (.ref C) (.ref C) from rfl)) rd c4 f4 hr7 pass0 (pa_cons (pv 0) (pa_cons (pv 2) pa_nil))))) pss_nil)
      (pss_one (ps_ret (pe_ifExp (pt_cmpR op_eq (pv 1) pe_str (nomark _)) (ClX.pe_cmeth (E := E0) (pe_glob rfl gC (show RelV (.ref C) (.ref C) from rfl)) rd c5 f5 hr7 pass0 (pa_cons (pv 0) (pa_cons (pv 2) pa_nil)))
        (ClX.pe_cmeth (E := E0) (pe_glob rfl gC (show RelV (.ref C) (.ref C) from rfl)) rd c6 f6 hr7 pass0 (pa_cons (pv 0) (pa_cons (pv 2) (pa_cons (pv 3) pa_nil)))))))))), ?_⟩
    have hw := c.w6
    have o3 := c.one3
    unfold tabW at q
    refine ⟨_, rfl, rfl, _, rfl, ?_⟩
    show (if decide (V.str (wayS wy) = V.str (wayS 0)) = true then _ else _)
    rw [way_is hw (by decide)]
    by_cases w0 : wy = 0
    · have h := c.win (by omega)
      rw [if_pos w0] at q
      rw [if_pos (decide_eq_true w0)]
      exact ⟨rfl, _, rfl, _, rfl, L, one, 400, rfl, c.lt, by omega, tabs, ((done_last c.lt h).most (done_win h).2.2).1, Nat.le_refl _, q⟩
    rw [if_neg w0] at q
    rw [if_neg (by simp [w0])]
    refine ⟨_, rfl, rfl, _, rfl, ?_⟩
    show (if decide (V.str (wayS wy) = V.str (wayS 1)) = true then _ else _)
    rw [way_is hw (by decide)]
    by_cases w1 : wy = 1
    · have h := c.win (by omega)
      rw [if_pos w1] at q
      rw [if_pos (decide_eq_true w1)]
      exact ⟨rfl, _, rfl, _, rfl, L, one, 400, rfl, c.lt, by omega, tabs, ((done_head c.lt h).most (done_win h).2.2).1, Nat.le_refl _, q⟩
    rw [if_neg w1] at q
    rw [if_neg (by simp [w1])]
    refine ⟨_, rfl, rfl, _, rfl, ?_⟩
    show (if decide (V.str (wayS wy) = V.str (wayS 2)) = true then _ else _)
    rw [way_is hw (by decide)]
    have m2 := c.most (by omega)
    by_cases w2 : wy = 2
    · obtain ⟨d, le⟩ := done_pie c.lt m2
      rw [if_pos w2] at q
      rw [if_pos (decide_eq_true w2)]
      exact ⟨rfl, _, rfl, _, rfl, L, one, 400, _, rfl, c.lt, by omega, tabs, pie_ok c.lt.few m2, (d.most le).1, Nat.le_refl _, q⟩
    rw [if_neg w2] at q
    rw [if_neg (by simp [w2])]
    obtain ⟨b1, b2, b3, _⟩ := c.mod (by omega)
    obtain ⟨d, le⟩ := done_cnt c.lt b1 ⟨b2, b3⟩
    have hB := (d.most le).1
    have cnt : ∀ (cap md : Int), cap = ((capN wy one : Nat) : Int) → md = ((modN wy one two : Nat) : Int) → CntBox T C L cap md H Q := fun cap md e1 e2 => by
      rw [e1, e2]
      exact ⟨c.lt, tabs, 400, hB, Nat.le_refl _, q⟩
    refine ⟨_, rfl, rfl, _, rfl, ?_⟩
    show (if decide (V.str (wayS wy) = V.str (wayS 3)) = true then _ else _)
    rw [way_is hw (by decide)]
    by_cases w3 : wy = 3
    · rw [if_pos (decide_eq_true w3)]
      exact ⟨rfl, _, rfl, _, rfl, L, (one : Int), rfl, by omega, by omega, cnt _ _ (by unfold capN; rw [if_neg (by omega)]) (by unfold modN; rw [if_pos w3] <;> rfl)⟩
    rw [if_neg (by simp [w3])]
    refine ⟨_, rfl, rfl, _, rfl, ?_⟩
    show (if decide (V.str (wayS wy) = V.str (wayS 4)) = true then _ else _)
    rw [way_is hw (by decide)]
    by_cases w4 : wy = 4
    · have r1 := c.rest w4
      rw [if_pos (decide_eq_true w4)]
      exact ⟨rfl, _, rfl, _, rfl, L, (one : Int), rfl, by omega, by omega, cnt _ _ (by unfold capN; rw [if_pos w4] <;> rfl) (by unfold modN; rw [if_neg w3, if_pos w4])⟩
    · have t1 := c.t1
      have t3 := c.t3
      rw [if_neg (by simp [w4])]
      exact ⟨rfl, _, rfl, _, rfl, _, rfl, L, (one : Int), (two : Int), rfl, by omega, by omega, by omega, by omega, cnt _ _ (by unfold capN; rw [if_neg w4]) (by unfold modN; rw [if_neg w3, if_neg w4])⟩
end
end WK

set_option Elab.async false
set_option linter.all false
set_option maxRecDepth 100000
set_option maxHeartbeats 4000000
/-! sorted(text): its signs, each as often as it stands there. -/
namespace TX
open PySem PySem.Spec PyProof.Rows L2
theorem signs_are {x : Str} : ∀ (vs : List Value) (i : Nat), (∀ j v, vs[j]? = some v → ∃ c t, x.cps.toList[i + j]? = some c ∧ v = .str ⟨#[c]⟩ t) → i + vs.length = x.cps.toList.length → StrsAre vs ((x.cps.toList.drop i).map sg)
  | [], i, _, hl => by
    rw [List.drop_eq_nil_of_le (by have : i + 0 = _ := hl; omega)]
    exact .nil
  | v :: vs, i, h, hl => by
    obtain ⟨c, t, hc, rfl⟩ := h 0 v rfl
    obtain ⟨hi, e⟩ := List.getElem?_eq_some_iff.mp hc
    rw [List.drop_eq_getElem_cons (show i < x.cps.toList.length from hi), List.map_cons, show x.cps.toList[i] = c from e]
    exact .cons _ t (signs_are vs (i + 1) (fun j v hj => by
      obtain ⟨c2, t2, a, b⟩ := h (j + 1) v hj
      exact ⟨c2, t2, by rw [show i + 1 + j = i + (j + 1) by omega]; exact a, b⟩) (by rw [← hl, List.length_cons]; omega))
section
variable {P : Program} {w : World} {A : Around} {E : Value → Shared → Prop} {s : Shared}
theorem sorted_text {x : Str} {t : Tok} {Q : Value → Shared → Prop} (calm : A.handled = none) (h64 : x.cps.size < 64)
    (hQ : ∀ r p (out : Array Value) (c : Nat) (ss : List Str), (∀ b q, s.heap.get? b = some q → r.heap.get? b = some q) → r.gens = s.gens → r.os = s.os → s.heap.get? p = none →
      r.heap.get? p = some (seqObj "list" out c) → StrsAre out.toList ss → sortedS ss = true → ss.Perm (x.cps.toList.map sg) → Q (.ref p) r) : wpAny (model P w) A (call (.builtin "sorted") [.str x t]) Q E s := by
  refine Calls.call_function_entry kind_sorted plain_sorted entry_sorted (args_sorted1 _) (wpAny_bind (m := checkCount "sorted" 1 1 _) (wpAny_pure (wpAny_bind ?_)))
  refine wpAny_collect_str (A := A.in1) calm x t (fun r acc keep gens drawn os items => ?_) (by rw [sizeLine_eq]; omega)
  obtain ⟨many, each⟩ := items
  have grows : s.heap.get? r.heap.objs.size = none := by
    cases e : s.heap.get? r.heap.objs.size with
    | none => rfl
    | some o => exact absurd (Heap.lt_size (keep _ _ e)) (Nat.lt_irrefl _)
  have texts : StrsAre acc.toList (x.cps.toList.map sg) := by
    have := signs_are (x := x) acc.toList 0 (fun j v hj => by
      rw [Array.getElem?_toList] at hj
      obtain ⟨c, tk, a, b⟩ := each j v hj
      exact ⟨c, tk, by rw [Nat.zero_add, Array.getElem?_toList]; exact a, b⟩) (by rw [Array.length_toList, Array.length_toList, Nat.zero_add]; exact many)
    rw [List.drop_zero] at this
    exact this
  refine wpAny_bind (wpAny_newList (wpAny_bind ?_) (by rw [sizeLine_eq, Array.length_toList]; omega))
  have listAt : (r.heap.push (seqObj "list" acc.toList.toArray 0)).get? r.heap.objs.size = some (seqObj "list" acc.toList.toArray 0) := Heap.get?_push_size _ rfl
  refine wpAny_holding (wpAny_call_entry slot_list_sort ⟨_, listAt, rfl⟩ entry_list_sort (list_sort_treeK (κ := PyProof.Rows.strKind) strKind_oneLt listAt texts.keysOf (fun v₁ v₂ rest e => keyKind_strs (e ▸ texts)) (by rw [Array.length_toList]; omega) fun st done isSorted => ⟨_, rfl, wpAny_pure ⟨_, rfl, ?_⟩⟩) (args_list_sort _))
  obtain ⟨ss, are, perm3, up⟩ := sorted_out_str texts done isSorted
  obtain ⟨c, outAt⟩ := sortedHeap_at (vs := acc.toList) (out := (arrOf st).map (·.2)) listAt
  refine hQ _ r.heap.objs.size _ c ss (fun b q z => ?_) gens os grows outAt are up perm3
  have lt := Heap.lt_size (keep b q z)
  exact (sortedHeap_old (Nat.ne_of_lt lt) (by rw [size_push']; exact Nat.lt_succ_of_lt lt)).trans (Heap.get?_push_of_some _ (keep b q z))
end
/-- what is told of stands there -/
theorem obj_there {P : Program} {w : World} {H : Hp} {h : Heap} {a : Addr} {o : HO} (x : ObjOk P w H h a o) : ∃ q, h.get? a = some q := by
  cases o with
  | lst xs => exact let ⟨_, _, _, _, e⟩ := x; ⟨_, e⟩
  | tup xs => exact let ⟨_, _, _, o, e, _⟩ := x; ⟨o, e⟩
  | dK kvs => exact let ⟨_, _, _, _, o, _, _, e, _⟩ := x; ⟨o, e⟩
  | dT kvs => exact let ⟨_, _, _, _, o, _, _, e, _⟩ := x; ⟨o, e⟩
  | set S n => exact let ⟨o, _, _, _, e, _⟩ := x; ⟨o, e⟩
  | ins C dx fs => exact let ⟨_, _, _, e, _⟩ := x; ⟨_, e⟩
  | own y => exact x
  | xd fs => exact let ⟨_, ⟨o, _, _, e, _⟩, _⟩ := x; ⟨o, e⟩
  | rng lo hi => exact let ⟨_, _, _, e⟩ := x; ⟨_, e⟩
  | frz ob u => exact let ⟨e, _⟩ := x; ⟨_, e⟩
  | tbl ps => exact ⟨_, x⟩
  | met f y => exact ⟨_, x⟩
  | ext φ => exact x.2.1
section
variable {X : Cx}
/-- sorted(text) -/
def rSortTx : List V → Hp → VK → Prop := fun vs H Q => ∃ x : Str, vs = [V.str x] ∧ x.cps.size < 64 ∧ ∀ (p : Addr) (ss : List Str), H p = none → ss.Perm (x.cps.toList.map sg) → Q (.ref p) (upd H p (.lst (ss.map V.str)))
theorem cr_sortTx (hc : X.calm = true) : CallR X (.builtin "sorted") rSortTx := by
  rintro pins s σ H _ us Q I r ⟨x, rfl, hx, q⟩
  obtain ⟨u, rfl, t, rfl⟩ := r.one
  refine sorted_text (I.ok.hd hc) hx fun s' p out c ss k g o hp hg hS _ perm => ?_
  have few : ss.length ≤ sizeLine := by
    rw [perm.length_eq, List.length_map, Array.length_toList, sizeLine_eq]
    omega
  have free : H p = none := by
    cases e : H p with
    | none => rfl
    | some ob =>
      obtain ⟨oo, ho⟩ := obj_there (I.hok p _ e)
      rw [hp] at ho
      cases ho
  have J : Inv X pins σ (upd H p (.lst (ss.map V.str))) { s with heap := s'.heap, gens := s'.gens, drawn := s'.drawn, toks := s'.toks } :=
    I.call (ch := []) (Un.laidN k hp free) (I.hok.laidN k free ⟨by rw [List.length_map]; exact few, _, c, vals_strs hS, hg⟩) (g ▸ I.bare) nofun
  have same : { s with heap := s'.heap, gens := s'.gens, drawn := s'.drawn, toks := s'.toks } = s' := by
    rcases s with ⟨⟩; rcases s' with ⟨⟩; cases o; rfl
  exact same ▸ ⟨.ref p, _, J, rfl, q p ss free perm⟩
end
end TX

set_option Elab.async false
set_option linter.all false
set_option maxRecDepth 100000
set_option maxHeartbeats 8000000
/-! What is seen, as data. -/
namespace WK
open PySem L2 PyProof.Rows LCX K1 FV DP
open TX (sg sigs)
open PySem.W (Frag kitOne)
def seenD : Seen → PyData
  | .txt u => .str (tx u)
  | .wrds l => .list ((l.map tx).map PyData.str)
  | .nums l => .list (id_ l)
theorem seen_dp {K : Frag} {H : Hp} {v : V} {d : Seen} (h : SeenAt H v d) : Dp K H v (seenD d) := by
  cases d with
  | txt u =>
    obtain rfl : v = .str (tx u) := h
    exact .str _
  | wrds l =>
    obtain ⟨a, rfl, z⟩ := h
    have e : l.map txV = (l.map tx).map V.str := by rw [List.map_map] <;> rfl
    rw [e] at z
    exact .lst (SqL.of z) (dp_strs _)
  | nums l =>
    obtain ⟨a, rfl, z⟩ := h
    exact .lst (SqL.of z) (dp_int l)
theorem eqv_strs : ∀ a b : List W, PyData.eqvAll ((a.map tx).map PyData.str) ((b.map tx).map PyData.str) = decide (a = b)
  | [], [] => rfl
  | [], _ :: _ => rfl
  | _ :: _, [] => rfl
  | i :: a, j :: b => by
    show ((tx i == tx j) && PyData.eqvAll ((a.map tx).map PyData.str) ((b.map tx).map PyData.str)) = _
    rw [eqv_strs a b, show (tx i == tx j) = decide (tx i = tx j) from rfl, show decide (tx i = tx j) = decide (i = j) from decide_eq_decide.mpr ⟨tx_inj, fun e => by rw [e]⟩, ← Bool.decide_and]
    exact decide_eq_decide.mpr (List.cons.injEq .. ▸ Iff.rfl)
theorem low_sub {L u : W} (hL : Low L) (h : ∀ c ∈ u, c ∈ L) : Low u := fun c hc => hL c (h c hc)
theorem seen_shaped {L : W} (hL : Low L) {wy one two : Nat} {u : W} (hu : ∀ c ∈ u, c ∈ L) : SeqAt.shaped (seenD (seenW L wy one two u)) = true := by
  unfold seenW
  split
  · show (PyData.canLay0 (.str _) && _) = true
    rw [low_lay (low_sub hL fun c hc => hu c (List.mem_of_mem_drop hc))]
    rfl
  · split
    · show (PyData.canLay0 (.str _) && _) = true
      rw [low_lay (low_sub hL fun c hc => hu c (List.mem_of_mem_take hc))]
      rfl
    · split
      · refine (shaped_strs _ fun x hx => ?_).1
        obtain ⟨p, hp, rfl⟩ := List.mem_map.mp hx
        exact low_lay (low_sub hL ((mem_allW L one p).mp (List.mem_filter.mp hp).1).2)
      · show (PyData.canLayAll0 (id_ _) && decide (PyData.depthAll (id_ _) + 1 ≤ 64)) = true
        rw [lay_ints, dep_ints]
        rfl
theorem seen_eqv {L : W} {wy one two : Nat} {u v : W} : PyData.eqv (seenD (seenW L wy one two u)) (seenD (seenW L wy one two v)) = decide (seenW L wy one two u = seenW L wy one two v) := by
  unfold seenW
  split
  · show (tx _ == tx _) = _
    rw [show ∀ a b : W, (tx a == tx b) = decide (tx a = tx b) from fun _ _ => rfl]
    exact decide_eq_decide.mpr ⟨fun e => by rw [tx_inj e], fun e => by rw [Seen.txt.inj e]⟩
  · split
    · show (tx _ == tx _) = _
      rw [show ∀ a b : W, (tx a == tx b) = decide (tx a = tx b) from fun _ _ => rfl]
      exact decide_eq_decide.mpr ⟨fun e => by rw [tx_inj e], fun e => by rw [Seen.txt.inj e]⟩
    · split
      · show PyData.eqvAll _ _ = _
        rw [eqv_strs]
        exact decide_eq_decide.mpr ⟨fun e => by rw [e], fun e => Seen.wrds.inj e⟩
      · show PyData.eqvAll _ _ = _
        rw [eqv_ints]
        exact decide_eq_decide.mpr ⟨fun e => by rw [e], fun e => Seen.nums.inj e⟩
/-- the letters of a word in another order, joined -/
theorem join_perm {u : W} {ss : List Str} (h : ss.Perm ((tx u).cps.toList.map sg)) : ∃ us : W, us.Perm u ∧ ss = us.map sg := by
  rw [tx_list] at h
  have hm : ∀ s ∈ ss, ∃ c, s = sg c := fun s hs => by
    obtain ⟨c, _, e⟩ := List.mem_map.mp (h.mem_iff.mp hs)
    exact ⟨c, e.symm⟩
  have hs : ∃ us : W, ss = us.map sg := by
    clear h
    induction ss with
    | nil => exact ⟨[], rfl⟩
    | cons s ss ih =>
      obtain ⟨c, rfl⟩ := hm s List.mem_cons_self
      obtain ⟨us, rfl⟩ := ih fun s hs => hm s (List.mem_cons_of_mem _ hs)
      exact ⟨c :: us, rfl⟩
  obtain ⟨us, rfl⟩ := hs
  refine ⟨us, ?_, rfl⟩
  have inj : ∀ a b : Nat, sg a = sg b → a = b := fun a b e => by
    have := congrArg (fun z : Str => z.cps.toList) e
    simpa [sg] using this
  have hd : (fun s : Str => s.cps.toList.headD 0) ∘ sg = id := by
    funext c
    rfl
  have := h.map (fun s : Str => s.cps.toList.headD 0)
  rw [List.map_map, List.map_map, hd, List.map_id, List.map_id] at this
  exact this
end WK

set_option Elab.async false
set_option linter.all false
set_option maxRecDepth 100000
set_option maxHeartbeats 8000000
/-! The law's right. -/
namespace WK
open PySem L2 PyProof.Rows LCX K1 FV DP LamX
open TX (sg sigs)
open PySem.W (Frag kitOne)
abbrev sLRight : Stmt := top 64
abbrev NRt : List Str := ["_law_dice_here", "_law_letters_here", "_law_way", "_law_most", "_law_one", "_law_two", "_law_box", "_law_total_here", "_law_turn", "_law_left", "_law_some", "_law_right_here", "_law_alike"]
def ButT (p : Addr) (H H' : Hp) : Prop := ∀ b o, H b = some o → b ≠ p → (∀ ps, o ≠ .tbl ps) → H' b = some o
theorem BoxAt.but {C : Addr} {H H' : Hp} {o p : Addr} {L : W} {tb : List (List Int)} (h : BoxAt C H o L tb) (hD : DiceAt H p) (b : But p H H') : BoxAt C H' o L tb := by
  obtain ⟨dx, r, h1, h2⟩ := h
  obtain ⟨_, _, _, e, _⟩ := hD
  exact ⟨dx, r, b _ _ h1 (fun n => by rw [n, e] at h1; cases h1), h2.keep fun q xs hq => b _ _ hq (fun n => by rw [n, e] at hq; cases hq)⟩
theorem Dne {H H1 : Hp} {p a : Addr} (h : DiceAt H p) (s : Same H H1) (ha : H1 a = none) : a ≠ p := (h.keep fun _ e => s _ _ e).ne ha
def spLRight (T : List (Addr × Str)) : Sp := fun vs H Q _ => ∃ p : Addr, vs = [.ref p] ∧ DiceAt H p ∧ Tabs T H ∧ ∀ H', DiceAt H' p → ButT p H H' → Tabs T H' → Q (.bl true) H'
theorem tabs_but {T : List (Addr × Str)} {H H' : Hp} {p : Addr} (t : Tabs T H) (hD : DiceAt H p) (b : But p H H') : Tabs T H' := fun q hq => by
  obtain ⟨x, y, z, e, _⟩ := hD
  obtain ⟨ps, h1, h2, h3⟩ := t q hq
  refine ⟨ps, b _ _ h1 (fun n => by rw [n, e] at h1; cases h1), h2, fun pos cv hc => ?_⟩
  obtain ⟨c, e1, e2⟩ := h3 pos cv hc
  exact ⟨c, e1, b _ _ e2 (fun n => by rw [n, e] at e2; cases e2)⟩
theorem bfl_no {a b : V} : (bfl a b).lookup ("lean" : Str) = none := by
  have e1 : (("lean" : Str) == "_letters") = false := by decide +kernel
  have e2 : (("lean" : Str) == "_table") = false := by decide +kernel
  simp only [bfl, List.lookup, e1, e2]
theorem iteT' {c : Bool} {a b : Prop} (h : c = true) (k : a) : (if c = true then a else b) := by
  rw [h]
  exact k
/-- the methods of the class Box, as they are asked -/
structure TMt (P : Program) (w : World) (K : Frag) (mg : Str → Option Value) (base : Heap) (C : Addr) (gN gE gS gC gA : Addr) : Prop where
  nAt : PySem.W.findIn K (.ref C) "__len__" = some (some (.ref gN))
  nFn : PySem.W.isFn K (.ref gN) = true
  nR : FnR P w K mg base CX0 1 gN (fun vs H Q E => spBLen C (vs ++ []) H Q E)
  eAt : PySem.W.findIn K (.ref C) "__eq__" = some (some (.ref gE))
  eFn : PySem.W.isFn K (.ref gE) = true
  eR : FnR P w K mg base CX0 1 gE (fun vs H Q E => spBEq C (vs ++ []) H Q E)
  ne : PySem.W.findIn K (.ref C) "__ne__" = some (some (.builtin "object.__ne__"))
  mo : PySem.W.mroIn K C (.type "object") = some true
  nl : PySem.W.notFirst K C (.type "list") = true
  sAt : PySem.W.findIn K (.ref C) "__str__" = some (some (.ref gS))
  sFn : PySem.W.isFn K (.ref gS) = true
  sR : FnR P w K mg base CX0 1 gS (fun vs H Q E => spBStr C (vs ++ []) H Q E)
  cC : StX.CallO K C gC
  cR : FnR P w K mg base CX0 4 gC (fun vs H Q E => spBCall C (vs ++ []) H Q E)
  aAt : PySem.W.findIn K (.ref C) "__and__" = some (some (.ref gA))
  aFn : PySem.W.isFn K (.ref gA) = true
  aR : FnR P w K mg base CX0 5 gA (fun vs H Q E => spBAnd C (vs ++ []) H Q E)
  sf : PySem.W.selfFirst K C = true
section
variable {P : Program} {w : World} {K : PySem.W.Frag} {mg : Str → Option Value} {base : Heap} {C cD pL gL pT gT gN gE gS gC gA gLn : Addr} {dL dLn : FuncData} {T : List (Addr × Str)}
variable {fR fO fLe fW fSe fMd fTo : Addr} {dR dO dLe dW dSe dMd dTo : FuncData}
theorem scRt : FnScope NRt ["_law_dice_here"] (defScope sLRight) := ⟨rfl, rfl, rfl, by decide +kernel, rfl, by decide +kernel, by decide +kernel⟩
theorem ok_lright {f : Addr} {fd : FuncData} (F : Fun K "_law_right" "_law_right" sLRight f fd) (TT : TN mg) (M : TBx K mg C cD) (R : TPr K C pL gL pT gT) (Mt : TMt P w K mg base C gN gE gS gC gA)
    (hLn : Meth K C "lean" gLn) (GLn : FnOk P w K mg base CX0 5 gLn dLn ["self"] (spBLean C)) (bLn : Binds K dLn ["self"] []) (GL : FnOk P w K mg base CX0 1 gL dL ["self"] (getSp C "_letters")) (bL : Binds K dL ["self"] [])
    (AR : Fn K mg "_law_roll" sRoll ["_law_dice_here", "_law_total_here"] fR dR) (AO : Fn K mg "_law_one_of" sOne ["_law_dice_here", "_law_items"] fO dO)
    (ALe : Fn K mg "_law_letters" sLetters ["_law_dice_here", "_law_total_here"] fLe dLe) (GLe : FnOk P w K mg base CX0 3 fLe dLe ["_law_dice_here", "_law_total_here"] spLetters)
    (AW : Fn K mg "_law_word" sWord ["_law_dice_here", "_law_letters_here", "_law_most"] fW dW) (GW : FnOk P w K mg base CX0 3 fW dW ["_law_dice_here", "_law_letters_here", "_law_most"] spWordL)
    (ASe : Fn K mg "_law_seen" sLSeen ["_law_letters_here", "_law_way", "_law_one", "_law_two", "_law_word_here"] fSe dSe) (GSe : FnOk P w K mg base CX0 3 fSe dSe ["_law_letters_here", "_law_way", "_law_one", "_law_two", "_law_word_here"] spLSeen)
    (AMd : Fn K mg "_law_made" sLMade ["_law_letters_here", "_law_way", "_law_one", "_law_two"] fMd dMd) (GMd : FnOk P w K mg base CX0 10 fMd dMd ["_law_letters_here", "_law_way", "_law_one", "_law_two"] (spLMade T C))
    (ATo : Fn K mg "_law_total" sLTot ["_law_letters_here", "_law_way", "_law_one", "_law_two"] fTo dTo) (GTo : FnOk P w K mg base CX0 2 fTo dTo ["_law_letters_here", "_law_way", "_law_one", "_law_two"] spLTot) :
    FnOk P w K mg base CX0 11 f fd ["_law_dice_here"] (spLRight T) := by
  have GR : FnOk P w K mg base CX0 1 fR dR ["_law_dice_here", "_law_total_here"] spRoll := ok_roll AR.F TT.dice
  have GO : FnOk P w K mg base CX0 2 fO dO ["_law_dice_here", "_law_items"] spOne := ok_one AO.F TT.dice AR.g AR.F AR.b
  refine F.ok scRt (fun vs H Q E h => ?_) (fun cdv A outer s H vs Q E hr h => ?_)
  · obtain ⟨p, rfl, _⟩ := h
    rfl
  · obtain ⟨p, rfl, hD, tabs, q⟩ := h
    have hr1 : Room 1 _ := hr.mono (by decide)
    have hr2 : Room 2 _ := hr.mono (by decide)
    have hr3 : Room 3 _ := hr.mono (by decide)
    have hr4 : Room 4 _ := hr.mono (by decide)
    have hr5 : Room 5 _ := hr.mono (by decide)
    have tailC : ∃ t, PSs (cxOf CX0 P w K mg base NRt "_law_right" (defScope sLRight) f cdv A outer s H E).nox ((defBody sLRight).drop 8) t ∧ ∀ (L : W) (wy one two : Nat) (x3 x7 : Option V) (o : Addr) (H3 : Hp), Cfg L wy one two → BoxAt C H3 o L (tabW L wy one two) → DiceAt H3 p → ButT p H H3 → Tabs T H3 →
        t { nx := fun _ H' => Q .non H', rt := Q } [some (.ref p), some (.str (tx L)), some (.str (wayS wy)), x3, some (.int (one : Int)), some (.int (two : Int)), some (.ref o), x7, none, none, none, none, none] H3 := by
      refine ⟨_, pss_cons (ps_if (PW.pt (pw_or (pt_cmpR op_ne (pe_callTy (OWN.call_strO Mt.sAt Mt.sFn Mt.sR hr3) (by rfl) TT.str (by decide +kernel) (pa_cons (pv 6) pa_nil)) (pe_op op_add_str (pe_op op_add_str (pe_op op_add_str pe_str (pe_callTy call_str_int (by rfl) TT.str (by decide +kernel) (pa_cons (pe_callB (OWN.call_lenO Mt.nAt Mt.nFn Mt.nR hr2) (by rfl) TT.len PySem.boot_len (pa_cons (pv 6) pa_nil)) pa_nil))) pe_str) (pv 1)) (nomark _))
            (pw_or1 (pt_cmpR op_ne (StX.pe_callO (E := E0) (pv 6) Mt.cC Mt.cR hr4 pass0 (pa_cons pe_str pa_nil)) pe_int (nomark _))))) (pss_one ps_never) pss_nil)
        (pss_cons (ps_for PassesOwn.never rfl (pi_range1 rfl TT.rng (pa_cons pe_int pa_nil)) (pg_name (i := 8) scRt.nd rfl (Or.inl rfl))
          (pss_cons (ps_set (i := 9) scRt.nd rfl (Or.inl rfl) (pe_call GW hr3 rfl AW.g AW.F.kp AW.b .nil pass0 (pa_cons (pv 0) (pa_cons (pv 1) (pa_cons pe_int pa_nil)))))
          (pss_cons (ps_set (i := 10) scRt.nd rfl (Or.inl rfl) (pe_lst (pa_cons (pe_op op_add_str (pv 9) (pv 9)) (pa_cons (pe_join pe_str (pe_callB (TX.cr_sortTx rfl) (by rfl) TT.sorted (by decide +kernel) (pa_cons (pv 9) pa_nil))) (pa_cons (pe_slice sl_str (pv 9) (po_some pe_int) po_none) (pa_cons (pe_revS (pv 9)) pa_nil))))))
          (pss_cons (ps_set (i := 11) scRt.nd rfl (Or.inl rfl) (pe_call GO hr2 rfl AO.g AO.F.kp AO.b .nil pass0 (pa_cons (pv 0) (pa_cons (pe_op op_cat (pe_lst (pa_cons (pe_call GW hr3 rfl AW.g AW.F.kp AW.b .nil pass0 (pa_cons (pv 0) (pa_cons (pv 1) (pa_cons pe_int pa_nil)))) pa_nil)) (pv 10)) pa_nil))))
          (pss_cons (ps_set (i := 12) scRt.nd rfl (Or.inl rfl) (pe_cmpR (op_eqD hr.units) (pe_call GSe hr3 rfl ASe.g ASe.F.kp ASe.b .nil pass0 (pa_cons (pv 1) (pa_cons (pv 2) (pa_cons (pv 4) (pa_cons (pv 5) (pa_cons (pv 9) pa_nil)))))) (pe_call GSe hr3 rfl ASe.g ASe.F.kp ASe.b .nil pass0 (pa_cons (pv 1) (pa_cons (pv 2) (pa_cons (pv 4) (pa_cons (pv 5) (pa_cons (pv 11) pa_nil)))))) (nomark _)))
          (pss_one (ps_if (pt_cmpR op_ne (pe_cmpR op_eq (StX.pe_callO (E := E0) (pv 6) Mt.cC Mt.cR hr4 pass0 (pa_cons (pv 9) pa_nil)) (StX.pe_callO (E := E0) (pv 6) Mt.cC Mt.cR hr4 pass0 (pa_cons (pv 11) pa_nil)) (nomark _)) (pv 12) (nomark _)) (pss_one ps_never) pss_nil)))))))
        (pss_one (ps_ret pe_bl))), fun L wy one two x3 x7 o H3 c bx hD3 b3 t3 => ?_⟩
      obtain ⟨N, N1, N4, tab, lean, _, same⟩ := c.all
      have hlen : ((tabW L wy one two).length : Int) = N := tab.len
      have hk := c.lt.few
      have big : ∀ {n : Nat}, n ≤ 100 → n ≤ sizeLine := fun h => by rw [sizeLine_eq]; omega
      obtain ⟨dx, r, bx1, rows⟩ := id bx
      obtain ⟨z1, z2, z3, z4⟩ := box_fits (tabW L wy one two).length (by omega)
      rw [Str_empty_add] at z1 z2 z3
      refine ⟨_, rfl, o, dx, _, rfl, bx1, o, L, tabW L wy one two, rfl, bx, by omega, hk, ?_⟩
      refine ⟨_, rfl, _, rfl, o, dx, _, rfl, bx1, o, L, tabW L wy one two, rfl, bx, (tabW L wy one two).length, rfl, by omega, _, rfl, z4, ?_⟩
      refine ⟨_, _, rfl, rfl, by rw [← str_add_len]; exact big z2, ?_⟩
      refine ⟨_, _, rfl, rfl, by rw [← str_add_len]; exact big z3, ?_⟩
      refine ⟨_, rfl, _, _, rfl, rfl, ?_, rfl, _, rfl, ?_⟩
      · rw [sizeLine_eq, tx_len]
        omega
      refine iteF' (congrArg not (decide_eq_true rfl)) ?_
      refine ⟨_, rfl, o, rfl, .inr ⟨dx, _, bx1⟩, o, L, [], tabW L wy one two, N, rfl, bx, c.lt, tab, by omega, by omega, by decide, fun _ z => absurd z (by simp), fun H4 s4 => ?_⟩
      refine ⟨rfl, _, rfl, iteF' rfl ?_⟩
      have hD4 : DiceAt H4 p := hD3.keep fun q e => s4 _ _ e
      have b4 : ButT p H H4 := fun b q e n1 n2 => s4 _ _ (b3 b q e n1 n2)
      have t4 := t3.ext s4
      have bx4 := bx.same s4
      clear hD3 b3 t3 bx s4 bx1 rows z1 z2 z3 z4
      refine ⟨6, rfl, by omega, by omega, ?_⟩
      refine for_range (lo := 0) (n := 6) (fun j σ H5 => (∃ x8 x9 x10 x11 x12, σ = [some (.ref p), some (.str (tx L)), some (.str (wayS wy)), x3, some (.int (one : Int)), some (.int (two : Int)), some (.ref o), x7, x8, x9, x10, x11, x12]) ∧ DiceAt H5 p ∧ ButT p H H5 ∧ Tabs T H5 ∧ BoxAt C H5 o L (tabW L wy one two)) ⟨⟨_, _, _, _, _, rfl⟩, hD4, b4, t4, bx4⟩ ?_ ?_
      · clear hD4 b4 t4 bx4 H4
        rintro j σ H5 hj ⟨⟨x8, x9, x10, x11, x12, rfl⟩, hD5, b5, t5, bx5⟩
        refine ⟨_, rfl, _, rfl, p, L, 5, rfl, hD5, c.lt, by omega, by omega, fun u H6 lu hu hD6 hB6 => ?_⟩
        have b6 : ButT p H H6 := fun b q e n1 n2 => hB6 _ _ (b5 b q e n1 n2) n1
        have t6 := tabs_but t5 hD5 hB6
        have bx6 : BoxAt C H6 o L (tabW L wy one two) := bx5.but hD5 hB6
        clear hD5 hB6 b5 t5 bx5
        have lz : (tx u).length ≤ sizeLine := by rw [tx_len]; exact big (by omega)
        refine ⟨_, rfl, _, rfl, _, _, rfl, rfl, by rw [tx_len]; exact big (by omega), ?_⟩
        refine ⟨⟨_, rfl⟩, _, rfl, tx u, rfl, by show u.toArray.size < 64; rw [List.size_toArray]; omega, fun ps ss hps perm => ?_⟩
        obtain ⟨us, pu, rfl⟩ := join_perm perm
        have hus : ∀ c ∈ us, c ∈ L := fun c hc => hu c (pu.mem_iff.mp hc)
        have lus : us.length ≤ 5 := by have := pu.length_eq; omega
        have s7 := same_upd (o := .lst ((us.map sg).map V.str)) hps
        refine ⟨_, ps, us.map sg, rfl, rfl, .inl (SqL.of upd_same), ?_, ?_⟩
        · rw [sum_sg]
          show us.length + _ * 0 ≤ _
          omega
        rw [show Txt.join (Str.ofString "") (us.map sg) = tx us from join_sg us]
        refine ⟨_, rfl, 1, rfl, _, rfl, lz, ?_⟩
        rw [show cutS (tx u) (some 1) none = tx (u.drop 1) from cut_from u 1]
        refine ⟨_, rfl, u, rfl, big (by omega), by show 4 ≤ sizeLine; decide, fun p4 hp4 => ?_⟩
        have s8 := same_upd (o := .lst [V.str (tx u ++ tx u), V.str (tx us), V.str (tx (u.drop 1)), V.str (tx u.reverse)]) hp4
        have s68 := s7.trans s8
        have a8 : upd (upd H6 ps (.lst ((us.map sg).map V.str))) p4 (.lst [V.str (tx u ++ tx u), V.str (tx us), V.str (tx (u.drop 1)), V.str (tx u.reverse)]) p4 = some (.lst [V.str (tx u ++ tx u), V.str (tx us), V.str (tx (u.drop 1)), V.str (tx u.reverse)]) := upd_same

        generalize upd (upd H6 ps (.lst ((us.map sg).map V.str))) p4 (.lst [V.str (tx u ++ tx u), V.str (tx us), V.str (tx (u.drop 1)), V.str (tx u.reverse)]) = H8 at s68 a8 ⊢
        have hD8 : DiceAt H8 p := hD6.keep fun q e => s68 _ _ e
        have b8 : ButT p H H8 := fun b q e n1 n2 => s68 _ _ (b6 b q e n1 n2)
        have t8 := t6.ext s68
        have bx8 := bx6.same s68
        have np4 : p4 ≠ p := Dne hD6 s7 hp4
        clear hD6 b6 t6 bx6 s68 s7 s8 hp4 hps perm
        refine ⟨_, rfl, _, rfl, _, rfl, p, L, 5, rfl, hD8, c.lt, by omega, by omega, fun u2 H9 lu2 hu2 hD9 hB9 => ?_⟩
        have b9 : ButT p H H9 := fun b q e n1 n2 => hB9 _ _ (b8 b q e n1 n2) n1
        have t9 := tabs_but t8 hD8 hB9
        have bx9 := bx8.but hD8 hB9
        have a9 := hB9 _ _ a8 np4
        clear hD8 hB9 b8 t8 bx8 a8
        refine ⟨by show 1 ≤ sizeLine; decide, fun p1 hp1 => ⟨_, rfl, p1, p4, _, _, rfl, rfl, upd_same, same_upd hp1 _ _ a9, by show 1 + 4 ≤ sizeLine; decide, fun pc hpc => ?_⟩⟩
        have s11 : Same H9 _ := same_two (o := .lst ([V.str (tx u2)] ++ [V.str (tx u ++ tx u), V.str (tx us), V.str (tx (u.drop 1)), V.str (tx u.reverse)])) (same_upd (o := .lst [V.str (tx u2)]) hp1) hpc
        have hDc : DiceAt _ p := hD9.keep fun q e => s11 _ _ e
        have b11 : ButT p H _ := fun b q e n1 n2 => s11 _ _ (b9 b q e n1 n2)
        have t11 := t9.ext s11
        have bx11 := bx9.same s11
        refine ⟨p, pc, _, rfl, hDc, (hD9.new hp1).ne hpc, upd_same, (by show 0 < 5; decide), (by show 5 < 1000000; decide), fun v H12 hv hD12 hB12 => ?_⟩
        have b12 : ButT p H H12 := fun b q e n1 n2 => hB12 _ _ (b11 b q e n1 n2) n1
        have t12 := tabs_but t11 hDc hB12
        have bx12 := bx11.but hDc hB12
        clear hDc hB12 b11 t11 bx11 s11 hpc hp1 a9 hD9 b9 t9 bx9
        obtain ⟨z, rfl, lz2, hz⟩ : ∃ z : W, v = .str (tx z) ∧ z.length ≤ 10 ∧ ∀ c ∈ z, c ∈ L := by
          simp only [List.cons_append, List.nil_append, List.mem_cons, List.not_mem_nil, or_false] at hv
          rcases hv with e | e | e | e | e
          · exact ⟨u2, e, by omega, hu2⟩
          · exact ⟨u ++ u, by rw [e, tx_app], by rw [List.length_append]; omega, fun c hc => (List.mem_append.mp hc).elim (hu c) (hu c)⟩
          · exact ⟨us, e, by omega, hus⟩
          · exact ⟨u.drop 1, e, by rw [List.length_drop]; omega, fun c hc => hu c (List.mem_of_mem_drop hc)⟩
          · exact ⟨u.reverse, e, by rw [List.length_reverse]; omega, fun c hc => hu c (List.mem_reverse.mp hc)⟩
        clear hv
        refine ⟨_, rfl, _, rfl, _, rfl, _, rfl, _, rfl, L, u, wy, one, two, rfl, hk, by omega, c.w6, c.one3, c.rest, c.t1, c.t3, fun v1 H13 s13 w1 => ?_⟩
        refine ⟨_, rfl, _, rfl, _, rfl, _, rfl, _, rfl, L, z, wy, one, two, rfl, hk, by omega, c.w6, c.one3, c.rest, c.t1, c.t3, fun v2 H14 s14 w2 => ?_⟩
        refine ⟨_, _, seen_dp (w1.same s14), seen_dp w2, seen_shaped c.lt.low hu, seen_shaped c.lt.low hz, ?_⟩
        rw [seen_eqv]
        have s1214 := s13.trans s14
        have bx14 := bx12.same s1214
        obtain ⟨dx, r, bi14, _⟩ := id bx14
        refine ⟨_, rfl, o, rfl, _, rfl, .inr ⟨dx, _, bi14⟩, o, L, u, tabW L wy one two, N, rfl, bx14, c.lt, tab, by omega, by omega, by omega, hu, fun H15 s15 => ?_⟩
        refine ⟨_, rfl, o, rfl, _, rfl, .inr ⟨dx, _, s15 _ _ bi14⟩, o, L, z, tabW L wy one two, N, rfl, bx14.same s15, c.lt, tab, by omega, by omega, by omega, hz, fun H16 s16 => ?_⟩
        refine ⟨rfl, _, rfl, rfl, _, rfl, iteF' ?_ ?_⟩
        · rw [show decide (seenW L wy one two u = seenW L wy one two z) = decide (V.int (ledL L (tabW L wy one two) u 0) = V.int (ledL L (tabW L wy one two) z 0)) from decide_eq_decide.mpr ⟨fun e => by rw [(same u z hu hz).mpr e], fun e => (same u z hu hz).mp (V.int.inj e)⟩]
          exact congrArg not (decide_eq_true rfl)
        · have sz := (s1214.trans s15).trans s16
          exact ⟨⟨_, _, _, _, _, rfl⟩, hD12.keep fun q e => sz _ _ e, fun b q e n1 n2 => sz _ _ (b12 b q e n1 n2), t12.ext sz, bx12.same sz⟩
      · rintro σ H5 ⟨⟨x8, x9, x10, x11, x12, rfl⟩, hD5, b5, t5, bx5⟩
        exact q H5 hD5 b5 t5
    obtain ⟨tc, tC, hTC⟩ := tailC
    have tailB : ∃ t, PSs (cxOf CX0 P w K mg base NRt "_law_right" (defScope sLRight) f cdv A outer s H E).nox ((defBody sLRight).drop 5) t ∧ ∀ (L : W) (wy one two : Nat) (x3 : Option V) (H1 : Hp), Cfg L wy one two → DiceAt H1 p → But p H H1 →
        t { nx := fun _ H' => Q .non H', rt := Q } [some (.ref p), some (.str (tx L)), some (.str (wayS wy)), x3, some (.int (one : Int)), some (.int (two : Int)), none, none, none, none, none, none, none] H1 := by
      refine ⟨_, pss_cons (ps_set (i := 6) scRt.nd rfl (Or.inl rfl) (pe_call GMd hr rfl AMd.g AMd.F.kp AMd.b .nil pass0 (pa_cons (pv 1) (pa_cons (pv 2) (pa_cons (pv 4) (pa_cons (pv 5) pa_nil))))))
        (pss_cons (ps_set (i := 7) scRt.nd rfl (Or.inl rfl) (pe_call GTo hr2 rfl ATo.g ATo.F.kp ATo.b .nil pass0 (pa_cons (pv 1) (pa_cons (pv 2) (pa_cons (pv 4) (pa_cons (pv 5) pa_nil))))))
        (pss_cons (ps_if (PW.pt (pw_or (PW.pt (pw_and (pt_cmp (pc_notN (pv 7))) (pw_and1 (pt_cmpR op_ne (pe_callB (OWN.call_lenO Mt.nAt Mt.nFn Mt.nR hr2) (by rfl) TT.len PySem.boot_len (pa_cons (pv 6) pa_nil)) (pv 7) (nomark _)))))
            (pw_or (pt_cmpR (OWN.op_neO Mt.eAt Mt.eFn Mt.ne Mt.mo Mt.eR hr2) (pe_meth0 (E := E0) (pv 6) M.cl hLn GLn hr5 bLn .nil pass0) (pv 6) (nomark _)) (pw_or1 (pt_cmpR op_ne (pe_prop (E := E0) (pv 6) M.cl R.l GL hr2 bL .nil pass0 rfl) (pv 1) (nomark _)))))) (pss_one ps_never) pss_nil) tC)), fun L wy one two x3 H1 c hD1 hB1 => ?_⟩
      refine ⟨_, rfl, _, rfl, _, rfl, _, rfl, L, wy, one, two, rfl, c, tabs_but tabs hD hB1, fun o H2 no gr bx => ?_⟩
      have hD2 : DiceAt H2 p := hD1.keep fun q e => by
        obtain ⟨x, y, z, e2, _⟩ := hD1
        rw [e2] at e
        cases e
        exact gr.1 _ _ e2 fun _ z => nomatch z
      have b2 : ButT p H H2 := fun b q e n1 n2 => gr.1 b q (hB1 b q e n1) n2
      have t2 := gr.2.1
      clear gr no
      refine ⟨_, rfl, _, rfl, _, rfl, _, rfl, L, wy, one, two, rfl, c.lt.few, c.w6, c.one3, c.t3, fun H3 s3 => ?_⟩
      have hD3 : DiceAt H3 p := hD2.keep fun q e => s3 _ _ e
      have b3 : ButT p H H3 := fun b q e n1 n2 => s3 _ _ (b2 b q e n1 n2)
      have t3 := t2.ext s3
      have bx3 := bx.same s3
      clear hD2 b2 t2 bx s3 H2
      obtain ⟨N, N1, N4, tab, lean, htot, same⟩ := c.all
      obtain ⟨dx, r, bx1, rows⟩ := id bx3
      have hlen : ((tabW L wy one two).length : Int) = N := tab.len
      have noL : (bfl (.str (tx L)) (.ref r)).lookup ("lean" : Str) = none := bfl_no
      rcases htot with h | h
      · rw [h]
        refine ⟨_, rfl, _, rfl, iteF' rfl (iteF' rfl ?_)⟩
        refine ⟨_, rfl, o, dx, _, rfl, bx1, noL, o, L, tabW L wy one two, N, rfl, bx3, c.lt, tab, by omega, by omega, lean, fun p' H4 np s4 bx4 => ?_⟩
        obtain ⟨dx4, r4, bx41, _⟩ := id bx4
        refine ⟨_, rfl, p', dx4, _, o, dx, _, rfl, rfl, bx41, s4 _ _ bx1, p', o, L, L, _, _, rfl, bx4, bx3.same s4, _, rfl, _, rfl, iteF' (by simp) ?_⟩
        refine ⟨_, rfl, o, dx, _, rfl, s4 _ _ bx1, o, dx, _, _, rfl, s4 _ _ bx1, bfl_L, _, rfl, rfl, _, rfl, iteF' (by simp) ?_⟩
        exact hTC L wy one two x3 _ o H4 c (bx3.same s4) (hD3.keep fun q e => s4 _ _ e) (fun b q e n1 n2 => s4 _ _ (b3 b q e n1 n2)) (t3.ext s4)
      · rw [h]
        refine ⟨_, rfl, _, rfl, iteT' rfl ?_⟩
        refine ⟨_, rfl, o, dx, _, rfl, bx1, o, L, tabW L wy one two, rfl, bx3, (tabW L wy one two).length, rfl, by omega, _, rfl, rfl, _, rfl, iteF' (by rw [hlen]; simp) ?_⟩
        refine ⟨_, rfl, o, dx, _, rfl, bx1, noL, o, L, tabW L wy one two, N, rfl, bx3, c.lt, tab, by omega, by omega, lean, fun p' H4 np s4 bx4 => ?_⟩
        obtain ⟨dx4, r4, bx41, _⟩ := id bx4
        refine ⟨_, rfl, p', dx4, _, o, dx, _, rfl, rfl, bx41, s4 _ _ bx1, p', o, L, L, _, _, rfl, bx4, bx3.same s4, _, rfl, _, rfl, iteF' (by simp) ?_⟩
        refine ⟨_, rfl, o, dx, _, rfl, s4 _ _ bx1, o, dx, _, _, rfl, s4 _ _ bx1, bfl_L, _, rfl, rfl, _, rfl, iteF' (by simp) ?_⟩
        exact hTC L wy one two x3 _ o H4 c (bx3.same s4) (hD3.keep fun q e => s4 _ _ e) (fun b q e n1 n2 => s4 _ _ (b3 b q e n1 n2)) (t3.ext s4)
    obtain ⟨tb, tB, hTB⟩ := tailB
    have tailA : ∃ t, PSs (cxOf CX0 P w K mg base NRt "_law_right" (defScope sLRight) f cdv A outer s H E).nox ((defBody sLRight).drop 3) t ∧ ∀ (L : W) (wy m : Nat) (H1 : Hp), Let L → wy < 6 → (m = 3 ∧ wy ≤ 1 ∧ L.length < 3 ∨ m = 2) → DiceAt H1 p → But p H H1 →
        t { nx := fun _ H' => Q .non H', rt := Q } [some (.ref p), some (.str (tx L)), some (.str (wayS wy)), some (.int (m : Int)), none, none, none, none, none, none, none, none, none] H1 := by
      refine ⟨_, pss_cons (ps_par (i := 4) (j := 5) (by rfl) scRt.nd rfl rfl (by decide) rfl rfl (pa_cons (pe_call GR hr1 rfl AR.g AR.F.kp AR.b .nil pass0 (pa_cons (pv 0) (pa_cons (pe_op op_add (pv 3) pe_int) pa_nil))) (pa_cons (pe_op op_add pe_int (pe_call GR hr1 rfl AR.g AR.F.kp AR.b .nil pass0 (pa_cons (pv 0) (pa_cons pe_int pa_nil)))) pa_nil)) (by rfl))
        (pss_cons (ps_set (i := 4) scRt.nd rfl (Or.inl rfl) (pe_ifExp (pt_cmpR op_eq (pv 2) pe_str (nomark _)) (pe_callB (call_max2 rfl) (by rfl) TT.max (by decide +kernel) (pa_cons pe_int (pa_cons (pv 4) pa_nil))) (pv 4))) tB), fun L wy m H1 hL hw hm hD1 hB1 => ?_⟩
      refine ⟨_, rfl, _, rfl, _, _, rfl, rfl, p, (m : Int) + 1, rfl, hD1, by omega, by omega, fun r1 H2 r10 r11 hD2 hB2 => ?_⟩
      refine ⟨_, rfl, p, 3, rfl, hD2, by decide, by decide, fun r2 H3 r20 r21 hD3 hB3 => ?_⟩
      refine ⟨_, _, rfl, rfl, _, _, rfl, ?_⟩
      have b3 : But p H H3 := (hB1.trans hB2).trans hB3
      obtain ⟨one, rfl⟩ : ∃ one : Nat, r1 = (one : Int) := ⟨r1.toNat, by omega⟩
      obtain ⟨k2, rfl⟩ : ∃ k2 : Nat, r2 = (k2 : Int) := ⟨r2.toNat, by omega⟩
      obtain ⟨two, ht⟩ : ∃ two : Nat, two = 1 + k2 := ⟨_, rfl⟩
      refine ⟨_, rfl, rfl, _, rfl, ?_⟩
      show (if decide (V.str (wayS wy) = V.str (wayS 4)) = true then _ else _)
      rw [way_is hw (by decide)]
      have hk : 1 ≤ L.length ∧ L.length ≤ 3 := ⟨List.length_pos_iff.mpr hL.ne, hL.few⟩
      have cfg : ∀ one' : Nat, (one' = one ∨ (one' = 1 ∧ one = 0 ∧ wy = 4)) → (wy = 4 → 1 ≤ one') → Cfg L wy one' two := fun one' h1 h4 => by
        have o2 : one' ≤ m := by omega
        refine ⟨hL, hw, fun hw1 => ?_, fun hw2 => by omega, h4, by omega, by omega⟩
        have h3 : (L.length < 3 ∧ one' ≤ 3) ∨ one' ≤ 2 := by omega
        generalize L.length = k at hk h3
        rcases Nat.lt_or_ge k 2 with a | a
        · obtain rfl : k = 1 := by omega
          match one', (show one' ≤ 3 by omega) with
          | 0, _ => decide
          | 1, _ => decide
          | 2, _ => decide
          | 3, _ => decide
        · rcases Nat.lt_or_ge k 3 with b | b
          · obtain rfl : k = 2 := by omega
            match one', (show one' ≤ 3 by omega) with
            | 0, _ => decide
            | 1, _ => decide
            | 2, _ => decide
            | 3, _ => decide
          · obtain rfl : k = 3 := by omega
            match one', (show one' ≤ 2 by omega) with
            | 0, _ => decide
            | 1, _ => decide
            | 2, _ => decide
      by_cases w4 : wy = 4
      · rw [if_pos (decide_eq_true w4)]
        refine ⟨_, rfl, _, _, rfl, ?_⟩
        have e : (if (one : Int) > 1 then (one : Int) else 1) = ((max 1 one : Nat) : Int) := by
          split <;> omega
        rw [e]
        have := hTB L wy (max 1 one) two (some (.int (m : Int))) H3 (cfg _ (by omega) fun _ => by omega) hD3 b3
        rw [ht] at this
        exact this
      · rw [if_neg (by simp [w4])]
        refine ⟨_, rfl, ?_⟩
        have := hTB L wy one two (some (.int (m : Int))) H3 (cfg _ (.inl rfl) fun z => absurd z w4) hD3 b3
        rw [ht] at this
        exact this
    obtain ⟨ta, tA, hTA⟩ := tailA
    refine ⟨_, pss_cons (ps_set (i := 1) scRt.nd rfl (Or.inl rfl) (pe_call GLe hr3 rfl ALe.g ALe.F.kp ALe.b .nil pass0 (pa_cons (pv 0) (pa_cons (pe_call GO hr2 rfl AO.g AO.F.kp AO.b .nil pass0 (pa_cons (pv 0) (pa_cons (pe_lst (pa_cons pe_int (pa_cons pe_int (pa_cons pe_int (pa_cons pe_int pa_nil))))) pa_nil))) pa_nil))))
      (pss_cons (ps_set (i := 2) scRt.nd rfl (Or.inl rfl) (pe_call GO hr2 rfl AO.g AO.F.kp AO.b .nil pass0 (pa_cons (pv 0) (pa_cons (pe_lst (pa_cons pe_str (pa_cons pe_str (pa_cons pe_str (pa_cons pe_str (pa_cons pe_str (pa_cons pe_str pa_nil))))))) pa_nil))))
      (pss_cons (ps_set (i := 3) scRt.nd rfl (Or.inl rfl) (pe_ifExp (PW.pt (pw_and (pt_cmpR op_in_seq (pv 2) (pe_lst (pa_cons pe_str (pa_cons pe_str pa_nil))) (by rfl)) (pw_and1 (pt_cmpR op_lt (pe_callB call_len_str (by rfl) TT.len PySem.boot_len (pa_cons (pv 1) pa_nil)) pe_int (nomark _))))) pe_int pe_int)) tA)), ?_⟩
    refine ⟨_, rfl, _, rfl, by show 4 ≤ sizeLine; decide, fun l1 hl1 => ⟨p, l1, _, rfl, hD.new hl1, hD.ne hl1, upd_same, by decide, by decide, fun v1 H1 hv1 hD1 hB1 => ?_⟩⟩
    obtain ⟨n, rfl, n1, n3⟩ : ∃ n : Int, v1 = .int n ∧ 1 ≤ n ∧ n ≤ 3 := by
      simp only [List.mem_cons, List.not_mem_nil, or_false] at hv1
      rcases hv1 with e | e | e | e <;> exact ⟨_, e, by decide, by decide⟩
    refine ⟨p, n, rfl, hD1, n1, n3, fun L H2 hL hD2 hB2 => ?_⟩
    have b2 : But p H H2 := ((But.ofSame (same_upd hl1)).trans hB1).trans hB2
    clear hB1 hB2 hl1 hD1
    refine ⟨_, rfl, by show 6 ≤ sizeLine; decide, fun l2 hl2 => ⟨p, l2, _, rfl, hD2.new hl2, hD2.ne hl2, upd_same, by decide, by decide, fun v2 H3 hv2 hD3 hB3 => ?_⟩⟩
    obtain ⟨wy, hw, rfl⟩ : ∃ wy, wy < 6 ∧ v2 = .str (wayS wy) := by
      simp only [List.mem_cons, List.not_mem_nil, or_false] at hv2
      rcases hv2 with e | e | e | e | e | e
      · exact ⟨0, by decide, e⟩
      · exact ⟨1, by decide, e⟩
      · exact ⟨2, by decide, e⟩
      · exact ⟨3, by decide, e⟩
      · exact ⟨4, by decide, e⟩
      · exact ⟨5, by decide, e⟩
    have b3 : But p H H3 := (b2.trans (But.ofSame (same_upd hl2))).trans hB3
    clear hB3 hl2 hD2 b2
    refine ⟨_, rfl, by show 2 ≤ sizeLine; decide, fun l3 hl3 => ?_⟩
    have hD4 := hD3.new (o := .lst [V.str "window", V.str "heads"]) hl3
    have b4 : But p H (upd H3 l3 (.lst [V.str "window", V.str "heads"])) := b3.trans (But.ofSame (same_upd hl3))
    refine ⟨l3, _, rfl, .inl (SqL.of upd_same), rfl, rfl, decide (wy ≤ 1), congrArg V.bl (way_in wy hw), ?_⟩
    have hz : (tx L).length ≤ sizeLine := by have := hL.few; rw [tx_len, sizeLine_eq]; omega
    by_cases w1 : wy ≤ 1
    · rw [decide_eq_true w1]
      refine ⟨_, rfl, _, rfl, hz, _, _, rfl, rfl, ?_⟩
      rw [tx_len]
      by_cases l3 : L.length < 3
      · refine ⟨true, congrArg V.bl (decide_eq_true (by omega)), ?_⟩
        exact hTA L wy 3 _ hL hw (.inl ⟨rfl, w1, l3⟩) hD4 b4
      · refine ⟨false, congrArg V.bl (decide_eq_false (by omega)), ?_⟩
        exact hTA L wy 2 _ hL hw (.inr rfl) hD4 b4
    · rw [decide_eq_false w1]
      exact hTA L wy 2 _ hL hw (.inr rfl) hD4 b4
end
end WK

set_option Elab.async false
set_option linter.all false
set_option maxRecDepth 100000
set_option maxHeartbeats 8000000
/-! The law of k06. -/
namespace WK
open PySem L2 PyProof.Rows LCX K1 FV DP LamX
open TX (sg sigs)
open PySem.W (Frag kitOne)
abbrev sLawB : Stmt := top 65
abbrev NLw : List Str := ["_law_script", "_law_spot", "_law_dice_here", "_law_turn"]
def spLawB (K : Frag) (T : List (Addr × Str)) : Sp := fun vs H Q _ => ∃ (s : Addr) (ns : List Int), vs = [.ref s] ∧ SqL K H s (ns.map V.int) ∧ ns.length ≤ 63 ∧ Tabs T H ∧ ∀ H', Q (.bl true) H'
theorem seqN {K : Frag} {H H' : Hp} {a : Addr} {xs : List V} (e : ExtN H H') (h : SqL K H a xs) : SqL K H' a xs := by
  rcases h with (h | ⟨o, h⟩) | h
  · exact .inl (.inl (e _ _ h fun _ z => nomatch z))
  · exact .inl (.inr ⟨o, e _ _ h fun _ z => nomatch z⟩)
  · exact .inr h
theorem BoxAt.grow {C : Addr} {H H' : Hp} {o : Addr} {L : W} {tb : List (List Int)} (h : BoxAt C H o L tb) (e : ExtN H H') : BoxAt C H' o L tb := by
  obtain ⟨dx, r, h1, h2⟩ := h
  exact ⟨dx, r, e _ _ h1 (fun _ z => nomatch z), h2.keep fun q xs hq => e _ _ hq fun _ z => nomatch z⟩
/-! ### the letters a and b -/
def ab : W := [97, 98]
theorem ab_is : ("ab" : Str) = tx ab := by decide +kernel
theorem let_ab : Let ab := ⟨by unfold Low; decide, by decide, by decide, by decide⟩
abbrev tCk : List (List Int) := (exAll (cntF ab 1 2) ab (zeros ab) 9).2
abbrev tCp : List (List Int) := (exAll (cntF ab 1 1) ab (zeros ab) 4).2
abbrev tRs : List (List Int) := (exAll (cntF ab 0 2) ab (zeros ab) 4).2
theorem d_ck : Done (cntF ab 1 2) ab (zeros ab) 9 := ⟨by decide +kernel, by decide⟩
theorem d_cp : Done (cntF ab 1 1) ab (zeros ab) 4 := ⟨by decide +kernel, by decide⟩
theorem d_rs : Done (cntF ab 0 2) ab (zeros ab) 4 := ⟨by decide +kernel, by decide⟩
theorem d_wn : Done (lastF 2) ab [] 7 := ⟨by decide +kernel, by decide⟩
theorem d_pr : Done (pairF tCp tRs) (List.range 2) [0, 0] 9 := ⟨by decide +kernel, by decide⟩
theorem n_wn : (exAll (lastF 2) ab [] 7).2.length = 7 := by decide +kernel
theorem both_ab : tCk = (exAll (pairF tCp tRs) (List.range 2) [0, 0] 9).2 := by decide +kernel
section
variable {P : Program} {w : World} {K : PySem.W.Frag} {mg : Str → Option Value} {base : Heap} {C : Addr} {mc : Value} {gN gE gS gC gA : Addr} {T : List (Addr × Str)}
variable {fD fRi : Addr} {dD dRi : FuncData}
theorem scLw : FnScope NLw ["_law_script"] (defScope sLawB) := ⟨rfl, rfl, rfl, by decide +kernel, rfl, by decide +kernel, by decide +kernel⟩
theorem ok_lawB {f : Addr} {fd : FuncData} (F : Fun K "law" "law" sLawB f fd) (TT : TN mg) (M : TMkr P w K mg base C mc T) (Mt : TMt P w K mg base C gN gE gS gC gA)
    (AD : Fn K mg "_law_dice" sDice ["_law_script", "_law_at"] fD dD) (GD : FnOk P w K mg base CX0 1 fD dD ["_law_script", "_law_at"] (spDice K))
    (ARi : Fn K mg "_law_right" sLRight ["_law_dice_here"] fRi dRi) (GRi : FnOk P w K mg base CX0 11 fRi dRi ["_law_dice_here"] (spLRight T)) : FnOk P w K mg base CX0 12 f fd ["_law_script"] (spLawB K T) := by
  obtain ⟨rd, gB, ⟨p1, g1, c1, f1⟩, _, _, ⟨p4, g4, c4, f4⟩, ⟨p5, g5, c5, f5⟩, ⟨p6, g6, c6, f6⟩⟩ := M
  refine F.ok scLw (fun vs H Q E h => ?_) (fun cdv A outer s H vs Q E hr h => ?_)
  · obtain ⟨s, ns, rfl, _⟩ := h
    rfl
  · obtain ⟨sc, ns, rfl, hS, hl, hT, q⟩ := h
    have hr1 : Room 1 _ := hr.mono (by decide)
    have hr2 : Room 2 _ := hr.mono (by decide)
    have hr5 : Room 5 _ := hr.mono (by decide)
    have hr7 : Room 7 _ := hr.mono (by decide)
    have hr9 : Room 9 _ := hr.mono (by decide)
    have hr11 : Room 11 _ := hr.mono (by decide)
    refine ⟨_, pss_cons (ps_for PassesOwn.never rfl (pi_range1 rfl TT.rng (pa_cons (pe_callB (call_max2 rfl) (by rfl) TT.max (by decide +kernel) (pa_cons pe_int (pa_cons (pe_callB (call_min2 rfl) (by rfl) TT.min (by decide +kernel) (pa_cons pe_int (pa_cons (pe_callB call_len_seq (by rfl) TT.len PySem.boot_len (pa_cons (pv 0) pa_nil)) pa_nil))) pa_nil))) pa_nil)) (pg_name (i := 1) scLw.nd rfl (Or.inl rfl))
        (pss_cons (ps_set (i := 2) scLw.nd rfl (Or.inl rfl) (pe_call GD hr1 rfl AD.g AD.F.kp AD.b .nil pass0 (pa_cons (pv 0) (pa_cons (pv 1) pa_nil))))
        (pss_one (ps_for PassesOwn.never rfl (pi_range1 rfl TT.rng (pa_cons pe_int pa_nil)) (pg_name (i := 3) scLw.nd rfl (Or.inl rfl))
          (pss_one (ps_if (pt_not (pt_val (pe_call GRi hr11 rfl ARi.g ARi.F.kp ARi.b .nil pass0 (pa_cons (pv 2) pa_nil)))) (pss_one (ps_ret pe_bl)) pss_nil))))))
      (pss_one (ps_ret (pe_and (pe_cmpR (OWN.op_eqO Mt.eAt Mt.eFn Mt.nl Mt.eR hr1) (ClX.pe_cmeth (E := E0) (pe_glob rfl gB (show RelV (.ref C) (.ref C) from rfl)) rd c6 f6 hr7 pass0 (pa_cons pe_str (pa_cons pe_int (pa_cons pe_int pa_nil))))
          (pe_op (OWN.op_binO Mt.aAt Mt.aFn Mt.sf Mt.aR hr5) (ClX.pe_cmeth (E := E0) (pe_glob rfl gB (show RelV (.ref C) (.ref C) from rfl)) rd c4 f4 hr7 pass0 (pa_cons pe_str (pa_cons pe_int pa_nil))) (ClX.pe_cmeth (E := E0) (pe_glob rfl gB (show RelV (.ref C) (.ref C) from rfl)) rd c5 f5 hr7 pass0 (pa_cons pe_str (pa_cons pe_int pa_nil)))) (nomark _))
        (pe_one (pe_cmpR op_eq (pe_callB (OWN.call_lenO Mt.nAt Mt.nFn Mt.nR hr2) (by rfl) TT.len PySem.boot_len (pa_cons (ClX.pe_cmeth (E := E0) (pe_glob rfl gB (show RelV (.ref C) (.ref C) from rfl)) rd c1 f1 hr9 pass0 (pa_cons pe_str (pa_cons pe_int pa_nil))) pa_nil)) pe_int (nomark _)))))), ?_⟩
    have len : ((ns.map V.int).length : Int) ≤ 63 := by
      rw [List.length_map]
      omega
    have len0 : (0 : Int) ≤ ((ns.map V.int).length : Int) := Int.natCast_nonneg _
    refine ⟨_, rfl, sc, _, rfl, .inl hS, _, _, rfl, _, _, rfl, _, rfl, by split <;> split <;> omega, by split <;> split <;> omega, ?_⟩
    refine for_range (lo := 0) (fun i σ H1 => (∃ a b c, σ = [some (.ref sc), a, b, c]) ∧ ExtN H H1 ∧ Tabs T H1) ⟨⟨_, _, _, rfl⟩, ExtN.refl H, hT⟩ ?_ ?_
    · rintro i σ H1 hi ⟨⟨a, b, c, rfl⟩, s1, t1⟩
      refine ⟨_, rfl, _, rfl, sc, ns, _, rfl, seqN s1 hS, by omega, fun p H2 hp s2 hD => ?_⟩
      refine ⟨2, rfl, by omega, by omega, ?_⟩
      have free : ∀ b o, H b = some o → (∀ ps, o ≠ .tbl ps) → b ≠ p := fun b o e n => ne_of_none (s1 b o e n) hp
      refine for_range (lo := 0) (n := 2) (fun j σ H3 => (∃ a c, σ = [some (.ref sc), a, some (.ref p), c]) ∧ ExtN H H3 ∧ DiceAt H3 p ∧ Tabs T H3) ⟨⟨_, _, rfl⟩, fun b o e n => s2 _ _ (s1 b o e n), hD, t1.ext s2⟩ ?_ ?_
      · rintro j σ H3 hj ⟨⟨a, c, rfl⟩, s3, hD3, t3⟩
        refine ⟨_, rfl, p, rfl, hD3, t3, fun H4 hD4 b4 t4 => ⟨true, rfl, ?_⟩⟩
        exact ⟨⟨_, _, rfl⟩, fun b o e n => b4 _ _ (s3 b o e n) (free b o e n) n, hD4, t4⟩
      · rintro σ H3 ⟨⟨a, c, rfl⟩, s3, hD3, t3⟩
        exact ⟨⟨_, _, _, rfl⟩, s3, t3⟩
    rintro σ H1 ⟨⟨a, b, c, rfl⟩, _, t1⟩
    refine ⟨rfl, ab, 1, 2, by rw [ab_is] <;> rfl, by decide, by decide, by decide, by decide, let_ab, t1, 9, exAll_most (Nat.le_of_eq d_ck.len), by decide, fun o1 H2 n1 gr1 bx1 => ?_⟩
    refine ⟨rfl, ab, 1, by rw [ab_is] <;> rfl, by decide, by decide, let_ab, gr1.2.1, 4, exAll_most (Nat.le_of_eq d_cp.len), by decide, fun o2 H3 n2 gr2 bx2 => ?_⟩
    refine ⟨rfl, ab, 2, by rw [ab_is] <;> rfl, by decide, by decide, let_ab, gr2.2.1, 4, exAll_most (Nat.le_of_eq d_rs.len), by decide, fun o3 H4 n3 gr3 bx3 => ?_⟩
    have bx2 := bx2.grow gr3.1
    have bx1 := (bx1.grow gr2.1).grow gr3.1
    have t4 := gr3.2.1
    obtain ⟨x2, r2, i2, _⟩ := id bx2
    obtain ⟨x3, r3, i3, _⟩ := id bx3
    refine ⟨o2, x2, _, o3, x3, _, rfl, rfl, i2, i3, o2, o3, ab, tCp, tRs, 4, 4, 9, rfl, bx2, bx3, let_ab, d_cp.tab, d_rs.tab, by decide, by decide, by decide, by decide, exAll_most (Nat.le_of_eq d_pr.len), by decide, fun o4 H5 n4 s5 bx4 => ?_⟩
    have t5 := t4.ext s5
    have bx1 := bx1.same s5
    obtain ⟨x1, r1, i1, _⟩ := id bx1
    obtain ⟨x4, r4, i4, _⟩ := id bx4
    refine ⟨o4, rfl, o1, x1, _, o4, rfl, rfl, i1, .inl ⟨x4, _, i4⟩, o1, o4, ab, ab, _, _, rfl, bx1, bx4, _, rfl, ?_⟩
    refine ⟨true, congrArg V.bl (decide_eq_true ⟨rfl, both_ab⟩), ?_⟩
    refine ⟨rfl, ab, 2, 7, by rw [ab_is] <;> rfl, let_ab, by decide, t5, exAll_most (Nat.le_of_eq d_wn.len), by decide, fun o5 H6 n5 gr6 bx5 => ?_⟩
    obtain ⟨x5, r5, i5, _⟩ := id bx5
    refine ⟨o5, x5, _, rfl, i5, o5, ab, _, rfl, bx5, 7, congrArg (fun z : Nat => V.int (z : Int)) n_wn, by decide, rfl, ?_⟩
    exact q _
end
end WK

set_option Elab.async false
set_option linter.all false
set_option maxRecDepth 100000
set_option maxHeartbeats 8000000
/-! The end of k06. -/
namespace WK
open PySem L2 PyProof.Rows LCX K1 FV DP LamX
open TX (sg sigs)
open PySem.W (Frag kitOne)

theorem binds_one {K : Frag} {f T : Addr} {e : Value} {j : Option Addr} {u : Value} {m : Nat} {wv : Array (Option Value)} (lt : K.lookup T = some ⟨e, j, .seq #[u] m, wv⟩) {fd : FuncData} {a b c d : Str} (hd : fd.defaults = .ref T)
    (hb : ∀ x1 x2 x3 x4 : Value, ∃ k, bindArgs fd ⟨[x1, x2, x3, x4], []⟩ = seqItems? fd.defaults >>= k ∧ k (some #[u]) = pure [(a, x1), (b, x2), (c, x3), (d, x4)]) : L2.Binds K fd [a, b, c, d] [] := fun s us hin hl => by
  match us, hl with
  | [x1, x2, x3, x4], _ =>
    obtain ⟨k, h1, h2⟩ := hb x1 x2 x3 x4
    exact PySem.W.binds_K hin hd lt rfl h1 h2
theorem one_of4 {PW PE PP PN : Addr} (h : decide ([PW, PE, PP, PN].Nodup) = true) : PW ≠ PE ∧ PW ≠ PP ∧ PW ≠ PN ∧ PE ≠ PP ∧ PE ≠ PN ∧ PP ≠ PN := by
  have := of_decide_eq_true h
  simp only [List.nodup_cons, List.mem_cons, List.not_mem_nil, or_false, not_or] at this
  obtain ⟨⟨a, b, c⟩, ⟨d, e⟩, f, _⟩ := this
  exact ⟨a, b, c, d, e, f⟩
theorem all_mk {l : PySem.W.OpenLaw} {w : World} {K : Frag} {h : Heap} {mg : Str → Option Value} {C cD fa cW cE cP cN PW PE PP PN pW pE pP pA pR pK pl pt t3 t4 f0 f1 f2 f3 f4 f5 f6 f7 f8 f9 f10 f11 f12 f13 f14 f15 f16 f17 f18 f19 f20 f21 f22 f23 f24 f25 f26 f27 f28 f29 f30 f31 f32 f33 f34 f35 f36 f37 f38 f39 f40 f41 f42 f43 f44 f45 f46 f47 f48 f49 f50 f51 f52 f53 f54 : Addr} (X : K.In h) (G : h.Ns mainGlobals mg) (hfa : mg "law" = some (.ref fa))
    {rW rE rP rA rR rK rl rt : List Value} {xMAX_MADE x_MAX_SIZE x_MAX_PIECES x_MAX_CAP x_MAX_MODULUS xMAX_LETTERS : Tok} {e3 u3 e4 u4 : Value} {j3 j4 : Option Addr} {m3 m4 : Nat} {w3 w4 : Array (Option Value)} {od0 an0 od1 an1 od2 an2 od3 an3 od4 an4 od5 an5 od6 an6 od7 an7 od8 an8 od9 an9 od10 an10 od11 an11 od12 an12 od13 an13 od14 an14 od15 an15 od16 an16 od17 an17 od18 an18 od19 an19 od20 an20 od21 an21 od22 an22 od23 an23 od24 an24 od25 an25 od26 an26 od27 an27 od28 an28 od29 an29 od30 an30 od31 an31 od32 an32 od33 an33 od34 an34 od35 an35 od36 an36 od37 an37 od38 an38 od39 an39 od40 an40 od41 an41 od42 an42 od43 an43 od44 an44 od45 an45 od46 an46 od47 an47 od48 an48 od49 an49 od50 an50 od51 an51 od52 an52 od53 an53 od54 an54 : Option Addr} {sl0 sl1 sl2 sl3 sl4 sl5 sl6 sl7 sl8 sl9 sl10 sl11 sl12 sl13 sl14 sl15 sl16 sl17 sl18 sl19 sl20 sl21 sl22 sl23 sl24 sl25 sl26 sl27 sl28 sl29 sl30 sl31 sl32 sl33 sl34 sl35 sl36 sl37 sl38 sl39 sl40 sl41 sl42 sl43 sl44 sl45 sl46 sl47 sl48 sl49 sl50 sl51 sl52 sl53 sl54 : Array (Option Value)} {oc0 kV0 dc0 pm0 ct0 cd0 oc1 kV1 dc1 pm1 ct1 cd1 oc2 kV2 dc2 pm2 ct2 cd2 oc3 kV3 dc3 pm3 ct3 cd3 oc4 kV4 dc4 pm4 ct4 cd4 oc5 kV5 dc5 pm5 ct5 cd5 oc6 kV6 dc6 pm6 ct6 cd6 oc7 kV7 dc7 pm7 ct7 cd7 oc8 kV8 dc8 pm8 ct8 cd8 oc9 kV9 dc9 pm9 ct9 cd9 oc10 kV10 dc10 pm10 ct10 cd10 oc11 kV11 dc11 pm11 ct11 cd11 oc12 kV12 dc12 pm12 ct12 cd12 oc13 kV13 dc13 pm13 ct13 cd13 oc14 kV14 dc14 pm14 ct14 cd14 oc15 kV15 dc15 pm15 ct15 cd15 oc16 kV16 dc16 pm16 ct16 cd16 oc17 kV17 dc17 pm17 ct17 cd17 oc18 kV18 dc18 pm18 ct18 cd18 oc19 kV19 dc19 pm19 ct19 cd19 oc20 kV20 dc20 pm20 ct20 cd20 oc21 kV21 dc21 pm21 ct21 oc22 kV22 dc22 pm22 ct22 cd22 oc23 kV23 dc23 pm23 ct23 cd23 oc24 kV24 dc24 pm24 ct24 cd24 oc25 kV25 dc25 pm25 ct25 cd25 oc26 kV26 dc26 pm26 ct26 cd26 oc27 kV27 dc27 pm27 ct27 cd27 oc28 kV28 dc28 pm28 ct28 cd28 oc29 kV29 dc29 pm29 ct29 cd29 oc30 kV30 dc30 pm30 ct30 cd30 oc31 kV31 dc31 pm31 ct31 cd31 oc32 kV32 dc32 pm32 ct32 cd32 oc33 kV33 dc33 pm33 ct33 cd33 oc34 kV34 dc34 pm34 ct34 cd34 oc35 kV35 dc35 pm35 ct35 cd35 oc36 kV36 dc36 pm36 ct36 cd36 oc37 kV37 dc37 pm37 ct37 cd37 oc38 kV38 dc38 pm38 ct38 cd38 oc39 kV39 dc39 pm39 ct39 cd39 oc40 kV40 dc40 pm40 ct40 cd40 oc41 kV41 dc41 pm41 ct41 oc42 kV42 dc42 pm42 ct42 oc43 kV43 dc43 pm43 ct43 oc44 kV44 dc44 pm44 ct44 cd44 oc45 kV45 dc45 pm45 ct45 cd45 oc46 kV46 dc46 pm46 ct46 cd46 oc47 kV47 dc47 pm47 ct47 cd47 oc48 kV48 dc48 pm48 ct48 cd48 oc49 kV49 dc49 pm49 ct49 cd49 oc50 kV50 dc50 pm50 ct50 cd50 oc51 kV51 dc51 pm51 ct51 cd51 oc52 kV52 dc52 pm52 ct52 cd52 oc53 kV53 dc53 pm53 ct53 cd53 oc54 kV54 dc54 pm54 ct54 cd54 : Value}
    (gC : PySem.W.nsIn K mainGlobals "Box" = some (some (.ref C)))
    (gD : PySem.W.nsIn K mainGlobals "Made" = some (some (.ref cD)))
    (pgb : PySem.W.plainGet K C Str.empty = true)
    (hdb : PySem.W.hasDictIn K C = true)
    (pob : PySem.W.plainOver K C = true)
    (sab : PySem.W.findIn K (.ref C) "__setattr__" = some (some (.builtin "object.__setattr__")))
    (ccb : PySem.W.findIn K (.ref C) "__class__" = some (some (.builtin "object.__class__")))
    (obb : PySem.W.mroIn K C (.type "object") = some true)
    (mkb : PySem.W.makesIn K C = true)
    (kCb : PySem.W.keepIn K (.ref C) = true)
    (pgd : PySem.W.plainGet K cD Str.empty = true)
    (hdd : PySem.W.hasDictIn K cD = true)
    (pod : PySem.W.plainOver K cD = true)
    (sad : PySem.W.findIn K (.ref cD) "__setattr__" = some (some (.builtin "object.__setattr__")))
    (ccd : PySem.W.findIn K (.ref cD) "__class__" = some (some (.builtin "object.__class__")))
    (obd : PySem.W.mroIn K cD (.type "object") = some true)
    (mkd : PySem.W.makesIn K cD = true)
    (kCd : PySem.W.keepIn K (.ref cD) = true)
    (cn : PySem.W.specialIn K (.builtin "object.__class__") "__get__" = some (some (.builtin "getset_descriptor.__get__")))
    (ct : PySem.W.takesIn K (.builtin "object.__class__") = some true)
    (nT : PySem.W.findIn K (.ref C) "_table" = some none)
    (nL : PySem.W.findIn K (.ref C) "_letters" = some none)
    (nR : PySem.W.findIn K (.ref cD) "rows" = some none)
    (iD : PySem.W.findIn K (.ref cD) "__init__" = some (some (.ref f39)))
    (iB : PySem.W.findIn K (.ref C) "__init__" = some (some (.ref f40)))
    (rd : PySem.W.readsIn K C (.type "type") = true)
    (ga : PySem.W.specialIn K (.ref C) "__getattribute__" = some (some (.builtin "type.__getattribute__")))
    (cmW : PySem.W.findCls K (.ref C) (.type "type") "window" = some (PySem.W.CFound.get (.builtin "classmethod.__get__") (.ref pW) .none (.ref C)))
    (crW : PySem.W.recIn K pW "classmethod" = some (.ref f41 :: rW))
    (cfW : PySem.W.fnIn K f41 = true)
    (cmE : PySem.W.findCls K (.ref C) (.type "type") "heads" = some (PySem.W.CFound.get (.builtin "classmethod.__get__") (.ref pE) .none (.ref C)))
    (crE : PySem.W.recIn K pE "classmethod" = some (.ref f42 :: rE))
    (cfE : PySem.W.fnIn K f42 = true)
    (cmP : PySem.W.findCls K (.ref C) (.type "type") "pieces" = some (PySem.W.CFound.get (.builtin "classmethod.__get__") (.ref pP) .none (.ref C)))
    (crP : PySem.W.recIn K pP "classmethod" = some (.ref f43 :: rP))
    (cfP : PySem.W.fnIn K f43 = true)
    (cmA : PySem.W.findCls K (.ref C) (.type "type") "caps" = some (PySem.W.CFound.get (.builtin "classmethod.__get__") (.ref pA) .none (.ref C)))
    (crA : PySem.W.recIn K pA "classmethod" = some (.ref f44 :: rA))
    (cfA : PySem.W.fnIn K f44 = true)
    (cmR : PySem.W.findCls K (.ref C) (.type "type") "rests" = some (PySem.W.CFound.get (.builtin "classmethod.__get__") (.ref pR) .none (.ref C)))
    (crR : PySem.W.recIn K pR "classmethod" = some (.ref f45 :: rR))
    (cfR : PySem.W.fnIn K f45 = true)
    (cmK : PySem.W.findCls K (.ref C) (.type "type") "clerk" = some (PySem.W.CFound.get (.builtin "classmethod.__get__") (.ref pK) .none (.ref C)))
    (crK : PySem.W.recIn K pK "classmethod" = some (.ref f46 :: rK))
    (cfK : PySem.W.fnIn K f46 = true)
    (pal : PySem.W.findIn K (.ref C) "letters" = some (some (.ref pl)))
    (pg_l : PySem.W.specialIn K (.ref pl) "__get__" = some (some (.builtin "property.__get__")))
    (pt_l : PySem.W.takesIn K (.ref pl) = some true)
    (pr_l : PySem.W.recIn K pl "property" = some (.ref f47 :: rl))
    (pat : PySem.W.findIn K (.ref C) "table" = some (some (.ref pt)))
    (pg_t : PySem.W.specialIn K (.ref pt) "__get__" = some (some (.builtin "property.__get__")))
    (pt_t : PySem.W.takesIn K (.ref pt) = some true)
    (pr_t : PySem.W.recIn K pt "property" = some (.ref f48 :: rt))
    (a49 : PySem.W.findIn K (.ref C) "__call__" = some (some (.ref f49)))
    (a50 : PySem.W.findIn K (.ref C) "lean" = some (some (.ref f50)))
    (a51 : PySem.W.findIn K (.ref C) "__and__" = some (some (.ref f51)))
    (a52 : PySem.W.findIn K (.ref C) "__len__" = some (some (.ref f52)))
    (a53 : PySem.W.findIn K (.ref C) "__eq__" = some (some (.ref f53)))
    (a54 : PySem.W.findIn K (.ref C) "__str__" = some (some (.ref f54)))
    (n49 : PySem.W.isFn K (.ref f49) = true)
    (n50 : PySem.W.isFn K (.ref f50) = true)
    (n51 : PySem.W.isFn K (.ref f51) = true)
    (n52 : PySem.W.isFn K (.ref f52) = true)
    (n53 : PySem.W.isFn K (.ref f53) = true)
    (n54 : PySem.W.isFn K (.ref f54) = true)
    (n40 : PySem.W.isFn K (.ref f40) = true)
    (n39 : PySem.W.isFn K (.ref f39) = true)
    (fiC : PySem.W.fnIn K f49 = true)
    (ne : PySem.W.findIn K (.ref C) "__ne__" = some (some (.builtin "object.__ne__")))
    (nf : PySem.W.notFirst K C (.type "list") = true)
    (sf : PySem.W.selfFirst K C = true)
    (ki : kitOne K (.ref C) (.ref C) = some true)
    (d0 : PySem.W.nsIn K mainGlobals "led" = some (some (.ref f0)))
    (l0 : K.lookup f0 = some ⟨oc0, od0, .func (PySem.W.fnOf "led" "led" (defArgs sLed) (defBody sLed) (defScope sLed) .none kV0 dc0 pm0 an0 cd0 ct0), sl0⟩)
    (q0 : PySem.W.codeIn K cd0 "led" = true)
    (k0 : PySem.W.keepIn K (.ref f0) = true)
    (d1 : PySem.W.nsIn K mainGlobals "ways" = some (some (.ref f1)))
    (l1 : K.lookup f1 = some ⟨oc1, od1, .func (PySem.W.fnOf "ways" "ways" (defArgs sWays) (defBody sWays) (defScope sWays) .none kV1 dc1 pm1 an1 cd1 ct1), sl1⟩)
    (q1 : PySem.W.codeIn K cd1 "ways" = true)
    (k1 : PySem.W.keepIn K (.ref f1) = true)
    (d2 : PySem.W.nsIn K mainGlobals "trimmed" = some (some (.ref f2)))
    (l2 : K.lookup f2 = some ⟨oc2, od2, .func (PySem.W.fnOf "trimmed" "trimmed" (defArgs sTrim) (defBody sTrim) (defScope sTrim) .none kV2 dc2 pm2 an2 cd2 ct2), sl2⟩)
    (q2 : PySem.W.codeIn K cd2 "trimmed" = true)
    (k2 : PySem.W.keepIn K (.ref f2) = true)
    (d3 : PySem.W.nsIn K mainGlobals "paired" = some (some (.ref f3)))
    (l3 : K.lookup f3 = some ⟨oc3, od3, .func (PySem.W.fnOf "paired" "paired" (defArgs sPaired) (defBody sPaired) (defScope sPaired) (.ref t3) kV3 dc3 pm3 an3 cd3 ct3), sl3⟩)
    (q3 : PySem.W.codeIn K cd3 "paired" = true)
    (k3 : PySem.W.keepIn K (.ref f3) = true)
    (d4 : PySem.W.nsIn K mainGlobals "explored" = some (some (.ref f4)))
    (l4 : K.lookup f4 = some ⟨oc4, od4, .func (PySem.W.fnOf "explored" "explored" (defArgs sExpl) (defBody sExpl) (defScope sExpl) (.ref t4) kV4 dc4 pm4 an4 cd4 ct4), sl4⟩)
    (q4 : PySem.W.codeIn K cd4 "explored" = true)
    (k4 : PySem.W.keepIn K (.ref f4) = true)
    (d5 : PySem.W.nsIn K mainGlobals "is_integer" = some (some (.ref f5)))
    (l5 : K.lookup f5 = some ⟨oc5, od5, .func (PySem.W.fnOf "is_integer" "is_integer" (defArgs sIsInt) (defBody sIsInt) (defScope sIsInt) .none kV5 dc5 pm5 an5 cd5 ct5), sl5⟩)
    (q5 : PySem.W.codeIn K cd5 "is_integer" = true)
    (k5 : PySem.W.keepIn K (.ref f5) = true)
    (d6 : PySem.W.nsIn K mainGlobals "is_number" = some (some (.ref f6)))
    (l6 : K.lookup f6 = some ⟨oc6, od6, .func (PySem.W.fnOf "is_number" "is_number" (defArgs sIsNum) (defBody sIsNum) (defScope sIsNum) .none kV6 dc6 pm6 an6 cd6 ct6), sl6⟩)
    (q6 : PySem.W.codeIn K cd6 "is_number" = true)
    (k6 : PySem.W.keepIn K (.ref f6) = true)
    (d7 : PySem.W.nsIn K mainGlobals "need_number" = some (some (.ref f7)))
    (l7 : K.lookup f7 = some ⟨oc7, od7, .func (PySem.W.fnOf "need_number" "need_number" (defArgs sNeedNum) (defBody sNeedNum) (defScope sNeedNum) .none kV7 dc7 pm7 an7 cd7 ct7), sl7⟩)
    (q7 : PySem.W.codeIn K cd7 "need_number" = true)
    (k7 : PySem.W.keepIn K (.ref f7) = true)
    (d8 : PySem.W.nsIn K mainGlobals "ascends" = some (some (.ref f8)))
    (l8 : K.lookup f8 = some ⟨oc8, od8, .func (PySem.W.fnOf "ascends" "ascends" (defArgs sAsc) (defBody sAsc) (defScope sAsc) .none kV8 dc8 pm8 an8 cd8 ct8), sl8⟩)
    (q8 : PySem.W.codeIn K cd8 "ascends" = true)
    (k8 : PySem.W.keepIn K (.ref f8) = true)
    (d9 : PySem.W.nsIn K mainGlobals "is_letters" = some (some (.ref f9)))
    (l9 : K.lookup f9 = some ⟨oc9, od9, .func (PySem.W.fnOf "is_letters" "is_letters" (defArgs sIsLet) (defBody sIsLet) (defScope sIsLet) .none kV9 dc9 pm9 an9 cd9 ct9), sl9⟩)
    (q9 : PySem.W.codeIn K cd9 "is_letters" = true)
    (k9 : PySem.W.keepIn K (.ref f9) = true)
    (d10 : PySem.W.nsIn K mainGlobals "is_word" = some (some (.ref f10)))
    (l10 : K.lookup f10 = some ⟨oc10, od10, .func (PySem.W.fnOf "is_word" "is_word" (defArgs sIsWord) (defBody sIsWord) (defScope sIsWord) .none kV10 dc10 pm10 an10 cd10 ct10), sl10⟩)
    (q10 : PySem.W.codeIn K cd10 "is_word" = true)
    (k10 : PySem.W.keepIn K (.ref f10) = true)
    (d11 : PySem.W.nsIn K mainGlobals "is_over" = some (some (.ref f11)))
    (l11 : K.lookup f11 = some ⟨oc11, od11, .func (PySem.W.fnOf "is_over" "is_over" (defArgs sIsOver) (defBody sIsOver) (defScope sIsOver) .none kV11 dc11 pm11 an11 cd11 ct11), sl11⟩)
    (q11 : PySem.W.codeIn K cd11 "is_over" = true)
    (k11 : PySem.W.keepIn K (.ref f11) = true)
    (d12 : PySem.W.nsIn K mainGlobals "need_letters" = some (some (.ref f12)))
    (l12 : K.lookup f12 = some ⟨oc12, od12, .func (PySem.W.fnOf "need_letters" "need_letters" (defArgs sNeedLet) (defBody sNeedLet) (defScope sNeedLet) .none kV12 dc12 pm12 an12 cd12 ct12), sl12⟩)
    (q12 : PySem.W.codeIn K cd12 "need_letters" = true)
    (k12 : PySem.W.keepIn K (.ref f12) = true)
    (d13 : PySem.W.nsIn K mainGlobals "need_word" = some (some (.ref f13)))
    (l13 : K.lookup f13 = some ⟨oc13, od13, .func (PySem.W.fnOf "need_word" "need_word" (defArgs sNeedWord) (defBody sNeedWord) (defScope sNeedWord) .none kV13 dc13 pm13 an13 cd13 ct13), sl13⟩)
    (q13 : PySem.W.codeIn K cd13 "need_word" = true)
    (k13 : PySem.W.keepIn K (.ref f13) = true)
    (d14 : PySem.W.nsIn K mainGlobals "need_over" = some (some (.ref f14)))
    (l14 : K.lookup f14 = some ⟨oc14, od14, .func (PySem.W.fnOf "need_over" "need_over" (defArgs sNeedOver) (defBody sNeedOver) (defScope sNeedOver) .none kV14 dc14 pm14 an14 cd14 ct14), sl14⟩)
    (q14 : PySem.W.codeIn K cd14 "need_over" = true)
    (k14 : PySem.W.keepIn K (.ref f14) = true)
    (d15 : PySem.W.nsIn K mainGlobals "last_letters" = some (some (.ref f15)))
    (l15 : K.lookup f15 = some ⟨oc15, od15, .func (PySem.W.fnOf "last_letters" "last_letters" (defArgs sLast) (defBody sLast) (defScope sLast) .none kV15 dc15 pm15 an15 cd15 ct15), sl15⟩)
    (q15 : PySem.W.codeIn K cd15 "last_letters" = true)
    (k15 : PySem.W.keepIn K (.ref f15) = true)
    (d16 : PySem.W.nsIn K mainGlobals "first_letters" = some (some (.ref f16)))
    (l16 : K.lookup f16 = some ⟨oc16, od16, .func (PySem.W.fnOf "first_letters" "first_letters" (defArgs sFirst) (defBody sFirst) (defScope sFirst) .none kV16 dc16 pm16 an16 cd16 ct16), sl16⟩)
    (q16 : PySem.W.codeIn K cd16 "first_letters" = true)
    (k16 : PySem.W.keepIn K (.ref f16) = true)
    (d17 : PySem.W.nsIn K mainGlobals "need_same_letters" = some (some (.ref f17)))
    (l17 : K.lookup f17 = some ⟨oc17, od17, .func (PySem.W.fnOf "need_same_letters" "need_same_letters" (defArgs sSame) (defBody sSame) (defScope sSame) .none kV17 dc17 pm17 an17 cd17 ct17), sl17⟩)
    (q17 : PySem.W.codeIn K cd17 "need_same_letters" = true)
    (k17 : PySem.W.keepIn K (.ref f17) = true)
    (d18 : PySem.W.nsIn K mainGlobals "need_box" = some (some (.ref f18)))
    (l18 : K.lookup f18 = some ⟨oc18, od18, .func (PySem.W.fnOf "need_box" "need_box" (defArgs sNeedBox) (defBody sNeedBox) (defScope sNeedBox) .none kV18 dc18 pm18 an18 cd18 ct18), sl18⟩)
    (q18 : PySem.W.codeIn K cd18 "need_box" = true)
    (k18 : PySem.W.keepIn K (.ref f18) = true)
    (d19 : PySem.W.nsIn K mainGlobals "_grown" = some (some (.ref f19)))
    (l19 : K.lookup f19 = some ⟨oc19, od19, .func (PySem.W.fnOf "_grown" "_grown" (defArgs sGrown) (defBody sGrown) (defScope sGrown) .none kV19 dc19 pm19 an19 cd19 ct19), sl19⟩)
    (q19 : PySem.W.codeIn K cd19 "_grown" = true)
    (k19 : PySem.W.keepIn K (.ref f19) = true)
    (d20 : PySem.W.nsIn K mainGlobals "_with_pieces" = some (some (.ref f20)))
    (l20 : K.lookup f20 = some ⟨oc20, od20, .func (PySem.W.fnOf "_with_pieces" "_with_pieces" (defArgs sWith) (defBody sWith) (defScope sWith) .none kV20 dc20 pm20 an20 cd20 ct20), sl20⟩)
    (q20 : PySem.W.codeIn K cd20 "_with_pieces" = true)
    (k20 : PySem.W.keepIn K (.ref f20) = true)
    (d21 : PySem.W.nsIn K mainGlobals "_counting" = some (some (.ref f21)))
    (l21 : K.lookup f21 = some ⟨oc21, od21, .func (PySem.W.fnOf "_counting" "_counting" (defArgs sCount) (defBody sCount) (defScope sCount) .none kV21 dc21 pm21 an21 (.ref cN) ct21), sl21⟩)
    (q21 : PySem.W.codeIn K (.ref cN) "_counting" = true)
    (k21 : PySem.W.keepIn K (.ref f21) = true)
    (d22 : PySem.W.nsIn K mainGlobals "_one_more" = some (some (.ref f22)))
    (l22 : K.lookup f22 = some ⟨oc22, od22, .func (PySem.W.fnOf "_one_more" "_one_more" (defArgs sOneM) (defBody sOneM) (defScope sOneM) .none kV22 dc22 pm22 an22 cd22 ct22), sl22⟩)
    (q22 : PySem.W.codeIn K cd22 "_one_more" = true)
    (k22 : PySem.W.keepIn K (.ref f22) = true)
    (d23 : PySem.W.nsIn K mainGlobals "_law_dice" = some (some (.ref f23)))
    (l23 : K.lookup f23 = some ⟨oc23, od23, .func (PySem.W.fnOf "_law_dice" "_law_dice" (defArgs sDice) (defBody sDice) (defScope sDice) .none kV23 dc23 pm23 an23 cd23 ct23), sl23⟩)
    (q23 : PySem.W.codeIn K cd23 "_law_dice" = true)
    (k23 : PySem.W.keepIn K (.ref f23) = true)
    (d24 : PySem.W.nsIn K mainGlobals "_law_roll" = some (some (.ref f24)))
    (l24 : K.lookup f24 = some ⟨oc24, od24, .func (PySem.W.fnOf "_law_roll" "_law_roll" (defArgs sRoll) (defBody sRoll) (defScope sRoll) .none kV24 dc24 pm24 an24 cd24 ct24), sl24⟩)
    (q24 : PySem.W.codeIn K cd24 "_law_roll" = true)
    (k24 : PySem.W.keepIn K (.ref f24) = true)
    (d25 : PySem.W.nsIn K mainGlobals "_law_one_of" = some (some (.ref f25)))
    (l25 : K.lookup f25 = some ⟨oc25, od25, .func (PySem.W.fnOf "_law_one_of" "_law_one_of" (defArgs sOne) (defBody sOne) (defScope sOne) .none kV25 dc25 pm25 an25 cd25 ct25), sl25⟩)
    (q25 : PySem.W.codeIn K cd25 "_law_one_of" = true)
    (k25 : PySem.W.keepIn K (.ref f25) = true)
    (d26 : PySem.W.nsIn K mainGlobals "_law_mixed" = some (some (.ref f26)))
    (l26 : K.lookup f26 = some ⟨oc26, od26, .func (PySem.W.fnOf "_law_mixed" "_law_mixed" (defArgs sMixed) (defBody sMixed) (defScope sMixed) .none kV26 dc26 pm26 an26 cd26 ct26), sl26⟩)
    (q26 : PySem.W.codeIn K cd26 "_law_mixed" = true)
    (k26 : PySem.W.keepIn K (.ref f26) = true)
    (d27 : PySem.W.nsIn K mainGlobals "_law_letters" = some (some (.ref f27)))
    (l27 : K.lookup f27 = some ⟨oc27, od27, .func (PySem.W.fnOf "_law_letters" "_law_letters" (defArgs sLetters) (defBody sLetters) (defScope sLetters) .none kV27 dc27 pm27 an27 cd27 ct27), sl27⟩)
    (q27 : PySem.W.codeIn K cd27 "_law_letters" = true)
    (k27 : PySem.W.keepIn K (.ref f27) = true)
    (d28 : PySem.W.nsIn K mainGlobals "_law_word" = some (some (.ref f28)))
    (l28 : K.lookup f28 = some ⟨oc28, od28, .func (PySem.W.fnOf "_law_word" "_law_word" (defArgs sWord) (defBody sWord) (defScope sWord) .none kV28 dc28 pm28 an28 cd28 ct28), sl28⟩)
    (q28 : PySem.W.codeIn K cd28 "_law_word" = true)
    (k28 : PySem.W.keepIn K (.ref f28) = true)
    (d29 : PySem.W.nsIn K mainGlobals "_law_counts" = some (some (.ref f29)))
    (l29 : K.lookup f29 = some ⟨oc29, od29, .func (PySem.W.fnOf "_law_counts" "_law_counts" (defArgs sLCounts) (defBody sLCounts) (defScope sLCounts) .none kV29 dc29 pm29 an29 cd29 ct29), sl29⟩)
    (q29 : PySem.W.codeIn K cd29 "_law_counts" = true)
    (k29 : PySem.W.keepIn K (.ref f29) = true)
    (d30 : PySem.W.nsIn K mainGlobals "_law_is_piece" = some (some (.ref f30)))
    (l30 : K.lookup f30 = some ⟨oc30, od30, .func (PySem.W.fnOf "_law_is_piece" "_law_is_piece" (defArgs sLIsP) (defBody sLIsP) (defScope sLIsP) .none kV30 dc30 pm30 an30 cd30 ct30), sl30⟩)
    (q30 : PySem.W.codeIn K cd30 "_law_is_piece" = true)
    (k30 : PySem.W.keepIn K (.ref f30) = true)
    (d31 : PySem.W.nsIn K mainGlobals "_law_all_words" = some (some (.ref f31)))
    (l31 : K.lookup f31 = some ⟨oc31, od31, .func (PySem.W.fnOf "_law_all_words" "_law_all_words" (defArgs sLAll) (defBody sLAll) (defScope sLAll) .none kV31 dc31 pm31 an31 cd31 ct31), sl31⟩)
    (q31 : PySem.W.codeIn K cd31 "_law_all_words" = true)
    (k31 : PySem.W.keepIn K (.ref f31) = true)
    (d32 : PySem.W.nsIn K mainGlobals "_law_pieces" = some (some (.ref f32)))
    (l32 : K.lookup f32 = some ⟨oc32, od32, .func (PySem.W.fnOf "_law_pieces" "_law_pieces" (defArgs sLPieces) (defBody sLPieces) (defScope sLPieces) .none kV32 dc32 pm32 an32 cd32 ct32), sl32⟩)
    (q32 : PySem.W.codeIn K cd32 "_law_pieces" = true)
    (k32 : PySem.W.keepIn K (.ref f32) = true)
    (d33 : PySem.W.nsIn K mainGlobals "_law_seen" = some (some (.ref f33)))
    (l33 : K.lookup f33 = some ⟨oc33, od33, .func (PySem.W.fnOf "_law_seen" "_law_seen" (defArgs sLSeen) (defBody sLSeen) (defScope sLSeen) .none kV33 dc33 pm33 an33 cd33 ct33), sl33⟩)
    (q33 : PySem.W.codeIn K cd33 "_law_seen" = true)
    (k33 : PySem.W.keepIn K (.ref f33) = true)
    (d34 : PySem.W.nsIn K mainGlobals "_law_made" = some (some (.ref f34)))
    (l34 : K.lookup f34 = some ⟨oc34, od34, .func (PySem.W.fnOf "_law_made" "_law_made" (defArgs sLMade) (defBody sLMade) (defScope sLMade) .none kV34 dc34 pm34 an34 cd34 ct34), sl34⟩)
    (q34 : PySem.W.codeIn K cd34 "_law_made" = true)
    (k34 : PySem.W.keepIn K (.ref f34) = true)
    (d35 : PySem.W.nsIn K mainGlobals "_law_total" = some (some (.ref f35)))
    (l35 : K.lookup f35 = some ⟨oc35, od35, .func (PySem.W.fnOf "_law_total" "_law_total" (defArgs sLTot) (defBody sLTot) (defScope sLTot) .none kV35 dc35 pm35 an35 cd35 ct35), sl35⟩)
    (q35 : PySem.W.codeIn K cd35 "_law_total" = true)
    (k35 : PySem.W.keepIn K (.ref f35) = true)
    (d36 : PySem.W.nsIn K mainGlobals "_law_power" = some (some (.ref f36)))
    (l36 : K.lookup f36 = some ⟨oc36, od36, .func (PySem.W.fnOf "_law_power" "_law_power" (defArgs sLPow) (defBody sLPow) (defScope sLPow) .none kV36 dc36 pm36 an36 cd36 ct36), sl36⟩)
    (q36 : PySem.W.codeIn K cd36 "_law_power" = true)
    (k36 : PySem.W.keepIn K (.ref f36) = true)
    (d37 : PySem.W.nsIn K mainGlobals "_law_right" = some (some (.ref f37)))
    (l37 : K.lookup f37 = some ⟨oc37, od37, .func (PySem.W.fnOf "_law_right" "_law_right" (defArgs sLRight) (defBody sLRight) (defScope sLRight) .none kV37 dc37 pm37 an37 cd37 ct37), sl37⟩)
    (q37 : PySem.W.codeIn K cd37 "_law_right" = true)
    (k37 : PySem.W.keepIn K (.ref f37) = true)
    (d38 : PySem.W.nsIn K mainGlobals "law" = some (some (.ref f38)))
    (l38 : K.lookup f38 = some ⟨oc38, od38, .func (PySem.W.fnOf "law" "law" (defArgs sLawB) (defBody sLawB) (defScope sLawB) .none kV38 dc38 pm38 an38 cd38 ct38), sl38⟩)
    (q38 : PySem.W.codeIn K cd38 "law" = true)
    (k38 : PySem.W.keepIn K (.ref f38) = true)
    (l39 : K.lookup f39 = some ⟨oc39, od39, .func (PySem.W.fnOf "__init__" "Made.__init__" (defArgs sMadeI) (defBody sMadeI) (defScope sMadeI) .none kV39 dc39 pm39 an39 cd39 ct39), sl39⟩)
    (q39 : PySem.W.codeIn K cd39 "Made.__init__" = true)
    (k39 : PySem.W.keepIn K (.ref f39) = true)
    (l40 : K.lookup f40 = some ⟨oc40, od40, .func (PySem.W.fnOf "__init__" "Box.__init__" (defArgs sBoxI) (defBody sBoxI) (defScope sBoxI) .none kV40 dc40 pm40 an40 cd40 ct40), sl40⟩)
    (q40 : PySem.W.codeIn K cd40 "Box.__init__" = true)
    (k40 : PySem.W.keepIn K (.ref f40) = true)
    (l41 : K.lookup f41 = some ⟨oc41, od41, .func (PySem.W.fnOf "window" "Box.window" (defArgs sWindow) (defBody sWindow) (defScope sWindow) .none kV41 dc41 pm41 an41 (.ref cW) ct41), sl41⟩)
    (q41 : PySem.W.codeIn K (.ref cW) "Box.window" = true)
    (k41 : PySem.W.keepIn K (.ref f41) = true)
    (l42 : K.lookup f42 = some ⟨oc42, od42, .func (PySem.W.fnOf "heads" "Box.heads" (defArgs sHeads) (defBody sHeads) (defScope sHeads) .none kV42 dc42 pm42 an42 (.ref cE) ct42), sl42⟩)
    (q42 : PySem.W.codeIn K (.ref cE) "Box.heads" = true)
    (k42 : PySem.W.keepIn K (.ref f42) = true)
    (l43 : K.lookup f43 = some ⟨oc43, od43, .func (PySem.W.fnOf "pieces" "Box.pieces" (defArgs sPiecesB) (defBody sPiecesB) (defScope sPiecesB) .none kV43 dc43 pm43 an43 (.ref cP) ct43), sl43⟩)
    (q43 : PySem.W.codeIn K (.ref cP) "Box.pieces" = true)
    (k43 : PySem.W.keepIn K (.ref f43) = true)
    (l44 : K.lookup f44 = some ⟨oc44, od44, .func (PySem.W.fnOf "caps" "Box.caps" (defArgs sCaps) (defBody sCaps) (defScope sCaps) .none kV44 dc44 pm44 an44 cd44 ct44), sl44⟩)
    (q44 : PySem.W.codeIn K cd44 "Box.caps" = true)
    (k44 : PySem.W.keepIn K (.ref f44) = true)
    (l45 : K.lookup f45 = some ⟨oc45, od45, .func (PySem.W.fnOf "rests" "Box.rests" (defArgs sRests) (defBody sRests) (defScope sRests) .none kV45 dc45 pm45 an45 cd45 ct45), sl45⟩)
    (q45 : PySem.W.codeIn K cd45 "Box.rests" = true)
    (k45 : PySem.W.keepIn K (.ref f45) = true)
    (l46 : K.lookup f46 = some ⟨oc46, od46, .func (PySem.W.fnOf "clerk" "Box.clerk" (defArgs sClerk) (defBody sClerk) (defScope sClerk) .none kV46 dc46 pm46 an46 cd46 ct46), sl46⟩)
    (q46 : PySem.W.codeIn K cd46 "Box.clerk" = true)
    (k46 : PySem.W.keepIn K (.ref f46) = true)
    (l47 : K.lookup f47 = some ⟨oc47, od47, .func (PySem.W.fnOf "letters" "Box.letters" (defArgs sBGet) (defBody sBGet) (defScope sBGet) .none kV47 dc47 pm47 an47 cd47 ct47), sl47⟩)
    (q47 : PySem.W.codeIn K cd47 "Box.letters" = true)
    (k47 : PySem.W.keepIn K (.ref f47) = true)
    (l48 : K.lookup f48 = some ⟨oc48, od48, .func (PySem.W.fnOf "table" "Box.table" (defArgs sBTab) (defBody sBTab) (defScope sBTab) .none kV48 dc48 pm48 an48 cd48 ct48), sl48⟩)
    (q48 : PySem.W.codeIn K cd48 "Box.table" = true)
    (k48 : PySem.W.keepIn K (.ref f48) = true)
    (l49 : K.lookup f49 = some ⟨oc49, od49, .func (PySem.W.fnOf "__call__" "Box.__call__" (defArgs sBCall) (defBody sBCall) (defScope sBCall) .none kV49 dc49 pm49 an49 cd49 ct49), sl49⟩)
    (q49 : PySem.W.codeIn K cd49 "Box.__call__" = true)
    (k49 : PySem.W.keepIn K (.ref f49) = true)
    (l50 : K.lookup f50 = some ⟨oc50, od50, .func (PySem.W.fnOf "lean" "Box.lean" (defArgs sBLean) (defBody sBLean) (defScope sBLean) .none kV50 dc50 pm50 an50 cd50 ct50), sl50⟩)
    (q50 : PySem.W.codeIn K cd50 "Box.lean" = true)
    (k50 : PySem.W.keepIn K (.ref f50) = true)
    (l51 : K.lookup f51 = some ⟨oc51, od51, .func (PySem.W.fnOf "__and__" "Box.__and__" (defArgs sBAnd) (defBody sBAnd) (defScope sBAnd) .none kV51 dc51 pm51 an51 cd51 ct51), sl51⟩)
    (q51 : PySem.W.codeIn K cd51 "Box.__and__" = true)
    (k51 : PySem.W.keepIn K (.ref f51) = true)
    (l52 : K.lookup f52 = some ⟨oc52, od52, .func (PySem.W.fnOf "__len__" "Box.__len__" (defArgs sBLen) (defBody sBLen) (defScope sBLen) .none kV52 dc52 pm52 an52 cd52 ct52), sl52⟩)
    (q52 : PySem.W.codeIn K cd52 "Box.__len__" = true)
    (k52 : PySem.W.keepIn K (.ref f52) = true)
    (l53 : K.lookup f53 = some ⟨oc53, od53, .func (PySem.W.fnOf "__eq__" "Box.__eq__" (defArgs sBEq) (defBody sBEq) (defScope sBEq) .none kV53 dc53 pm53 an53 cd53 ct53), sl53⟩)
    (q53 : PySem.W.codeIn K cd53 "Box.__eq__" = true)
    (k53 : PySem.W.keepIn K (.ref f53) = true)
    (l54 : K.lookup f54 = some ⟨oc54, od54, .func (PySem.W.fnOf "__str__" "Box.__str__" (defArgs sBStr) (defBody sBStr) (defScope sBStr) .none kV54 dc54 pm54 an54 cd54 ct54), sl54⟩)
    (q54 : PySem.W.codeIn K cd54 "Box.__str__" = true)
    (k54 : PySem.W.keepIn K (.ref f54) = true)
    (y3 : K.lookup t3 = some ⟨e3, j3, .seq #[u3] m3, w3⟩)
    (y4 : K.lookup t4 = some ⟨e4, j4, .seq #[u4] m4, w4⟩)
    (hPW : h.get? PW = some (PySem.W.tabObj #[]))
    (nPW : K.lookup PW = none)
    (hCW : PySem.W.codeHdIn K cW PW = true)
    (hPE : h.get? PE = some (PySem.W.tabObj #[]))
    (nPE : K.lookup PE = none)
    (hCE : PySem.W.codeHdIn K cE PE = true)
    (hPP : h.get? PP = some (PySem.W.tabObj #[]))
    (nPP : K.lookup PP = none)
    (hCP : PySem.W.codeHdIn K cP PP = true)
    (hPN : h.get? PN = some (PySem.W.tabObj #[]))
    (nPN : K.lookup PN = none)
    (hCN : PySem.W.codeHdIn K cN PN = true)
    (un : decide ([PW, PE, PP, PN].Nodup) = true)
    (vMAX_MADE : PySem.W.nsIn K mainGlobals "MAX_MADE" = some (some (.int 400 xMAX_MADE)))
    (v_MAX_SIZE : PySem.W.nsIn K mainGlobals "_MAX_SIZE" = some (some (.int 4 x_MAX_SIZE)))
    (v_MAX_PIECES : PySem.W.nsIn K mainGlobals "_MAX_PIECES" = some (some (.int 3 x_MAX_PIECES)))
    (v_MAX_CAP : PySem.W.nsIn K mainGlobals "_MAX_CAP" = some (some (.int 9 x_MAX_CAP)))
    (v_MAX_MODULUS : PySem.W.nsIn K mainGlobals "_MAX_MODULUS" = some (some (.int 12 x_MAX_MODULUS)))
    (vMAX_LETTERS : PySem.W.nsIn K mainGlobals "MAX_LETTERS" = some (some (.int 3 xMAX_LETTERS)))
    (z_len : PySem.W.nsIn K mainGlobals "len" = some none)
    (z_int : PySem.W.nsIn K mainGlobals "int" = some none)
    (z_abs : PySem.W.nsIn K mainGlobals "abs" = some none)
    (z_isinstance : PySem.W.nsIn K mainGlobals "isinstance" = some none)
    (z_bool : PySem.W.nsIn K mainGlobals "bool" = some none)
    (z_str : PySem.W.nsIn K mainGlobals "str" = some none)
    (z_all : PySem.W.nsIn K mainGlobals "all" = some none)
    (z_range : PySem.W.nsIn K mainGlobals "range" = some none)
    (z_sorted : PySem.W.nsIn K mainGlobals "sorted" = some none)
    (z_set : PySem.W.nsIn K mainGlobals "set" = some none)
    (z_tuple : PySem.W.nsIn K mainGlobals "tuple" = some none)
    (z_list : PySem.W.nsIn K mainGlobals "list" = some none)
    (z_max : PySem.W.nsIn K mainGlobals "max" = some none)
    (z_min : PySem.W.nsIn K mainGlobals "min" = some none)
    (z_zip : PySem.W.nsIn K mainGlobals "zip" = some none)
    (z_enumerate : PySem.W.nsIn K mainGlobals "enumerate" = some none) :
    LamX.LawAtS l w K CX0 12 63 "_law_script" mg fa h := by
  have e := hfa.symm.trans (PySem.W.mg_of X G d38)
  cases e
  have T : TN mg := ⟨PySem.W.mg_none_of X G z_len, PySem.W.mg_none_of X G z_int, PySem.W.mg_none_of X G z_abs, PySem.W.mg_none_of X G z_isinstance, PySem.W.mg_none_of X G z_bool, PySem.W.mg_none_of X G z_str, PySem.W.mg_none_of X G z_all, PySem.W.mg_none_of X G z_range, PySem.W.mg_none_of X G z_sorted, PySem.W.mg_none_of X G z_set, PySem.W.mg_none_of X G z_tuple, PySem.W.mg_none_of X G z_list, PySem.W.mg_none_of X G z_max, PySem.W.mg_none_of X G z_min, PySem.W.mg_none_of X G z_zip, ⟨_, PySem.W.mg_of X G vMAX_LETTERS⟩⟩
  have en := PySem.W.mg_none_of X G z_enumerate
  have cl : Cls K C := ⟨pgb, hdb, pob, sab⟩
  have clD : Cls K cD := ⟨pgd, hdd, pod, sad⟩
  have M : TBx K mg C cD := ⟨cl, nT, nL, clD, nR, PySem.W.mg_of X G gC, PySem.W.mg_of X G gD, fun e => .ins e cl ccb cn ct obb, fun e => .ins e clD ccd cn ct obd, ⟨_, PySem.W.mg_of X G vMAX_MADE⟩⟩
  have Y : TBy K C := ⟨⟨ccb, cn, ct, obb⟩, ki⟩
  have R : TPr K C pl f47 pt f48 := ⟨⟨pal, pg_l, pt_l, _, pr_l⟩, ⟨pat, pg_t, pt_t, _, pr_t⟩⟩
  obtain ⟨n1, n2, n3, n4, n5, n6⟩ := one_of4 un
  have F0 := fun_mk (st := sLed) l0 q0 k0
  have b0 := F0.binds (ps := ["letters", "table", "word", "start"]) fun _ _ _ _ _ _ us hl => match us, hl with | [_, _, _, _], _ => rfl
  have A0 : Fn K mg "led" sLed ["letters", "table", "word", "start"] f0 _ := ⟨PySem.W.mg_of X G d0, F0, b0⟩
  have F1 := fun_mk (st := sWays) l1 q1 k1
  have b1 := F1.binds (ps := ["table", "start"]) fun _ _ _ _ _ _ us hl => match us, hl with | [_, _], _ => rfl
  have A1 : Fn K mg "ways" sWays ["table", "start"] f1 _ := ⟨PySem.W.mg_of X G d1, F1, b1⟩
  have F2 := fun_mk (st := sTrim) l2 q2 k2
  have b2 := F2.binds (ps := ["table", "start"]) fun _ _ _ _ _ _ us hl => match us, hl with | [_, _], _ => rfl
  have A2 : Fn K mg "trimmed" sTrim ["table", "start"] f2 _ := ⟨PySem.W.mg_of X G d2, F2, b2⟩
  have b3 := binds_one (fd := PySem.W.fnOf "paired" "paired" (defArgs sPaired) (defBody sPaired) (defScope sPaired) (.ref t3) kV3 dc3 pm3 an3 cd3 ct3) (f := f3) (a := "one") (b := "other") (c := "start") (d := "most") y3 rfl (fun _ _ _ _ => ⟨_, rfl, rfl⟩)
  have g3 := PySem.W.mg_of X G d3
  have b4 := binds_one (fd := PySem.W.fnOf "explored" "explored" (defArgs sExpl) (defBody sExpl) (defScope sExpl) (.ref t4) kV4 dc4 pm4 an4 cd4 ct4) (f := f4) (a := "signs") (b := "start") (c := "step") (d := "most") y4 rfl (fun _ _ _ _ => ⟨_, rfl, rfl⟩)
  have g4 := PySem.W.mg_of X G d4
  have F5 := fun_mk (st := sIsInt) l5 q5 k5
  have b5 := F5.binds (ps := ["value"]) fun _ _ _ _ _ _ us hl => match us, hl with | [_], _ => rfl
  have A5 : Fn K mg "is_integer" sIsInt ["value"] f5 _ := ⟨PySem.W.mg_of X G d5, F5, b5⟩
  have F6 := fun_mk (st := sIsNum) l6 q6 k6
  have b6 := F6.binds (ps := ["value", "least", "most"]) fun _ _ _ _ _ _ us hl => match us, hl with | [_, _, _], _ => rfl
  have A6 : Fn K mg "is_number" sIsNum ["value", "least", "most"] f6 _ := ⟨PySem.W.mg_of X G d6, F6, b6⟩
  have F7 := fun_mk (st := sNeedNum) l7 q7 k7
  have b7 := F7.binds (ps := ["value", "least", "most"]) fun _ _ _ _ _ _ us hl => match us, hl with | [_, _, _], _ => rfl
  have A7 : Fn K mg "need_number" sNeedNum ["value", "least", "most"] f7 _ := ⟨PySem.W.mg_of X G d7, F7, b7⟩
  have F8 := fun_mk (st := sAsc) l8 q8 k8
  have b8 := F8.binds (ps := ["values"]) fun _ _ _ _ _ _ us hl => match us, hl with | [_], _ => rfl
  have A8 : Fn K mg "ascends" sAsc ["values"] f8 _ := ⟨PySem.W.mg_of X G d8, F8, b8⟩
  have F9 := fun_mk (st := sIsLet) l9 q9 k9
  have b9 := F9.binds (ps := ["value"]) fun _ _ _ _ _ _ us hl => match us, hl with | [_], _ => rfl
  have A9 : Fn K mg "is_letters" sIsLet ["value"] f9 _ := ⟨PySem.W.mg_of X G d9, F9, b9⟩
  have F10 := fun_mk (st := sIsWord) l10 q10 k10
  have b10 := F10.binds (ps := ["value"]) fun _ _ _ _ _ _ us hl => match us, hl with | [_], _ => rfl
  have A10 : Fn K mg "is_word" sIsWord ["value"] f10 _ := ⟨PySem.W.mg_of X G d10, F10, b10⟩
  have F11 := fun_mk (st := sIsOver) l11 q11 k11
  have b11 := F11.binds (ps := ["letters", "word"]) fun _ _ _ _ _ _ us hl => match us, hl with | [_, _], _ => rfl
  have A11 : Fn K mg "is_over" sIsOver ["letters", "word"] f11 _ := ⟨PySem.W.mg_of X G d11, F11, b11⟩
  have F12 := fun_mk (st := sNeedLet) l12 q12 k12
  have b12 := F12.binds (ps := ["letters"]) fun _ _ _ _ _ _ us hl => match us, hl with | [_], _ => rfl
  have A12 : Fn K mg "need_letters" sNeedLet ["letters"] f12 _ := ⟨PySem.W.mg_of X G d12, F12, b12⟩
  have F13 := fun_mk (st := sNeedWord) l13 q13 k13
  have b13 := F13.binds (ps := ["word"]) fun _ _ _ _ _ _ us hl => match us, hl with | [_], _ => rfl
  have A13 : Fn K mg "need_word" sNeedWord ["word"] f13 _ := ⟨PySem.W.mg_of X G d13, F13, b13⟩
  have F14 := fun_mk (st := sNeedOver) l14 q14 k14
  have b14 := F14.binds (ps := ["letters", "word"]) fun _ _ _ _ _ _ us hl => match us, hl with | [_, _], _ => rfl
  have A14 : Fn K mg "need_over" sNeedOver ["letters", "word"] f14 _ := ⟨PySem.W.mg_of X G d14, F14, b14⟩
  have F15 := fun_mk (st := sLast) l15 q15 k15
  have b15 := F15.binds (ps := ["word", "number"]) fun _ _ _ _ _ _ us hl => match us, hl with | [_, _], _ => rfl
  have A15 : Fn K mg "last_letters" sLast ["word", "number"] f15 _ := ⟨PySem.W.mg_of X G d15, F15, b15⟩
  have F16 := fun_mk (st := sFirst) l16 q16 k16
  have b16 := F16.binds (ps := ["word", "number"]) fun _ _ _ _ _ _ us hl => match us, hl with | [_, _], _ => rfl
  have A16 : Fn K mg "first_letters" sFirst ["word", "number"] f16 _ := ⟨PySem.W.mg_of X G d16, F16, b16⟩
  have F17 := fun_mk (st := sSame) l17 q17 k17
  have b17 := F17.binds (ps := ["one", "other"]) fun _ _ _ _ _ _ us hl => match us, hl with | [_, _], _ => rfl
  have A17 : Fn K mg "need_same_letters" sSame ["one", "other"] f17 _ := ⟨PySem.W.mg_of X G d17, F17, b17⟩
  have F18 := fun_mk (st := sNeedBox) l18 q18 k18
  have b18 := F18.binds (ps := ["box"]) fun _ _ _ _ _ _ us hl => match us, hl with | [_], _ => rfl
  have A18 : Fn K mg "need_box" sNeedBox ["box"] f18 _ := ⟨PySem.W.mg_of X G d18, F18, b18⟩
  have F19 := fun_mk (st := sGrown) l19 q19 k19
  have b19 := F19.binds (ps := ["letters", "start", "step"]) fun _ _ _ _ _ _ us hl => match us, hl with | [_, _, _], _ => rfl
  have A19 : Fn K mg "_grown" sGrown ["letters", "start", "step"] f19 _ := ⟨PySem.W.mg_of X G d19, F19, b19⟩
  have F20 := fun_mk (st := sWith) l20 q20 k20
  have b20 := F20.binds (ps := ["seen", "letter", "most"]) fun _ _ _ _ _ _ us hl => match us, hl with | [_, _, _], _ => rfl
  have A20 : Fn K mg "_with_pieces" sWith ["seen", "letter", "most"] f20 _ := ⟨PySem.W.mg_of X G d20, F20, b20⟩
  have F21 := fun_mk (st := sCount) l21 q21 k21
  have b21 := F21.binds (ps := ["letters", "cap", "modulus"]) fun _ _ _ _ _ _ us hl => match us, hl with | [_, _, _], _ => rfl
  have A21 : Fn K mg "_counting" sCount ["letters", "cap", "modulus"] f21 _ := ⟨PySem.W.mg_of X G d21, F21, b21⟩
  have F22 := fun_mk (st := sOneM) l22 q22 k22
  have b22 := F22.binds (ps := ["number", "cap", "modulus"]) fun _ _ _ _ _ _ us hl => match us, hl with | [_, _, _], _ => rfl
  have A22 : Fn K mg "_one_more" sOneM ["number", "cap", "modulus"] f22 _ := ⟨PySem.W.mg_of X G d22, F22, b22⟩
  have F23 := fun_mk (st := sDice) l23 q23 k23
  have b23 := F23.binds (ps := ["_law_script", "_law_at"]) fun _ _ _ _ _ _ us hl => match us, hl with | [_, _], _ => rfl
  have A23 : Fn K mg "_law_dice" sDice ["_law_script", "_law_at"] f23 _ := ⟨PySem.W.mg_of X G d23, F23, b23⟩
  have F24 := fun_mk (st := sRoll) l24 q24 k24
  have b24 := F24.binds (ps := ["_law_dice_here", "_law_total_here"]) fun _ _ _ _ _ _ us hl => match us, hl with | [_, _], _ => rfl
  have A24 : Fn K mg "_law_roll" sRoll ["_law_dice_here", "_law_total_here"] f24 _ := ⟨PySem.W.mg_of X G d24, F24, b24⟩
  have F25 := fun_mk (st := sOne) l25 q25 k25
  have b25 := F25.binds (ps := ["_law_dice_here", "_law_items"]) fun _ _ _ _ _ _ us hl => match us, hl with | [_, _], _ => rfl
  have A25 : Fn K mg "_law_one_of" sOne ["_law_dice_here", "_law_items"] f25 _ := ⟨PySem.W.mg_of X G d25, F25, b25⟩
  have F26 := fun_mk (st := sMixed) l26 q26 k26
  have b26 := F26.binds (ps := ["_law_dice_here", "_law_items"]) fun _ _ _ _ _ _ us hl => match us, hl with | [_, _], _ => rfl
  have A26 : Fn K mg "_law_mixed" sMixed ["_law_dice_here", "_law_items"] f26 _ := ⟨PySem.W.mg_of X G d26, F26, b26⟩
  have F27 := fun_mk (st := sLetters) l27 q27 k27
  have b27 := F27.binds (ps := ["_law_dice_here", "_law_total_here"]) fun _ _ _ _ _ _ us hl => match us, hl with | [_, _], _ => rfl
  have A27 : Fn K mg "_law_letters" sLetters ["_law_dice_here", "_law_total_here"] f27 _ := ⟨PySem.W.mg_of X G d27, F27, b27⟩
  have F28 := fun_mk (st := sWord) l28 q28 k28
  have b28 := F28.binds (ps := ["_law_dice_here", "_law_letters_here", "_law_most"]) fun _ _ _ _ _ _ us hl => match us, hl with | [_, _, _], _ => rfl
  have A28 : Fn K mg "_law_word" sWord ["_law_dice_here", "_law_letters_here", "_law_most"] f28 _ := ⟨PySem.W.mg_of X G d28, F28, b28⟩
  have F29 := fun_mk (st := sLCounts) l29 q29 k29
  have b29 := F29.binds (ps := ["_law_letters_here", "_law_word_here"]) fun _ _ _ _ _ _ us hl => match us, hl with | [_, _], _ => rfl
  have A29 : Fn K mg "_law_counts" sLCounts ["_law_letters_here", "_law_word_here"] f29 _ := ⟨PySem.W.mg_of X G d29, F29, b29⟩
  have F30 := fun_mk (st := sLIsP) l30 q30 k30
  have b30 := F30.binds (ps := ["_law_word_here", "_law_other"]) fun _ _ _ _ _ _ us hl => match us, hl with | [_, _], _ => rfl
  have A30 : Fn K mg "_law_is_piece" sLIsP ["_law_word_here", "_law_other"] f30 _ := ⟨PySem.W.mg_of X G d30, F30, b30⟩
  have F31 := fun_mk (st := sLAll) l31 q31 k31
  have b31 := F31.binds (ps := ["_law_letters_here", "_law_most"]) fun _ _ _ _ _ _ us hl => match us, hl with | [_, _], _ => rfl
  have A31 : Fn K mg "_law_all_words" sLAll ["_law_letters_here", "_law_most"] f31 _ := ⟨PySem.W.mg_of X G d31, F31, b31⟩
  have F32 := fun_mk (st := sLPieces) l32 q32 k32
  have b32 := F32.binds (ps := ["_law_letters_here", "_law_word_here", "_law_most"]) fun _ _ _ _ _ _ us hl => match us, hl with | [_, _, _], _ => rfl
  have A32 : Fn K mg "_law_pieces" sLPieces ["_law_letters_here", "_law_word_here", "_law_most"] f32 _ := ⟨PySem.W.mg_of X G d32, F32, b32⟩
  have F33 := fun_mk (st := sLSeen) l33 q33 k33
  have b33 := F33.binds (ps := ["_law_letters_here", "_law_way", "_law_one", "_law_two", "_law_word_here"]) fun _ _ _ _ _ _ us hl => match us, hl with | [_, _, _, _, _], _ => rfl
  have A33 : Fn K mg "_law_seen" sLSeen ["_law_letters_here", "_law_way", "_law_one", "_law_two", "_law_word_here"] f33 _ := ⟨PySem.W.mg_of X G d33, F33, b33⟩
  have F34 := fun_mk (st := sLMade) l34 q34 k34
  have b34 := F34.binds (ps := ["_law_letters_here", "_law_way", "_law_one", "_law_two"]) fun _ _ _ _ _ _ us hl => match us, hl with | [_, _, _, _], _ => rfl
  have A34 : Fn K mg "_law_made" sLMade ["_law_letters_here", "_law_way", "_law_one", "_law_two"] f34 _ := ⟨PySem.W.mg_of X G d34, F34, b34⟩
  have F35 := fun_mk (st := sLTot) l35 q35 k35
  have b35 := F35.binds (ps := ["_law_letters_here", "_law_way", "_law_one", "_law_two"]) fun _ _ _ _ _ _ us hl => match us, hl with | [_, _, _, _], _ => rfl
  have A35 : Fn K mg "_law_total" sLTot ["_law_letters_here", "_law_way", "_law_one", "_law_two"] f35 _ := ⟨PySem.W.mg_of X G d35, F35, b35⟩
  have F36 := fun_mk (st := sLPow) l36 q36 k36
  have b36 := F36.binds (ps := ["_law_base", "_law_times"]) fun _ _ _ _ _ _ us hl => match us, hl with | [_, _], _ => rfl
  have A36 : Fn K mg "_law_power" sLPow ["_law_base", "_law_times"] f36 _ := ⟨PySem.W.mg_of X G d36, F36, b36⟩
  have F37 := fun_mk (st := sLRight) l37 q37 k37
  have b37 := F37.binds (ps := ["_law_dice_here"]) fun _ _ _ _ _ _ us hl => match us, hl with | [_], _ => rfl
  have A37 : Fn K mg "_law_right" sLRight ["_law_dice_here"] f37 _ := ⟨PySem.W.mg_of X G d37, F37, b37⟩
  have F38 := fun_mk (st := sLawB) l38 q38 k38
  have F39 := fun_mk (st := sMadeI) l39 q39 k39
  have b39 := F39.binds (ps := ["self", "rows"]) fun _ _ _ _ _ _ us hl => match us, hl with | [_, _], _ => rfl
  have F40 := fun_mk (st := sBoxI) l40 q40 k40
  have b40 := F40.binds (ps := ["self", "letters", "table"]) fun _ _ _ _ _ _ us hl => match us, hl with | [_, _, _], _ => rfl
  have F41 := fun_mk (st := sWindow) l41 q41 k41
  have b41 := F41.binds (ps := ["cls", "letters", "size"]) fun _ _ _ _ _ _ us hl => match us, hl with | [_, _, _], _ => rfl
  have F42 := fun_mk (st := sHeads) l42 q42 k42
  have b42 := F42.binds (ps := ["cls", "letters", "size"]) fun _ _ _ _ _ _ us hl => match us, hl with | [_, _, _], _ => rfl
  have F43 := fun_mk (st := sPiecesB) l43 q43 k43
  have b43 := F43.binds (ps := ["cls", "letters", "most"]) fun _ _ _ _ _ _ us hl => match us, hl with | [_, _, _], _ => rfl
  have F44 := fun_mk (st := sCaps) l44 q44 k44
  have b44 := F44.binds (ps := ["cls", "letters", "most"]) fun _ _ _ _ _ _ us hl => match us, hl with | [_, _, _], _ => rfl
  have F45 := fun_mk (st := sRests) l45 q45 k45
  have b45 := F45.binds (ps := ["cls", "letters", "modulus"]) fun _ _ _ _ _ _ us hl => match us, hl with | [_, _, _], _ => rfl
  have F46 := fun_mk (st := sClerk) l46 q46 k46
  have b46 := F46.binds (ps := ["cls", "letters", "cap", "modulus"]) fun _ _ _ _ _ _ us hl => match us, hl with | [_, _, _, _], _ => rfl
  have F47 := fun_mk (st := sBGet) l47 q47 k47
  have b47 := F47.binds (ps := ["self"]) fun _ _ _ _ _ _ us hl => match us, hl with | [_], _ => rfl
  have F48 := fun_mk (st := sBTab) l48 q48 k48
  have b48 := F48.binds (ps := ["self"]) fun _ _ _ _ _ _ us hl => match us, hl with | [_], _ => rfl
  have F49 := fun_mk (st := sBCall) l49 q49 k49
  have b49 := F49.binds (ps := ["self", "word"]) fun _ _ _ _ _ _ us hl => match us, hl with | [_, _], _ => rfl
  have F50 := fun_mk (st := sBLean) l50 q50 k50
  have b50 := F50.binds (ps := ["self"]) fun _ _ _ _ _ _ us hl => match us, hl with | [_], _ => rfl
  have F51 := fun_mk (st := sBAnd) l51 q51 k51
  have b51 := F51.binds (ps := ["self", "other"]) fun _ _ _ _ _ _ us hl => match us, hl with | [_, _], _ => rfl
  have F52 := fun_mk (st := sBLen) l52 q52 k52
  have b52 := F52.binds (ps := ["self"]) fun _ _ _ _ _ _ us hl => match us, hl with | [_], _ => rfl
  have F53 := fun_mk (st := sBEq) l53 q53 k53
  have b53 := F53.binds (ps := ["self", "other"]) fun _ _ _ _ _ _ us hl => match us, hl with | [_, _], _ => rfl
  have F54 := fun_mk (st := sBStr) l54 q54 k54
  have b54 := F54.binds (ps := ["self"]) fun _ _ _ _ _ _ us hl => match us, hl with | [_], _ => rfl
  refine ⟨PySem.W.fnOf "law" "law" (defArgs sLawB) (defBody sLawB) (defScope sLawB) .none kV38 dc38 pm38 an38 cd38 ct38, [(cW, PW), (cE, PE), (cP, PP), (cN, PN)], spLawB K [(PW, qWin), (PE, qHead), (PP, qPie), (PN, qStep)], ?_, ?_, ?_, fun s v => .of_eq rfl, fun H a ns hl _ hT hS => ⟨a, ns, rfl, hS, hl, ?_, fun _ => rfl⟩, fun base _ _ hB => ?_⟩
  · intro p hp
    simp only [List.mem_cons, List.not_mem_nil, or_false] at hp
    rcases hp with rfl | rfl | rfl | rfl
    · exact hPW
    · exact hPE
    · exact hPP
    · exact hPN
  · intro p hp
    simp only [List.mem_cons, List.not_mem_nil, or_false] at hp
    rcases hp with rfl | rfl | rfl | rfl
    · exact nPW
    · exact nPE
    · exact nPP
    · exact nPN
  · intro p hp
    simp only [List.mem_cons, List.not_mem_nil, or_false] at hp
    rcases hp with rfl | rfl | rfl | rfl
    · exact PySem.W.codeHd_of_K X hCW
    · exact PySem.W.codeHd_of_K X hCE
    · exact PySem.W.codeHd_of_K X hCP
    · exact PySem.W.codeHd_of_K X hCN
  · intro p hp
    simp only [List.mem_cons, List.not_mem_nil, or_false] at hp
    rcases hp with rfl | rfl | rfl | rfl
    · exact LamX.TabS.nil (hT _ (.head _))
    · exact LamX.TabS.nil (hT _ (.tail _ (.head _)))
    · exact LamX.TabS.nil (hT _ (.tail _ (.tail _ (.head _))))
    · exact LamX.TabS.nil (hT _ (.tail _ (.tail _ (.tail _ (.head _)))))
  have TBW : LamX.TabB base mg cW PW := hB _ (.head _)
  have TBE : LamX.TabB base mg cE PE := hB _ (.tail _ (.head _))
  have TBP : LamX.TabB base mg cP PP := hB _ (.tail _ (.tail _ (.head _)))
  have TBN : LamX.TabB base mg cN PN := hB _ (.tail _ (.tail _ (.tail _ (.head _))))
  have UW : ∀ p ∈ ([(PW, qWin), (PE, qHead), (PP, qPie), (PN, qStep)] : List (Addr × Str)), p.1 = PW → p.2 = qWin := by
    intro p hp e
    simp only [List.mem_cons, List.not_mem_nil, or_false] at hp
    rcases hp with rfl | rfl | rfl | rfl
    · rfl
    · exact absurd e.symm n1
    · exact absurd e.symm n2
    · exact absurd e.symm n3
  have UE : ∀ p ∈ ([(PW, qWin), (PE, qHead), (PP, qPie), (PN, qStep)] : List (Addr × Str)), p.1 = PE → p.2 = qHead := by
    intro p hp e
    simp only [List.mem_cons, List.not_mem_nil, or_false] at hp
    rcases hp with rfl | rfl | rfl | rfl
    · exact absurd e n1
    · rfl
    · exact absurd e.symm n4
    · exact absurd e.symm n5
  have UP : ∀ p ∈ ([(PW, qWin), (PE, qHead), (PP, qPie), (PN, qStep)] : List (Addr × Str)), p.1 = PP → p.2 = qPie := by
    intro p hp e
    simp only [List.mem_cons, List.not_mem_nil, or_false] at hp
    rcases hp with rfl | rfl | rfl | rfl
    · exact absurd e n2
    · exact absurd e n4
    · rfl
    · exact absurd e.symm n6
  have UN : ∀ p ∈ ([(PW, qWin), (PE, qHead), (PP, qPie), (PN, qStep)] : List (Addr × Str)), p.1 = PN → p.2 = qStep := by
    intro p hp e
    simp only [List.mem_cons, List.not_mem_nil, or_false] at hp
    rcases hp with rfl | rfl | rfl | rfl
    · exact absurd e n3
    · exact absurd e n5
    · exact absurd e n6
    · rfl
  have G6 : FnOk l.prog w K mg base CX0 2 f6 (PySem.W.fnOf "is_number" "is_number" (defArgs sIsNum) (defBody sIsNum) (defScope sIsNum) .none kV6 dc6 pm6 an6 cd6 ct6) ["value", "least", "most"] (spIsNum) := ok_isnum F6 T A5
  have G7 : FnOk l.prog w K mg base CX0 3 f7 (PySem.W.fnOf "need_number" "need_number" (defArgs sNeedNum) (defBody sNeedNum) (defScope sNeedNum) .none kV7 dc7 pm7 an7 cd7 ct7) ["value", "least", "most"] (spNeedNum) := ok_neednum F7 T A5 A6
  have G10 : FnOk l.prog w K mg base CX0 1 f10 (PySem.W.fnOf "is_word" "is_word" (defArgs sIsWord) (defBody sIsWord) (defScope sIsWord) .none kV10 dc10 pm10 an10 cd10 ct10) ["value"] (spIsWord K) := ok_isword F10 T
  have G9 : FnOk l.prog w K mg base CX0 2 f9 (PySem.W.fnOf "is_letters" "is_letters" (defArgs sIsLet) (defBody sIsLet) (defScope sIsLet) .none kV9 dc9 pm9 an9 cd9 ct9) ["value"] (spIsLet K) := ok_islet F9 T A10 A8
  have G11 : FnOk l.prog w K mg base CX0 1 f11 (PySem.W.fnOf "is_over" "is_over" (defArgs sIsOver) (defBody sIsOver) (defScope sIsOver) .none kV11 dc11 pm11 an11 cd11 ct11) ["letters", "word"] (spOver) := ok_over F11 T
  have G12 : FnOk l.prog w K mg base CX0 3 f12 (PySem.W.fnOf "need_letters" "need_letters" (defArgs sNeedLet) (defBody sNeedLet) (defScope sNeedLet) .none kV12 dc12 pm12 an12 cd12 ct12) ["letters"] (spNeedLet) := ok_needlet F12 A9 G9
  have G13 : FnOk l.prog w K mg base CX0 2 f13 (PySem.W.fnOf "need_word" "need_word" (defArgs sNeedWord) (defBody sNeedWord) (defScope sNeedWord) .none kV13 dc13 pm13 an13 cd13 ct13) ["word"] (spNeedWord) := ok_needword F13 A10 G10
  have G14 : FnOk l.prog w K mg base CX0 2 f14 (PySem.W.fnOf "need_over" "need_over" (defArgs sNeedOver) (defBody sNeedOver) (defScope sNeedOver) .none kV14 dc14 pm14 an14 cd14 ct14) ["letters", "word"] (spNeedOver) := ok_needover F14 A11 G11
  have G15 : FnOk l.prog w K mg base CX0 4 f15 (PySem.W.fnOf "last_letters" "last_letters" (defArgs sLast) (defBody sLast) (defScope sLast) .none kV15 dc15 pm15 an15 cd15 ct15) ["word", "number"] (spLast) := ok_last F15 T A13 G13 A7 G7
  have G16 : FnOk l.prog w K mg base CX0 4 f16 (PySem.W.fnOf "first_letters" "first_letters" (defArgs sFirst) (defBody sFirst) (defScope sFirst) .none kV16 dc16 pm16 an16 cd16 ct16) ["word", "number"] (spFirst) := ok_first F16 A13 G13 A7 G7
  have G39 : FnOk l.prog w K mg base CX0 1 f39 (PySem.W.fnOf "__init__" "Made.__init__" (defArgs sMadeI) (defBody sMadeI) (defScope sMadeI) .none kV39 dc39 pm39 an39 cd39 ct39) ["self", "rows"] (spMadeI cD) := ok_madei l39 q39 M
  have G40 : FnOk l.prog w K mg base CX0 3 f40 (PySem.W.fnOf "__init__" "Box.__init__" (defArgs sBoxI) (defBody sBoxI) (defScope sBoxI) .none kV40 dc40 pm40 an40 cd40 ct40) ["self", "letters", "table"] (spBoxI C cD) := ok_boxi l40 q40 T M A9 G9
  have MD : Mk K cD f39 := ⟨mkd, iD, n39, kCd⟩
  have MI : Mk K C f40 := ⟨mkb, iB, n40, kCb⟩
  have GEW : FnOk l.prog w K mg base CX0 6 f4 (PySem.W.fnOf "explored" "explored" (defArgs sExpl) (defBody sExpl) (defScope sExpl) (.ref t4) kV4 dc4 pm4 an4 cd4 ct4) ["signs", "start", "step", "most"] (spExpl l.prog w K mg base kitW 5) := ok_expl l4 q4 T
  have GGW : FnOk l.prog w K mg base CX0 8 f19 (PySem.W.fnOf "_grown" "_grown" (defArgs sGrown) (defBody sGrown) (defScope sGrown) .none kV19 dc19 pm19 an19 cd19 ct19) ["letters", "start", "step"] (spGrown l.prog w K mg base kitW 5 cD) := ok_grown F19 M g4 k4 GEW MD G39 b39 b4
  have GES : FnOk l.prog w K mg base CX0 6 f4 (PySem.W.fnOf "explored" "explored" (defArgs sExpl) (defBody sExpl) (defScope sExpl) (.ref t4) kV4 dc4 pm4 an4 cd4 ct4) ["signs", "start", "step", "most"] (spExpl l.prog w K mg base kitS 5) := ok_expl l4 q4 T
  have GGS : FnOk l.prog w K mg base CX0 8 f19 (PySem.W.fnOf "_grown" "_grown" (defArgs sGrown) (defBody sGrown) (defScope sGrown) .none kV19 dc19 pm19 an19 cd19 ct19) ["letters", "start", "step"] (spGrown l.prog w K mg base kitS 5 cD) := ok_grown F19 M g4 k4 GES MD G39 b39 b4
  have GEI : FnOk l.prog w K mg base CX0 3 f4 (PySem.W.fnOf "explored" "explored" (defArgs sExpl) (defBody sExpl) (defScope sExpl) (.ref t4) kV4 dc4 pm4 an4 cd4 ct4) ["signs", "start", "step", "most"] (spExpl l.prog w K mg base kitI 2) := ok_expl l4 q4 T
  have GGI : FnOk l.prog w K mg base CX0 5 f19 (PySem.W.fnOf "_grown" "_grown" (defArgs sGrown) (defBody sGrown) (defScope sGrown) .none kV19 dc19 pm19 an19 cd19 ct19) ["letters", "start", "step"] (spGrown l.prog w K mg base kitI 2 cD) := ok_grown F19 M g4 k4 GEI MD G39 b39 b4
  have G20 : FnOk l.prog w K mg base CX0 2 f20 (PySem.W.fnOf "_with_pieces" "_with_pieces" (defArgs sWith) (defBody sWith) (defScope sWith) .none kV20 dc20 pm20 an20 cd20 ct20) ["seen", "letter", "most"] (spWith) := ok_with F20 T
  have G22 : FnOk l.prog w K mg base CX0 1 f22 (PySem.W.fnOf "_one_more" "_one_more" (defArgs sOneM) (defBody sOneM) (defScope sOneM) .none kV22 dc22 pm22 an22 cd22 ct22) ["number", "cap", "modulus"] (spOneM) := ok_onem F22
  have G41 : FnOk l.prog w K mg base CX0 9 f41 (PySem.W.fnOf "window" "Box.window" (defArgs sWindow) (defBody sWindow) (defScope sWindow) .none kV41 dc41 pm41 an41 (.ref cW) ct41) ["cls", "letters", "size"] (spTxtBox [(PW, qWin), (PE, qHead), (PP, qPie), (PN, qStep)] C lastF) := ok_window l41 q41 TBW (.head _) UW M ⟨_, PySem.W.mg_of X G v_MAX_SIZE⟩ A12 G12 A7 G7 A19 GGW MI G40 b40 A15 G15
  have G42 : FnOk l.prog w K mg base CX0 9 f42 (PySem.W.fnOf "heads" "Box.heads" (defArgs sHeads) (defBody sHeads) (defScope sHeads) .none kV42 dc42 pm42 an42 (.ref cE) ct42) ["cls", "letters", "size"] (spTxtBox [(PW, qWin), (PE, qHead), (PP, qPie), (PN, qStep)] C headF) := ok_heads l42 q42 TBE (.tail _ (.head _)) UE M ⟨_, PySem.W.mg_of X G v_MAX_SIZE⟩ A12 G12 A7 G7 A19 GGW MI G40 b40 A16 G16
  have G43 : FnOk l.prog w K mg base CX0 9 f43 (PySem.W.fnOf "pieces" "Box.pieces" (defArgs sPiecesB) (defBody sPiecesB) (defScope sPiecesB) .none kV43 dc43 pm43 an43 (.ref cP) ct43) ["cls", "letters", "most"] (spPieBox [(PW, qWin), (PE, qHead), (PP, qPie), (PN, qStep)] C) := ok_pieces l43 q43 TBP (.tail _ (.tail _ (.head _))) UP M ⟨_, PySem.W.mg_of X G v_MAX_PIECES⟩ A12 G12 A7 G7 A19 GGS MI G40 b40 A20 G20
  have G21 : FnOk l.prog w K mg base CX0 6 f21 (PySem.W.fnOf "_counting" "_counting" (defArgs sCount) (defBody sCount) (defScope sCount) .none kV21 dc21 pm21 an21 (.ref cN) ct21) ["letters", "cap", "modulus"] (spCounting [(PW, qWin), (PE, qHead), (PP, qPie), (PN, qStep)] cD) := ok_counting (C := C) l21 q21 TBN (.tail _ (.tail _ (.tail _ (.head _)))) UN T A22 G22 A19 GGI
  have G44 : FnOk l.prog w K mg base CX0 7 f44 (PySem.W.fnOf "caps" "Box.caps" (defArgs sCaps) (defBody sCaps) (defScope sCaps) .none kV44 dc44 pm44 an44 cd44 ct44) ["cls", "letters", "most"] (spCaps [(PW, qWin), (PE, qHead), (PP, qPie), (PN, qStep)] C) := ok_caps l44 q44 ⟨_, PySem.W.mg_of X G v_MAX_CAP⟩ A12 G12 A7 G7 A21 G21 MI G40 b40
  have G45 : FnOk l.prog w K mg base CX0 7 f45 (PySem.W.fnOf "rests" "Box.rests" (defArgs sRests) (defBody sRests) (defScope sRests) .none kV45 dc45 pm45 an45 cd45 ct45) ["cls", "letters", "modulus"] (spRests [(PW, qWin), (PE, qHead), (PP, qPie), (PN, qStep)] C) := ok_rests l45 q45 ⟨_, PySem.W.mg_of X G v_MAX_MODULUS⟩ A12 G12 A7 G7 A21 G21 MI G40 b40
  have G46 : FnOk l.prog w K mg base CX0 7 f46 (PySem.W.fnOf "clerk" "Box.clerk" (defArgs sClerk) (defBody sClerk) (defScope sClerk) .none kV46 dc46 pm46 an46 cd46 ct46) ["cls", "letters", "cap", "modulus"] (spClerk [(PW, qWin), (PE, qHead), (PP, qPie), (PN, qStep)] C) := ok_clerk l46 q46 ⟨_, PySem.W.mg_of X G v_MAX_CAP⟩ ⟨_, PySem.W.mg_of X G v_MAX_MODULUS⟩ A12 G12 A7 G7 A21 G21 MI G40 b40
  have MM : TMkr l.prog w K mg base C (.type "type") [(PW, qWin), (PE, qHead), (PP, qPie), (PN, qStep)] := ⟨⟨rd, ga⟩, PySem.W.mg_of X G gC, ⟨pW, _, ⟨cmW, ⟨_, crW⟩, cfW⟩, G41.raw b41 .nil⟩, ⟨pE, _, ⟨cmE, ⟨_, crE⟩, cfE⟩, G42.raw b42 .nil⟩, ⟨pP, _, ⟨cmP, ⟨_, crP⟩, cfP⟩, G43.raw b43 .nil⟩, ⟨pA, _, ⟨cmA, ⟨_, crA⟩, cfA⟩, G44.raw b44 .nil⟩, ⟨pR, _, ⟨cmR, ⟨_, crR⟩, cfR⟩, G45.raw b45 .nil⟩, ⟨pK, _, ⟨cmK, ⟨_, crK⟩, cfK⟩, G46.raw b46 .nil⟩⟩
  have G0 : FnOk l.prog w K mg base CX0 1 f0 (PySem.W.fnOf "led" "led" (defArgs sLed) (defBody sLed) (defScope sLed) .none kV0 dc0 pm0 an0 cd0 ct0) ["letters", "table", "word", "start"] (spLed K) := ok_led F0 en
  have G1 : FnOk l.prog w K mg base CX0 1 f1 (PySem.W.fnOf "ways" "ways" (defArgs sWays) (defBody sWays) (defScope sWays) .none kV1 dc1 pm1 an1 cd1 ct1) ["table", "start"] (spWays K) := ok_ways F1 T en
  have G2 : FnOk l.prog w K mg base CX0 2 f2 (PySem.W.fnOf "trimmed" "trimmed" (defArgs sTrim) (defBody sTrim) (defScope sTrim) .none kV2 dc2 pm2 an2 cd2 ct2) ["table", "start"] (spTrim K) := ok_trim F2 T en A1 G1
  have G3 : FnOk l.prog w K mg base CX0 1 f3 (PySem.W.fnOf "paired" "paired" (defArgs sPaired) (defBody sPaired) (defScope sPaired) (.ref t3) kV3 dc3 pm3 an3 cd3 ct3) ["one", "other", "start", "most"] (spPaired K) := ok_paired l3 q3 T
  have G18 : FnOk l.prog w K mg base CX0 1 f18 (PySem.W.fnOf "need_box" "need_box" (defArgs sNeedBox) (defBody sNeedBox) (defScope sNeedBox) .none kV18 dc18 pm18 an18 cd18 ct18) ["box"] (spNeedBox C) := ok_needbox F18 T M Y
  have G17 : FnOk l.prog w K mg base CX0 1 f17 (PySem.W.fnOf "need_same_letters" "need_same_letters" (defArgs sSame) (defBody sSame) (defScope sSame) .none kV17 dc17 pm17 an17 cd17 ct17) ["one", "other"] (spSame) := ok_same F17
  have G47 : FnOk l.prog w K mg base CX0 1 f47 (PySem.W.fnOf "letters" "Box.letters" (defArgs sBGet) (defBody sBGet) (defScope sBGet) .none kV47 dc47 pm47 an47 cd47 ct47) ["self"] (getSp C "_letters") := fn_getter (N := ["self"]) l47 q47 ⟨rfl, rfl, rfl, by decide +kernel, rfl, by decide +kernel, by decide +kernel⟩ rfl rfl cl nL
  have G48 : FnOk l.prog w K mg base CX0 1 f48 (PySem.W.fnOf "table" "Box.table" (defArgs sBTab) (defBody sBTab) (defScope sBTab) .none kV48 dc48 pm48 an48 cd48 ct48) ["self"] (getSp C "_table") := fn_getter (N := ["self"]) l48 q48 ⟨rfl, rfl, rfl, by decide +kernel, rfl, by decide +kernel, by decide +kernel⟩ rfl rfl cl nT
  have G49 : FnOk l.prog w K mg base CX0 4 f49 (PySem.W.fnOf "__call__" "Box.__call__" (defArgs sBCall) (defBody sBCall) (defScope sBCall) .none kV49 dc49 pm49 an49 cd49 ct49) ["self", "word"] (spBCall C) := ok_bcall F49 M A13 (G13.mono (by decide)) A14 (G14.mono (by decide)) A0 G0
  have G52 : FnOk l.prog w K mg base CX0 1 f52 (PySem.W.fnOf "__len__" "Box.__len__" (defArgs sBLen) (defBody sBLen) (defScope sBLen) .none kV52 dc52 pm52 an52 cd52 ct52) ["self"] (spBLen C) := ok_blen F52 T M
  have G53 : FnOk l.prog w K mg base CX0 1 f53 (PySem.W.fnOf "__eq__" "Box.__eq__" (defArgs sBEq) (defBody sBEq) (defScope sBEq) .none kV53 dc53 pm53 an53 cd53 ct53) ["self", "other"] (spBEq C) := ok_beq F53 T M Y
  have G54 : FnOk l.prog w K mg base CX0 1 f54 (PySem.W.fnOf "__str__" "Box.__str__" (defArgs sBStr) (defBody sBStr) (defScope sBStr) .none kV54 dc54 pm54 an54 cd54 ct54) ["self"] (spBStr C) := ok_bstr F54 T M
  have G50 : FnOk l.prog w K mg base CX0 5 f50 (PySem.W.fnOf "lean" "Box.lean" (defArgs sBLean) (defBody sBLean) (defScope sBLean) .none kV50 dc50 pm50 an50 cd50 ct50) ["self"] (spBLean C) := ok_blean F50 M A2 G2 MI G40 b40 MD G39 b39
  have G51 : FnOk l.prog w K mg base CX0 5 f51 (PySem.W.fnOf "__and__" "Box.__and__" (defArgs sBAnd) (defBody sBAnd) (defScope sBAnd) .none kV51 dc51 pm51 an51 cd51 ct51) ["self", "other"] (spBAnd C) := ok_band F51 M R A18 G18 A17 G17 g3 k3 G3 b3 G47 b47 G48 b48 MI G40 b40 MD G39 b39
  have Mt : TMt l.prog w K mg base C f52 f53 f54 f49 f51 := ⟨a52, n52, G52.raw b52 .nil, a53, n53, G53.raw b53 .nil, ne, obb, nf, a54, n54, G54.raw b54 .nil, ⟨a49, n49, fiC⟩, G49.raw b49 .nil, a51, n51, G51.raw b51 .nil, sf⟩
  have G23 : FnOk l.prog w K mg base CX0 1 f23 (PySem.W.fnOf "_law_dice" "_law_dice" (defArgs sDice) (defBody sDice) (defScope sDice) .none kV23 dc23 pm23 an23 cd23 ct23) ["_law_script", "_law_at"] (spDice K) := ok_dice F23 T.dice
  have G26 : FnOk l.prog w K mg base CX0 2 f26 (PySem.W.fnOf "_law_mixed" "_law_mixed" (defArgs sMixed) (defBody sMixed) (defScope sMixed) .none kV26 dc26 pm26 an26 cd26 ct26) ["_law_dice_here", "_law_items"] (spMixed) := ok_mixed F26 T A24
  have G27 : FnOk l.prog w K mg base CX0 3 f27 (PySem.W.fnOf "_law_letters" "_law_letters" (defArgs sLetters) (defBody sLetters) (defScope sLetters) .none kV27 dc27 pm27 an27 cd27 ct27) ["_law_dice_here", "_law_total_here"] (spLetters) := ok_letters F27 T A26 G26
  have G28 : FnOk l.prog w K mg base CX0 3 f28 (PySem.W.fnOf "_law_word" "_law_word" (defArgs sWord) (defBody sWord) (defScope sWord) .none kV28 dc28 pm28 an28 cd28 ct28) ["_law_dice_here", "_law_letters_here", "_law_most"] (spWordL) := ok_word F28 T A24 A25
  have G29 : FnOk l.prog w K mg base CX0 1 f29 (PySem.W.fnOf "_law_counts" "_law_counts" (defArgs sLCounts) (defBody sLCounts) (defScope sLCounts) .none kV29 dc29 pm29 an29 cd29 ct29) ["_law_letters_here", "_law_word_here"] (spLCounts) := ok_lcounts F29 T
  have G30 : FnOk l.prog w K mg base CX0 1 f30 (PySem.W.fnOf "_law_is_piece" "_law_is_piece" (defArgs sLIsP) (defBody sLIsP) (defScope sLIsP) .none kV30 dc30 pm30 an30 cd30 ct30) ["_law_word_here", "_law_other"] (spLIsP) := ok_lisp F30 T
  have G31 : FnOk l.prog w K mg base CX0 1 f31 (PySem.W.fnOf "_law_all_words" "_law_all_words" (defArgs sLAll) (defBody sLAll) (defScope sLAll) .none kV31 dc31 pm31 an31 cd31 ct31) ["_law_letters_here", "_law_most"] (spLAll) := ok_lall F31 T
  have G32 : FnOk l.prog w K mg base CX0 2 f32 (PySem.W.fnOf "_law_pieces" "_law_pieces" (defArgs sLPieces) (defBody sLPieces) (defScope sLPieces) .none kV32 dc32 pm32 an32 cd32 ct32) ["_law_letters_here", "_law_word_here", "_law_most"] (spLPieces) := ok_lpieces F32 A31 G31 A30 G30
  have G33 : FnOk l.prog w K mg base CX0 3 f33 (PySem.W.fnOf "_law_seen" "_law_seen" (defArgs sLSeen) (defBody sLSeen) (defScope sLSeen) .none kV33 dc33 pm33 an33 cd33 ct33) ["_law_letters_here", "_law_way", "_law_one", "_law_two", "_law_word_here"] (spLSeen) := ok_lseen F33 T A32 G32 A29 G29
  have G34 : FnOk l.prog w K mg base CX0 10 f34 (PySem.W.fnOf "_law_made" "_law_made" (defArgs sLMade) (defBody sLMade) (defScope sLMade) .none kV34 dc34 pm34 an34 cd34 ct34) ["_law_letters_here", "_law_way", "_law_one", "_law_two"] (spLMade [(PW, qWin), (PE, qHead), (PP, qPie), (PN, qStep)] C) := ok_lmade F34 MM
  have G36 : FnOk l.prog w K mg base CX0 1 f36 (PySem.W.fnOf "_law_power" "_law_power" (defArgs sLPow) (defBody sLPow) (defScope sLPow) .none kV36 dc36 pm36 an36 cd36 ct36) ["_law_base", "_law_times"] (spLPow) := ok_lpow F36 T
  have G35 : FnOk l.prog w K mg base CX0 2 f35 (PySem.W.fnOf "_law_total" "_law_total" (defArgs sLTot) (defBody sLTot) (defScope sLTot) .none kV35 dc35 pm35 an35 cd35 ct35) ["_law_letters_here", "_law_way", "_law_one", "_law_two"] (spLTot) := ok_ltot F35 T A36 G36
  have G37 : FnOk l.prog w K mg base CX0 11 f37 (PySem.W.fnOf "_law_right" "_law_right" (defArgs sLRight) (defBody sLRight) (defScope sLRight) .none kV37 dc37 pm37 an37 cd37 ct37) ["_law_dice_here"] (spLRight [(PW, qWin), (PE, qHead), (PP, qPie), (PN, qStep)]) := ok_lright F37 T M R Mt ⟨a50, n50, k50⟩ G50 b50 G47 b47 A24 A25 A27 G27 A28 G28 A33 G33 A34 G34 A35 G35
  exact ok_lawB F38 T MM Mt A23 G23 A37 G37
end WK

set_option Elab.async false
set_option linter.all false
open PySem PySem.W PyProof.Rows
set_option maxRecDepth 100000 in
set_option maxHeartbeats 0 in
theorem PySem.Challenge.cw_watchkinds_k06_boxes_by_what_words_have_holds : PySem.Challenge.rw_watchkinds_k06_boxes_by_what_words_have.Holds := by
  w_on; o_law; k_head; (case hw => w_witness2)
  k_fill
  refine LamX.walk_ofTs (l := PySem.Challenge.rw_watchkinds_k06_boxes_by_what_words_have) (n := 63) (k := 12) (x := "_law_script") (CX := fun _ => L2.CX0) rfl (by decide) rfl ⟨rfl, by decide, by decide⟩ (fun w h Y => PySem.W.km_in_of Y) ?F (fun _ _ _ _ _ z => z)
  case F =>
    intro w mg fa h Y KX G hmg
    refine' WK.all_mk KX G hmg ?gC ?gD ?pgb ?hdb ?pob ?sab ?ccb ?obb ?mkb ?kCb ?pgd ?hdd ?pod ?sad ?ccd ?obd ?mkd ?kCd ?cn ?ct ?nT ?nL ?nR ?iD ?iB ?rd ?ga ?cmW ?crW ?cfW ?cmE ?crE ?cfE ?cmP ?crP ?cfP ?cmA ?crA ?cfA ?cmR ?crR ?cfR ?cmK ?crK ?cfK ?pal ?pg_l ?pt_l ?pr_l ?pat ?pg_t ?pt_t ?pr_t ?a49 ?a50 ?a51 ?a52 ?a53 ?a54 ?n49 ?n50 ?n51 ?n52 ?n53 ?n54 ?n40 ?n39 ?fiC ?ne ?nf ?sf ?ki ?d0 ?l0 ?q0 ?k0 ?d1 ?l1 ?q1 ?k1 ?d2 ?l2 ?q2 ?k2 ?d3 ?l3 ?q3 ?k3 ?d4 ?l4 ?q4 ?k4 ?d5 ?l5 ?q5 ?k5 ?d6 ?l6 ?q6 ?k6 ?d7 ?l7 ?q7 ?k7 ?d8 ?l8 ?q8 ?k8 ?d9 ?l9 ?q9 ?k9 ?d10 ?l10 ?q10 ?k10 ?d11 ?l11 ?q11 ?k11 ?d12 ?l12 ?q12 ?k12 ?d13 ?l13 ?q13 ?k13 ?d14 ?l14 ?q14 ?k14 ?d15 ?l15 ?q15 ?k15 ?d16 ?l16 ?q16 ?k16 ?d17 ?l17 ?q17 ?k17 ?d18 ?l18 ?q18 ?k18 ?d19 ?l19 ?q19 ?k19 ?d20 ?l20 ?q20 ?k20 ?d21 ?l21 ?q21 ?k21 ?d22 ?l22 ?q22 ?k22 ?d23 ?l23 ?q23 ?k23 ?d24 ?l24 ?q24 ?k24 ?d25 ?l25 ?q25 ?k25 ?d26 ?l26 ?q26 ?k26 ?d27 ?l27 ?q27 ?k27 ?d28 ?l28 ?q28 ?k28 ?d29 ?l29 ?q29 ?k29 ?d30 ?l30 ?q30 ?k30 ?d31 ?l31 ?q31 ?k31 ?d32 ?l32 ?q32 ?k32 ?d33 ?l33 ?q33 ?k33 ?d34 ?l34 ?q34 ?k34 ?d35 ?l35 ?q35 ?k35 ?d36 ?l36 ?q36 ?k36 ?d37 ?l37 ?q37 ?k37 ?d38 ?l38 ?q38 ?k38 ?l39 ?q39 ?k39 ?l40 ?q40 ?k40 ?l41 ?q41 ?k41 ?l42 ?q42 ?k42 ?l43 ?q43 ?k43 ?l44 ?q44 ?k44 ?l45 ?q45 ?k45 ?l46 ?q46 ?k46 ?l47 ?q47 ?k47 ?l48 ?q48 ?k48 ?l49 ?q49 ?k49 ?l50 ?q50 ?k50 ?l51 ?q51 ?k51 ?l52 ?q52 ?k52 ?l53 ?q53 ?k53 ?l54 ?q54 ?k54 ?y3 ?y4 ?hPW ?nPW ?hCW ?hPE ?nPE ?hCE ?hPP ?nPP ?hCP ?hPN ?nPN ?hCN ?un ?vMAX_MADE ?v_MAX_SIZE ?v_MAX_PIECES ?v_MAX_CAP ?v_MAX_MODULUS ?vMAX_LETTERS ?z_len ?z_int ?z_abs ?z_isinstance ?z_bool ?z_str ?z_all ?z_range ?z_sorted ?z_set ?z_tuple ?z_list ?z_max ?z_min ?z_zip ?z_enumerate
    (case gC => k_is)
    (case gD => k_is)
    (case pgb => kernel_rfl)
    (case hdb => kernel_rfl)
    (case pob => kernel_rfl)
    (case sab => kernel_rfl)
    (case ccb => kernel_rfl)
    (case obb => kernel_rfl)
    (case mkb => kernel_rfl)
    (case kCb => kernel_rfl)
    (case pgd => kernel_rfl)
    (case hdd => kernel_rfl)
    (case pod => kernel_rfl)
    (case sad => kernel_rfl)
    (case ccd => kernel_rfl)
    (case obd => kernel_rfl)
    (case mkd => kernel_rfl)
    (case kCd => kernel_rfl)
    (case cn => kernel_rfl)
    (case ct => kernel_rfl)
    (case nT => kernel_rfl)
    (case nL => kernel_rfl)
    (case nR => kernel_rfl)
    (case iD => k_is)
    (case iB => k_is)
    (case rd => kernel_rfl)
    (case ga => kernel_rfl)
    (case cmW => k_is)
    (case crW => k_is)
    (case cfW => kernel_rfl)
    (case cmE => k_is)
    (case crE => k_is)
    (case cfE => kernel_rfl)
    (case cmP => k_is)
    (case crP => k_is)
    (case cfP => kernel_rfl)
    (case cmA => k_is)
    (case crA => k_is)
    (case cfA => kernel_rfl)
    (case cmR => k_is)
    (case crR => k_is)
    (case cfR => kernel_rfl)
    (case cmK => k_is)
    (case crK => k_is)
    (case cfK => kernel_rfl)
    (case pal => k_is)
    (case pg_l => kernel_rfl)
    (case pt_l => kernel_rfl)
    (case pr_l => k_is)
    (case pat => k_is)
    (case pg_t => kernel_rfl)
    (case pt_t => kernel_rfl)
    (case pr_t => k_is)
    (case a49 => k_is)
    (case a50 => k_is)
    (case a51 => k_is)
    (case a52 => k_is)
    (case a53 => k_is)
    (case a54 => k_is)
    (case n49 => kernel_rfl)
    (case n50 => kernel_rfl)
    (case n51 => kernel_rfl)
    (case n52 => kernel_rfl)
    (case n53 => kernel_rfl)
    (case n54 => kernel_rfl)
    (case n40 => kernel_rfl)
    (case n39 => kernel_rfl)
    (case fiC => kernel_rfl)
    (case ne => kernel_rfl)
    (case nf => kernel_rfl)
    (case sf => kernel_rfl)
    (case ki => kernel_rfl)
    (case d0 => k_is)
    (case l0 => k_is)
    (case q0 => k_is)
    (case k0 => kernel_rfl)
    (case d1 => k_is)
    (case l1 => k_is)
    (case q1 => k_is)
    (case k1 => kernel_rfl)
    (case d2 => k_is)
    (case l2 => k_is)
    (case q2 => k_is)
    (case k2 => kernel_rfl)
    (case d3 => k_is)
    (case l3 => k_is)
    (case q3 => k_is)
    (case k3 => kernel_rfl)
    (case d4 => k_is)
    (case l4 => k_is)
    (case q4 => k_is)
    (case k4 => kernel_rfl)
    (case d5 => k_is)
    (case l5 => k_is)
    (case q5 => k_is)
    (case k5 => kernel_rfl)
    (case d6 => k_is)
    (case l6 => k_is)
    (case q6 => k_is)
    (case k6 => kernel_rfl)
    (case d7 => k_is)
    (case l7 => k_is)
    (case q7 => k_is)
    (case k7 => kernel_rfl)
    (case d8 => k_is)
    (case l8 => k_is)
    (case q8 => k_is)
    (case k8 => kernel_rfl)
    (case d9 => k_is)
    (case l9 => k_is)
    (case q9 => k_is)
    (case k9 => kernel_rfl)
    (case d10 => k_is)
    (case l10 => k_is)
    (case q10 => k_is)
    (case k10 => kernel_rfl)
    (case d11 => k_is)
    (case l11 => k_is)
    (case q11 => k_is)
    (case k11 => kernel_rfl)
    (case d12 => k_is)
    (case l12 => k_is)
    (case q12 => k_is)
    (case k12 => kernel_rfl)
    (case d13 => k_is)
    (case l13 => k_is)
    (case q13 => k_is)
    (case k13 => kernel_rfl)
    (case d14 => k_is)
    (case l14 => k_is)
    (case q14 => k_is)
    (case k14 => kernel_rfl)
    (case d15 => k_is)
    (case l15 => k_is)
    (case q15 => k_is)
    (case k15 => kernel_rfl)
    (case d16 => k_is)
    (case l16 => k_is)
    (case q16 => k_is)
    (case k16 => kernel_rfl)
    (case d17 => k_is)
    (case l17 => k_is)
    (case q17 => k_is)
    (case k17 => kernel_rfl)
    (case d18 => k_is)
    (case l18 => k_is)
    (case q18 => k_is)
    (case k18 => kernel_rfl)
    (case d19 => k_is)
    (case l19 => k_is)
    (case q19 => k_is)
    (case k19 => kernel_rfl)
    (case d20 => k_is)
    (case l20 => k_is)
    (case q20 => k_is)
    (case k20 => kernel_rfl)
    (case d21 => k_is)
    (case l21 => k_is)
    (case q21 => k_is)
    (case k21 => kernel_rfl)
    (case d22 => k_is)
    (case l22 => k_is)
    (case q22 => k_is)
    (case k22 => kernel_rfl)
    (case d23 => k_is)
    (case l23 => k_is)
    (case q23 => k_is)
    (case k23 => kernel_rfl)
    (case d24 => k_is)
    (case l24 => k_is)
    (case q24 => k_is)
    (case k24 => kernel_rfl)
    (case d25 => k_is)
    (case l25 => k_is)
    (case q25 => k_is)
    (case k25 => kernel_rfl)
    (case d26 => k_is)
    (case l26 => k_is)
    (case q26 => k_is)
    (case k26 => kernel_rfl)
    (case d27 => k_is)
    (case l27 => k_is)
    (case q27 => k_is)
    (case k27 => kernel_rfl)
    (case d28 => k_is)
    (case l28 => k_is)
    (case q28 => k_is)
    (case k28 => kernel_rfl)
    (case d29 => k_is)
    (case l29 => k_is)
    (case q29 => k_is)
    (case k29 => kernel_rfl)
    (case d30 => k_is)
    (case l30 => k_is)
    (case q30 => k_is)
    (case k30 => kernel_rfl)
    (case d31 => k_is)
    (case l31 => k_is)
    (case q31 => k_is)
    (case k31 => kernel_rfl)
    (case d32 => k_is)
    (case l32 => k_is)
    (case q32 => k_is)
    (case k32 => kernel_rfl)
    (case d33 => k_is)
    (case l33 => k_is)
    (case q33 => k_is)
    (case k33 => kernel_rfl)
    (case d34 => k_is)
    (case l34 => k_is)
    (case q34 => k_is)
    (case k34 => kernel_rfl)
    (case d35 => k_is)
    (case l35 => k_is)
    (case q35 => k_is)
    (case k35 => kernel_rfl)
    (case d36 => k_is)
    (case l36 => k_is)
    (case q36 => k_is)
    (case k36 => kernel_rfl)
    (case d37 => k_is)
    (case l37 => k_is)
    (case q37 => k_is)
    (case k37 => kernel_rfl)
    (case d38 => k_is)
    (case l38 => k_is)
    (case q38 => k_is)
    (case k38 => kernel_rfl)
    (case l39 => k_is)
    (case q39 => k_is)
    (case k39 => kernel_rfl)
    (case l40 => k_is)
    (case q40 => k_is)
    (case k40 => kernel_rfl)
    (case l41 => k_is)
    (case q41 => k_is)
    (case k41 => kernel_rfl)
    (case l42 => k_is)
    (case q42 => k_is)
    (case k42 => kernel_rfl)
    (case l43 => k_is)
    (case q43 => k_is)
    (case k43 => kernel_rfl)
    (case l44 => k_is)
    (case q44 => k_is)
    (case k44 => kernel_rfl)
    (case l45 => k_is)
    (case q45 => k_is)
    (case k45 => kernel_rfl)
    (case l46 => k_is)
    (case q46 => k_is)
    (case k46 => kernel_rfl)
    (case l47 => k_is)
    (case q47 => k_is)
    (case k47 => kernel_rfl)
    (case l48 => k_is)
    (case q48 => k_is)
    (case k48 => kernel_rfl)
    (case l49 => k_is)
    (case q49 => k_is)
    (case k49 => kernel_rfl)
    (case l50 => k_is)
    (case q50 => k_is)
    (case k50 => kernel_rfl)
    (case l51 => k_is)
    (case q51 => k_is)
    (case k51 => kernel_rfl)
    (case l52 => k_is)
    (case q52 => k_is)
    (case k52 => kernel_rfl)
    (case l53 => k_is)
    (case q53 => k_is)
    (case k53 => kernel_rfl)
    (case l54 => k_is)
    (case q54 => k_is)
    (case k54 => kernel_rfl)
    (case y3 => k_is)
    (case y4 => k_is)
    (case hPW => exact PySem.W.km_tabs_of Y _ (.tail _ (.tail _ (.tail _ (.head _)))))
    (case nPW => kernel_rfl)
    (case hCW => kernel_rfl)
    (case hPE => exact PySem.W.km_tabs_of Y _ (.tail _ (.tail _ (.head _))))
    (case nPE => kernel_rfl)
    (case hCE => kernel_rfl)
    (case hPP => exact PySem.W.km_tabs_of Y _ (.tail _ (.head _)))
    (case nPP => kernel_rfl)
    (case hCP => kernel_rfl)
    (case hPN => exact PySem.W.km_tabs_of Y _ (.head _))
    (case nPN => kernel_rfl)
    (case hCN => kernel_rfl)
    (case un => kernel_rfl)
    (case vMAX_MADE => k_is)
    (case v_MAX_SIZE => k_is)
    (case v_MAX_PIECES => k_is)
    (case v_MAX_CAP => k_is)
    (case v_MAX_MODULUS => k_is)
    (case vMAX_LETTERS => k_is)
    (case z_len => k_is)
    (case z_int => k_is)
    (case z_abs => k_is)
    (case z_isinstance => k_is)
    (case z_bool => k_is)
    (case z_str => k_is)
    (case z_all => k_is)
    (case z_range => k_is)
    (case z_sorted => k_is)
    (case z_set => k_is)
    (case z_tuple => k_is)
    (case z_list => k_is)
    (case z_max => k_is)
    (case z_min => k_is)
    (case z_zip => k_is)
    (case z_enumerate => k_is)

