import PyProof.Rows.All
import Wide.All
import OpenK.AllK
import Wide.FinOn
import HandS.ForMost
import HandS.Wide
import HandS.IsInst
import HandS.ExcInit
import HandS.Flow
import HandS.Codes
import KE.KExcIs
import KE.KExcInit
import PyProof.Rows.SetFrom
import PyProof.StrWalks
import HandS.Set
import HandS.TupSets
import HandS.SetTxt0
import HandS.SetTxtIn
import HandS.Strs
import HandS.Style
import HandS.StrMore
import HandS.Text
import PyProof.StrLawsFrom
import PyProof.Rows.StrCountLaw
import PyProof.Rows.StrRev
import PyProof.Rows.StrMul
import KE.KDictZip
import HandS.Zip
import HandS.Zip0
import HandS.Sort
import HandS.Words
import HandS.Nested
import HandS.Lambda
import HandS.Dict
import PyProof.Rows.TupDisplay
import HandS.Walk
import HandS.WordsExc
import HandS.Conv
import KE.GoesNew
import HandS.DictComp
import HandS.More
import HandS.SortInts
import KE.KDictPairs
import HandS.SetFor
import KE.KeyNested
import KE.KDictCopyH
import HandS.TupLen
import KE.GoesEnum
import PyProof.Rows.MinMaxN
import HandS.SlotsOwn
import HandS.Property
import KE.KCallOwn
import KE.KFmtOwn
import PyProof.InstNe
import KE.LtData
import HandS.Deep
import HandS.DictSub
import PyProof.CollectStr
import HandS.ExcValue
import KE.KOpsOwn
import HandS.DeepEq
import HandS.EndTab
import HandS.Head2
import HandS.HeadHook2
import HandS.HeadHook1
import HandS.HeadWalk
import PySem.Challenge.RW_watchkinds_k04_whole_knots_and_order_fre
set_option Elab.async false
set_option linter.all false
set_option maxRecDepth 100000
set_option maxHeartbeats 4000000
namespace WK
open PySem L2 PyProof.Rows
def top (i : Nat) : Stmt := PySem.Challenge.pw_watchkinds_k04_whole_knots_and_order_fre.main.body.getD i (.Pass ⟨0, 0, 0, 0⟩)
abbrev sDice : Stmt := top 53
abbrev sRoll : Stmt := top 54
abbrev sOne : Stmt := top 55
/-- a power of any two numbers of which the result is not too long -/
def CPowW (i j : Int) : Prop := 0 ≤ j ∧ (Builtin.Int.intBits i : Int) * j ≤ 2 ^ 27
theorem op_powW {X : Cx} : OpR X (binaryOp .Pow) (rI CPowW fun i j => .int (i ^ j.toNat)) := opI fun _ _ _ _ _ _ _ hc q => pow_int hc.1 hc.2 q
/-- the dice stand at p -/
def DiceAt (H : Hp) (p : Addr) : Prop := ∃ a b c : Int, H p = some (.lst [.int a, .int b, .int c]) ∧ 0 ≤ a ∧ 0 ≤ b ∧ 0 ≤ c
/-- all that was tracked stands, but for what is at p -/
def But (p : Addr) (H H' : Hp) : Prop := ∀ b o, H b = some o → b ≠ p → H' b = some o
theorem But.refl (p : Addr) (H : Hp) : But p H H := fun _ _ h _ => h
theorem But.trans {p : Addr} {H H1 H2 : Hp} (a : But p H H1) (b : But p H1 H2) : But p H H2 := fun c o h n => b c o (a c o h n) n
theorem But.ofSame {p : Addr} {H H' : Hp} (s : Same H H') : But p H H' := fun b o h _ => s b o h
theorem But.upd {p : Addr} {H : Hp} {o : HO} : But p H (upd H p o) := fun b u h n => by rw [upd_ne n]; exact h
/-- law's number of a cell -/
def big : Int := (10 ^ 60) ^ 10
theorem big_pos : 0 < big := by decide +kernel
def spDice (K : PySem.W.Frag) : Sp := fun vs H Q _ => ∃ (s : Addr) (ns : List Int) (k : Int), vs = [.ref s, .int k] ∧ SqL K H s (ns.map V.int) ∧ 0 ≤ k ∧
  ∀ (p : Addr) (H' : Hp), H p = none → Same H H' → DiceAt H' p → Q (.ref p) H'
def spRoll : Sp := fun vs H Q _ => ∃ (p : Addr) (n : Int), vs = [.ref p, .int n] ∧ DiceAt H p ∧ 0 < n ∧ n < 1073741824 ∧
  ∀ (r : Int) (H' : Hp), 0 ≤ r → r < n → DiceAt H' p → But p H H' → Q (.int r) H'
def spOne : Sp := fun vs H Q _ => ∃ (p q : Addr) (xs : List V), vs = [.ref p, .ref q] ∧ DiceAt H p ∧ q ≠ p ∧ H q = some (.lst xs) ∧ 0 < xs.length ∧ xs.length < 1000000 ∧
  ∀ (v : V) (H' : Hp), v ∈ xs → DiceAt H' p → But p H H' → Q v H'
structure TDice (mg : Str → Option Value) : Prop where
  len : mg "len" = none
  int : mg "int" = none
  abs : mg "abs" = none
section
variable {P : Program} {w : World} {K : PySem.W.Frag} {mg : Str → Option Value} {base : Heap}
theorem scD : FnScope ["_law_script", "_law_at", "_law_cell", "_law_great", "_law_left", "_law_mixed_here"] ["_law_script", "_law_at"] (defScope sDice) := ⟨rfl, rfl, rfl, by decide +kernel, rfl, by decide +kernel, by decide +kernel⟩
theorem ok_dice {f : Addr} {fd : FuncData} (F : Fun K "_law_dice" "_law_dice" sDice f fd) (T : TDice mg) : FnOk P w K mg base CX0 1 f fd ["_law_script", "_law_at"] (spDice K) := by
  refine F.ok scD (fun vs H Q E h => ?_) (fun cdv A outer s H vs Q E hr h => ?_)
  · obtain ⟨s, ns, k, rfl, _⟩ := h
    rfl
  · obtain ⟨s, ns, k, rfl, hS, hk, q⟩ := h
    refine ⟨_, pss_cons (ps_set (i := 2) scD.nd rfl (Or.inl rfl) (pe_op op_add (pe_op op_mul pe_int (pv 1)) pe_int))
      (C8.pss_cut (ps_if (pt_cmpR op_lt (pv 1) (pe_callB call_len_seq (by rfl) T.len PySem.boot_len (pa_cons (pv 0) pa_nil)) (nomark _))
        (pss_one (ps_set (i := 2) scD.nd rfl (Or.inl rfl) (pe_ix ix_list (pv 0) (pv 1) (fun _ _ => rfl)))) pss_nil)
      (pss_cons (ps_set (i := 3) scD.nd rfl (Or.inl rfl) (pe_op op_mod (pe_callTy call_int1 (by rfl) T.int (by decide +kernel) (pa_cons (pe_callB call_abs (by rfl) T.abs (by decide +kernel) (pa_cons (pv 2) pa_nil)) pa_nil)) (pe_op op_powW (pe_op op_pow pe_int pe_int) pe_int)))
      (pss_cons (ps_set (i := 4) scD.nd rfl (Or.inl rfl) (pe_op op_fdivW (pv 3) (pe_op op_pow pe_int pe_int)))
      (pss_cons (ps_set (i := 5) scD.nd rfl (Or.inl rfl) (pe_op op_add (pe_op op_add (pe_op op_add (pe_op op_mul (pe_op op_mod (pv 3) pe_int) pe_int) (pe_op op_mul pe_int (pv 1)))
          (pe_op op_mul pe_int (pe_callTy call_int1 (by rfl) T.int (by decide +kernel) (pa_cons (pe_cmpR op_lt (pv 2) pe_int (nomark _)) pa_nil)))) pe_int))
      (pss_one (ps_ret (pe_lst (pa_cons (pv 4) (pa_cons (pe_op op_mod (pv 5) pe_int) (pa_cons pe_int pa_nil)))))))))), ?_⟩
    refine ⟨_, rfl, _, _, rfl, rfl, .inl ⟨by decide, by decide⟩, _, _, rfl, rfl, ?_⟩
    -- behind the if: some cell
    refine ⟨fun σ H' => H' = H ∧ ∃ c : Int, σ = [some (.ref s), some (.int k), some (.int c), none, none, none], ?_, ?_⟩
    · refine ⟨_, rfl, _, rfl, s, _, rfl, .inl hS, _, _, rfl, rfl, _, rfl, ?_⟩
      refine ite2 (fun hc => ?_) (fun _ => ?_)
      · have hl : k < ((ns.map V.int).length : Int) := of_decide_eq_true hc
        rw [List.length_map] at hl
        have hj : k.toNat < ns.length := by omega
        have e1 : (ns.map V.int)[k.toNat]? = some (V.int ns[k.toNat]) := by
          rw [List.getElem?_map, List.getElem?_eq_getElem hj]
          rfl
        have e2 := atI_nat e1
        rw [Int.toNat_of_nonneg hk] at e2
        exact ⟨_, rfl, _, rfl, s, _, _, _, rfl, rfl, hS, e2, rfl, _, rfl⟩
      · exact ⟨rfl, _, rfl⟩
    · rintro σ H' ⟨rfl, c, rfl⟩
      refine ⟨_, rfl, _, rfl, .inl ⟨_, rfl, ?_⟩⟩
      refine ⟨_, _, rfl, rfl, ⟨by decide, by decide, by decide +kernel⟩, _, _, rfl, rfl, ⟨by decide, by decide +kernel⟩, _, _, rfl, rfl, big_pos, ?_⟩
      refine ⟨_, rfl, _, _, rfl, rfl, ⟨by decide, by decide, by decide +kernel⟩, _, _, rfl, rfl, wide_div (b := 64) (by decide +kernel) (by decide +kernel) (by decide) (by decide), ?_⟩
      refine ⟨_, rfl, _, _, rfl, rfl, (by show (0 : Int) < 2147483059; decide), _, _, rfl, rfl, .inr ⟨by decide, by decide⟩, _, rfl, _, _, rfl, rfl, .inl ⟨by decide, by decide⟩, _, _, rfl, rfl, ?_⟩
      refine ⟨_, rfl, _, _, rfl, rfl, .inr ⟨_, rfl, ?_⟩⟩
      refine ⟨_, _, rfl, rfl, .inl ⟨by decide, by decide⟩, _, _, rfl, rfl, _, _, rfl, rfl, ?_⟩
      refine ⟨_, rfl, _, rfl, _, _, rfl, rfl, (by show (0 : Int) < 2147483053; decide), (by show 3 ≤ sizeLine; decide), fun p hp => q p _ hp (fun b o e => by rw [upd_ne (ne_of_none e hp)]; exact e) ⟨_, _, _, upd_same, ?_, ?_, Int.le_refl 0⟩⟩
      · exact Int.ediv_nonneg (Int.emod_nonneg _ (Int.ne_of_gt big_pos)) (by decide)
      · exact Int.emod_nonneg _ (by decide)
/-- of a roll -/
theorem scR : FnScope ["_law_dice_here", "_law_total", "_law_number", "_law_drawn", "_law_one", "_law_two"] ["_law_dice_here", "_law_total"] (defScope sRoll) := ⟨rfl, rfl, rfl, by decide +kernel, rfl, by decide +kernel, by decide +kernel⟩
theorem ok_roll {f : Addr} {fd : FuncData} (F : Fun K "_law_roll" "_law_roll" sRoll f fd) (T : TDice mg) : FnOk P w K mg base CX0 1 f fd ["_law_dice_here", "_law_total"] spRoll := by
  refine F.ok scR (fun vs H Q E h => ?_) (fun cdv A outer s H vs Q E hr h => ?_)
  · obtain ⟨p, n, rfl, _⟩ := h
    rfl
  · obtain ⟨p, n, rfl, ⟨a, b, c, hD, ha, hb, hc⟩, hn, hn2, q⟩ := h
    refine ⟨_, pss_cons (ps_set (i := 2) scR.nd rfl (Or.inl rfl) (pe_callTy call_int1 (by rfl) T.int (by decide +kernel) (pa_cons (pv 1) pa_nil)))
      (pss_cons (ps_if (pt_cmpR op_gt (pe_ix ix_list (pv 0) pe_int (fun _ _ => rfl)) pe_int (nomark _))
        (pss_cons (ps_set (i := 3) scR.nd rfl (Or.inl rfl) (pe_op op_mod (pe_ix ix_list (pv 0) pe_int (fun _ _ => rfl)) (pv 2)))
        (pss_cons (ps_asg (pe_op op_fdiv (pe_ix ix_list (pv 0) pe_int (fun _ _ => rfl)) (pv 2)) (pg_sub (pv 0) pe_int set_list))
        (pss_one (ps_ret (pe_callTy call_int1 (by rfl) T.int (by decide +kernel) (pa_cons (pv 3) pa_nil)))))) pss_nil)
      (pss_cons (ps_asg (pe_op op_add (pe_ix ix_list (pv 0) pe_int (fun _ _ => rfl)) pe_int) (pg_sub (pv 0) pe_int set_list))
      (pss_cons (ps_set (i := 4) scR.nd rfl (Or.inl rfl) (pe_op op_mod (pe_op op_add (pe_ix ix_list (pv 0) pe_int (fun _ _ => rfl)) (pe_op op_mul pe_int (pe_ix ix_list (pv 0) pe_int (fun _ _ => rfl)))) pe_int))
      (pss_cons (ps_set (i := 5) scR.nd rfl (Or.inl rfl) (pe_op op_add (pe_op op_mul (pe_op op_mod (pe_op op_mul (pv 4) (pv 4)) pe_int) (pv 4)) (pe_op op_mul pe_int (pe_ix ix_list (pv 0) pe_int (fun _ _ => rfl)))))
      (pss_cons (ps_set (i := 5) scR.nd rfl (Or.inl rfl) (pe_op op_mod (pv 5) pe_int))
      (pss_one (ps_ret (pe_callTy call_int1 (by rfl) T.int (by decide +kernel) (pa_cons (pe_op op_mod (pe_op op_fdiv (pv 5) pe_int) (pv 2)) pa_nil))))))))), ?_⟩
    refine ⟨_, rfl, .inl ⟨_, rfl, ?_⟩⟩
    refine ⟨_, rfl, p, _, _, _, rfl, rfl, SqL.of hD, atI_nat (j := 0) rfl, _, _, rfl, rfl, _, rfl, ?_⟩
    refine ite2 (fun hc' => ?_) (fun hc' => ?_)
    · refine ⟨_, rfl, p, _, _, _, rfl, rfl, SqL.of hD, atI_nat (j := 0) rfl, _, rfl, _, _, rfl, rfl, hn, ?_⟩
      refine ⟨_, rfl, p, _, _, _, rfl, rfl, SqL.of hD, atI_nat (j := 0) rfl, _, rfl, _, _, rfl, rfl, ⟨hn, hn2⟩, ?_⟩
      refine ⟨_, rfl, p, _, _, 0, rfl, rfl, hD, rfl, ?_⟩
      refine ⟨_, rfl, .inl ⟨_, rfl, ?_⟩⟩
      exact q _ _ (Int.emod_nonneg _ (Int.ne_of_gt hn)) (Int.emod_lt_of_pos _ hn) ⟨_, _, _, upd_same, Int.ediv_nonneg ha (Int.le_of_lt hn), hb, hc⟩ But.upd
    · refine ⟨_, rfl, p, _, _, _, rfl, rfl, SqL.of hD, atI_nat (j := 2) rfl, _, _, rfl, rfl, _, rfl, p, _, _, 2, rfl, rfl, hD, rfl, ?_⟩
      have h2 : (upd H p (.lst [.int a, .int b, .int (c + 1)])) p = some (.lst [.int a, .int b, .int (c + 1)]) := upd_same
      refine ⟨_, rfl, p, _, _, _, rfl, rfl, SqL.of h2, atI_nat (j := 1) rfl, _, rfl, p, _, _, _, rfl, rfl, SqL.of h2, atI_nat (j := 2) rfl, _, _, rfl, rfl, .inl ⟨by decide, by decide⟩, _, _, rfl, rfl, _, _, rfl, rfl, (by show (0 : Int) < 2305843009213693951; decide), ?_⟩
      have one0 : ∀ x : Int, -(2 ^ 64) < x % 2305843009213693951 ∧ x % 2305843009213693951 < 2 ^ 64 := fun x => by
        have l := Int.emod_nonneg x (show (2305843009213693951 : Int) ≠ 0 by decide)
        have u := Int.emod_lt_of_pos x (show (0 : Int) < 2305843009213693951 by decide)
        exact ⟨by omega, by omega⟩
      refine ⟨_, rfl, _, rfl, _, _, rfl, rfl, .inl (one0 _), _, _, rfl, rfl, (by show (0 : Int) < 2305843009213693921; decide), _, rfl, _, _, rfl, rfl, .inr (one0 _), _, rfl, p, _, _, _, rfl, rfl, SqL.of h2, atI_nat (j := 2) rfl, _, _, rfl, rfl, .inl ⟨by decide, by decide⟩, _, _, rfl, rfl, ?_⟩
      refine ⟨_, rfl, _, _, rfl, rfl, (by show (0 : Int) < 2305843009213693907; decide), ?_⟩
      refine ⟨_, rfl, _, _, rfl, rfl, ⟨by decide, by decide⟩, _, rfl, _, _, rfl, rfl, hn, .inl ⟨_, rfl, ?_⟩⟩
      exact q _ _ (Int.emod_nonneg _ (Int.ne_of_gt hn)) (Int.emod_lt_of_pos _ hn) ⟨_, _, _, upd_same, ha, hb, by omega⟩ But.upd
theorem scO : FnScope ["_law_dice_here", "_law_items"] ["_law_dice_here", "_law_items"] (defScope sOne) := ⟨rfl, rfl, rfl, by decide +kernel, rfl, by decide +kernel, by decide +kernel⟩
theorem ok_one {f fR : Addr} {fd fdR : FuncData} (F : Fun K "_law_one_of" "_law_one_of" sOne f fd) (T : TDice mg) (gR : mg "_law_roll" = some (.ref fR)) (FR : Fun K "_law_roll" "_law_roll" sRoll fR fdR) (bR : Binds K fdR ["_law_dice_here", "_law_total"] []) :
    FnOk P w K mg base CX0 2 f fd ["_law_dice_here", "_law_items"] spOne := by
  have GR : FnOk P w K mg base CX0 1 fR fdR ["_law_dice_here", "_law_total"] spRoll := ok_roll FR T
  refine F.ok scO (fun vs H Q E h => ?_) (fun cdv A outer s H vs Q E hr h => ?_)
  · obtain ⟨p, n, _, rfl, _⟩ := h
    rfl
  · obtain ⟨p, a, xs, rfl, hD, hne, hx, h0, h1, q⟩ := h
    refine ⟨_, pss_one (ps_ret (pe_ix ix_list (pv 1) (pe_call GR hr rfl gR FR.kp bR .nil pass0 (pa_cons (pv 0) (pa_cons (pe_callB call_len_seq (by rfl) T.len PySem.boot_len (pa_cons (pv 1) pa_nil)) pa_nil))) (fun _ _ => rfl))), ?_⟩
    refine ⟨_, rfl, _, rfl, _, rfl, a, _, rfl, .inl (SqL.of hx), p, _, rfl, hD, by omega, by omega, fun r H' hr0 hr1 hD' hB => ?_⟩
    have hj : r.toNat < xs.length := by omega
    have e1 : xs[r.toNat]? = some xs[r.toNat] := List.getElem?_eq_getElem hj
    have e2 := atI_nat e1
    rw [Int.toNat_of_nonneg hr0] at e2
    exact ⟨a, _, _, _, rfl, rfl, SqL.of (hB _ _ hx hne), e2, q _ _ (List.getElem_mem hj) hD' hB⟩
end
end WK
set_option Elab.async false
set_option linter.all false
set_option maxRecDepth 100000
set_option maxHeartbeats 4000000
namespace TX
open PySem PySem.Spec PyProof.Rows L2
/-- the text of an entry -/
def txOf (e : Int × Value) : Str := strOf e.2
def GoodX (w : World) (e : Int × Value) : Prop := ∃ k tk, e.2 = Value.str k tk ∧ e.1 = hashStr w k
/-- what holds of the entries of a set of texts, whatever object bears them: T says its members -/
structure Fine (w : World) (T : Str → Bool) (es : Array (Int × Value)) (t : SetTable) : Prop where
  good : ∀ e ∈ es.toList, GoodX w e
  once : (es.toList.map txOf).Nodup
  mem : ∀ k, T k = true ↔ k ∈ es.toList.map txOf
  few : es.size < scanBound
  fit : t.fits es.size = true
  ris : Ris t.place.toList
  led : t.led = true ∨ w.params.followText "set-order" = true
/-- a set of n texts at a -/
structure SetX (w : World) (h : Heap) (a : Addr) (T : Str → Bool) (n : Nat) (o : Obj) (es : Array (Int × Value)) (ep : Nat) (t : SetTable) : Prop where
  ob : h.get? a = some o
  ex : o.ExactSet
  dat : o.data = .set es ep t
  sz : es.size = n
  fine : Fine w T es t
def HasX (w : World) (h : Heap) (a : Addr) (T : Str → Bool) (n : Nat) : Prop := ∃ o es ep t, SetX w h a T n o es ep t
section
variable {P : Program} {w : World} {h h' : Heap} {a : Addr} {T : Str → Bool} {n : Nat}
theorem HasX.at (R : HasX w h a T n) (k : ∀ o, h.get? a = some o → h'.get? a = some o) : HasX w h' a T n := by
  obtain ⟨o, es, ep, t, r⟩ := R
  exact ⟨o, es, ep, t, { r with ob := k o r.ob }⟩
theorem good_elems {l : List (Int × Value)} (g : ∀ e ∈ l, GoodX w e) : ElemsOf (PySem.strKind P w) l := fun e at_e =>
  match e, g e at_e with
  | (_, _), ⟨k, tk, rfl, hash⟩ => ⟨⟨k, Froz.is_str k tk, hash⟩, by rfl⟩
theorem good_is {e : Int × Value} (g : GoodX w e) (k : Str) : (PySem.strKind P w).is k e.2 = true ↔ txOf e = k :=
  match e, g with
  | (_, _), ⟨j, tk, rfl, _⟩ => ⟨fun q => (PySem.strKind P w).inj (.str j tk) j k (Froz.is_str j tk) q, fun q => q ▸ Froz.is_str j tk⟩
/-- the scan of the entries finds a text just where T says so -/
theorem Fine.look {es : Array (Int × Value)} {t : SetTable} (F : Fine w T es t) (k : Str) : (es.toList.findIdx? fun e => (PySem.strKind P w).is k e.2).isSome = T k := by
  rw [List.findIdx?_isSome, Bool.eq_iff_iff, List.any_eq_true, F.mem k, List.mem_map]
  exact ⟨fun ⟨e, at_e, q⟩ => ⟨e, at_e, (good_is (F.good e at_e) k).mp q⟩, fun ⟨e, at_e, q⟩ => ⟨e, at_e, (good_is (F.good e at_e) k).mpr q⟩⟩
theorem Fine.moved {es fs : Array (Int × Value)} {t u : SetTable} (F : Fine w T es t) (p : fs.toList.Perm es.toList) (fit : u.fits fs.size = true) (ris : Ris u.place.toList) (led : u.led = t.led) : Fine w T fs u ∧ fs.size = es.size := by
  have size := p.length_eq
  rw [Array.length_toList, Array.length_toList] at size
  exact ⟨⟨fun e at_e => F.good e (p.mem_iff.mp at_e), (p.map txOf).nodup_iff.mpr F.once, fun k => (F.mem k).trans (p.map txOf).mem_iff.symm, size ▸ F.few, fit, ris, led ▸ F.led⟩, size⟩
theorem Fine.more {es fs : Array (Int × Value)} {t u : SetTable} {k : Str} {tk : Tok} (F : Fine w T es t) (out : T k = false) (room : es.size + 1 < scanBound)
    (p : fs.toList.Perm (es.push ((PySem.strKind P w).hash k, .str k tk)).toList) (fit : u.fits fs.size = true) (ris : Ris u.place.toList) (led : u.led = t.led) :
    Fine w (fun j => T j || decide (j = k)) fs u ∧ fs.size = es.size + 1 := by
  have pe : fs.toList.Perm (((PySem.strKind P w).hash k, Value.str k tk) :: es.toList) := p.trans (by rw [Array.toList_push]; exact List.perm_append_singleton _ _)
  have pt : (fs.toList.map txOf).Perm (k :: es.toList.map txOf) := pe.map txOf
  have size := pe.length_eq
  rw [List.length_cons, Array.length_toList, Array.length_toList] at size
  refine ⟨⟨fun e at_e => ?_, pt.nodup_iff.mpr (List.nodup_cons.mpr ⟨fun z => ?_, F.once⟩), fun j => ?_, size ▸ room, fit, ris, led ▸ F.led⟩, size⟩
  · cases pe.mem_iff.mp at_e with
    | head => exact ⟨k, tk, rfl, rfl⟩
    | tail _ old => exact F.good e old
  · exact Bool.false_ne_true (out.symm.trans ((F.mem k).mpr z))
  · simp only [pt.mem_iff, List.mem_cons, Bool.or_eq_true, decide_eq_true_eq, F.mem j]
    exact Or.comm
theorem Fine.plainOff {es : Array (Int × Value)} {t : SetTable} (F : Fine w T es t) : Fine w T es { t with plain := false } := { F with fit := SetTable.fits_plain_off F.fit }
end
section
variable {P : Program} {w : World} {A : Around} {E : Value → Shared → Prop} {s : Shared} {a : Addr} {T : Str → Bool} {n : Nat}
/-- the entries are laid down, and laid anew where the table is too full -/
theorem lay {g : Bool → Sem Unit} (calm : ∀ (b : Bool) (r : Shared) (K : Unit → Shared → Prop), K () r → wpAny (model P w) A (g b) K E r) {o : Obj} {es fs : Array (Int × Value)} {ep : Nat} {t u : SetTable}
    (ob : s.heap.get? a = some o) (ex : o.ExactSet) (dat : o.data = .set es ep t) (F : Fine w T fs u) {again : Bool} {R : Option Bool → Shared → Prop}
    (done : ∀ k, Heap.SameBut a s.heap k → HasX w k a T fs.size → R (some true) { s with heap := k }) :
    wpAny (model P w) A (storeSet a fs u >>= fun _ => if (!again && u.tooFull) = true then
        g (relayAll u fs (SetTable.grown fs.size)).2.2 >>= fun _ => storeSet a (relayAll u fs (SetTable.grown fs.size)).1 (relayAll u fs (SetTable.grown fs.size)).2.1 >>= fun _ => pure (some true)
      else pure (some true)) R E s := by
  have same1 := Heap.SameBut.update s.heap a (Obj.putSet fs u)
  have at1 := store_at (es' := fs) (t' := u) ob dat
  refine wpAny_bind (wpAny_storeSet_of ob dat ?_ (fits_of_scanBound F.few))
  by_cases full : (!again && u.tooFull) = true
  · rw [if_pos full]
    obtain ⟨F2, size2⟩ := F.moved (relayAll_perm u fs (SetTable.grown fs.size)) (relayAll_fits u fs _) (relayAll_ris u fs _) (relayAll_led u fs _)
    exact wpAny_bind (calm _ _ _ (wpAny_bind (wpAny_storeSet_of at1 rfl (wpAny_pure (done _ (same1.trans (Heap.SameBut.update _ a _)) ⟨_, _, _, _, store_at at1 rfl, ex, rfl, size2, F2⟩)) (fits_of_scanBound F2.few))))
  · rw [if_neg full]
    exact wpAny_pure (done _ same1 ⟨_, fs, _, u, at1, ex, rfl, rfl, F⟩)
theorem add {k : Str} {tk : Tok} {Q : Bool → Shared → Prop} (R : HasX w s.heap a T n) (room : n + 1 < scanBound)
    (hQ : ∀ h', Heap.SameBut a s.heap h' → HasX w h' a (fun j => T j || decide (j = k)) (if T k = true then n else n + 1) → Q (!T k) { s with heap := h' }) :
    wpAny (model P w) A (setAddHashed a (.str k tk) ((PySem.strKind P w).hash k)) Q E s := by
  obtain ⟨o, es, ep, t, ob, ex, dat, rfl, F⟩ := R
  have scans : (Value.str k tk).scannable = true := rfl
  have els := good_elems (P := P) F.good
  have calm : ∀ (b : Bool) (r : Shared) (K : Unit → Shared → Prop), K () r → wpAny (model P w) A (match b with | true => rule "set.scan.the-table-gave-way" | false => pure ()) K E r
    | true, _, _, q => wpAny_rule q
    | false, _, _, q => wpAny_pure q
  unfold setAddHashed; unfold setAddHashedIn
  refine wpAny_holding (wpAny_bind (wpAny_setState_of ob dat F.fit ?_))
  simp only [byScan_of scans F.few els, ↓reduceIte]
  unfold setAddByScan
  refine wpAny_bind (wpAny_bind (wpAny_rule (wpAny_bind (wpAny_setScan_of (Froz.is_str k tk) ob dat F.fit els ?_))))
  have seen := F.look (P := P) k
  cases found : es.toList.findIdx? (fun e => (PySem.strKind P w).is k e.2) with
  | some j =>
    rw [found] at seen
    have inT : T k = true := seen.symm
    have q := hQ s.heap (Heap.SameBut.refl a s.heap) ⟨o, es, ep, t, ob, ex, dat, (if_pos inT).symm, { F with mem := fun i => (F.mem i).symm.trans ?_ |>.symm }⟩
    · rw [inT] at q
      exact wpAny_pure (wpAny_pure q)
    · simp only [Bool.or_eq_true, decide_eq_true_eq]
      exact ⟨.inl, fun z => z.elim id fun e => e ▸ inT⟩
  | none =>
    rw [found] at seen
    have out : T k = false := seen.symm
    have F1 := F.more (P := P) (k := k) (tk := tk) out room (layNew_perm t es _ _) (layNew_fits t es _ _) (layNew_ris t es _ _ F.ris) (layNew_led t es _ _)
    revert F1
    generalize layNew t es ((PySem.strKind P w).hash k) (.str k tk) = Z
    rcases Z with ⟨fs, u, again, gave⟩
    rintro ⟨F1, size1⟩
    have fin : ∀ g, Heap.SameBut a s.heap g → HasX w g a (fun j => T j || decide (j = k)) fs.size → Q true { s with heap := g } := fun g same r => by
      have q := hQ g same
      simp only [out, Bool.false_eq_true, if_false, Bool.not_false] at q
      exact q (size1 ▸ r)
    dsimp only
    refine wpAny_bind (calm _ _ _ ?_)
    split
    · rw [hashByValue_scannable 8 scans]
      refine wpAny_bind (wpAny_pure (lay (T := fun j => T j || decide (j = k)) ?_ ob ex dat ?_ fun g same r => ?_))
      · exact fun b r K q => by cases b <;> first | exact wpAny_rule q | exact wpAny_pure q
      · first | exact F1 | (split <;> first | exact F1 | exact F1.plainOff)
      · dsimp only
        exact wpAny_pure (fin g same r)
    · refine wpAny_bind (wpAny_pure ?_)
      simp only [↓reduceIte]
      refine lay (T := fun j => T j || decide (j = k)) ?_ ob ex dat F1 fun g same r => ?_
      · exact fun b r K q => by cases b <;> first | exact wpAny_rule q | exact wpAny_pure q
      · dsimp only
        exact wpAny_pure (fin g same r)
end
/-- a set as it is made -/
abbrev newSet (w : World) : Obj := { cls := .type "set", dict := none, data := .set #[] 0 (.fresh 0 0 (!w.params.followText "set-order")) }
theorem fresh {h : Heap} (w : World) : HasX w (h.push (newSet w)) h.objs.size (fun _ => false) 0 := by
  refine ⟨_, #[], 0, _, Heap.get?_push_size _ rfl, ⟨rfl, rfl, rfl⟩, rfl, rfl, ⟨fun e at_e => by simp at at_e, by simp, fun k => by simp, by decide, by rfl, List.Pairwise.nil, ?_⟩⟩
  show (!w.params.followText "set-order") = true ∨ _
  cases w.params.followText "set-order" <;> simp
section
variable {prog : Program} {w : World} {A : Around} {R : Result → Shared → Prop} {I : Addr} {fp wr : List Addr} {n : Nat} {x : Str} {St : Nat → Heap → Prop}
/-- the signs of a text, one after the other, into the set: left of them are still to come -/
theorem loop (W : Walks prog w A.in1 I fp wr n (SignAt x) St) (hn : n = x.cps.size) (S : Addr) (away : S ∉ fp) (room : n + 1 < scanBound) :
    ∀ (left i : Nat) (s : Shared) (T : Str → Bool) (c : Nat), n - i = left → i ≤ n → St i s.heap → HasX w s.heap S T c → c ≤ i →
      (∀ g tk T' c', HasX w g S T' c' → c' ≤ n → (∀ k, T' k = (T k || (x.cps.toList.drop i).any fun z => decide (k = ⟨#[z]⟩))) → (∀ b q, b ∉ S :: wr → s.heap.get? b = some q → g.get? b = some q) →
        R (.ok (.ret .none)) { s with heap := g, toks := tk }) →
      codeAny (model prog w) A (.builtin "set.update.loop" ⟨[.ref S, .ref I], []⟩) R s := by
  have apart : S ∉ wr := fun z => away (W.sub _ z)
  intro left
  induction left with
  | zero =>
    intro i s T c hm hi st isSet hc done
    obtain rfl : i = n := by omega
    refine codeAny_builtin PyProof.Rows.F.entry_set_update_loop (Around.under_plainId PyProof.Rows.F.plain_set_update_loop _ ▸ wpAny_bind (m := pyNext (.ref I)) (W.done s _ _ st fun g tk keep => ?_))
    refine wpAny_pure (done g tk T c (isSet.at fun q at_S => keep S q apart at_S) hc (fun k => ?_) fun b q nb at_b => keep b q (fun z => nb (.tail _ z)) at_b)
    rw [List.drop_of_length_le (by rw [hn]; simp)]
    simp
  | succ left ih =>
    intro i s T c hm hi st isSet hc done
    have more : i < n := by omega
    refine codeAny_builtin PyProof.Rows.F.entry_set_update_loop (Around.under_plainId PyProof.Rows.F.plain_set_update_loop _ ▸ wpAny_bind (m := pyNext (.ref I)) (W.item i s _ _ more st fun v g tk isSign st' keep => ?_))
    obtain ⟨z, t, hz, rfl⟩ := isSign
    refine wpAny_bind (m := holding [Value.str ⟨#[z]⟩ t] (setAdd S (.str ⟨#[z]⟩ t))) (wpAny_holding ?_)
    unfold setAdd
    refine wpAny_holding (wpAny_bind ((PySem.strKind prog w).pyHash (k := ⟨#[z]⟩) (Froz.is_str _ _) ?_))
    refine add (s := { s with heap := g, toks := tk + 1 }) (isSet.at fun q at_S => keep S q apart at_S) (by omega) fun g2 same isSet2 => ?_
    have keep2 : ∀ b q, b ∉ S :: wr → s.heap.get? b = some q → g2.get? b = some q := fun b q nb at_b => (same.2 b fun z => nb (z ▸ List.mem_cons_self)).trans (keep b q (fun z => nb (.tail _ z)) at_b)
    refine wpAny_pure ⟨plainId_quiet PyProof.Rows.F.plain_set_update_loop _, ih (i + 1) { s with heap := g2, toks := tk + 1 } _ _ (by omega) more (W.frame _ g _ st' fun b hb q at_b => ?_) isSet2 (by split <;> omega) fun g3 tk3 T3 c3 r3 l3 m3 k3 => ?_⟩
    · exact (same.2 b fun z : b = S => away (z ▸ hb)).trans at_b
    · refine done g3 tk3 T3 c3 r3 l3 (fun k => ?_) fun b q nb at_b => k3 b q nb (keep2 b q nb at_b)
      rw [m3 k, Fz.drop_at hz, List.any_cons, Bool.or_assoc]
end
end TX
set_option Elab.async false
set_option linter.all false
set_option maxRecDepth 100000
set_option maxHeartbeats 4000000
namespace TX
open PySem PySem.Spec PyProof.Rows L2
def ins (c : Nat) : List Nat → List Nat
  | [] => [c]
  | d :: r => if c < d then c :: d :: r else if c = d then d :: r else d :: ins c r
/-- the numbers of a list, each once, ascending -/
def sigs : List Nat → List Nat
  | [] => []
  | c :: r => ins c (sigs r)
theorem asc_eq : ∀ l m : List Nat, l.Pairwise (· < ·) → m.Pairwise (· < ·) → (∀ k, k ∈ l ↔ k ∈ m) → l = m
  | [], [], _, _, _ => rfl
  | [], d :: m, _, _, h => absurd ((h d).mpr List.mem_cons_self) (by simp)
  | c :: l, [], _, _, h => absurd ((h c).mp List.mem_cons_self) (by simp)
  | c :: l, d :: m, hl, hm, h => by
    obtain ⟨l1, l2⟩ := List.pairwise_cons.mp hl
    obtain ⟨m1, m2⟩ := List.pairwise_cons.mp hm
    have e : c = d := by
      rcases List.mem_cons.mp ((h c).mp List.mem_cons_self) with z | z
      · exact z
      · rcases List.mem_cons.mp ((h d).mpr List.mem_cons_self) with y | y
        · exact y.symm
        · have := l1 d y
          have := m1 c z
          omega
    subst e
    rw [asc_eq l m l2 m2 fun k => ?_]
    constructor
    · intro hk
      rcases List.mem_cons.mp ((h k).mp (List.mem_cons_of_mem _ hk)) with z | z
      · have := l1 k hk
        omega
      · exact z
    · intro hk
      rcases List.mem_cons.mp ((h k).mpr (List.mem_cons_of_mem _ hk)) with z | z
      · have := m1 k hk
        omega
      · exact z
/-- a text of one sign -/
abbrev sg (c : Nat) : Str := ⟨#[c]⟩
def hd1 (x : Str) : Nat := x.cps.toList.headD 0
theorem lt_sg (a b : Nat) : ltCps (sg a).cps.toList (sg b).cps.toList = decide (a < b) := by
  rw [ltCps_eq]
  show decide ([a] < [b]) = decide (a < b)
  by_cases h : a < b
  · rw [decide_eq_true h, decide_eq_true]
    exact List.Lex.rel h
  · rw [decide_eq_false h, decide_eq_false]
    intro q
    cases q with
    | rel r => exact h r
    | cons r => cases r
theorem rising_le : ∀ (l : List Nat) (p : Nat), risingS (sg p) (l.map sg) = true → (p :: l).Pairwise (· ≤ ·)
  | [], p, _ => List.pairwise_singleton ..
  | c :: l, p, h => by
    have h' : (!ltCps (sg c).cps.toList (sg p).cps.toList && risingS (sg c) (l.map sg)) = true := h
    rw [Bool.and_eq_true, lt_sg, Bool.not_eq_true', decide_eq_false_iff_not] at h'
    have ih := rising_le l c h'.2
    obtain ⟨i1, _⟩ := List.pairwise_cons.mp ih
    refine List.pairwise_cons.mpr ⟨fun y hy => ?_, ih⟩
    rcases List.mem_cons.mp hy with z | z
    · omega
    · have := i1 y z
      omega
theorem sorted_le (l : List Nat) (h : sortedS (l.map sg) = true) : l.Pairwise (· ≤ ·) := by
  cases l with
  | nil => exact List.Pairwise.nil
  | cons p r => exact rising_le r p h
theorem lt_of_le : ∀ l : List Nat, l.Pairwise (· ≤ ·) → l.Nodup → l.Pairwise (· < ·)
  | [], _, _ => .nil
  | x :: l, .cons up rest, .cons new once => .cons (fun y at_y => Nat.lt_of_le_of_ne (up y at_y) (new y at_y)) (lt_of_le l rest once)
theorem all_sg : ∀ l : List Str, (∀ x ∈ l, ∃ c, x = sg c) → l = (l.map hd1).map sg
  | [], _ => rfl
  | x :: l, h => by
    obtain ⟨c, rfl⟩ := h x List.mem_cons_self
    rw [List.map_cons, List.map_cons, ← all_sg l fun y hy => h y (List.mem_cons_of_mem _ hy)] <;> rfl
/-- the set of the signs of x at a -/
def SetO (w : World) (a : Addr) (x : Str) : HO := .ext fun h => ∃ T n, HasX w h a T n ∧ n ≤ x.cps.size ∧ ∀ k, T k = x.cps.toList.any fun z => decide (k = ⟨#[z]⟩)
theorem setO_new {P : Program} {w : World} {H : Hp} {h : Heap} {a : Addr} {x : Str} {T : Str → Bool} {n : Nat} (R : HasX w h a T n) (hn : n ≤ x.cps.size) (hT : ∀ k, T k = x.cps.toList.any fun z => decide (k = ⟨#[z]⟩)) : ObjOk P w H h a (SetO w a x) := by
  refine ⟨⟨T, n, R, hn, hT⟩, ?_, fun h1 h2 p k => ?_⟩
  · exact let ⟨o, _, _, _, r⟩ := R; ⟨o, r.ob⟩
  · obtain ⟨T', n', R', q⟩ := p
    exact ⟨T', n', R'.at k, q⟩
theorem vals_strs : ∀ {vs : List Value} {ss : List Str}, StrsAre vs ss → Vals (ss.map V.str) vs
  | _, _, .nil => .nil
  | _, _, .cons x t r => .cons ⟨t, rfl⟩ (vals_strs r)
section
variable {X : Cx}
/-- list(text) -/
theorem vals_signs {x : Str} : ∀ (l : List Value) (cs : List Nat), l.length = cs.length → (∀ (i : Nat) (v : Value), l[i]? = some v → ∃ (c : Nat) (u : Tok), cs[i]? = some c ∧ v = Value.str ⟨#[c]⟩ u) → Vals (cs.map fun c => V.str (sg c)) l
  | [], [], _, _ => .nil
  | v :: l, c :: cs, h, q => by
    obtain ⟨c', u, e1, e2⟩ := q 0 v rfl
    have e3 : c = c' := Option.some.inj e1
    subst e3
    exact .cons ⟨u, e2⟩ (vals_signs (x := x) l cs (Nat.succ.inj h) fun i v' e => q (i + 1) v' e)
  | [], _ :: _, h, _ => nomatch h
  | _ :: _, [], h, _ => nomatch h
theorem call_listX (hc : X.calm = true) : CallR X (.type "list") (fun xs H Q => ∃ x : Str, xs = [V.str x] ∧ x.cps.size ≤ sizeLine ∧ ∀ l, H l = none → Q (.ref l) (upd H l (.lst (x.cps.toList.map fun c => V.str (sg c))))) := by
  rintro pins s σ H _ us Q I r ⟨x, rfl, hx, q⟩
  rcases vals1 r with ⟨_, rfl, t, rfl⟩
  refine call_list_str (I.ok.hd hc) x t (fun h' tk acc c k hS hacc => ?_) hx
  have hlen : (x.cps.toList.map fun c => V.str (sg c)).length ≤ sizeLine := by
    have h2 : x.cps.toList.length = x.cps.size := Array.length_toList
    rw [List.length_map, h2]
    exact hx
  have hv : Vals (x.cps.toList.map fun c => V.str (sg c)) acc.toList := by
    refine vals_signs (x := x) _ _ (by rw [Array.length_toList, hacc.1, Array.length_toList]) fun i v e => ?_
    rw [Array.getElem?_toList] at e
    obtain ⟨c, u, h1, h2⟩ := hacc.2 i v e
    exact ⟨c, u, by rw [Array.getElem?_toList]; exact h1, h2⟩
  exact ⟨.ref s.heap.objs.size, _, I.laid (t' := tk) k (Nat.le_refl _) (show ObjOk X.prog X.w _ h' _ (.lst _) from ⟨hlen, acc.toList, c, hv, hS⟩), rfl, q _ (I.hok.fresh (Nat.le_refl _))⟩
end
end TX
set_option Elab.async false
set_option linter.all false
set_option maxRecDepth 100000
set_option maxHeartbeats 4000000
namespace K1
abbrev W := List Nat
/-- the words of just k letters, and of at most k -/
def lay (L : W) : Nat → List W
  | 0 => [[]]
  | k + 1 => (lay L k).flatMap fun u => L.map fun c => u ++ [c]
def allW (L : W) : Nat → List W
  | 0 => [[]]
  | k + 1 => allW L k ++ lay L (k + 1)
/-- what is left behind the first c -/
def after (c : Nat) : W → Option W
  | [] => none
  | d :: r => if d = c then some r else after c r
/-- what is left behind the first place of a piece -/
def rest : W → W → Option W
  | [], w => some w
  | a :: u, w => (after a w).bind (rest u)
def isP (u w : W) : Bool := (rest u w).isSome
/-- what is left of a word, by the law's walk -/
def lp : W → W → W
  | u, [] => u
  | [], _ :: _ => []
  | a :: u, c :: w => if a = c then lp u w else lp (a :: u) w
/-- the pieces of just k letters, each with what is left behind it -/
def pl (S w : W) : Nat → List (W × W)
  | 0 => [([], w)]
  | k + 1 => (pl S w k).flatMap fun p => S.filterMap fun c => (after c p.2).map fun r => (p.1 ++ [c], r)
theorem mem_lay (L : W) : ∀ (k : Nat) (u : W), u ∈ lay L k ↔ u.length = k ∧ ∀ c ∈ u, c ∈ L
  | 0, u => by
    show u ∈ [[]] ↔ _
    rw [List.mem_singleton]
    exact ⟨fun h => by subst h; exact ⟨rfl, fun c hc => nomatch hc⟩, fun h => List.length_eq_zero_iff.mp h.1⟩
  | k + 1, u => by
    show u ∈ (lay L k).flatMap _ ↔ _
    rw [List.mem_flatMap]
    constructor
    · rintro ⟨v, hv, hu⟩
      obtain ⟨c, hc, rfl⟩ := List.mem_map.mp hu
      obtain ⟨h1, h2⟩ := (mem_lay L k v).mp hv
      refine ⟨by rw [List.length_append, h1] <;> rfl, fun d hd => ?_⟩
      rcases List.mem_append.mp hd with z | z
      · exact h2 d z
      · rw [List.mem_singleton.mp z]
        exact hc
    · rintro ⟨h1, h2⟩
      have hne : u ≠ [] := fun e => by subst e; cases h1
      refine ⟨u.dropLast, (mem_lay L k _).mpr ⟨by rw [List.length_dropLast]; omega, fun c hc => h2 c (List.dropLast_subset u hc)⟩, List.mem_map.mpr ⟨u.getLast hne, h2 _ (List.getLast_mem hne), List.dropLast_concat_getLast hne⟩⟩
theorem mem_allW (L : W) : ∀ (k : Nat) (u : W), u ∈ allW L k ↔ u.length ≤ k ∧ ∀ c ∈ u, c ∈ L
  | 0, u => by
    show u ∈ [[]] ↔ _
    rw [List.mem_singleton]
    exact ⟨fun h => by subst h; exact ⟨Nat.le_refl _, fun c hc => nomatch hc⟩, fun h => List.length_eq_zero_iff.mp (by omega)⟩
  | k + 1, u => by
    show u ∈ allW L k ++ lay L (k + 1) ↔ _
    rw [List.mem_append, mem_allW L k u, mem_lay]
    constructor
    · rintro (⟨h1, h2⟩ | ⟨h1, h2⟩)
      · exact ⟨by omega, h2⟩
      · exact ⟨by omega, h2⟩
    · rintro ⟨h1, h2⟩
      by_cases h : u.length ≤ k
      · exact .inl ⟨h, h2⟩
      · exact .inr ⟨by omega, h2⟩
/-- the pieces of a word, as it is told -/
def told (w : W) (m : Nat) : List W := (allW (TX.sigs w) m).filter fun u => isP u w
/-- the place behind the first c from e on -/
def nx (w : W) (c e : Nat) : Option Nat := (after c (w.drop e)).map fun r => w.length - r.length
end K1
set_option Elab.async false
set_option linter.all false
set_option maxRecDepth 100000
set_option maxHeartbeats 4000000
namespace K1
open PySem PySem.Spec PyProof.Rows L2
open TX (sg sigs)
/-- the text of a word -/
def tx (w : W) : Str := ⟨w.toArray⟩
theorem tx_of (x : Str) : tx x.cps.toList = x := by
  unfold tx
  rw [Array.toArray_toList]
theorem tx_list (w : W) : (tx w).cps.toList = w := by
  show w.toArray.toList = w
  rw [List.toList_toArray]
theorem tx_inj {u v : W} (h : tx u = tx v) : u = v := by
  have := congrArg (fun x : Str => x.cps.toList) h
  simpa [tx_list] using this
theorem tx_len (w : W) : (tx w).length = w.length := by
  show w.toArray.size = w.length
  rw [List.size_toArray]
theorem tx_app (u v : W) : tx u ++ tx v = tx (u ++ v) := by
  show (⟨u.toArray ++ v.toArray⟩ : Str) = ⟨(u ++ v).toArray⟩
  rw [List.append_toArray]
theorem join_eq0 (ps : List W) : Txt.join (tx []) (ps.map tx) = tx ps.flatten := by
  rw [TL.join_eq]
  have h := TL.tl_join (tx []) (ps.map tx)
  have e : ∀ qs : List (List Nat), TL.joinL [] qs = qs.flatten := by
    intro qs
    induction qs with
    | nil => rfl
    | cons p r ih =>
      cases r with
      | nil => simp [TL.joinL]
      | cons q r => simp [TL.joinL] at ih ⊢; exact ih
  have e1 : TL.tl (tx []) = [] := rfl
  rw [e1, e, List.map_map] at h
  have e2 : (TL.tl ∘ tx) = (id : W → W) := by
    funext u
    exact tx_list u
  rw [e2, List.map_id] at h
  have h2 : (Str.join (tx []) (ps.map tx)).cps.toList = ps.flatten := h
  rw [← tx_of (Str.join (tx []) (ps.map tx)), h2]
/-- the letters a to z -/
def Low (w : W) : Prop := ∀ c ∈ w, 97 ≤ c ∧ c ≤ 122
theorem uni : ∀ k : Fin 26, Unicode.isAlpha (97 + k.val) = true ∧ Unicode.isLower (97 + k.val) = true ∧ Unicode.isUpper (97 + k.val) = false ∧ Unicode.isTitle (97 + k.val) = false := by decide +kernel
theorem uni_low {c : Nat} (h : 97 ≤ c ∧ c ≤ 122) : Unicode.isAlpha c = true ∧ Unicode.isLower c = true ∧ Unicode.isUpper c = false ∧ Unicode.isTitle c = false := by
  have := uni ⟨c - 97, by omega⟩
  have e : 97 + (c - 97) = c := by omega
  simp only [e] at this
  exact this
theorem low_facts {w : W} (h : Low w) (hne : w ≠ []) : Txt.isascii (tx w) = true ∧ Txt.isalpha (tx w) = true ∧ Txt.islower (tx w) = true := by
  refine ⟨?_, ?_, ?_⟩
  · show (w.toArray).all _ = true
    rw [List.all_toArray, List.all_eq_true]
    intro c hc
    have := h c hc
    simp only [decide_eq_true_eq]
    omega
  · show ((decide ((tx w).length > 0)) && (w.toArray).all _) = true
    rw [List.all_toArray, tx_len, Bool.and_eq_true]
    refine ⟨decide_eq_true (List.length_pos_iff.mpr hne), ?_⟩
    rw [List.all_eq_true]
    exact fun c hc => (uni_low (h c hc)).1
  · show ((w.toArray).any _ && !(w.toArray).any _) = true
    rw [List.any_toArray, List.any_toArray, Bool.and_eq_true]
    constructor
    · rw [List.any_eq_true]
      obtain ⟨c, r, rfl⟩ : ∃ c r, w = c :: r := by
        cases w with
        | nil => exact absurd rfl hne
        | cons c r => exact ⟨c, r, rfl⟩
      exact ⟨c, List.mem_cons_self, (uni_low (h c List.mem_cons_self)).2.1⟩
    · rw [Bool.not_eq_true', List.any_eq_false]
      intro c hc
      have := uni_low (h c hc)
      rw [this.2.2.1, this.2.2.2]
      exact Bool.false_ne_true
end K1
set_option Elab.async false
set_option linter.all false
set_option maxRecDepth 100000
set_option maxHeartbeats 8000000
namespace WK
open PySem L2 PyProof.Rows K1
open TX (sg sigs)
open PySem.W (Frag kitOne)
/-- a def of the module by its name -/
structure Fn (K : Frag) (mg : Str → Option Value) (nm : Str) (st : Stmt) (ps : List Str) (f : Addr) (fd : FuncData) : Prop where
  g : mg nm = some (.ref f)
  F : Fun K nm nm st f fd
  b : L2.Binds K fd ps []
structure TN (mg : Str → Option Value) : Prop where
  len : mg "len" = none
  int : mg "int" = none
  abs : mg "abs" = none
  isi : mg "isinstance" = none
  bool : mg "bool" = none
  str : mg "str" = none
  all : mg "all" = none
  rng : mg "range" = none
  sorted : mg "sorted" = none
  set : mg "set" = none
  tuple : mg "tuple" = none
  list : mg "list" = none
  max : mg "max" = none
  min : mg "min" = none
  zip : mg "zip" = none
  most : ∃ t, mg "MAX_LETTERS" = some (.int 3 t)
theorem TN.dice {mg : Str → Option Value} (T : TN mg) : TDice mg := ⟨T.len, T.int, T.abs⟩
abbrev sIsInt : Stmt := top 24
abbrev sIsNum : Stmt := top 25
abbrev sAsc : Stmt := top 27
abbrev sIsLet : Stmt := top 33
abbrev sIsWord : Stmt := top 34
theorem same_upd {H : Hp} {p : Addr} {o : HO} (h : H p = none) : Same H (upd H p o) := fun b u e => by rw [upd_ne (ne_of_none e h)]; exact e
theorem same_at {H H1 : Hp} {p : Addr} {o : HO} (s : Same H H1) (h : H p = none) : Same H (upd H1 p o) := fun b u e => by rw [upd_ne (ne_of_none e h)]; exact s b u e
theorem same_two {H H1 : Hp} {p : Addr} {o : HO} (s : Same H H1) (h : H1 p = none) : Same H (upd H1 p o) := s.trans (same_upd h)
theorem pe_ty {X : Cx} {x : Str} {pos : Pos} (n : String) (hm : X.mg x = none) (hv : bootBuiltins x = some (.type n)) (hg : Gl X x := by rfl) (hn : x ≠ "__name__" := by decide) (hd : (x == ("__debug__" : Str)) = false := by decide) : PE X (.Name x pos) (tC (.ty n)) := pe_bltn hg hm hv rfl hn hd
/-- a set of letters: one to three, ascending, of a to z -/
structure Let (L : W) : Prop where
  low : Low L
  asc : L.Pairwise (· < ·)
  ne : L ≠ []
  few : L.length ≤ 3
/-- what is told of a text: whether it is a word -/
def wordB (x : Str) : Bool := if x = "" then true else if Txt.isascii x = true then if Txt.isalpha x = true then Txt.islower x else false else false
theorem wordB_low {w : W} (h : Low w) : wordB (tx w) = true := by
  unfold wordB
  by_cases e : tx w = ""
  · rw [if_pos e]
  · rw [if_neg e]
    have hne : w ≠ [] := fun z => e (by rw [z] <;> rfl)
    obtain ⟨h1, h2, h3⟩ := low_facts h hne
    rw [if_pos h1, if_pos h2, h3]
def ascB (w : W) : Bool := decide (w.Pairwise (· < ·))
def letB (x : Str) : Bool := wordB x && (decide (1 ≤ x.length) && decide (x.length ≤ 3)) && ascB x.cps.toList
theorem letB_let {L : W} (h : Let L) : letB (tx L) = true := by
  unfold letB
  rw [wordB_low h.low, tx_len, tx_list]
  have h1 : ascB L = true := decide_eq_true h.asc
  have h2 := List.length_pos_iff.mpr h.ne
  rw [h1, decide_eq_true (show 1 ≤ L.length from h2), decide_eq_true h.few] <;> rfl
def spAsc : Sp := fun vs H Q _ => ∃ w : W, vs = [.str (tx w)] ∧ w ≠ [] ∧ w.length ≤ 1000 ∧ ∀ H', Same H H' → Q (.bl (ascB w)) H'
/-- no text -/
def NoText (K : Frag) (H : Hp) (v : V) : Prop := ∃ t, TyX K H v (.type t) ∧ PySem.W.kitOne K (.type t) (.type "str") = some false
def spIsWord (K : Frag) : Sp := fun vs H Q _ => ∃ v, vs = [v] ∧ ((∃ x, v = .str x ∧ Q (.bl (wordB x)) H) ∨ (NoText K H v ∧ Q (.bl false) H))
def spIsLet (K : Frag) : Sp := fun vs H Q _ => ∃ v, vs = [v] ∧ ((∃ x : Str, v = .str x ∧ x.length ≤ 1000 ∧ ∀ H', Same H H' → Q (.bl (letB x)) H') ∨ (NoText K H v ∧ Q (.bl false) H))
section
variable {P : Program} {w : World} {K : PySem.W.Frag} {mg : Str → Option Value} {base : Heap}
theorem scII : FnScope ["value"] ["value"] (defScope sIsInt) := ⟨rfl, rfl, rfl, by decide +kernel, rfl, by decide +kernel, by decide +kernel⟩
theorem scIN : FnScope ["value", "least", "most"] ["value", "least", "most"] (defScope sIsNum) := ⟨rfl, rfl, rfl, by decide +kernel, rfl, by decide +kernel, by decide +kernel⟩
theorem scAs : FnScope ["values", "at"] ["values"] (defScope sAsc) := ⟨rfl, rfl, rfl, by decide +kernel, rfl, by decide +kernel, by decide +kernel⟩
theorem lt_one (a b : Nat) : decide ((sg a).cps.toList < (sg b).cps.toList) = decide (a < b) := by
  rw [← ltCps_eq, TX.lt_sg]
/-- each less than the next -/
def adj (w : W) (i : Nat) : Bool := decide (w.getD i 0 < w.getD (i + 1) 0)
theorem adj_asc : ∀ (w : W), w ≠ [] → ((List.range (w.length - 1)).map (adj w)).all id = ascB w
  | [], h => absurd rfl h
  | [a], _ => by simp [ascB]
  | a :: b :: r, _ => by
    have ih := adj_asc (b :: r) (by simp)
    have e : (a :: b :: r).length - 1 = (b :: r).length - 1 + 1 := by simp
    rw [e, List.range_succ_eq_map, List.map_cons, List.all_cons, List.map_map]
    have e2 : (adj (a :: b :: r) ∘ Nat.succ) = adj (b :: r) := by
      funext i
      rfl
    rw [e2, ih]
    show (decide (a < b) && ascB (b :: r)) = ascB (a :: b :: r)
    unfold ascB
    rw [← Bool.decide_and]
    apply decide_eq_decide.mpr
    rw [List.pairwise_cons (a := a)]
    constructor
    · rintro ⟨h1, h2⟩
      refine ⟨fun y hy => ?_, h2⟩
      rcases List.mem_cons.mp hy with z | z
      · omega
      · have := (List.pairwise_cons.mp h2).1 y z
        omega
    · rintro ⟨h1, h2⟩
      exact ⟨h1 b List.mem_cons_self, h2⟩
theorem ok_asc {f : Addr} {fd : FuncData} (F : Fun K "ascends" "ascends" sAsc f fd) (T : TN mg) : FnOk P w K mg base CX0 1 f fd ["values"] spAsc := by
  refine F.ok scAs (fun vs H Q E h => ?_) (fun cdv A outer s H vs Q E hr h => ?_)
  · obtain ⟨w, rfl, _⟩ := h
    rfl
  · obtain ⟨w, rfl, hne, hl, q⟩ := h
    have hpos := List.length_pos_iff.mpr hne
    refine ⟨_, pss_one (ps_ret (pe_callB (cr_all rfl) (by rfl) T.all (by decide +kernel) (pa_cons (pe_lc (own := [("at", 1)]) (g := gName 1) (tt := tYes) rfl scAs.nd
      (pi_range1 rfl T.rng (pa_cons (pe_op op_sub (pe_callB call_len_str (by rfl) T.len PySem.boot_len (pa_cons (pv 0) pa_nil)) pe_int) pa_nil))
      (blkOk_by (own := [("at", 1)]) (N := ["values", "at"]) (sc := defScope sAsc) (by decide +kernel)) (fun _ _ _ _ _ => pg_name (i := 1) scAs.nd rfl (Or.inl rfl)) (fun _ _ _ _ _ => pts_nil)
      (fun _ _ _ _ _ => pe_cmpR op_lt_str (pe_ix ix_str (pv 0) (pv 1) (fun _ _ => rfl)) (pe_ix ix_str (pv 0) (pe_op op_add (pv 1) pe_int) (fun _ _ => rfl)) (nomark _))) pa_nil))), ?_⟩
    refine ⟨_, rfl, _, rfl, ?_, _, _, rfl, rfl, _, rfl, ?_, ?_, fun D hD => ?_⟩
    · rw [tx_len, sizeLine_eq]; omega
    · rw [tx_len]; omega
    · rw [tx_len]; omega
    · rw [tx_len]
      have e1 : ((w.length : Int) - 1) = ((w.length - 1 : Nat) : Int) := by omega
      rw [e1]
      refine lc_range (lo := 0) (n := w.length - 1) (fun i H1 => Same H H1 ∧ H1 D = some (.lst (((List.range i).map (adj w)).map V.bl))) ?_ ?_ ?_
      · exact ⟨same_upd hD, upd_same⟩
      · rintro i H1 hi ⟨s1, hd⟩
        have hz : (tx w).length ≤ sizeLine := by rw [tx_len, sizeLine_eq]; omega
        have at1 : atI (tx w).cps.toList (0 + (i : Int)) = some (w.getD i 0) := by
          rw [tx_list, Int.zero_add]
          exact atI_nat (by rw [List.getD_eq_getElem?_getD, List.getElem?_eq_getElem (by omega)] <;> rfl)
        have at2 : atI (tx w).cps.toList (0 + (i : Int) + 1) = some (w.getD (i + 1) 0) := by
          have e2 : (0 + (i : Int) + 1) = ((i + 1 : Nat) : Int) := by omega
          rw [tx_list, e2]
          exact atI_nat (by rw [List.getD_eq_getElem?_getD, List.getElem?_eq_getElem (by omega)] <;> rfl)
        refine ⟨rfl, _, rfl, _, rfl, _, _, w.getD i 0, rfl, rfl, hz, at1, _, rfl, _, rfl, _, _, rfl, rfl, _, _, w.getD (i + 1) 0, rfl, rfl, hz, at2, _, _, rfl, rfl, _, hd, ?_, same_at s1 hD, ?_⟩
        · rw [List.length_map, List.length_map, List.length_range, sizeLine_eq]
          omega
        · have e3 := lt_one (w.getD i 0) (w.getD (i + 1) 0)
          rw [e3, upd_same, List.range_succ, List.map_append, List.map_append] <;> rfl
      · rintro H1 ⟨s1, hd⟩
        refine ⟨D, _, rfl, SqL.of hd, ?_⟩
        rw [adj_asc w hne]
        exact q _ s1
theorem scIW : FnScope ["value"] ["value"] (defScope sIsWord) := ⟨rfl, rfl, rfl, by decide +kernel, rfl, by decide +kernel, by decide +kernel⟩
theorem ok_isword {f : Addr} {fd : FuncData} (F : Fun K "is_word" "is_word" sIsWord f fd) (T : TN mg) : FnOk P w K mg base CX0 1 f fd ["value"] (spIsWord K) := by
  refine F.ok scIW (fun vs H Q E h => ?_) (fun cdv A outer s H vs Q E hr h => ?_)
  · obtain ⟨v, rfl, _⟩ := h
    rfl
  · obtain ⟨v, rfl, h⟩ := h
    refine ⟨_, pss_cons (ps_if (pt_not (pt_val (pe_callB call_isi (by rfl) T.isi (by decide +kernel) (pa_cons (pv 0) (pa_cons (pe_ty "str" T.str (by decide +kernel)) pa_nil))))) (pss_one (ps_ret pe_bl)) pss_nil)
      (pss_one (ps_ret (pe_or (pe_cmpR op_eq (pv 0) pe_str (nomark _))
        (pe_one (pe_and (pe_m0 PySem.F.slot_str_isascii PySem.F.type_str_isascii mt_isascii (pv 0))
          (pe_and (pe_m0 PySem.F.slot_str_isalpha PySem.F.type_str_isalpha mt_isalpha (pv 0)) (pe_one (pe_m0 PySem.F.slot_str_islower PySem.F.type_str_islower mt_islower (pv 0))))))))), ?_⟩
    rcases h with ⟨x, rfl, q⟩ | ⟨⟨t, ty, hk⟩, q⟩
    · refine ⟨_, rfl, _, _, _, _, true, rfl, .ty "str", .base (.str _), kit_ty (by decide +kernel), true, rfl, ?_⟩
      refine ⟨_, rfl, rfl, _, rfl, ?_⟩
      unfold wordB at q
      by_cases h1 : x = ""
      · rw [if_pos h1] at q
        rw [if_pos (decide_eq_true (by rw [h1]))]
        exact q
      · rw [if_neg h1] at q
        rw [if_neg (fun z => h1 (V.str.inj (of_decide_eq_true z)))]
        refine ⟨_, rfl, ⟨_, rfl⟩, _, rfl, rfl, trivial, _, rfl, ?_⟩
        by_cases h2 : Txt.isascii x = true
        · rw [if_pos h2] at q ⊢
          refine ⟨_, rfl, ⟨_, rfl⟩, _, rfl, rfl, trivial, _, rfl, ?_⟩
          by_cases h3 : Txt.isalpha x = true
          · rw [if_pos h3] at q ⊢
            exact ⟨_, rfl, ⟨_, rfl⟩, _, rfl, rfl, trivial, q⟩
          · rw [if_neg h3] at q ⊢
            exact q
        · rw [if_neg h2] at q ⊢
          exact q
    · refine ⟨_, rfl, _, _, _, _, false, rfl, .ty "str", ty, hk, false, rfl, ?_⟩
      exact q
theorem scIL : FnScope ["value"] ["value"] (defScope sIsLet) := ⟨rfl, rfl, rfl, by decide +kernel, rfl, by decide +kernel, by decide +kernel⟩
theorem ok_islet {f g h : Addr} {fd gd hd : FuncData} (F : Fun K "is_letters" "is_letters" sIsLet f fd) (T : TN mg) (A1 : Fn K mg "is_word" sIsWord ["value"] g gd) (A2 : Fn K mg "ascends" sAsc ["values"] h hd) : FnOk P w K mg base CX0 2 f fd ["value"] (spIsLet K) := by
  have G1 : FnOk P w K mg base CX0 1 g gd _ (spIsWord K) := ok_isword A1.F T
  have G2 : FnOk P w K mg base CX0 1 h hd _ spAsc := ok_asc A2.F T
  obtain ⟨tM, hM⟩ := T.most
  refine F.ok scIL (fun vs H Q E h => ?_) (fun cdv A outer s H vs Q E hr h => ?_)
  · obtain ⟨v, rfl, _⟩ := h
    rfl
  · obtain ⟨v, rfl, h⟩ := h
    refine ⟨_, pss_one (ps_ret (pe_and (pe_call G1 hr rfl A1.g A1.F.kp A1.b .nil pass0 (pa_cons (pv 0) pa_nil))
      (pe_and (pe_chain op_le op_le pe_int (pe_callB call_len_str (by rfl) T.len PySem.boot_len (pa_cons (pv 0) pa_nil)) (pe_glob rfl hM (show RelV (.int 3) (.int 3 tM) from ⟨tM, rfl⟩)))
        (pe_one (pe_call G2 hr rfl A2.g A2.F.kp A2.b .nil pass0 (pa_cons (pv 0) pa_nil)))))), ?_⟩
    rcases h with ⟨x, rfl, hx, q⟩ | ⟨hn, q⟩
    · unfold letB at q
      refine ⟨_, rfl, _, rfl, .inl ⟨x, rfl, ?_⟩⟩
      refine ⟨_, rfl, ?_⟩
      by_cases h1 : wordB x = true
      · rw [if_pos h1]
        rw [h1] at q
        have hz : x.length ≤ sizeLine := by rw [sizeLine_eq]; omega
        refine ⟨_, rfl, _, rfl, hz, _, _, rfl, rfl, _, rfl, ?_⟩
        by_cases h2 : 1 ≤ x.length
        · have h2' : ((1 : Int) ≤ (x.length : Int)) := by omega
          rw [if_pos (decide_eq_true h2')]
          refine ⟨_, _, rfl, rfl, _, rfl, ?_⟩
          by_cases h3 : x.length ≤ 3
          · have h3' : ((x.length : Int) ≤ 3) := by omega
            rw [if_pos (decide_eq_true h3')]
            rw [decide_eq_true h2, decide_eq_true h3] at q
            refine ⟨_, rfl, x.cps.toList, (by rw [tx_of]; rfl), ?_, ?_, fun H' s1 => q H' s1⟩
            · intro z
              have : x.cps.toList.length = x.length := Array.length_toList
              rw [z] at this
              have h0 : x.length = 0 := this.symm
              omega
            · have : x.cps.toList.length = x.length := Array.length_toList
              omega
          · have h3' : ¬ ((x.length : Int) ≤ 3) := by omega
            rw [decide_eq_true h2, decide_eq_false h3] at q
            rw [if_neg (fun z => h3' (of_decide_eq_true z))]
            exact q _ (Same.refl _)
        · have h2' : ¬ ((1 : Int) ≤ (x.length : Int)) := by omega
          rw [if_neg (fun z => h2' (of_decide_eq_true z))]
          rw [decide_eq_false h2] at q
          exact ⟨_, rfl, q _ (Same.refl _)⟩
      · have h1' : wordB x = false := eq_false_of_ne_true h1
        rw [if_neg h1]
        rw [h1'] at q
        exact q _ (Same.refl _)
    · refine ⟨_, rfl, _, rfl, .inr ⟨hn, ?_⟩⟩
      exact ⟨_, rfl, q⟩
theorem size_tx (u : W) : (tx u).cps.size = u.length := List.size_toArray
end
end WK
set_option Elab.async false
set_option linter.all false
set_option maxRecDepth 100000
set_option maxHeartbeats 8000000
namespace WK
open PySem L2 PyProof.Rows K1
open TX (sg sigs)
open PySem.W (Frag kitOne)
abbrev sMixed : Stmt := top 56
abbrev sLetters : Stmt := top 57
theorem but_at {p a : Addr} {H H1 : Hp} {o : HO} (B : But p H H1) (h : H a = none) : But p H (upd H1 a o) := fun b u e n => by rw [upd_ne (ne_of_none e h)]; exact B b u e n
theorem but_two {p a : Addr} {H H1 : Hp} {o : HO} (B : But p H H1) (h : H1 a = none) : But p H (upd H1 a o) := B.trans (But.ofSame (same_upd h))
theorem DiceAt.keep {H H' : Hp} {p : Addr} (h : DiceAt H p) (k : ∀ o, H p = some o → H' p = some o) : DiceAt H' p := by
  obtain ⟨a, b, c, e, r⟩ := h
  exact ⟨a, b, c, k _ e, r⟩
theorem DiceAt.new {H : Hp} {p a : Addr} {o : HO} (h : DiceAt H p) (ha : H a = none) : DiceAt (upd H a o) p := h.keep fun _ e => same_upd ha _ _ e
theorem DiceAt.ne {H : Hp} {p a : Addr} (h : DiceAt H p) (ha : H a = none) : a ≠ p := fun z => by
  obtain ⟨_, _, _, e, _⟩ := h
  rw [← z, ha] at e
  cases e
theorem dp_strs {K : Frag} {H : Hp} : ∀ ys : List Str, DpAll K H (ys.map V.str) (ys.map PyData.str)
  | [] => .nil
  | y :: ys => .cons (.str y) (dp_strs ys)
theorem shaped_strs (ys : List Str) (h : ∀ y ∈ ys, PyData.canLay0 (.str y) = true) : SeqAt.shaped (.list (ys.map PyData.str)) = true ∧ SeqAt.shaped (.tuple (ys.map PyData.str)) = true := by
  have h1 : ∀ ys : List Str, (∀ y ∈ ys, PyData.canLay0 (.str y) = true) → PyData.canLayAll0 (ys.map PyData.str) = true := by
    intro ys
    induction ys with
    | nil => intro _; rfl
    | cons y ys ih =>
      intro h
      show (PyData.canLay0 (.str y) && PyData.canLayAll0 (ys.map PyData.str)) = true
      rw [h y List.mem_cons_self, ih fun z hz => h z (List.mem_cons_of_mem _ hz)] <;> rfl
  have h2 : ∀ ys : List Str, PyData.depthAll (ys.map PyData.str) = 0 := by
    intro ys
    induction ys with
    | nil => rfl
    | cons y ys ih =>
      show max (PyData.depth (.str y)) (PyData.depthAll (ys.map PyData.str)) = 0
      rw [ih] <;> rfl
  constructor
  · show (PyData.canLayAll0 _ && decide (PyData.depthAll _ + 1 ≤ 64)) = true
    rw [h1 ys h, h2 ys] <;> rfl
  · show (PyData.canLayAll0 _ && decide (PyData.depthAll _ + 1 ≤ 64)) = true
    rw [h1 ys h, h2 ys] <;> rfl
theorem eqv_nil (ys : List Str) : PyData.eqv (.list (ys.map PyData.str)) (.list []) = ys.isEmpty := by
  cases ys <;> rfl
theorem seqIx {i : Int} {n : Nat} (h0 : 0 ≤ i) (h1 : i < (n : Int)) : seqIndex? i n = some i.toNat := by
  unfold seqIndex?
  have e : ¬ i < 0 := by omega
  simp only [e, if_false]
  rw [decide_eq_true h0, decide_eq_true h1] <;> rfl
theorem map_erase {α β : Type} (f : α → β) : ∀ (xs : List α) (k : Nat), (xs.map f).eraseIdx k = (xs.eraseIdx k).map f
  | [], _ => rfl
  | _ :: _, 0 => rfl
  | x :: xs, k + 1 => by
    show f x :: (xs.map f).eraseIdx k = f x :: (xs.eraseIdx k).map f
    rw [map_erase f xs k]
def spMixed : Sp := fun vs H Q _ => ∃ (p q : Addr) (ys : List Str), vs = [.ref p, .ref q] ∧ DiceAt H p ∧ q ≠ p ∧ H q = some (.lst (ys.map V.str)) ∧ ys.length < 100 ∧ (∀ y ∈ ys, PyData.canLay0 (.str y) = true) ∧
  ∀ (r : Addr) (zs : List Str) (H' : Hp), zs.Perm ys → H r = none → DiceAt H' p → But p H H' → H' r = some (.lst (zs.map V.str)) → r ≠ p → Q (.ref r) H'
section
variable {P : Program} {w : World} {K : PySem.W.Frag} {mg : Str → Option Value} {base : Heap}
variable {fR fM fO : Addr} {dR dM dO : FuncData}
def muMix : L2.St → Hp → Nat := fun σ H => match σ with
  | [_, _, some (.ref l), _] => (match H l with | some (.lst xs) => xs.length | _ => 0)
  | _ => 0
theorem scMi : FnScope ["_law_dice_here", "_law_items", "_law_left", "_law_found"] ["_law_dice_here", "_law_items"] (defScope sMixed) := ⟨rfl, rfl, rfl, by decide +kernel, rfl, by decide +kernel, by decide +kernel⟩
theorem ok_mixed {f : Addr} {fd : FuncData} (F : Fun K "_law_mixed" "_law_mixed" sMixed f fd) (T : TN mg) (AR : Fn K mg "_law_roll" sRoll ["_law_dice_here", "_law_total"] fR dR) : FnOk P w K mg base CX0 2 f fd ["_law_dice_here", "_law_items"] spMixed := by
  have GR : FnOk P w K mg base CX0 1 fR dR ["_law_dice_here", "_law_total"] spRoll := ok_roll AR.F T.dice
  refine F.ok scMi (fun vs H Q E h => ?_) (fun cdv A outer s H vs Q E hr h => ?_)
  · obtain ⟨u, n, _, rfl, _⟩ := h
    rfl
  · obtain ⟨p, q, ys, rfl, hD, hqp, hq, hl, hy, qq⟩ := h

    refine ⟨_, pss_cons (ps_par (i := 2) (j := 3) (by rfl) scMi.nd rfl rfl (by decide) rfl rfl (pa_cons (pe_callTy call_list_of (by rfl) T.list (by decide +kernel) (pa_cons (pv 1) pa_nil)) (pa_cons (pe_lst pa_nil) pa_nil)) (by rfl))
      (pss_cons (ps_while PassesOwn.never (pt_cmpR (op_neD hr.units) (pv 2) (pe_lst pa_nil) (nomark _))
        (pss_one (ps_expr (pe_bm PySem.F.plainAttrs_list PySem.F.slot_list_append PySem.F.type_list_append mt_append (pv 3) (pa_cons
          (pe_bm PySem.F.plainAttrs_list PySem.F.slot_list_pop PySem.F.type_list_pop mt_popAt (pv 2) (pa_cons
            (pe_call GR hr rfl AR.g AR.F.kp AR.b .nil pass0 (pa_cons (pv 0) (pa_cons (pe_callB call_len_seq (by rfl) T.len PySem.boot_len (pa_cons (pv 2) pa_nil)) pa_nil))) pa_nil)) pa_nil)))))
      (pss_one (ps_ret (pv 3)))), ?_⟩
    refine ⟨_, rfl, q, _, rfl, .inl (SqL.of hq), fun l hl1 => ⟨(by show 0 ≤ sizeLine; decide), fun r hr1 => ⟨_, _, rfl, ?_⟩⟩⟩
    refine while_by (fun σ H1 => ∃ zs fs : List Str, σ = [some (.ref p), some (.ref q), some (.ref l), some (.ref r)] ∧ DiceAt H1 p ∧ But p H H1 ∧ H1 l = some (.lst (zs.map V.str)) ∧ H1 r = some (.lst (fs.map V.str)) ∧ (zs ++ fs).Perm ys) muMix ?_ ?_ ?_
    · exact ⟨ys, [], rfl, (hD.new hl1).new hr1, But.ofSame (same_two (same_upd hl1) hr1), same_upd hr1 _ _ upd_same, upd_same, by rw [List.append_nil]⟩
    · have nr : H r = none := (same_upd hl1).free hr1
      have lp := hD.ne hl1
      have rp := hD.ne nr
      have lr : l ≠ r := fun z => by rw [← z, upd_same] at hr1; cases hr1
      rintro σ H1 ⟨zs, fs, rfl, hD1, hB1, hz, hf, hp⟩
      have hzy : ∀ y ∈ zs, PyData.canLay0 (.str y) = true := fun y hm => hy y (hp.mem_iff.mp (List.mem_append_left _ hm))
      have hlen : zs.length + fs.length = ys.length := by rw [← List.length_append, hp.length_eq]
      refine ⟨_, rfl, (by show 0 ≤ sizeLine; decide), fun e he => ⟨.list (zs.map PyData.str), .list [], .lst (SqL.of (same_upd he _ _ hz)) (dp_strs zs), .lst (SqL.of upd_same) .nil, (shaped_strs zs hzy).1, by decide, _, rfl, ?_⟩⟩
      rw [eqv_nil]
      have eD := hD1.new he (o := .lst [])
      have eB : But p H (upd H1 e (.lst [])) := but_two hB1 he
      have ez := same_upd he (o := .lst []) _ _ hz
      have ef := same_upd he (o := .lst []) _ _ hf
      generalize upd H1 e (.lst []) = H2 at eD eB ez ef ⊢
      cases zs with
      | nil => exact ⟨_, rfl, qq r fs _ hp nr eD eB ef rp⟩
      | cons z zs =>
        have len : (((z :: zs).map V.str).length : Int) = (z :: zs).length := by rw [List.length_map]
        have len2 : (z :: zs).length < 100 := by omega
        have len3 : 0 < (z :: zs).length := Nat.succ_pos _
        refine ⟨_, rfl, .inl ⟨rfl, _, SqL.of ef⟩, _, rfl, .inl ⟨rfl, _, SqL.of ez⟩, _, rfl, _, rfl, l, _, rfl, .inl (SqL.of ez), p, _, rfl, eD, by rw [len]; omega, by rw [len]; omega, fun i H3 hi0 hi1 hD3 hB3 => ?_⟩
        rw [len] at hi1
        have hk : i.toNat < (z :: zs).length := by omega
        have hz3 := hB3 _ _ ez lp
        have hf3 := hB3 _ _ ef rp
        have hget : ((z :: zs).map V.str)[i.toNat]? = some (V.str (z :: zs)[i.toNat]) := by rw [List.getElem?_map, List.getElem?_eq_getElem hk] <;> rfl
        have hidx : seqIndex? i ((z :: zs).map V.str).length = some i.toNat := by
          exact seqIx hi0 (by rw [len]; exact hi1)
        refine ⟨l, _, i, i.toNat, _, rfl, rfl, hz3, by omega, by omega, hidx, hget, r, _, _, rfl, rfl, (by rw [upd_ne (Ne.symm lr)]; exact hf3), ?_, ?_, ?_⟩
        · rw [List.length_map, sizeLine_eq]
          omega
        · refine ⟨(z :: zs).eraseIdx i.toNat, fs ++ [(z :: zs)[i.toNat]], rfl, ?_, ?_, ?_, ?_, ?_⟩
          · exact hD3.keep fun o e => by rw [upd_ne (Ne.symm rp), upd_ne (Ne.symm lp)]; exact e
          · exact but_at (but_at (eB.trans hB3) hl1) nr
          · rw [upd_ne lr, upd_same, map_erase]
          · rw [upd_same, List.map_append] <;> rfl
          · refine List.Perm.trans ?_ hp
            have h1 := erase_perm (z :: zs) i.toNat _ (List.getElem?_eq_getElem hk)
            refine List.Perm.trans ?_ (h1.append_right fs)
            show List.Perm (_ ++ (fs ++ [_])) (_ :: (_ ++ fs))
            rw [← List.append_assoc]
            exact List.perm_append_singleton _ _
        · show (match (upd (upd H3 l _) r _) l with | some (.lst xs) => xs.length | _ => 0) < (match H1 l with | some (.lst xs) => xs.length | _ => 0)
          rw [upd_ne lr, upd_same, hz]
          show (((z :: zs).map V.str).eraseIdx i.toNat).length < ((z :: zs).map V.str).length
          rw [List.length_eraseIdx, if_pos (by rw [List.length_map]; exact hk), List.length_map]
          omega
    · exact fun σ H Q Q' hm ⟨v, hv, hl, h⟩ => ⟨v, hv, hl, fun l hl' => let ⟨d, e, a, b, c, dd, k, hk, q⟩ := h l hl'; ⟨d, e, a, b, c, dd, k, hk, hm _ _ q⟩⟩
end
end WK
set_option Elab.async false
set_option linter.all false
set_option maxRecDepth 100000
set_option maxHeartbeats 8000000
namespace WK
open PySem L2 PyProof.Rows K1
open TX (sg sigs)
open PySem.W (Frag kitOne)
theorem but_free {p a : Addr} {H H1 : Hp} (B : But p H H1) (ha : H1 a = none) (hne : a ≠ p) : H a = none := by
  cases e : H a with
  | none => rfl
  | some o => rw [B a o e hne] at ha; cases ha
theorem flat_one (us : W) : (us.map fun c => [c]).flatten = us := by
  induction us with
  | nil => rfl
  | cons c us ih => rw [List.map_cons, List.flatten_cons, ih] <;> rfl
theorem join_sg (us : W) : Txt.join (tx []) (us.map sg) = tx us := by
  have e : us.map sg = (us.map fun c => [c]).map tx := by rw [List.map_map] <;> rfl
  rw [e, join_eq0, flat_one]
theorem sum_sg (us : W) : ((us.map sg).map (·.length)).sum = us.length := by
  induction us with
  | nil => rfl
  | cons c us ih =>
    rw [List.map_cons, List.map_cons, List.sum_cons, ih, List.length_cons]
    show 1 + us.length = us.length + 1
    omega
theorem cut_take {α : Type} (f : α → V) (zs : List α) (n : Nat) : cutV (zs.map f) none (some (n : Int)) = (zs.take n).map f := by
  unfold cutV
  have h1 : HT.sIx (zs.map f).length 0 none = 0 := rfl
  have h2 : HT.sIx (zs.map f).length (zs.map f).length (some (n : Int)) = min n zs.length := by
    unfold HT.sIx
    simp
    try omega
  rw [h1, h2, List.drop_zero, Nat.sub_zero, List.map_take]
  by_cases h : n ≤ zs.length
  · rw [Nat.min_eq_left h]
  · rw [Nat.min_eq_right (by omega), List.take_of_length_le (by rw [List.length_map]; exact Nat.le_refl _), List.take_of_length_le (by rw [List.length_map]; omega)]
def six : W := [97, 98, 100, 109, 114, 120]
theorem six_is : ("abdmrx" : Str) = tx six := by decide +kernel
def spLetters : Sp := fun vs H Q _ => ∃ (p : Addr) (n : Int), vs = [.ref p, .int n] ∧ DiceAt H p ∧ 1 ≤ n ∧ n ≤ 3 ∧ ∀ (L : W) (H' : Hp), Let L → DiceAt H' p → But p H H' → Q (.str (tx L)) H'
section
variable {P : Program} {w : World} {K : PySem.W.Frag} {mg : Str → Option Value} {base : Heap}
variable {fR fM fO : Addr} {dR dM dO : FuncData}
theorem scLe : FnScope ["_law_dice_here", "_law_total"] ["_law_dice_here", "_law_total"] (defScope sLetters) := ⟨rfl, rfl, rfl, by decide +kernel, rfl, by decide +kernel, by decide +kernel⟩
theorem ok_letters {f : Addr} {fd : FuncData} (F : Fun K "_law_letters" "_law_letters" sLetters f fd) (T : TN mg) (AM : Fn K mg "_law_mixed" sMixed ["_law_dice_here", "_law_items"] fM dM) (GM : FnOk P w K mg base CX0 2 fM dM ["_law_dice_here", "_law_items"] spMixed) : FnOk P w K mg base CX0 3 f fd ["_law_dice_here", "_law_total"] spLetters := by
  refine F.ok scLe (fun vs H Q E h => ?_) (fun cdv A outer s H vs Q E hr h => ?_)
  · obtain ⟨u, n, rfl, _⟩ := h
    rfl
  · obtain ⟨p, n, rfl, hD, h1, h3, q⟩ := h
    refine ⟨_, pss_one (ps_ret (pe_join pe_str (pe_callB cr_sortedS (by rfl) T.sorted (by decide +kernel) (pa_cons (pe_slice sl_list
      (pe_call GM hr rfl AM.g AM.F.kp AM.b .nil pass0 (pa_cons (pv 0) (pa_cons (pe_callTy (TX.call_listX rfl) (by rfl) T.list (by decide +kernel) (pa_cons pe_str pa_nil)) pa_nil))) po_none (po_some (pv 1))) pa_nil)))), ?_⟩
    have e0 : (tx six).cps.toList.map (fun c => V.str (sg c)) = (six.map sg).map V.str := by rw [tx_list, List.map_map] <;> rfl
    refine ⟨⟨_, rfl⟩, _, rfl, "abdmrx", rfl, by decide +kernel, fun l hl => ?_⟩
    rw [six_is, e0]
    have lp := hD.ne hl
    refine ⟨p, l, six.map sg, rfl, hD.new hl, lp, upd_same, by decide, by decide +kernel, fun r zs H' hz hr1 hD' hB' hr2 hrp => ?_⟩
    have nr : H r = none := (same_upd hl).free hr1
    have B2 : But p H H' := (But.ofSame (same_upd hl)).trans hB'
    refine ⟨_, rfl, n, rfl, r, _, rfl, SqL.of hr2, fun t ht => ?_⟩
    have en : n = ((n.toNat : Nat) : Int) := by omega
    have zl : zs.length = 6 := hz.length_eq
    rw [en, cut_take]
    refine ⟨t, zs.take n.toNat, rfl, SqL.of upd_same, by rw [List.length_take]; omega, fun ys d hp hs hd => ?_⟩
    -- the letters
    have allz : ∀ x ∈ zs, ∃ c, x = sg c ∧ c ∈ six := fun x hx => by
      obtain ⟨c, hc, e⟩ := List.mem_map.mp (hz.mem_iff.mp hx)
      exact ⟨c, e.symm, hc⟩
    have ally : ∀ x ∈ ys, ∃ c, x = sg c ∧ c ∈ six := fun x hx => allz x (List.mem_of_mem_take (hp.mem_iff.mp hx))
    have ey : ys = (ys.map TX.hd1).map sg := TX.all_sg ys fun x hx => let ⟨c, e, _⟩ := ally x hx; ⟨c, e⟩
    have nz : zs.Nodup := hz.nodup_iff.mpr (by decide)
    have ny : ys.Nodup := hp.nodup_iff.mpr (nz.sublist (List.take_sublist _ _))
    have lenL : (ys.map TX.hd1).length = n.toNat := by
      rw [List.length_map, hp.length_eq, List.length_take]
      omega
    have hL : Let (ys.map TX.hd1) := by
      refine ⟨fun c hc => ?_, ?_, fun z => ?_, by omega⟩
      · obtain ⟨x, hx, e⟩ := List.mem_map.mp hc
        obtain ⟨c', rfl, hc'⟩ := ally x hx
        have : c' = c := e
        rw [← this]
        have h6 : ∀ c ∈ six, 97 ≤ c ∧ c ≤ 122 := by decide
        exact h6 _ hc'
      · rw [ey] at hs ny
        refine TX.lt_of_le _ (TX.sorted_le _ hs) ((List.pairwise_map.mp ny).imp fun h q => h (by rw [q]))
      · rw [z] at lenL
        have : (0 : Nat) = n.toNat := lenL
        omega
    have ey2 : ys.map V.str = ((ys.map TX.hd1).map sg).map V.str := by rw [← ey]
    refine ⟨tx [], d, (ys.map TX.hd1).map sg, rfl, rfl, .inl (SqL.of (by rw [upd_same, ← ey])), ?_, ?_⟩
    · rw [sum_sg]
      show (ys.map TX.hd1).length + _ * 0 ≤ _
      omega
    · rw [join_sg]
      exact q _ _ hL ((hD'.new ht).new hd) (but_two (but_two B2 ht) hd)
end
end WK
set_option Elab.async false
set_option linter.all false
set_option maxRecDepth 100000
set_option maxHeartbeats 6000000
namespace LCX
open PySem L2 PyProof.Rows WK
open PySem.W (Frag)
theorem seqT {K : Frag} {H H' : Hp} {a : Addr} {xs : List V} (e : Same H H') (h : SqT K H a xs) : SqT K H' a xs := by
  rcases h with h | h
  · rcases h with h | ⟨ob, h⟩
    · exact .inl (.inl (e _ _ h))
    · exact .inl (.inr ⟨ob, e _ _ h⟩)
  · exact .inr h
theorem take_succ_flat {α : Type} (l : List α) (r : α → List V) (i : Nat) (x : α) (h : l[i]? = some x) : (l.take (i + 1)).flatMap r = (l.take i).flatMap r ++ r x := by
  rw [List.take_add_one, h]
  simp [List.flatMap_append]
theorem flat_map {α : Type} (l : List α) (v : α → V) : l.flatMap (fun x => [v x]) = l.map v := by
  induction l with
  | nil => rfl
  | cons x l ih => rw [List.flatMap_cons, ih] <;> rfl
theorem flat_len {α : Type} (l : List α) (r : α → List V) (h : ∀ x, (r x).length ≤ 1) : (l.flatMap r).length ≤ l.length := by
  induction l with
  | nil => exact Nat.le_refl _
  | cons x l ih =>
    rw [List.flatMap_cons, List.length_append, List.length_cons]
    have := h x
    omega
section
variable {K : Frag} {a D : Addr} {α : Type} {l : List α} {val : α → V} {r : α → List V} {g : TG} {tt : TT} {te : TE} {vs : List Nat} {σ : L2.St} {H1 : Hp} {Qd : Hp → Prop} {G : List V → Prop}
/-- one turn -/
abbrev Turn (g : TG) (tt : TT) (te : TE) (vs : List Nat) (σ : L2.St) (D : Addr) (x : V) (H : Hp) (N : Hp → Prop) : Prop := g x (wipe σ vs) H fun σ2 H2 => wipe σ2 vs = wipe σ vs ∧ tt σ2 H2 fun b H3 =>
  if b = true then te σ2 H3 fun y H4 => ∃ acc, H4 D = some (.lst acc) ∧ acc.length < sizeLine ∧ N (upd H4 D (.lst (acc ++ [y]))) else N H3
/-- what a comprehension asks that adds to the list at D what it picks -/
abbrev Went (J : It) (g : TG) (tt : TT) (te : TE) (vs : List Nat) (σ : L2.St) (D : Addr) (H1 : Hp) (Qd : Hp → Prop) : Prop :=
  ∃ W : Nat → Nat → Hp → Prop, (∃ m, W 0 m (upd H1 D (.lst []))) ∧ ∀ j n G, W j n G → (J.stop j G ∧ Qd G) ∨ (J.go j G ∧ ∃ N : Hp → Prop, (∀ G', N G' → ∃ n', n' < n ∧ W (j + 1) n' G') ∧ ∀ v G', J.yld j G v G' → Turn g tt te vs σ D v G' N)
/-- with an invariant of one's own -/
theorem pick_list (Iv : Hp → Prop) (h0 : Iv (upd H1 D (.lst []))) (hl : ∀ H, Iv H → SqL K H a (l.map val)) (hn : l.length < sizeLine) (hr : ∀ x, (r x).length ≤ 1)
    (hs : ∀ x ∈ l, ∀ H acc, Iv H → H D = some (.lst acc) → acc.length < sizeLine → ∀ N : Hp → Prop, (∀ H', Iv H' → H' D = some (.lst (acc ++ r x)) → N H') → Turn g tt te vs σ D (val x) H N)
    (hd : ∀ H, Iv H → H D = some (.lst (l.flatMap r)) → Qd H) :
    Went (Itl K a) g tt te vs σ D H1 Qd := by
  refine lc_list (K := K) (a := a) (xs := l.map val) (fun i H => Iv H ∧ H D = some (.lst ((l.take i).flatMap r))) ⟨h0, upd_same⟩ (fun i H _ p => hl H p.1) (fun i x H hx p => ?_) (fun H p => ?_)
  · rw [List.getElem?_map] at hx
    cases e : l[i]? with
    | none => rw [e] at hx; cases hx
    | some y =>
      rw [e] at hx
      obtain rfl : val y = x := Option.some.inj hx
      have hlen := flat_len (l.take i) r hr
      have : (l.take i).length ≤ l.length := by rw [List.length_take]; exact Nat.min_le_right ..
      exact hs y (List.mem_of_getElem? e) H _ p.1 p.2 (by omega) _ fun H' q1 q2 => ⟨q1, by rw [take_succ_flat l r i y e]; exact q2⟩
  · rw [List.length_map, List.take_length] at p
    exact hd H p.1 p.2
theorem pick_tup (Iv : Hp → Prop) (h0 : Iv (upd H1 D (.lst []))) (hl : ∀ H, Iv H → SqT K H a (l.map val)) (hn : l.length < sizeLine) (hr : ∀ x, (r x).length ≤ 1)
    (hs : ∀ x ∈ l, ∀ H acc, Iv H → H D = some (.lst acc) → acc.length < sizeLine → ∀ N : Hp → Prop, (∀ H', Iv H' → H' D = some (.lst (acc ++ r x)) → N H') → Turn g tt te vs σ D (val x) H N)
    (hd : ∀ H, Iv H → H D = some (.lst (l.flatMap r)) → Qd H) :
    Went (Itt K a) g tt te vs σ D H1 Qd := by
  refine lc_tup (K := K) (a := a) (xs := l.map val) (fun i H => Iv H ∧ H D = some (.lst ((l.take i).flatMap r))) ⟨h0, upd_same⟩ (fun i H _ p => hl H p.1) (fun i x H hx p => ?_) (fun H p => ?_)
  · rw [List.getElem?_map] at hx
    cases e : l[i]? with
    | none => rw [e] at hx; cases hx
    | some y =>
      rw [e] at hx
      obtain rfl : val y = x := Option.some.inj hx
      have hlen := flat_len (l.take i) r hr
      have : (l.take i).length ≤ l.length := by rw [List.length_take]; exact Nat.min_le_right ..
      exact hs y (List.mem_of_getElem? e) H _ p.1 p.2 (by omega) _ fun H' q1 q2 => ⟨q1, by rw [take_succ_flat l r i y e]; exact q2⟩
  · rw [List.length_map, List.take_length] at p
    exact hd H p.1 p.2
/-- nothing but new things: over a list, over a tuple -/
theorem same_list (hD : H1 D = none) (hl : SqL K H1 a (l.map val)) (hn : l.length < sizeLine) (hr : ∀ x, (r x).length ≤ 1)
    (hs : ∀ x ∈ l, ∀ H acc, Same H1 H → H D = some (.lst acc) → acc.length < sizeLine → ∀ N : Hp → Prop, (∀ H', Same H1 H' → H' D = some (.lst (acc ++ r x)) → N H') → Turn g tt te vs σ D (val x) H N)
    (hd : ∀ H, Same H1 H → H D = some (.lst (l.flatMap r)) → Qd H) :
    Went (Itl K a) g tt te vs σ D H1 Qd :=
  pick_list (Same H1) (same_upd hD) (fun H s => s.seq hl) hn hr hs hd
theorem same_tup (hD : H1 D = none) (hl : SqT K H1 a (l.map val)) (hn : l.length < sizeLine) (hr : ∀ x, (r x).length ≤ 1)
    (hs : ∀ x ∈ l, ∀ H acc, Same H1 H → H D = some (.lst acc) → acc.length < sizeLine → ∀ N : Hp → Prop, (∀ H', Same H1 H' → H' D = some (.lst (acc ++ r x)) → N H') → Turn g tt te vs σ D (val x) H N)
    (hd : ∀ H, Same H1 H → H D = some (.lst (l.flatMap r)) → Qd H) :
    Went (Itt K a) g tt te vs σ D H1 Qd :=
  pick_tup (Same H1) (same_upd hD) (fun H s => seqT s hl) hn hr hs hd
end
end LCX
set_option Elab.async false
set_option linter.all false
set_option maxRecDepth 100000
set_option maxHeartbeats 4000000
namespace RZ
open PySem
open PySem.Sem (wp)
section
variable {prog : Program} {w : World} {A : Around} {E : Value → Shared → Prop} {s : Shared}
/-- a zip of two tuples that holds the pair that it gave before, asked once more: the next pair while the first tuple has an item, its end after that -/
theorem held_asked {z TI TO T i1 i2 l1 l2 : Addr} {f : Bool} {old : Obj} {m n : Nat} {us vs : Array Value} {Q : Fin → Shared → Prop} (D : ZipApart z TI TO i1 i2 l1 l2)
    (isZ : IsZipHeld s.heap z TI TO T f) (oldAt : s.heap.get? T = some old) (its : IsPair s.heap TI (.ref i1) (.ref i2)) (w1 : s.heap.IsTupleIter i1 l1 m) (w2 : s.heap.IsTupleIter i2 l2 n)
    (t1 : s.heap.IsTuple l1 us) (t2 : s.heap.IsTuple l2 vs) (both : ∀ u, us[m]? = some u → ∃ v, vs[n]? = some v)
    (pair : ∀ u v, us[m]? = some u → vs[n]? = some v → ∀ g, IsZipHeld g z TI TO T true → g.IsTupleIter i1 l1 (m + 1) → g.IsTupleIter i2 l2 (n + 1) → IsPair g s.heap.objs.size u v → g.objs.size = s.heap.objs.size + 1 →
      (∀ b q, b ≠ z → b ≠ i1 → b ≠ i2 → s.heap.get? b = some q → g.get? b = some q) → Q (.done (.ret (.ref s.heap.objs.size))) { s with heap := g })
    (over : us[m]? = none → A.handled = none ∧ ∀ g err, (∀ b q, b ≠ z → b ≠ i1 → b ≠ i2 → s.heap.get? b = some q → g.get? b = some q) → (∃ q, g.get? err = some q ∧ q.cls = .type "StopIteration") → E (.ref err) { s with heap := g }) :
    wpAny (model prog w) A (Builtin.«zip.__next__» ⟨[.ref z], []⟩) Q E s := by
  refine wpAny_bind (m := field (.ref z) 2) (wpAny_field isZ rfl (x := .bool false) rfl ?_)
  refine wpAny_bind (m := field (.ref z) 3) (wpAny_field isZ rfl (x := .ref TI) rfl (wpAny_bind (wpAny_seqItems its rfl ?_)))
  refine wpAny_bind (m := Builtin.SmallTypes.ownedTupleIsFree (.ref z)) (wpAny_tupleHeld_zip isZ oldAt fun g1 z1 same1 => ?_)
  simp only [← Array.forIn_toList, List.forIn_cons, List.forIn_nil, Bool.false_eq_true, if_false]
  have v1 := w1.extBut same1.extBut D.i1z
  have y1 := t1.extBut same1.extBut D.l1z
  refine wpAny_bind (wpAny_bind (wpAny_bind (wpAny_holding (wpAny_bind (m := Builtin.SmallTypes.nextOf (.ref i1)) ?_))))
  cases look : us[m]? with
  | none =>
    obtain ⟨calm, over⟩ := over look
    exact nextOf_tuple_end (s := { s with heap := g1 }) calm v1 y1 look fun g err keep isStop => over g err (fun b q bz b1 _ at_b => keep _ _ b1 (same1.extBut _ _ bz at_b)) isStop
  | some u =>
    obtain ⟨v, look2⟩ := both u look
    refine nextOf_tuple_item (s := { s with heap := g1 }) v1 y1 look fun g2 v1' same2 => wpAny_pure (wpAny_pure ?_)
    refine wpAny_bind (wpAny_bind (wpAny_holding (wpAny_bind (m := Builtin.SmallTypes.nextOf (.ref i2)) ?_)))
    refine nextOf_tuple_item (s := { s with heap := g2 }) ((w2.extBut same1.extBut D.i2z).extBut same2.extBut D.i12.symm) ((t2.extBut same1.extBut D.l2z).extBut same2.extBut D.l2i1) look2 fun g3 v2' same3 => ?_
    refine wpAny_pure (wpAny_pure (wpAny_pure (wpAny_bind (m := newTuple [u, v]) (wpAny_newTuple ?_))))
    have size3 : g3.objs.size = s.heap.objs.size := same3.1.trans (same2.1.trans same1.1)
    refine wpAny_pure ?_
    show Q (.done (.ret (.ref g3.objs.size))) _
    have made : IsPair (g3.push { cls := .type "tuple", data := .seq #[u, v] }) g3.objs.size u v := Heap.get?_push_size _ rfl
    have grown : (g3.push { cls := .type "tuple", data := .seq #[u, v] }).objs.size = g3.objs.size + 1 := Heap.size_push ..
    rw [size3] at made grown ⊢
    refine pair u v look look2 _ (Heap.get?_push_of_some _ (same3.extBut _ _ D.i2z.symm (same2.extBut _ _ D.i1z.symm z1))) ((v1'.extBut same3.extBut D.i12).at fun o at_b => Heap.get?_push_of_some _ at_b)
      (v2'.at fun o at_b => Heap.get?_push_of_some _ at_b) made grown fun b q bz b1 b2 at_b => ?_
    exact Heap.get?_push_of_some _ (same3.extBut _ _ b2 (same2.extBut _ _ b1 (same1.extBut _ _ bz at_b)))
/-- where zip stands, i pairs out -/
def ZS (h : Heap) (z TI TO i1 i2 l1 l2 : Addr) (i : Nat) : Prop := IsPair h TI (.ref i1) (.ref i2) ∧ h.IsTupleIter i1 l1 i ∧ h.IsTupleIter i2 l2 i ∧
  ((IsZip h z TI TO .none ∧ ∃ a b, IsPair h TO a b) ∨ ∃ T f oT, IsZipHeld h z TI TO T f ∧ h.get? T = some oT)
theorem ZS.typeIs {z TI TO i1 i2 l1 l2 : Addr} {i : Nat} (h : ZS s.heap z TI TO i1 i2 l1 l2 i) : s.TypeIs (.ref z) "zip" := by
  obtain ⟨_, _, _, ⟨h, _⟩ | ⟨T, f, oT, h, _⟩⟩ := h
  · exact ⟨_, h, rfl⟩
  · exact ⟨_, h, rfl⟩
theorem ZS.keep {h h' : Heap} {z TI TO i1 i2 l1 l2 S : Addr} {i : Nat} (x : ZS h z TI TO i1 i2 l1 l2 i) (hS : ∃ acc c, h.get? S = some { cls := .type "list", dict := none, data := .seq acc c, slots := #[] })
    (k : ∀ b o, b ≠ S → h.get? b = some o → h'.get? b = some o) (kS : ∃ o, h'.get? S = some o) : ZS h' z TI TO i1 i2 l1 l2 i := by
  obtain ⟨acc, c, hS⟩ := hS
  obtain ⟨h1, ⟨o2, h2, c2, r2⟩, ⟨o3, h3, c3, r3⟩, h4⟩ := x
  have ne : ∀ b o, h.get? b = some o → o.cls ≠ .type "list" → b ≠ S := fun b o e q z => by
    rw [z, hS] at e
    cases e
    exact q rfl
  refine ⟨k _ _ (ne _ _ h1 (fun z => by simp at z)) h1, ⟨o2, k _ _ (ne _ _ h2 (by rw [c2]; simp)) h2, c2, r2⟩, ⟨o3, k _ _ (ne _ _ h3 (by rw [c3]; simp)) h3, c3, r3⟩, ?_⟩
  rcases h4 with ⟨h4, a, b, h5⟩ | ⟨T, f, oT, h4, h5⟩
  · exact .inl ⟨k _ _ (ne _ _ h4 (fun z => by simp at z)) h4, a, b, k _ _ (ne _ _ h5 (fun z => by simp at z)) h5⟩
  · by_cases hT : T = S
    · obtain ⟨o, kS⟩ := kS
      exact .inr ⟨T, f, o, k _ _ (ne _ _ h4 (fun z => by simp at z)) h4, by rw [hT]; exact kS⟩
    · exact .inr ⟨T, f, oT, k _ _ (ne _ _ h4 (fun z => by simp at z)) h4, k _ _ hT h5⟩
end
end RZ
set_option Elab.async false
set_option linter.all false
set_option maxRecDepth 100000
set_option maxHeartbeats 8000000
namespace NF
open PySem PySem.Spec L2 PyProof.Rows
abbrev Nev : Value → Shared → Prop := fun _ _ => False
section
variable {prog : Program} {w : World} {A : Around}
/-- how the loop of the k-th for is told, when Rest tells what stands behind its tests -/
def Told (prog : Program) (w : World) (A : Around) (e tg : Expr) (ifs : List Expr) (k : Nat) (D : Value) (env : Env) (Rest : (Shared → Prop) → Shared → Prop) : Prop :=
  ∀ (it : Value) (R : Result → Shared → Prop) (I : Nat → Shared → Prop),
    (∀ n s, I n s → wpAny (model prog w) A (pyNext it) (fun got s1 => match got with
      | none => R (.ok .next) s1
      | some v => wpAny (model prog w) A (letOwnedTupleGo tg it v) (fun _ s2 => wpAny (model prog w) A (assign tg env v) (fun _ s3 =>
          wpAny (model prog w) A (forIn ifs true fun c r => if r = true then do let ok ← isTrue c env (eval c env); pure (ForInStep.yield ok) else pure (ForInStep.yield r))
            (fun b s4 => if b = true then Rest (fun s' => ∃ m, m < n ∧ I m s') s4 else ∃ m, m < n ∧ I m s4) Nev s3) Nev s2) Nev s1) Nev s) →
    ∀ n s, I n s → codeAny (model prog w) A (.compLoop e k it D env) R s
theorem told_last {elt tg iter : Expr} {ifs : List Expr} {cs : List Comprehension} {scope : Scope} {pos : Pos} {k : Nat} {D : Value} {env : Env} (here : cs[k]? = some ⟨tg, iter, ifs, 0⟩) (end_ : cs[k + 1]? = none) :
    Told prog w A (.ListComp elt cs scope pos) tg ifs k D env fun P s => wpAny (model prog w) A (eval elt env) (fun x s1 => wpAny (model prog w) A (call (.builtin "list.append") [D, x]) (fun _ s2 => P s2) Nev s1) Nev s := by
  intro it R I turn n s h
  refine codeAny_loop rfl I (fun n s hI => ?_) n h
  show wpAny _ A ((compTurn (.ListComp elt cs scope pos) k it D env).onRaise (fun x => do noteFrame x env; theTreesLotGoes x)) _ _ s
  refine wpAny_noted ?_
  unfold compTurn
  simp only [here, end_, show ((0 : Int) != 0) = false from rfl, Bool.false_eq_true, if_false]
  refine wpAny_bind (wpAny_standAt (wpAny_bind (thnF (turn n s hI) fun got s1 h1 => ?_)))
  cases got with
  | none => exact wpAny_pure h1
  | some v =>
    refine wpAny_bind (thnF h1 fun _ s2 h2 => wpAny_bind (thnF h2 fun _ s3 h3 => wpAny_bind (thnF h3 fun b s4 h4 => ?_)))
    cases b with
    | false => exact wpAny_pure ⟨rfl, h4⟩
    | true => exact wpAny_bind (wpAny_bind (thnF h4 fun x s5 h5 => wpAny_bind (thnF h5 fun _ s6 h6 => wpAny_pure (wpAny_pure ⟨rfl, h6⟩))))
/-- behind the tests stands a further for -/
theorem told_mid {elt tg iter tg1 iter1 : Expr} {ifs ifs1 : List Expr} {cs : List Comprehension} {scope : Scope} {pos : Pos} {k : Nat} {D : Value} {env : Env} (here : cs[k]? = some ⟨tg, iter, ifs, 0⟩) (next : cs[k + 1]? = some ⟨tg1, iter1, ifs1, 0⟩)
    (plain : ∀ x, foldedSetIterable iter1 env x = pure x) :
    Told prog w A (.ListComp elt cs scope pos) tg ifs k D env fun P s => wpAny (model prog w) A (eval iter1 env) (fun x s1 => wpAny (model prog w) A (pyIter x) (fun it1 s2 =>
      codeAny (model prog w) A (.compStart (.ListComp elt cs scope pos) (k + 1) it1 D env) (fun r s' => match r with | .ok _ => P s' | .error _ => False) s2) Nev s1) Nev s := by
  intro it R I turn n s h
  refine codeAny_loop rfl I (fun n s hI => ?_) n h
  show wpAny _ A ((compTurn (.ListComp elt cs scope pos) k it D env).onRaise (fun x => do noteFrame x env; theTreesLotGoes x)) _ _ s
  refine wpAny_noted ?_
  unfold compTurn
  simp only [here, next, show ((0 : Int) != 0) = false from rfl, Bool.false_eq_true, if_false]
  refine wpAny_bind (wpAny_standAt (wpAny_bind (thnF (turn n s hI) fun got s1 h1 => ?_)))
  cases got with
  | none => exact wpAny_pure h1
  | some v =>
    refine wpAny_bind (thnF h1 fun _ s2 h2 => wpAny_bind (thnF h2 fun _ s3 h3 => wpAny_bind (thnF h3 fun b s4 h4 => ?_)))
    cases b with
    | false => exact wpAny_pure ⟨rfl, h4⟩
    | true =>
      refine wpAny_bind (thnF h4 fun x s5 h5 => wpAny_bind (wpAny_standAt (wpAny_bind (wpAny_of_eq (plain x) (wpAny_bind (wpAny_holding (thnF h5 fun it1 s6 h6 => ?_)))))))
      refine wpAny_bind (wpAny_runOwn ?_)
      rw [Around.mark_none]
      refine codeAny_mono h6 fun r s7 h7 => ?_
      cases r with
      | error _ => exact h7.elim
      | ok _ => exact wpAny_pure ⟨rfl, h7⟩
/-- the start of a further for: its iterator is asked for once more -/
theorem start_of {elt tg iter : Expr} {ifs : List Expr} {cs : List Comprehension} {scope : Scope} {pos : Pos} {k : Nat} {it D : Value} {env : Env} {R : Result → Shared → Prop} {s : Shared} (here : cs[k]? = some ⟨tg, iter, ifs, 0⟩)
    (loop : codeAny (model prog w) A (.compLoop (.ListComp elt cs scope pos) k it D env) R s)
    (again_ : wpAny (model prog w) A (pyIter it) (fun it' s' => it' = it ∧ s' = s) Nev s) : codeAny (model prog w) A (.compStart (.ListComp elt cs scope pos) k it D env) R s := by
  refine codeAny_of_tree ?_
  show wpAny _ _ ((compStart (.ListComp elt cs scope pos) k it D env).onRaise (fun x => do noteFrame x env; standAt theWindowsPlace)) _ _ s
  refine wpAny_notedAt ?_
  unfold compStart
  simp only [clausesOf, here, Option.elim, show ((0 : Int) != 0) = false from rfl, Bool.false_eq_true, if_false]
  refine wpAny_bind (wpAny_askSetting (wpAny_ite ?_))
  split
  · exact wpAny_pure ⟨rfl, loop⟩
  · refine wpAny_bind (wpAny_rule (wpAny_bind (wpAny_standAt (wpAny_bind (thnF again_ ?_)))))
    rintro _ _ ⟨rfl, rfl⟩
    exact wpAny_pure ⟨rfl, loop⟩
end
/-- what a for asks of the promises of its parts; t tells what stands behind its tests, vs are the slots that its target and those behind it store to -/
def uLoop (g : TG) (tt : TT) (t : L2.St → Hp → (Hp → Prop) → Prop) (vs : List Nat) (σ : L2.St) (J : It) (H0 : Hp) (Nx : Hp → Prop) : Prop :=
  ∃ W : Nat → Nat → Hp → Prop, (∃ m, W 0 m H0) ∧ ∀ j m H, W j m H → (J.stop j H ∧ Nx H) ∨ (J.go j H ∧ ∃ Nx1 : Hp → Prop, (∀ H', Nx1 H' → ∃ m', m' < m ∧ W (j + 1) m' H') ∧
    ∀ x H', J.yld j H x H' → g x (wipe σ vs) H' fun σ1 H1 => wipe σ1 vs = wipe σ vs ∧ tt σ1 H1 fun b H2 => if b = true then t σ1 H2 Nx1 else Nx1 H2)
section
variable {X : Cx}
/-- what stands behind a for's tests, told by t: afterwards the slots vs are forgotten -/
def Behind (X : Cx) (Rest : (Shared → Prop) → Shared → Prop) (t : L2.St → Hp → (Hp → Prop) → Prop) (vs : List Nat) : Prop :=
  ∀ (pins : List (Addr × Obj)) (s : Shared) (σ : L2.St) (H : Hp) (Nx : Hp → Prop) (P : Shared → Prop), Inv X pins σ H s → t σ H Nx → (∀ s' H', Inv X pins (wipe σ vs) H' s' → Nx H' → P s') → Rest P s
/-- one for, led to its end -/
theorem loop_of {e tg : Expr} {ifs : List Expr} {k : Nat} {D : Value} {Rest : (Shared → Prop) → Shared → Prop} {g : TG} {tt : TT} {t : L2.St → Hp → (Hp → Prop) → Prop} {vs vs1 : List Nat} (calm : X.calm = true) (nev : X.xe = Nev) (told : Told X.prog X.w X.A e tg ifs k D X.env Rest) (pg : PG X tg g) (pt : PTs X ifs tt) (b : Behind X Rest t vs1) (sub : ∀ i ∈ vs1, i ∈ vs)
    {pins : List (Addr × Obj)} {s : Shared} {σ : L2.St} {H : Hp} {it : Addr} {fp : List Addr} {tn : Nat → Heap → Prop} {J : It} {Nx : Hp → Prop} {R : Result → Shared → Prop} (I : Inv X pins (wipe σ vs) H s) (T : Turn X.prog X.w X.K tg J fp it tn) (st : tn 0 s.heap) (fo : ∀ b ∈ fp, FpOk X pins H b) (u : uLoop g tt t vs σ J H Nx)
    (fin : ∀ s' H', Inv X pins (wipe σ vs) H' s' → Nx H' → R (.ok .next) s') : codeAny (model X.prog X.w) X.A (.compLoop e k (.ref it) D X.env) R s := by
  obtain ⟨W, ⟨m0, w0⟩, step⟩ := u
  refine told (.ref it) R (fun m s' => ∃ j H', Inv X pins (wipe σ vs) H' s' ∧ tn j s'.heap ∧ (∀ b ∈ fp, H' b = none) ∧ W j m H') ?_ m0 s ⟨0, H, I, st, fun b hb => (fo b hb).1, w0⟩
  rintro m s ⟨j, H1, I1, st1, n1, w1⟩
  have fo1 : ∀ {H' : Hp}, (∀ b ∈ fp, H' b = none) → ∀ b ∈ fp, FpOk X pins H' b := fun n b hb => ⟨n b hb, (fo b hb).2⟩
  rcases step j m H1 w1 with ⟨stop, nx⟩ | ⟨go, Nx1, down, turn⟩
  · refine thnF (T.done X rfl rfl rfl calm j pins s _ H1 Nev I1 (fo1 n1) st1 stop) ?_
    rintro _ s2 ⟨rfl, I2⟩
    exact fin s2 H1 I2 nx
  · refine thnF (T.item X rfl rfl rfl calm j pins s _ H1 Nev I1 (fo1 n1) st1 go) ?_
    rintro _ s2 ⟨v, rfl, h2⟩
    refine thnF h2 ?_
    rintro _ s3 ⟨x, H3, I3, rv, y, st3, n3⟩
    have I3' := I3.pinned (fo1 n3) (T.obj _ _ st3)
    have a := pg.run _ s3 _ H3 x v _ I3' rv (turn x H3 y)
    rw [nev] at a
    refine thnF a ?_
    rintro _ s4 ⟨σ4, H4, I4, e4, q4⟩
    have c := pt.run _ s4 σ4 H4 _ I4 q4
    rw [nev] at c
    refine thnF c ?_
    rintro ok s5 ⟨H5, I5, q5⟩
    have onw : ∀ {s' : Shared} {H' : Hp} {σ' : L2.St}, Inv X (pins ++ pinsAt fp s3.heap) σ' H' s' → (wipe σ vs).length = σ'.length → (∀ (i : Nat) v, (wipe σ vs)[i]? = some (some v) → σ'[i]? = some (some v)) → Nx1 H' →
        ∃ m', m' < m ∧ ∃ j H', Inv X pins (wipe σ vs) H' s' ∧ tn j s'.heap ∧ (∀ b ∈ fp, H' b = none) ∧ W j m' H' := by
      intro s' H' σ' I' len keep nx
      obtain ⟨m', lt, w'⟩ := down H' nx
      have stay : ∀ b ∈ fp, ∀ o, s3.heap.get? b = some o → s'.heap.get? b = some o ∧ H' b = none := fun b hb o at_ =>
        have p := I'.pin (b, o) (List.mem_append_right _ (List.mem_append_right _ (mem_pinsAt hb at_)))
        ⟨p.1, p.2.1⟩
      refine ⟨m', lt, j + 1, H', I'.unpinned.weak len keep, T.keep _ _ _ st3 fun b hb o at_ => (stay b hb o at_).1, fun b hb => ?_, w'⟩
      obtain ⟨o, at_, _⟩ := T.obj _ _ st3 b hb
      exact (stay b hb o at_).2
    have len4 : (wipe σ vs).length = σ4.length := by rw [← e4, wipe_length]
    cases ok with
    | false => exact onw I5 len4 (fun i v z => by rw [← e4] at z; exact (wipe_some z).1) q5
    | true =>
      refine b _ s5 σ4 H5 Nx1 _ I5 q5 fun s6 H6 I6 nx => onw I6 (len4.trans (wipe_length σ4 vs1).symm) (fun i v z => ?_) nx
      rw [← e4] at z
      obtain ⟨z1, z2⟩ := wipe_some z
      rw [wipe_out fun h => z2 (sub i h)]
      exact z1
/-- the last for: its item is laid at the list's end -/
theorem behind_elt {elt : Expr} {D : Addr} {te : TE} {vs : List Nat} (nev : X.xe = Nev) (pe : PE X elt te) :
    Behind X (fun P s => wpAny (model X.prog X.w) X.A (eval elt X.env) (fun x s1 => wpAny (model X.prog X.w) X.A (call (.builtin "list.append") [.ref D, x]) (fun _ s2 => P s2) Nev s1) Nev s)
      (fun σ H Nx => te σ H fun y H1 => ∃ xs, H1 D = some (.lst xs) ∧ xs.length < sizeLine ∧ Nx (upd H1 D (.lst (xs ++ [y])))) vs := by
  intro pins s σ H Nx P I q fin
  have a := pe.run pins s σ H _ I q
  rw [nev] at a
  refine thnF a ?_
  rintro v s1 ⟨y, H1, I1, rv, xs, at_, fits, nx⟩
  exact app_ok I1 at_ fits rv fun s2 I2 => fin s2 _ (I2.weak (wipe_length σ vs) fun i v z => (wipe_some z).1) nx
/-- a for within -/
theorem behind_for {elt tg iter : Expr} {ifs : List Expr} {cs : List Comprehension} {scope : Scope} {pos : Pos} {k : Nat} {D : Value} {Rest : (Shared → Prop) → Shared → Prop} {wi : TI} {g : TG} {tt : TT} {t : L2.St → Hp → (Hp → Prop) → Prop} {vs vs1 : List Nat} (here : cs[k]? = some ⟨tg, iter, ifs, 0⟩) (calm : X.calm = true) (nev : X.xe = Nev)
    (told : Told X.prog X.w X.A (.ListComp elt cs scope pos) tg ifs k D X.env Rest) (pi : PI X tg iter wi) (pg : PG X tg g) (pt : PTs X ifs tt) (b : Behind X Rest t vs1) (sub : ∀ i ∈ vs1, i ∈ vs) :
    Behind X (fun P s => wpAny (model X.prog X.w) X.A (eval iter X.env) (fun x s1 => wpAny (model X.prog X.w) X.A (pyIter x) (fun it1 s2 =>
      codeAny (model X.prog X.w) X.A (.compStart (.ListComp elt cs scope pos) k it1 D X.env) (fun r s' => match r with | .ok _ => P s' | .error _ => False) s2) Nev s1) Nev s)
      (fun σ H Nx => wi σ H fun J H1 => uLoop g tt t vs σ J H1 Nx) vs := by
  intro pins s σ H Nx P I q fin
  have a := pi.run pins s σ H _ I q
  rw [nev] at a
  refine thnF a fun x s1 h1 => thnF h1 ?_
  rintro _ s2 ⟨it, fp, tn, J, H2, rfl, I2, T, st, fo, u⟩
  refine start_of here (loop_of calm nev told pg pt b sub (I2.weak (wipe_length σ vs) fun i v z => (wipe_some z).1) T st fo u fin) ?_
  exact T.self X.A 0 s2 _ _ st ⟨rfl, rfl⟩
/-- the whole: the first iterator is made before the block, the list is new -/
def tLcN (wi : TI) (g : TG) (tt : TT) (t : Addr → L2.St → Hp → (Hp → Prop) → Prop) (vs : List Nat) : TE := fun σ H Q => wi σ H fun J H1 => ∀ D, H1 D = none → uLoop g tt (t D) vs σ J (upd H1 D (.lst [])) (Q (.ref D))
theorem pe_lcN {elt tg iter : Expr} {ifs : List Expr} {cs : List Comprehension} {scope : Scope} {own : List (Str × Nat)} {pos : Pos} {wi : TI} {g : TG} {tt : TT} {t : Addr → L2.St → Hp → (Hp → Prop) → Prop} {vs1 : List Nat} {Rest : Addr → Env → (Shared → Prop) → Shared → Prop} (calm : X.calm = true) (nd : X.N.Nodup) (pi : PI X tg iter wi) (blk : BlkOk X.N X.env.scope scope own) (sub : ∀ i ∈ vs1, i ∈ own.map (·.2))
    (told : ∀ (D : Addr) (env : Env), Told X.prog X.w X.A (.ListComp elt (⟨tg, iter, ifs, 0⟩ :: cs) scope pos) tg ifs 0 (.ref D) env (Rest D env))
    (parts : ∀ (s : Shared) (H : Hp) (C D : Addr) (cl : List (Str × Addr)) (fp : List Addr), PG (X.blk s H scope (compEnvC scope cl C X.env) fp) tg g ∧ PTs (X.blk s H scope (compEnvC scope cl C X.env) fp) ifs tt ∧ Behind (X.blk s H scope (compEnvC scope cl C X.env) fp) (Rest D (compEnvC scope cl C X.env)) (t D) vs1)
    (plain : ∀ x, foldedSetIterable iter X.env x = pure x := by intro _; rfl) :
    PE X (.ListComp elt (⟨tg, iter, ifs, 0⟩ :: cs) scope pos) (tLcN wi g tt t (own.map (·.2))) := by
  refine ⟨fun pins s σ H Q I q => ?_⟩
  have caught : ∀ y ∈ scope.names, y.2 = .free → ∃ c, X.env.cells.lookup y.1 = some c := fun y m e => I.ok.has _ (blk.free y m e)
  rw [eval_ListComp]
  refine wpAny_comprehension_free (use := none) rfl plain (closure_ok caught) blk.kind (fun y m e => by rw [blk.uniq y m, e]) (thn (pi.run pins s σ H _ I q) fun x s1 h1 => thn h1 ?_)
  rintro _ s2 ⟨it, fp, tn, J, H2, rfl, I2, T, st, fo, u⟩
  refine wpAny_newObj_type (newEnv_comp ?_) (by show 0 ≤ sizeLine; decide)
  obtain ⟨D, eD⟩ : ∃ D, s2.heap.objs.size = D := ⟨_, rfl⟩
  have free : H2 D = none := I2.hok.fresh (Nat.le_of_eq eD)
  obtain ⟨s3, e3⟩ : ∃ s3, s3 = ({ s2 with heap := s2.heap.push { cls := .type "list", data := .seq ([] : List Value).toArray } } : Shared) := ⟨_, rfl⟩
  have old : ∀ b o, s2.heap.get? b = some o → s3.heap.get? b = some o := fun b o z => by
    rw [e3]
    exact Heap.get?_push_of_some _ z
  have more : s3.heap.objs.size = s2.heap.objs.size + 1 := by
    rw [e3]
    exact Heap.size_push ..
  have I3 : Inv X pins σ (upd H2 D (.lst [])) s3 := by
    rw [e3]
    refine I2.laid (t' := s2.toks) (fun b o z => Heap.get?_push_of_some _ z) (Nat.le_of_eq eD) ⟨Nat.zero_le _, [], 0, .nil, ?_⟩
    rw [← eD]
    exact Heap.get?_push_size _ rfl
  have fo3 : ∀ b ∈ fp, FpOk X pins (upd H2 D (.lst [])) b ∧ b < s3.heap.objs.size := by
    intro b m
    obtain ⟨o, at_, _⟩ := T.obj _ _ st b m
    have lt : b < s2.heap.objs.size := Heap.lt_size at_
    obtain ⟨f1, f2⟩ := fo b m
    refine ⟨⟨?_, f2⟩, by rw [more] <;> exact Nat.lt_succ_of_lt lt⟩
    rw [upd_ne fun z => Nat.lt_irrefl _ (by rw [z, ← eD] at lt <;> exact lt)]
    exact f1
  have I4 := block_start I3 blk nd fo3
  obtain ⟨pg, pt, bh⟩ := parts s3 (upd H2 D (.lst [])) s3.heap.objs.size D (cellsFrom (s3.heap.objs.size + 1) scope.names (cloFrom X.env.cells scope.names [])) fp
  have told' := told D (compEnvC scope (cellsFrom (s3.heap.objs.size + 1) scope.names (cloFrom X.env.cells scope.names [])) s3.heap.objs.size X.env)
  rw [eD, ← e3]
  show codeAny _ _ (.compStart (.ListComp elt (⟨tg, iter, ifs, 0⟩ :: cs) scope pos) 0 (.ref it) (.ref D) (compEnvC scope (cellsFrom (s3.heap.objs.size + 1) scope.names (cloFrom X.env.cells scope.names [])) s3.heap.objs.size X.env))
    (compPost (model X.prog X.w) X.A X.xe none (EP X pins σ Q) (.ref D) s3.heap.objs.size) { s3 with heap := pushCells (s3.heap.push { cls := .type "dict", data := .dict #[] }) scope.names }
  obtain ⟨ce, ece⟩ : ∃ ce, ce = compEnvC scope (cellsFrom (s3.heap.objs.size + 1) scope.names (cloFrom X.env.cells scope.names [])) s3.heap.objs.size X.env := ⟨_, rfl⟩
  have eC : ce.locals = s3.heap.objs.size := by rw [ece] <;> rfl
  rw [← ece] at I4 pg pt bh told' ⊢
  obtain ⟨s4, e4⟩ : ∃ s4, s4 = ({ s3 with heap := pushCells (s3.heap.push { cls := .type "dict", data := .dict #[] }) scope.names } : Shared) := ⟨_, rfl⟩
  have old4 : ∀ b o, s2.heap.get? b = some o → s4.heap.get? b = some o := fun b o z => by
    rw [e4]
    exact pushCells_keeps _ _ _ _ (Heap.get?_push_of_some _ (old b o z))
  rw [← e4] at I4 ⊢
  have st4 : tn 0 s4.heap := T.keep _ _ _ st fun b _ o z => old4 b o z
  have fo4 : ∀ b ∈ fp, FpOk (X.blk s3 (upd H2 D (.lst [])) scope ce fp) [] (upd H2 D (.lst [])) b := fun b m => ⟨(fo3 b m).1.1, (I4.ok.exf b m).1, I4.ok.exfs b m, .inl m, fun y c z => (I4.ok.exf b m).2 y c z, fun p mp => absurd (show p ∈ ([] : List (Addr × Obj)) ++ [] from mp) (by simp)⟩
  refine start_of (tg := tg) (iter := iter) (ifs := ifs) rfl (loop_of (X := X.blk s3 (upd H2 D (.lst [])) scope ce fp) calm rfl told' pg pt bh sub I4 T st4 fo4 (u D free) fun s' H' I' done => ?_) (T.self X.A 0 s4 _ _ st4 ⟨rfl, rfl⟩)
  have back : Inv X pins σ H' s' := I3.call' (ch := fp) I'.os I'.base I'.hok I'.bare fun b m => let z := (fo3 b m).1.2; ⟨z.2.2.1, z.1, z.2.2.2.1, z.2.2.2.2⟩
  have nC : H' s3.heap.objs.size = none := by
    rw [← eC]
    exact I'.free
  obtain ⟨m, names, _⟩ := I'.loc
  have names : s'.heap.Ns ce.locals m := names
  rw [eC] at names
  obtain ⟨f0, f1, _, f3, f4, f5⟩ := I3.fpOk (Nat.le_refl _) nC
  exact ⟨m, names, fun h2 sb => ⟨.ref D, H', back.turned (t' := s'.toks) (fun b o nb z => (sb.2 b nb).trans z) f0 f1 f3 f4 f5, rfl, done⟩⟩
end
end NF
set_option Elab.async false
set_option linter.all false
set_option maxRecDepth 100000
set_option maxHeartbeats 8000000
namespace NF
open PySem PySem.Spec L2 PyProof.Rows
theorem cr_rangeTo : CallR X (.type "range") (fun vs H Q => ∃ j : Int, vs = [V.int j] ∧ ∀ p, H p = none → Q (.ref p) (upd H p (.rng 0 j))) := by
  rintro pins s σ H vs us Q I rv ⟨j, rfl, q⟩
  cases rv with
  | cons one none_ =>
    cases none_
    obtain ⟨t, rfl⟩ := one
    have young := I.hok.fresh (Nat.le_refl s.heap.objs.size)
    refine call_range_1 ⟨.ref s.heap.objs.size, upd H s.heap.objs.size (.rng 0 j), I.laid (fun b o z => Heap.get?_push_of_some _ z) (Nat.le_refl _) ?_, rfl, q _ young⟩
    exact ⟨_, _, _, Heap.get?_push_size _ rfl⟩
/-- for i in r, where r is a range from lo below hi -/
def iHeld (te : TE) : TI := fun σ H R => te σ H fun x H1 => ∃ (a : Addr) (lo hi : Int), x = .ref a ∧ H1 a = some (.rng lo hi) ∧ (-(2 ^ 62) ≤ lo ∧ lo < 2 ^ 62 ∧ -(2 ^ 62) ≤ hi ∧ hi < 2 ^ 62) ∧ R (Itr lo (hi - lo).toNat) H1
theorem pi_held {X : Cx} {tg e : Expr} {te : TE} (pe : PE X e te) : PI X tg e (iHeld te) := by
  refine ⟨fun pins s σ H R I q => thn (pe.run pins s σ H _ I q) ?_⟩
  rintro v s1 ⟨_, H1, I1, rv, a, lo, hi, rfl, at_, ⟨b1, b2, b3, b4⟩, r⟩
  cases (show v = Value.ref a from rv)
  obtain ⟨t1, t2, t3, ho⟩ := I1.hok a _ at_
  refine wpAny_pyIter_range (a := lo) (b := hi) (c := 1) (t := t1) (u := t2) (v := t3) ho (small_one b1 b2 b3 b4) ?_
  have young := I1.hok.fresh (Nat.le_refl s1.heap.objs.size)
  refine ⟨s1.heap.objs.size, [s1.heap.objs.size], _, _, H1, rfl, I1.kept fun b o z => Heap.get?_push_of_some _ z, turn_range _ lo (hi - lo).toNat, ?_, fun b m => ?_, r⟩
  · have whole : (((hi - lo).toNat : Nat) : Int) - ((0 : Nat) : Int) = Builtin.Range.rangeSize lo hi 1 := by
      rw [rangeSize_one]
      split <;> omega
    have first : lo + ((0 : Nat) : Int) * 1 = lo := by omega
    rw [whole, first]
    exact Heap.get?_push_size _ rfl
  · rw [List.mem_singleton.mp m]
    exact I1.fpOk (Nat.le_refl _) young
end NF
set_option Elab.async false
set_option linter.all false
set_option maxRecDepth 100000
set_option maxHeartbeats 4000000
namespace WK
open PySem L2 PyProof.Rows LCX K1
def Bel (n : Int) (ns : List Int) : Prop := ∀ i ∈ ns, 0 ≤ i ∧ i < n
abbrev oTup (r : List Int) : HO := .tup (r.map V.int)
/-- at these places stand these rows -/
def Objs (mk : List Int → HO) (H : Hp) : List Addr → List (List Int) → Prop
  | [], [] => True
  | a :: as, r :: rs => H a = some (mk r) ∧ Objs mk H as rs
  | _, _ => False
theorem Objs.to {mk : List Int → HO} {H H' : Hp} : ∀ {as : List Addr} {rs : List (List Int)}, Objs mk H as rs → (∀ a ∈ as, ∀ r, H a = some (mk r) → H' a = some (mk r)) → Objs mk H' as rs
  | [], [], _, _ => trivial
  | a :: as, _ :: _, h, k => ⟨k a (.head _) _ h.1, h.2.to fun b hb => k b (.tail _ hb)⟩
  | [], _ :: _, h, _ => h.elim
  | _ :: _, [], h, _ => h.elim
theorem Objs.snoc {mk : List Int → HO} {H : Hp} {b : Addr} {s : List Int} : ∀ {as : List Addr} {rs : List (List Int)}, Objs mk H as rs → H b = some (mk s) → Objs mk H (as ++ [b]) (rs ++ [s])
  | [], [], _, k => ⟨k, trivial⟩
  | _ :: _, _ :: _, h, k => ⟨h.1, h.2.snoc k⟩
  | [], _ :: _, h, _ => h.elim
  | _ :: _, [], h, _ => h.elim
theorem Objs.len {mk : List Int → HO} {H : Hp} : ∀ {as : List Addr} {rs : List (List Int)}, Objs mk H as rs → as.length = rs.length
  | [], [], _ => rfl
  | _ :: _, _ :: _, h => congrArg Nat.succ h.2.len
  | [], _ :: _, h => h.elim
  | _ :: _, [], h => h.elim
theorem Objs.at_ {mk : List Int → HO} {H : Hp} : ∀ {as : List Addr} {rs : List (List Int)}, Objs mk H as rs → ∀ p ∈ as.zip rs, H p.1 = some (mk p.2)
  | [], [], _, _, hp => (List.not_mem_nil hp).elim
  | _ :: _, _ :: _, h, p, hp => (List.mem_cons.mp hp).elim (fun e => e ▸ h.1) fun z => h.2.at_ p z
  | [], _ :: _, h, _, _ => h.elim
  | _ :: _, [], h, _, _ => h.elim
theorem Objs.mem {mk : List Int → HO} {H : Hp} : ∀ {as : List Addr} {rs : List (List Int)}, Objs mk H as rs → ∀ a ∈ as, ∃ r ∈ rs, H a = some (mk r)
  | [], [], _, _, ha => (List.not_mem_nil ha).elim
  | _ :: _, _ :: _, h, a, ha => (List.mem_cons.mp ha).elim (fun e => ⟨_, .head _, e ▸ h.1⟩) fun z => let ⟨r, hr, e⟩ := h.2.mem a z; ⟨r, .tail _ hr, e⟩
  | [], _ :: _, h, _, _ => h.elim
  | _ :: _, [], h, _, _ => h.elim
end WK
set_option Elab.async false
set_option linter.all false
set_option maxRecDepth 100000
set_option maxHeartbeats 6000000
namespace FV
open PySem PySem.Spec PyProof.Rows L2 LamX NdefX
/-- the very object o stands at c -/
def Fix (c : Addr) (o : Obj) : HO := .ext fun h => h.get? c = some o
abbrev Cs := List (Addr × Obj)
def Lay (cs : Cs) (H : Hp) : Prop := ∀ p ∈ cs, H p.1 = some (Fix p.1 p.2)
def off (cs : Cs) (H : Hp) : Hp := fun b => if b ∈ cs.map (·.1) then none else H b
theorem off_in {cs : Cs} {H : Hp} {b : Addr} (h : b ∈ cs.map (·.1)) : off cs H b = none := if_pos h
theorem Lay.same {cs : Cs} {H H' : Hp} (l : Lay cs H) (s : ∀ b o, H b = some o → (∀ ps, o ≠ .tbl ps) → H' b = some o) : Lay cs H' := fun p hp => s _ _ (l p hp) fun _ z => nomatch z
section
variable {P : Program} {w : World} {H H' : Hp} {h h' : Heap} {cs : Cs} {fs : List Addr}
theorem lay_at (ok : HOk P w H h) (l : Lay cs H) : ∀ p ∈ cs, h.get? p.1 = some p.2 := fun p hp => (ok p.1 _ (l p hp)).1
end
/-- the closure cl has the names fr, at these cells with these values -/
structure Fits (cl : List (Str × Addr)) (fr : List Str) (cs : Cs) (vals : List V) : Prop where
  len : cs.length = fr.length
  lenV : vals.length = fr.length
  at_ : ∀ (i : Nat) (y : Str) (p : Addr × Obj), fr[i]? = some y → cs[i]? = some p → cl.lookup y = some p.1
  only : ∀ (y : Str) (c : Addr), cl.lookup y = some c → y ∈ fr
  nd : (cs.map (·.1)).Nodup
  val : ∀ (i : Nat) (p : Addr × Obj) (v : V), cs[i]? = some p → vals[i]? = some v → ∃ u, RelV v u ∧ p.2.data = .cell (some u)
theorem nodup_at {α : Type} {l : List α} (nd : l.Nodup) {i j : Nat} {x : α} (a : l[i]? = some x) (b : l[j]? = some x) : i = j := by
  obtain ⟨h1, e1⟩ := List.getElem?_eq_some_iff.mp a
  obtain ⟨h2, e2⟩ := List.getElem?_eq_some_iff.mp b
  exact (List.getElem_inj nd).mp (e1.trans e2.symm)
theorem Fits.mem {cl : List (Str × Addr)} {fr : List Str} {cs : Cs} {vals : List V} (F : Fits cl fr cs vals) {y : Str} {c : Addr} (e : cl.lookup y = some c) : ∃ (i : Nat) (p : Addr × Obj), fr[i]? = some y ∧ cs[i]? = some p ∧ p.1 = c := by
  obtain ⟨i, hi⟩ := List.mem_iff_getElem?.mp (F.only y c e)
  have hl : i < cs.length := by rw [F.len]; exact (List.getElem?_eq_some_iff.mp hi).1
  refine ⟨i, cs[i], hi, List.getElem?_eq_getElem hl, ?_⟩
  have := F.at_ i y cs[i] hi (List.getElem?_eq_getElem hl)
  rw [e] at this
  exact (Option.some.inj this).symm
theorem Fits.cells {P : Program} {w : World} {cl : List (Str × Addr)} {fr : List Str} {cs : Cs} {vals : List V} {H : Hp} {h : Heap} (F : Fits cl fr cs vals) (ok : HOk P w H h) (l : Lay cs H) : CellsAt cl fr (vals.map some) h (off cs H) := by
  have cell : ∀ (i : Nat) (p : Addr × Obj), cs[i]? = some p → ∃ v u, vals[i]? = some v ∧ RelV v u ∧ h.IsCell p.1 (some u) := fun i p hp => by
    have hl : i < vals.length := by rw [F.lenV, ← F.len]; exact (List.getElem?_eq_some_iff.mp hp).1
    obtain ⟨u, r, d⟩ := F.val i p vals[i] hp (List.getElem?_eq_getElem hl)
    exact ⟨vals[i], u, List.getElem?_eq_getElem hl, r, p.2, lay_at ok l p (List.mem_of_getElem? hp), d⟩
  refine ⟨by rw [List.length_map]; exact F.lenV, fun y c e => ?_, fun x y c e1 e2 => ?_, fun i y e => ?_⟩
  · obtain ⟨i, p, _, hp, rfl⟩ := F.mem e
    obtain ⟨v, u, _, _, z⟩ := cell i p hp
    exact ⟨off_in (List.mem_map.mpr ⟨p, List.mem_of_getElem? hp, rfl⟩), _, z⟩
  · obtain ⟨i, p, hi, hp, rfl⟩ := F.mem e1
    obtain ⟨j, q, hj, hq, e⟩ := F.mem e2
    have : i = j := nodup_at F.nd (x := p.1) (by rw [List.getElem?_map, hp] <;> rfl) (by rw [List.getElem?_map, hq, ← e] <;> rfl)
    rw [this, hj] at hi
    exact (Option.some.inj hi).symm
  · have hl : i < cs.length := by rw [F.len]; exact (List.getElem?_eq_some_iff.mp e).1
    obtain ⟨v, u, hv, r, z⟩ := cell i cs[i] (List.getElem?_eq_getElem hl)
    refine ⟨cs[i].1, F.at_ i y cs[i] e (List.getElem?_eq_getElem hl), fun v' hv' => ?_⟩
    rw [List.getElem?_map, hv] at hv'
    cases hv'
    exact ⟨u, r, z⟩
/-- the function at f may be called wherever G holds of the heap -/
structure CallV (P : Program) (w : World) (K : PySem.W.Frag) (mg : Str → Option Value) (base : Heap) (CX : CXT) (k : Nat) (f : Addr) (G : Hp → Prop) (sp : Sp) : Prop where
  fn : ∀ {H : Hp} {h : Heap}, HOk P w H h → G H → PySem.W.FnAt f h
  run : ∀ (A : Around) (outer : List Env) (s : Shared) (H : Hp) (us : List Value) (vs : List V) (Q : VK) (E : XK), Room k A → Env0 P w K mg base A outer s H → G H → Vals vs us → sp vs H Q E → codeAny (model P w) A (.call (.ref f) ⟨us, []⟩) (CR CX outer P w H s Q E) s
theorem CallV.mono {P : Program} {w : World} {K : PySem.W.Frag} {mg : Str → Option Value} {base : Heap} {CX : CXT} {j k : Nat} {f : Addr} {G : Hp → Prop} {sp : Sp} (c : CallV P w K mg base CX j f G sp) (h : j ≤ k) : CallV P w K mg base CX k f G sp :=
  ⟨c.fn, fun A outer s H us vs Q E hr => c.run A outer s H us vs Q E (hr.mono h)⟩
theorem CallV.imp {P : Program} {w : World} {K : PySem.W.Frag} {mg : Str → Option Value} {base : Heap} {CX : CXT} {k : Nat} {f : Addr} {G G' : Hp → Prop} {sp sp' : Sp} (c : CallV P w K mg base CX k f G sp) (hG : ∀ H, G' H → G H) (h : ∀ vs H Q E, G' H → sp' vs H Q E → sp vs H Q E) : CallV P w K mg base CX k f G' sp' :=
  ⟨fun ok g => c.fn ok (hG _ g), fun A outer s H us vs Q E hr e0 g r q => c.run A outer s H us vs Q E hr e0 (hG _ g) r (h _ _ _ _ g q)⟩
end FV
set_option Elab.async false
set_option linter.all false
set_option maxRecDepth 100000
set_option maxHeartbeats 6000000
namespace FV
open PySem PySem.Spec PyProof.Rows L2 LamX NdefX
end FV
set_option Elab.async false
set_option linter.all false
set_option maxRecDepth 100000
set_option maxHeartbeats 6000000
namespace FV
open PySem PySem.Spec PyProof.Rows L2 LamX NdefX
end FV
set_option Elab.async false
set_option linter.all false
set_option maxRecDepth 100000
set_option maxHeartbeats 4000000
namespace DP
open PySem PySem.Spec PyProof.Rows L2
def tDisp1 (tk tv : TE) : TE := fun σ H Q => ∃ emp : HO, (emp = .dK [] ∨ emp = .dT []) ∧ ∀ p, H p = none → tk σ (upd H p emp) fun y H1 => tv σ H1 fun z H2 => ∃ H3, DPut H2 p y z H3 ∧ Q (.ref p) H3
section
variable {X : Cx} {pins : List (Addr × Obj)} {σ : L2.St} {H H' : Hp} {s : Shared} {a : Addr} {y v : V} {u r : Value}
/-- what a display does with a pair -/
theorem d_set {Q : Unit → Shared → Prop} (hu : X.A.units < cLine) (I : Inv X pins σ H s) (g : DPut H a y v H') (ry : RelV y u) (rv : RelV v r) (h : ∀ s', Inv X pins σ H' s' → Q () s') : wpAny (model X.prog X.w) X.A (dictSet a u r) Q X.xe s := by
  rcases g with ⟨kvs, k, e, rfl, l, rfl⟩ | ⟨kvs, k, b, e, rfl, eb, l, rfl⟩
  · obtain ⟨z, hd, vs, rel, dd⟩ := dk_of I.hok e
    have few := length_putK kvs k v
    refine wpAny_dictSet_pairs (hsz := by rw [← rel.length]; exact z) (kV_is ry) dd fun h' dd' hs => h _ ?_
    exact d_write I (by rw [e]; exact True.intro) hs (let ⟨q, _, _, hq, _⟩ := dd'; ⟨q, hq⟩) (dk_new (by omega) hd (rel.put k rv) dd')
  · cases (show u = Value.ref b from ry)
    obtain ⟨z, hd, xs, rel, dd⟩ := dt_of I.hok e
    have few := length_putK kvs k v
    refine wpAny_dictSet_heap (hsz := by rw [← Paired.length rel]; exact z) hu (key_of I.hok eb) dd fun h' ⟨q, es, ep, hq, h2, h3, h4, _, h5⟩ hs => h _ ?_
    refine d_write I (by rw [e]; exact True.intro) hs ⟨q, hq⟩ ⟨by omega, hd, _, (rel.put k eb rv).keeps fun c ys ec => ?_, q, es, ep, hq, h2, h3, h4, h5⟩
    rw [upd_ne (ne_of ec e fun z => nomatch z)]
    exact ec
end
theorem pe_disp1 {X : Cx} {k v : Expr} {tk tv : TE} {pos : Pos} (hu : X.A.units < cLine) (hk : PE X k tk) (hv : PE X v tv) : PE X (.Dict [some k] [v] pos) (tDisp1 tk tv) := by
  refine ⟨fun pins s σ H Q I ⟨emp, kind, told⟩ => ?_⟩
  have new := I.hok.fresh (Nat.le_refl s.heap.objs.size)
  have J : Inv X pins σ (upd H s.heap.objs.size emp) { s with heap := s.heap.push { cls := .type "dict", data := .dict #[] } } := by
    refine I.laid (t' := s.toks) (fun _ _ q => Heap.get?_push_of_some _ q) (Nat.le_refl _) ?_
    rcases kind with rfl | rfl
    · exact dk_empty s.heap I.big
    · exact dt_empty s.heap I.big
  refine wpAny_Dict_any rfl rfl (fun z => by cases z) (by show 1 ≤ 15; decide) (pairTrees_cons_walk ?_)
  refine thn (hk.run pins _ σ _ _ J (told _ new)) fun u s1 ⟨y, H1, I1, ry, q1⟩ => thn (hv.run pins s1 σ H1 _ I1 q1) fun r s2 ⟨z, H2, I2, rz, H3, g, q2⟩ => pairTrees_nil_walk ?_
  show wpAny _ _ (forIn [(u, r)] PUnit.unit _) _ _ s2
  rw [List.forIn_cons]
  refine wpAny_bind (wpAny_bind (d_set hu I2 g ry rz fun s3 I3 => wpAny_pure ?_))
  exact wpAny_pure ⟨.ref s.heap.objs.size, H3, I3, rfl, q2⟩
end DP
set_option Elab.async false
set_option linter.all false
set_option maxRecDepth 100000
set_option maxHeartbeats 8000000
namespace WK
open PySem L2 PyProof.Rows LCX K1 FV DP
open TX (sg sigs)
open PySem.W (Frag kitOne)
section
variable {α : Type} [DecidableEq α]
/-- one letter: the key behind it, and the row so far -/
def exSign (f : α → Nat → α) (key : α) (st : List α × List Int) (c : Nat) : List α × List Int :=
  if f key c ∈ st.1 then (st.1, st.2 ++ [((st.1.idxOf (f key c) : Nat) : Int)]) else (st.1 ++ [f key c], st.2 ++ [((st.1.length : Nat) : Int)])
def exAll (f : α → Nat → α) (L : W) (start : α) : Nat → List α × List (List Int)
  | 0 => ([start], [])
  | j + 1 => match (exAll f L start j).1[j]? with
    | some key => ((L.foldl (exSign f key) ((exAll f L start j).1, [])).1, (exAll f L start j).2 ++ [(L.foldl (exSign f key) ((exAll f L start j).1, [])).2])
    | none => exAll f L start j
theorem exSign_grows (f : α → Nat → α) (key : α) (st : List α × List Int) (c : Nat) : st.1 <+: (exSign f key st c).1 := by
  unfold exSign
  split
  · exact List.prefix_refl _
  · exact List.prefix_append _ _
theorem exFold_grows (f : α → Nat → α) (key : α) : ∀ (l : W) (st : List α × List Int), st.1 <+: (l.foldl (exSign f key) st).1
  | [], _ => List.prefix_refl _
  | c :: l, st => (exSign_grows f key st c).trans (exFold_grows f key l _)
theorem exAll_at {f : α → Nat → α} {L : W} {start : α} {j : Nat} {key : α} (h : (exAll f L start j).1[j]? = some key) :
    exAll f L start (j + 1) = ((L.foldl (exSign f key) ((exAll f L start j).1, [])).1, (exAll f L start j).2 ++ [(L.foldl (exSign f key) ((exAll f L start j).1, [])).2]) := by
  show (match (exAll f L start j).1[j]? with | some key => _ | none => _) = _
  rw [h]
theorem exAll_stop {f : α → Nat → α} {L : W} {start : α} {j : Nat} (h : (exAll f L start j).1.length ≤ j) : ∀ m, exAll f L start (j + m) = exAll f L start j
  | 0 => rfl
  | m + 1 => by
    have ih := exAll_stop h m
    show (match (exAll f L start (j + m)).1[j + m]? with | some key => _ | none => _) = _
    rw [List.getElem?_eq_none (by rw [ih]; omega)]
    exact ih
end
/-- how keys of a kind lie in the heap, and how a dict has their numbers -/
structure Kit (α : Type) [DecidableEq α] where
  is : Hp → V → α → Prop
  keep : ∀ {H H' : Hp} {v : V} {a : α}, is H v a → (∀ b xs, H b = some (.tup xs) → H' b = some (.tup xs)) → is H' v a
  ho : List α → HO
  kind : ∀ l, (∃ kvs, ho l = .dK kvs) ∨ ∃ kvs, ho l = .dT kvs
  emp : ho [] = .dK [] ∨ ho [] = .dT []
  get : ∀ {H : Hp} {D : Addr} {l : List α} {v : V} {a : α}, H D = some (ho l) → is H v a → DGet H D v (if a ∈ l then some (.int ((l.idxOf a : Nat) : Int)) else none)
  put : ∀ {H : Hp} {D : Addr} {l : List α} {v : V} {a : α}, H D = some (ho l) → is H v a → a ∉ l → l.length < sizeLine → DPut H D v (.int ((l.length : Nat) : Int)) (upd H D (ho (l ++ [a])))
section
variable {α : Type} [DecidableEq α] {kit : Kit α} {H H' : Hp}
def Are (kit : Kit α) (H : Hp) : List V → List α → Prop
  | [], [] => True
  | v :: vs, a :: l => kit.is H v a ∧ Are kit H vs l
  | _, _ => False
theorem Are.keep : ∀ {vs : List V} {l : List α}, Are kit H vs l → (∀ b xs, H b = some (.tup xs) → H' b = some (.tup xs)) → Are kit H' vs l
  | [], [], _, _ => trivial
  | _ :: _, _ :: _, h, k => ⟨kit.keep h.1 k, h.2.keep k⟩
  | [], _ :: _, h, _ => h.elim
  | _ :: _, [], h, _ => h.elim
theorem Are.len : ∀ {vs : List V} {l : List α}, Are kit H vs l → vs.length = l.length
  | [], [], _ => rfl
  | _ :: _, _ :: _, h => congrArg Nat.succ h.2.len
  | [], _ :: _, h => h.elim
  | _ :: _, [], h => h.elim
theorem Are.snoc {v : V} {a : α} : ∀ {vs : List V} {l : List α}, Are kit H vs l → kit.is H v a → Are kit H (vs ++ [v]) (l ++ [a])
  | [], [], _, k => ⟨k, trivial⟩
  | _ :: _, _ :: _, h, k => ⟨h.1, h.2.snoc k⟩
  | [], _ :: _, h, _ => h.elim
  | _ :: _, [], h, _ => h.elim
theorem Are.get {a : α} : ∀ {vs : List V} {l : List α} {i : Nat}, Are kit H vs l → l[i]? = some a → ∃ v, vs[i]? = some v ∧ kit.is H v a
  | v :: _, b :: _, 0, h, e => ⟨v, rfl, by cases e; exact h.1⟩
  | _ :: _, _ :: _, i + 1, h, e => h.2.get (i := i) e
  | [], [], _, _, e => by cases e
  | [], _ :: _, _, h, _ => h.elim
  | _ :: _, [], _, h, _ => h.elim
end
/-- what is known of functions stays -/
def KeepsExt (H H' : Hp) : Prop := ∀ b φ, H b = some (.ext φ) → H' b = some (.ext φ)
def KeepsTup (H H' : Hp) : Prop := ∀ b xs, H b = some (.tup xs) → H' b = some (.tup xs)
theorem Same.tup' {H H' : Hp} (s : Same H H') : KeepsTup H H' := fun b _ e => s b _ e
theorem KeepsTup.trans {H H1 H2 : Hp} (a : KeepsTup H H1) (b : KeepsTup H1 H2) : KeepsTup H H2 := fun d xs e => b d xs (a d xs e)
theorem KeepsExt.trans {H H1 H2 : Hp} (a : KeepsExt H H1) (b : KeepsExt H1 H2) : KeepsExt H H2 := fun d xs e => b d xs (a d xs e)
theorem tup_upd {H : Hp} {a : Addr} {u o : HO} (h : H a = some u) (n : ∀ xs, u ≠ .tup xs) : KeepsTup H (upd H a o) := fun b xs e => by
  rw [upd_ne fun z => n xs (Option.some.inj (h.symm.trans (by rw [← z]; exact e)))]
  exact e
theorem objs_tup {H H' : Hp} {as : List Addr} {rs : List (List Int)} (o : Objs oTup H as rs) (k : KeepsTup H H') : Objs oTup H' as rs := o.to fun a _ r e => k a _ e
theorem idx_end {α : Type} [DecidableEq α] {a : α} : ∀ {l : List α}, a ∉ l → (l ++ [a]).idxOf a = l.length := by
  intro l h
  rw [List.idxOf_append, if_neg h, List.idxOf_cons_self]
  omega
end WK
set_option Elab.async false
set_option linter.all false
set_option maxRecDepth 100000
set_option maxHeartbeats 4000000
namespace WK
open PySem L2 PyProof.Rows LCX K1 FV DP
open TX (sg sigs)
end WK
set_option Elab.async false
set_option linter.all false
set_option maxRecDepth 100000
set_option maxHeartbeats 8000000
namespace WK
open PySem L2 PyProof.Rows LCX K1 FV DP
open TX (sg sigs)
open PySem.W (Frag kitOne)
abbrev sMadeI : Stmt := inClass (top 9) 0
/-- the class Box at C, the class Made at cD -/
structure TMd (K : Frag) (mg : Str → Option Value) (cD : Addr) : Prop where
  clD : Cls K cD
  nR : NoAttr K cD "rows"
  gD : mg "Made" = some (.ref cD)
  tyD : ∀ {H : Hp} {a dx : Addr} {fs : List (Str × V)}, H a = some (.ins cD dx fs) → TyOf K H (.ref a) (.ref cD)
/-- rows as the package made them stand at g -/
def RowsAt (H : Hp) (r : Addr) (tb : List (List Int)) : Prop := ∃ ts : List Addr, H r = some (.tup (ts.map V.ref)) ∧ Objs oTup H ts tb
theorem RowsAt.keep {H H' : Hp} {r : Addr} {tb : List (List Int)} (h : RowsAt H r tb) (k : KeepsTup H H') : RowsAt H' r tb := by
  obtain ⟨ts, h1, h2⟩ := h
  exact ⟨ts, k _ _ h1, objs_tup h2 k⟩
def MadeAt (cD : Addr) (H : Hp) (g : Addr) (tb : List (List Int)) : Prop := ∃ dx r : Addr, H g = some (.ins cD dx [("rows", .ref r)]) ∧ RowsAt H r tb
theorem MadeAt.same {cD : Addr} {H H' : Hp} {g : Addr} {tb : List (List Int)} (h : MadeAt cD H g tb) (s : Same H H') : MadeAt cD H' g tb := by
  obtain ⟨dx, r, h1, h2⟩ := h
  exact ⟨dx, r, s _ _ h1, h2.keep (Same.tup' s)⟩
def spMadeI (cD : Addr) : Sp := fun vs H Q _ => ∃ p dx r, vs = [.ref p, r] ∧ H p = some (.ins cD dx []) ∧ Q .non (upd H p (.ins cD dx [("rows", r)]))
section
variable {P : Program} {w : World} {K : PySem.W.Frag} {mg : Str → Option Value} {base : Heap} {cD : Addr}
theorem scDI : FnScope ["self", "rows"] ["self", "rows"] (defScope sMadeI) := ⟨rfl, rfl, rfl, by decide +kernel, rfl, by decide +kernel, by decide +kernel⟩
theorem ok_madei {f : Addr} {oc kV dc pm ct cd dV : Value} {an od : Option Addr} {sl : Array (Option Value)} (lk : K.lookup f = some ⟨oc, od, .func (PySem.W.fnOf "__init__" "Made.__init__" (defArgs sMadeI) (defBody sMadeI) (defScope sMadeI) dV kV dc pm an cd ct), sl⟩) (hcd : PySem.W.codeIn K cd "Made.__init__" = true) (M : TMd K mg cD) :
    FnOk P w K mg base CX0 1 f (PySem.W.fnOf "__init__" "Made.__init__" (defArgs sMadeI) (defBody sMadeI) (defScope sMadeI) dV kV dc pm an cd ct) ["self", "rows"] (spMadeI cD) := by
  refine fn_of lk hcd scDI (fun vs H Q E h => ?_) (fun A outer s H vs Q E hr h => ?_)
  · obtain ⟨p, dx, r, rfl, _⟩ := h
    rfl
  · obtain ⟨p, dx, r, rfl, hp, q⟩ := h
    refine ⟨_, pss_one (ps_fld (pv 0) (pv 1) rfl), ?_⟩
    exact ⟨_, rfl, _, rfl, p, cD, dx, [], rfl, hp, M.clD, M.nR, by show 0 < 1000; decide, q⟩
end
end WK
set_option Elab.async false
set_option linter.all false
set_option maxRecDepth 100000
set_option maxHeartbeats 8000000
namespace WK
open PySem L2 PyProof.Rows LCX
open PySem.W (Frag kitOne)
abbrev sIsAsc : Stmt := top 28
abbrev sIsTab : Stmt := top 29
abbrev sIsRow : Stmt := top 30
/-- a whole number, True or False -/
def isNum (v : V) : Prop := (∃ i, v = .int i) ∨ ∃ b, v = .bl b
def numB (v : V) (a b : Int) : Bool := match v with
  | .int i => decide (a ≤ i) && decide (i ≤ b)
  | _ => false
def intOf (v : V) : Int := match v with
  | .int i => i
  | _ => 0
def ascI (is : List Int) : Bool := decide (is.Pairwise (· < ·))
/-- an ascending tuple of numbers below m -/
def ascV (xs : List V) (m : Int) : Bool := (xs.map fun x => numB x 0 (m - 1)).all id && ascI (xs.map intOf)
def rowB (xs : List V) (wd m : Int) : Bool := decide ((xs.length : Int) = wd) && (xs.map fun x => numB x 0 (m - 1)).all id
/-- a table by its rows; none is a row that is no tuple -/
def tabB (rs : List (Option (List V))) (wd most : Int) : Bool := decide (1 ≤ (rs.length : Int)) && decide ((rs.length : Int) ≤ most) && (rs.map fun r => match r with
  | some xs => rowB xs wd rs.length
  | none => false).all id
/-- no tuple, as long as old things stay -/
def NT (H : Hp) (v : V) : Prop := (∃ x, v = .str x) ∨ v = .non ∨ (∃ i, v = .int i) ∨ (∃ b, v = .bl b) ∨ ∃ a xs, v = .ref a ∧ H a = some (.lst xs)
theorem NT.ext {H H' : Hp} {v : V} (h : NT H v) (s : Same H H') : NT H' v := by
  rcases h with h | h | h | h | ⟨a, xs, h, q⟩
  · exact .inl h
  · exact .inr (.inl h)
  · exact .inr (.inr (.inl h))
  · exact .inr (.inr (.inr (.inl h)))
  · exact .inr (.inr (.inr (.inr ⟨a, xs, h, s _ _ q⟩)))
theorem NT.ty {K : Frag} {H : Hp} {v : V} (h : NT H v) : ∃ t, TyX K H v (.type t) ∧ kitOne K (.type t) (.type "tuple") = some false := by
  rcases h with ⟨x, rfl⟩ | rfl | ⟨i, rfl⟩ | ⟨b, rfl⟩ | ⟨a, xs, rfl, q⟩
  · exact ⟨_, .base (.str _), kit_ty (by decide +kernel)⟩
  · exact ⟨_, .base .non, kit_ty (by decide +kernel)⟩
  · exact ⟨_, .base (.int _), kit_ty (by decide +kernel)⟩
  · exact ⟨_, .base (.bl _), kit_ty (by decide +kernel)⟩
  · exact ⟨_, .base (.lst q), kit_ty (by decide +kernel)⟩
theorem tyT {K : Frag} {H : Hp} {a : Addr} {xs : List V} (h : SqT K H a xs) : TyX K H (.ref a) (.type "tuple") := by
  rcases h with (h | ⟨o, h⟩) | ⟨o, its, n, h1, h2, _⟩
  · exact .base (.tup h)
  · exact .fTuple h
  · exact .kTuple h1 h2
/-- a row of a table -/
def RowV (K : Frag) (H : Hp) (v : V) : Option (List V) → Prop
  | some xs => ∃ a, v = .ref a ∧ SqT K H a xs ∧ xs.length ≤ 100 ∧ ∀ x ∈ xs, isNum x
  | none => NT H v
theorem RowV.ext {K : Frag} {H H' : Hp} {v : V} {r : Option (List V)} (h : RowV K H v r) (s : Same H H') : RowV K H' v r := by
  cases r with
  | none => exact NT.ext h s
  | some xs =>
    obtain ⟨a, e, t, l, q⟩ := h
    exact ⟨a, e, seqT s t, l, q⟩
def spInt2 : Sp := fun vs H Q _ => ∃ v, vs = [v] ∧ ((∃ i, v = .int i ∧ Q (.bl true) H) ∨ ∃ b, v = .bl b ∧ Q (.bl false) H)
def spNum2 : Sp := fun vs H Q _ => ∃ v a b, vs = [v, .int a, .int b] ∧ isNum v ∧ Q (.bl (numB v a b)) H
def spAscT (K : Frag) : Sp := fun vs H Q _ => ∃ (a : Addr) (is : List Int), vs = [.ref a] ∧ SqT K H a (is.map V.int) ∧ is.length ≤ 100 ∧ ∀ H', Same H H' → Q (.bl (ascI is)) H'
def spIsAsc (K : Frag) : Sp := fun vs H Q _ => ∃ v m, vs = [v, .int m] ∧ ((∃ a xs, v = .ref a ∧ SqT K H a xs ∧ xs.length ≤ 100 ∧ (∀ x ∈ xs, isNum x) ∧ ∀ H', Same H H' → Q (.bl (ascV xs m)) H') ∨ (NT H v ∧ Q (.bl false) H))
def spRow (K : Frag) : Sp := fun vs H Q _ => ∃ v wd m r, vs = [v, .int wd, .int m] ∧ RowV K H v r ∧ ∀ H', Same H H' → Q (.bl (match r with
  | some xs => rowB xs wd m
  | none => false)) H'
/-- its rows are these -/
def Rows (K : Frag) (H : Hp) : List V → List (Option (List V)) → Prop
  | [], [] => True
  | x :: xs, r :: rs => RowV K H x r ∧ Rows K H xs rs
  | _, _ => False
def spTab (K : Frag) : Sp := fun vs H Q _ => ∃ v wd most, vs = [v, .int wd, .int most] ∧ ((∃ a xs rs, v = .ref a ∧ SqT K H a xs ∧ xs.length ≤ 100 ∧ Rows K H xs rs ∧ ∀ H', Same H H' → Q (.bl (tabB rs wd most)) H') ∨ (NT H v ∧ Q (.bl false) H))
section
variable {P : Program} {w : World} {K : PySem.W.Frag} {mg : Str → Option Value} {base : Heap}
theorem ok_int2 {f : Addr} {fd : FuncData} (F : Fun K "is_integer" "is_integer" sIsInt f fd) (T : TN mg) : FnOk P w K mg base CX0 1 f fd ["value"] spInt2 := by
  refine F.ok scII (fun vs H Q E h => ?_) (fun cdv A outer s H vs Q E hr h => ?_)
  · obtain ⟨v, rfl, _⟩ := h
    rfl
  · obtain ⟨v, rfl, h⟩ := h
    refine ⟨_, pss_one (ps_ret (pe_and (pe_callB call_isi (by rfl) T.isi (by decide +kernel) (pa_cons (pv 0) (pa_cons (pe_ty "int" T.int (by decide +kernel)) pa_nil)))
      (pe_one (pe_not (pe_callB call_isi (by rfl) T.isi (by decide +kernel) (pa_cons (pv 0) (pa_cons (pe_ty "bool" T.bool (by decide +kernel)) pa_nil))))))), ?_⟩
    rcases h with ⟨i, rfl, q⟩ | ⟨b, rfl, q⟩
    · refine ⟨_, rfl, _, _, _, _, true, rfl, .ty "int", .base (.int _), kit_ty (by decide +kernel), true, rfl, ?_⟩
      exact ⟨_, rfl, _, _, _, _, false, rfl, .ty "bool", .base (.int _), kit_ty (by decide +kernel), false, rfl, q⟩
    · refine ⟨_, rfl, _, _, _, _, true, rfl, .ty "int", .base (.bl _), kit_ty (by decide +kernel), true, rfl, ?_⟩
      exact ⟨_, rfl, _, _, _, _, true, rfl, .ty "bool", .base (.bl _), kit_ty (by decide +kernel), true, rfl, q⟩
theorem ok_num2 {f g : Addr} {fd gd : FuncData} (F : Fun K "is_number" "is_number" sIsNum f fd) (T : TN mg) (A0 : Fn K mg "is_integer" sIsInt ["value"] g gd) : FnOk P w K mg base CX0 2 f fd ["value", "least", "most"] spNum2 := by
  have G0 : FnOk P w K mg base CX0 1 g gd ["value"] spInt2 := ok_int2 A0.F T
  refine F.ok scIN (fun vs H Q E h => ?_) (fun cdv A outer s H vs Q E hr h => ?_)
  · obtain ⟨v, a, b, rfl, _⟩ := h
    rfl
  · obtain ⟨v, a, b, rfl, hn, q⟩ := h
    refine ⟨_, pss_one (ps_ret (pe_and (pe_call G0 hr rfl A0.g A0.F.kp A0.b .nil pass0 (pa_cons (pv 0) pa_nil)) (pe_one (pe_chain op_le op_le (pv 1) (pv 0) (pv 2))))), ?_⟩
    rcases hn with ⟨i, rfl⟩ | ⟨c, rfl⟩
    · refine ⟨_, rfl, _, rfl, .inl ⟨i, rfl, true, rfl, ?_⟩⟩
      refine ⟨_, rfl, _, rfl, _, _, rfl, rfl, _, rfl, ?_⟩
      have q : Q (.bl (decide (a ≤ i) && decide (i ≤ b))) H := q
      by_cases h1 : a ≤ i
      · rw [decide_eq_true h1] at q ⊢
        exact ⟨_, rfl, _, _, rfl, rfl, q⟩
      · rw [decide_eq_false h1] at q ⊢
        exact q
    · exact ⟨_, rfl, _, rfl, .inr ⟨c, rfl, false, rfl, q⟩⟩
theorem scIA : FnScope ["value", "many", "part"] ["value", "many"] (defScope sIsAsc) := ⟨rfl, rfl, rfl, by decide +kernel, rfl, by decide +kernel, by decide +kernel⟩
theorem scRw : FnScope ["value", "width", "many", "after"] ["value", "width", "many"] (defScope sIsRow) := ⟨rfl, rfl, rfl, by decide +kernel, rfl, by decide +kernel, by decide +kernel⟩
theorem scTb : FnScope ["value", "width", "most", "row"] ["value", "width", "most"] (defScope sIsTab) := ⟨rfl, rfl, rfl, by decide +kernel, rfl, by decide +kernel, by decide +kernel⟩
/-- a row's numbers -/
theorem ok_row {f g : Addr} {fd gd : FuncData} (F : Fun K "_is_row" "_is_row" sIsRow f fd) (T : TN mg) (A1 : Fn K mg "is_number" sIsNum ["value", "least", "most"] g gd) (G1 : FnOk P w K mg base CX0 2 g gd ["value", "least", "most"] spNum2) : FnOk P w K mg base CX0 3 f fd ["value", "width", "many"] (spRow K) := by
  refine F.ok scRw (fun vs H Q E h => ?_) (fun cdv A outer s H vs Q E hr h => ?_)
  · obtain ⟨v, wd, m, r, rfl, _⟩ := h
    rfl
  · obtain ⟨v, wd, m, r, rfl, hv, q⟩ := h
    refine ⟨_, pss_cons (ps_if (PW.pt (pw_or (pt_not (pt_val (pe_callB call_isi (by rfl) T.isi (by decide +kernel) (pa_cons (pv 0) (pa_cons (pe_ty "tuple" T.tuple (by decide +kernel)) pa_nil)))))
        (pw_or1 (pt_cmpR op_ne (pe_callB call_len_seq (by rfl) T.len PySem.boot_len (pa_cons (pv 0) pa_nil)) (pv 1) (nomark _))))) (pss_one (ps_ret pe_bl)) pss_nil)
      (pss_one (ps_ret (pe_callB (cr_all rfl) (by rfl) T.all (by decide +kernel) (pa_cons (pe_lc (own := [("after", 3)]) (g := gName 3) (tt := tYes) rfl scRw.nd (pi_tup (pv 0))
        (blkOk_by (own := [("after", 3)]) (N := ["value", "width", "many", "after"]) (sc := defScope sIsRow) (by decide +kernel)) (fun _ _ _ _ _ => pg_name (i := 3) scRw.nd rfl (Or.inl rfl)) (fun _ _ _ _ _ => pts_nil)
        (fun _ _ _ _ _ => pe_call G1 hr rfl A1.g A1.F.kp A1.b .nil pass0 (pa_cons (pv 3) (pa_cons pe_int (pa_cons (pe_op op_sub (pv 2) pe_int) pa_nil))))) pa_nil)))), ?_⟩
    cases r with
    | none =>
      obtain ⟨t, ty, hk⟩ := NT.ty (K := K) hv
      exact ⟨_, rfl, _, _, _, _, false, rfl, .ty "tuple", ty, hk, false, rfl, q _ (Same.refl H)⟩
    | some xs =>
      obtain ⟨a, rfl, hT, hl, hx⟩ := hv
      refine ⟨_, rfl, _, _, _, _, true, rfl, .ty "tuple", tyT hT, kit_ty (by decide +kernel), true, rfl, ?_⟩
      refine ⟨_, rfl, a, xs, rfl, .inr hT, _, rfl, rfl, _, rfl, ?_⟩
      have q : ∀ H', Same H H' → Q (.bl (rowB xs wd m)) H' := q
      by_cases hw : (xs.length : Int) = wd
      · have e1 : (!decide (V.int (xs.length : Int) = V.int wd)) = false := by rw [decide_eq_true (by rw [hw])] <;> rfl
        rw [e1]
        refine ⟨_, rfl, a, rfl, ⟨_, hT⟩, fun D hD => ?_⟩
        have hT' : SqT K H a (xs.map id) := by rw [List.map_id]; exact hT
        refine same_tup (val := id) (r := fun x => [V.bl (numB x 0 (m - 1))]) hD hT' (by rw [sizeLine_eq]; omega) (fun _ => Nat.le_refl _) (fun x hx' H1 acc s1 hacc hlen N hN => ?_) (fun H1 s1 hd => ?_)
        · exact ⟨rfl, _, rfl, _, rfl, _, _, rfl, rfl, x, _, _, rfl, hx x hx', acc, hacc, hlen, hN _ (same_at s1 hD) upd_same⟩
        · have e : xs.flatMap (fun x => [V.bl (numB x 0 (m - 1))]) = (xs.map fun x => numB x 0 (m - 1)).map V.bl := by rw [flat_map, List.map_map] <;> rfl
          rw [e] at hd
          refine ⟨D, _, rfl, SqL.of hd, ?_⟩
          have q2 := q _ s1
          unfold rowB at q2
          rw [decide_eq_true hw] at q2
          exact q2
      · have e1 : (!decide (V.int (xs.length : Int) = V.int wd)) = true := by rw [decide_eq_false (fun z => hw (V.int.inj z))] <;> rfl
        rw [e1]
        have q2 := q _ (Same.refl H)
        unfold rowB at q2
        rw [decide_eq_false hw] at q2
        exact q2
def adjI (w : List Int) (i : Nat) : Bool := decide (w.getD i 0 < w.getD (i + 1) 0)
theorem adjI_asc : ∀ w : List Int, ((List.range (w.length - 1)).map (adjI w)).all id = ascI w
  | [] => by simp [ascI]
  | [a] => by simp [ascI]
  | a :: b :: r => by
    have ih := adjI_asc (b :: r)
    have e : (a :: b :: r).length - 1 = (b :: r).length - 1 + 1 := by simp
    rw [e, List.range_succ_eq_map, List.map_cons, List.all_cons, List.map_map]
    have e2 : (adjI (a :: b :: r) ∘ Nat.succ) = adjI (b :: r) := by
      funext i
      rfl
    rw [e2, ih]
    show (decide (a < b) && ascI (b :: r)) = ascI (a :: b :: r)
    unfold ascI
    rw [← Bool.decide_and]
    refine decide_eq_decide.mpr ⟨fun ⟨h1, h2⟩ => ?_, fun h => ?_⟩
    · refine List.pairwise_cons.mpr ⟨fun y hy => ?_, h2⟩
      rcases List.mem_cons.mp hy with z | z
      · omega
      · have := (List.pairwise_cons.mp h2).1 y z
        omega
    · obtain ⟨h1, h2⟩ := List.pairwise_cons.mp h
      exact ⟨h1 b List.mem_cons_self, h2⟩
theorem ok_ascT {f : Addr} {fd : FuncData} (F : Fun K "ascends" "ascends" sAsc f fd) (T : TN mg) : FnOk P w K mg base CX0 1 f fd ["values"] (spAscT K) := by
  refine F.ok scAs (fun vs H Q E h => ?_) (fun cdv A outer s H vs Q E hr h => ?_)
  · obtain ⟨w, is, rfl, _⟩ := h
    rfl
  · obtain ⟨a, is, rfl, hT, hl, q⟩ := h
    refine ⟨_, pss_one (ps_ret (pe_callB (cr_all rfl) (by rfl) T.all (by decide +kernel) (pa_cons (pe_lc (own := [("at", 1)]) (g := gName 1) (tt := tYes) (te := tOp (rI0 fun i j => .bl (decide (i < j))) (tOp (rIxT K) (tVar 0) (tVar 1)) (tOp (rIxT K) (tVar 0) (tOp (rI0 fun i j => .int (i + j)) (tVar 1) (tC (.int 1))))) rfl scAs.nd
      (pi_range1 rfl T.rng (pa_cons (pe_op op_sub (pe_callB call_len_seq (by rfl) T.len PySem.boot_len (pa_cons (pv 0) pa_nil)) pe_int) pa_nil))
      (blkOk_by (own := [("at", 1)]) (N := ["values", "at"]) (sc := defScope sAsc) (by decide +kernel)) (fun _ _ _ _ _ => pg_name (i := 1) scAs.nd rfl (Or.inl rfl)) (fun _ _ _ _ _ => pts_nil)
      (fun _ _ _ _ _ => pe_cmpR op_lt (pe_ix ix_tup (pv 0) (pv 1) (fun _ _ => rfl)) (pe_ix ix_tup (pv 0) (pe_op op_add (pv 1) pe_int) (fun _ _ => rfl)) (nomark _))) pa_nil))), ?_⟩
    have hl2 : ((is.map V.int).length : Int) ≤ 100 := by rw [List.length_map]; omega
    refine ⟨_, rfl, a, _, rfl, .inr hT, _, _, rfl, rfl, _, rfl, (by omega), (by omega), fun D hD => ?_⟩
    have e1 : (((is.map V.int).length : Int) - 1).toNat = is.length - 1 := by rw [List.length_map]; omega
    rw [e1]
    refine lc_range (lo := 0) (n := is.length - 1) (fun i H1 => Same H H1 ∧ H1 D = some (.lst (((List.range i).map (adjI is)).map V.bl))) ⟨same_upd hD, upd_same⟩ ?_ ?_
    · rintro i H1 hi ⟨s1, hd⟩
      have at1 : ∀ j : Nat, j < is.length → atI (is.map V.int) (j : Int) = some (.int (is.getD j 0)) := fun j hj => by
        refine atI_nat ?_
        rw [List.getElem?_map, List.getD_eq_getElem?_getD, List.getElem?_eq_getElem hj] <;> rfl
      have e2 : (0 + (i : Int)) = ((i : Nat) : Int) := by omega
      have e3 : (0 + (i : Int) + 1) = ((i + 1 : Nat) : Int) := by omega
      refine ⟨rfl, _, rfl, _, rfl, a, _, _, _, rfl, rfl, seqT s1 hT, (by rw [e2]; exact at1 i (by omega)), _, rfl, _, rfl, _, _, rfl, rfl, a, _, _, _, rfl, rfl, seqT s1 hT, (by rw [e3]; exact at1 (i + 1) (by omega)), _, _, rfl, rfl, _, hd, ?_, same_at s1 hD, ?_⟩
      · rw [List.length_map, List.length_map, List.length_range, sizeLine_eq]
        omega
      · rw [upd_same, List.range_succ, List.map_append, List.map_append] <;> rfl
    · rintro H1 ⟨s1, hd⟩
      refine ⟨D, _, rfl, SqL.of hd, ?_⟩
      rw [adjI_asc]
      exact q _ s1
theorem ok_isasc {f g c : Addr} {fd gd cd : FuncData} (F : Fun K "is_ascending" "is_ascending" sIsAsc f fd) (T : TN mg) (A1 : Fn K mg "is_number" sIsNum ["value", "least", "most"] g gd) (G1 : FnOk P w K mg base CX0 2 g gd ["value", "least", "most"] spNum2)
    (A2 : Fn K mg "ascends" sAsc ["values"] c cd) (G2 : FnOk P w K mg base CX0 1 c cd ["values"] (spAscT K)) : FnOk P w K mg base CX0 3 f fd ["value", "many"] (spIsAsc K) := by
  have hX : ∀ {k}, Room 2 k → Room 1 k := fun h => h.mono (by decide)
  refine F.ok scIA (fun vs H Q E h => ?_) (fun cdv A outer s H vs Q E hr h => ?_)
  · obtain ⟨v, m, rfl, _⟩ := h
    rfl
  · obtain ⟨v, m, rfl, h⟩ := h
    refine ⟨_, pss_cons (ps_if (pt_not (pt_val (pe_callB call_isi (by rfl) T.isi (by decide +kernel) (pa_cons (pv 0) (pa_cons (pe_ty "tuple" T.tuple (by decide +kernel)) pa_nil))))) (pss_one (ps_ret pe_bl)) pss_nil)
      (pss_one (ps_ret (pe_and (pe_callB (cr_all rfl) (by rfl) T.all (by decide +kernel) (pa_cons (pe_lc (own := [("part", 2)]) (g := gName 2) (tt := tYes) rfl scIA.nd (pi_tup (pv 0))
        (blkOk_by (own := [("part", 2)]) (N := ["value", "many", "part"]) (sc := defScope sIsAsc) (by decide +kernel)) (fun _ _ _ _ _ => pg_name (i := 2) scIA.nd rfl (Or.inl rfl)) (fun _ _ _ _ _ => pts_nil)
        (fun _ _ _ _ _ => pe_call G1 hr rfl A1.g A1.F.kp A1.b .nil pass0 (pa_cons (pv 2) (pa_cons pe_int (pa_cons (pe_op op_sub (pv 1) pe_int) pa_nil))))) pa_nil))
        (pe_one (pe_call G2 (hX hr) rfl A2.g A2.F.kp A2.b .nil pass0 (pa_cons (pv 0) pa_nil)))))), ?_⟩
    rcases h with ⟨a, xs, rfl, hT, hl, hx, q⟩ | ⟨hn, q⟩
    · refine ⟨_, rfl, _, _, _, _, true, rfl, .ty "tuple", tyT hT, kit_ty (by decide +kernel), true, rfl, ?_⟩
      refine ⟨_, rfl, a, rfl, ⟨_, hT⟩, fun D hD => ?_⟩
      have hT' : SqT K H a (xs.map id) := by rw [List.map_id]; exact hT
      refine same_tup (val := id) (r := fun x => [V.bl (numB x 0 (m - 1))]) hD hT' (by rw [sizeLine_eq]; omega) (fun _ => Nat.le_refl _) (fun x hx' H1 acc s1 hacc hlen N hN => ?_) (fun H1 s1 hd => ?_)
      · exact ⟨rfl, _, rfl, _, rfl, _, _, rfl, rfl, x, _, _, rfl, hx x hx', acc, hacc, hlen, hN _ (same_at s1 hD) upd_same⟩
      · have e : xs.flatMap (fun x => [V.bl (numB x 0 (m - 1))]) = (xs.map fun x => numB x 0 (m - 1)).map V.bl := by rw [flat_map, List.map_map] <;> rfl
        rw [e] at hd
        refine ⟨D, _, rfl, SqL.of hd, ?_⟩
        unfold ascV at q
        cases e2 : (xs.map fun x => numB x 0 (m - 1)).all id with
        | false =>
          rw [e2] at q
          exact ⟨false, rfl, q _ s1⟩
        | true =>
          rw [e2] at q
          have e3 : xs = (xs.map intOf).map V.int := by
            rw [List.map_map]
            refine (List.map_id xs).symm.trans (List.map_congr_left fun x hx' => ?_)
            have h4 := List.all_eq_true.mp e2 _ (List.mem_map.mpr ⟨x, hx', rfl⟩)
            rcases hx x hx' with ⟨i, rfl⟩ | ⟨b, rfl⟩
            · rfl
            · cases h4
          refine ⟨true, rfl, _, rfl, a, xs.map intOf, rfl, by rw [← e3]; exact seqT s1 hT, by rw [List.length_map]; exact hl, fun H2 s2 => ?_⟩
          exact q _ (s1.trans s2)
    · obtain ⟨t, ty, hk⟩ := NT.ty (K := K) hn
      exact ⟨_, rfl, _, _, _, _, false, rfl, .ty "tuple", ty, hk, false, rfl, q⟩
theorem Rows.ext {H H' : Hp} (s : Same H H') : ∀ {xs : List V} {rs : List (Option (List V))}, Rows K H xs rs → Rows K H' xs rs
  | [], [], _ => trivial
  | _ :: _, _ :: _, h => ⟨h.1.ext s, h.2.ext s⟩
  | [], _ :: _, h => h.elim
  | _ :: _, [], h => h.elim
theorem Rows.len {H : Hp} : ∀ {xs : List V} {rs : List (Option (List V))}, Rows K H xs rs → xs.length = rs.length
  | [], [], _ => rfl
  | _ :: _, _ :: _, h => congrArg Nat.succ h.2.len
  | [], _ :: _, h => h.elim
  | _ :: _, [], h => h.elim
theorem Rows.mem {H : Hp} : ∀ {xs : List V} {rs : List (Option (List V))}, Rows K H xs rs → ∀ p ∈ xs.zip rs, RowV K H p.1 p.2
  | [], [], _, _, hp => (List.not_mem_nil hp).elim
  | _ :: _, _ :: _, h, p, hp => (List.mem_cons.mp hp).elim (fun e => e ▸ h.1) fun z => h.2.mem p z
  | [], _ :: _, h, _, _ => h.elim
  | _ :: _, [], h, _, _ => h.elim
abbrev rLn (K : Frag) : List V → Hp → VK → Prop := fun xs H Q => ∃ p ys, xs = [.ref p] ∧ (SqL K H p ys ∨ SqT K H p ys) ∧ Q (.int ys.length) H
def rowOk (wd m : Int) : Option (List V) → Bool
  | some xs => rowB xs wd m
  | none => false
theorem ok_table {f g : Addr} {fd gd : FuncData} (F : Fun K "is_table" "is_table" sIsTab f fd) (T : TN mg) (A1 : Fn K mg "_is_row" sIsRow ["value", "width", "many"] g gd) (G1 : FnOk P w K mg base CX0 3 g gd ["value", "width", "many"] (spRow K)) :
    FnOk P w K mg base CX0 4 f fd ["value", "width", "most"] (spTab K) := by
  refine F.ok scTb (fun vs H Q E h => ?_) (fun cdv A outer s H vs Q E hr h => ?_)
  · obtain ⟨v, wd, m, rfl, _⟩ := h
    rfl
  · obtain ⟨v, wd, m, rfl, h⟩ := h
    refine ⟨_, pss_cons (ps_if (PW.pt (pw_or (pt_not (pt_val (pe_callB call_isi (by rfl) T.isi (by decide +kernel) (pa_cons (pv 0) (pa_cons (pe_ty "tuple" T.tuple (by decide +kernel)) pa_nil)))))
        (pw_or1 (pt_not (pt_chain op_le op_le pe_int (pe_callB call_len_seq (by rfl) T.len PySem.boot_len (pa_cons (pv 0) pa_nil)) (pv 2)))))) (pss_one (ps_ret pe_bl)) pss_nil)
      (pss_one (ps_ret (pe_callB (cr_all rfl) (by rfl) T.all (by decide +kernel) (pa_cons (pe_lc (own := [("row", 3)]) (g := gName 3) (tt := tYes)
        (te := tCall (spRow K) [] E0 (tCons (tVar 3) (tCons (tVar 1) (tCons (tCB (rLn K) (tCons (tVar 0) tNil)) tNil)))) rfl scTb.nd (pi_tup (pv 0))
        (blkOk_by (own := [("row", 3)]) (N := ["value", "width", "most", "row"]) (sc := defScope sIsTab) (by decide +kernel)) (fun _ _ _ _ _ => pg_name (i := 3) scTb.nd rfl (Or.inl rfl)) (fun _ _ _ _ _ => pts_nil)
        (fun _ _ _ _ _ => pe_call G1 hr rfl A1.g A1.F.kp A1.b .nil pass0 (pa_cons (pv 3) (pa_cons (pv 1) (pa_cons (pe_callB call_len_seq (by rfl) T.len PySem.boot_len (pa_cons (pv 0) pa_nil)) pa_nil))))) pa_nil)))), ?_⟩
    rcases h with ⟨a, xs, rs, rfl, hT, hl, hR, q⟩ | ⟨hn, q⟩
    · refine ⟨_, rfl, _, _, _, _, true, rfl, .ty "tuple", tyT hT, kit_ty (by decide +kernel), true, rfl, ?_⟩
      have hlen := hR.len
      have q0 : ∀ H', Same H H' → Q (.bl (decide (1 ≤ (xs.length : Int)) && decide ((xs.length : Int) ≤ m) && (rs.map (rowOk wd xs.length)).all id)) H' := fun H' s => by
        have e : tabB rs wd m = (decide (1 ≤ (xs.length : Int)) && decide ((xs.length : Int) ≤ m) && (rs.map (rowOk wd xs.length)).all id) := by
          unfold tabB
          rw [hlen]
          rfl
        rw [← e]
        exact q H' s
      refine ⟨_, rfl, a, xs, rfl, .inr hT, _, _, rfl, rfl, _, rfl, ?_⟩
      by_cases h1 : 1 ≤ (xs.length : Int)
      · rw [decide_eq_true h1] at q0 ⊢
        refine ⟨_, rfl, _, _, rfl, rfl, _, rfl, ?_⟩
        by_cases h2 : (xs.length : Int) ≤ m
        · rw [decide_eq_true h2] at q0 ⊢
          refine ⟨_, rfl, a, rfl, ⟨_, hT⟩, fun D hD => ?_⟩
          have hT' : SqT K H a ((xs.zip rs).map (·.1)) := by rw [List.map_fst_zip (Nat.le_of_eq hlen)]; exact hT
          have hz : (xs.zip rs).length < sizeLine := by rw [List.length_zip, sizeLine_eq]; omega
          refine same_tup (l := xs.zip rs) (val := (·.1)) (r := fun p => [V.bl (rowOk wd xs.length p.2)]) hD hT' hz (fun _ => Nat.le_refl _) (fun p hp H1 acc s1 hacc hlen1 N hN => ?_) (fun H1 s1 hd => ?_)
          · refine ⟨rfl, _, rfl, _, rfl, _, rfl, a, xs, rfl, .inr (seqT s1 hT), p.1, _, _, p.2, rfl, (hR.mem p hp).ext s1, fun H2 s2 => ?_⟩
            refine ⟨acc, s2 _ _ hacc, hlen1, hN _ (same_at (s1.trans s2) hD) ?_⟩
            rw [upd_same]
            cases p.2 <;> rfl
          · have e : (xs.zip rs).flatMap (fun p => [V.bl (rowOk wd xs.length p.2)]) = (rs.map (rowOk wd xs.length)).map V.bl := by
              rw [flat_map, List.map_map]
              conv => rhs; rw [← List.map_snd_zip (l₁ := xs) (l₂ := rs) (Nat.le_of_eq hlen.symm)]
              rw [List.map_map] <;> rfl
            rw [e] at hd
            exact ⟨D, _, rfl, SqL.of hd, q0 _ s1⟩
        · rw [decide_eq_false h2] at q0 ⊢
          exact q0 _ (Same.refl H)
      · rw [decide_eq_false h1] at q0 ⊢
        exact ⟨false, rfl, q0 _ (Same.refl H)⟩
    · obtain ⟨t, ty, hk⟩ := NT.ty (K := K) hn
      exact ⟨_, rfl, _, _, _, _, false, rfl, .ty "tuple", ty, hk, false, rfl, q⟩
end
end WK
set_option Elab.async false
set_option linter.all false
set_option maxRecDepth 100000
set_option maxHeartbeats 8000000
namespace WK
open PySem L2 PyProof.Rows LCX
open PySem.W (Frag kitOne)
abbrev sAct : Stmt := top 58
abbrev sLTab : Stmt := top 59
abbrev sLMac : Stmt := top 60
theorem noD {H H' : Hp} {p D : Addr} (b : But p H H') (h : H' D = none) (hD : DiceAt H' p) : H D = none := but_free b h (hD.ne h)
/-- a list of drawn numbers: the dice roll at each turn -/
theorem rolls {g : TG} {tt : TT} {te : TE} {vs : List Nat} {σ : L2.St} {p D : Addr} {H : Hp} {n : Nat} {Qd : Hp → Prop} (good : Int → Prop) (hn : n < sizeLine) (hD : DiceAt H p) (hd : H D = none)
    (hs : ∀ i : Nat, i < n → ∀ (H3 : Hp) (ns : List Int), DiceAt H3 p → H3 D = some (.lst (ns.map V.int)) → ns.length = i → ∀ N : Hp → Prop, (∀ (k : Int) (H4 : Hp), good k → DiceAt H4 p → But p H3 H4 → N (upd H4 D (.lst (ns.map V.int ++ [V.int k])))) →
      Turn g tt te vs σ D (.int (0 + i)) H3 N)
    (hq : ∀ (H3 : Hp) (ns : List Int), DiceAt H3 p → But p H H3 → H3 D = some (.lst (ns.map V.int)) → ns.length = n → (∀ k ∈ ns, good k) → Qd H3) : Went (Itr 0 n) g tt te vs σ D H Qd := by
  have Dp := hD.ne hd
  refine lc_range (lo := 0) (n := n) (fun i H3 => DiceAt H3 p ∧ But p H H3 ∧ ∃ ns : List Int, ns.length = i ∧ (∀ k ∈ ns, good k) ∧ H3 D = some (.lst (ns.map V.int))) ⟨hD.new hd, but_two (But.refl p H) hd, [], rfl, fun k hk => (nomatch hk), upd_same⟩ ?_ ?_
  · rintro i H3 hi ⟨hD3, hB3, ns, hl, hg, h3⟩
    refine hs i hi H3 ns hD3 h3 hl _ fun k H4 hk hD4 hB4 => ⟨hD4.keep fun o e => by rw [upd_ne (Ne.symm Dp)]; exact e, but_at (hB3.trans hB4) hd, ns ++ [k], ?_, ?_, ?_⟩
    · rw [List.length_append, hl] <;> rfl
    · intro j hj
      rcases List.mem_append.mp hj with z | z
      · exact hg j z
      · rw [List.mem_singleton.mp z]
        exact hk
    · rw [upd_same, List.map_append] <;> rfl
  · rintro H3 ⟨hD3, hB3, ns, hl, hg, h3⟩
    exact hq H3 ns hD3 hB3 h3 hl hg
theorem rgV_bel {n : Int} (h : 0 ≤ n) : ∃ ns : List Int, rgV 0 n = ns.map V.int ∧ (ns.length : Int) = n ∧ Bel n ns := by
  refine ⟨(List.range (n - 0).toNat).map fun i => 0 + ((i : Nat) : Int), by rw [List.map_map] <;> rfl, by rw [List.length_map, List.length_range]; omega, fun i hi => ?_⟩
  obtain ⟨j, hj, rfl⟩ := List.mem_map.mp hi
  have := List.mem_range.mp hj
  omega
def spAct : Sp := fun vs H Q _ => ∃ (p : Addr) (n s : Int), vs = [.ref p, .int n, .int s] ∧ DiceAt H p ∧ 1 ≤ n ∧ n ≤ 60 ∧ ∀ (l : Addr) (ns : List Int) (H' : Hp), H l = none → l ≠ p → DiceAt H' p → But p H H' → H' l = some (.lst (ns.map V.int)) → (ns.length : Int) = n → Bel n ns → Q (.ref l) H'
abbrev NAc : List Str := ["_law_dice_here", "_law_size", "_law_sort", "_law_spot", "_law_by", "_law_found", "_law_one", "_law_other", "_law_place"]
section
variable {P : Program} {w : World} {K : PySem.W.Frag} {mg : Str → Option Value} {base : Heap} {fR fO fA fT : Addr} {dR dO dA dT : FuncData}
theorem scAc : FnScope NAc ["_law_dice_here", "_law_size", "_law_sort"] (defScope sAct) := ⟨rfl, rfl, rfl, by decide +kernel, rfl, by decide +kernel, by decide +kernel⟩
theorem Bel.set {n b : Int} {ns : List Int} (h : Bel n ns) (hb : 0 ≤ b ∧ b < n) (j : Nat) : Bel n (ns.set j b) := fun i hi => (List.mem_or_eq_of_mem_set hi).elim (h i) fun e => e ▸ hb
theorem ixN_in {n : Nat} {i : Int} (h0 : 0 ≤ i) (h1 : i < n) : ixN n i = some i.toNat := by
  unfold ixN
  rw [if_pos h0, if_pos h1]
theorem ok_act {f : Addr} {fd : FuncData} (F : Fun K "_law_action" "_law_action" sAct f fd) (T : TN mg) (AR : Fn K mg "_law_roll" sRoll ["_law_dice_here", "_law_total"] fR dR) :
    FnOk P w K mg base CX0 2 f fd ["_law_dice_here", "_law_size", "_law_sort"] spAct := by
  have GR : FnOk P w K mg base CX0 1 fR dR ["_law_dice_here", "_law_total"] spRoll := ok_roll AR.F T.dice
  refine F.ok scAc (fun vs H Q E h => ?_) (fun cdv A outer s H vs Q E hr h => ?_)
  · obtain ⟨p, n, s, rfl, _⟩ := h
    rfl
  · obtain ⟨p, n, s, rfl, hD, h1, h60, q⟩ := h
    refine ⟨_, pss_cons (ps_if (pt_cmpR op_eq (pv 2) pe_int (nomark _)) (pss_one (ps_ret (pe_lc (own := [("_law_place", 8)]) (g := gName 8) (tt := tYes) rfl scAc.nd (pi_range1 rfl T.rng (pa_cons (pv 1) pa_nil))
        (blkOk_by (own := [("_law_place", 8)]) (N := NAc) (sc := defScope sAct) (by decide +kernel)) (fun _ _ _ _ _ => pg_name (i := 8) scAc.nd rfl (Or.inl rfl)) (fun _ _ _ _ _ => pts_nil)
        (fun _ _ _ _ _ => pe_op op_add (pv 8) (pe_call GR hr rfl AR.g AR.F.kp AR.b .nil pass0 (pa_cons (pv 0) (pa_cons (pe_op op_sub (pv 1) (pv 8)) pa_nil))))))) pss_nil)
      (pss_cons (ps_if (pt_cmpR op_eq (pv 2) pe_int (nomark _)) (pss_cons (ps_set (i := 3) scAc.nd rfl (Or.inr rfl) (pe_call GR hr rfl AR.g AR.F.kp AR.b .nil pass0 (pa_cons (pv 0) (pa_cons (pv 1) pa_nil))))
        (pss_one (ps_ret (pe_lc (own := [("_law_place", 8)]) (g := gName 8) (tt := tYes) rfl scAc.nd (pi_range1 rfl T.rng (pa_cons (pv 1) pa_nil))
        (blkOk_by (own := [("_law_place", 8)]) (N := NAc) (sc := defScope sAct) (by decide +kernel)) (fun _ _ _ _ _ => pg_name (i := 8) scAc.nd rfl (Or.inl rfl)) (fun _ _ _ _ _ => pts_nil)
        (fun _ _ _ _ _ => pv 3))))) pss_nil)
      (pss_cons (ps_if (pt_cmpR op_eq (pv 2) pe_int (nomark _)) (pss_cons (ps_set (i := 4) scAc.nd rfl (Or.inr rfl) (pe_call GR hr rfl AR.g AR.F.kp AR.b .nil pass0 (pa_cons (pv 0) (pa_cons (pv 1) pa_nil))))
        (pss_one (ps_ret (pe_lc (own := [("_law_place", 8)]) (g := gName 8) (tt := tYes) rfl scAc.nd (pi_range1 rfl T.rng (pa_cons (pv 1) pa_nil))
        (blkOk_by (own := [("_law_place", 8)]) (N := NAc) (sc := defScope sAct) (by decide +kernel)) (fun _ _ _ _ _ => pg_name (i := 8) scAc.nd rfl (Or.inl rfl)) (fun _ _ _ _ _ => pts_nil)
        (fun _ _ _ _ _ => pe_op op_mod (pe_callTy call_int1 (by rfl) T.int (by decide +kernel) (pa_cons (pe_op op_add (pv 8) (pv 4)) pa_nil)) (pv 1)))))) pss_nil)
      (pss_cons (ps_if (pt_cmpR op_eq (pv 2) pe_int (nomark _)) (pss_one (ps_ret (pe_listRg rfl rfl T.list (prg_1 rfl T.rng (pv 1))))) pss_nil)
      (pss_cons (ps_if (pt_cmpR op_eq (pv 2) pe_int (nomark _)) (pss_one (ps_ret (pe_callB cr_sorted (by rfl) T.sorted (by decide +kernel) (pa_cons (pe_lc (own := [("_law_place", 8)]) (g := gName 8) (tt := tYes) rfl scAc.nd (pi_range1 rfl T.rng (pa_cons (pv 1) pa_nil))
        (blkOk_by (own := [("_law_place", 8)]) (N := NAc) (sc := defScope sAct) (by decide +kernel)) (fun _ _ _ _ _ => pg_name (i := 8) scAc.nd rfl (Or.inl rfl)) (fun _ _ _ _ _ => pts_nil)
        (fun _ _ _ _ _ => pe_call GR hr rfl AR.g AR.F.kp AR.b .nil pass0 (pa_cons (pv 0) (pa_cons (pv 1) pa_nil)))) pa_nil)))) pss_nil)
      (pss_cons (ps_set (i := 5) scAc.nd rfl (Or.inl rfl) (pe_ifExp (pt_cmpR op_eq (pv 2) pe_int (nomark _)) (pe_lc (own := [("_law_place", 8)]) (g := gName 8) (tt := tYes) rfl scAc.nd (pi_range1 rfl T.rng (pa_cons (pv 1) pa_nil))
        (blkOk_by (own := [("_law_place", 8)]) (N := NAc) (sc := defScope sAct) (by decide +kernel)) (fun _ _ _ _ _ => pg_name (i := 8) scAc.nd rfl (Or.inl rfl)) (fun _ _ _ _ _ => pts_nil)
        (fun _ _ _ _ _ => pe_call GR hr rfl AR.g AR.F.kp AR.b .nil pass0 (pa_cons (pv 0) (pa_cons (pv 1) pa_nil)))) (pe_listRg rfl rfl T.list (prg_1 rfl T.rng (pv 1)))))
      (pss_cons (ps_if (pt_cmpR op_eq (pv 2) pe_int (nomark _)) (pss_cons (ps_par rfl scAc.nd (i := 6) (j := 7) rfl rfl (by decide) rfl rfl (pa_cons (pe_call GR hr rfl AR.g AR.F.kp AR.b .nil pass0 (pa_cons (pv 0) (pa_cons (pv 1) pa_nil))) (pa_cons (pe_call GR hr rfl AR.g AR.F.kp AR.b .nil pass0 (pa_cons (pv 0) (pa_cons (pv 1) pa_nil))) pa_nil)) (by rfl))
        (pss_one (ps_asg (pe_tup (pa_cons (pv 7) (pa_cons (pv 6) pa_nil))) (pg_tup (by rfl) (pgs_cons (pg_sub (pv 5) (pv 6) set_list (fun _ => rfl)) (pgs_cons (pg_sub (pv 5) (pv 7) set_list (fun _ => rfl)) pgs_nil)))))) pss_nil)
      (pss_one (ps_ret (pv 5))))))))), ?_⟩
    have hn : n.toNat < sizeLine := by rw [sizeLine_eq]; omega
    have hln : ∀ ns : List Int, ns.length = n.toNat → (ns.length : Int) = n := fun ns e => by omega
    have hsz : ∀ (i : Nat) (ns : List Int), ns.length = i → i < n.toNat → (ns.map V.int).length < sizeLine := fun i ns e hi => by rw [List.length_map, sizeLine_eq]; omega
    have hrg : RgOk 0 n := RgOk.of_le (by decide) (by omega) (by decide) (by omega)
    -- 1: up
    refine ⟨_, rfl, rfl, _, rfl, ite2 (fun _ => ?_) (fun _ => ?_)⟩
    · refine ⟨_, rfl, _, rfl, by omega, by omega, fun D hD2 => ?_⟩
      refine rolls (fun k => 0 ≤ k ∧ k < n) hn hD hD2 (fun i hi H3 ns hD3 h3 hli N hN => ?_) fun H3 ns hD3 hB3 h3 hl hg => q D ns H3 hD2 (hD.ne hD2) hD3 hB3 h3 (hln ns hl) hg
      refine ⟨rfl, _, rfl, _, rfl, _, rfl, _, rfl, _, _, rfl, rfl, p, _, rfl, hD3, by omega, by omega, fun r H4 r0 r1 hD4 hB4 => ⟨_, _, rfl, rfl, _, hB4 _ _ h3 (hD.ne hD2), hsz i ns hli hi, hN _ H4 ⟨by omega, by omega⟩ hD4 hB4⟩⟩
    -- 2: to one place
    refine ⟨_, rfl, rfl, _, rfl, ite2 (fun _ => ?_) (fun _ => ?_)⟩
    · refine ⟨_, rfl, _, rfl, p, _, rfl, hD, by omega, by omega, fun r H1 r0 r1 hD1 hB1 => ?_⟩
      refine ⟨_, rfl, _, rfl, by omega, by omega, fun D hD2 => ?_⟩
      refine rolls (fun k => 0 ≤ k ∧ k < n) hn hD1 hD2 (fun i hi H3 ns hD3 h3 hli N hN => ?_) fun H3 ns hD3 hB3 h3 hl hg => q D ns H3 (noD hB1 hD2 hD1) (hD1.ne hD2) hD3 (hB1.trans hB3) h3 (hln ns hl) hg
      refine ⟨rfl, _, rfl, _, h3, hsz i ns hli hi, hN _ H3 ⟨r0, r1⟩ hD3 (But.refl _ _)⟩
    -- 3: round
    refine ⟨_, rfl, rfl, _, rfl, ite2 (fun _ => ?_) (fun _ => ?_)⟩
    · refine ⟨_, rfl, _, rfl, p, _, rfl, hD, by omega, by omega, fun r H1 r0 r1 hD1 hB1 => ?_⟩
      refine ⟨_, rfl, _, rfl, by omega, by omega, fun D hD2 => ?_⟩
      refine rolls (fun k => 0 ≤ k ∧ k < n) hn hD1 hD2 (fun i hi H3 ns hD3 h3 hli N hN => ?_) fun H3 ns hD3 hB3 h3 hl hg => q D ns H3 (noD hB1 hD2 hD1) (hD1.ne hD2) hD3 (hB1.trans hB3) h3 (hln ns hl) hg
      refine ⟨rfl, _, rfl, _, rfl, _, _, rfl, rfl, .inl ⟨_, rfl, _, rfl, _, _, rfl, rfl, by omega, _, h3, hsz i ns hli hi, hN _ H3 ⟨?_, ?_⟩ hD3 (But.refl _ _)⟩⟩
      · exact Int.emod_nonneg _ (by omega)
      · exact Int.emod_lt_of_pos _ (by omega)
    -- 4: nowhere
    refine ⟨_, rfl, rfl, _, rfl, ite2 (fun _ => ?_) (fun _ => ?_)⟩
    · refine ⟨_, rfl, n, rfl, hrg, fun l hl => ?_⟩
      obtain ⟨ns, e, hl1, hb⟩ := rgV_bel (n := n) (by omega)
      exact q l ns _ hl (hD.ne hl) (hD.new hl) (but_two (But.refl _ _) hl) (by rw [upd_same, e]) hl1 hb
    -- 5: in order
    refine ⟨_, rfl, rfl, _, rfl, ite2 (fun _ => ?_) (fun _ => ?_)⟩
    · refine ⟨_, rfl, _, rfl, by omega, by omega, fun D hD2 => ?_⟩
      refine rolls (fun k => 0 ≤ k ∧ k < n) hn hD hD2 (fun i hi H3 ns hD3 h3 hli N hN => ?_) fun H3 ns hD3 hB3 h3 hl hg => ?_
      · refine ⟨rfl, _, rfl, _, rfl, p, _, rfl, hD3, by omega, by omega, fun r H4 r0 r1 hD4 hB4 => ⟨_, hB4 _ _ h3 (hD.ne hD2), hsz i ns hli hi, hN _ H4 ⟨r0, r1⟩ hD4 hB4⟩⟩
      · refine ⟨D, ns, rfl, SqL.of h3, by omega, fun ns' t hp _ ht => ?_⟩
        exact q t ns' _ (noD hB3 ht hD3) (hD3.ne ht) (hD3.new ht) (but_two hB3 ht) upd_same (by rw [hp.length_eq]; exact hln ns hl) fun k hk => hg k (hp.mem_iff.mp hk)
    -- anyhow, or in order; then perhaps two exchanged
    refine ⟨_, rfl, rfl, _, rfl, ite2 (fun _ => ?_) (fun _ => ?_)⟩
    · refine ⟨_, rfl, _, rfl, by omega, by omega, fun l hl0 => ?_⟩
      refine rolls (fun k => 0 ≤ k ∧ k < n) hn hD hl0 (fun i hi H3 ns hD3 h3 hli N hN => ?_) fun H3 ns hD3 hB3 h3 hl hg => ?_
      · exact ⟨rfl, _, rfl, _, rfl, p, _, rfl, hD3, by omega, by omega, fun r H4 r0 r1 hD4 hB4 => ⟨_, hB4 _ _ h3 (hD.ne hl0), hsz i ns hli hi, hN _ H4 ⟨r0, r1⟩ hD4 hB4⟩⟩
      have lp := hD.ne hl0
      have hlen := hln ns hl
      have hb : Bel n ns := hg
      clear hl hg
      refine ⟨_, rfl, rfl, _, rfl, ite2 (fun _ => ?_) (fun _ => ?_)⟩
      refine ⟨_, rfl, _, rfl, p, _, rfl, hD3, by omega, by omega, fun a H4 a0 a1 hD4 hB4 => ?_⟩
      refine ⟨_, rfl, _, rfl, p, _, rfl, hD4, by omega, by omega, fun b H5 b0 b1 hD5 hB5 => ?_⟩
      refine ⟨_, _, rfl, ?_⟩
      refine ⟨_, rfl, _, rfl, (by rw [sizeLine_eq]; show 2 ≤ 16777216; decide), fun t ht => ?_⟩
      have h5 : H5 l = some (.lst (ns.map V.int)) := hB5 _ _ (hB4 _ _ h3 lp) lp
      have h6 : (upd H5 t (.tup [V.int b, V.int a])) l = some (.lst (ns.map V.int)) := same_upd ht _ _ h5
      refine ⟨t, _, rfl, SqT.of upd_same, rfl, ?_⟩
      refine ⟨_, _, rfl, _, rfl, _, rfl, l, _, a, a.toNat, rfl, rfl, h6, ixN_in a0 (by rw [List.length_map]; omega), ?_⟩
      refine ⟨_, _, rfl, _, rfl, _, rfl, l, _, b, b.toNat, rfl, rfl, upd_same, ixN_in b0 (by rw [List.length_set, List.length_map]; omega), ?_⟩
      have kp : ∀ (G : Hp) (o : HO), DiceAt G p → DiceAt (upd G l o) p := fun G o hG => hG.keep fun _ e => by rw [upd_ne (Ne.symm lp)]; exact e
      refine ⟨rfl, _, rfl, q l ((ns.set a.toNat b).set b.toNat a) _ hl0 lp (kp _ _ (kp _ _ (hD5.new ht))) (but_at (but_at (but_two ((hB3.trans hB4).trans hB5) ht) hl0) hl0) (by rw [upd_same, List.map_set, List.map_set]) (by rw [List.length_set, List.length_set]; exact hlen) ((hb.set ⟨b0, b1⟩ _).set ⟨a0, a1⟩ _)⟩
      exact ⟨_, rfl, q l ns H3 hl0 lp hD3 hB3 h3 hlen hb⟩
    · refine ⟨_, rfl, n, rfl, hrg, fun l hl0 => ?_⟩
      obtain ⟨ns, e, hl1, hb⟩ := rgV_bel (n := n) (by omega)
      have lp := hD.ne hl0
      have hlen := hl1
      have hD3 : DiceAt (upd H l (.lst (rgV 0 n))) p := hD.new hl0
      have hB3 : But p H (upd H l (.lst (rgV 0 n))) := but_two (But.refl _ _) hl0
      have h3 : (upd H l (.lst (rgV 0 n))) l = some (.lst (ns.map V.int)) := by rw [upd_same, e]
      clear hl1 e
      generalize upd H l (.lst (rgV 0 n)) = H3 at hD3 hB3 h3 ⊢
      refine ⟨_, rfl, rfl, _, rfl, ite2 (fun _ => ?_) (fun _ => ?_)⟩
      refine ⟨_, rfl, _, rfl, p, _, rfl, hD3, by omega, by omega, fun a H4 a0 a1 hD4 hB4 => ?_⟩
      refine ⟨_, rfl, _, rfl, p, _, rfl, hD4, by omega, by omega, fun b H5 b0 b1 hD5 hB5 => ?_⟩
      refine ⟨_, _, rfl, ?_⟩
      refine ⟨_, rfl, _, rfl, (by rw [sizeLine_eq]; show 2 ≤ 16777216; decide), fun t ht => ?_⟩
      have h5 : H5 l = some (.lst (ns.map V.int)) := hB5 _ _ (hB4 _ _ h3 lp) lp
      have h6 : (upd H5 t (.tup [V.int b, V.int a])) l = some (.lst (ns.map V.int)) := same_upd ht _ _ h5
      refine ⟨t, _, rfl, SqT.of upd_same, rfl, ?_⟩
      refine ⟨_, _, rfl, _, rfl, _, rfl, l, _, a, a.toNat, rfl, rfl, h6, ixN_in a0 (by rw [List.length_map]; omega), ?_⟩
      refine ⟨_, _, rfl, _, rfl, _, rfl, l, _, b, b.toNat, rfl, rfl, upd_same, ixN_in b0 (by rw [List.length_set, List.length_map]; omega), ?_⟩
      have kp : ∀ (G : Hp) (o : HO), DiceAt G p → DiceAt (upd G l o) p := fun G o hG => hG.keep fun _ e => by rw [upd_ne (Ne.symm lp)]; exact e
      refine ⟨rfl, _, rfl, q l ((ns.set a.toNat b).set b.toNat a) _ hl0 lp (kp _ _ (kp _ _ (hD5.new ht))) (but_at (but_at (but_two ((hB3.trans hB4).trans hB5) ht) hl0) hl0) (by rw [upd_same, List.map_set, List.map_set]) (by rw [List.length_set, List.length_set]; exact hlen) ((hb.set ⟨b0, b1⟩ _).set ⟨a0, a1⟩ _)⟩
      exact ⟨_, rfl, q l ns H3 hl0 lp hD3 hB3 h3 hlen hb⟩
end
end WK
set_option Elab.async false
set_option linter.all false
set_option maxRecDepth 100000
set_option maxHeartbeats 8000000
namespace WK
open PySem L2 PyProof.Rows LCX K1
open TX (sg sigs)
open PySem.W (Frag kitOne)
abbrev oLst (r : List Int) : HO := .lst (r.map V.int)
/-- a plain table at l: a list of tuples -/
def PTab (H : Hp) (l : Addr) (tb : List (List Int)) : Prop := ∃ as, H l = some (.lst (as.map V.ref)) ∧ Objs oTup H as tb
/-- a table of n rows, each of wd numbers below n -/
structure TabOk (tb : List (List Int)) (wd : Nat) (n : Int) : Prop where
  len : (tb.length : Int) = n
  row : ∀ r ∈ tb, r.length = wd ∧ Bel n r
theorem DiceAt.tup {H : Hp} {p a : Addr} {xs : List V} (h : DiceAt H p) (e : H a = some (.tup xs)) : a ≠ p := fun z => by
  obtain ⟨x, y, w, k, _⟩ := h
  rw [z, k] at e
  cases e
theorem PTab.but {H H' : Hp} {p l : Addr} {tb : List (List Int)} (h : PTab H l tb) (lp : l ≠ p) (hD : DiceAt H p) (b : But p H H') : PTab H' l tb := by
  obtain ⟨as, h1, h2⟩ := h
  exact ⟨as, b _ _ h1 lp, h2.to fun a _ r e => b _ _ e (hD.tup e)⟩
def spLTab : Sp := fun vs H Q _ => ∃ (p q : Addr) (L : W) (n : Int) (ss : List Int), vs = [.ref p, .str (tx L), .int n, .ref q] ∧ DiceAt H p ∧ L ≠ [] ∧ L.length ≤ 26 ∧ 1 ≤ n ∧ n ≤ 60 ∧ q ≠ p ∧ H q = some (.lst (ss.map V.int)) ∧ ss ≠ [] ∧ ss.length ≤ 100 ∧
  ∀ (l : Addr) (tb : List (List Int)) (H' : Hp), H l = none → l ≠ p → DiceAt H' p → But p H H' → PTab H' l tb → TabOk tb L.length n → Q (.ref l) H'
abbrev NTb : List Str := ["_law_dice_here", "_law_letters_here", "_law_size", "_law_sorts", "_law_rows", "_law_letter", "_law_place", "_law_row"]
abbrev scT2 : Scope := { kind := .function, names := [(".0", .local), ("_law_place", .cell), ("tuple", .globalImplicit), ("_law_rows", .cell)], isGenerator := false, isCoroutine := false }
abbrev rTupL (K : Frag) : List V → Hp → VK → Prop := fun xs H Q => ∃ p ys, xs = [.ref p] ∧ ((SqL K H p ys ∧ ∀ l, H l = none → Q (.ref l) (upd H l (.tup ys))) ∨ (SqT K H p ys ∧ Q (.ref p) H))
section
variable {P : Program} {w : World} {K : PySem.W.Frag} {mg : Str → Option Value} {base : Heap} {fR fO fA fT : Addr} {dR dO dA dT : FuncData}
theorem scTa : FnScope NTb ["_law_dice_here", "_law_letters_here", "_law_size", "_law_sorts"] (defScope sLTab) := ⟨rfl, rfl, rfl, by decide +kernel, rfl, by decide +kernel, by decide +kernel⟩
theorem ok_ltab {f : Addr} {fd : FuncData} (F : Fun K "_law_table" "_law_table" sLTab f fd) (T : TN mg) (AR : Fn K mg "_law_roll" sRoll ["_law_dice_here", "_law_total"] fR dR) (AO : Fn K mg "_law_one_of" sOne ["_law_dice_here", "_law_items"] fO dO)
    (AA : Fn K mg "_law_action" sAct ["_law_dice_here", "_law_size", "_law_sort"] fA dA) : FnOk P w K mg base CX0 3 f fd ["_law_dice_here", "_law_letters_here", "_law_size", "_law_sorts"] spLTab := by
  have GO : FnOk P w K mg base CX0 2 fO dO ["_law_dice_here", "_law_items"] spOne := ok_one AO.F T.dice AR.g AR.F AR.b
  have GA : FnOk P w K mg base CX0 2 fA dA ["_law_dice_here", "_law_size", "_law_sort"] spAct := ok_act AA.F T AR
  refine F.ok scTa (fun vs H Q E h => ?_) (fun cdv A outer s H vs Q E hr h => ?_)
  · obtain ⟨p, q, L, n, ss, rfl, _⟩ := h
    rfl
  · obtain ⟨p, q, L, n, ss, rfl, hD, hL, hL2, h1, h60, qp, hq, hs0, hs1, k⟩ := h
    refine ⟨_, pss_cons (ps_set (i := 4) scTa.nd rfl (Or.inr rfl) (pe_lc (own := [("_law_letter", 5)]) (g := gName 5) (tt := tYes) rfl scTa.nd (pi_str (pv 1))
        (blkOk_by (own := [("_law_letter", 5)]) (N := NTb) (sc := defScope sLTab) (by decide +kernel)) (fun _ _ _ _ _ => pg_name (i := 5) scTa.nd rfl (Or.inl rfl)) (fun _ _ _ _ _ => pts_nil)
        (fun _ _ _ _ _ => pe_call GA hr rfl AA.g AA.F.kp AA.b .nil pass0 (pa_cons (pv 0) (pa_cons (pv 2) (pa_cons (pe_call GO hr rfl AO.g AO.F.kp AO.b .nil pass0 (pa_cons (pv 0) (pa_cons (pv 3) pa_nil))) pa_nil))))))
      (pss_one (ps_ret (pe_lc (own := [("_law_place", 6)]) (g := gName 6) (tt := tYes) (te := tCB (rTupL K) (tCons (tLc (iList K (tVar 4)) (gName 7) tYes (tOp (rIxL K) (tVar 7) (tVar 6)) [7]) tNil)) rfl scTa.nd (pi_range1 rfl T.rng (pa_cons (pv 2) pa_nil))
        (blkOk_by (own := [("_law_place", 6)]) (N := NTb) (sc := defScope sLTab) (by decide +kernel)) (fun _ _ _ _ _ => pg_name (i := 6) scTa.nd rfl (Or.inr rfl)) (fun _ _ _ _ _ => pts_nil)
        (fun _ _ _ _ _ => pe_callTy call_tuple_of (by rfl) T.tuple (by decide +kernel) (pa_cons (pe_lc (own := [("_law_row", 7)]) (g := gName 7) (tt := tYes) (te := tOp (rIxL K) (tVar 7) (tVar 6)) rfl scTa.nd (pi_list (pv 4))
          (blkOk_by (own := [("_law_row", 7)]) (N := NTb) (sc := scT2) (by decide +kernel)) (fun _ _ _ _ _ => pg_name (i := 7) scTa.nd rfl (Or.inl rfl)) (fun _ _ _ _ _ => pts_nil)
          (fun _ _ _ _ _ => pe_ix ix_list (pv 7) (pv 6) (fun _ _ => rfl))) pa_nil))))), ?_⟩
    have ssp : 0 < (ss.map V.int).length := by rw [List.length_map]; exact List.length_pos_iff.mpr hs0
    have ss1 : (ss.map V.int).length < 1000000 := by rw [List.length_map]; omega
    refine ⟨_, rfl, tx L, rfl, fun D hD2 => ?_⟩
    have Dp := hD.ne hD2
    have qD : q ≠ D := ne_of_none hq hD2
    refine lc_it walk_str (fun i H3 => DiceAt H3 p ∧ But p H H3 ∧ ∃ (as : List Addr) (rs : List (List Int)), as.length = i ∧ H3 D = some (.lst (as.map V.ref)) ∧ Objs oLst H3 as rs ∧ (∀ r ∈ rs, (r.length : Int) = n ∧ Bel n r) ∧ ∀ a ∈ as, a ≠ D ∧ a ≠ p)
      ⟨hD.new hD2, but_two (But.refl p H) hD2, [], [], rfl, upd_same, trivial, fun r hr => (nomatch hr), fun r hr => (nomatch hr)⟩ (fun _ _ _ _ => trivial) ?_ ?_
    · rintro i x H3 H4 hi ⟨hD4, hB4, as, rs, hl, hd, ho, hr2, hn⟩ ⟨rfl, c, hx, rfl⟩
      have hx' : L[i]? = some c := by
        rw [← Array.getElem?_toList, tx_list] at hx
        exact hx
      have hiL := (List.getElem?_eq_some_iff.mp hx').1
      refine ⟨rfl, _, rfl, _, rfl, _, rfl, _, rfl, p, q, _, rfl, hD4, qp, hB4 _ _ hq qp, ssp, ss1, fun v H5 hv hD5 hB5 => ?_⟩
      obtain ⟨s0, _, rfl⟩ := List.mem_map.mp hv
      refine ⟨p, n, s0, rfl, hD5, h1, h60, fun l ns H6 hl6 lp hD6 hB6 h6 hlen hb => ?_⟩
      have hd6 : H6 D = some (.lst (as.map V.ref)) := hB6 _ _ (hB5 _ _ hd Dp) Dp
      have lD : l ≠ D := fun z => by rw [z, hB5 _ _ hd Dp] at hl6; cases hl6
      have ho6 : Objs oLst H6 as rs := ho.to fun a ha r e => hB6 _ _ (hB5 _ _ e (hn a ha).2) (hn a ha).2
      refine ⟨_, hd6, by rw [List.length_map, sizeLine_eq]; omega, hD6.keep fun o e => by rw [upd_ne (Ne.symm Dp)]; exact e, but_at ((hB4.trans hB5).trans hB6) hD2, as ++ [l], rs ++ [ns], by rw [List.length_append, hl] <;> rfl, by rw [upd_same, List.map_append] <;> rfl, ?_, ?_, ?_⟩
      · refine Objs.snoc (ho6.to fun a ha r e => by rw [upd_ne (hn a ha).1]; exact e) (by rw [upd_ne lD]; exact h6)
      · intro r hr
        rcases List.mem_append.mp hr with z | z
        · exact hr2 r z
        · rw [List.mem_singleton.mp z]
          exact ⟨hlen, hb⟩
      · intro a ha
        rcases List.mem_append.mp ha with z | z
        · exact hn a z
        · rw [List.mem_singleton.mp z]
          exact ⟨lD, lp⟩
    · rintro H3 ⟨hD3, hB3, as, rs, hl, hd, ho, hr2, hn⟩
      have hl : as.length = L.length := by rw [hl, size_tx]
      have hrl : rs.length = L.length := ho.len.symm.trans hl
      refine ⟨_, rfl, _, rfl, by omega, by omega, fun D2 hD4 => ?_⟩
      have D2p := hD3.ne hD4
      have nD2 : H D2 = none := but_free hB3 hD4 D2p
      refine lc_range (lo := 0) (n := n.toNat) (fun i H4 => DiceAt H4 p ∧ But p H3 H4 ∧ ∃ (ts : List Addr) (tb : List (List Int)), ts.length = i ∧ H4 D2 = some (.lst (ts.map V.ref)) ∧ Objs oTup H4 ts tb ∧ ∀ r ∈ tb, r.length = L.length ∧ Bel n r)
        ⟨hD3.new hD4, but_two (But.refl p H3) hD4, [], [], rfl, upd_same, trivial, fun r hr => (nomatch hr)⟩ ?_ ?_
      · rintro i H4 hi ⟨hD4', hB4, ts, tb, hlt, hd2, ho2, hr3⟩
        have hd4 : H4 D = some (.lst (as.map V.ref)) := hB4 _ _ hd Dp
        have ho4 : Objs oLst H4 as rs := ho.to fun a ha r e => hB4 _ _ e (hn a ha).2
        refine ⟨rfl, _, rfl, D, rfl, ⟨_, SqL.of hd4⟩, fun D3 hD3' => ?_⟩
        have hz : (as.zip rs).length < sizeLine := by rw [List.length_zip, sizeLine_eq]; omega
        have eas : as.map V.ref = (as.zip rs).map fun z => V.ref z.1 := by
          rw [show (fun z : Addr × List Int => V.ref z.1) = V.ref ∘ Prod.fst from rfl, ← List.map_map, List.map_fst_zip (Nat.le_of_eq ho.len)]
        refine same_list (l := as.zip rs) (val := fun z => V.ref z.1) (r := fun z => [V.int (z.2.getD i 0)]) hD3' (SqL.of (by rw [← eas]; exact hd4)) hz (fun _ => Nat.le_refl _) (fun z hz H5 acc s5 hacc hlen N hN => ?_) (fun H5 s5 hd5 => ?_)
        · obtain ⟨e1, e2⟩ := hr2 z.2 (List.of_mem_zip hz).2
          have hii : i < z.2.length := by omega
          have at1 : atI (z.2.map V.int) (0 + (i : Int)) = some (.int (z.2.getD i 0)) := by
            rw [Int.zero_add]
            refine atI_nat ?_
            rw [List.getElem?_map, List.getD_eq_getElem?_getD, List.getElem?_eq_getElem hii] <;> rfl
          exact ⟨rfl, _, rfl, _, rfl, z.1, _, _, _, rfl, rfl, SqL.of (s5 _ _ (ho4.at_ z hz)), at1, acc, hacc, hlen, hN _ (same_at s5 hD3') upd_same⟩
        · have e : (as.zip rs).flatMap (fun z => [V.int (z.2.getD i 0)]) = (rs.map fun r => r.getD i 0).map V.int := by
            rw [flat_map, List.map_map]
            conv => rhs; rw [← List.map_snd_zip (l₁ := as) (l₂ := rs) (Nat.le_of_eq ho.len.symm)]
            rw [List.map_map] <;> rfl
          rw [e] at hd5
          refine ⟨D3, _, rfl, .inl ⟨SqL.of hd5, fun t ht => ?_⟩⟩
          have s6 : Same H4 (upd H5 t (.tup ((rs.map fun r => r.getD i 0).map V.int))) := same_two s5 ht
          have hd6 := s6 _ _ hd2
          have D2t : ∀ a ∈ ts, a ≠ D2 := fun a ha z => by
            obtain ⟨r, _, e⟩ := ho2.mem a ha
            rw [z, hd2] at e
            cases e
          have tD2 : t ≠ D2 := fun z => by rw [z] at ht; rw [s5 _ _ hd2] at ht; cases ht
          refine ⟨_, hd6, by rw [List.length_map, sizeLine_eq]; omega, ?_, ?_, ts ++ [t], tb ++ [rs.map fun r => r.getD i 0], by rw [List.length_append, hlt] <;> rfl, by rw [upd_same, List.map_append] <;> rfl, ?_, ?_⟩
          · exact (hD4'.keep fun o e => s6 _ _ e).keep fun o e => by rw [upd_ne (Ne.symm D2p)]; exact e
          · exact but_at (hB4.trans (But.ofSame s6)) hD4
          · refine Objs.snoc (ho2.to fun a ha r e => by rw [upd_ne (D2t a ha)]; exact s6 _ _ e) (by rw [upd_ne tD2, upd_same])
          · intro r hr
            rcases List.mem_append.mp hr with z | z
            · exact hr3 r z
            · rw [List.mem_singleton.mp z]
              refine ⟨by rw [List.length_map, hrl], fun j hj => ?_⟩
              obtain ⟨r', hr', rfl⟩ := List.mem_map.mp hj
              obtain ⟨e1, e2⟩ := hr2 r' hr'
              have hii : i < r'.length := by omega
              rw [List.getD_eq_getElem?_getD, List.getElem?_eq_getElem hii]
              exact e2 _ (List.getElem_mem hii)
      · rintro H4 ⟨hD4', hB4, ts, tb, hlt, hd2, ho2, hr3⟩
        exact k D2 tb H4 nD2 D2p hD4' (hB3.trans hB4) ⟨ts, hd2, ho2⟩ ⟨by rw [← ho2.len, hlt]; omega, hr3⟩
end
end WK
set_option Elab.async false
set_option linter.all false
set_option maxRecDepth 100000
set_option maxHeartbeats 8000000
namespace ENU
open PySem PySem.Spec PyProof.Rows L2
/-- .. over the tuple at a -/
def EnT (K : PySem.W.Frag) (a : Addr) (xs : List V) : It :=
  ⟨fun i H => SqT K H a xs ∧ i < xs.length, fun i H v H' => ∃ T y, v = .ref T ∧ H T = none ∧ H' = upd H T (.tup [.int (i : Nat), y]) ∧ xs[i]? = some y, fun i H => SqT K H a xs ∧ i = xs.length⟩
section
variable {X : Cx} {s : Shared} {σ : L2.St} {H : Hp} {pins : List (Addr × Obj)}
/-- one turn, by what the inner walk draws -/
theorem en_item {e it : Addr} {fp : List Addr} {n i kk : Nat} {Pv : Nat → Value → Prop} {St : Nat → Heap → Prop} {E : Value → Shared → Prop} {elts : List Expr} {tpos : Pos} {old : Value} {R : V → Hp → Heap → Prop} (I : Inv X pins σ H s) (D : Draws X.prog X.w X.A.in1 it fp n Pv St)
    (he : IsEnum s.heap e it ((i : Nat) : Int) old) (hst : St i s.heap) (hlt : i < n) (hne : e ≠ it) (hef : e ∉ fp) (hit : it < s.heap.objs.size) (hf : ∀ b ∈ [e, it], FpOk X pins H b)
    (hR : ∀ u, Pv i u → ∃ y, RelV y u ∧ ∀ (T : Addr) (h2 : Heap), H T = none → St (i + 1) h2 → (∃ old, IsEnum h2 e it ((i + 1 : Nat) : Int) old) → R (.ref T) (upd H T (.tup [.int (i : Nat), y])) h2) :
    wpAny (model X.prog X.w) X.A (pyNext (.ref e)) (fun r s1 => ∃ u, r = some u ∧
      wpAny (model X.prog X.w) X.A (letOwnedTupleGo (.Tuple elts kk tpos) (.ref e) u) (fun _ s2 => ∃ x H', Inv X pins σ H' s2 ∧ RelV x u ∧ R x H' s2.heap ∧ ∀ b ∈ [e, it], H' b = none) E s1) E s := by
  have elt : e < s.heap.objs.size := Heap.lt_size he
  refine wpAny_pyNext_enum_itemD D he hst hlt hne hef fun u h1 tk hP ho hst1 hT hsz kp => ⟨_, rfl, wpAny_letOwnedTupleGo_enum (s := { s with heap := h1, toks := tk + 1 }) ho fun h2 he2 sb => ?_⟩
  obtain ⟨y, ry, q⟩ := hR u hP
  have fresh : H s.heap.objs.size = none := I.hok.fresh (Nat.le_refl _)
  have stay : ∀ b o, b ∉ [e, it] → s.heap.get? b = some o → h2.get? b = some o := fun b o hb z => (sb.2 b fun w => hb (by simp [w])).trans (kp b o (fun w => hb (by simp [w])) (fun w => hb (by simp [w])) z)
  have pair : h2.get? s.heap.objs.size = some { cls := .type "tuple", data := .seq #[.int i tk, u] } := (sb.2 _ (Nat.ne_of_gt elt)).trans hT
  have new : ObjOk X.prog X.w (upd H s.heap.objs.size (.tup [.int (i : Nat), y])) h2 s.heap.objs.size (.tup [.int (i : Nat), y]) := ⟨by show 2 ≤ sizeLine; decide, [.int i tk, u], .cons ⟨_, rfl⟩ (.cons ry .nil), _, pair, rfl, _, rfl⟩
  refine ⟨.ref s.heap.objs.size, _, I.turnedNew (ch := [e, it]) stay hf (Nat.le_refl _) new, rfl, q _ _ fresh (D.frame _ _ _ hst1 fun b hb o z => (sb.2 b fun w => hef (w ▸ hb)).trans z) ⟨u, ?_⟩, fun b hb => ?_⟩
  · rw [show ((i + 1 : Nat) : Int) = (i : Int) + 1 from Int.natCast_add i 1]
    exact he2
  · have hlt : b < s.heap.objs.size := by
      obtain z | z := List.mem_cons.mp hb
      · rw [z]
        exact elt
      · rw [List.mem_singleton.mp z]
        exact hit
    rw [upd_ne (Nat.ne_of_lt hlt)]
    exact (hf b hb).1
end
theorem DQT {h : Heap} {a : Addr} {its : Array Value} (p : IsTup h a its) : h.IsTuple a its := let ⟨o, e, c, n, d⟩ := p; ⟨o, e, c, n, d⟩
theorem turn_enT {P : Program} {w : World} {K : PySem.W.Frag} {elts : List Expr} {kk : Nat} {tpos : Pos} (a : Addr) (xs : List V) (e it : Addr) :
    Turn P w K (.Tuple elts kk tpos) (EnT K a xs) [e, it] e (fun i h => (∃ old, IsEnum h e it ((i : Nat) : Int) old) ∧ h.IsTupleIter it a i ∧ e ≠ it ∧ e ≠ a ∧ a ≠ it) where
  mem := .head _
  obj := fun i h st b hb => by
    obtain ⟨⟨old, he⟩, ⟨o, ho, _, hd⟩, _⟩ := st
    obtain z | z := List.mem_cons.mp hb
    · exact ⟨_, z ▸ he, fun v q => by cases q⟩
    · exact ⟨o, List.mem_singleton.mp z ▸ ho, fun v q => by cases hd.symm.trans q⟩
  keep := fun i h h' st k => let ⟨⟨old, he⟩, ⟨o, ho, r⟩, hne⟩ := st; ⟨⟨old, k e (.head _) _ he⟩, ⟨o, k it (.tail _ (.head _)) _ ho, r⟩, hne⟩
  item := by
    intro X hP hw hK hc i pins s σ H E I hf ⟨⟨old, he⟩, hit, hne, hea, hai⟩ ⟨hT, hi⟩
    subst hP hw hK
    obtain ⟨o, ho, _⟩ := id hit
    obtain ⟨its, rv, pt, _⟩ := I.tuple hT
    have D := Draws.tuple (prog := X.prog) (w := X.w) (A := X.A.in1) (I.ok.hd hc) it a hai its.toArray
    have hl : i < its.toArray.size := by
      have := rv.length
      simp only [List.size_toArray]
      omega
    refine wpAny_mono (en_item (elts := elts) (kk := kk) (tpos := tpos) (R := fun v H' h2 => (EnT X.K a xs).yld i H v H' ∧ (∃ old, IsEnum h2 e it ((i + 1 : Nat) : Int) old) ∧ h2.IsTupleIter it a (i + 1)) I D he ⟨hit, DQT pt⟩ hl hne (fun z => ?_) (Heap.lt_size ho) hf (fun u hu => ?_)) (fun r s1 q => ?_) fun _ _ z => z
    · obtain z | z := List.mem_cons.mp z
      · exact hne z
      · exact hea (List.mem_singleton.mp z)
    · obtain ⟨y, hy⟩ : ∃ y, xs[i]? = some y := ⟨xs[i], List.getElem?_eq_getElem hi⟩
      obtain ⟨u2, h1, h2⟩ := rv.get hy
      have e1 : u2 = u := Option.some.inj (h1.symm.trans (by rw [← List.getElem?_toArray]; exact hu))
      exact ⟨y, e1 ▸ h2, fun T h2 hT st z => ⟨⟨T, y, rfl, hT, rfl, hy⟩, z, st.1⟩⟩
    obtain ⟨u, rfl, q⟩ := q
    exact ⟨u, rfl, wpAny_mono q (fun _ s2 ⟨v, H', I', rv, ⟨a, b, c⟩, d⟩ => ⟨v, H', I', rv, a, ⟨b, c, hne, hea, hai⟩, d⟩) fun _ _ z => z⟩
  done := by
    intro X hP hw hK hc i pins s σ H E I hf ⟨⟨old, he⟩, hit, hne, hea, hai⟩ ⟨hT, hi⟩
    subst hP hw hK
    obtain ⟨f0, f1, f2, f3, f4, f5⟩ := hf it (.tail _ (.head _))
    obtain ⟨its, rv, pt, _⟩ := I.tuple hT
    have D := Draws.tuple (prog := X.prog) (w := X.w) (A := X.A.in1) (I.ok.hd hc) it a hai its.toArray
    have hl : i = its.toArray.size := by
      have := rv.length
      simp only [List.size_toArray]
      omega
    exact wpAny_pyNext_enum_endD D he ⟨hl ▸ hit, DQT pt⟩ fun h1 eb => ⟨rfl, I.turned (t' := s.toks) (fun b o hb q => eb b o hb q) f0 f1 f3 f4 f5⟩
  self := fun _ _ _ _ _ st q => wpAny_pyIter_enum st.1.choose_spec q
/-- enumerate(v) of anything whose iterator is one new object -/
theorem meets_one {v : Value} {o : Obj} {G : Heap → Prop} (B : PySem.Begins v o G) : Meets (Builtin.«enumerate.__new__» ⟨[.type "enumerate", v], []⟩) (fun _ R s => G s.heap ∧
    R (.ok (.ret (.ref (s.heap.push o).objs.size))) { s with heap := (s.heap.push o).push { cls := .type "enumerate", data := .fields #[.none, .bool false, .ref s.heap.objs.size, rawInt 0, .none, .none] } }) :=
  .of_wp fun prog w _ _ ⟨hp, g, d, tk, os⟩ ⟨h1, h2⟩ => by
    have f1 := sub_enumerate
    have f2 : ∀ {A1 : Around} {E : Value → Shared → Prop} {Q : Value → Shared → Prop}, Q (.ref hp.objs.size) ⟨hp.push o, g, d, tk, os⟩ → wpAny (model prog w) A1 (pyIter v) Q E ⟨hp, g, d, tk, os⟩ := fun q => B.iter prog w _ _ _ _ h1 q
    wp_walk using f2
    refine wpAny_stack_any fun _ => wpAny_pure ?_
    split
    · rename_i c _ _ _ _ _
      cases (c == Value.type "enumerate") <;> (wp_walk using f2; exact ⟨_, rfl, h2⟩)
    · wp_walk using f2
      exact ⟨_, rfl, h2⟩
theorem call_one {prog : Program} {w : World} {A : Around} {E : Value → Shared → Prop} {s : Shared} {v : Value} {o : Obj} {G : Heap → Prop} {Q : Value → Shared → Prop} (B : PySem.Begins v o G) (h1 : G s.heap)
    (k : ∀ h1, IsEnum h1 (s.heap.objs.size + 1) s.heap.objs.size 0 .none → h1.get? s.heap.objs.size = some o → (∀ b u, s.heap.get? b = some u → h1.get? b = some u) → Q (.ref (s.heap.objs.size + 1)) { s with heap := h1 }) :
    wpAny (model prog w) A (call (.type "enumerate") [v]) Q E s := by
  have sz : (s.heap.push o).objs.size = s.heap.objs.size + 1 := Heap.size_push ..
  have at_ : IsEnum ((s.heap.push o).push { cls := .type "enumerate", data := .fields #[.none, .bool false, .ref s.heap.objs.size, rawInt 0, .none, .none] }) (s.heap.objs.size + 1) s.heap.objs.size 0 .none := by
    have z := Heap.get?_push_size (s.heap.push o) (o := { cls := .type "enumerate", data := .fields #[.none, .bool false, .ref s.heap.objs.size, rawInt 0, .none, .none] }) rfl
    rw [sz] at z
    exact z
  refine callType_new F.called_enumerate (by decide) (F.typeCall_enumerate_1 _) (F.newCall_enumerate_1 _) (fun obj => F.args_object_init_2 obj _) F.entry_enumerate_new (meets_one B) ⟨h1, ?_⟩
  rw [sz]
  exact ⟨⟨_, at_, rfl⟩, k _ at_ (Heap.get?_push_of_some _ (Heap.get?_push_size _ B.free)) fun b u x => Heap.get?_push_of_some _ (Heap.get?_push_of_some _ x)⟩
def iEnT (K : PySem.W.Frag) (ta : TA) : TI := fun σ H R => ta σ H fun vs H1 => ∃ a xs, vs = [.ref a] ∧ SqT K H1 a xs ∧ R (EnT K a xs) H1
section
variable {X : Cx} {e : Expr} {ta : TA} {p pos tpos : Pos} {elts : List Expr} {kk : Nat}
theorem two_new {pins : List (Addr × Obj)} {σ : L2.St} {H : Hp} {s : Shared} (I : Inv X pins σ H s) : ∀ b ∈ [s.heap.objs.size + 1, s.heap.objs.size], FpOk X pins H b := fun b hb => by
  have le : s.heap.objs.size ≤ b := by
    obtain z | z := List.mem_cons.mp hb
    · rw [z]
      exact Nat.le_succ _
    · rw [List.mem_singleton.mp z]
      exact Nat.le_refl _
  exact I.fpOk le (I.hok.fresh le)
theorem pi_enT (hg : Gl X "enumerate") (hm : X.mg "enumerate" = none) (ha : PA X [e] ta) (hs : starEach [e] X.env = [(false, eval e X.env)] := by rfl) : PI X (.Tuple elts kk tpos) (.Call (.Name "enumerate" p) [e] [] pos) (iEnT X.K ta) := by
  refine ⟨fun pins s σ H R I h => Call_ (ld_blt I hg hm boot_enumerate (PyProof.Rows.callWith_type1 (thn (ha.run pos pins s σ H _ I h) fun us s1 ⟨vs, H1, I1, r1, a, xs, ex, hT, q⟩ => ?_) hs rfl))⟩
  subst ex
  obtain ⟨u, rfl, rfl⟩ := r1.one
  obtain ⟨its, rv, pt, _⟩ := I1.tuple hT
  obtain ⟨o, ho, _⟩ := id pt
  have lt := Heap.lt_size ho
  refine call_one (PySem.begins_tuple a its.toArray) (DQT pt) fun h1 he hi kp => wpAny_pyIter_enum he ?_
  exact ⟨s1.heap.objs.size + 1, _, _, _, H1, rfl, I1.kept (t' := s1.toks) kp, turn_enT a xs _ s1.heap.objs.size, ⟨⟨.none, he⟩, ⟨_, hi, rfl, rfl⟩, Nat.succ_ne_self _, Nat.ne_of_gt (Nat.lt_succ_of_lt lt), Nat.ne_of_lt lt⟩, two_new I1, q⟩
end
theorem walk_enT {K : PySem.W.Frag} {a : Addr} {xs : List V} : Walk (EnT K a xs) xs.length (fun H => SqT K H a xs) (fun i H v H' => ∃ T y, v = .ref T ∧ H T = none ∧ H' = upd H T (.tup [.int (i : Nat), y]) ∧ xs[i]? = some y) := ⟨fun _ _ hi q => ⟨q, hi⟩, fun _ q => ⟨q, rfl⟩, fun _ _ _ _ _ _ y => y⟩
end ENU
set_option Elab.async false
set_option linter.all false
set_option maxRecDepth 100000
set_option maxHeartbeats 8000000
namespace L2
open PySem PySem.Spec PyProof.Rows
section
variable {X : Cx}
/-- y = {k: v for .. in ..} -/
theorem ps_setDc {i : Nat} {y : Str} {py pos spos : Pos} {kx vx tg iter : Expr} {ifs : List Expr} {scope : Scope} {own : List (Str × Nat)} {wi : TI} {g : TG} {tt : TT} {tk tv : TE} (hc : X.calm = true) (hN : X.N.Nodup) (hy : X.N[i]? = some y) (hyl : X.env.scope.names.lookup y = some .local)
    (hsw : swapsWith (.DictComp kx vx [⟨tg, iter, ifs, 0⟩] scope pos) (some (.Name y py)) spos.line X.env = pure true) (hi : PI X tg iter wi) (ok : BlkOk X.N X.env.scope scope own)
    (hg : ∀ s H C cl fp, PG (X.blk s H scope (compEnvC scope cl C X.env) fp) tg g) (ht : ∀ s H C cl fp, PTs (X.blk s H scope (compEnvC scope cl C X.env) fp) ifs tt) (hk : ∀ s H C cl fp, PE (X.blk s H scope (compEnvC scope cl C X.env) fp) kx tk) (he : ∀ s H C cl fp, PE (X.blk s H scope (compEnvC scope cl C X.env) fp) vx tv)
    (hs : ∀ x, foldedSetIterable iter X.env x = pure x := by intro _; rfl) : PS X (.Assign [.Name y py] (.DictComp kx vx [⟨tg, iter, ifs, 0⟩] scope pos) spos) (tAsg (tDc wi g tt tk tv (own.map (·.2))) (gName i)) := by
  refine ⟨fun pins s σ H D I h => ?_⟩
  have made : wpAny (model X.prog X.w) X.A (comprehension (.DictComp kx vx [⟨tg, iter, ifs, 0⟩] scope pos) scope X.env (firstIterPos [⟨tg, iter, ifs, 0⟩] pos) newDict false (eval iter X.env) (some (assign (.Name y py) X.env))) (fun _ s' => SP X pins D .next s') X.xe s := by
    refine dc_core hc hN I hi ok hg ht hk he hs (Q := fun x H1 => gName i x σ H1 D.nx) h fun L C s' m H' I' q hn f => ?_
    obtain ⟨g0, g1, _, g3, g4, g5⟩ := f
    show wpAny (model X.prog X.w) X.A (assign (.Name y py) X.env (.ref L)) _ X.xe _
    refine wpAny_assign_Name (store_ok2 (v := .ref L) I' hN hy (.inl hyl) rfl (fun s2 I2 z => ?_) (.inr hyl))
    obtain ⟨a, sb, at_⟩ := z
    exact ⟨m, hn.sameBut sb (at_.elim (fun z => z ▸ g1) fun z w => g4 y a z w.symm), fun h3 sb3 => ⟨_, H', I2.turned (t' := s2.toks) (fun b o hb e => (sb3.2 b hb).trans e) g0 g1 g3 g4 g5, q⟩⟩
  rw [exec_Assign_Name_used (hs := hsw)]
  refine wpAny_bind (wpAny_standAt ?_)
  refine wpAny_bind ?_
  show wpAny _ X.A (do let _ ← comprehension (.DictComp kx vx [⟨tg, iter, ifs, 0⟩] scope pos) scope X.env (firstIterPos [⟨tg, iter, ifs, 0⟩] pos) newDict false (eval iter X.env) (some (assign (.Name y py) X.env))) _ _ s
  exact wpAny_bind (thn made fun _ _ z => wpAny_pure (wpAny_pure z))
end
end L2
namespace LCX
open PySem L2 PyProof.Rows WK
/-- one turn of a dict's comprehension -/
abbrev DTurn (g : TG) (tt : TT) (tk tv : TE) (vs : List Nat) (σ : L2.St) (D : Addr) (x : V) (H : Hp) (N : Hp → Prop) : Prop := g x (wipe σ vs) H fun σ2 H2 => wipe σ2 vs = wipe σ vs ∧ tt σ2 H2 fun b H3 =>
  if b = true then tk σ2 H3 fun y H4 => tv σ2 H4 fun z H5 => ∃ kvs k, y = kV k ∧ H5 D = some (.dK kvs) ∧ kvs.length < sizeLine ∧ N (upd H5 D (.dK (putK kvs k z))) else N H3
abbrev DWent (J : It) (g : TG) (tt : TT) (tk tv : TE) (vs : List Nat) (σ : L2.St) (D : Addr) (H1 : Hp) (Qd : Hp → Prop) : Prop :=
  ∃ W : Nat → Nat → Hp → Prop, (∃ m, W 0 m (upd H1 D (.dK []))) ∧ ∀ j n G, W j n G → (J.stop j G ∧ Qd G) ∨ (J.go j G ∧ ∃ N : Hp → Prop, (∀ G', N G' → ∃ n', n' < n ∧ W (j + 1) n' G') ∧ ∀ v G', J.yld j G v G' → DTurn g tt tk tv vs σ D v G' N)
theorem dc_it {J : It} {n : Nat} {G : Hp → Prop} {Y : Nat → Hp → V → Hp → Prop} (wk : Walk J n G Y) {g : TG} {tt : TT} {tk tv : TE} {vs : List Nat} {σ : L2.St} {H1 : Hp} {D : Addr} {Qd : Hp → Prop} (Pv : Nat → Hp → Prop) (h0 : Pv 0 (upd H1 D (.dK []))) (hG : ∀ i H, i ≤ n → Pv i H → G H)
    (hs : ∀ i x H H', i < n → Pv i H → Y i H x H' → DTurn g tt tk tv vs σ D x H' (Pv (i + 1))) (hd : ∀ H, Pv n H → Qd H) : DWent J g tt tk tv vs σ D H1 Qd := by
  refine ⟨fun i m H => m + i = n ∧ Pv i H, ⟨n, rfl, h0⟩, fun i m H ⟨e, p⟩ => ?_⟩
  have gd := hG i H (by omega) p
  rcases Nat.lt_or_ge i n with lt | ge
  · exact .inr ⟨wk.goes i H lt gd, Pv (i + 1), fun H' p' => ⟨m - 1, by omega, by omega, p'⟩, fun x H' y => hs i x H H' lt p (wk.yields i H x H' lt gd y)⟩
  · obtain rfl : i = n := by omega
    exact .inl ⟨wk.stops H gd, hd H p⟩
end LCX
namespace WK
open PySem L2 PyProof.Rows LCX K1
open TX (sg sigs)
open PySem.W (Frag kitOne)
/-- one step, and the way of a word -/
def stepL (L : W) (tb : List (List Int)) (r : Int) (c : Nat) : Int := (tb.getD r.toNat []).getD (L.idxOf c) 0
def ledL (L : W) (tb : List (List Int)) (u : W) (st : Int) : Int := u.foldl (stepL L tb) st
theorem stepL_in {L : W} {tb : List (List Int)} {n r : Int} {c : Nat} (ok : TabOk tb L.length n) (hr : 0 ≤ r ∧ r < n) (hc : c ∈ L) : 0 ≤ stepL L tb r c ∧ stepL L tb r c < n := by
  have hl := ok.len
  have h1 : r.toNat < tb.length := by omega
  have e1 : tb.getD r.toNat [] = tb[r.toNat] := by rw [List.getD_eq_getElem?_getD, List.getElem?_eq_getElem h1] <;> rfl
  obtain ⟨a, b⟩ := ok.row _ (List.getElem_mem h1)
  have h2 : L.idxOf c < tb[r.toNat].length := by rw [a]; exact List.idxOf_lt_length_of_mem hc
  unfold stepL
  rw [e1, List.getD_eq_getElem?_getD, List.getElem?_eq_getElem h2]
  exact b _ (List.getElem_mem h2)
theorem Objs.get {mk : List Int → HO} {H : Hp} : ∀ {as : List Addr} {rs : List (List Int)} {i : Nat}, Objs mk H as rs → i < rs.length → ∃ a, as[i]? = some a ∧ H a = some (mk (rs.getD i []))
  | _ :: _, _ :: _, 0, h, _ => ⟨_, rfl, h.1⟩
  | _ :: _, _ :: _, _ + 1, h, hi => h.2.get (Nat.lt_of_succ_lt_succ hi)
  | [], _ :: _, _, h, _ => h.elim
  | _, [], _, _, hi => absurd hi (Nat.not_lt_zero _)
theorem ledL_snoc (L : W) (tb : List (List Int)) (u : W) (c : Nat) (st : Int) : ledL L tb (u ++ [c]) st = stepL L tb (ledL L tb u st) c := by
  unfold ledL
  rw [List.foldl_append] <;> rfl
theorem ledL_in {L : W} {tb : List (List Int)} {n : Int} (ok : TabOk tb L.length n) : ∀ {u : W} {st : Int}, 0 ≤ st ∧ st < n → (∀ c ∈ u, c ∈ L) → 0 ≤ ledL L tb u st ∧ ledL L tb u st < n
  | [], _, h, _ => h
  | c :: u, st, h, hc => ledL_in ok (u := u) (stepL_in ok h (hc c (.head _))) fun d hd => hc d (.tail _ hd)
theorem nodup_of {L : W} (h : Let L) : L.Nodup := h.asc.imp fun z => Nat.ne_of_lt z
theorem idx_of {L : W} (h : L.Nodup) {i c : Nat} (e : L[i]? = some c) : L.idxOf c = i := by
  obtain ⟨hi, rfl⟩ := List.getElem?_eq_some_iff.mp e
  exact List.Nodup.idxOf_getElem h i hi
/-- a table in tuples at t -/
def TTab (K : Frag) (H : Hp) (t : Addr) (tb : List (List Int)) : Prop := ∃ ts : List Addr, SqT K H t (ts.map V.ref) ∧ Objs oTup H ts tb
theorem TTab.same {K : Frag} {H H' : Hp} {t : Addr} {tb : List (List Int)} (h : TTab K H t tb) (s : Same H H') : TTab K H' t tb := let ⟨ts, a, b⟩ := h; ⟨ts, seqT s a, b.to fun _ _ _ z => s _ _ z⟩
end WK
set_option Elab.async false
set_option linter.all false
set_option maxRecDepth 100000
set_option maxHeartbeats 8000000
namespace WK
open PySem L2 PyProof.Rows LCX K1 FV DP
open TX (sg sigs)
open PySem.W (Frag kitOne)
abbrev sWays : Stmt := top 12
def addN (o : List Int) (a : Int) : List Int := if a ∈ o then o else o ++ [a]
/-- what is met when j rows are done -/
def wyA (tb : List (List Int)) (st : Int) : Nat → List Int
  | 0 => [st]
  | j + 1 => match (wyA tb st j)[j]? with
    | some r => (tb.getD r.toNat []).foldl addN (wyA tb st j)
    | none => wyA tb st j
abbrev rngI (n : Nat) : List Int := (List.range n).map fun i => ((i : Nat) : Int)
theorem addN_grows (o : List Int) (a : Int) : o <+: addN o a := by
  unfold addN
  split
  · exact List.prefix_refl _
  · exact List.prefix_append _ _
theorem addF_grows : ∀ (l o : List Int), o <+: l.foldl addN o
  | [], _ => List.prefix_refl _
  | a :: l, o => (addN_grows o a).trans (addF_grows l _)
theorem wyA_at {tb : List (List Int)} {st r : Int} {j : Nat} (h : (wyA tb st j)[j]? = some r) : wyA tb st (j + 1) = (tb.getD r.toNat []).foldl addN (wyA tb st j) := by
  show (match (wyA tb st j)[j]? with | some r => _ | none => _) = _
  rw [h]
theorem wyA_stop {tb : List (List Int)} {st : Int} {j : Nat} (h : (wyA tb st j).length ≤ j) : ∀ m, wyA tb st (j + m) = wyA tb st j
  | 0 => rfl
  | m + 1 => by
    have ih := wyA_stop h m
    show (match (wyA tb st (j + m))[j + m]? with | some r => _ | none => _) = _
    rw [List.getElem?_eq_none (by rw [ih]; omega)]
    exact ih
/-- numbers below n, each once -/
structure Few (n : Int) (o : List Int) : Prop where
  nd : o.Nodup
  in_ : ∀ a ∈ o, 0 ≤ a ∧ a < n
theorem Few.add {n a : Int} {o : List Int} (h : Few n o) (ha : 0 ≤ a ∧ a < n) : Few n (addN o a) := by
  unfold addN
  by_cases e : a ∈ o
  · rw [if_pos e]
    exact h
  · rw [if_neg e]
    refine ⟨List.nodup_append.mpr ⟨h.nd, List.nodup_cons.mpr ⟨List.not_mem_nil, List.nodup_nil⟩, fun x hx y hy z => ?_⟩, fun x hx => ?_⟩
    · rw [List.mem_singleton.mp hy] at z
      exact e (z ▸ hx)
    · rcases List.mem_append.mp hx with z | z
      · exact h.in_ x z
      · rw [List.mem_singleton.mp z]
        exact ha
theorem Few.len {n : Int} {o : List Int} (h : Few n o) : (o.length : Int) ≤ n ∨ o = [] := by
  cases o with
  | nil => exact .inr rfl
  | cons a o =>
    refine .inl ?_
    have h0 := h.in_ a (.head _)
    have sub : (a :: o) ⊆ rngI n.toNat := fun x hx => by
      have := h.in_ x hx
      exact List.mem_map.mpr ⟨x.toNat, List.mem_range.mpr (by omega), by omega⟩
    have := h.nd.length_le_of_subset sub
    rw [List.length_map, List.length_range] at this
    omega
def Keys (kvs : List (Key × V)) (o : List Int) : Prop := kvs.map (·.1) = o.map (Sum.inl : Int → Key)
theorem Keys.len {kvs : List (Key × V)} {o : List Int} (h : Keys kvs o) : kvs.length = o.length := by
  have := congrArg List.length h
  rw [List.length_map, List.length_map] at this
  exact this
theorem Keys.val {kvs : List (Key × V)} {o : List Int} (h : Keys kvs o) (a : Int) : valV kvs (Sum.inl a : Key) ≠ none ↔ a ∈ o := by
  have e1 : (Sum.inl a : Key) ∈ kvs.map (·.1) ↔ a ∈ o := by
    rw [show kvs.map (·.1) = _ from h, List.mem_map]
    exact ⟨fun ⟨b, hb, e⟩ => Sum.inl.inj e ▸ hb, fun hb => ⟨a, hb, rfl⟩⟩
  rw [← e1]
  unfold valV
  rw [List.mem_map, ne_eq, Option.map_eq_none_iff, List.find?_eq_none]
  constructor
  · intro z
    rcases Classical.em (∃ p, p ∈ kvs ∧ p.1 = (Sum.inl a : Key)) with y | y
    · exact y
    · exact absurd (fun p hp q => y ⟨p, hp, of_decide_eq_true q⟩) z
  · rintro ⟨p, hp, e⟩ z
    exact z p hp (decide_eq_true e)
theorem Keys.put {kvs : List (Key × V)} {o : List Int} (h : Keys kvs o) {a : Int} (ha : a ∉ o) (v : V) : Keys (putK kvs (Sum.inl a : Key) v) (o ++ [a]) := by
  have : valV kvs (Sum.inl a : Key) = none := Classical.byContradiction fun z => ha ((h.val a).mp z)
  rw [putK_new v this]
  unfold Keys
  rw [List.map_append, List.map_append, show kvs.map (·.1) = _ from h] <;> rfl
def spWays (K : Frag) : Sp := fun vs H Q _ => ∃ (t : Addr) (tb : List (List Int)) (wd : Nat) (n st : Int), vs = [.ref t, .int st] ∧ TTab K H t tb ∧ TabOk tb wd n ∧ n ≤ 1000 ∧ wd ≤ 1000 ∧ 0 ≤ st ∧ st < n ∧
  ∀ D kvs H', H D = none → Same H H' → H' D = some (.dK kvs) → Keys kvs (wyA tb st tb.length) → Few n (wyA tb st tb.length) → Q (.ref D) H'
def doneOf (σ : L2.St) : Nat := match σ[4]? with
  | some (some (V.int j)) => j.toNat
  | _ => 0
abbrev NWy : List Str := ["table", "start", "found", "queue", "done", "row", "column", "after"]
section
variable {P : Program} {w : World} {K : PySem.W.Frag} {mg : Str → Option Value} {base : Heap}
theorem scWy : FnScope NWy ["table", "start"] (defScope sWays) := ⟨rfl, rfl, rfl, by decide +kernel, rfl, by decide +kernel, by decide +kernel⟩
theorem ok_ways {f : Addr} {fd : FuncData} (F : Fun K "ways" "ways" sWays f fd) (T : TN mg) (en : mg "enumerate" = none) : FnOk P w K mg base CX0 1 f fd ["table", "start"] (spWays K) := by
  refine F.ok scWy (fun vs H Q E h => ?_) (fun cdv A outer s H vs Q E hr h => ?_)
  · obtain ⟨t, tb, wd, n, st, rfl, _⟩ := h
    rfl
  · obtain ⟨t, tb, wd, n, st, rfl, hT, ok, hn, hw, s0, s1, q⟩ := h
    have hub := hu_of hr
    refine ⟨_, pss_cons (ps_set (i := 2) scWy.nd rfl (Or.inl rfl) (pe_disp1 (Nat.lt_of_succ_lt hub) (pv 1) pe_non))
      (pss_cons (ps_set (i := 3) scWy.nd rfl (Or.inl rfl) (pe_lst (pa_cons (pv 1) pa_nil)))
      (pss_cons (ps_set (i := 4) scWy.nd rfl (Or.inl rfl) pe_int)
      (pss_cons (ps_while PassesOwn.never (pt_cmpR op_lt (pv 4) (pe_callB call_len_seq (by rfl) T.len PySem.boot_len (pa_cons (pv 3) pa_nil)) (nomark _))
        (pss_cons (ps_set (i := 5) scWy.nd rfl (Or.inl rfl) (pe_ix ix_list (pv 3) (pv 4) (fun _ _ => rfl)))
        (pss_cons (ps_aug (i := 4) scWy.nd rfl (Or.inl rfl) pe_int ip_add)
        (pss_one (ps_for PassesOwn.never rfl (ENU.pi_enT rfl en (pa_cons (pe_ix ix_tup (pv 0) (pv 5) (fun _ _ => rfl)) pa_nil)) (pg_tup (by rfl) (pgs_cons (pg_name (i := 6) scWy.nd rfl (Or.inl rfl)) (pgs_cons (pg_name (i := 7) scWy.nd rfl (Or.inl rfl)) pgs_nil)))
          (pss_one (ps_if (pt_cmp (pc_dnotin hub (pv 7) (pv 2)))
            (pss_cons (ps_dput hub (pv 2) (pv 7) (pe_tup (pa_cons (pv 5) (pa_cons (pv 6) pa_nil))) rfl)
            (pss_one (ps_expr (pe_bm PySem.F.plainAttrs_list PySem.F.slot_list_append PySem.F.type_list_append mt_append (pv 3) (pa_cons (pv 7) pa_nil))))) pss_nil)))))))
      (pss_one (ps_ret (pv 2)))))), ?_⟩
    refine ⟨.dK [], .inl rfl, fun D hD => ⟨_, rfl, _, DPut.k (kvs := []) (k := (Sum.inl st : Key)) upd_same (by show 0 < sizeLine; decide), ?_⟩⟩
    rw [upd_upd]
    refine ⟨_, rfl, by show 1 ≤ sizeLine; decide, fun M hM => ?_⟩
    have nD : H D = none := hD
    have nDM : D ≠ M := fun z => by rw [← z, upd_same] at hM; cases hM
    have nM : H M = none := (same_upd hD).free hM
    have hrow : ∀ r : Int, 0 ≤ r → r < n → (tb.getD r.toNat []) ∈ tb := fun r h0 h1 => by
      have hl := ok.len
      have : r.toNat < tb.length := by omega
      rw [List.getD_eq_getElem?_getD, List.getElem?_eq_getElem this]
      exact List.getElem_mem this
    refine while_by (fun σ H2 => ∃ (j : Nat) (kvs : List (Key × V)) (x5 x6 x7 : Option V), Same H H2 ∧ H2 D = some (.dK kvs) ∧ Keys kvs (wyA tb st j) ∧ H2 M = some (.lst ((wyA tb st j).map V.int)) ∧ Few n (wyA tb st j) ∧ j ≤ (wyA tb st j).length ∧
      σ = [some (.ref t), some (.int st), some (.ref D), some (.ref M), some (.int (j : Nat)), x5, x6, x7]) (fun σ _ => n.toNat - doneOf σ) ?_ ?_ ?_
    · refine ⟨0, _, none, none, none, same_two (same_upd hD) hM, same_upd hM _ _ upd_same, rfl, ?_, ⟨List.nodup_cons.mpr ⟨List.not_mem_nil, List.nodup_nil⟩, fun a ha => ?_⟩, Nat.zero_le _, rfl⟩
      · exact upd_same
      · rw [List.mem_singleton.mp ha]
        exact ⟨s0, s1⟩
    · rintro σ H2 ⟨j, kvs, x5, x6, x7, s2, hd, keys, hm, few, hle, rfl⟩
      have hlen : ((wyA tb st j).length : Int) ≤ n := few.len.elim id fun z => by rw [z]; show (0 : Int) ≤ n; omega
      refine ⟨_, rfl, _, rfl, M, _, rfl, .inl (SqL.of hm), _, _, rfl, rfl, _, rfl, ?_⟩
      rw [List.length_map]
      refine ite2 (fun hlt => ?_) (fun hge => ?_)
      · have hlt : ((j : Nat) : Int) < (((wyA tb st j).length : Nat) : Int) := of_decide_eq_true hlt
        have hlt : j < (wyA tb st j).length := by omega
        obtain ⟨r, hr2⟩ : ∃ r, (wyA tb st j)[j]? = some r := ⟨_, List.getElem?_eq_getElem hlt⟩
        have hrin := few.in_ r (List.mem_of_getElem? hr2)
        have hstep := wyA_at hr2
        obtain ⟨ts, h1, h2⟩ := hT.same s2
        have hrl : r.toNat < tb.length := by have := ok.len; omega
        obtain ⟨a, e1, e2⟩ := h2.get hrl
        have at1 : atI (ts.map V.ref) r = some (.ref a) := by
          have e3 : r = ((r.toNat : Nat) : Int) := by omega
          rw [e3]
          exact atI_nat (by rw [List.getElem?_map, e1] <;> rfl)
        obtain ⟨rl, rb⟩ := ok.row _ (hrow r hrin.1 hrin.2)
        generalize tb.getD r.toNat [] = row at hstep e2 rl rb
        generalize hks : wyA tb st j = o at hr2 hstep hlen hlt hle hm keys few
        refine ⟨_, rfl, _, rfl, M, _, _, _, rfl, rfl, SqL.of hm, atI_nat (by rw [List.getElem?_map, hr2] <;> rfl), ?_⟩
        refine ⟨_, rfl, _, _, rfl, rfl, ?_⟩
        refine ⟨_, rfl, _, rfl, t, _, _, _, rfl, rfl, h1, at1, a, _, rfl, SqT.of e2, ?_⟩
        have naD : a ≠ D := fun z => by rw [z, hd] at e2; cases e2
        have naM : a ≠ M := fun z => by rw [z, hm] at e2; cases e2
        refine for_it ENU.walk_enT (fun i σ H3 => ∃ (kvs : List (Key × V)) (x6 x7 : Option V), Same H H3 ∧ H3 a = some (oTup row) ∧ H3 D = some (.dK kvs) ∧ Keys kvs ((row.take i).foldl addN o) ∧ H3 M = some (.lst (((row.take i).foldl addN o).map V.int)) ∧ Few n ((row.take i).foldl addN o) ∧
          σ = [some (.ref t), some (.int st), some (.ref D), some (.ref M), some (.int ((j : Int) + 1)), some (.int r), x6, x7]) ?_ (fun i σ H3 _ ⟨_, _, _, _, h, _⟩ => SqT.of h) ?_ ?_
        · exact ⟨kvs, x6, x7, s2, e2, hd, keys, hm, few, rfl⟩
        · rintro i x σ H3 H4 hi ⟨kvs, x6, x7, s3, ha3, hd3, keys3, hm3, few3, rfl⟩ ⟨T2, y, rfl, hT2, rfl, hy⟩
          rw [List.getElem?_map] at hy
          cases hc : row[i]? with
          | none => rw [hc] at hy; cases hy
          | some y2 =>
            rw [hc] at hy
            obtain rfl : V.int y2 = y := Option.some.inj hy
            have yin := rb y2 (List.mem_of_getElem? hc)
            have tk : (row.take (i + 1)).foldl addN o = addN ((row.take i).foldl addN o) y2 := by
              rw [List.take_add_one, hc, List.foldl_append] <;> rfl
            rw [tk]
            generalize (row.take i).foldl addN o = o3 at keys3 hm3 few3 ⊢
            have hlen3 : (o3.length : Int) ≤ n := few3.len.elim id fun z => by rw [z]; show (0 : Int) ≤ n; omega
            have s4 : Same H3 (upd H3 T2 (.tup [.int (i : Nat), .int y2])) := same_upd hT2
            have ha4 := s4 _ _ ha3
            have hd4 := s4 _ _ hd3
            have hm4 := s4 _ _ hm3
            have tu : (upd H3 T2 (.tup [.int (i : Nat), .int y2])) T2 = some (.tup [.int (i : Nat), .int y2]) := upd_same
            have s04 := s3.trans s4
            generalize upd H3 T2 (.tup [.int (i : Nat), .int y2]) = H4 at ha4 hd4 hm4 tu s04 ⊢
            refine ⟨T2, _, rfl, SqT.of tu, rfl, _, _, rfl, _, _, rfl, rfl, ?_⟩
            refine ⟨_, rfl, _, rfl, D, _, rfl, DGet.k (k := (Sum.inl y2 : Key)) hd4, _, rfl, ?_⟩
            by_cases hin : y2 ∈ o3
            · obtain ⟨v, hv⟩ := Option.ne_none_iff_exists'.mp ((keys3.val y2).mpr hin)
              rw [hv]
              refine iteF ?_
              refine ⟨kvs, _, _, s04, ha4, hd4, ?_, ?_, ?_, rfl⟩
              · unfold addN
                rw [if_pos hin]
                exact keys3
              · unfold addN
                rw [if_pos hin]
                exact hm4
              · unfold addN
                rw [if_pos hin]
                exact few3
            · have hv : valV kvs (Sum.inl y2 : Key) = none := Classical.byContradiction fun z => hin ((keys3.val y2).mp z)
              rw [hv]
              refine iteT ?_
              refine ⟨_, rfl, _, rfl, by show 2 ≤ sizeLine; decide, fun T3 hT3 => ?_⟩
              have s5 : Same H4 (upd H4 T3 (.tup [.int r, .int (i : Nat)])) := same_upd hT3
              refine ⟨_, rfl, _, rfl, D, _, rfl, DPut.k (k := (Sum.inl y2 : Key)) (s5 _ _ hd4) (by rw [keys3.len, sizeLine_eq]; omega), ?_⟩
              have hd5 := s5 _ _ hd4
              have hm5 := s5 _ _ hm4
              have ha5 := s5 _ _ ha4
              have s05 := s04.trans s5
              generalize upd H4 T3 (.tup [.int r, .int (i : Nat)]) = H5 at hd5 hm5 ha5 s05 ⊢
              have hm6 : upd H5 D (.dK (putK kvs (Sum.inl y2) (.ref T3))) M = some (.lst (o3.map V.int)) := by
                rw [upd_ne (Ne.symm nDM)]
                exact hm5
              refine ⟨_, rfl, .inl ⟨rfl, _, SqL.of hm6⟩, _, rfl, M, _, _, rfl, rfl, hm6, by rw [List.length_map, sizeLine_eq]; omega, ?_⟩
              refine ⟨putK kvs (Sum.inl y2) (.ref T3), _, _, same_at (same_at s05 nD) nM, ?_, ?_, ?_, ?_, few3.add yin, rfl⟩
              · rw [upd_ne naM, upd_ne naD]
                exact ha5
              · rw [upd_ne nDM, upd_same]
              · unfold addN
                rw [if_neg hin]
                exact keys3.put hin _
              · rw [upd_same]
                unfold addN
                rw [if_neg hin, List.map_append] <;> rfl
        · rintro σ H3 ⟨kvs, x6, x7, s3, ha3, hd3, keys3, hm3, few3, rfl⟩
          rw [List.length_map, List.take_length, ← hstep] at keys3 hm3 few3
          refine ⟨⟨j + 1, kvs, _, _, _, s3, hd3, keys3, hm3, few3, ?_, rfl⟩, ?_⟩
          · have : o.length ≤ (wyA tb st (j + 1)).length := by rw [hstep]; exact (addF_grows row o).length_le
            omega
          · show n.toNat - ((j : Int) + 1).toNat < n.toNat - ((j : Int)).toNat
            omega
      · have hge : ¬ (((j : Nat) : Int) < (((wyA tb st j).length : Nat) : Int)) := fun z => hge (decide_eq_true z)
        have e1 : wyA tb st tb.length = wyA tb st j := by
          have h4 := wyA_stop (tb := tb) (st := st) (j := j) (by omega) (tb.length - j)
          have := ok.len
          rw [show j + (tb.length - j) = tb.length by omega] at h4
          exact h4
        refine ⟨_, rfl, q D kvs H2 hD s2 hd ?_ ?_⟩
        · rw [e1]
          exact keys
        · rw [e1]
          exact few
    · exact fun σ H Q Q' hm ⟨v, hv, w', hw, M2, ys2, e2, hs2, i, j, a, b, k, hk, q⟩ => ⟨v, hv, w', hw, M2, ys2, e2, hs2, i, j, a, b, k, hk, hm _ _ q⟩
abbrev sTrim : Stmt := top 14
abbrev scTI : Scope := { kind := .function, names := [(".0", .local), ("row", .local), ("tuple", .globalImplicit), ("numbers", .cell), ("table", .cell)], isGenerator := false, isCoroutine := false }
abbrev NTr : List Str := ["table", "start", "order", "numbers", "row", "at", "after"]
/-- all rows are met, each as its number tells -/
structure LeanT (tb : List (List Int)) : Prop where
  all : wyA tb 0 tb.length = rngI tb.length
theorem scTr : FnScope NTr ["table", "start"] (defScope sTrim) := ⟨rfl, rfl, rfl, by decide +kernel, rfl, by decide +kernel, by decide +kernel⟩
end
theorem rows_tt {K : Frag} {H : Hp} {r : Addr} {tb : List (List Int)} (h : RowsAt H r tb) : TTab K H r tb := let ⟨ts, a, b⟩ := h; ⟨ts, SqT.of a, b⟩
end WK
set_option Elab.async false
set_option linter.all false
set_option maxRecDepth 100000
namespace KN
section
variable (row : Nat → List Nat)
/-- one is reached from another -/
inductive Rch : Nat → Nat → Prop where
  | refl (a : Nat) : Rch a a
  | step {a b c : Nat} (h : Rch a b) (e : c ∈ row b) : Rch a c
end
section
variable {row : Nat → List Nat}
theorem Rch.trans {a b c : Nat} (h : Rch row a b) (g : Rch row b c) : Rch row a c := by
  induction g with
  | refl => exact h
  | step _ e ih => exact .step ih e
theorem Rch.edge {a b : Nat} (e : b ∈ row a) : Rch row a b := .step (.refl a) e
/-- by the first step -/
theorem Rch.head {Pr : Nat → Prop} {a b : Nat} (h : Rch row a b) (h0 : Pr b) (hs : ∀ x y, y ∈ row x → Rch row a x → Rch row y b → Pr y → Pr x) : Pr a := by
  have go : ∀ x, Rch row a x → Rch row x b → Pr x → Pr a := by
    intro x hx
    induction hx with
    | refl => exact fun _ p => p
    | step hy e ih => exact fun g p => ih ((Rch.edge e).trans g) (hs _ _ e hy g p)
  exact go b h (.refl b) h0
def Scc (row : Nat → List Nat) (a b : Nat) : Prop := Rch row a b ∧ Rch row b a
theorem Scc.symm {a b : Nat} (h : Scc row a b) : Scc row b a := ⟨h.2, h.1⟩
theorem Scc.trans {a b c : Nat} (h : Scc row a b) (g : Scc row b c) : Scc row a c := ⟨h.1.trans g.1, g.2.trans h.2⟩
theorem Scc.refl (a : Nat) : Scc row a a := ⟨.refl a, .refl a⟩
/-- one on the way: a row, the column to look at, how many were finished when it was met -/
structure On where
  v : Nat
  c : Nat
  d : Nat
/-- what holds while rows are finished: met, finished, on the way (the newest first) -/
structure Dfs (n : Nat) (row : Nat → List Nat) (M o : List Nat) (S : List On) : Prop where
  rng : ∀ x ∈ M, x < n
  mem : ∀ x, x ∈ M ↔ x ∈ o ∨ ∃ t ∈ S, t.v = x
  nd : o.Nodup
  ndS : (S.map (·.v)).Nodup
  off : ∀ t ∈ S, t.v ∉ o
  way : S.Pairwise fun x y => Rch row y.v x.v
  ds : ∀ t ∈ S, t.d ≤ o.length ∧ ∀ (m u : Nat), t.d ≤ m → o[m]? = some u → Rch row t.v u
  col : ∀ t ∈ S, t.c ≤ (row t.v).length ∧ ∀ (j b : Nat), j < t.c → (row t.v)[j]? = some b → b ∈ M
  fin : ∀ (i a : Nat), o[i]? = some a → ∀ b ∈ row a, b ∈ M ∧ (∀ t ∈ S, t.v = b → t.d ≤ i) ∧ ∀ j, o[j]? = some b → i < j → ∀ (m u : Nat), i ≤ m → m < j → o[m]? = some u → Rch row b u
theorem Dfs.start {n : Nat} : Dfs n row [] [] [] :=
  ⟨fun _ h => absurd h List.not_mem_nil, fun _ => ⟨fun h => absurd h List.not_mem_nil, fun h => h.elim (fun z => absurd z List.not_mem_nil) fun ⟨_, z, _⟩ => absurd z List.not_mem_nil⟩, List.nodup_nil, List.nodup_nil, fun _ h => absurd h List.not_mem_nil, List.Pairwise.nil, fun _ h => absurd h List.not_mem_nil, fun _ h => absurd h List.not_mem_nil, fun i a h => by simp at h⟩
variable {n : Nat} {M o : List Nat} {S : List On}
/-- a row that is new is met -/
theorem Dfs.meet (D : Dfs n row M o S) {w : Nat} (hw : w < n) (new : w ∉ M) (way : ∀ t ∈ S, Rch row t.v w) : Dfs n row (M ++ [w]) o (⟨w, 0, o.length⟩ :: S) := by
  have keep : ∀ {x}, x ∈ M → x ∈ M ++ [w] := fun h => List.mem_append_left _ h
  refine ⟨fun x hx => ?_, fun x => ?_, D.nd, ?_, fun t ht => ?_, List.pairwise_cons.mpr ⟨fun t ht => way t ht, D.way⟩, fun t ht => ?_, fun t ht => ?_, fun i a ha b hb => ?_⟩
  · rcases List.mem_append.mp hx with h | h
    · exact D.rng x h
    · rw [List.mem_singleton.mp h]
      exact hw
  · rw [List.mem_append, D.mem x, List.mem_singleton]
    constructor
    · rintro ((h | ⟨t, ht, e⟩) | rfl)
      · exact .inl h
      · exact .inr ⟨t, .tail _ ht, e⟩
      · exact .inr ⟨_, .head _, rfl⟩
    · rintro (h | ⟨t, ht, e⟩)
      · exact .inl (.inl h)
      · rcases List.mem_cons.mp ht with rfl | ht
        · exact .inr e.symm
        · exact .inl (.inr ⟨t, ht, e⟩)
  · rw [List.map_cons]
    refine List.nodup_cons.mpr ⟨fun h => new ?_, D.ndS⟩
    obtain ⟨t, ht, e⟩ := List.mem_map.mp h
    exact (D.mem w).mpr (.inr ⟨t, ht, e⟩)
  · rcases List.mem_cons.mp ht with rfl | ht
    · exact fun h => new ((D.mem w).mpr (.inl h))
    · exact D.off t ht
  · rcases List.mem_cons.mp ht with rfl | ht
    · refine ⟨Nat.le_refl _, fun m u hm hu => ?_⟩
      have := (List.getElem?_eq_some_iff.mp hu).1
      exact absurd this (Nat.not_lt.mpr hm)
    · exact D.ds t ht
  · rcases List.mem_cons.mp ht with rfl | ht
    · exact ⟨Nat.zero_le _, fun j b hj => absurd hj (Nat.not_lt_zero j)⟩
    · exact ⟨(D.col t ht).1, fun j b hj hb => keep ((D.col t ht).2 j b hj hb)⟩
  · obtain ⟨h1, h2, h3⟩ := D.fin i a ha b hb
    refine ⟨keep h1, fun t ht e => ?_, h3⟩
    rcases List.mem_cons.mp ht with rfl | ht
    · exact absurd (show w ∈ M by rw [show w = b from e]; exact h1) new
    · exact h2 t ht e
/-- a column is gone by; what is there is met -/
theorem Dfs.next {v c d : Nat} (D : Dfs n row M o (⟨v, c, d⟩ :: S)) {w : Nat} (hw : (row v)[c]? = some w) (met : w ∈ M) : Dfs n row M o (⟨v, c + 1, d⟩ :: S) := by
  have top := D.col _ (.head _)
  refine ⟨D.rng, fun x => ?_, D.nd, D.ndS, fun t ht => ?_, List.pairwise_cons.mpr ⟨(List.pairwise_cons.mp D.way).1, (List.pairwise_cons.mp D.way).2⟩, fun t ht => ?_, fun t ht => ?_, fun i a ha b hb => ?_⟩
  · rw [D.mem x]
    constructor
    · rintro (h | ⟨t, ht, e⟩)
      · exact .inl h
      · rcases List.mem_cons.mp ht with rfl | ht
        · exact .inr ⟨_, .head _, e⟩
        · exact .inr ⟨t, .tail _ ht, e⟩
    · rintro (h | ⟨t, ht, e⟩)
      · exact .inl h
      · rcases List.mem_cons.mp ht with rfl | ht
        · exact .inr ⟨_, .head _, e⟩
        · exact .inr ⟨t, .tail _ ht, e⟩
  · rcases List.mem_cons.mp ht with rfl | ht
    · exact D.off ⟨v, c, d⟩ (.head _)
    · exact D.off t (.tail _ ht)
  · rcases List.mem_cons.mp ht with rfl | ht
    · exact D.ds ⟨v, c, d⟩ (.head _)
    · exact D.ds t (.tail _ ht)
  · rcases List.mem_cons.mp ht with rfl | ht
    · refine ⟨(List.getElem?_eq_some_iff.mp hw).1, fun j b hj hb => ?_⟩
      by_cases e : j = c
      · subst e
        obtain rfl : w = b := Option.some.inj (hw.symm.trans hb)
        exact met
      · have hj : j < c + 1 := hj
        exact top.2 j b (show j < c by omega) hb
    · exact D.col t (.tail _ ht)
  · obtain ⟨h1, h2, h3⟩ := D.fin i a ha b hb
    refine ⟨h1, fun t ht e => ?_, h3⟩
    rcases List.mem_cons.mp ht with rfl | ht
    · exact h2 ⟨v, c, d⟩ (.head _) e
    · exact h2 t (.tail _ ht) e
/-- a column is gone by, below the newest -/
theorem Dfs.under {x : On} {v c d : Nat} (D : Dfs n row M o (x :: ⟨v, c, d⟩ :: S)) {w : Nat} (hw : (row v)[c]? = some w) (met : w ∈ M) : Dfs n row M o (x :: ⟨v, c + 1, d⟩ :: S) := by
  have second := D.col _ (.tail _ (.head _))
  have cases_ : ∀ {Pr : On → Prop}, (∀ t ∈ x :: (⟨v, c, d⟩ : On) :: S, Pr t) → Pr ⟨v, c + 1, d⟩ → ∀ t ∈ x :: (⟨v, c + 1, d⟩ : On) :: S, Pr t := fun h k t ht => by
    rcases List.mem_cons.mp ht with rfl | ht
    · exact h _ (.head _)
    · rcases List.mem_cons.mp ht with rfl | ht
      · exact k
      · exact h t (.tail _ (.tail _ ht))
  refine ⟨D.rng, fun y => ?_, D.nd, D.ndS, cases_ D.off (D.off ⟨v, c, d⟩ (.tail _ (.head _))), ?_, cases_ D.ds (D.ds ⟨v, c, d⟩ (.tail _ (.head _))), cases_ D.col ?_, fun i a ha b hb => ?_⟩
  · rw [D.mem y]
    constructor
    · rintro (h | ⟨t, ht, e⟩)
      · exact .inl h
      · rcases List.mem_cons.mp ht with rfl | ht
        · exact .inr ⟨_, .head _, e⟩
        · rcases List.mem_cons.mp ht with rfl | ht
          · exact .inr ⟨_, .tail _ (.head _), e⟩
          · exact .inr ⟨t, .tail _ (.tail _ ht), e⟩
    · rintro (h | ⟨t, ht, e⟩)
      · exact .inl h
      · rcases List.mem_cons.mp ht with rfl | ht
        · exact .inr ⟨_, .head _, e⟩
        · rcases List.mem_cons.mp ht with rfl | ht
          · exact .inr ⟨_, .tail _ (.head _), e⟩
          · exact .inr ⟨t, .tail _ (.tail _ ht), e⟩
  · obtain ⟨w1, w2⟩ := List.pairwise_cons.mp D.way
    obtain ⟨w3, w4⟩ := List.pairwise_cons.mp w2
    refine List.pairwise_cons.mpr ⟨fun t ht => ?_, List.pairwise_cons.mpr ⟨w3, w4⟩⟩
    rcases List.mem_cons.mp ht with rfl | ht
    · exact w1 ⟨v, c, d⟩ (.head _)
    · exact w1 t (.tail _ ht)
  · refine ⟨(List.getElem?_eq_some_iff.mp hw).1, fun j b hj hb => ?_⟩
    by_cases e : j = c
    · subst e
      obtain rfl : w = b := Option.some.inj (hw.symm.trans hb)
      exact met
    · have hj : j < c + 1 := hj
      exact second.2 j b (show j < c by omega) hb
  · obtain ⟨h1, h2, h3⟩ := D.fin i a ha b hb
    exact ⟨h1, cases_ h2 (h2 ⟨v, c, d⟩ (.tail _ (.head _))), h3⟩
/-- a new row is met from the newest -/
theorem Dfs.step {v c d : Nat} (D : Dfs n row M o (⟨v, c, d⟩ :: S)) {w : Nat} (hw : (row v)[c]? = some w) (lt : w < n) (new : w ∉ M) : Dfs n row (M ++ [w]) o (⟨w, 0, o.length⟩ :: ⟨v, c + 1, d⟩ :: S) :=
  (D.meet lt new fun t ht => by
    have e : Rch row v w := Rch.edge (List.mem_of_getElem? hw)
    rcases List.mem_cons.mp ht with rfl | ht
    · exact e
    · exact ((List.pairwise_cons.mp D.way).1 t ht).trans e).under hw (List.mem_append_right _ (List.mem_singleton.mpr rfl))
/-- a row is finished -/
theorem Dfs.done {v c d : Nat} (D : Dfs n row M o (⟨v, c, d⟩ :: S)) (hc : c = (row v).length) : Dfs n row M (o ++ [v]) S := by
  have top := D.ds _ (.head _)
  have lo : ∀ {m u : Nat}, m < o.length → (o ++ [v])[m]? = some u → o[m]? = some u := fun hm h => by rwa [List.getElem?_append_left hm] at h
  have hi : ∀ {m u : Nat}, ¬ m < o.length → (o ++ [v])[m]? = some u → m = o.length ∧ v = u := fun {m u} hm h => by
    have h1 := (List.getElem?_eq_some_iff.mp h).1
    rw [List.length_append, List.length_singleton] at h1
    obtain rfl : m = o.length := by omega
    rw [List.getElem?_append_right (Nat.le_refl _), Nat.sub_self] at h
    exact ⟨rfl, Option.some.inj h⟩
  have chain := (List.pairwise_cons.mp D.way).1
  refine ⟨D.rng, fun x => ?_, ?_, (List.nodup_cons.mp D.ndS).2, fun t ht h => ?_, (List.pairwise_cons.mp D.way).2, fun t ht => ?_, fun t ht => D.col t (.tail _ ht), fun i a ha b hb => ?_⟩
  · rw [D.mem x, List.mem_append, List.mem_singleton]
    constructor
    · rintro (h | ⟨t, ht, e⟩)
      · exact .inl (.inl h)
      · rcases List.mem_cons.mp ht with rfl | ht
        · exact .inl (.inr e.symm)
        · exact .inr ⟨t, ht, e⟩
    · rintro ((h | rfl) | ⟨t, ht, e⟩)
      · exact .inl h
      · exact .inr ⟨_, .head _, rfl⟩
      · exact .inr ⟨t, .tail _ ht, e⟩
  · refine List.nodup_append.mpr ⟨D.nd, List.nodup_cons.mpr ⟨List.not_mem_nil, List.nodup_nil⟩, fun x hx y hy e => ?_⟩
    rw [List.mem_singleton.mp hy] at e
    exact D.off _ (.head _) (e ▸ hx)
  · rcases List.mem_append.mp h with h | h
    · exact D.off t (.tail _ ht) h
    · have h := List.mem_singleton.mp h
      exact (List.nodup_cons.mp D.ndS).1 (List.mem_map.mpr ⟨t, ht, h⟩)
  · obtain ⟨h1, h2⟩ := D.ds t (.tail _ ht)
    refine ⟨by rw [List.length_append]; exact Nat.le_succ_of_le h1, fun m u hm hu => ?_⟩
    by_cases lt : m < o.length
    · exact h2 m u hm (lo lt hu)
    · rw [← (hi lt hu).2]
      exact chain t ht
  · by_cases lt : i < o.length
    · obtain ⟨h1, h2, h3⟩ := D.fin i a (lo lt ha) b hb
      refine ⟨h1, fun t ht e => h2 t (.tail _ ht) e, fun j hj hij m u him hmj hu => ?_⟩
      by_cases ltj : j < o.length
      · exact h3 j (lo ltj hj) hij m u him hmj (lo (Nat.lt_trans hmj ltj) hu)
      · obtain ⟨rfl, rfl⟩ := hi ltj hj
        have di := h2 _ (.head _) rfl
        exact top.2 m u (Nat.le_trans di him) (lo hmj hu)
    · obtain ⟨rfl, rfl⟩ := hi lt ha
      refine ⟨?_, fun t ht e => (D.ds t (.tail _ ht)).1, fun j hj hij => ?_⟩
      · obtain ⟨j, hj⟩ := List.mem_iff_getElem?.mp hb
        have := (List.getElem?_eq_some_iff.mp hj).1
        exact (D.col _ (.head _)).2 j b (show j < c by omega) hj
      · have := (List.getElem?_eq_some_iff.mp hj).1
        rw [List.length_append, List.length_singleton] at this
        omega
/-- an order in which all is finished -/
structure Fin (n : Nat) (row : Nat → List Nat) (o : List Nat) : Prop where
  nd : o.Nodup
  all : ∀ x, x ∈ o ↔ x < n
  back : ∀ (i a : Nat), o[i]? = some a → ∀ b ∈ row a, ∀ j, o[j]? = some b → i < j → ∀ (m u : Nat), i ≤ m → m < j → o[m]? = some u → Rch row b u
theorem Dfs.whole (D : Dfs n row M o []) (all : ∀ x < n, x ∈ M) : Fin n row o :=
  ⟨D.nd, fun x => ⟨fun h => D.rng x ((D.mem x).mpr (.inl h)), fun h => ((D.mem x).mp (all x h)).elim id fun ⟨_, z, _⟩ => absurd z List.not_mem_nil⟩, fun i a ha b hb => (D.fin i a ha b hb).2.2⟩
variable (cl : ∀ x < n, ∀ y ∈ row x, y < n)
include cl in
theorem Rch.lt {a b : Nat} (h : Rch row a b) (ha : a < n) : b < n := by
  induction h with
  | refl => exact ha
  | step _ e ih => exact cl _ ih _ e
include cl in
/-- what is reached and finished later: there is one of the same knot that is finished later -/
theorem Fin.later (F : Fin n row o) {u y iu iy : Nat} (h : Rch row u y) (hu : o[iu]? = some u) (hy : o[iy]? = some y) (lt : iu < iy) : ∃ p ip, o[ip]? = some p ∧ iu < ip ∧ Scc row u p := by
  have un : u < n := (F.all u).mp (List.mem_of_getElem? hu)
  induction h generalizing iy with
  | refl =>
    have := (List.getElem?_eq_some_iff.mp hu).1
    have e := (List.getElem?_inj this F.nd).mp (hu.trans hy.symm)
    omega
  | @step x y h e ih =>
    have xn : x < n := Rch.lt cl h un
    obtain ⟨ix, hx⟩ := List.mem_iff_getElem?.mp ((F.all x).mpr xn)
    by_cases l : iu < ix
    · exact ih hx l
    · refine ⟨y, iy, hy, lt, .step h e, ?_⟩
      exact F.back ix x hx y e iy hy (by omega) iu u (by omega) lt hu
include cl in
/-- what is not taken and reaches the last one that is not taken is of its knot -/
theorem Fin.knot (F : Fin n row o) {T : List Nat} (hT : ∀ x ∈ T, ∀ y, Scc row x y → y ∈ T) {s i : Nat} (hs : o[i]? = some s) (late : ∀ j y, o[j]? = some y → i < j → y ∈ T) {x : Nat} (xn : x < n) (xT : x ∉ T) (h : Rch row x s) : Scc row x s := by
  have go : ∀ (k iu u : Nat), o.length - iu ≤ k → o[iu]? = some u → Scc row x u → Scc row x s := by
    intro k
    induction k with
    | zero =>
      intro iu u hk hu _
      have := (List.getElem?_eq_some_iff.mp hu).1
      omega
    | succ k ih =>
      intro iu u hk hu su
      have lu := (List.getElem?_eq_some_iff.mp hu).1
      rcases Nat.lt_trichotomy iu i with lt | rfl | gt
      · obtain ⟨p, ip, hp, l, sp⟩ := F.later cl (su.2.trans h) hu hs lt
        exact ih ip p (by omega) hp (su.trans sp)
      · obtain rfl : u = s := Option.some.inj (hu.symm.trans hs)
        exact su
      · exact absurd (hT u (late iu u hu gt) x su.symm) xT
  obtain ⟨ix, hx⟩ := List.mem_iff_getElem?.mp ((F.all x).mpr xn)
  exact go _ ix x (Nat.le_refl _) hx (Scc.refl x)
include cl in
/-- what is led back to, without what is taken, is the knot -/
theorem Fin.led (F : Fin n row o) {T K : List Nat} (hT : ∀ x ∈ T, ∀ y, Scc row x y → y ∈ T) {s i : Nat} (hs : o[i]? = some s) (late : ∀ j y, o[j]? = some y → i < j → y ∈ T) (sT : s ∉ T) (sK : s ∈ K) (from_ : ∀ x ∈ K, x < n ∧ x ∉ T ∧ Rch row x s) (to_ : ∀ x ∈ K, ∀ y < n, x ∈ row y → y ∉ T → y ∈ K) (x : Nat) : x ∈ K ↔ Scc row s x := by
  have sn : s < n := (F.all s).mp (List.mem_of_getElem? hs)
  constructor
  · intro hx
    obtain ⟨a, b, c⟩ := from_ x hx
    exact (F.knot cl hT hs late a b c).symm
  · rintro ⟨h1, h2⟩
    refine Rch.head (Pr := fun z => z ∈ K) h2 sK fun z y e hz hy yK => ?_
    have sz : Rch row s z := h1.trans hz
    exact to_ y yK z (Rch.lt cl sz sn) e fun zT => sT (hT z zT s ⟨(Rch.edge e).trans hy, sz⟩)
end
end KN
set_option Elab.async false
set_option linter.all false
set_option maxRecDepth 100000
set_option maxHeartbeats 4000000
namespace TU
open PySem PyProof.Rows TS Srt
section
variable {prog : Program} {w : World} {A : Around} {E : Value → Shared → Prop} {s : Shared}
theorem lex_same {b : Bool} {Q : Bool → Shared → Prop} (q : Q false s) {xs : List Value} {ns : List Int} (hx : IntsAre xs ns) : ∀ {ys : List Value} (i : Nat), IntsAre ys ns → PySem.W.KatLex prog w A b false Q (xs.zip ys) i s := by
  induction hx with
  | nil => exact fun _ _ => PySem.W.kat_nil q
  | cons p t _ ih =>
    intro ys i hy
    cases hy with
    | cons _ u hy =>
      refine PySem.W.kat_cons (wpAny_eqBool_int ?_)
      rw [show (p == p) = true from beq_self_eq_true p]
      exact PySem.W.kat_yes (ih (i + 1) hy)
/-- each a tuple with a first number, which tells it -/
structure Told (h : Heap) (vs : List Value) : Prop where
  tup : ∀ v ∈ vs, ∃ n ns, TupInts h v (n :: ns)
  one : ∀ u ∈ vs, ∀ v ∈ vs, ∀ n ns ms, TupInts h u (n :: ns) → TupInts h v (n :: ms) → ns = ms
theorem Told.firsts {h : Heap} : ∀ {vs : List Value}, (∀ v ∈ vs, ∃ n ns, TupInts h v (n :: ns)) → ∃ fs, PySem.W.KatTups h vs fs ∧ fs.length = vs.length ∧ ∀ f ∈ fs, ∃ n t, f = Value.int n t
  | [], _ => ⟨[], .nil, rfl, fun _ hf => absurd hf List.not_mem_nil⟩
  | v :: vs, x => by
    obtain ⟨fs, k, len, are⟩ := Told.firsts (vs := vs) fun u hu => x u (.tail _ hu)
    obtain ⟨n, ns, a, xs, rfl, ⟨o, at_a, isT, c, dat⟩, isI⟩ := x v (.head _)
    obtain ⟨y, ys, e⟩ : ∃ y ys, xs.toList = y :: ys := by
      cases hxs : xs.toList with
      | nil =>
        rw [hxs] at isI
        cases isI
      | cons y ys => exact ⟨y, ys, rfl⟩
    obtain ⟨m, t, ey⟩ := isI.all y (e ▸ .head _)
    have first : xs[0]? = some y := by
      have z := congrArg (fun l : List Value => l[0]?) e
      simpa using z
    refine ⟨y :: fs, .cons at_a isT dat first k, congrArg Nat.succ len, fun f hf => ?_⟩
    rcases List.mem_cons.mp hf with rfl | hf
    · exact ⟨m, t, ey⟩
    · exact are f hf
theorem kind_u {vs : List Value} (h2 : 2 ≤ vs.length) (x : Told s.heap vs) (r : Value → Int) (hr : ∀ v ∈ vs, ∀ n ns, TupInts s.heap v (n :: ns) → r v = n) (Q : SortKind → Shared → Prop) (h : ∀ κ, Cmp prog w A s κ (pairsOf vs) r → Q κ s) : wpAny (model prog w) A (keyKind' vs.toArray) Q E s := by
  obtain ⟨fs, k, len, are⟩ := Told.firsts x.tup
  refine PySem.W.kat_kind (T := Value.type "int") k (by omega) (fun f hf => ?_) rfl (h _ fun p q hp hq Q' E' hQ => ?_)
  · obtain ⟨n, t, rfl⟩ := are f hf
    exact PySem.W.Looks.of_pure rfl
  · rw [pairsOf_toList] at hp hq
    have mp := (mem_zip_self hp).2
    have mq := (mem_zip_self hq).2
    obtain ⟨m, ms, tp⟩ := x.tup _ mp
    obtain ⟨n, ns, tq⟩ := x.tup _ mq
    have same := x.one _ mp _ mq
    rw [hr _ mp _ _ tp, hr _ mq _ _ tq] at hQ
    have tp' := tp
    have tq' := tq
    obtain ⟨a, xs, ea, ⟨o, at_a, _, c, dat⟩, isI⟩ := tp
    obtain ⟨a', ys, ea', ⟨o', at_a', _, c', dat'⟩, isJ⟩ := tq
    rw [ea, ea']
    refine PySem.W.kat_lt at_a dat at_a' dat' ?_
    by_cases e : m = n
    · subst e
      have em := same m ms ns tp' tq'
      subst em
      have lx := isI.length
      have ly := isJ.length
      rw [show decide (xs.size < ys.size) = false from decide_eq_false (by rw [Array.length_toList] at lx ly; omega)]
      rw [show decide (m < m) = false from decide_eq_false (Int.lt_irrefl m)] at hQ
      exact lex_same hQ isI 0 isJ
    · generalize xs.toList = l at isI
      generalize ys.toList = l' at isJ
      cases isI with
      | cons _ t rest =>
        cases isJ with
        | cons _ u rest' =>
          refine PySem.W.kat_cons (wpAny_eqBool_int ?_)
          rw [show (m == n) = false from beq_eq_false_iff_ne.mpr e]
          exact PySem.W.kat_no (oneLt_ints _ hQ)
theorem Told.keeps {h h' : Heap} {vs : List Value} (x : Told h vs) (k : ∀ b o, h.get? b = some o → o.cls = .type "tuple" → h'.get? b = some o) : Told h' vs where
  tup := fun v hv => let ⟨n, ns, t⟩ := x.tup v hv; ⟨n, ns, t.keeps k⟩
  one := fun u hu v hv n ns ms t1 t2 => by
    obtain ⟨n1, ns1, d1⟩ := x.tup u hu
    obtain ⟨n2, ns2, d2⟩ := x.tup v hv
    have e1 : n :: ns = n1 :: ns1 := t1.ints.symm.trans (d1.keeps k).ints
    have e2 : n :: ms = n2 :: ns2 := t2.ints.symm.trans (d2.keeps k).ints
    injection e1 with e1 e3
    injection e2 with e2 e4
    subst e1 e2 e3 e4
    exact x.one u hu v hv _ _ _ d1 d2
theorem Told.rank {h h' : Heap} {vs : List Value} (x : Told h vs) (k : ∀ b o, h.get? b = some o → o.cls = .type "tuple" → h'.get? b = some o) : ∀ v ∈ vs, ∀ n ns, TupInts h' v (n :: ns) → (intsOf h v).headD 0 = n := fun v hv n ns t => by
  obtain ⟨n1, ns1, d1⟩ := x.tup v hv
  have e1 : n :: ns = n1 :: ns1 := t.ints.symm.trans (d1.keeps k).ints
  rw [d1.ints, ← e1] <;> rfl
theorem sort_u {a : Addr} {vs : List Value} {n : Nat} {P : PySem.Fin → Shared → Prop} (ho : s.heap.get? a = some (seqObj "list" vs.toArray n)) (h64 : vs.length < 64) (x : Told s.heap vs) (r : Value → Int) (hr : ∀ v ∈ vs, ∀ n ns, TupInts s.heap v (n :: ns) → r v = n)
    (h : ∀ out : Array Value, out.toList.Perm vs → out.toList.Pairwise (fun u v => r u ≤ r v) → P (.done (.ret .none)) { s with heap := sortedHeap s.heap a vs out }) : wpAny (model prog w) A (Builtin.«list.sort» ⟨[.ref a], []⟩) P E s := by
  have tups : ∀ b o, s.heap.get? b = some o → o.cls = .type "tuple" → (midHeap s.heap a vs).get? b = some o := fun b o at_b isT => midHeap_old (fun e => by
    subst e
    rw [← Option.some.inj (ho.symm.trans at_b)] at isT
    have isT : Value.type "list" = Value.type "tuple" := isT
    injection isT with isT
    exact absurd isT (by decide)) at_b
  refine SK.plain_sort (r := r) ho h64 (fun h2 Q hQ => kind_u (s := { s with heap := midHeap s.heap a vs }) h2 (x.keeps tups) r (fun v hv n ns t => ?_) Q hQ) fun ps out h1 h2 h3 => ?_
  · obtain ⟨n1, ns1, d1⟩ := x.tup v hv
    have e1 : n :: ns = n1 :: ns1 := t.ints.symm.trans (d1.keeps tups).ints
    injection e1 with e1 _
    rw [e1]
    exact hr v hv _ _ d1
  · exact let ⟨p, o⟩ := out_rank h1 h2 h3; h out p o
theorem sorted_u {l : Addr} {vs : List Value} {Q : Value → Shared → Prop} (hl : s.heap.IsList l vs.toArray) (h64 : vs.length < 64) (x : Told s.heap vs)
    (h : ∀ out : Array Value, out.toList.Perm vs → out.toList.Pairwise (fun u v => (intsOf s.heap u).headD 0 ≤ (intsOf s.heap v).headD 0) → Q (.ref (s.heap.objs.size + 1)) { s with heap := sortedAll s.heap vs out }) : wpAny (model prog w) A (call (.builtin "sorted") [.ref l]) Q E s := by
  refine Calls.call_function_entry kind_sorted plain_sorted entry_sorted (args_sorted1 _) ?_
  unfold Builtin.«sorted»
  have room : vs.length ≤ sizeLine := by rw [sizeLine_eq]; omega
  refine wpAny_bind (m := checkCount "sorted" 1 1 _) (wpAny_pure (wpAny_bind (collect_list hl (wpAny_bind (wpAny_newList ?_ room)) room)))
  have size1 : ((s.heap.push (seqObj "list" #[] 0)).update s.heap.objs.size (Obj.mapSeq (· ++ vs.toArray))).objs.size = s.heap.objs.size + 1 := (Heap.size_update ..).trans (size_push' ..)
  have atL : (((s.heap.push (seqObj "list" #[] 0)).update s.heap.objs.size (Obj.mapSeq (· ++ vs.toArray))).push (seqObj "list" vs.toArray 0)).get? (s.heap.objs.size + 1) = some (seqObj "list" vs.toArray 0) := size1 ▸ Heap.get?_push_size _ rfl
  have stay : ∀ b o, s.heap.get? b = some o → o.cls = .type "tuple" → (((s.heap.push (seqObj "list" #[] 0)).update s.heap.objs.size (Obj.mapSeq (· ++ vs.toArray))).push (seqObj "list" vs.toArray 0)).get? b = some o := fun b o at_b _ => by
    have lt : b < s.heap.objs.size := Heap.lt_size at_b
    have n1 : b ≠ s.heap.objs.size := Nat.ne_of_lt lt
    refine Heap.get?_push_of_some _ ?_
    rw [Heap.get?_update_ne _ _ _ _ n1]
    exact Heap.get?_push_of_some _ at_b
  show wpAny _ _ _ _ _ { s with heap := ((s.heap.push (seqObj "list" #[] 0)).update s.heap.objs.size (Obj.mapSeq (· ++ vs.toArray))).push (seqObj "list" vs.toArray 0) }
  rw [size1]
  exact wpAny_bind (wpAny_holding (wpAny_call_entry slot_list_sort ⟨_, atL, rfl⟩ entry_list_sort (sort_u atL h64 (x.keeps stay) (fun v => (intsOf s.heap v).headD 0) (x.rank stay) fun out a1 a2 => ⟨_, rfl, wpAny_pure ⟨_, rfl, h out a1 a2⟩⟩) (args_list_sort _)))
end
end TU
namespace L2
open PySem PySem.Spec PyProof.Rows
section
variable {X : Cx}
/-- sorted(xs) of tuples of numbers, told by f, each with a first number that tells it -/
def rSortN (K : PySem.W.Frag) : List V → Hp → VK → Prop := fun vs H Q => ∃ (a : Addr) (xs : List V) (f : V → List Int), vs = [V.ref a] ∧ SqL K H a xs ∧ xs.length < 64 ∧ (∀ x ∈ xs, TupI K H x (f x) ∧ f x ≠ []) ∧ (∀ x ∈ xs, ∀ y ∈ xs, (f x).headD 0 = (f y).headD 0 → f x = f y) ∧
  ∀ (ys : List V) (p : Addr), ys.Perm xs → ys.Pairwise (fun x y => (f x).headD 0 ≤ (f y).headD 0) → H p = none → Q (.ref p) (upd H p (.lst ys))
theorem cr_sortN : CallR X (.builtin "sorted") (rSortN X.K) := by
  rintro pins s σ H vs us Q I r ⟨a, xs, f, rfl, hs, h64, all, one, q⟩
  obtain ⟨its, rv, hl, hz⟩ := I.list hs
  rw [Vals.ref1 r]
  obtain ⟨ex, back⟩ := bkV_refs rv fun x m => let ⟨⟨t, e, _⟩, _⟩ := all x m; ⟨t, e⟩
  have len := rv.length
  have inX : ∀ {t : Addr}, Value.ref t ∈ its → V.ref t ∈ xs := fun {t} m => ex ▸ List.mem_map.mpr ⟨_, m, rfl⟩
  have raw : ∀ {t : Addr}, V.ref t ∈ xs → TS.TupInts s.heap (.ref t) (f (.ref t)) := fun {t} m => by
    obtain ⟨⟨t', e, ht⟩, _⟩ := all _ m
    cases e
    exact tupI_raw I ht
  have cons : ∀ {t : Addr}, V.ref t ∈ xs → ∃ ns, f (.ref t) = (f (.ref t)).headD 0 :: ns := fun {t} m => by
    have ne := (all _ m).2
    revert ne
    cases f (.ref t) with
    | nil => exact fun z => absurd rfl z
    | cons n ns => exact fun _ => ⟨ns, rfl⟩
  refine TU.sorted_u hl.isList (by omega) ⟨fun v hv => ?_, fun u hu v hv n ns ms d1 d2 => ?_⟩ fun out h1 h2 => ?_
  · obtain ⟨t, rfl⟩ := back v hv
    obtain ⟨ns, e⟩ := cons (inX hv)
    exact ⟨_, ns, e ▸ raw (inX hv)⟩
  · obtain ⟨t, rfl⟩ := back u hu
    obtain ⟨t', rfl⟩ := back v hv
    have e1 : n :: ns = f (.ref t) := d1.ints.symm.trans (raw (inX hu)).ints
    have e2 : n :: ms = f (.ref t') := d2.ints.symm.trans (raw (inX hv)).ints
    have e := one _ (inX hu) _ (inX hv) (by rw [← e1, ← e2] <;> rfl)
    rw [← e1, ← e2] at e
    exact (List.cons.inj e).2
  · obtain ⟨ep, isL⟩ := PyProof.Rows.sortedAll_at s.heap its out
    have refs : ∀ u ∈ out.toList, ∃ a, u = Value.ref a := fun u hu => back u (h1.mem_iff.mp hu)
    have perm : (out.toList.map bkV).Perm xs := ex ▸ h1.map bkV
    have few : (out.toList.map bkV).length ≤ sizeLine := perm.length_eq ▸ hz
    refine ⟨.ref _, upd H (s.heap.objs.size + 1) (.lst (out.toList.map bkV)), I.laid (t' := s.toks) (fun _ _ => PyProof.Rows.sortedAll_old) (Nat.le_succ _) ⟨few, out.toList, ep, bkV_vals refs, isL⟩, rfl, q _ _ perm ?_ (I.hok.fresh (Nat.le_succ _))⟩
    refine List.pairwise_map.mpr (h2.imp_of_mem fun {u v} hu hv le => ?_)
    obtain ⟨t, rfl⟩ := refs u hu
    obtain ⟨t', rfl⟩ := refs v hv
    rw [(raw (inX (h1.mem_iff.mp hu))).ints, (raw (inX (h1.mem_iff.mp hv))).ints] at le
    exact le
end
end L2
set_option Elab.async false
set_option linter.all false
set_option maxRecDepth 100000
set_option maxHeartbeats 8000000
namespace WK
open PySem L2 PyProof.Rows LCX K1 FV DP
open TX (sg sigs)
open PySem.W (Frag kitOne)
abbrev sNotTaken : Stmt := top 22
abbrev NNt : List Str := ["back", "start", "taken", "met", "queue", "row", "ahead"]
def nI (l : List Nat) : List Int := l.map fun x => ((x : Nat) : Int)
theorem nI_mem {l : List Nat} {x : Nat} : ((x : Nat) : Int) ∈ nI l ↔ x ∈ l := by
  unfold nI
  rw [List.mem_map]
  exact ⟨fun ⟨y, hy, e⟩ => by rwa [← Int.ofNat.inj e], fun h => ⟨x, h, rfl⟩⟩
theorem nI_len (l : List Nat) : (nI l).length = l.length := List.length_map _
theorem nI_snoc (l : List Nat) (x : Nat) : nI (l ++ [x]) = nI l ++ [((x : Nat) : Int)] := by
  unfold nI
  rw [List.map_append] <;> rfl
/-- a dict of lists, for each row one -/
structure Back (H : Hp) (bk : Addr) (n : Nat) (bs : Nat → List Nat) : Prop where
  ex : ∃ kvs : List (Key × V), H bk = some (.dK kvs) ∧ ∀ x < n, ∃ l, valV kvs (Sum.inl ((x : Nat) : Int) : Key) = some (.ref l) ∧ H l = some (.lst ((nI (bs x)).map V.int))
  few : ∀ x < n, (bs x).length ≤ 1000
  lt : ∀ x < n, ∀ y ∈ bs x, y < n
theorem Back.same {H H' : Hp} {bk : Addr} {n : Nat} {bs : Nat → List Nat} (h : Back H bk n bs) (s : Same H H') : Back H' bk n bs := by
  obtain ⟨⟨kvs, h1, h2⟩, h3, h4⟩ := h
  refine ⟨⟨kvs, s _ _ h1, fun x hx => ?_⟩, h3, h4⟩
  obtain ⟨l, e1, e2⟩ := h2 x hx
  exact ⟨l, e1, s _ _ e2⟩
def spNotTaken : Sp := fun vs H Q _ => ∃ (bk tk : Addr) (n s : Nat) (bs : Nat → List Nat) (tks : List (Key × V)) (T : List Nat), vs = [.ref bk, .int ((s : Nat) : Int), .ref tk] ∧ Back H bk n bs ∧ n ≤ 100 ∧ s < n ∧ H tk = some (.dK tks) ∧ Keys tks (nI T) ∧ s ∉ T ∧
  ∀ (p : Addr) (W : List Nat) H', H p = none → Same H H' → H' p = some (.lst ((nI W).map V.int)) → W.Nodup → s ∈ W → (∀ x ∈ W, x < n ∧ x ∉ T ∧ KN.Rch bs s x) → (∀ x ∈ W, ∀ y ∈ bs x, y ∉ T → y ∈ W) → Q (.ref p) H'
/-- met and still to look at -/
structure Nt (n : Nat) (bs : Nat → List Nat) (T W Z : List Nat) (s : Nat) (left : Nat → Nat → Prop) : Prop where
  nd : W.Nodup
  st : s ∈ W
  sub : ∀ x ∈ Z, x ∈ W
  all : ∀ x ∈ W, x < n ∧ x ∉ T ∧ KN.Rch bs s x
  clo : ∀ x ∈ W, x ∉ Z → ∀ y ∈ bs x, y ∉ T → y ∈ W ∨ left x y
theorem Nt.few {n : Nat} {bs : Nat → List Nat} {T W Z : List Nat} {s : Nat} {left : Nat → Nat → Prop} (h : Nt n bs T W Z s left) : W.length ≤ n := by
  have := h.nd.length_le_of_subset (fun x hx => List.mem_range.mpr (h.all x hx).1 : W ⊆ List.range n)
  rwa [List.length_range] at this
theorem Nt.pop {n : Nat} {bs : Nat → List Nat} {T W Z : List Nat} {r s : Nat} (h : Nt n bs T W (Z ++ [r]) s fun _ _ => False) : Nt n bs T W Z s fun x y => x = r ∧ y ∈ (bs r).drop 0 :=
  ⟨h.nd, h.st, fun x hx => h.sub x (List.mem_append_left _ hx), h.all, fun x hx hz y hy hT => by
    by_cases e : x = r
    · exact .inr ⟨e, e ▸ hy⟩
    · exact .inl ((h.clo x hx (fun z => (List.mem_append.mp z).elim hz fun z => e (List.mem_singleton.mp z)) y hy hT).elim id False.elim)⟩
theorem Nt.skip {n : Nat} {bs : Nat → List Nat} {T W Z : List Nat} {r s i y : Nat} (h : Nt n bs T W Z s fun x z => x = r ∧ z ∈ (bs r).drop i) (hy : (bs r)[i]? = some y) (no : y ∈ W ∨ y ∈ T) : Nt n bs T W Z s fun x z => x = r ∧ z ∈ (bs r).drop (i + 1) :=
  ⟨h.nd, h.st, h.sub, h.all, fun x hx hz z hzx hT => by
    rcases h.clo x hx hz z hzx hT with a | ⟨rfl, b⟩
    · exact .inl a
    · have e : (bs x).drop i = y :: (bs x).drop (i + 1) := by
        obtain ⟨lt, e⟩ := List.getElem?_eq_some_iff.mp hy
        rw [← e]
        exact (List.getElem_cons_drop (h := lt)).symm
      rw [e] at b
      rcases List.mem_cons.mp b with rfl | b
      · exact .inl (no.resolve_right hT)
      · exact .inr ⟨rfl, b⟩⟩
theorem Nt.add {n : Nat} {bs : Nat → List Nat} {T W Z : List Nat} {r s i y : Nat} (h : Nt n bs T W Z s fun x z => x = r ∧ z ∈ (bs r).drop i) (hr : r ∈ W) (hy : (bs r)[i]? = some y) (yn : y < n) (yW : y ∉ W) (yT : y ∉ T) : Nt n bs T (W ++ [y]) (Z ++ [y]) s fun x z => x = r ∧ z ∈ (bs r).drop (i + 1) := by
  refine ⟨List.nodup_append.mpr ⟨h.nd, List.nodup_cons.mpr ⟨List.not_mem_nil, List.nodup_nil⟩, fun x hx z hz e => ?_⟩, List.mem_append_left _ h.st, fun x hx => ?_, fun x hx => ?_, fun x hx hz z hzx hT => ?_⟩
  · rw [List.mem_singleton.mp hz] at e
    exact yW (e ▸ hx)
  · rcases List.mem_append.mp hx with z | z
    · exact List.mem_append_left _ (h.sub x z)
    · exact List.mem_append_right _ z
  · rcases List.mem_append.mp hx with z | z
    · exact h.all x z
    · rw [List.mem_singleton.mp z]
      exact ⟨yn, yT, .step (h.all r hr).2.2 (List.mem_of_getElem? hy)⟩
  · have xy : x ≠ y := fun e => hz (e ▸ List.mem_append_right _ (List.mem_singleton.mpr rfl))
    have xW : x ∈ W := (List.mem_append.mp hx).elim id fun z => absurd (List.mem_singleton.mp z) xy
    rcases h.clo x xW (fun z => hz (List.mem_append_left _ z)) z hzx hT with a | ⟨rfl, b⟩
    · exact .inl (List.mem_append_left _ a)
    · have e : (bs x).drop i = y :: (bs x).drop (i + 1) := by
        obtain ⟨lt, e⟩ := List.getElem?_eq_some_iff.mp hy
        rw [← e]
        exact (List.getElem_cons_drop (h := lt)).symm
      rw [e] at b
      rcases List.mem_cons.mp b with rfl | b
      · exact .inl (List.mem_append_right _ (List.mem_singleton.mpr rfl))
      · exact .inr ⟨rfl, b⟩
theorem Nt.end_ {n : Nat} {bs : Nat → List Nat} {T W Z : List Nat} {r s : Nat} (h : Nt n bs T W Z s fun x z => x = r ∧ z ∈ (bs r).drop (bs r).length) : Nt n bs T W Z s fun _ _ => False :=
  ⟨h.nd, h.st, h.sub, h.all, fun x hx hz y hy hT => (h.clo x hx hz y hy hT).imp id fun ⟨_, b⟩ => by
    rw [List.drop_length] at b
    exact absurd b List.not_mem_nil⟩
section
variable {P : Program} {w : World} {K : PySem.W.Frag} {mg : Str → Option Value} {base : Heap}
theorem scNt : FnScope NNt ["back", "start", "taken"] (defScope sNotTaken) := ⟨rfl, rfl, rfl, by decide +kernel, rfl, by decide +kernel, by decide +kernel⟩
theorem ok_nottaken {f : Addr} {fd : FuncData} (F : Fun K "_not_taken" "_not_taken" sNotTaken f fd) (T : TN mg) : FnOk P w K mg base CX0 1 f fd ["back", "start", "taken"] spNotTaken := by
  refine F.ok scNt (fun vs H Q E h => ?_) (fun cdv A outer s H vs Q E hr h => ?_)
  · obtain ⟨bk, tk, n, s, _, _, _, rfl, _⟩ := h
    rfl
  · obtain ⟨bk, tk, n, st, bs, tks, Tk, rfl, hb, n1, sn, htk, ktk, sT, q⟩ := h
    have hub := hu_of hr
    refine ⟨_, pss_cons (ps_set (i := 3) scNt.nd rfl (Or.inl rfl) (pe_disp1 (Nat.lt_of_succ_lt hub) (pv 1) pe_bl))
      (pss_cons (ps_set (i := 4) scNt.nd rfl (Or.inl rfl) (pe_lst (pa_cons (pv 1) pa_nil)))
      (pss_cons (ps_while PassesOwn.never (pt_truth (pv 4) (fun _ => rfl))
        (pss_cons (ps_set (i := 5) scNt.nd rfl (Or.inl rfl) (pe_bm0 PySem.F.plainAttrs_list PySem.F.slot_list_pop PySem.F.type_list_pop mt_pop (pv 4)))
        (pss_one (ps_for PassesOwn.never rfl (pi_list (pe_dget hub (pv 0) (pv 5) (fun _ _ => rfl))) (pg_name (i := 6) scNt.nd rfl (Or.inl rfl))
          (pss_one (ps_if (PW.pt (pw_and (pt_cmp (pc_dnotin hub (pv 6) (pv 3))) (pw_and1 (pt_cmp (pc_dnotin hub (pv 6) (pv 2))))))
            (pss_cons (ps_dput hub (pv 3) (pv 6) pe_bl rfl)
            (pss_one (ps_expr (pe_bm PySem.F.plainAttrs_list PySem.F.slot_list_append PySem.F.type_list_append mt_append (pv 4) (pa_cons (pv 6) pa_nil))))) pss_nil))))))
      (pss_one (ps_ret (pe_callTy (call_listD rfl) (by rfl) T.list (by decide +kernel) (pa_cons (pv 3) pa_nil)))))), ?_⟩
    refine ⟨.dK [], .inl rfl, fun D hD => ⟨_, rfl, _, DPut.k (kvs := []) (k := (Sum.inl ((st : Nat) : Int) : Key)) upd_same (by show 0 < sizeLine; decide), ?_⟩⟩
    rw [upd_upd]
    refine ⟨_, rfl, by show 1 ≤ sizeLine; decide, fun M hM => ?_⟩
    have nD : H D = none := hD
    have nDM : D ≠ M := fun z => by rw [← z, upd_same] at hM; cases hM
    have nM : H M = none := (same_upd hD).free hM
    have i1 : Nt n bs Tk [st] [st] st fun _ _ => False := ⟨List.nodup_cons.mpr ⟨List.not_mem_nil, List.nodup_nil⟩, .head _, fun _ h => h, fun x hx => by
      rw [List.mem_singleton.mp hx]
      exact ⟨sn, sT, .refl st⟩, fun x hx hz => absurd hx hz⟩
    refine ⟨fun m σ H2 => ∃ (W Z : List Nat) (kvs : List (Key × V)) (x5 x6 : Option V), m = 2 * (n - W.length) + Z.length ∧ Nt n bs Tk W Z st (fun _ _ => False) ∧ Same H H2 ∧ H2 D = some (.dK kvs) ∧ Keys kvs (nI W) ∧ H2 M = some (.lst ((nI Z).map V.int)) ∧ 2 * (n - W.length) + Z.length ≤ 2 * n ∧
      σ = [some (.ref bk), some (.int ((st : Nat) : Int)), some (.ref tk), some (.ref D), some (.ref M), x5, x6], ⟨_, [st], [st], _, none, none, rfl, i1, same_two (same_upd hD) hM, same_upd hM _ _ upd_same, rfl, upd_same, by show 2 * (n - 1) + 1 ≤ 2 * n; omega, rfl⟩, ?_⟩
    rintro m σ H2 ⟨W, Z, kvs, x5, x6, rfl, nt, s2, hd, keys, hm, few, rfl⟩
    refine ⟨_, rfl, _, .inl ⟨_, SqL.of hm, rfl⟩, ?_⟩
    obtain rfl | ⟨Z, r, rfl⟩ : Z = [] ∨ ∃ Y r, Z = Y ++ [r] := (List.eq_nil_or_concat Z).imp id fun ⟨Y, r, e⟩ => ⟨Y, r, e.trans List.concat_eq_append⟩
    · refine iteF ?_
      have ek : (kvs.map fun kv => kV kv.1) = (nI W).map V.int := by
        have h := congrArg (List.map kV) (show kvs.map (·.1) = (nI W).map (Sum.inl : Int → Key) from keys)
        rw [List.map_map, List.map_map] at h
        exact h
      refine ⟨_, rfl, D, _, rfl, .inl hd, fun p hp => ?_⟩
      rw [ek]
      exact q p W _ (s2.free hp) (s2.trans (same_upd hp)) upd_same nt.nd nt.st nt.all fun x hx y hy hT => (nt.clo x hx List.not_mem_nil y hy hT).elim id False.elim
    · refine ite2 (fun _ => ?_) (fun h => ?_)
      rotate_left
      · refine absurd ?_ h
        unfold nI
        simp
      have ex : (nI (Z ++ [r])).map V.int = (nI Z).map V.int ++ [.int ((r : Nat) : Int)] := by
        rw [nI_snoc, List.map_append] <;> rfl
      rw [ex] at hm
      have hW := nt.few
      rw [List.length_append, List.length_singleton] at few
      have hy : ((nI Z).map V.int ++ [V.int ((r : Nat) : Int)])[((nI Z).map V.int ++ [V.int ((r : Nat) : Int)]).length - 1]? = some (V.int ((r : Nat) : Int)) := by
        rw [List.length_append, List.length_singleton, Nat.add_sub_cancel, List.getElem?_append_right (Nat.le_refl _), Nat.sub_self] <;> rfl
      refine ⟨_, fun _ _ h => h, ?_⟩
      have nt1 := nt.pop
      have rW : r ∈ W := nt.sub r (List.mem_append_right _ (List.mem_singleton.mpr rfl))
      have rn := (nt.all r rW).1
      refine ⟨_, rfl, .inl ⟨rfl, _, SqL.of hm⟩, M, _, _, rfl, rfl, hm, hy, ?_⟩
      rw [List.dropLast_concat]
      have s3 : Same H (upd H2 M (.lst ((nI Z).map V.int))) := same_at s2 nM
      have hd3 : (upd H2 M (.lst ((nI Z).map V.int))) D = some (.dK kvs) := (upd_ne nDM).trans hd
      have hm3 : (upd H2 M (.lst ((nI Z).map V.int))) M = some (.lst ((nI Z).map V.int)) := upd_same
      generalize upd H2 M (.lst ((nI Z).map V.int)) = H3 at s3 hd3 hm3 ⊢
      obtain ⟨bks, hbk, hbs⟩ := hb.ex
      obtain ⟨l, hv, hl⟩ := hbs r rn
      have lD : l ≠ D := fun z => by rw [z, nD] at hl; cases hl
      have lM : l ≠ M := fun z => by rw [z, nM] at hl; cases hl
      have hbr := hb.few r rn
      have hblt := hb.lt r rn
      have dgb : ∀ {H' : Hp}, Same H H' → DGet H' bk (kV (Sum.inl ((r : Nat) : Int) : Key)) (some (.ref l)) := fun s => hv ▸ DGet.k (k := (Sum.inl ((r : Nat) : Int) : Key)) (s _ _ hbk)
      refine ⟨_, rfl, _, rfl, bk, _, rfl, dgb s3, ?_⟩
      refine ⟨l, rfl, ⟨_, SqL.of (s3 _ _ hl)⟩, ?_⟩
      have el : ((nI (bs r)).map V.int).length = (bs r).length := by rw [List.length_map, nI_len]
      refine for_it walk_list (fun i σ H4 => ∃ (W' Z' : List Nat) (kvs' : List (Key × V)) (y6 : Option V), Nt n bs Tk W' Z' st (fun x z => x = r ∧ z ∈ (bs r).drop i) ∧ r ∈ W' ∧ 2 * (n - W'.length) + Z'.length ≤ 2 * (n - W.length) + Z.length ∧ Same H H4 ∧ H4 D = some (.dK kvs') ∧ Keys kvs' (nI W') ∧ H4 M = some (.lst ((nI Z').map V.int)) ∧
        σ = [some (.ref bk), some (.int ((st : Nat) : Int)), some (.ref tk), some (.ref D), some (.ref M), some (.int ((r : Nat) : Int)), y6]) ⟨W, Z, kvs, x6, nt1, rW, Nat.le_refl _, s3, hd3, keys, hm3, rfl⟩ (fun i σ H4 _ ⟨_, _, _, _, _, _, _, s, _⟩ => SqL.of (s _ _ hl)) ?_ ?_
      · rintro i x σ H4 H5 hi ⟨W', Z', kvs', y6, nt4, rW4, le4, s4, hd4, keys4, hm4, rfl⟩ ⟨rfl, hx⟩
        rw [el] at hi
        obtain ⟨y, ey⟩ : ∃ y, (bs r)[i]? = some y := ⟨_, List.getElem?_eq_getElem hi⟩
        obtain rfl : x = .int ((y : Nat) : Int) := by
          unfold nI at hx
          rw [List.getElem?_map, List.getElem?_map, ey] at hx
          exact (Option.some.inj hx).symm
        have yn := hblt y (List.mem_of_getElem? ey)
        have hW4 := nt4.few
        refine ⟨_, rfl, _, rfl, D, _, rfl, DGet.k (k := (Sum.inl ((y : Nat) : Int) : Key)) hd4, _, rfl, ?_⟩
        by_cases yW : y ∈ W'
        · obtain ⟨v, hv⟩ := Option.ne_none_iff_exists'.mp ((keys4.val _).mpr (nI_mem.mpr yW))
          rw [hv]
          refine iteF ?_
          exact ⟨W', Z', kvs', _, nt4.skip ey (.inl yW), rW4, le4, s4, hd4, keys4, hm4, rfl⟩
        have hv : valV kvs' (Sum.inl ((y : Nat) : Int) : Key) = none := Classical.byContradiction fun z => yW (nI_mem.mp ((keys4.val _).mp z))
        rw [hv]
        refine iteT ?_
        refine ⟨_, rfl, _, rfl, tk, _, rfl, DGet.k (k := (Sum.inl ((y : Nat) : Int) : Key)) (s4 _ _ htk), _, rfl, ?_⟩
        by_cases yT : y ∈ Tk
        · obtain ⟨v, hv⟩ := Option.ne_none_iff_exists'.mp ((ktk.val _).mpr (nI_mem.mpr yT))
          rw [hv]
          refine iteF ?_
          exact ⟨W', Z', kvs', _, nt4.skip ey (.inr yT), rW4, le4, s4, hd4, keys4, hm4, rfl⟩
        have hv2 : valV tks (Sum.inl ((y : Nat) : Int) : Key) = none := Classical.byContradiction fun z => yT (nI_mem.mp ((ktk.val _).mp z))
        rw [hv2]
        refine iteT ?_
        have nt5 := nt4.add rW4 ey yn yW yT
        have few5 := nt5.few
        rw [List.length_append, List.length_singleton] at few5
        refine ⟨_, rfl, _, rfl, D, _, rfl, DPut.k (k := (Sum.inl ((y : Nat) : Int) : Key)) hd4 (by rw [keys4.len, nI_len, sizeLine_eq]; omega), ?_⟩
        have hm5 : upd H5 D (.dK (putK kvs' (Sum.inl ((y : Nat) : Int)) (.bl true))) M = some (.lst ((nI Z').map V.int)) := (upd_ne (Ne.symm nDM)).trans hm4
        refine ⟨_, rfl, .inl ⟨rfl, _, SqL.of hm5⟩, _, rfl, M, _, _, rfl, rfl, hm5, by rw [List.length_map, nI_len, sizeLine_eq]; omega, ?_⟩
        refine ⟨W' ++ [y], Z' ++ [y], _, _, nt5, List.mem_append_left _ rW4, ?_, same_at (same_at s4 nD) nM, (upd_ne nDM).trans upd_same, ?_, ?_, rfl⟩
        · rw [List.length_append, List.length_append, List.length_singleton]
          omega
        · rw [nI_snoc]
          exact keys4.put (fun z => yW (nI_mem.mp z)) _
        · rw [upd_same, nI_snoc, List.map_append] <;> rfl
      · rintro σ H4 ⟨W', Z', kvs', y6, nt4, rW4, le4, s4, hd4, keys4, hm4, rfl⟩
        rw [el] at nt4
        refine ⟨_, ?_, W', Z', kvs', _, _, rfl, nt4.end_, s4, hd4, keys4, hm4, by omega, rfl⟩
        rw [List.length_append, List.length_singleton]
        omega
end
end WK
set_option Elab.async false
set_option linter.all false
set_option maxRecDepth 100000
set_option maxHeartbeats 8000000
namespace WK
open PySem L2 PyProof.Rows LCX K1 FV DP
open TX (sg sigs)
open PySem.W (Frag kitOne)
abbrev sTurned : Stmt := top 20
abbrev NTu : List Str := ["table", "row", "back", "afters", "after"]
def rowN (tb : List (List Int)) (x : Nat) : List Nat := (tb.getD x []).map Int.toNat
/-- addresses, each by its place -/
def kvF4 (ls : List Addr) (s : Nat) : List (Key × V) := (ls.zipIdx s).map fun q => ((Sum.inl ((q.2 : Nat) : Int) : Key), V.ref q.1)
theorem kv4_val (ls : List Addr) : ∀ (s i : Nat), valV (kvF4 ls s) (Sum.inl (((s + i : Nat) : Nat) : Int) : Key) = (ls[i]?).map V.ref := by
  induction ls with
  | nil => exact fun _ _ => rfl
  | cons a ls ih =>
    intro s i
    have e : kvF4 (a :: ls) s = ((Sum.inl ((s : Nat) : Int) : Key), V.ref a) :: kvF4 ls (s + 1) := by
      unfold kvF4
      rw [List.zipIdx_cons] <;> rfl
    rw [e]
    unfold valV
    rw [List.find?_cons]
    cases i with
    | zero =>
      rw [show decide (((Sum.inl ((s : Nat) : Int) : Key), V.ref a).1 = (Sum.inl (((s + 0 : Nat) : Nat) : Int) : Key)) = true from decide_eq_true rfl] <;> rfl
    | succ i =>
      have ne : decide (((Sum.inl ((s : Nat) : Int) : Key), V.ref a).1 = (Sum.inl (((s + (i + 1) : Nat) : Nat) : Int) : Key)) = false := decide_eq_false fun z => by
        have := Sum.inl.inj z
        omega
      rw [ne]
      have h := ih (s + 1) i
      rw [show s + 1 + i = s + (i + 1) by omega] at h
      exact h
theorem kv4_len (ls : List Addr) (s : Nat) : (kvF4 ls s).length = ls.length := by
  unfold kvF4
  rw [List.length_map, List.length_zipIdx]
theorem kv4_snoc (ls : List Addr) (a : Addr) : putK (kvF4 ls 0) (Sum.inl ((ls.length : Nat) : Int) : Key) (.ref a) = kvF4 (ls ++ [a]) 0 := by
  have h := kv4_val ls 0 ls.length
  rw [Nat.zero_add, List.getElem?_eq_none (Nat.le_refl _)] at h
  rw [putK_new _ h]
  unfold kvF4
  rw [List.zipIdx_append, List.map_append, Nat.zero_add] <;> rfl
def spTurned (K : Frag) : Sp := fun vs H Q _ => ∃ (t : Addr) (tb : List (List Int)) (wd : Nat) (n : Int), vs = [.ref t] ∧ TTab K H t tb ∧ TabOk tb wd n ∧ tb.length * wd ≤ 1000 ∧ tb.length ≤ 100 ∧
  ∀ (p : Addr) (bs : Nat → List Nat) H', H p = none → Same H H' → Back H' p tb.length bs → (∀ x < tb.length, ∀ y, y ∈ bs x ↔ y < tb.length ∧ x ∈ rowN tb y) → Q (.ref p) H'
theorem sqT9 {K : Frag} {H H' : Hp} {a : Addr} {xs : List V} (h : SqT K H a xs) (s : Same H H') : SqT K H' a xs := by
  rcases h with (z | ⟨o, z⟩) | z
  · exact .inl (.inl (s _ _ z))
  · exact .inl (.inr ⟨o, s _ _ z⟩)
  · exact .inr z
section
variable {P : Program} {w : World} {K : PySem.W.Frag} {mg : Str → Option Value} {base : Heap}
theorem scTu : FnScope NTu ["table"] (defScope sTurned) := ⟨rfl, rfl, rfl, by decide +kernel, rfl, by decide +kernel, by decide +kernel⟩
theorem ok_turned {f : Addr} {fd : FuncData} (F : Fun K "_turned_round" "_turned_round" sTurned f fd) (T : TN mg) (en : mg "enumerate" = none) : FnOk P w K mg base CX0 1 f fd ["table"] (spTurned K) := by
  refine F.ok scTu (fun vs H Q E h => ?_) (fun cdv A outer s H vs Q E hr h => ?_)
  · obtain ⟨t, _, _, _, rfl, _⟩ := h
    rfl
  · obtain ⟨t, tb, wd, n, rfl, hT, ok, mul, n1, q⟩ := h
    have hub := hu_of hr
    refine ⟨_, pss_cons (ps_setDc (i := 2) (own := [("row", 1)]) (g := gName 1) (tt := tYes) (tk := tVar 1) (tv := tLst tNil) rfl scTu.nd rfl rfl (by rfl) (pi_range1 rfl T.rng (pa_cons (pe_callB call_len_seq (by rfl) T.len PySem.boot_len (pa_cons (pv 0) pa_nil)) pa_nil))
          (blkOk_by (own := [("row", 1)]) (N := NTu) (sc := defScope sTurned) (by decide +kernel)) (fun _ _ _ _ _ => pg_name (i := 1) scTu.nd rfl (Or.inl rfl)) (fun _ _ _ _ _ => pts_nil) (fun _ _ _ _ _ => pv 1) (fun _ _ _ _ _ => pe_lst pa_nil))
      (pss_cons (ps_for PassesOwn.never rfl (ENU.pi_enT rfl en (pa_cons (pv 0) pa_nil)) (pg_tup (by rfl) (pgs_cons (pg_name (i := 1) scTu.nd rfl (Or.inl rfl)) (pgs_cons (pg_name (i := 3) scTu.nd rfl (Or.inl rfl)) pgs_nil)))
          (pss_one (ps_for PassesOwn.never rfl (pi_tup (pv 3)) (pg_name (i := 4) scTu.nd rfl (Or.inl rfl))
            (pss_one (ps_expr (pe_bm PySem.F.plainAttrs_list PySem.F.slot_list_append PySem.F.type_list_append mt_append (pe_dget hub (pv 2) (pv 4) (fun _ _ => rfl)) (pa_cons (pv 1) pa_nil)))))))
      (pss_one (ps_ret (pv 2)))), ?_⟩
    obtain ⟨ts, h1, h2⟩ := id hT
    have lt := h2.len
    have okl := ok.len
    refine ⟨_, rfl, t, _, rfl, .inr h1, ((tb.length : Nat) : Int), by rw [List.length_map, lt], by omega, by omega, fun D nD => ?_⟩
    refine dc_it walk_range (fun i H3 => Same H H3 ∧ ∃ ls : List Addr, ls.length = i ∧ ls.Nodup ∧ (∀ l ∈ ls, H l = none ∧ l ≠ D ∧ H3 l = some (.lst [])) ∧ H3 D = some (.dK (kvF4 ls 0))) ⟨same_upd nD, [], rfl, List.nodup_nil, fun l hl => absurd hl List.not_mem_nil, upd_same⟩ (fun _ _ _ _ => trivial) ?_ ?_
    · rintro i xi H3 H4 hi ⟨s3, ls, ll, nd, hls, hd⟩ ⟨rfl, exi⟩
      obtain rfl : xi = .int ((i : Nat) : Int) := exi.trans (congrArg V.int (Int.zero_add _))
      rw [Int.toNat_natCast] at hi
      refine ⟨rfl, _, rfl, by show 0 ≤ sizeLine; decide, fun a na => ?_⟩
      have aD : a ≠ D := fun z => by rw [z, hd] at na; cases na
      have s4 : Same H (upd H4 a (.lst [])) := s3.trans (same_upd na)
      refine ⟨_, (Sum.inl ((i : Nat) : Int) : Key), rfl, (upd_ne (Ne.symm aD)).trans hd, by rw [kv4_len, sizeLine_eq]; omega, same_at s4 nD, ls ++ [a], by rw [List.length_append, ll] <;> rfl, ?_, fun l hl => ?_, ?_⟩
      · refine List.nodup_append.mpr ⟨nd, List.nodup_cons.mpr ⟨List.not_mem_nil, List.nodup_nil⟩, fun x hx y hy e => ?_⟩
        rw [List.mem_singleton.mp hy] at e
        rw [e] at hx
        have := (hls a hx).2.2
        rw [na] at this
        cases this
      · rcases List.mem_append.mp hl with z | z
        · obtain ⟨p1, p2, p3⟩ := hls l z
          have la : l ≠ a := fun e => by rw [e, na] at p3; cases p3
          exact ⟨p1, p2, (upd_ne p2).trans ((upd_ne la).trans p3)⟩
        · rw [List.mem_singleton.mp z]
          exact ⟨s3.free na, aD, (upd_ne aD).trans upd_same⟩
      · rw [upd_same, ← ll, kv4_snoc]
    rintro H3 ⟨s3, ls, ll, nd, hls, hd⟩
    rw [Int.toNat_natCast] at ll
    have dg : ∀ {H' : Hp} {x : Nat} {l : Addr}, H' D = some (.dK (kvF4 ls 0)) → ls[x]? = some l → DGet H' D (kV (Sum.inl ((x : Nat) : Int) : Key)) (some (.ref l)) := fun {H' x l} h e => by
      have hv := kv4_val ls 0 x
      rw [Nat.zero_add, e] at hv
      have hv : valV (kvF4 ls 0) (Sum.inl ((x : Nat) : Int) : Key) = some (.ref l) := hv
      exact hv ▸ DGet.k (k := (Sum.inl ((x : Nat) : Int) : Key)) h
    have nDH : H D = none := nD
    refine ⟨_, rfl, t, _, rfl, sqT9 h1 s3, ?_⟩
    have rl : ∀ {i : Nat}, i < tb.length → (rowN tb i).length = wd ∧ ∀ x ∈ rowN tb i, x < tb.length := fun {i} hi => by
      have e : tb.getD i [] = tb[i] := by rw [List.getD_eq_getElem?_getD, List.getElem?_eq_getElem hi] <;> rfl
      obtain ⟨r1, r2⟩ := ok.row _ (List.getElem_mem hi)
      unfold rowN
      rw [e]
      refine ⟨by rw [List.length_map, r1], fun x hx => ?_⟩
      obtain ⟨z, hz, rfl⟩ := List.mem_map.mp hx
      have := r2 z hz
      omega
    refine for_it ENU.walk_enT (fun i σ H4 => ∃ (bs : Nat → List Nat) (y1 y3 y4 : Option V), Same H H4 ∧ H4 D = some (.dK (kvF4 ls 0)) ∧ (∀ (x : Nat) (l : Addr), ls[x]? = some l → H4 l = some (.lst ((nI (bs x)).map V.int))) ∧ (∀ x < tb.length, ∀ y, y ∈ bs x ↔ y < i ∧ x ∈ rowN tb y) ∧ (∀ x < tb.length, (bs x).length ≤ i * wd) ∧
      σ = [some (.ref t), y1, some (.ref D), y3, y4]) ⟨fun _ => [], _, _, _, s3, hd, fun x l e => (hls l (List.mem_of_getElem? e)).2.2, fun x hx y => ⟨fun z => absurd z List.not_mem_nil, fun z => absurd z.1 (Nat.not_lt_zero y)⟩, fun x hx => Nat.zero_le _, rfl⟩ (fun i σ H4 _ ⟨_, _, _, _, s, _⟩ => sqT9 h1 s) ?_ ?_
    · rintro i x σ H4 H5 hi ⟨bs, y1, y3, y4, s4, hd4, hl4, mb, lb, rfl⟩ ⟨T1, y, rfl, hT1, rfl, hy⟩
      rw [List.length_map, lt] at hi
      obtain ⟨a, ea, ha⟩ := h2.get hi
      obtain rfl : y = .ref a := by
        rw [List.getElem?_map, ea] at hy
        exact (Option.some.inj hy).symm
      have s5 : Same H4 (upd H4 T1 (.tup [.int ((i : Nat) : Int), .ref a])) := same_upd hT1
      have tu : (upd H4 T1 (.tup [.int ((i : Nat) : Int), .ref a])) T1 = some (.tup [.int ((i : Nat) : Int), .ref a]) := upd_same
      generalize upd H4 T1 (.tup [.int ((i : Nat) : Int), .ref a]) = H5 at s5 tu ⊢
      have s05 := s4.trans s5
      obtain ⟨rw1, rw2⟩ := rl hi
      have er : rowN tb i = (tb.getD i []).map Int.toNat := rfl
      have r2 : ∀ z ∈ tb.getD i [], 0 ≤ z ∧ z < n := by
        rw [List.getD_eq_getElem?_getD, List.getElem?_eq_getElem hi]
        exact (ok.row _ (List.getElem_mem hi)).2
      have ha : H a = some (oTup (tb.getD i [])) := ha
      generalize tb.getD i [] = rw at ha er r2
      have lrw : rw.length = wd := by rw [er, List.length_map] at rw1; exact rw1
      refine ⟨T1, _, rfl, SqT.of tu, rfl, _, _, rfl, _, _, rfl, rfl, ?_⟩
      refine ⟨_, rfl, a, rfl, ⟨_, SqT.of (s05 _ _ ha)⟩, ?_⟩
      refine for_tup (xs := rw.map V.int) (fun j σ H6 => ∃ (bs : Nat → List Nat) (y4 : Option V), Same H H6 ∧ H6 D = some (.dK (kvF4 ls 0)) ∧ (∀ (x : Nat) (l : Addr), ls[x]? = some l → H6 l = some (.lst ((nI (bs x)).map V.int))) ∧ (∀ x < tb.length, ∀ y, y ∈ bs x ↔ (y < i ∧ x ∈ rowN tb y) ∨ (y = i ∧ x ∈ (rowN tb i).take j)) ∧ (∀ x < tb.length, (bs x).length ≤ i * wd + j) ∧
        σ = [some (.ref t), some (.int ((i : Nat) : Int)), some (.ref D), some (.ref a), y4]) ⟨bs, _, s05, s5 _ _ hd4, fun x l e => s5 _ _ (hl4 x l e), fun x hx y => (mb x hx y).trans ⟨.inl, fun z => z.elim id fun z => by simp at z⟩, lb, rfl⟩ (fun j σ H6 _ ⟨_, _, s, _⟩ => SqT.of (s _ _ ha)) ?_ ?_
      · rintro j x σ H6 hx ⟨bs, y4, s6, hd6, hl6, mb6, lb6, rfl⟩
        rw [List.getElem?_map] at hx
        obtain ⟨z, hz, rfl⟩ := Option.map_eq_some_iff.mp hx
        have zin := r2 z (List.mem_of_getElem? hz)
        obtain ⟨v, rfl⟩ : ∃ v : Nat, z = ((v : Nat) : Int) := ⟨z.toNat, by omega⟩
        have vn : v < tb.length := by omega
        have ev : (rowN tb i)[j]? = some v := by rw [er, List.getElem?_map, hz] <;> rfl
        have jl := (List.getElem?_eq_some_iff.mp hz).1
        obtain ⟨l, el⟩ : ∃ l, ls[v]? = some l := ⟨_, List.getElem?_eq_getElem (by omega)⟩
        have hl := hl6 v l el
        obtain ⟨p1, p2, p3⟩ := hls l (List.mem_of_getElem? el)
        have lbv := lb6 v vn
        have mul2 : i * wd + j ≤ 1000 := by
          have : (i + 1) * wd ≤ tb.length * wd := Nat.mul_le_mul hi (Nat.le_refl _)
          rw [Nat.succ_mul] at this
          omega
        refine ⟨_, rfl, _, rfl, D, _, rfl, dg hd6 el, .inl ⟨rfl, _, SqL.of hl⟩, _, rfl, l, _, _, rfl, rfl, hl, by rw [List.length_map, nI_len, sizeLine_eq]; omega, ?_⟩
        obtain ⟨H7, e7⟩ : ∃ H7, H7 = upd H6 l (.lst ((nI (bs v)).map V.int ++ [V.int ((i : Nat) : Int)])) := ⟨_, rfl⟩
        rw [← e7]
        have at7 : H7 l = some (.lst ((nI (bs v ++ [i])).map V.int)) := by rw [e7, upd_same, nI_snoc, List.map_append] <;> rfl
        have ne7 : ∀ {b : Addr}, b ≠ l → H7 b = H6 b := fun h => by rw [e7]; exact upd_ne h
        refine ⟨fun x => if x = v then bs v ++ [i] else bs x, _, by rw [e7]; exact same_at s6 p1, (ne7 (Ne.symm p2)).trans hd6, fun x m em => ?_, fun x hx' y => ?_, fun x hx' => ?_, rfl⟩
        · by_cases e : x = v
          · subst e
            obtain rfl : l = m := Option.some.inj (el.symm.trans em)
            show H7 l = some (.lst ((nI (if x = x then bs x ++ [i] else bs x)).map V.int))
            rw [if_pos rfl]
            exact at7
          · have ml : m ≠ l := fun z => e (by
              subst z
              have lx := (List.getElem?_eq_some_iff.mp em).1
              exact (List.getElem?_inj lx nd).mp (em.trans el.symm))
            show H7 m = some (.lst ((nI (if x = v then bs v ++ [i] else bs x)).map V.int))
            rw [if_neg e]
            exact (ne7 ml).trans (hl6 x m em)
        · have tk : (rowN tb i).take (j + 1) = (rowN tb i).take j ++ [v] := by rw [List.take_add_one, ev] <;> rfl
          rw [tk, List.mem_append, List.mem_singleton]
          show y ∈ (if x = v then bs v ++ [i] else bs x) ↔ _
          by_cases e : x = v
          · subst e
            rw [if_pos rfl, List.mem_append, List.mem_singleton, mb6 x hx' y]
            constructor
            · rintro ((z | z) | rfl)
              · exact .inl z
              · exact .inr ⟨z.1, .inl z.2⟩
              · exact .inr ⟨rfl, .inr rfl⟩
            · rintro (z | ⟨rfl, z | _⟩)
              · exact .inl (.inl z)
              · exact .inl (.inr ⟨rfl, z⟩)
              · exact .inr rfl
          · rw [if_neg e, mb6 x hx' y]
            constructor
            · rintro (z | z)
              · exact .inl z
              · exact .inr ⟨z.1, .inl z.2⟩
            · rintro (z | ⟨z1, z | z⟩)
              · exact .inl z
              · exact .inr ⟨z1, z⟩
              · exact absurd z e
        · show (if x = v then bs v ++ [i] else bs x).length ≤ _
          by_cases e : x = v
          · rw [if_pos e, List.length_append, List.length_singleton]
            omega
          · rw [if_neg e]
            have := lb6 x hx'
            omega
      · rintro σ H6 ⟨bs, y4, s6, hd6, hl6, mb6, lb6, rfl⟩
        have l1 : (rw.map V.int).length = wd := by rw [List.length_map, lrw]
        rw [l1] at mb6 lb6
        refine ⟨bs, _, _, _, s6, hd6, hl6, fun x hx y => (mb6 x hx y).trans ⟨fun z => ?_, fun z => ?_⟩, fun x hx => ?_, rfl⟩
        · rcases z with z | ⟨rfl, z⟩
          · exact ⟨by omega, z.2⟩
          · exact ⟨by omega, List.mem_of_mem_take z⟩
        · rcases Nat.lt_or_ge y i with h | h
          · exact .inl ⟨h, z.2⟩
          · obtain rfl : y = i := by omega
            refine .inr ⟨rfl, ?_⟩
            rw [List.take_of_length_le (Nat.le_of_eq rw1)]
            exact z.2
        · rw [Nat.succ_mul]
          exact lb6 x hx
    · rintro σ H4 ⟨bs, y1, y3, y4, s4, hd4, hl4, mb, lb, rfl⟩
      rw [List.length_map, lt] at mb lb
      refine ⟨_, rfl, q D bs H4 nDH s4 ⟨⟨_, hd4, fun x hx => ?_⟩, fun x hx => Nat.le_trans (lb x hx) mul, fun x hx y hy => ((mb x hx y).mp hy).1⟩ mb⟩
      obtain ⟨l, el⟩ : ∃ l, ls[x]? = some l := ⟨_, List.getElem?_eq_getElem (by omega)⟩
      have hv := kv4_val ls 0 x
      rw [Nat.zero_add, el] at hv
      exact ⟨l, hv, hl4 x l el⟩
end
end WK
set_option Elab.async false
set_option linter.all false
set_option maxRecDepth 100000
set_option maxHeartbeats 8000000
namespace WK
open PySem L2 PyProof.Rows LCX K1 FV DP
open TX (sg sigs)
open PySem.W (Frag kitOne)
abbrev sFinished : Stmt := top 21
abbrev NFi4 : List Str := ["table", "met", "order", "start", "stack", "row", "column", "after"]
theorem Objs.pop {mk : List Int → HO} {H : Hp} : ∀ {as : List Addr} {rs : List (List Int)} {r : List Int}, Objs mk H as (rs ++ [r]) → ∃ bs b, as = bs ++ [b] ∧ Objs mk H bs rs ∧ H b = some (mk r)
  | [], [], _, h => h.elim
  | [], _ :: _, _, h => h.elim
  | [a], [], _, h => ⟨[], a, rfl, trivial, h.1⟩
  | a :: b :: as, [], _, h => h.2.elim
  | a :: as, s :: rs, r, h => by
    obtain ⟨bs, b, e, h1, h2⟩ := Objs.pop (as := as) (rs := rs) (r := r) h.2
    exact ⟨a :: bs, b, by rw [e] <;> rfl, ⟨h.1, h1⟩, h2⟩
def onI (S : List KN.On) : List (List Int) := S.reverse.map fun t => [((t.v : Nat) : Int), ((t.c : Nat) : Int)]
theorem onI_cons (t : KN.On) (S : List KN.On) : onI (t :: S) = onI S ++ [[((t.v : Nat) : Int), ((t.c : Nat) : Int)]] := by
  unfold onI
  rw [List.reverse_cons, List.map_append] <;> rfl
/-- the rows on the way, as they stand -/
def Stk (H : Hp) (s : Addr) (S : List KN.On) : Prop := ∃ as : List Addr, H s = some (.lst (as.map V.ref)) ∧ Objs oTup H as (onI S)
def spFinished (K : Frag) : Sp := fun vs H Q _ => ∃ (t : Addr) (tb : List (List Int)) (wd : Nat) (n : Int), vs = [.ref t] ∧ TTab K H t tb ∧ TabOk tb wd n ∧ tb.length ≤ 100 ∧ wd ≤ 100 ∧
  ∀ (p : Addr) (o : List Nat) H', H p = none → Same H H' → H' p = some (.lst ((nI o).map V.int)) → KN.Fin tb.length (rowN tb) o → Q (.ref p) H'
theorem keys_old {kvs : List (Key × V)} {o : List Int} (h : Keys kvs o) {a : Int} (ha : a ∈ o) (v : V) : Keys (putK kvs (Sum.inl a : Key) v) o := by
  have any : kvs.any (fun p => decide (p.1 = (Sum.inl a : Key))) = true := by
    have m : (Sum.inl a : Key) ∈ kvs.map (·.1) := by
      rw [show kvs.map (·.1) = o.map (Sum.inl : Int → Key) from h]
      exact List.mem_map_of_mem ha
    obtain ⟨p, hp, e⟩ := List.mem_map.mp m
    exact List.any_eq_true.mpr ⟨p, hp, decide_eq_true e⟩
  unfold Keys putK
  rw [if_pos any, List.map_map]
  refine Eq.trans (List.map_congr_left fun p _ => ?_) h
  show (if p.1 = (Sum.inl a : Key) then (p.1, v) else p).1 = p.1
  split <;> rfl
def cost (wd : Nat) (S : List KN.On) : Nat := (S.map fun t => wd + 1 - t.c).sum
theorem cost_cons (wd : Nat) (t : KN.On) (S : List KN.On) : cost wd (t :: S) = (wd + 1 - t.c) + cost wd S := by
  unfold cost
  rw [List.map_cons, List.sum_cons]
theorem k4_stack {c : Bool} {σ : L2.St} {H1 : Hp} {Q Good : VK} (h1 : c = true → ∀ p, H1 p = none → Good (.ref p) (upd H1 p (.lst []))) (h2 : ¬ c = true → ∃ v, σ[3]? = some (some v) ∧ ∀ T, H1 T = none → ∀ p, (upd H1 T (.tup [v, .int 0])) p = none → Good (.ref p) (upd (upd H1 T (.tup [v, .int 0])) p (.lst [.ref T]))) (k : ∀ v H, Good v H → Q v H) :
    if c = true then tLst tNil σ H1 Q else tLst (tCons (tTup (tCons (tVar 3) (tCons (tC (.int 0)) tNil))) tNil) σ H1 Q := by
  cases c with
  | true => exact iteT ⟨by show 0 ≤ sizeLine; decide, fun p hp => k _ _ (h1 rfl p hp)⟩
  | false =>
    obtain ⟨v, hv, g⟩ := h2 (fun z => nomatch z)
    exact iteF ⟨_, hv, by show 2 ≤ sizeLine; decide, fun T hT => ⟨by show 1 ≤ sizeLine; decide, fun p hp => k _ _ (g T hT p hp)⟩⟩
section
variable {P : Program} {w : World} {K : PySem.W.Frag} {mg : Str → Option Value} {base : Heap}
theorem scFi4 : FnScope NFi4 ["table"] (defScope sFinished) := ⟨rfl, rfl, rfl, by decide +kernel, rfl, by decide +kernel, by decide +kernel⟩
theorem ok_finished {f : Addr} {fd : FuncData} (F : Fun K "_finished" "_finished" sFinished f fd) (T : TN mg) : FnOk P w K mg base CX0 1 f fd ["table"] (spFinished K) := by
  refine F.ok scFi4 (fun vs H Q E h => ?_) (fun cdv A outer s H vs Q E hr h => ?_)
  · obtain ⟨t, _, _, _, rfl, _⟩ := h
    rfl
  · obtain ⟨t, tb, wd, n, rfl, hT, ok, n1, w1, q⟩ := h
    have hub := hu_of hr
    refine ⟨_, pss_cons (ps_set (i := 1) scFi4.nd rfl (Or.inl rfl) pe_dnewK)
      (pss_cons (ps_set (i := 2) scFi4.nd rfl (Or.inl rfl) (pe_lst pa_nil))
      (pss_cons (ps_for PassesOwn.never rfl (pi_range1 rfl T.rng (pa_cons (pe_callB call_len_seq (by rfl) T.len PySem.boot_len (pa_cons (pv 0) pa_nil)) pa_nil)) (pg_name (i := 3) scFi4.nd rfl (Or.inl rfl))
        (pss_cons (ps_set (i := 4) scFi4.nd rfl (Or.inl rfl) (pe_ifExp (pt_cmp (pc_din hub (pv 3) (pv 1))) (pe_lst pa_nil) (pe_lst (pa_cons (pe_tup (pa_cons (pv 3) (pa_cons pe_int pa_nil))) pa_nil))))
        (pss_cons (ps_dput hub (pv 1) (pv 3) pe_bl rfl)
        (pss_one (ps_while PassesOwn.never (pt_truth (pv 4) (fun _ => rfl))
          (pss_cons (ps_asg (pe_bm0 PySem.F.plainAttrs_list PySem.F.slot_list_pop PySem.F.type_list_pop mt_pop (pv 4)) (pg_tup (n := 2) (by rfl) (pgs_cons (pg_name (i := 5) scFi4.nd rfl (Or.inl rfl)) (pgs_cons (pg_name (i := 6) scFi4.nd rfl (Or.inl rfl)) pgs_nil))))
          (pss_cons (ps_if (pt_cmpR op_eq (pv 6) (pe_callB call_len_seq (by rfl) T.len PySem.boot_len (pa_cons (pe_ix ix_tup (pv 0) (pv 5) (fun _ _ => rfl)) pa_nil)) (nomark _)) (pss_cons (ps_expr (pe_bm PySem.F.plainAttrs_list PySem.F.slot_list_append PySem.F.type_list_append mt_append (pv 2) (pa_cons (pv 5) pa_nil))) (pss_one ps_continue)) pss_nil)
          (pss_cons (ps_expr (pe_bm PySem.F.plainAttrs_list PySem.F.slot_list_append PySem.F.type_list_append mt_append (pv 4) (pa_cons (pe_tup (pa_cons (pv 5) (pa_cons (pe_op op_add (pv 6) pe_int) pa_nil))) pa_nil)))
          (pss_cons (ps_set (i := 7) scFi4.nd rfl (Or.inl rfl) (pe_ix ix_tup (pe_ix ix_tup (pv 0) (pv 5) (fun _ _ => rfl)) (pv 6) (fun _ _ => rfl)))
          (pss_one (ps_if (pt_cmp (pc_dnotin hub (pv 7) (pv 1))) (pss_cons (ps_dput hub (pv 1) (pv 7) pe_bl rfl) (pss_one (ps_expr (pe_bm PySem.F.plainAttrs_list PySem.F.slot_list_append PySem.F.type_list_append mt_append (pv 4) (pa_cons (pe_tup (pa_cons (pv 7) (pa_cons pe_int pa_nil))) pa_nil))))) pss_nil)))))))))))
      (pss_one (ps_ret (pv 2))))), ?_⟩
    obtain ⟨ts, h1, h2⟩ := id hT
    have lt := h2.len
    have okl := ok.len
    intro D nD
    have s1 : Same H (upd H D (.dK [])) := same_upd nD
    have hD1 : (upd H D (.dK [])) D = some (.dK []) := upd_same
    generalize upd H D (.dK []) = H1 at s1 hD1 ⊢
    refine ⟨by show 0 ≤ sizeLine; decide, fun O nO1 => ?_⟩
    have nO : H O = none := s1.free nO1
    have DO : D ≠ O := fun z => by rw [← z, hD1] at nO1; cases nO1
    have s2 : Same H (upd H1 O (.lst [])) := s1.trans (same_upd nO1)
    have hD2 : (upd H1 O (.lst [])) D = some (.dK []) := same_upd nO1 _ _ hD1
    have hO2 : (upd H1 O (.lst [])) O = some (.lst []) := upd_same
    generalize upd H1 O (.lst []) = H2 at s2 hD2 hO2 ⊢
    have nDH : H D = none := nD
    refine ⟨_, rfl, t, _, rfl, .inr (sqT9 h1 s2), ((tb.length : Nat) : Int), by rw [List.length_map, lt], by omega, by omega, ?_⟩
    refine for_it walk_range (fun i σ H3 => ∃ (M o : List Nat) (kvs : List (Key × V)) (y3 y4 y5 y6 y7 : Option V), KN.Dfs tb.length (rowN tb) M o [] ∧ M.Nodup ∧ (∀ x < i, x ∈ M) ∧ Same H H3 ∧ H3 D = some (.dK kvs) ∧ Keys kvs (nI M) ∧ H3 O = some (.lst ((nI o).map V.int)) ∧
      σ = [some (.ref t), some (.ref D), some (.ref O), y3, y4, y5, y6, y7]) ⟨[], [], [], _, _, _, _, _, KN.Dfs.start, List.nodup_nil, fun x hx => absurd hx (Nat.not_lt_zero x), s2, hD2, rfl, hO2, rfl⟩ (fun _ _ _ _ _ => trivial) ?_ ?_
    · rintro i xi σ H3 H4 hi ⟨M, o, kvs, y3, y4, y5, y6, y7, df, ndM, cov, s3, hD3, keys, hO3, rfl⟩ ⟨rfl, exi⟩
      obtain rfl : xi = .int ((i : Nat) : Int) := exi.trans (congrArg V.int (Int.zero_add _))
      rw [Int.toNat_natCast] at hi
      have lM : M.length ≤ tb.length := by
        have := ndM.length_le_of_subset (fun x hx => List.mem_range.mpr (df.rng x hx) : M ⊆ List.range tb.length)
        rwa [List.length_range] at this
      refine ⟨_, rfl, _, rfl, D, _, rfl, DGet.k (k := (Sum.inl ((i : Nat) : Int) : Key)) hD3, _, rfl, ?_⟩
      have inM : (valV kvs (Sum.inl ((i : Nat) : Int) : Key)).isSome = true ↔ i ∈ M := by
        rw [Option.isSome_iff_ne_none, keys.val, nI_mem]
      refine k4_stack (Good := fun v H5 => ∃ (S : Addr) (S0 : List KN.On), v = .ref S ∧ Same H H5 ∧ H5 D = some (.dK kvs) ∧ H5 O = some (.lst ((nI o).map V.int)) ∧ H S = none ∧ S ≠ D ∧ S ≠ O ∧ Stk H5 S S0 ∧ ((S0 = [] ∧ i ∈ M) ∨ (S0 = [⟨i, 0, o.length⟩] ∧ i ∉ M))) (fun hc S nS => ?_) (fun hc => ⟨_, rfl, fun T2 nT2 S nS => ?_⟩) ?_
      · have hc : i ∈ M := inM.mp hc
        have SD : S ≠ D := fun z => by rw [z, hD3] at nS; cases nS
        have SO : S ≠ O := fun z => by rw [z, hO3] at nS; cases nS
        exact ⟨S, [], rfl, s3.trans (same_upd nS), (upd_ne (Ne.symm SD)).trans hD3, (upd_ne (Ne.symm SO)).trans hO3, s3.free nS, SD, SO, ⟨[], upd_same, trivial⟩, .inl ⟨rfl, hc⟩⟩
      · have hc : i ∉ M := fun z => hc (inM.mpr z)
        have sT := same_upd (o := .tup [.int ((i : Nat) : Int), .int 0]) nT2
        have hD4 := sT _ _ hD3
        have hO4 := sT _ _ hO3
        have tT : (upd H4 T2 (.tup [.int ((i : Nat) : Int), .int 0])) T2 = some (.tup [.int ((i : Nat) : Int), .int 0]) := upd_same
        generalize upd H4 T2 (.tup [.int ((i : Nat) : Int), .int 0]) = H5 at sT hD4 hO4 tT nS ⊢
        have SD : S ≠ D := fun z => by rw [z, hD4] at nS; cases nS
        have SO : S ≠ O := fun z => by rw [z, hO4] at nS; cases nS
        have s4 := s3.trans sT
        exact ⟨S, [⟨i, 0, o.length⟩], rfl, s4.trans (same_upd nS), (upd_ne (Ne.symm SD)).trans hD4, (upd_ne (Ne.symm SO)).trans hO4, s4.free nS, SD, SO, ⟨[T2], upd_same, ⟨same_upd nS _ _ tT, trivial⟩⟩, .inr ⟨rfl, hc⟩⟩
      rintro _ H5 ⟨S, S0, rfl, s5, hD5, hO5, nS, SD, SO, stk, how⟩
      obtain ⟨M1, df1, ndM1, iM1, cov1, keys1⟩ : ∃ M1, KN.Dfs tb.length (rowN tb) M1 o S0 ∧ M1.Nodup ∧ i ∈ M1 ∧ (∀ x < i + 1, x ∈ M1) ∧ Keys (putK kvs (Sum.inl ((i : Nat) : Int) : Key) (.bl true)) (nI M1) := by
        rcases how with ⟨rfl, hc⟩ | ⟨rfl, hc⟩
        · refine ⟨M, df, ndM, hc, fun x hx => ?_, keys_old keys (nI_mem.mpr hc) _⟩
          by_cases e : x = i
          · exact e ▸ hc
          · exact cov x (by omega)
        · refine ⟨M ++ [i], df.meet hi hc (fun t ht => absurd ht List.not_mem_nil), List.nodup_append.mpr ⟨ndM, List.nodup_cons.mpr ⟨List.not_mem_nil, List.nodup_nil⟩, fun x hx y hy e => ?_⟩, List.mem_append_right _ (List.mem_singleton.mpr rfl), fun x hx => ?_, ?_⟩
          · rw [List.mem_singleton.mp hy] at e
            exact hc (e ▸ hx)
          · by_cases e : x = i
            · exact List.mem_append_right _ (List.mem_singleton.mpr e)
            · exact List.mem_append_left _ (cov x (by omega))
          · rw [nI_snoc]
            exact keys.put (fun z => hc (nI_mem.mp z)) _
      refine ⟨_, rfl, _, rfl, D, _, rfl, DPut.k (k := (Sum.inl ((i : Nat) : Int) : Key)) hD5 (by rw [keys.len, nI_len, sizeLine_eq]; omega), ?_⟩
      have s6 : Same H (upd H5 D (.dK (putK kvs (Sum.inl ((i : Nat) : Int)) (.bl true)))) := same_at s5 nDH
      have hD6 : (upd H5 D (.dK (putK kvs (Sum.inl ((i : Nat) : Int)) (.bl true)))) D = some (.dK (putK kvs (Sum.inl ((i : Nat) : Int)) (.bl true))) := upd_same
      have hO6 : (upd H5 D (.dK (putK kvs (Sum.inl ((i : Nat) : Int)) (.bl true)))) O = some (.lst ((nI o).map V.int)) := (upd_ne (Ne.symm DO)).trans hO5
      have stk6 : Stk (upd H5 D (.dK (putK kvs (Sum.inl ((i : Nat) : Int)) (.bl true)))) S S0 := by
        obtain ⟨as, a1, a2⟩ := stk
        exact ⟨as, (upd_ne SD).trans a1, objs_tup a2 (tup_upd hD5 fun _ z => nomatch z)⟩
      generalize upd H5 D (.dK (putK kvs (Sum.inl ((i : Nat) : Int)) (.bl true))) = H6 at s6 hD6 hO6 stk6 ⊢
      generalize putK kvs (Sum.inl ((i : Nat) : Int) : Key) (.bl true) = kvs1 at keys1 hD6
      clear stk s5 hD5 hO5 how keys hD3 hO3 inM s3 df ndM cov lM
      refine ⟨fun m σ H7 => ∃ (M o : List Nat) (S0 : List KN.On) (kvs : List (Key × V)) (x5 x6 x7 : Option V), m = (tb.length - M.length) * (wd + 2) + cost wd S0 ∧ KN.Dfs tb.length (rowN tb) M o S0 ∧ M.Nodup ∧ (∀ x < i + 1, x ∈ M) ∧ Same H H7 ∧ H7 D = some (.dK kvs) ∧ Keys kvs (nI M) ∧ H7 O = some (.lst ((nI o).map V.int)) ∧ Stk H7 S S0 ∧
        σ = [some (.ref t), some (.ref D), some (.ref O), some (.int ((i : Nat) : Int)), some (.ref S), x5, x6, x7], ⟨_, M1, o, S0, kvs1, _, _, _, rfl, df1, ndM1, cov1, s6, hD6, keys1, hO6, stk6, rfl⟩, ?_⟩
      clear hD6 hO6 stk6 keys1 s6 cov1 iM1 ndM1 df1
      rintro m σ H7 ⟨M, o, S0, kvs, x5, x6, x7, rfl, df, ndM, cov, s7, hD7, keys, hO7, ⟨as, hS7, obj⟩, rfl⟩
      refine ⟨_, rfl, _, .inl ⟨_, SqL.of hS7, rfl⟩, ?_⟩
      cases S0 with
      | nil =>
        obtain rfl : as = [] := List.eq_nil_of_length_eq_zero obj.len
        refine iteF ?_
        exact ⟨M, o, kvs, _, _, _, _, _, df, ndM, cov, s7, hD7, keys, hO7, rfl⟩
      | cons t0 S1 =>
        obtain ⟨v, c, d⟩ := t0
        rw [onI_cons] at obj
        obtain ⟨bs, b, rfl, ob1, hb⟩ := obj.pop
        refine ite2 (fun _ => ?_) (fun h => absurd (by simp) h)
        refine ⟨_, fun _ _ h => h, ?_⟩
        have ex : (bs ++ [b]).map V.ref = bs.map V.ref ++ [V.ref b] := by rw [List.map_append] <;> rfl
        rw [ex] at hS7
        have hy : (bs.map V.ref ++ [V.ref b])[(bs.map V.ref ++ [V.ref b]).length - 1]? = some (V.ref b) := by
          rw [List.length_append, List.length_singleton, Nat.add_sub_cancel, List.getElem?_append_right (Nat.le_refl _), Nat.sub_self] <;> rfl
        refine ⟨_, rfl, .inl ⟨rfl, _, SqL.of hS7⟩, S, _, _, rfl, rfl, hS7, hy, ?_⟩
        rw [List.dropLast_concat]
        have kt : KeepsTup H7 (upd H7 S (.lst (bs.map V.ref))) := tup_upd hS7 fun _ z => nomatch z
        have s8 : Same H (upd H7 S (.lst (bs.map V.ref))) := same_at s7 nS
        have hD8 : (upd H7 S (.lst (bs.map V.ref))) D = some (.dK kvs) := (upd_ne (Ne.symm SD)).trans hD7
        have hO8 : (upd H7 S (.lst (bs.map V.ref))) O = some (.lst ((nI o).map V.int)) := (upd_ne (Ne.symm SO)).trans hO7
        have hS8 : (upd H7 S (.lst (bs.map V.ref))) S = some (.lst (bs.map V.ref)) := upd_same
        have hb8 := kt _ _ hb
        have ob8 := objs_tup ob1 kt
        generalize upd H7 S (.lst (bs.map V.ref)) = H8 at s8 hD8 hO8 hS8 hb8 ob8 ⊢
        refine ⟨b, _, rfl, SqT.of hb8, rfl, _, _, rfl, _, _, rfl, rfl, ?_⟩
        have vM : v ∈ M := (df.mem v).mpr (.inr ⟨_, .head _, rfl⟩)
        have vn := df.rng v vM
        obtain ⟨a, ea, ha⟩ := h2.get vn
        have ha : H a = some (oTup (tb.getD v [])) := ha
        have at1 : atI (ts.map V.ref) ((v : Nat) : Int) = some (.ref a) := atI_nat (by rw [List.getElem?_map, ea] <;> rfl)
        have er : rowN tb v = (tb.getD v []).map Int.toNat := rfl
        have r12 : (tb.getD v []).length = wd ∧ ∀ z ∈ tb.getD v [], 0 ≤ z ∧ z < n := by
          rw [List.getD_eq_getElem?_getD, List.getElem?_eq_getElem vn]
          exact ok.row _ (List.getElem_mem vn)
        obtain ⟨r1, r2⟩ := r12
        generalize tb.getD v [] = rw at ha er r1 r2
        have rlen : (rowN tb v).length = wd := by rw [er, List.length_map, r1]
        have cle : c ≤ wd := rlen ▸ (df.col _ (.head _)).1
        have lS : S1.length + 1 ≤ tb.length := by
          have := df.ndS.length_le_of_subset (fun x hx => by
            obtain ⟨t, ht, e⟩ := List.mem_map.mp hx
            exact List.mem_range.mpr (df.rng x ((df.mem x).mpr (.inr ⟨t, ht, e⟩))) : ((⟨v, c, d⟩ :: S1 : List KN.On).map (·.v)) ⊆ List.range tb.length)
          rwa [List.length_range, List.length_map, List.length_cons] at this
        have lo : o.length ≤ tb.length := by
          have := df.nd.length_le_of_subset (fun x hx => List.mem_range.mpr (df.rng x ((df.mem x).mpr (.inl hx))) : o ⊆ List.range tb.length)
          rwa [List.length_range] at this
        have lM : M.length ≤ tb.length := by
          have := ndM.length_le_of_subset (fun x hx => List.mem_range.mpr (df.rng x hx) : M ⊆ List.range tb.length)
          rwa [List.length_range] at this
        have lbs : bs.length = S1.length := by
          rw [ob8.len]
          unfold onI
          rw [List.length_map, List.length_reverse]
        have cc : cost wd (⟨v, c, d⟩ :: S1) = (wd + 1 - c) + cost wd S1 := cost_cons _ _ _
        refine ⟨_, rfl, _, rfl, _, rfl, t, _, _, _, rfl, rfl, sqT9 h1 s8, at1, a, _, rfl, .inr (SqT.of (s8 _ _ ha)), rfl, _, rfl, ?_⟩
        rw [List.length_map, r1]
        by_cases hc : c = wd
        · rw [decide_eq_true (show V.int ((c : Nat) : Int) = V.int ((wd : Nat) : Int) by rw [hc])]
          refine iteT ?_
          refine ⟨_, rfl, .inl ⟨rfl, _, SqL.of hO8⟩, _, rfl, O, _, _, rfl, rfl, hO8, by rw [List.length_map, nI_len, sizeLine_eq]; omega, ?_⟩
          refine ⟨_, ?_, M, o ++ [v], S1, kvs, _, _, _, rfl, df.done (hc.trans rlen.symm), ndM, cov, same_at s8 nO, (upd_ne DO).trans hD8, keys, ?_, ⟨bs, (upd_ne SO).trans hS8, objs_tup ob8 (tup_upd hO8 fun _ z => nomatch z)⟩, rfl⟩
          · rw [cc]
            omega
          · rw [upd_same, nI_snoc, List.map_append] <;> rfl
        · rw [decide_eq_false (show ¬ V.int ((c : Nat) : Int) = V.int ((wd : Nat) : Int) from fun z => hc (Int.ofNat.inj (V.int.inj z)))]
          refine iteF ?_
          have cl : c < wd := by omega
          obtain ⟨z, hz⟩ : ∃ z, rw[c]? = some z := ⟨_, List.getElem?_eq_getElem (by omega)⟩
          have zin := r2 z (List.mem_of_getElem? hz)
          obtain ⟨u, rfl⟩ : ∃ u : Nat, z = ((u : Nat) : Int) := ⟨z.toNat, by omega⟩
          have un : u < tb.length := by omega
          have eu : (rowN tb v)[c]? = some u := by rw [er, List.getElem?_map, hz] <;> rfl
          refine ⟨_, rfl, .inl ⟨rfl, _, SqL.of hS8⟩, _, rfl, _, rfl, _, _, rfl, rfl, by show 2 ≤ sizeLine; decide, fun T3 nT3 => ?_⟩
          have sT := same_upd (o := .tup [.int ((v : Nat) : Int), .int (((c : Nat) : Int) + 1)]) nT3
          have hD9 := sT _ _ hD8
          have hO9 := sT _ _ hO8
          have hS9 := sT _ _ hS8
          have ob9 := objs_tup ob8 (Same.tup' sT)
          have t9 : (upd H8 T3 (.tup [.int ((v : Nat) : Int), .int (((c : Nat) : Int) + 1)])) T3 = some (oTup [((v : Nat) : Int), ((c + 1 : Nat) : Int)]) := upd_same
          have s9 := s8.trans sT
          generalize upd H8 T3 (.tup [.int ((v : Nat) : Int), .int (((c : Nat) : Int) + 1)]) = H9 at hD9 hO9 hS9 ob9 t9 s9 ⊢
          refine ⟨S, _, _, rfl, rfl, hS9, by rw [List.length_map, sizeLine_eq]; omega, ?_⟩
          have e10 : upd H9 S (.lst (bs.map V.ref ++ [.ref T3])) S = some (.lst ((bs ++ [T3]).map V.ref)) := by rw [upd_same, List.map_append] <;> rfl
          have k10 : KeepsTup H9 (upd H9 S (.lst (bs.map V.ref ++ [.ref T3]))) := tup_upd hS9 fun _ z => nomatch z
          have ob10 := (objs_tup ob9 k10).snoc (k10 _ _ t9)
          have s10 : Same H (upd H9 S (.lst (bs.map V.ref ++ [.ref T3]))) := same_at s9 nS
          have hD10 : (upd H9 S (.lst (bs.map V.ref ++ [.ref T3]))) D = some (.dK kvs) := (upd_ne (Ne.symm SD)).trans hD9
          have hO10 : (upd H9 S (.lst (bs.map V.ref ++ [.ref T3]))) O = some (.lst ((nI o).map V.int)) := (upd_ne (Ne.symm SO)).trans hO9
          generalize upd H9 S (.lst (bs.map V.ref ++ [.ref T3])) = H10 at e10 ob10 s10 hD10 hO10 ⊢
          have at2 : atI (rw.map V.int) ((c : Nat) : Int) = some (.int ((u : Nat) : Int)) := atI_nat (by rw [List.getElem?_map, hz] <;> rfl)
          refine ⟨_, rfl, _, rfl, t, _, _, _, rfl, rfl, sqT9 h1 s10, at1, _, rfl, a, _, _, _, rfl, rfl, SqT.of (s10 _ _ ha), at2, ?_⟩
          refine ⟨_, rfl, _, rfl, D, _, rfl, DGet.k (k := (Sum.inl ((u : Nat) : Int) : Key)) hD10, _, rfl, ?_⟩
          have oc := onI_cons (⟨v, c + 1, d⟩ : KN.On) S1
          have cc2 : cost wd (⟨v, c + 1, d⟩ :: S1) = (wd + 1 - (c + 1)) + cost wd S1 := cost_cons _ _ _
          by_cases uM : u ∈ M
          · obtain ⟨x, hx⟩ := Option.ne_none_iff_exists'.mp ((keys.val _).mpr (nI_mem.mpr uM))
            rw [hx]
            refine iteF ?_
            refine ⟨_, ?_, M, o, ⟨v, c + 1, d⟩ :: S1, kvs, _, _, _, rfl, df.next eu uM, ndM, cov, s10, hD10, keys, hO10, ⟨bs ++ [T3], e10, ?_⟩, rfl⟩
            · rw [cc, cc2]
              omega
            · rw [oc]
              exact ob10
          · have hv : valV kvs (Sum.inl ((u : Nat) : Int) : Key) = none := Classical.byContradiction fun z => uM (nI_mem.mp ((keys.val _).mp z))
            rw [hv]
            refine iteT ?_
            have df1 := df.step eu un uM
            have lM1 : M.length + 1 ≤ tb.length := by
              have := (List.nodup_cons.mpr ⟨uM, ndM⟩).length_le_of_subset (fun x hx => List.mem_range.mpr (by
                rcases List.mem_cons.mp hx with rfl | hx
                · exact un
                · exact df.rng x hx) : (u :: M) ⊆ List.range tb.length)
              rwa [List.length_range, List.length_cons] at this
            refine ⟨_, rfl, _, rfl, D, _, rfl, DPut.k (k := (Sum.inl ((u : Nat) : Int) : Key)) hD10 (by rw [keys.len, nI_len, sizeLine_eq]; omega), ?_⟩
            have s11 : Same H (upd H10 D (.dK (putK kvs (Sum.inl ((u : Nat) : Int)) (.bl true)))) := same_at s10 nDH
            have hD11 : (upd H10 D (.dK (putK kvs (Sum.inl ((u : Nat) : Int)) (.bl true)))) D = some (.dK (putK kvs (Sum.inl ((u : Nat) : Int)) (.bl true))) := upd_same
            have hO11 : (upd H10 D (.dK (putK kvs (Sum.inl ((u : Nat) : Int)) (.bl true)))) O = some (.lst ((nI o).map V.int)) := (upd_ne (Ne.symm DO)).trans hO10
            have hS11 : (upd H10 D (.dK (putK kvs (Sum.inl ((u : Nat) : Int)) (.bl true)))) S = some (.lst ((bs ++ [T3]).map V.ref)) := (upd_ne SD).trans e10
            have ob11 := objs_tup ob10 (tup_upd (o := .dK (putK kvs (Sum.inl ((u : Nat) : Int)) (.bl true))) hD10 fun _ z => nomatch z)
            have keys1 := keys.put (a := ((u : Nat) : Int)) (fun z => uM (nI_mem.mp z)) (.bl true)
            generalize upd H10 D (.dK (putK kvs (Sum.inl ((u : Nat) : Int)) (.bl true))) = H11 at s11 hD11 hO11 hS11 ob11 ⊢
            refine ⟨_, rfl, .inl ⟨rfl, _, SqL.of hS11⟩, _, rfl, by show 2 ≤ sizeLine; decide, fun T4 nT4 => ?_⟩
            have sU := same_upd (o := .tup [.int ((u : Nat) : Int), .int 0]) nT4
            have hD12 := sU _ _ hD11
            have hO12 := sU _ _ hO11
            have hS12 := sU _ _ hS11
            have ob12 := objs_tup ob11 (Same.tup' sU)
            have t12 : (upd H11 T4 (.tup [.int ((u : Nat) : Int), .int 0])) T4 = some (oTup [((u : Nat) : Int), ((0 : Nat) : Int)]) := upd_same
            have s12 := s11.trans sU
            generalize upd H11 T4 (.tup [.int ((u : Nat) : Int), .int 0]) = H12 at hD12 hO12 hS12 ob12 t12 s12 ⊢
            refine ⟨S, _, _, rfl, rfl, hS12, by rw [List.length_map, List.length_append, List.length_singleton, sizeLine_eq]; omega, ?_⟩
            have k13 : KeepsTup H12 (upd H12 S (.lst ((bs ++ [T3]).map V.ref ++ [.ref T4]))) := tup_upd hS12 fun _ z => nomatch z
            have ob13 := (objs_tup ob12 k13).snoc (k13 _ _ t12)
            have cc3 : cost wd (⟨u, 0, o.length⟩ :: ⟨v, c + 1, d⟩ :: S1) = (wd + 1 - 0) + cost wd (⟨v, c + 1, d⟩ :: S1) := cost_cons _ _ _
            refine ⟨_, ?_, M ++ [u], o, ⟨u, 0, o.length⟩ :: ⟨v, c + 1, d⟩ :: S1, _, _, _, _, rfl, df1, ?_, fun x hx => List.mem_append_left _ (cov x hx), same_at s12 nS, (upd_ne (Ne.symm SD)).trans hD12, ?_, (upd_ne (Ne.symm SO)).trans hO12, ⟨(bs ++ [T3]) ++ [T4], ?_, ?_⟩, rfl⟩
            · rw [cc, cc3, cc2, List.length_append, List.length_singleton]
              have e1 : tb.length - M.length = (tb.length - (M.length + 1)) + 1 := by omega
              rw [e1, Nat.succ_mul]
              omega
            · refine List.nodup_append.mpr ⟨ndM, List.nodup_cons.mpr ⟨List.not_mem_nil, List.nodup_nil⟩, fun x hx y hy e => ?_⟩
              rw [List.mem_singleton.mp hy] at e
              exact uM (e ▸ hx)
            · rw [nI_snoc]
              exact keys1
            · rw [upd_same, List.map_append (l₁ := bs ++ [T3])] <;> rfl
            · rw [onI_cons, oc]
              exact ob13
    · rintro σ H3 ⟨M, o, kvs, y3, y4, y5, y6, y7, df, ndM, cov, s3, hD3, keys, hO3, rfl⟩
      rw [Int.toNat_natCast] at cov
      exact ⟨_, rfl, q O o H3 nO s3 hO3 (df.whole cov)⟩
end
end WK
set_option Elab.async false
set_option linter.all false
set_option maxRecDepth 100000
set_option maxHeartbeats 4000000
namespace WK
theorem perm_lift {α β : Type} (f : α → β) {l1 l2 : List β} (h : l1.Perm l2) : ∀ zs : List α, zs.map f = l2 → ∃ xs : List α, xs.map f = l1 ∧ xs.Perm zs := by
  induction h with
  | nil =>
    intro zs e
    rw [List.map_eq_nil_iff.mp e]
    exact ⟨[], rfl, .nil⟩
  | cons x _ ih =>
    intro zs e
    cases zs with
    | nil => cases e
    | cons z zs =>
      rw [List.map_cons] at e
      injection e with e1 e2
      obtain ⟨xs, h1, h2⟩ := ih zs e2
      exact ⟨z :: xs, by rw [List.map_cons, h1, e1], h2.cons z⟩
  | swap x y l =>
    intro zs e
    match zs, e with
    | a :: b :: zs, e =>
      rw [List.map_cons, List.map_cons] at e
      injection e with e1 e2
      injection e2 with e2 e3
      exact ⟨b :: a :: zs, by rw [List.map_cons, List.map_cons, e1, e2, e3], .swap ..⟩
  | trans _ _ ih1 ih2 =>
    intro zs e
    obtain ⟨ys, h1, h2⟩ := ih2 zs e
    obtain ⟨xs, h3, h4⟩ := ih1 ys h1
    exact ⟨xs, h3, h4.trans h2⟩
end WK
namespace TU
open PySem PyProof.Rows TS Srt L2
section
variable {P : Program} {w : World} {A : Around} {E : Value → Shared → Prop} {s : Shared}
theorem sorted_setN {a : Addr} {L : List (Addr × List Int)} {es : Array (Int × Value)} {ep : Nat} {t : SetTable} {Q : Value → Shared → Prop} (R : SetTR P w s.heap a L es ep t) (calm : A.handled = none) (some_ : ∀ q ∈ L, q.2 ≠ []) (one : ∀ q ∈ L, ∀ r ∈ L, q.2.headD 0 = r.2.headD 0 → q.2 = r.2)
    (h : ∀ s' p (out : Array Value) (c : Nat) (L' : List (Addr × List Int)), (∀ b o, s.heap.get? b = some o → s'.heap.get? b = some o) → s'.gens = s.gens → s'.os = s.os → s.heap.objs.size ≤ p → s'.heap.get? p = some (seqObj "list" out c) → out.toList = L'.map (fun q => Value.ref q.1) → L'.Perm L → L'.Pairwise (fun q r => q.2.headD 0 ≤ r.2.headD 0) → Q (.ref p) s') :
    wpAny (model P w) A (call (.builtin "sorted") [.ref a]) Q E s := by
  obtain ⟨o, at_a, exact_, dat⟩ := R.ob
  have small := R.few
  have fit : es.toList.map (·.2) = L.map fun q => Value.ref q.1 := by
    rw [R.rows, rowsOf, List.map_map] <;> rfl
  refine Calls.call_function_entry kind_sorted plain_sorted entry_sorted (args_sorted1 _) ?_
  unfold Builtin.«sorted»
  refine wpAny_bind (m := checkCount "sorted" 1 1 _) (wpAny_pure (wpAny_bind (collect_set (A := A.in1) calm ⟨o, at_a, exact_.1, dat⟩ R.fits (by have := R.size; unfold scanBound; omega) R.tab.ris R.led fun s1 vs keep grown gens os perm => ?_)))
  obtain ⟨L1, eL1, p1⟩ := WK.perm_lift (fun q : Addr × List Int => Value.ref q.1) (fit ▸ perm) L rfl
  subst eL1
  have len1 : (L1.map fun q => Value.ref q.1).length < 64 := by
    rw [List.length_map, p1.length_eq]
    exact small
  refine wpAny_bind (wpAny_newList ?_ (by rw [sizeLine_eq]; omega))
  have atL : (s1.heap.push (seqObj "list" (L1.map fun q => Value.ref q.1).toArray 0)).get? s1.heap.objs.size = some (seqObj "list" (L1.map fun q => Value.ref q.1).toArray 0) := Heap.get?_push_size _ rfl
  have raw : ∀ q ∈ L, TupInts (s1.heap.push (seqObj "list" (L1.map fun q => Value.ref q.1).toArray 0)) (.ref q.1) q.2 := fun q hq => tupInts_of (P := P) (w := w) (isT_keep (R.tup q hq) fun b u e => Heap.get?_push_of_some _ (keep b u e))
  have ofL1 : ∀ v ∈ L1.map (fun q => Value.ref q.1), ∃ q ∈ L, v = Value.ref q.1 := fun v hv => by
    obtain ⟨q, hq, e⟩ := List.mem_map.mp hv
    exact ⟨q, p1.mem_iff.mp hq, e.symm⟩
  have told : Told (s1.heap.push (seqObj "list" (L1.map fun q => Value.ref q.1).toArray 0)) (L1.map fun q => Value.ref q.1) := by
    refine ⟨fun v hv => ?_, fun u hu v hv n ns ms d1 d2 => ?_⟩
    · obtain ⟨q, hq, rfl⟩ := ofL1 v hv
      have r := raw q hq
      have ne := some_ q hq
      revert r ne
      cases q.2 with
      | nil => exact fun _ z => absurd rfl z
      | cons n ns => exact fun r _ => ⟨n, ns, r⟩
    · obtain ⟨q, hq, rfl⟩ := ofL1 u hu
      obtain ⟨r, hr, rfl⟩ := ofL1 v hv
      have e1 : n :: ns = q.2 := d1.ints.symm.trans (raw q hq).ints
      have e2 : n :: ms = r.2 := d2.ints.symm.trans (raw r hr).ints
      have e3 := one q hq r hr (by rw [← e1, ← e2] <;> rfl)
      rw [← e1, ← e2] at e3
      injection e3
  refine wpAny_bind (wpAny_holding (wpAny_call_entry slot_list_sort ⟨_, atL, rfl⟩ entry_list_sort (sort_u (s := { s1 with heap := s1.heap.push (seqObj "list" (L1.map fun q => Value.ref q.1).toArray 0) }) atL len1 told (fun v => (intsOf (s1.heap.push (seqObj "list" (L1.map fun q => Value.ref q.1).toArray 0)) v).headD 0) (fun v hv n ns d => by rw [d.ints] <;> rfl) fun out a1 a2 => ?_) (args_list_sort _)))
  obtain ⟨c, hc⟩ := sortedHeap_at (vs := L1.map fun q => Value.ref q.1) (out := out) atL
  obtain ⟨L2, e2, p2⟩ := WK.perm_lift (fun q : Addr × List Int => Value.ref q.1) a1 L1 rfl
  refine ⟨_, rfl, wpAny_pure ⟨_, rfl, h _ s1.heap.objs.size out c L2 (fun b u e => ?_) gens os grown hc e2.symm (p2.trans p1) ?_⟩⟩
  · have old := keep b u e
    have lt := Heap.lt_size old
    show (sortedHeap (s1.heap.push (seqObj "list" (L1.map fun q => Value.ref q.1).toArray 0)) s1.heap.objs.size (L1.map fun q => Value.ref q.1) out).get? b = some u
    rw [sortedHeap_old (Nat.ne_of_lt lt) (by rw [size_push']; exact Nat.lt_succ_of_lt lt)]
    exact Heap.get?_push_of_some _ old
  · rw [← e2] at a2
    refine (List.pairwise_map.mp a2).imp_of_mem fun {q r} hq hr le => ?_
    rw [(raw q ((p2.trans p1).mem_iff.mp hq)).ints, (raw r ((p2.trans p1).mem_iff.mp hr)).ints] at le
    exact le
end
end TU
namespace L2
open PySem PySem.Spec PyProof.Rows
section
variable {X : Cx}
/-- sorted(set(xs)) of tuples of numbers, each with a first number that tells it -/
def rSortedTN (K : PySem.W.Frag) (P : Program) (w : World) : List V → Hp → VK → Prop := fun vs H Q => ∃ (a : Addr) (L : List (Addr × List Int)), vs = [V.ref a] ∧ H a = some (SetTO P w a L) ∧ (∀ q ∈ L, SqT K H q.1 (q.2.map V.int)) ∧ (∀ q ∈ L, q.2 ≠ []) ∧ (∀ q ∈ L, ∀ r ∈ L, q.2.headD 0 = r.2.headD 0 → q.2 = r.2) ∧
  ∀ (L' : List (Addr × List Int)) (p : Addr), L'.Perm L → (L'.map (·.2)).Nodup → L'.length < 64 → L'.Pairwise (fun q r => q.2.headD 0 ≤ r.2.headD 0) → H p = none → Q (.ref p) (upd H p (.lst (L'.map fun q => V.ref q.1)))
theorem cr_sortedTN (hc : X.calm = true) : CallR X (.builtin "sorted") (rSortedTN X.K X.prog X.w) := by
  rintro pins s σ H vs us Q I r ⟨a, L, rfl, at_a, tups, some_, one, q⟩
  have raw : SetT0 X.prog X.w s.heap a L := (I.hok a _ at_a).1
  obtain ⟨es, ep, t, R⟩ := raw.full fun p hp => I.isT (tups p hp)
  rw [Vals.ref1 r]
  refine TU.sorted_setN R (I.ok.hd hc) some_ one fun s' p out c L' keep gens os new at_p eout perm asc => ?_
  have few : L'.length < 64 := perm.length_eq ▸ R.few
  have free : H p = none := I.hok.fresh new
  have vals : Vals (L'.map fun q => V.ref q.1) out.toList := eout ▸ vals_of_refs L'
  have room : (L'.map fun q => V.ref q.1).length ≤ sizeLine := by
    rw [List.length_map, sizeLine_eq]
    omega
  have after : Inv X pins σ (upd H p (.lst (L'.map fun q => V.ref q.1))) { s with heap := s'.heap, gens := s'.gens, drawn := s'.drawn, toks := s'.toks } :=
    I.call (ch := []) (Un.laid keep new free) (I.hok.laid keep new ⟨room, out.toList, c, vals, at_p⟩) (by rw [gens]; exact I.bare) (fun _ z => nomatch z)
  have same : s' = { s with heap := s'.heap, gens := s'.gens, drawn := s'.drawn, toks := s'.toks } := by
    cases s'
    cases s
    cases os
    rfl
  rw [same]
  exact ⟨.ref p, _, after, rfl, q L' p perm ((perm.map (·.2)).nodup_iff.mpr R.nd) few asc free⟩
end
end L2
set_option Elab.async false
set_option linter.all false
set_option maxRecDepth 100000
set_option maxHeartbeats 8000000
namespace WK
open PySem L2 PyProof.Rows LCX K1 FV DP
open TX (sg sigs)
open PySem.W (Frag kitOne)
abbrev sKnotsOf : Stmt := top 19
abbrev NKn : List Str := ["table", "back", "taken", "found", "start", "knot", "row"]
abbrev Tu := Addr × List Int
def refT (zs : List Tu) : List V := zs.map fun z => V.ref z.1
def Tus (H : Hp) (zs : List Tu) : Prop := ∀ z ∈ zs, H z.1 = some (oTup z.2)
structure KnotsOk (n : Nat) (row : Nat → List Nat) (ks : List (List Int)) : Prop where
  asc : ks.Pairwise fun x y => x.headD 0 ≤ y.headD 0
  nd : ks.Nodup
  each : ∀ k ∈ ks, k.Pairwise (· < ·) ∧ ∃ s < n, ∀ x : Int, x ∈ k ↔ ∃ y : Nat, x = ((y : Nat) : Int) ∧ KN.Scc row s y
  all : ∀ s < n, ∃ k ∈ ks, ((s : Nat) : Int) ∈ k
def spKnotsOf (K : Frag) : Sp := fun vs H Q _ => ∃ (t : Addr) (tb : List (List Int)) (wd : Nat) (n : Int), vs = [.ref t] ∧ TTab K H t tb ∧ TabOk tb wd n ∧ tb.length < 64 ∧ wd ≤ 15 ∧
  ∀ (p : Addr) (zs : List Tu) H', H p = none → Same H H' → H' p = some (.tup (refT zs)) → Tus H' zs → KnotsOk tb.length (rowN tb) (zs.map (·.2)) → Q (.ref p) H'
/-- the numbers of a tracked tuple -/
def tupOf (H : Hp) : V → List Int
  | .ref a => match H a with
    | some (.tup vs) => vs.map fun v => match v with | .int i => i | _ => 0
    | _ => []
  | _ => []
theorem tupOf_at {H : Hp} {a : Addr} {l : List Int} (h : H a = some (oTup l)) : tupOf H (.ref a) = l := by
  show (match H a with | some (.tup vs) => _ | _ => []) = l
  rw [h]
  show List.map _ (List.map V.int l) = l
  rw [List.map_map]
  exact List.map_id l
theorem rch_back {n : Nat} {row bs : Nat → List Nat} (h : ∀ x < n, ∀ y, y ∈ bs x ↔ y < n ∧ x ∈ row y) {s x : Nat} (sn : s < n) (r : KN.Rch bs s x) : x < n ∧ KN.Rch row x s := by
  induction r with
  | refl => exact ⟨sn, .refl s⟩
  | step _ e ih =>
    obtain ⟨b1, b2⟩ := ih
    obtain ⟨c1, c2⟩ := (h _ b1 _).mp e
    exact ⟨c1, (KN.Rch.edge c2).trans b2⟩
/-- what is taken, and the knots that are found -/
structure Kn (n : Nat) (row : Nat → List Nat) (o T : List Nat) (zs : List Tu) (i : Nat) : Prop where
  nd : T.Nodup
  lt : ∀ x ∈ T, x < n
  clo : ∀ x ∈ T, ∀ y, KN.Scc row x y → y ∈ T
  late : ∀ j y, o[j]? = some y → n ≤ j + i → y ∈ T
  few : zs.length ≤ i
  each : ∀ z ∈ zs, z.2.Pairwise (· < ·) ∧ ∃ s < n, ∀ x : Int, x ∈ z.2 ↔ ∃ y : Nat, x = ((y : Nat) : Int) ∧ KN.Scc row s y
  own : ∀ z ∈ zs, ∀ y : Nat, ((y : Nat) : Int) ∈ z.2 → y ∈ T
  all : ∀ x ∈ T, ∃ z ∈ zs, ((x : Nat) : Int) ∈ z.2
  ndz : (zs.map (·.2)).Nodup
theorem Kn.skip {n : Nat} {row : Nat → List Nat} {o T : List Nat} {zs : List Tu} {i s j : Nat} (k : Kn n row o T zs i) (hs : o[j]? = some s) (ej : j + i + 1 = n) (sT : s ∈ T) : Kn n row o T zs (i + 1) :=
  { k with late := fun j' y hj h => by
             by_cases e : j' = j
             · subst e
               obtain rfl : s = y := Option.some.inj (hs.symm.trans hj)
               exact sT
             · exact k.late j' y hj (by omega)
           few := Nat.le_succ_of_le k.few }
theorem Kn.add {n : Nat} {row : Nat → List Nat} {o T W : List Nat} {zs : List Tu} {i s j : Nat} {a : Addr} {ns : List Int} (k : Kn n row o T zs i) (hs : o[j]? = some s) (ej : j + i + 1 = n) (sn : s < n) (ndW : W.Nodup) (W1 : ∀ x ∈ W, x < n ∧ x ∉ T) (WS : ∀ x, x ∈ W ↔ KN.Scc row s x) (hns : ns.Pairwise (· < ·)) (mns : ∀ x : Int, x ∈ ns ↔ x ∈ nI W) : Kn n row o (T ++ W) (zs ++ [(a, ns)]) (i + 1) := by
  have inN : ∀ y : Nat, ((y : Nat) : Int) ∈ ns ↔ y ∈ W := fun y => (mns _).trans nI_mem
  have sW : s ∈ W := (WS s).mpr (KN.Scc.refl s)
  refine ⟨List.nodup_append.mpr ⟨k.nd, ndW, fun x hx y hy e => (W1 y hy).2 (e ▸ hx)⟩, fun x hx => ?_, fun x hx y g => ?_, fun j' y hj h => ?_, ?_, fun z hz => ?_, fun z hz y hy => ?_, fun x hx => ?_, ?_⟩
  · exact (List.mem_append.mp hx).elim (k.lt x) fun z => (W1 x z).1
  · rcases List.mem_append.mp hx with z | z
    · exact List.mem_append_left _ (k.clo x z y g)
    · exact List.mem_append_right _ ((WS y).mpr (((WS x).mp z).trans g))
  · by_cases e : j' = j
    · subst e
      obtain rfl : s = y := Option.some.inj (hs.symm.trans hj)
      exact List.mem_append_right _ sW
    · exact List.mem_append_left _ (k.late j' y hj (by omega))
  · rw [List.length_append, List.length_singleton]
    exact Nat.succ_le_succ k.few
  · rcases List.mem_append.mp hz with h | h
    · exact k.each z h
    · rw [List.mem_singleton.mp h]
      refine ⟨hns, s, sn, fun x => ?_⟩
      rw [mns]
      constructor
      · intro hx
        obtain ⟨y, hy, rfl⟩ := List.mem_map.mp hx
        exact ⟨y, rfl, (WS y).mp hy⟩
      · rintro ⟨y, rfl, g⟩
        exact nI_mem.mpr ((WS y).mpr g)
  · rcases List.mem_append.mp hz with h | h
    · exact List.mem_append_left _ (k.own z h y hy)
    · rw [List.mem_singleton.mp h] at hy
      exact List.mem_append_right _ ((inN y).mp hy)
  · rcases List.mem_append.mp hx with h | h
    · obtain ⟨z, hz, g⟩ := k.all x h
      exact ⟨z, List.mem_append_left _ hz, g⟩
    · exact ⟨(a, ns), List.mem_append_right _ (List.mem_singleton.mpr rfl), (inN x).mpr h⟩
  · rw [List.map_append]
    refine List.nodup_append.mpr ⟨k.ndz, List.nodup_cons.mpr ⟨List.not_mem_nil, List.nodup_nil⟩, fun x hx y hy e => ?_⟩
    obtain ⟨z, hz, rfl⟩ := List.mem_map.mp hx
    rw [List.mem_singleton.mp hy] at e
    have e : z.2 = ns := e
    have := k.own z hz s (e ▸ (inN s).mpr sW)
    exact (W1 s sW).2 this
theorem asc_eq {a b : List Int} (ha : a.Pairwise (· < ·)) (hb : b.Pairwise (· < ·)) (h : ∀ x, x ∈ a ↔ x ∈ b) : a = b := by
  have na : a.Nodup := ha.imp fun h => by omega
  have nb : b.Nodup := hb.imp fun h => by omega
  exact List.Perm.eq_of_pairwise (le := fun x y : Int => x ≤ y) (fun x y _ _ h1 h2 => by omega) (ha.imp fun h => by omega) (hb.imp fun h => by omega) ((List.perm_ext_iff_of_nodup na nb).mpr h)
section
variable {P : Program} {w : World} {K : PySem.W.Frag} {mg : Str → Option Value} {base : Heap} {fT fF fN : Addr} {dT dF dN : FuncData}
theorem scKn : FnScope NKn ["table"] (defScope sKnotsOf) := ⟨rfl, rfl, rfl, by decide +kernel, rfl, by decide +kernel, by decide +kernel⟩
theorem ok_knotsof {f : Addr} {fd : FuncData} (F : Fun K "knots_of" "knots_of" sKnotsOf f fd) (T : TN mg) (AT : Fn K mg "_turned_round" sTurned ["table"] fT dT) (GT : FnOk P w K mg base CX0 1 fT dT ["table"] (spTurned K)) (AF : Fn K mg "_finished" sFinished ["table"] fF dF) (GF : FnOk P w K mg base CX0 1 fF dF ["table"] (spFinished K))
    (AN : Fn K mg "_not_taken" sNotTaken ["back", "start", "taken"] fN dN) (GN : FnOk P w K mg base CX0 1 fN dN ["back", "start", "taken"] spNotTaken) : FnOk P w K mg base CX0 2 f fd ["table"] (spKnotsOf K) := by
  refine F.ok scKn (fun vs H Q E h => ?_) (fun cdv A outer s H vs Q E hr h => ?_)
  · obtain ⟨t, _, _, _, rfl, _⟩ := h
    rfl
  · obtain ⟨t, tb, wd, n, rfl, hT, ok, n1, w1, q⟩ := h
    have hub := hu_of hr
    refine ⟨_, pss_cons (ps_set (i := 1) scKn.nd rfl (Or.inl rfl) (pe_call GT hr rfl AT.g AT.F.kp AT.b .nil pass0 (pa_cons (pv 0) pa_nil)))
      (pss_cons (ps_set (i := 2) scKn.nd rfl (Or.inl rfl) pe_dnewK)
      (pss_cons (ps_set (i := 3) scKn.nd rfl (Or.inl rfl) (pe_lst pa_nil))
      (pss_cons (ps_for PassesOwn.never rfl (pi_list (pe_revL (pe_call GF hr rfl AF.g AF.F.kp AF.b .nil pass0 (pa_cons (pv 0) pa_nil)))) (pg_name (i := 4) scKn.nd rfl (Or.inl rfl))
        (pss_one (ps_if (pt_cmp (pc_dnotin hub (pv 4) (pv 2)))
          (pss_cons (ps_set (i := 5) scKn.nd rfl (Or.inl rfl) (pe_call GN hr rfl AN.g AN.F.kp AN.b .nil pass0 (pa_cons (pv 1) (pa_cons (pv 4) (pa_cons (pv 2) pa_nil)))))
          (pss_cons (ps_for PassesOwn.never rfl (pi_list (pv 5)) (pg_name (i := 6) scKn.nd rfl (Or.inl rfl)) (pss_one (ps_dput hub (pv 2) (pv 6) pe_bl rfl)))
          (pss_one (ps_expr (pe_bm PySem.F.plainAttrs_list PySem.F.slot_list_append PySem.F.type_list_append mt_append (pv 3) (pa_cons (pe_callTy call_tuple_of (by rfl) T.tuple (by decide +kernel) (pa_cons (pe_callB cr_sortedI (by rfl) T.sorted (by decide +kernel) (pa_cons (pv 5) pa_nil)) pa_nil)) pa_nil)))))) pss_nil)))
      (pss_one (ps_ret (pe_callTy call_tuple_of (by rfl) T.tuple (by decide +kernel) (pa_cons (pe_callB cr_sortN (by rfl) T.sorted (by decide +kernel) (pa_cons (pv 3) pa_nil)) pa_nil))))))), ?_⟩
    have okl := ok.len
    have mul : tb.length * wd ≤ 1000 := Nat.le_trans (Nat.mul_le_mul (Nat.le_of_lt n1) w1) (by decide)
    have rl : ∀ {i : Nat}, i < tb.length → ∀ x ∈ rowN tb i, x < tb.length := fun {i} hi x hx => by
      unfold rowN at hx
      rw [List.getD_eq_getElem?_getD, List.getElem?_eq_getElem hi] at hx
      obtain ⟨z, hz, rfl⟩ := List.mem_map.mp hx
      have := (ok.row _ (List.getElem_mem hi)).2 z hz
      omega
    refine ⟨_, rfl, t, tb, wd, n, rfl, hT, ok, mul, by omega, fun bk bs H1 nb s1 hbk mem => ?_⟩
    intro D nD
    have s2 : Same H (upd H1 D (.dK [])) := s1.trans (same_upd nD)
    have hD2 : (upd H1 D (.dK [])) D = some (.dK []) := upd_same
    have hb2 := hbk.same (same_upd (o := .dK []) nD)
    have nDH : H1 D = none := nD
    refine ⟨by show 0 ≤ sizeLine; decide, fun O nO1 => ?_⟩
    have nO : H1 O = none := (same_upd nD).free nO1
    have DO : D ≠ O := fun z => by rw [← z, hD2] at nO1; cases nO1
    have s3 : Same H1 (upd (upd H1 D (.dK [])) O (.lst [])) := (same_upd nD).trans (same_upd nO1)
    have hD3 : (upd (upd H1 D (.dK [])) O (.lst [])) D = some (.dK []) := same_upd nO1 _ _ hD2
    have hO3 : (upd (upd H1 D (.dK [])) O (.lst [])) O = some (.lst []) := upd_same
    generalize upd (upd H1 D (.dK [])) O (.lst []) = H3 at s3 hD3 hO3 ⊢
    have s03 := s1.trans s3
    refine ⟨_, rfl, t, tb, wd, n, rfl, ⟨hT.choose, sqT9 hT.choose_spec.1 s03, hT.choose_spec.2.to fun a _ r e => s03 _ _ e⟩, ok, by omega, by omega, fun po o H4 npo s4 ho fin => ?_⟩
    refine ⟨po, _, rfl, SqL.of ho, fun p2 np2 => ⟨p2, rfl, ⟨_, SqL.of upd_same⟩, ?_⟩⟩
    have s14 : Same H1 (upd H4 p2 (.lst ((nI o).map V.int).reverse)) := (s3.trans s4).trans (same_upd np2)
    have hD4 := same_upd (o := .lst ((nI o).map V.int).reverse) np2 _ _ (s4 _ _ hD3)
    have hO4 := same_upd (o := .lst ((nI o).map V.int).reverse) np2 _ _ (s4 _ _ hO3)
    have at2 : (upd H4 p2 (.lst ((nI o).map V.int).reverse)) p2 = some (.lst ((nI o).map V.int).reverse) := upd_same
    have p2D : p2 ≠ D := fun z => by rw [z, s4 _ _ hD3] at np2; cases np2
    have p2O : p2 ≠ O := fun z => by rw [z, s4 _ _ hO3] at np2; cases np2
    generalize upd H4 p2 (.lst ((nI o).map V.int).reverse) = H5 at s14 hD4 hO4 at2 ⊢
    have lo : o.length = tb.length := by
      have h1 := fin.nd.length_le_of_subset (fun x hx => List.mem_range.mpr ((fin.all x).mp hx) : o ⊆ List.range tb.length)
      have h2 := List.nodup_range.length_le_of_subset (fun x hx => (fin.all x).mpr (List.mem_range.mp hx) : List.range tb.length ⊆ o)
      rw [List.length_range] at h1 h2
      omega
    have lr : (((nI o).map V.int).reverse).length = tb.length := by rw [List.length_reverse, List.length_map, nI_len, lo]
    refine for_it walk_list (fun i σ H6 => ∃ (T : List Nat) (zs : List Tu) (kvs : List (Key × V)) (y4 y5 y6 : Option V), Kn tb.length (rowN tb) o T zs i ∧ Same H1 H6 ∧ H6 p2 = some (.lst ((nI o).map V.int).reverse) ∧ H6 D = some (.dK kvs) ∧ Keys kvs (nI T) ∧ H6 O = some (.lst (refT zs)) ∧ Tus H6 zs ∧
      σ = [some (.ref t), some (.ref bk), some (.ref D), some (.ref O), y4, y5, y6]) ⟨[], [], [], _, _, _, ⟨List.nodup_nil, fun x h => absurd h List.not_mem_nil, fun x h => absurd h List.not_mem_nil, fun j y hj h => by
        have := (List.getElem?_eq_some_iff.mp hj).1
        omega, Nat.le_refl _, fun z h => absurd h List.not_mem_nil, fun z h => absurd h List.not_mem_nil, fun x h => absurd h List.not_mem_nil, List.nodup_nil⟩, s14, at2, hD4, rfl, hO4, fun z h => absurd h List.not_mem_nil, rfl⟩ (fun i σ H6 _ ⟨_, _, _, _, _, _, _, _, h, _⟩ => SqL.of h) ?_ ?_
    · rintro i x σ H6 H7 hi ⟨Tk, zs, kvs, y4, y5, y6, kn, s6, hp6, hD6, keys, hO6, tus, rfl⟩ ⟨rfl, hx⟩
      rw [lr] at hi
      obtain ⟨j, ej⟩ : ∃ j, j + i + 1 = tb.length := ⟨tb.length - 1 - i, by omega⟩
      obtain ⟨st, es⟩ : ∃ st, o[j]? = some st := ⟨_, List.getElem?_eq_getElem (by omega)⟩
      obtain rfl : x = .int ((st : Nat) : Int) := by
        have e1 : (((nI o).map V.int).reverse)[i]? = ((nI o).map V.int)[((nI o).map V.int).length - 1 - i]? := List.getElem?_reverse (by rw [List.length_map, nI_len]; omega)
        rw [e1, List.length_map, nI_len, show o.length - 1 - i = j by omega] at hx
        unfold nI at hx
        rw [List.getElem?_map, List.getElem?_map, es] at hx
        exact (Option.some.inj hx).symm
      have sn : st < tb.length := (fin.all st).mp (List.mem_of_getElem? es)
      refine ⟨_, rfl, _, rfl, D, _, rfl, DGet.k (k := (Sum.inl ((st : Nat) : Int) : Key)) hD6, _, rfl, ?_⟩
      by_cases sT : st ∈ Tk
      · obtain ⟨v, hv⟩ := Option.ne_none_iff_exists'.mp ((keys.val _).mpr (nI_mem.mpr sT))
        rw [hv]
        refine iteF ?_
        exact ⟨Tk, zs, kvs, _, _, _, kn.skip es ej sT, s6, hp6, hD6, keys, hO6, tus, rfl⟩
      have hv : valV kvs (Sum.inl ((st : Nat) : Int) : Key) = none := Classical.byContradiction fun z => sT (nI_mem.mp ((keys.val _).mp z))
      rw [hv]
      refine iteT ?_
      have cl : ∀ x < tb.length, ∀ y ∈ rowN tb x, y < tb.length := fun x hx y hy => rl hx y hy
      refine ⟨_, rfl, _, rfl, _, rfl, bk, D, tb.length, st, bs, kvs, Tk, rfl, hbk.same s6, by omega, sn, hD6, keys, sT, fun pw W H8 npw s8 hW ndW sW fromW toW => ?_⟩
      have WS : ∀ x, x ∈ W ↔ KN.Scc (rowN tb) st x := fun x => KN.Fin.led cl fin kn.clo es (fun j' y hj h => kn.late j' y hj (by omega)) sT sW
        (fun x hx => ⟨(fromW x hx).1, (fromW x hx).2.1, (rch_back mem sn (fromW x hx).2.2).2⟩) (fun x hx y hy e yT => toW x hx y ((mem x (fromW x hx).1 y).mpr ⟨hy, e⟩) yT) x
      have W1 : ∀ x ∈ W, x < tb.length ∧ x ∉ Tk := fun x hx => ⟨(fromW x hx).1, (fromW x hx).2.1⟩
      have lW : W.length ≤ tb.length := by
        have := ndW.length_le_of_subset (fun x hx => List.mem_range.mpr (W1 x hx).1 : W ⊆ List.range tb.length)
        rwa [List.length_range] at this
      have lT : Tk.length ≤ tb.length := by
        have := kn.nd.length_le_of_subset (fun x hx => List.mem_range.mpr (kn.lt x hx) : Tk ⊆ List.range tb.length)
        rwa [List.length_range] at this
      have pwD : pw ≠ D := fun z => by rw [z, hD6] at npw; cases npw
      have pwO : pw ≠ O := fun z => by rw [z, hO6] at npw; cases npw
      have elW : ((nI W).map V.int).length = W.length := by rw [List.length_map, nI_len]
      refine ⟨_, rfl, pw, rfl, ⟨_, SqL.of hW⟩, ?_⟩
      refine for_it walk_list (fun j σ H9 => ∃ (kvs' : List (Key × V)) (y6 : Option V), Same H1 H9 ∧ H9 p2 = some (.lst ((nI o).map V.int).reverse) ∧ H9 pw = some (.lst ((nI W).map V.int)) ∧ H9 D = some (.dK kvs') ∧ Keys kvs' (nI (Tk ++ W.take j)) ∧ H9 O = some (.lst (refT zs)) ∧ Tus H9 zs ∧
        σ = [some (.ref t), some (.ref bk), some (.ref D), some (.ref O), some (.int ((st : Nat) : Int)), some (.ref pw), y6]) ⟨kvs, _, s6.trans s8, s8 _ _ hp6, hW, s8 _ _ hD6, by rw [List.take_zero, List.append_nil]; exact keys, s8 _ _ hO6, fun z hz => s8 _ _ (tus z hz), rfl⟩ (fun j σ H9 _ ⟨_, _, _, _, h, _⟩ => SqL.of h) ?_ ?_
      · rintro k x σ H9 H10 hk ⟨kvs', y6, s9, hp9, hW9, hD9, keys9, hO9, tus9, rfl⟩ ⟨rfl, hx⟩
        rw [elW] at hk
        obtain ⟨v, ev⟩ : ∃ v, W[k]? = some v := ⟨_, List.getElem?_eq_getElem hk⟩
        obtain rfl : x = .int ((v : Nat) : Int) := by
          unfold nI at hx
          rw [List.getElem?_map, List.getElem?_map, ev] at hx
          exact (Option.some.inj hx).symm
        have tk : W.take (k + 1) = W.take k ++ [v] := by rw [List.take_add_one, ev] <;> rfl
        have vnew : v ∉ Tk ++ W.take k := fun z => by
          rcases List.mem_append.mp z with z | z
          · exact (W1 v (List.mem_of_getElem? ev)).2 z
          · obtain ⟨m, hm, e⟩ := List.getElem_of_mem z
            rw [List.length_take] at hm
            rw [List.getElem_take] at e
            have := (List.getElem?_inj (show m < W.length by omega) ndW).mp ((List.getElem?_eq_getElem (by omega)).trans ((congrArg some e).trans ev.symm))
            omega
        have lt9 : (nI (Tk ++ W.take k)).length ≤ 128 := by
          rw [nI_len, List.length_append, List.length_take]
          omega
        refine ⟨_, rfl, _, rfl, D, _, rfl, DPut.k (k := (Sum.inl ((v : Nat) : Int) : Key)) hD9 (by rw [keys9.len, sizeLine_eq]; omega), ?_⟩
        refine ⟨_, _, same_at s9 nDH, (upd_ne p2D).trans hp9, (upd_ne pwD).trans hW9, upd_same, ?_, (upd_ne (Ne.symm DO)).trans hO9, fun z hz => tup_upd hD9 (fun _ z => nomatch z) _ _ (tus9 z hz), rfl⟩
        rw [tk, ← List.append_assoc, nI_snoc]
        exact keys9.put (fun z => vnew (nI_mem.mp z)) _
      · rintro σ H9 ⟨kvs', y6, s9, hp9, hW9, hD9, keys9, hO9, tus9, rfl⟩
        rw [elW, List.take_length] at keys9
        have kf := kn.few
        refine ⟨_, rfl, .inl ⟨rfl, _, SqL.of hO9⟩, _, rfl, pw, _, rfl, SqL.of hW9, fun ns p6 perm asc np6 => ?_⟩
        refine ⟨p6, _, rfl, .inl ⟨SqL.of upd_same, fun v hv => ?_⟩⟩
        have sA := same_upd (o := .lst (ns.map V.int)) np6
        have sB := sA.trans (same_upd (o := .tup (ns.map V.int)) hv)
        have tv : (upd (upd H9 p6 (.lst (ns.map V.int))) v (.tup (ns.map V.int))) v = some (oTup ns) := upd_same
        have hp10 := sB _ _ hp9
        have hD10 := sB _ _ hD9
        have hO10 := sB _ _ hO9
        have tus10 : Tus (upd (upd H9 p6 (.lst (ns.map V.int))) v (.tup (ns.map V.int))) zs := fun z hz => sB _ _ (tus9 z hz)
        have s10 := s9.trans sB
        generalize upd (upd H9 p6 (.lst (ns.map V.int))) v (.tup (ns.map V.int)) = H10 at tv hp10 hD10 hO10 tus10 s10 ⊢
        refine ⟨O, _, _, rfl, rfl, hO10, by unfold refT; rw [List.length_map, sizeLine_eq]; omega, ?_⟩
        have ndn : (nI W).Nodup := by
          unfold nI
          exact List.nodup_iff_pairwise_ne.mpr (List.pairwise_map.mpr ((List.nodup_iff_pairwise_ne.mp ndW).imp fun h e => h (Int.ofNat.inj e)))
        have nas : ns.Pairwise (· < ·) := asc.imp₂ (fun _ _ h1 h2 => by omega) (perm.nodup_iff.mpr ndn)
        have kn1 := kn.add (a := v) es ej sn ndW W1 WS nas fun x => perm.mem_iff
        have kt : KeepsTup H10 (upd H10 O (.lst (refT zs ++ [.ref v]))) := tup_upd hO10 fun _ z => nomatch z
        have er : refT zs ++ [V.ref v] = refT (zs ++ [(v, ns)]) := (List.map_append (l₁ := zs) (l₂ := [(v, ns)])).symm
        refine ⟨Tk ++ W, zs ++ [(v, ns)], kvs', _, _, _, kn1, same_at s10 nO, (upd_ne p2O).trans hp10, (upd_ne DO).trans hD10, keys9, ?_, fun z hz => ?_, rfl⟩
        · rw [upd_same, er]
        · rcases List.mem_append.mp hz with hz | hz
          · exact kt _ _ (tus10 z hz)
          · rw [List.mem_singleton.mp hz]
            exact kt _ _ tv
    · rintro σ H6 ⟨Tk, zs, kvs, y4, y5, y6, kn, s6, hp6, hD6, keys, hO6, tus, rfl⟩
      rw [lr] at kn
      have allT : ∀ x < tb.length, x ∈ Tk := fun x hx => by
        obtain ⟨j, hj⟩ := List.mem_iff_getElem?.mp ((fin.all x).mpr hx)
        exact kn.late j x hj (Nat.le_add_left _ _)
      have kf := kn.few
      have tz : ∀ z ∈ zs, tupOf H6 (.ref z.1) = z.2 := fun z hz => tupOf_at (tus z hz)
      have hd : ∀ z ∈ zs, z.2 ≠ [] ∧ z.2.headD 0 ∈ z.2 := fun z hz => by
        obtain ⟨_, s, _, h⟩ := kn.each z hz
        have hs := (h ((s : Nat) : Int)).mpr ⟨s, rfl, KN.Scc.refl s⟩
        revert hs
        cases z.2 with
        | nil => exact fun z => absurd z List.not_mem_nil
        | cons x l => exact fun _ => ⟨fun z => (nomatch z), .head _⟩
      refine ⟨_, rfl, O, refT zs, tupOf H6, rfl, SqL.of hO6, by unfold refT; rw [List.length_map]; omega, fun x hx => ?_, fun x hx y hy e => ?_, fun ys py perm asc2 npy => ?_⟩
      · obtain ⟨z, hz, rfl⟩ := List.mem_map.mp hx
        rw [tz z hz]
        exact ⟨⟨z.1, rfl, SqT.of (tus z hz)⟩, (hd z hz).1⟩
      · obtain ⟨z, hz, rfl⟩ := List.mem_map.mp hx
        obtain ⟨z', hz', rfl⟩ := List.mem_map.mp hy
        rw [tz z hz, tz z' hz'] at e ⊢
        obtain ⟨a1, s, _, h⟩ := kn.each z hz
        obtain ⟨a2, s', _, h'⟩ := kn.each z' hz'
        have m1 := (hd z hz).2
        have m2 := (hd z' hz').2
        rw [← e] at m2
        obtain ⟨y1, ey1, g1⟩ := (h _).mp m1
        obtain ⟨y2, ey2, g2⟩ := (h' _).mp m2
        obtain rfl : y1 = y2 := Int.ofNat.inj (ey1.symm.trans ey2)
        refine asc_eq a1 a2 fun x => (h x).trans (Iff.trans ?_ (h' x).symm)
        constructor
        · rintro ⟨y, rfl, g⟩
          exact ⟨y, rfl, g2.trans (g1.symm.trans g)⟩
        · rintro ⟨y, rfl, g⟩
          exact ⟨y, rfl, g1.trans (g2.symm.trans g)⟩
      · obtain ⟨xs, rfl, pxs⟩ := perm_lift (fun z : Tu => V.ref z.1) perm zs rfl
        have s7 : Same H6 (upd H6 py (.lst (refT xs))) := same_upd npy
        refine ⟨py, _, rfl, .inl ⟨SqL.of upd_same, fun v hv => ?_⟩⟩
        have s8 := s7.trans (same_upd (o := .tup (refT xs)) hv)
        have s06 := s1.trans s6
        refine q v xs _ ((s06.trans s7).free hv) (s06.trans s8) upd_same (fun z hz => s8 _ _ (tus z (pxs.mem_iff.mp hz))) ⟨?_, ?_, fun k hk => ?_, fun x hx => ?_⟩
        · have asc2 := List.pairwise_map.mp asc2
          refine List.pairwise_map.mpr (asc2.imp_of_mem fun {a b} ha hb h => ?_)
          rw [tz a (pxs.mem_iff.mp ha), tz b (pxs.mem_iff.mp hb)] at h
          exact h
        · exact (pxs.map (·.2)).nodup_iff.mpr kn.ndz
        · obtain ⟨z, hz, rfl⟩ := List.mem_map.mp hk
          exact kn.each z (pxs.mem_iff.mp hz)
        · obtain ⟨z, hz, h⟩ := kn.all x (allT x hx)
          exact ⟨z.2, List.mem_map_of_mem (f := (·.2)) (pxs.mem_iff.mpr hz), h⟩
end
end WK
set_option Elab.async false
set_option linter.all false
set_option maxRecDepth 100000
set_option maxHeartbeats 4000000
namespace DL
open PySem PySem.Spec PyProof.Rows L2
/-- an entry as it is handed in: the key, the key's tuple, the value -/
abbrev Ent := List Key × Addr × V
/-- the entry, and how it lies in memory -/
def Lies (H : Hp) (k : Ent) (x : List Key × Addr × Value) : Prop := k.1 = x.1 ∧ k.2.1 = x.2.1 ∧ RelV k.2.2 x.2.2 ∧ H x.2.1 = some (.tup (x.1.map kV))
section
variable {X : Cx}
theorem laid {pins : List (Addr × Obj)} {σ : L2.St} {H : Hp} {s : Shared} (I : Inv X pins σ H s) : ∀ {ps : List Addr} {ks : List Ent}, Paired (fun p (k : Ent) => SqT X.K H p [.ref k.2.1, k.2.2] ∧ H k.2.1 = some (.tup (k.1.map kV))) ps ks →
    ∃ xs : List (List Key × Addr × Value), Paired (Lies H) ks xs ∧ xs.length = ps.length ∧ ∀ (j : Nat) (x : List Key × Addr × Value), xs[j]? = some x → ∃ b, ps[j]? = some b ∧ IsTup s.heap b #[.ref x.2.1, x.2.2]
  | _, _, .nil => ⟨[], .nil, rfl, fun j x e => by simp at e⟩
  | _, _, .cons (a := p) (b := k) h t => by
    obtain ⟨xs, pr, len, at_⟩ := laid I t
    obtain ⟨its, rv, isT, _⟩ := I.tuple h.1
    obtain ⟨u, y, rfl, ru, ry⟩ := vals2 rv
    cases ru
    refine ⟨(k.1, k.2.1, y) :: xs, .cons ⟨rfl, rfl, ry, h.2⟩ pr, congrArg Nat.succ len, fun j x e => ?_⟩
    cases j with
    | zero =>
      obtain rfl := Option.some.inj e
      exact ⟨p, rfl, isT⟩
    | succ j =>
      obtain ⟨b, e1, e2⟩ := at_ j x e
      exact ⟨b, e1, e2⟩
end
section
variable {P : Program} {w : World} {A : Around} {E : Value → Shared → Prop} {s : Shared}
set_option maxHeartbeats 6400000 in
theorem set_nums {l : Addr} {items : Array Value} (ns : List Int) {Q : Value → Shared → Prop} (calm : A.handled = none) (isL : s.heap.IsList l items) (nums : IntsAre items.toList ns) (room : ns.length + 1 < scanBound)
    (h : ∀ (g : Heap) (tk c : Nat), SetR w g s.heap.objs.size (fun k => decide (k ∈ ns)) c → c ≤ ns.length → (∀ b q, s.heap.get? b = some q → g.get? b = some q) → Q (.ref s.heap.objs.size) { s with heap := g, toks := tk }) :
    wpAny (model P w) A (call (.type "set") [.ref l]) Q E s := by
  have made := F.called_set.made
  have isSub := F.called_set.sub
  have noType := F.called_set.notType
  have creates := F.called_set.canCreate
  obtain ⟨_, _, _⟩ := F.called_set.mro
  have typeCall := F.typeCall_set_1 (.ref l)
  have size : items.size = ns.length := by
    have e := IntsAre.length nums
    rwa [Array.length_toList] at e
  have isInt : ∀ (i : Nat) (v : Value), items[i]? = some v → ∃ k t, ns[i]? = some k ∧ v = .int k t := fun i v e => by
    have lt : i < ns.length := size ▸ (Array.getElem?_eq_some_iff.mp e).1
    obtain ⟨t, eq⟩ := PyProof.Rows.IntsAre.int_at nums i v (Array.getElem?_toList.symm ▸ e)
    exact ⟨ns[i], t, List.getElem?_eq_getElem lt, by rw [eq, List.getD_eq_getElem?_getD, List.getElem?_eq_getElem lt] <;> rfl⟩
  refine wpAny_call (codeAny_of_tree ?_)
  change wpAny _ _ (callAny (.type "set") _) _ _ s
  refine wpAny_pure (And.intro (Code.quiet_builtin _ (by decide +kernel)) (codeAny_builtin F.entry_type_call ?_))
  rw [Around.under_plain (weight_type_call_type "set" [.ref l] []) rfl]
  repeat any_goals first | assumption | wp_step
  refine codeAny_mono (code_set_led1 (.ref l) (E := E) (Q₁ := fun v r => v = .ref s.heap.objs.size ∧ r = { s with heap := s.heap.push (TX.newSet w) }) ⟨rfl, rfl⟩) fun
    | .error _, _, bad => bad
    | .ok .next, _, bad => bad.elim
    | .ok .brk, _, bad => bad.elim
    | .ok .cont, _, bad => bad.elim
    | .ok (.ret _), _, ⟨rfl, rfl⟩ => ?_
  have setAt : (s.heap.push (TX.newSet w)).get? s.heap.objs.size = some (TX.newSet w) := Heap.get?_push_size _ rfl
  have isTy : Shared.TypeIs { s with heap := s.heap.push (TX.newSet w) } (.ref s.heap.objs.size) "set" := ⟨_, setAt, rfl⟩
  have found := F.called_set.init.lookup
  have bound := F.called_set.init.bind (.ref s.heap.objs.size)
  repeat any_goals first | assumption | wp_step
  refine codeAny_mono (codeAny_call_builtin (R := wants (fun v r => v = .none ∧ ∃ g tk c, r = { s with heap := g, toks := tk } ∧ SetR w g s.heap.objs.size (fun k => decide (k ∈ ns)) c ∧ c ≤ ns.length ∧
      ∀ b q, s.heap.get? b = some q → g.get? b = some q) E) F.called_set.init.plain F.entry_set_init (check_set_init_1 isTy ?_)) fun
    | .error _, _, bad => bad
    | .ok .next, _, bad => bad.elim
    | .ok .brk, _, bad => bad.elim
    | .ok .cont, _, bad => bad.elim
    | .ok (.ret _), _, ⟨rfl, _, _, _, rfl, r1, r2, r3⟩ => ?_
  · obtain ⟨⟨ocls, odict, odata, osl⟩, ho, hcl, nl, hd⟩ := isL
    dsimp only at hcl hd
    subst hcl
    subst hd
    have atL : (s.heap.push (TX.newSet w)).get? l = some { cls := .type "list", dict := odict, data := .seq items nl, slots := osl } := Heap.get?_push_of_some _ ho
    have f1 := F.sub_list_set
    have f2 := F.sub_list_frozenset
    have f3 : (Value.type "list" == Value.type "dict") = false := by decide
    have isL1 : (s.heap.push (TX.newSet w)).IsList l items := ⟨_, atL, rfl, nl, rfl⟩
    unfold Builtin.«set.__init__» noKeywords Builtin.Frozenset.updateFrom
    generalize asIter : pyIter = PI
    wp_walk
    subst asIter
    have size1 : (s.heap.push (TX.newSet w)).objs.size = s.heap.objs.size + 1 := Heap.size_push ..
    have below := Heap.lt_size ho
    have calm3 : A.in1.in1.in1.handled = none := by simp [calm]
    have neI : l ≠ (s.heap.push (TX.newSet w)).objs.size := by
      rw [size1]
      exact Nat.ne_of_lt (Nat.lt_succ_of_lt below)
    refine wpAny_pyIter_list isL1 (wpAny_bind (wpAny_runValue ?_))
    refine set_update_ints ((Walks.list calm3 _ l neI items).toS) s.heap.objs.size ?_ ns size room isInt items.size 0 _ rfl (Nat.zero_le _) ⟨⟨_, Heap.get?_push_size _ rfl, rfl, rfl⟩, isL1.push _⟩ ⟨0, Nat.le_refl _, setR_new_at (Heap.get?_push_of_some _ setAt)⟩ fun r c mv few isSet => ?_
    · simp only [List.mem_cons, List.mem_singleton, List.not_mem_nil, or_false, not_or, size1]
      exact ⟨Nat.ne_of_lt (Nat.lt_succ_self _), Nat.ne_of_gt below⟩
    · obtain ⟨g, gens, drawn, tk, os⟩ := r
      have e1 : gens = s.gens := mv.gens
      have e2 : drawn = s.drawn := mv.drawn
      have e3 : os = s.os := mv.os
      subst e1 e2 e3
      show wpAny _ _ _ _ _ _
      refine wpAny_pure (wpAny_pure ⟨rfl, g, tk, c, rfl, isSet, size ▸ few, fun b q z => mv.heap b q ?_ (Heap.get?_push_of_some _ (Heap.get?_push_of_some _ z))⟩)
      have lt := Heap.lt_size z
      simp only [List.mem_cons, List.mem_singleton, List.not_mem_nil, or_false, not_or, size1]
      exact ⟨Nat.ne_of_lt lt, Nat.ne_of_lt (Nat.lt_succ_of_lt lt)⟩
  · repeat any_goals first | assumption | wp_step
    exact h _ _ _ r1 r2 r3
end
section
variable {X : Cx}
def rSetI (K : PySem.W.Frag) (w : World) : List V → Hp → VK → Prop := fun vs H Q => ∃ (l : Addr) (ns : List Int), vs = [V.ref l] ∧ SqL K H l (ns.map V.int) ∧ ns.length < 1000 ∧ ∀ a c, H a = none → c ≤ ns.length → Q (.ref a) (upd H a (SetO w a (fun k => decide (k ∈ ns)) c))
/-- set(xs) of a list of numbers -/
theorem cr_setI (hc : X.calm = true) : CallR X (.type "set") (rSetI X.K X.w) := by
  rintro pins s σ H _ us Q I r ⟨l, ns, rfl, hl, few, q⟩
  rw [Vals.ref1 r]
  obtain ⟨its, rv, pl, hz⟩ := I.list hl
  refine set_nums (P := X.prog) (w := X.w) ns (I.ok.hd hc) pl.isList (by simpa using Vals.ints rv) (by unfold scanBound; omega) fun g tk c r1 r2 keep => ?_
  exact ⟨.ref s.heap.objs.size, _, I.laid (t' := tk) keep (Nat.le_refl _) (setO_new r1), rfl, q _ _ (I.hok.fresh (Nat.le_refl _)) r2⟩
end
end DL
set_option Elab.async false
set_option linter.all false
set_option maxRecDepth 100000
set_option maxHeartbeats 8000000
namespace WK
open PySem L2 PyProof.Rows LCX
open PySem.W (Frag kitOne)
abbrev sMInit : Stmt := inClass (top 43) 0
def plainTys : List String := ["tuple", "list", "str", "NoneType", "int", "bool"]
theorem NT.ty2 {K : Frag} {H : Hp} {v : V} (h : NT H v) : ∃ t, t ∈ plainTys ∧ TyX K H v (.type t) ∧ kitOne K (.type t) (.type "tuple") = some false := by
  rcases h with ⟨x, rfl⟩ | rfl | ⟨i, rfl⟩ | ⟨b, rfl⟩ | ⟨a, xs, rfl, q⟩
  · exact ⟨_, by decide, .base (.str _), kit_ty (by decide +kernel)⟩
  · exact ⟨_, by decide, .base .non, kit_ty (by decide +kernel)⟩
  · exact ⟨_, by decide, .base (.int _), kit_ty (by decide +kernel)⟩
  · exact ⟨_, by decide, .base (.bl _), kit_ty (by decide +kernel)⟩
  · exact ⟨_, by decide, .base (.lst q), kit_ty (by decide +kernel)⟩
/-- the class Machine at C, the class Made at cD, the error at cM -/
structure TMc (K : Frag) (mg : Str → Option Value) (C cD cM : Addr) : Prop where
  cl : Cls K C
  nT : NoAttr K C "_table"
  nL : NoAttr K C "_letters"
  nE : NoAttr K C "_ends"
  gC : mg "Machine" = some (.ref C)
  gD : mg "Made" = some (.ref cD)
  iD : ∀ t ∈ plainTys, kitOne K (.type t) (.ref cD) = some false
  gM : mg "InvalidMachine" = some (.ref cM)
  xM : PySem.W.excIn K cM [.type "ValueError", .type "Exception", .type "BaseException", .type "object"] "ValueError.__new__" = true
  kM : PySem.W.keepIn K (.ref cM) = true
  bM : PySem.W.subIn K (.ref cM) (.type "BaseException") = some true
  tM : PySem.W.typeIn K (.ref cM) = some (.type "type")
  most : ∃ t, mg "MAX_STATES" = some (.int 4 t)
/-- its fields -/
def mfl (lt tb en : V) : List (Str × V) := [("_table", tb), ("_letters", lt), ("_ends", en)]
/-- what is handed in: letters (none: no text), a table (none: no tuple), ends (none: no tuple) -/
def LetV (v : V) : Option Str → Prop
  | some x => v = .str x ∧ x.length ≤ 1000
  | none => v = .non
def TabV (K : Frag) (H : Hp) (v : V) : Option (List (Option (List V))) → Prop
  | some rs => ∃ a xs, v = .ref a ∧ SqT K H a xs ∧ xs.length ≤ 100 ∧ Rows K H xs rs
  | none => NT H v
def letO : Option Str → Bool
  | some x => letB x
  | none => false
def tabO (wd : Int) : Option (List (Option (List V))) → Bool
  | some rs => tabB rs wd 4
  | none => false
def ascO (m : Int) : Option (List V) → Bool
  | some xs => ascV xs m
  | none => false
def lenO {α : Type} : Option (List α) → Int
  | some l => l.length
  | none => 0
def lenX : Option Str → Int
  | some x => x.length
  | none => 0
def madeB (lt : Option Str) (tb : Option (List (Option (List V)))) (en : Option (List V)) : Bool := letO lt && tabO (lenX lt) tb && ascO (lenO tb) en
def spMInit (K : Frag) (C cM : Addr) : Sp := fun vs H Q E => ∃ p dx l t e lt tb en, vs = [.ref p, l, t, e] ∧ H p = some (.ins C dx []) ∧ LetV l lt ∧ TabV K H t tb ∧ RowV K H e en ∧
  ((madeB lt tb en = true ∧ ∀ H', H' p = some (.ins C dx (mfl l t e)) → (∀ b o, H b = some o → b ≠ p → H' b = some o) → Q .non H') ∨ (madeB lt tb en = false ∧ ∀ H', (∀ b o, H b = some o → b ≠ p → H' b = some o) → E (.ref cM) none H'))
theorem put2 (l t : V) : putF "_letters" l (putF "_table" t []) = ([("_table", t), ("_letters", l)] : List (Str × V)) := by
  show (if ("_table" : Str) = "_letters" then [(("_table" : Str), l)] else (("_table" : Str), t) :: putF "_letters" l []) = ([("_table", t), ("_letters", l)] : List (Str × V))
  rw [if_neg (by decide +kernel)]
  all_goals rfl
theorem put3 (l t e : V) : putF "_ends" e ([("_table", t), ("_letters", l)] : List (Str × V)) = mfl l t e := by
  show (if ("_table" : Str) = "_ends" then [(("_table" : Str), e), ("_letters", l)] else (("_table" : Str), t) :: (if ("_letters" : Str) = "_ends" then [(("_letters" : Str), e)] else (("_letters" : Str), l) :: putF "_ends" e [])) = mfl l t e
  rw [if_neg (by decide +kernel), if_neg (by decide +kernel)]
  all_goals rfl
theorem made_s (x : Str) (tb : Option (List (Option (List V)))) (en : Option (List V)) : madeB (some x) tb en = (letB x && tabO x.length tb && ascO (lenO tb) en) := rfl
theorem made_t (x : Str) (rs : List (Option (List V))) (en : Option (List V)) : madeB (some x) (some rs) en = (letB x && tabB rs x.length 4 && ascO rs.length en) := rfl
theorem sq_ins {K : Frag} {H : Hp} {a p C dx : Addr} {xs : List V} {fs : List (Str × V)} {o : HO} (h : SqT K H a xs) (hp : H p = some (.ins C dx fs)) : SqT K (upd H p o) a xs := by
  rcases h with h | h
  · rcases h with h | ⟨ob, h⟩
    · exact .inl (.inl (by rw [upd_ne (ne_of h hp (fun z => nomatch z))]; exact h))
    · exact .inl (.inr ⟨ob, by rw [upd_ne (ne_of h hp (fun z => nomatch z))]; exact h⟩)
  · exact .inr h
theorem NT.ins {H : Hp} {v : V} {p C dx : Addr} {fs : List (Str × V)} {o : HO} (h : NT H v) (hp : H p = some (.ins C dx fs)) : NT (upd H p o) v := by
  rcases h with h | h | h | h | ⟨a, xs, h, q⟩
  · exact .inl h
  · exact .inr (.inl h)
  · exact .inr (.inr (.inl h))
  · exact .inr (.inr (.inr (.inl h)))
  · exact .inr (.inr (.inr (.inr ⟨a, xs, h, by rw [upd_ne (ne_of q hp (fun z => nomatch z))]; exact q⟩)))
theorem RowV.ins {K : Frag} {H : Hp} {v : V} {r : Option (List V)} {p C dx : Addr} {fs : List (Str × V)} {o : HO} (h : RowV K H v r) (hp : H p = some (.ins C dx fs)) : RowV K (upd H p o) v r := by
  cases r with
  | none => exact NT.ins h hp
  | some xs =>
    obtain ⟨a, e, t, l, q⟩ := h
    exact ⟨a, e, sq_ins t hp, l, q⟩
section
variable {P : Program} {w : World} {K : PySem.W.Frag} {mg : Str → Option Value} {base : Heap} {C cD cM fL fT fA : Addr} {dL dT dA : FuncData}
theorem scMI : FnScope ["self", "letters", "table", "ends"] ["self", "letters", "table", "ends"] (defScope sMInit) := ⟨rfl, rfl, rfl, by decide +kernel, rfl, by decide +kernel, by decide +kernel⟩
theorem ok_minit {f : Addr} {oc kV dc pm ct cd dV : Value} {an od : Option Addr} {sl : Array (Option Value)} (lk : K.lookup f = some ⟨oc, od, .func (PySem.W.fnOf "__init__" "Machine.__init__" (defArgs sMInit) (defBody sMInit) (defScope sMInit) dV kV dc pm an cd ct), sl⟩) (hcd : PySem.W.codeIn K cd "Machine.__init__" = true)
    (T : TN mg) (M : TMc K mg C cD cM) (AL : Fn K mg "is_letters" sIsLet ["value"] fL dL) (GL : FnOk P w K mg base CX0 2 fL dL ["value"] (spIsLet K)) (AT : Fn K mg "is_table" sIsTab ["value", "width", "most"] fT dT) (GT : FnOk P w K mg base CX0 4 fT dT ["value", "width", "most"] (spTab K))
    (AA : Fn K mg "is_ascending" sIsAsc ["value", "many"] fA dA) (GA : FnOk P w K mg base CX0 3 fA dA ["value", "many"] (spIsAsc K)) :
    FnOk P w K mg base (L2.CX P w) 5 f (PySem.W.fnOf "__init__" "Machine.__init__" (defArgs sMInit) (defBody sMInit) (defScope sMInit) dV kV dc pm an cd ct) ["self", "letters", "table", "ends"] (spMInit K C cM) := by
  obtain ⟨tm, most⟩ := M.most
  refine fn_of lk hcd scMI (fun vs H Q E h => ?_) (fun A outer s H vs Q E hr h => ?_)
  · obtain ⟨p, dx, l, t, e, _, _, _, rfl, _⟩ := h
    rfl
  · obtain ⟨p, dx, l, t, e, lt, tb, en, rfl, hp, hl, ht, he, q⟩ := h
    have hr3 : Room 3 _ := hr.mono (by decide)
    have hr2 : Room 2 _ := hr.mono (by decide)
    refine ⟨_, pss_cons (ps_if (pt_not (pt_val (pe_call GL hr2 rfl AL.g AL.F.kp AL.b .nil pass0 (pa_cons (pv 1) pa_nil)))) (pss_one (ps_raise rfl (takes_of rfl rfl rfl rfl) (pmk_own PySem.F.excBase_ValueError M.xM M.gM M.kM (raises_own M.bM M.tM) rfl))) pss_nil)
      (pss_cons (ps_if (pt_val (pe_callB call_isi (by rfl) T.isi (by decide +kernel) (pa_cons (pv 2) (pa_cons (pe_glob rfl M.gD (show RelV (.ref cD) (.ref cD) from rfl)) pa_nil)))) (pss_one (ps_fld (pv 0) (pe_fld (pv 2) rfl) rfl))
        (pss_one (ps_if (pt_val (pe_call GT hr rfl AT.g AT.F.kp AT.b .nil pass0 (pa_cons (pv 2) (pa_cons (pe_callB call_len_str (by rfl) T.len PySem.boot_len (pa_cons (pv 1) pa_nil)) (pa_cons (pe_glob rfl most (show RelV (.int 4) (.int 4 tm) from ⟨tm, rfl⟩)) pa_nil)))))
          (pss_one (ps_fld (pv 0) (pv 2) rfl)) (pss_one (ps_raise rfl (takes_of rfl rfl rfl rfl) (pmk_own PySem.F.excBase_ValueError M.xM M.gM M.kM (raises_own M.bM M.tM) rfl))))))
      (pss_cons (ps_if (pt_not (pt_val (pe_call GA hr3 rfl AA.g AA.F.kp AA.b .nil pass0 (pa_cons (pv 3) (pa_cons (pe_callB call_len_seq (by rfl) T.len PySem.boot_len (pa_cons (pe_fld (pv 0) rfl) pa_nil)) pa_nil))))) (pss_one (ps_raise rfl (takes_of rfl rfl rfl rfl) (pmk_own PySem.F.excBase_ValueError M.xM M.gM M.kM (raises_own M.bM M.tM) rfl))) pss_nil)
      (pss_cons (ps_fld (pv 0) (pv 1) rfl) (pss_one (ps_fld (pv 0) (pv 3) rfl))))), ?_⟩
    have qT : madeB lt tb en = true → ∀ H', H' p = some (.ins C dx (mfl l t e)) → (∀ b o, H b = some o → b ≠ p → H' b = some o) → Q .non H' := fun h => q.elim (·.2) fun z => absurd (h.symm.trans z.1) (fun y => nomatch y)
    have qF : madeB lt tb en = false → ∀ H', (∀ b o, H b = some o → b ≠ p → H' b = some o) → E (.ref cM) none H' := fun h => q.elim (fun z => absurd (z.1.symm.trans h) (fun y => nomatch y)) (·.2)
    clear q
    cases lt with
    | none =>
      obtain rfl : l = .non := hl
      exact ⟨_, rfl, _, rfl, .inr ⟨⟨"NoneType", .base .non, kit_ty (by decide +kernel)⟩, _, rfl, qF rfl _ fun b o z _ => z⟩⟩
    | some x =>
      obtain ⟨rfl, hx⟩ := hl
      refine ⟨_, rfl, _, rfl, .inl ⟨x, rfl, hx, fun H1 s1 => ⟨_, rfl, ?_⟩⟩⟩
      cases e1 : letB x with
      | false => exact qF (by rw [made_s, e1] <;> rfl) _ fun b o z _ => s1 _ _ z
      | true =>
        have hz : x.length ≤ sizeLine := by rw [sizeLine_eq]; omega
        cases tb with
        | none =>
          obtain ⟨ty, ht1, ht2, ht3⟩ := NT.ty2 (K := K) (NT.ext (show NT H t from ht) s1)
          refine ⟨_, rfl, _, _, _, _, false, rfl, .own cD, ht2, M.iD ty ht1, false, rfl, ?_⟩
          refine ⟨_, rfl, _, rfl, _, rfl, hz, t, _, _, rfl, .inr ⟨NT.ext (show NT H t from ht) s1, _, rfl, ?_⟩⟩
          exact qF (by rw [made_s, show tabO x.length none = false from rfl, Bool.and_false] <;> rfl) _ fun b o z _ => s1 _ _ z
        | some rs =>
          obtain ⟨a, xs, rfl, hT, hxl, hR⟩ := ht
          refine ⟨_, rfl, _, _, _, _, false, rfl, .own cD, tyT (seqT s1 hT), M.iD _ (by decide), false, rfl, ?_⟩
          refine ⟨_, rfl, _, rfl, _, rfl, hz, .ref a, _, _, rfl, .inl ⟨a, xs, rs, rfl, seqT s1 hT, hxl, hR.ext s1, fun H2 s2 => ⟨_, rfl, ?_⟩⟩⟩
          have s02 : Same H H2 := s1.trans s2
          cases e2 : tabB rs x.length 4 with
          | false => exact qF (by rw [made_t, e2, Bool.and_false] <;> rfl) _ fun b o z _ => s02 _ _ z
          | true =>
            have hp2 : H2 p = some (.ins C dx []) := s02 _ _ hp
            refine ⟨_, rfl, _, rfl, p, C, dx, [], rfl, hp2, M.cl, M.nT, (by decide), ?_⟩
            refine ⟨_, rfl, _, rfl, p, C, dx, _, _, rfl, upd_same, M.cl, M.nT, rfl, a, xs, rfl, .inr (sq_ins (seqT s02 hT) hp2), ?_⟩
            have hN : ∀ H3, Same (upd H2 p (.ins C dx (putF "_table" (V.ref a) []))) H3 → ∀ b o, H b = some o → b ≠ p → H3 b = some o := fun H3 s3 b o z n => s3 _ _ (by rw [upd_ne n]; exact s02 _ _ z)
            have he2 : RowV K (upd H2 p (.ins C dx (putF "_table" (V.ref a) []))) e en := (RowV.ext he s02).ins hp2
            have hlen : xs.length = rs.length := hR.len
            have hp3 : (upd H2 p (.ins C dx (putF "_table" (V.ref a) []))) p = some (.ins C dx (putF "_table" (V.ref a) [])) := upd_same
            cases en with
            | none => exact ⟨e, _, rfl, .inr ⟨he2, _, rfl, qF (by rw [made_t, show ascO rs.length none = false from rfl, Bool.and_false]) _ (hN _ (Same.refl _))⟩⟩
            | some ys =>
              obtain ⟨b, rfl, hE, hyl, hyn⟩ := he2
              refine ⟨_, _, rfl, .inl ⟨b, ys, rfl, hE, hyl, hyn, fun H3 s3 => ⟨_, rfl, ?_⟩⟩⟩
              rw [hlen]
              cases e3 : ascV ys (rs.length : Int) with
              | false => exact qF (by rw [made_t, show ascO rs.length (some ys) = ascV ys rs.length from rfl, e3, Bool.and_false]) _ (hN _ s3)
              | true =>
                refine ⟨_, rfl, _, rfl, p, C, dx, _, rfl, s3 _ _ hp3, M.cl, M.nL, (by show 1 < 1000; decide), ?_⟩
                refine ⟨_, rfl, _, rfl, p, C, dx, _, rfl, upd_same, M.cl, M.nE, (by rw [put2]; show 2 < 1000; decide), ?_⟩
                refine qT (by rw [made_t, show ascO rs.length (some ys) = ascV ys rs.length from rfl, e1, e2, e3] <;> rfl) _ (by rw [upd_same, put2, put3]) fun c o z n => ?_
                rw [upd_ne n, upd_ne n]
                exact hN _ s3 c o z n
end
end WK
set_option Elab.async false
set_option linter.all false
set_option maxRecDepth 100000
set_option maxHeartbeats 8000000
namespace WK
open PySem L2 PyProof.Rows LCX K1
open TX (sg sigs)
open PySem.W (Frag kitOne)
abbrev kL : Key := Sum.inr "letters"
abbrev kTb : Key := Sum.inr "table"
abbrev kE : Key := Sum.inr "ends"
/-- a plain machine's dict -/
def pkv (L : W) (lt le : Addr) : List (Key × V) := [(kL, .str (tx L)), (kTb, .ref lt), (kE, .ref le)]
/-- ascending numbers from 0 to n -/
def Asc (n : Int) (es : List Int) : Prop := Bel n es ∧ es.Pairwise (· < ·)
structure PlainM (H : Hp) (m : Addr) (L : W) (tb : List (List Int)) (es : List Int) : Prop where
  ex : ∃ lt le, H m = some (.dK (pkv L lt le)) ∧ PTab H lt tb ∧ H le = some (.lst (es.map V.int))
structure MacOk (L : W) (tb : List (List Int)) (es : List Int) (n : Int) : Prop where
  tab : TabOk tb L.length n
  asc : Asc n es
  one : 1 ≤ n
/-- a plain machine's lists are not at p -/
def OffP (H : Hp) (m p : Addr) (L : W) : Prop := ∀ lt l, H m = some (.dK (pkv L lt l)) → lt ≠ p ∧ l ≠ p
theorem pkv_inj {L : W} {a b c d : Addr} (h : pkv L a b = pkv L c d) : a = c ∧ b = d := by
  injection h with _ h
  injection h with h1 h
  injection h with h2 _
  injection h1 with _ h1
  injection h2 with _ h2
  injection h1 with h1
  injection h2 with h2
  exact ⟨h1, h2⟩
abbrev NMa : List Str := ["_law_dice_here", "_law_letters_here", "_law_states", "_law_size", "_law_table_here", "_law_ends", "_law_state"]
theorem PTab.same {H H' : Hp} {l : Addr} {tb : List (List Int)} (h : PTab H l tb) (s : Same H H') : PTab H' l tb := by
  obtain ⟨as, h1, h2⟩ := h
  exact ⟨as, s _ _ h1, h2.to fun a _ r e => s _ _ e⟩
theorem merge3 (a b c : V) : mergeK [] ([(kL, a), (kTb, b), (kE, c)] : List (Key × V)) = [(kL, a), (kTb, b), (kE, c)] := by
  have h1 : decide ((kL : Key) = kTb) = false := by decide +kernel
  have h2 : decide ((kL : Key) = kE) = false := by decide +kernel
  have h3 : decide ((kTb : Key) = kE) = false := by decide +kernel
  show putK (putK (putK [] kL a) kTb b) kE c = _
  have e1 : putK ([] : List (Key × V)) kL a = [(kL, a)] := rfl
  have e2 : putK [(kL, a)] kTb b = [(kL, a), (kTb, b)] := by
    unfold putK
    rw [List.any_cons, h1]
    rfl
  have e3 : putK [(kL, a), (kTb, b)] kE c = [(kL, a), (kTb, b), (kE, c)] := by
    unfold putK
    rw [List.any_cons, List.any_cons, h2, h3]
    rfl
  rw [e1, e2, e3]
section
variable {P : Program} {w : World} {K : PySem.W.Frag} {mg : Str → Option Value} {base : Heap} {fR fO fA fT : Addr} {dR dO dA dT : FuncData}
theorem scMa : FnScope NMa ["_law_dice_here", "_law_letters_here", "_law_states"] (defScope sLMac) := ⟨rfl, rfl, rfl, by decide +kernel, rfl, by decide +kernel, by decide +kernel⟩
end
end WK
set_option Elab.async false
set_option linter.all false
set_option maxRecDepth 100000
set_option maxHeartbeats 8000000
namespace WK
open PySem L2 PyProof.Rows LCX K1
open TX (sg sigs)
open PySem.W (Frag kitOne)
abbrev sMade : Stmt := top 61
theorem no_pass {P : Program} {w : World} {X : Cx} : Passes (L2.CX P w) X (fun _ _ _ => False) := fun _ _ _ _ _ _ _ hc => by
  obtain ⟨a, B, H', cls, d, z1, fl, z2, ub, z3, z4, z5, z6⟩ := hc
  exact z6.elim
theorem numB_in {i m : Int} (h : 0 ≤ i ∧ i < m) : numB (.int i) 0 (m - 1) = true := by
  show (decide (0 ≤ i) && decide (i ≤ m - 1)) = true
  rw [decide_eq_true h.1, decide_eq_true (by omega)]
  rfl
theorem nums_in {is : List Int} {m : Int} (h : Bel m is) : ((is.map V.int).map fun x => numB x 0 (m - 1)).all id = true := by
  rw [List.map_map, List.all_eq_true]
  intro b hb
  obtain ⟨i, hi, rfl⟩ := List.mem_map.mp hb
  exact numB_in (h i hi)
theorem int_of (is : List Int) : (is.map V.int).map intOf = is := by
  rw [List.map_map]
  exact (List.map_congr_left fun _ _ => rfl).trans (List.map_id is)
theorem ascV_in {es : List Int} {n : Int} (h : Asc n es) : ascV (es.map V.int) n = true := by
  unfold ascV
  rw [nums_in h.1, int_of]
  exact decide_eq_true h.2
theorem rowB_in {r : List Int} {wd : Nat} {m : Int} (h1 : r.length = wd) (h2 : Bel m r) : rowB (r.map V.int) wd m = true := by
  unfold rowB
  rw [nums_in h2, decide_eq_true (by rw [List.length_map, h1])]
  rfl
abbrev rsOf (tb : List (List Int)) : List (Option (List V)) := tb.map fun r => some (r.map V.int)
theorem tabB_in {tb : List (List Int)} {wd : Nat} {n most : Int} (h : TabOk tb wd n) (h1 : 1 ≤ n) (h2 : n ≤ most) : tabB (rsOf tb) wd most = true := by
  have e : ((rsOf tb).length : Int) = n := by rw [List.length_map]; exact h.len
  unfold tabB
  rw [e, decide_eq_true h1, decide_eq_true h2]
  show ((rsOf tb).map _).all id = true
  rw [List.map_map, List.all_eq_true]
  intro b hb
  obtain ⟨r, hr, rfl⟩ := List.mem_map.mp hb
  exact rowB_in (h.row r hr).1 (h.row r hr).2
theorem rows_of {K : Frag} {H : Hp} {wd : Nat} (hw : wd ≤ 100) : ∀ {ts : List Addr} {tb : List (List Int)}, Objs oTup H ts tb → (∀ r ∈ tb, r.length = wd) → Rows K H (ts.map V.ref) (rsOf tb)
  | [], [], _, _ => trivial
  | t :: ts, r :: tb, h, k => ⟨⟨t, rfl, SqT.of h.1, by rw [List.length_map, k r (.head _)]; exact hw, fun x hx => by obtain ⟨i, _, rfl⟩ := List.mem_map.mp hx; exact .inl ⟨i, rfl⟩⟩, rows_of hw h.2 fun r hr => k r (.tail _ hr)⟩
  | [], _ :: _, h, _ => h.elim
  | _ :: _, [], h, _ => h.elim
theorem asc_from {n : Int} : ∀ (es : List Int) (a : Int), a ≤ n → (∀ i ∈ es, a ≤ i ∧ i < n) → es.Pairwise (· < ·) → (es.length : Int) ≤ n - a
  | [], _, h, _, _ => by
    show (0 : Int) ≤ _
    omega
  | e :: es, a, _, hb, hp => by
    obtain ⟨h1, h2⟩ := List.pairwise_cons.mp hp
    have he := hb e (.head _)
    have := asc_from es (e + 1) (by omega) (fun i hi => ⟨h1 i hi, (hb i (.tail _ hi)).2⟩) h2
    rw [List.length_cons]
    omega
theorem asc_len {n : Int} {es : List Int} (h : Asc n es) (h0 : 0 ≤ n) : (es.length : Int) ≤ n := by
  have := asc_from es 0 h0 h.1 h.2
  omega
/-- a machine stands at o -/
structure MacAt (C : Addr) (H : Hp) (o : Addr) (L : W) (tb : List (List Int)) (es : List Int) : Prop where
  ex : ∃ (dx t e : Addr) (ts : List Addr), H o = some (.ins C dx (mfl (.str (tx L)) (.ref t) (.ref e))) ∧ H t = some (.tup (ts.map V.ref)) ∧ Objs oTup H ts tb ∧ H e = some (.tup (es.map V.int))
theorem MacAt.same {C : Addr} {H H' : Hp} {o : Addr} {L : W} {tb : List (List Int)} {es : List Int} (h : MacAt C H o L tb es) (s : Same H H') : MacAt C H' o L tb es := by
  obtain ⟨dx, t, e, ts, h1, h2, h3, h4⟩ := h.ex
  exact ⟨dx, t, e, ts, s _ _ h1, s _ _ h2, h3.to fun a _ r z => s _ _ z, s _ _ h4⟩
def spMade (C : Addr) : Sp := fun vs H Q _ => ∃ (m : Addr) (L : W) (tb : List (List Int)) (es : List Int) (n : Int), vs = [.ref m] ∧ PlainM H m L tb es ∧ MacOk L tb es n ∧ n ≤ 4 ∧ Let L ∧ ∀ (o : Addr) (H' : Hp), H o = none → Same H H' → MacAt C H' o L tb es → Q (.ref o) H'
theorem pkv_L (L : W) (lt le : Addr) : valV (pkv L lt le) kL = some (.str (tx L)) := rfl
theorem val_skip {k1 k : Key} {v : V} {r : List (Key × V)} (h : decide (k1 = k) = false) : valV ((k1, v) :: r) k = valV r k := by
  unfold valV
  rw [List.find?_cons, show decide ((k1, v).1 = k) = false from h]
theorem pkv_T (L : W) (lt le : Addr) : valV (pkv L lt le) kTb = some (.ref lt) := (val_skip (by decide +kernel)).trans rfl
theorem pkv_E (L : W) (lt le : Addr) : valV (pkv L lt le) kE = some (.ref le) := (val_skip (by decide +kernel)).trans ((val_skip (by decide +kernel)).trans rfl)
section
variable {P : Program} {w : World} {K : PySem.W.Frag} {mg : Str → Option Value} {base : Heap} {C cD cM fI : Addr} {dI : FuncData}
theorem scMd : FnScope ["_law_plain"] ["_law_plain"] (defScope sMade) := ⟨rfl, rfl, rfl, by decide +kernel, rfl, by decide +kernel, by decide +kernel⟩
theorem ok_made {f : Addr} {fd : FuncData} (F : Fun K "_law_made_machine" "_law_made_machine" sMade f fd) (T : TN mg) (M : TMc K mg C cD cM) (MI : Mk K C fI) (GI : FnOk P w K mg base (L2.CX P w) 5 fI dI ["self", "letters", "table", "ends"] (spMInit K C cM)) (bI : Binds K dI ["self", "letters", "table", "ends"] []) :
    FnOk P w K mg base CX0 7 f fd ["_law_plain"] (spMade C) := by
  refine F.ok scMd (fun vs H Q E h => ?_) (fun cdv A outer s H vs Q E hr h => ?_)
  · obtain ⟨m, L, tb, es, n, rfl, _⟩ := h
    rfl
  · obtain ⟨m, L, tb, es, n, rfl, hp, ok, h4, hL, k⟩ := h
    have hu := hu_of hr
    refine ⟨_, pss_one (ps_ret (pe_make (E := fun _ _ _ => False) MI GI hr rfl M.gC bI .nil no_pass (pa_cons (pe_dget hu (pv 0) pe_str (fun _ _ => rfl))
      (pa_cons (pe_callTy call_tuple_of (by rfl) T.tuple (by decide +kernel) (pa_cons (pe_dget hu (pv 0) pe_str (fun _ _ => rfl)) pa_nil))
      (pa_cons (pe_callTy call_tuple_of (by rfl) T.tuple (by decide +kernel) (pa_cons (pe_dget hu (pv 0) pe_str (fun _ _ => rfl)) pa_nil)) pa_nil))))), ?_⟩
    obtain ⟨lt, le, h1, ⟨ts, h2, h3⟩, h5⟩ := hp.ex
    have g : ∀ (H' : Hp) (kk : Key) (v : V), Same H H' → valV (pkv L lt le) kk = some v → DGet H' m (kV kk) (some v) := fun H' kk v s e => e ▸ DGet.k (s _ _ h1)
    refine ⟨_, rfl, m, _, rfl, g H kL _ (Same.refl H) (pkv_L L lt le), ?_⟩
    refine ⟨_, rfl, m, _, rfl, g H kTb _ (Same.refl H) (pkv_T L lt le), lt, _, rfl, .inl ⟨SqL.of h2, fun t ht => ?_⟩⟩
    have s1 : Same H (upd H t (.tup (ts.map V.ref))) := same_upd ht
    refine ⟨_, rfl, m, _, rfl, g _ kE _ s1 (pkv_E L lt le), le, _, rfl, .inl ⟨SqL.of (s1 _ _ h5), fun e he => ?_⟩⟩
    have s2 : Same H (upd (upd H t (.tup (ts.map V.ref))) e (.tup (es.map V.int))) := same_two s1 he
    have ht2 : (upd (upd H t (.tup (ts.map V.ref))) e (.tup (es.map V.int))) t = some (.tup (ts.map V.ref)) := same_upd he _ _ upd_same
    have he2 : (upd (upd H t (.tup (ts.map V.ref))) e (.tup (es.map V.int))) e = some (.tup (es.map V.int)) := upd_same
    generalize upd (upd H t (.tup (ts.map V.ref))) e (.tup (es.map V.int)) = H2 at s2 ht2 he2 ⊢
    intro x dx hx hdx ne
    have s3 : Same H2 (upd (upd H2 dx (.own x)) x (.ins C dx [])) := fun b o z => by rw [upd_ne (ne_of_none z hx), upd_ne (ne_of_none z hdx)]; exact z
    have o3 : Objs oTup (upd (upd H2 dx (.own x)) x (.ins C dx [])) ts tb := h3.to fun a _ r z => s3 _ _ (s2 _ _ z)
    have hlen := h3.len
    have htl := ok.tab.len
    refine ⟨x, dx, .str (tx L), .ref t, .ref e, some (tx L), some (rsOf tb), some (es.map V.int), rfl, upd_same, ⟨rfl, by rw [tx_len]; have := hL.few; omega⟩, ⟨t, _, rfl, SqT.of (s3 _ _ ht2), by rw [List.length_map]; omega, rows_of (by have := hL.few; omega) o3 fun r hr => (ok.tab.row r hr).1⟩, ⟨e, rfl, SqT.of (s3 _ _ he2), ?_, ?_⟩, .inl ⟨?_, fun H4 h4' k4 => ⟨rfl, ?_⟩⟩⟩
    · have := asc_len ok.asc (by have := ok.one; omega)
      rw [List.length_map]
      omega
    · intro y hy
      obtain ⟨i, _, rfl⟩ := List.mem_map.mp hy
      exact .inl ⟨i, rfl⟩
    · have e1 : ((rsOf tb).length : Int) = n := by rw [List.length_map]; exact htl
      rw [made_t, letB_let hL, tx_len, tabB_in ok.tab ok.one h4, e1]
      exact ascV_in ok.asc
    · have s4 : Same H2 H4 := fun b o z => k4 b o (s3 _ _ z) (ne_of_none z hx)
      exact k x H4 (s2.free hx) (s2.trans s4) ⟨dx, t, e, ts, h4', s4 _ _ ht2, h3.to fun a _ r z => s4 _ _ (s2 _ _ z), s4 _ _ he2⟩
end
end WK
set_option Elab.async false
set_option linter.all false
set_option maxRecDepth 100000
set_option maxHeartbeats 8000000
namespace WK
open PySem L2 PyProof.Rows LCX K1 FV DP DL
open TX (sg sigs)
open PySem.W (Frag kitOne)
abbrev sReach : Stmt := top 67
abbrev NRe : List Str := ["_law_table_here", "_law_state", "_law_found", "_law_at", "_law_more", "_law_later"]
theorem eqV_int (a b : Int) : eqV (.int a) (.int b) = decide (a = b) := by
  show (a == b) = decide (a = b)
  rfl
theorem inV_int (r : Int) (es : List Int) : inV (.int r) (es.map V.int) = decide (r ∈ es) := by
  unfold inV
  rw [Bool.eq_iff_iff, decide_eq_true_eq, List.any_map, List.any_eq_true]
  constructor
  · rintro ⟨e, he, h⟩
    have h2 : eqV (.int e) (.int r) = true := h
    rw [eqV_int] at h2
    rw [← of_decide_eq_true h2]
    exact he
  · exact fun h => ⟨r, h, (eqV_int r r).trans (decide_eq_true rfl)⟩
theorem flat_ints (es : List Int) : (es.map V.int).all flatV = true := by
  rw [List.all_eq_true]
  intro v hv
  obtain ⟨i, _, rfl⟩ := List.mem_map.mp hv
  rfl
/-- found, and the first k of them looked at -/
structure Re (n : Nat) (row : Nat → List Nat) (s : Nat) (F : List Nat) (k : Nat) : Prop where
  nd : F.Nodup
  st : s ∈ F
  all : ∀ x ∈ F, x < n ∧ KN.Rch row s x
  clo : ∀ (j x : Nat), j < k → F[j]? = some x → ∀ y ∈ row x, y ∈ F
theorem Re.few {n : Nat} {row : Nat → List Nat} {s k : Nat} {F : List Nat} (h : Re n row s F k) : F.length ≤ n := by
  have := h.nd.length_le_of_subset (fun x hx => List.mem_range.mpr (h.all x hx).1 : F ⊆ List.range n)
  rwa [List.length_range] at this
theorem Re.add {n : Nat} {row : Nat → List Nat} {s k x : Nat} {F G : List Nat} (h : Re n row s F k) (hx : F[k]? = some x) (nd : G.Nodup) (hG : ∀ y, y ∈ G ↔ y ∈ row x ∧ y ∉ F) (lt : ∀ y ∈ row x, y < n) : Re n row s (F ++ G) (k + 1) := by
  have kl := (List.getElem?_eq_some_iff.mp hx).1
  refine ⟨List.nodup_append.mpr ⟨h.nd, nd, fun a ha b hb e => ((hG b).mp hb).2 (e ▸ ha)⟩, List.mem_append_left _ h.st, fun y hy => ?_, fun j z hj hz y hy => ?_⟩
  · rcases List.mem_append.mp hy with a | a
    · exact h.all y a
    · have := (hG y).mp a
      exact ⟨lt y this.1, .step (h.all x (List.mem_of_getElem? hx)).2 this.1⟩
  · rw [List.getElem?_append_left (by omega)] at hz
    by_cases e : j = k
    · subst e
      obtain rfl : x = z := Option.some.inj (hx.symm.trans hz)
      by_cases m : y ∈ F
      · exact List.mem_append_left _ m
      · exact List.mem_append_right _ ((hG y).mpr ⟨hy, m⟩)
    · exact List.mem_append_left _ (h.clo j z (by omega) hz y hy)
theorem Re.whole {n : Nat} {row : Nat → List Nat} {s k : Nat} {F : List Nat} (h : Re n row s F k) (hk : F.length ≤ k) (x : Nat) : x ∈ F ↔ KN.Rch row s x := by
  refine ⟨fun hx => (h.all x hx).2, fun r => ?_⟩
  induction r with
  | refl => exact h.st
  | step _ e ih =>
    obtain ⟨j, hj⟩ := List.mem_iff_getElem?.mp ih
    have := (List.getElem?_eq_some_iff.mp hj).1
    exact h.clo j _ (by omega) hj _ e
def spReach : Sp := fun vs H Q _ => ∃ (t : Addr) (tb : List (List Int)) (wd : Nat) (n : Int) (s : Nat), vs = [.ref t, .int ((s : Nat) : Int)] ∧ PTab H t tb ∧ TabOk tb wd n ∧ tb.length < 64 ∧ wd < 64 ∧ s < tb.length ∧
  ∀ (p : Addr) (F : List Nat) H', H p = none → Same H H' → H' p = some (.lst ((nI F).map V.int)) → F.length ≤ tb.length → F.Nodup → (∀ x, x ∈ F ↔ KN.Rch (rowN tb) s x) → Q (.ref p) H'
section
variable {P : Program} {w : World} {K : PySem.W.Frag} {mg : Str → Option Value} {base : Heap}
theorem scRe : FnScope NRe ["_law_table_here", "_law_state"] (defScope sReach) := ⟨rfl, rfl, rfl, by decide +kernel, rfl, by decide +kernel, by decide +kernel⟩
theorem ok_lreach {f : Addr} {fd : FuncData} (F : Fun K "_law_reach" "_law_reach" sReach f fd) (T : TN mg) : FnOk P w K mg base CX0 1 f fd ["_law_table_here", "_law_state"] spReach := by
  refine F.ok scRe (fun vs H Q E h => ?_) (fun cdv A outer s H vs Q E hr h => ?_)
  · obtain ⟨t, _, _, _, _, rfl, _⟩ := h
    rfl
  · obtain ⟨t, tb, wd, n, st, rfl, hT, ok, n1, w1, sn, q⟩ := h
    have hub := hu_of hr
    refine ⟨_, pss_cons (ps_asg (pe_tup (pa_cons (pe_lst (pa_cons (pv 1) pa_nil)) (pa_cons pe_int pa_nil))) (pg_tup (n := 2) (by rfl) (pgs_cons (pg_name (i := 2) scRe.nd rfl (Or.inr rfl)) (pgs_cons (pg_name (i := 3) scRe.nd rfl (Or.inl rfl)) pgs_nil))))
      (pss_cons (ps_while PassesOwn.never (pt_cmpR op_lt (pv 3) (pe_callB call_len_seq (by rfl) T.len PySem.boot_len (pa_cons (pv 2) pa_nil)) (nomark _))
        (pss_cons (ps_setLc (i := 4) (own := [("_law_later", 5)]) (g := gName 5) (tt := tTest (tOp (rIn K true) (tVar 5) (tVar 2))) (te := tVar 5) rfl scRe.nd rfl rfl (sw_true rfl rfl rfl (by decide +kernel)) (pi_tup (pe_ix ix_list (pv 0) (pe_ix ix_list (pv 2) (pv 3) (fun _ _ => rfl)) (fun _ _ => rfl)))
          (blkOk_by (own := [("_law_later", 5)]) (N := NRe) (sc := defScope sReach) (by decide +kernel)) (fun _ _ _ _ _ => pg_name (i := 5) scRe.nd rfl (Or.inl rfl)) (fun _ _ _ _ _ => pts_one (pt_cmpR op_notIn_seq (pv 5) (pv 2) (by rfl))) (fun _ _ _ _ _ => pv 5))
        (pss_cons (ps_set (i := 2) scRe.nd rfl (Or.inr rfl) (pe_op op_cat (pv 2) (pe_callB (cr_sortedSet rfl) (by rfl) T.sorted (by decide +kernel) (pa_cons (pe_callTy (cr_setI rfl) (by rfl) T.set (by decide +kernel) (pa_cons (pv 4) pa_nil)) pa_nil))))
        (pss_one (ps_set (i := 3) scRe.nd rfl (Or.inl rfl) (pe_op op_add (pv 3) pe_int))))))
      (pss_one (ps_ret (pv 2)))), ?_⟩
    obtain ⟨ts, h1, h2⟩ := id hT
    have okl := ok.len
    refine ⟨_, rfl, by show 1 ≤ sizeLine; decide, fun F0 nF0 => ?_⟩
    have s1 : Same H (upd H F0 (.lst [.int ((st : Nat) : Int)])) := same_upd nF0
    have hF1 : (upd H F0 (.lst [.int ((st : Nat) : Int)])) F0 = some (.lst ((nI [st]).map V.int)) := upd_same
    generalize upd H F0 (.lst [.int ((st : Nat) : Int)]) = H1 at s1 hF1 ⊢
    refine ⟨by show 2 ≤ sizeLine; decide, fun T0 nT0 => ⟨T0, _, rfl, SqT.of upd_same, rfl, _, _, rfl, _, _, rfl, rfl, ?_⟩⟩
    have sT := same_upd (o := .tup [.ref F0, .int 0]) nT0
    have hF2 := sT _ _ hF1
    have s2 := s1.trans sT
    generalize upd H1 T0 (.tup [.ref F0, .int 0]) = H2 at hF2 s2 ⊢
    have nF0 : H F0 = none := nF0
    refine ⟨fun m σ H3 => ∃ (F : List Nat) (Fa : Addr) (k : Nat) (x4 x5 : Option V), m = tb.length - k ∧ Re tb.length (rowN tb) st F k ∧ k ≤ F.length ∧ Same H H3 ∧ H3 Fa = some (.lst ((nI F).map V.int)) ∧ H Fa = none ∧
      σ = [some (.ref t), some (.int ((st : Nat) : Int)), some (.ref Fa), some (.int ((k : Nat) : Int)), x4, x5], ⟨_, [st], F0, 0, _, _, rfl, ⟨List.nodup_cons.mpr ⟨List.not_mem_nil, List.nodup_nil⟩, .head _, fun x hx => by
        rw [List.mem_singleton.mp hx]
        exact ⟨sn, .refl st⟩, fun j x hj => absurd hj (Nat.not_lt_zero j)⟩, Nat.zero_le _, s2, hF2, nF0, rfl⟩, ?_⟩
    rintro m σ H3 ⟨F, Fa, k, x4, x5, rfl, re, kl, s3, hF3, nFa, rfl⟩
    have few := re.few
    refine ⟨_, rfl, _, rfl, Fa, _, rfl, .inl (SqL.of hF3), _, _, rfl, rfl, _, rfl, ?_⟩
    rw [List.length_map, nI_len]
    refine ite2 (fun hlt => ?_) (fun hge => ?_)
    · have hlt : ((k : Nat) : Int) < ((F.length : Nat) : Int) := of_decide_eq_true hlt
      have hlt : k < F.length := by omega
      obtain ⟨v, ev⟩ : ∃ v, F[k]? = some v := ⟨_, List.getElem?_eq_getElem hlt⟩
      have vn := (re.all v (List.mem_of_getElem? ev)).1
      obtain ⟨a, ea, ha⟩ := h2.get vn
      have ha : H a = some (oTup (tb.getD v [])) := ha
      have at1 : atI (ts.map V.ref) ((v : Nat) : Int) = some (.ref a) := atI_nat (by rw [List.getElem?_map, ea] <;> rfl)
      have at0 : atI ((nI F).map V.int) ((k : Nat) : Int) = some (.int ((v : Nat) : Int)) := atI_nat (by unfold nI; rw [List.getElem?_map, List.getElem?_map, ev] <;> rfl)
      have er : rowN tb v = (tb.getD v []).map Int.toNat := rfl
      have r12 : (tb.getD v []).length = wd ∧ ∀ z ∈ tb.getD v [], 0 ≤ z ∧ z < n := by
        rw [List.getD_eq_getElem?_getD, List.getElem?_eq_getElem vn]
        exact ok.row _ (List.getElem_mem vn)
      obtain ⟨r1, r2⟩ := r12
      generalize tb.getD v [] = rw at ha er r1 r2
      refine ⟨_, fun _ _ h => h, ?_⟩
      refine ⟨_, rfl, _, rfl, _, rfl, Fa, _, _, _, rfl, rfl, SqL.of hF3, at0, t, _, _, _, rfl, rfl, SqL.of (s3 _ _ h1), at1, a, rfl, ⟨_, SqT.of (s3 _ _ ha)⟩, fun D nD => ?_⟩
      refine lc_it walk_tup (fun i H4 => Same H3 H4 ∧ ∃ es : List Int, H4 D = some (.lst (es.map V.int)) ∧ es.length ≤ i ∧ ∀ z : Int, z ∈ es ↔ z ∈ rw.take i ∧ z ∉ nI F) ⟨same_upd nD, [], upd_same, Nat.le_refl _, fun z => ⟨fun h => absurd h List.not_mem_nil, fun h => by simp at h⟩⟩ (fun i H4 _ h => SqT.of (h.1 _ _ (s3 _ _ ha))) ?_ ?_
      · rintro i x H4 H5 hi ⟨s4, es, hd4, le4, m4⟩ ⟨rfl, hx⟩
        rw [List.length_map] at hi
        obtain ⟨z, hz⟩ : ∃ z, rw[i]? = some z := ⟨_, List.getElem?_eq_getElem hi⟩
        obtain rfl : x = .int z := by
          rw [List.getElem?_map, hz] at hx
          exact (Option.some.inj hx).symm
        have tk : rw.take (i + 1) = rw.take i ++ [z] := by rw [List.take_add_one, hz] <;> rfl
        refine ⟨rfl, _, rfl, _, rfl, Fa, _, rfl, .inl (SqL.of (s4 _ _ hF3)), rfl, flat_ints _, _, rfl, ?_⟩
        rw [inV_int, tk]
        refine ite2 (fun hc => ?_) (fun hc => ?_)
        · have hc : z ∉ nI F := fun h => by
            rw [decide_eq_true h] at hc
            cases hc
          refine ⟨_, rfl, _, hd4, by rw [List.length_map, sizeLine_eq]; omega, same_at s4 nD, es ++ [z], by rw [upd_same, List.map_append] <;> rfl, by rw [List.length_append, List.length_singleton]; omega, fun y => ?_⟩
          rw [List.mem_append, List.mem_append, m4 y, List.mem_singleton]
          constructor
          · rintro (h | rfl)
            · exact ⟨.inl h.1, h.2⟩
            · exact ⟨.inr rfl, hc⟩
          · rintro ⟨h | rfl, h2⟩
            · exact .inl ⟨h, h2⟩
            · exact .inr rfl
        · have hc : z ∈ nI F := Classical.byContradiction fun h => hc (by rw [decide_eq_false h] <;> rfl)
          refine ⟨s4, es, hd4, by omega, fun y => ?_⟩
          rw [List.mem_append, m4 y, List.mem_singleton]
          constructor
          · exact fun h => ⟨.inl h.1, h.2⟩
          · rintro ⟨h | rfl, h2⟩
            · exact ⟨h, h2⟩
            · exact absurd hc h2
      rintro H4 ⟨s4, es, hd4, le4, m4⟩
      rw [List.length_map, List.take_of_length_le (Nat.le_refl _)] at m4
      rw [List.length_map, r1] at le4
      refine ⟨_, rfl, _, rfl, D, es, rfl, SqL.of hd4, by omega, fun sa c nsa hc => ⟨sa, _, c, rfl, upd_same, by omega, fun ns p up mem len hp => ?_⟩⟩
      have s5 := s4.trans (same_upd (o := SetO w sa (fun k => decide (k ∈ es)) c) nsa)
      have s6 := s5.trans (same_upd (o := .lst (ns.map V.int)) hp)
      have np6 : (upd (upd H4 sa (SetO w sa (fun k => decide (k ∈ es)) c)) p (.lst (ns.map V.int))) p = some (.lst (ns.map V.int)) := upd_same
      have mem : ∀ z : Int, z ∈ ns ↔ z ∈ rw ∧ z ∉ nI F := fun z => ((mem z).trans (by rw [decide_eq_true_eq])).trans (m4 z)
      obtain ⟨G, eG⟩ : ∃ G : List Nat, ns = nI G := ⟨ns.map Int.toNat, by
        unfold nI
        rw [List.map_map]
        refine (List.map_id ns).symm.trans (List.map_congr_left fun z hz => ?_)
        have := r2 z ((mem z).mp hz).1
        show z = ((z.toNat : Nat) : Int)
        omega⟩
      subst eG
      have ndG : G.Nodup := by
        have h : (nI G).Nodup := up.imp fun h => by omega
        unfold nI at h
        exact List.nodup_iff_pairwise_ne.mpr ((List.pairwise_map.mp (List.nodup_iff_pairwise_ne.mp h)).imp fun h e => h (by rw [e]))
      have rn : ∀ y ∈ rowN tb v, y < tb.length := fun y hy => by
        rw [er] at hy
        obtain ⟨z, hz, rfl⟩ := List.mem_map.mp hy
        have := r2 z hz
        omega
      have mG : ∀ y, y ∈ G ↔ y ∈ rowN tb v ∧ y ∉ F := fun y => by
        rw [← nI_mem (l := G), mem, nI_mem, er, List.mem_map]
        refine and_congr_left fun _ => ⟨fun h => ⟨_, h, Int.toNat_natCast y⟩, fun ⟨z, hz, e⟩ => ?_⟩
        have := r2 z hz
        rwa [show ((y : Nat) : Int) = z by omega]
      have re1 := re.add ev ndG mG rn
      have few1 := re1.few
      rw [List.length_append] at few1
      refine ⟨Fa, p, _, _, rfl, rfl, s6 _ _ hF3, np6, by rw [List.length_map, List.length_map, nI_len, nI_len, sizeLine_eq]; omega, fun p2 np2 => ?_⟩
      refine ⟨_, rfl, _, _, rfl, rfl, ?_⟩
      have s36 := s3.trans s6
      refine ⟨tb.length - (k + 1), by omega, F ++ G, p2, k + 1, _, _, rfl, re1, by rw [List.length_append]; omega, s36.trans (same_upd np2), ?_, s36.free np2, rfl⟩
      rw [upd_same]
      unfold nI
      rw [List.map_append, List.map_append] <;> rfl
    · have hge : F.length ≤ k := by
        have : ¬ (((k : Nat) : Int) < ((F.length : Nat) : Int)) := fun z => hge (decide_eq_true z)
        omega
      exact ⟨_, rfl, q Fa F H3 nFa s3 hF3 few re.nd (re.whole hge)⟩
end
end WK
set_option Elab.async false
set_option linter.all false
set_option maxRecDepth 100000
set_option maxHeartbeats 4000000
namespace TU
open PySem PyProof.Rows Srt L2
section
variable {prog : Program} {w : World} {A : Around} {E : Value → Shared → Prop} {s : Shared}
/-- what a tuple holds, collected -/
theorem collect_tup {a : Addr} {o : Obj} {vs : List Value} {c : Nat} {Q : List Value → Shared → Prop} (at_a : s.heap.get? a = some o) (cls : o.cls = .type "tuple") (dat : o.data = .seq vs.toArray c) (room : vs.length ≤ sizeLine)
    (h : Q vs { s with heap := (s.heap.push (seqObj "list" #[] 0)).update s.heap.objs.size (Obj.mapSeq (· ++ vs.toArray)) }) : wpAny (model prog w) A (collect (.ref a)) Q E s := by
  have joined : ((#[] : Array Value) ++ vs.toArray).toList = vs := by simp
  have size_ : ((#[] : Array Value) ++ vs.toArray).size ≤ sizeLine + 1 := by
    simp only [Array.size_append, List.size_toArray, List.length_nil]
    omega
  have kept : (s.heap.push (seqObj "list" #[] 0)).get? a = some o := Heap.get?_push_of_some _ at_a
  have new : (s.heap.push (seqObj "list" #[] 0)).get? s.heap.objs.size = some (seqObj "list" #[] 0) := Heap.get?_push_size _ rfl
  have isT : (Value.type "tuple" == Value.type "tuple") = true := by rfl
  delta collect
  refine wpAny_bind (wpAny_runValue (codeAny_builtin entry_proto_collect' (?_ : wpAny _ _ (do again (.builtin "list.__iadd__" ⟨[← newList [], .ref a], []⟩)) _ _ s)))
  refine wpAny_bind (wpAny_newList (wpAny_pure ⟨Code.quiet_builtin _ (by decide +kernel), codeAny_builtin entry_list_iadd' (?_ : wpAny _ _ (Builtin.List.listExtendWith (.ref s.heap.objs.size) (.ref a) (.ref s.heap.objs.size)) _ _ { s with heap := s.heap.push (seqObj "list" #[] 0) })⟩))
  delta Builtin.List.listExtendWith
  refine wpAny_bind (wpAny_typeOf (T := "tuple") ⟨o, kept, cls⟩ ?_)
  rw [if_pos (by rw [isT, Bool.or_true])]
  refine wpAny_bind (listItems_at kept dat (wpAny_bind (listItems_at (xs := #[]) (n := 0) new rfl ?_)))
  rw [if_neg (by simp)]
  refine wpAny_bind (listUpdate_at (xs := #[]) (n := 0) new rfl (wpAny_pure (wpAny_bind (wpAny_load (get?_update_seq new _) (?_ : wpAny _ _ (pure ((#[] : Array Value) ++ vs.toArray).toList) Q E _)))) (Nat.zero_le _) size_)
  exact wpAny_pure (joined.symm ▸ h)
theorem sorted_tup {a : Addr} {o : Obj} {vs : List Value} {c : Nat} {ns : List Int} {Q : Value → Shared → Prop} (at_a : s.heap.get? a = some o) (cls : o.cls = .type "tuple") (dat : o.data = .seq vs.toArray c) (room : vs.length ≤ sizeLine) (isN : IntsAre vs ns)
    (h : ∀ out : List Value, IntsAre out (out.map SrtO.iv) → (out.map SrtO.iv).Perm ns → (out.map SrtO.iv).Pairwise (· ≤ ·) → Q (.ref (s.heap.objs.size + 1)) { s with heap := sortedAll s.heap vs out.toArray }) : wpAny (model prog w) A (call (.builtin "sorted") [.ref a]) Q E s := by
  refine Calls.call_function_entry kind_sorted plain_sorted entry_sorted (args_sorted1 _) ?_
  unfold Builtin.«sorted»
  refine wpAny_bind (m := checkCount "sorted" 1 1 _) (wpAny_pure (wpAny_bind (collect_tup at_a cls dat room (wpAny_bind (wpAny_newList ?_ room)))))
  have size1 : ((s.heap.push (seqObj "list" #[] 0)).update s.heap.objs.size (Obj.mapSeq (· ++ vs.toArray))).objs.size = s.heap.objs.size + 1 := (Heap.size_update ..).trans (size_push' ..)
  have atL : (((s.heap.push (seqObj "list" #[] 0)).update s.heap.objs.size (Obj.mapSeq (· ++ vs.toArray))).push (seqObj "list" vs.toArray 0)).get? (s.heap.objs.size + 1) = some (seqObj "list" vs.toArray 0) := size1 ▸ Heap.get?_push_size _ rfl
  show wpAny _ _ _ _ _ { s with heap := ((s.heap.push (seqObj "list" #[] 0)).update s.heap.objs.size (Obj.mapSeq (· ++ vs.toArray))).push (seqObj "list" vs.toArray 0) }
  rw [size1]
  refine wpAny_bind (wpAny_holding (wpAny_call_entry slot_list_sort ⟨_, atL, rfl⟩ entry_list_sort (SrtO.list_sort_ord SrtO.swo_int atL room (fun two => SrtO.ints_sortable isN two) fun out h1 h2 => ⟨_, rfl, wpAny_pure ⟨_, rfl, ?_⟩⟩) (args_list_sort _)))
  obtain ⟨k1, k2, k3⟩ := SrtO.ints_out isN h1 h2
  exact h out k1 k2 k3
end
end TU
namespace L2
open PySem PySem.Spec PyProof.Rows
section
variable {X : Cx}
/-- sorted(xs) of a tuple of numbers -/
def rSortedIT (K : PySem.W.Frag) : List V → Hp → VK → Prop := fun vs H Q => ∃ (a : Addr) (ns : List Int), vs = [V.ref a] ∧ SqT K H a (ns.map V.int) ∧ ∀ (ns' : List Int) (p : Addr), ns'.Perm ns → ns'.Pairwise (· ≤ ·) → H p = none → Q (.ref p) (upd H p (.lst (ns'.map V.int)))
theorem cr_sortedIT : CallR X (.builtin "sorted") (rSortedIT X.K) := by
  rintro pins s σ H vs us Q I r ⟨a, ns, rfl, tup, q⟩
  obtain ⟨its, rv, tu, few⟩ := I.tuple tup
  rw [Vals.ref1 r]
  have isN := rv.ints
  obtain ⟨o, at_a, cls, c, dat⟩ := tu
  refine TU.sorted_tup at_a cls dat (by rw [← rv.length]; exact few) isN fun out k1 k2 k3 => ?_
  obtain ⟨ep, at_new⟩ := PyProof.Rows.sortedAll_at s.heap its out.toArray
  have room : ((out.map SrtO.iv).map V.int).length ≤ sizeLine := by
    rw [List.length_map] at few ⊢
    rw [k2.length_eq]
    exact few
  have after : Inv X pins σ (upd H (s.heap.objs.size + 1) (.lst ((out.map SrtO.iv).map V.int))) { s with heap := sortedAll s.heap its out.toArray, toks := s.toks } := I.laid (t' := s.toks) (fun _ _ => PyProof.Rows.sortedAll_old) (Nat.le_succ _) ⟨room, out, ep, vals_of_ints k1, at_new⟩
  exact ⟨.ref _, _, after, rfl, q _ _ k2 k3 (I.hok.fresh (Nat.le_succ _))⟩
end
end L2
set_option Elab.async false
set_option linter.all false
set_option maxRecDepth 100000
set_option maxHeartbeats 8000000
namespace WK
open PySem L2 PyProof.Rows LCX K1 FV DP DL
open TX (sg sigs)
open PySem.W (Frag kitOne)
abbrev sLKnots : Stmt := top 68
abbrev NLk : List Str := ["_law_table_here", "_law_near", "_law_rows", "_law_state", "_law_other", "_law_row"]
abbrev scLkIn : Scope := { kind := .function, names := [(".0", .local), ("_law_state", .cell), ("tuple", .globalImplicit), ("_law_near", .cell)], isGenerator := false, isCoroutine := false }
def spLKnots : Sp := fun vs H Q _ => ∃ (t : Addr) (tb : List (List Int)) (wd : Nat) (n : Int), vs = [.ref t] ∧ PTab H t tb ∧ TabOk tb wd n ∧ tb.length < 64 ∧ wd < 64 ∧
  ∀ (p : Addr) (zs : List Tu) H', H p = none → Same H H' → H' p = some (.lst (refT zs)) → Tus H' zs → KnotsOk tb.length (rowN tb) (zs.map (·.2)) → Q (.ref p) H'
/-- lists of numbers, at their addresses -/
def Nrs (H : Hp) (as : List Addr) (Fs : List (List Nat)) : Prop := as.length = Fs.length ∧ ∀ (i : Nat) (a : Addr) (F : List Nat), as[i]? = some a → Fs[i]? = some F → H a = some (.lst ((nI F).map V.int))
section
variable {P : Program} {w : World} {K : PySem.W.Frag} {mg : Str → Option Value} {base : Heap} {fR : Addr} {dR : FuncData}
theorem scLk : FnScope NLk ["_law_table_here"] (defScope sLKnots) := ⟨rfl, rfl, rfl, by decide +kernel, rfl, by decide +kernel, by decide +kernel⟩
theorem ok_lknots {f : Addr} {fd : FuncData} (F : Fun K "_law_knots" "_law_knots" sLKnots f fd) (T : TN mg) (AR : Fn K mg "_law_reach" sReach ["_law_table_here", "_law_state"] fR dR) (GR : FnOk P w K mg base CX0 1 fR dR ["_law_table_here", "_law_state"] spReach) : FnOk P w K mg base CX0 2 f fd ["_law_table_here"] spLKnots := by
  refine F.ok scLk (fun vs H Q E h => ?_) (fun cdv A outer s H vs Q E hr h => ?_)
  · obtain ⟨t, _, _, _, rfl, _⟩ := h
    rfl
  · obtain ⟨t, tb, wd, n, rfl, hT, ok, n1, w1, q⟩ := h
    have hub := hu_of hr
    have hu64 := hr.units
    refine ⟨_, pss_cons (ps_set (i := 1) scLk.nd rfl (Or.inr rfl) (pe_lc (own := [("_law_state", 3)]) (g := gName 3) (tt := tYes) (te := tCall spReach [] E0 (tCons (tVar 0) (tCons (tVar 3) tNil))) rfl scLk.nd (pi_range1 rfl T.rng (pa_cons (pe_callB call_len_seq (by rfl) T.len PySem.boot_len (pa_cons (pv 0) pa_nil)) pa_nil))
          (blkOk_by (own := [("_law_state", 3)]) (N := NLk) (sc := defScope sLKnots) (by decide +kernel)) (fun _ _ _ _ _ => pg_name (i := 3) scLk.nd rfl (Or.inl rfl)) (fun _ _ _ _ _ => pts_nil) (fun _ _ _ _ _ => pe_call GR hr rfl AR.g AR.F.kp AR.b .nil pass0 (pa_cons (pv 0) (pa_cons (pv 3) pa_nil)))))
      (pss_cons (ps_setLc (i := 2) (own := [("_law_state", 3)]) (g := gName 3) (tt := tYes) (te := tCB (rTupL K) (tCons (tLc (iList K (tOp (rIxL K) (tVar 1) (tVar 3))) (gName 4) (tTest (tOp (rIn K false) (tVar 3) (tOp (rIxL K) (tVar 1) (tVar 4)))) (tVar 4) [4]) tNil)) rfl scLk.nd rfl rfl (sw_true rfl rfl rfl (by decide +kernel)) (pi_range1 rfl T.rng (pa_cons (pe_callB call_len_seq (by rfl) T.len PySem.boot_len (pa_cons (pv 0) pa_nil)) pa_nil))
          (blkOk_by (own := [("_law_state", 3)]) (N := NLk) (sc := defScope sLKnots) (by decide +kernel)) (fun _ _ _ _ _ => pg_name (i := 3) scLk.nd rfl (Or.inr rfl)) (fun _ _ _ _ _ => pts_nil)
          (fun _ _ _ _ _ => pe_callTy call_tuple_of (by rfl) T.tuple (by decide +kernel) (pa_cons (pe_lc (own := [("_law_other", 4)]) (g := gName 4) (tt := tTest (tOp (rIn K false) (tVar 3) (tOp (rIxL K) (tVar 1) (tVar 4)))) (te := tVar 4) rfl scLk.nd (pi_list (pe_ix ix_list (pv 1) (pv 3) (fun _ _ => rfl)))
            (blkOk_by (own := [("_law_other", 4)]) (N := NLk) (sc := scLkIn) (by decide +kernel)) (fun _ _ _ _ _ => pg_name (i := 4) scLk.nd rfl (Or.inl rfl)) (fun _ _ _ _ _ => pts_one (pt_cmpR op_in_seq (pv 3) (pe_ix ix_list (pv 1) (pv 4) (fun _ _ => rfl)) (by rfl))) (fun _ _ _ _ _ => pv 4)) pa_nil)))
      (pss_one (ps_ret (pe_callB (cr_sortedTN rfl) (by rfl) T.sorted (by decide +kernel) (pa_cons (pe_callTy (cr_setOfT rfl hu64) (by rfl) T.set (by decide +kernel) (pa_cons (pe_lc (own := [("_law_row", 5)]) (g := gName 5) (tt := tYes) (te := tCB (rTupL K) (tCons (tCB (rSortedIT K) (tCons (tVar 5) tNil)) tNil)) rfl scLk.nd (pi_list (pv 2))
          (blkOk_by (own := [("_law_row", 5)]) (N := NLk) (sc := defScope sLKnots) (by decide +kernel)) (fun _ _ _ _ _ => pg_name (i := 5) scLk.nd rfl (Or.inl rfl)) (fun _ _ _ _ _ => pts_nil) (fun _ _ _ _ _ => pe_callTy call_tuple_of (by rfl) T.tuple (by decide +kernel) (pa_cons (pe_callB cr_sortedIT (by rfl) T.sorted (by decide +kernel) (pa_cons (pv 5) pa_nil)) pa_nil))) pa_nil)) pa_nil))))), ?_⟩
    obtain ⟨ts, h1, h2⟩ := id hT
    have lt := h2.len
    have okl := ok.len
    refine ⟨_, rfl, t, _, rfl, .inl (SqL.of h1), ((tb.length : Nat) : Int), by rw [List.length_map, lt], by omega, by omega, fun D nD => ?_⟩
    have nDH : H D = none := nD
    refine lc_it walk_range (fun i H3 => Same H H3 ∧ ∃ (as : List Addr) (Fs : List (List Nat)), H3 D = some (.lst (as.map V.ref)) ∧ as.length = i ∧ Nrs H3 as Fs ∧ (∀ a ∈ as, a ≠ D) ∧ ∀ (j : Nat) (F : List Nat), Fs[j]? = some F → F.Nodup ∧ F.length ≤ tb.length ∧ ∀ x, x ∈ F ↔ KN.Rch (rowN tb) j x) ⟨same_upd nD, [], [], upd_same, rfl, ⟨rfl, fun i a F e => nomatch e⟩, fun a h => absurd h List.not_mem_nil, fun j F e => nomatch e⟩ (fun _ _ _ _ => trivial) ?_ ?_
    · rintro i xi H3 H4 hi ⟨s3, as, Fs, hd, la, nr, ne, fs⟩ ⟨rfl, exi⟩
      obtain rfl : xi = .int ((i : Nat) : Int) := exi.trans (congrArg V.int (Int.zero_add _))
      rw [Int.toNat_natCast] at hi
      refine ⟨rfl, _, rfl, _, rfl, t, tb, wd, n, i, rfl, hT.same s3, ok, n1, w1, hi, fun p F H5 np s5 hp lF ndF mF => ?_⟩
      have hd5 := s5 _ _ hd
      have lf : Fs.length = i := by rw [← nr.1, la]
      have pD : p ≠ D := fun z => by rw [z, hd] at np; cases np
      refine ⟨_, hd5, by rw [List.length_map, sizeLine_eq]; omega, same_at (s3.trans s5) nD, as ++ [p], Fs ++ [F], by rw [upd_same, List.map_append] <;> rfl, by rw [List.length_append, la] <;> rfl, ⟨by rw [List.length_append, List.length_append, nr.1] <;> rfl, fun j a G e1 e2 => ?_⟩, fun a ha => (List.mem_append.mp ha).elim (ne a) fun z => List.mem_singleton.mp z ▸ pD, fun j G e => ?_⟩
      · have go : H5 a = some (.lst ((nI G).map V.int)) ∧ a ≠ D := by
          by_cases hj : j < i
          · rw [List.getElem?_append_left (by omega)] at e1 e2
            have h3 := nr.2 j a G e1 e2
            exact ⟨s5 _ _ h3, ne a (List.mem_of_getElem? e1)⟩
          · have hlt := (List.getElem?_eq_some_iff.mp e1).1
            rw [List.length_append, List.length_singleton] at hlt
            obtain rfl : j = i := by omega
            rw [List.getElem?_append_right (by omega), la, Nat.sub_self] at e1
            rw [List.getElem?_append_right (by omega), lf, Nat.sub_self] at e2
            obtain rfl : p = a := Option.some.inj e1
            obtain rfl : F = G := Option.some.inj e2
            exact ⟨hp, pD⟩
        exact (upd_ne go.2).trans go.1
      · by_cases hj : j < i
        · rw [List.getElem?_append_left (by omega)] at e
          exact fs j G e
        · have hlt := (List.getElem?_eq_some_iff.mp e).1
          rw [List.length_append, List.length_singleton] at hlt
          obtain rfl : j = i := by omega
          rw [List.getElem?_append_right (by omega), lf, Nat.sub_self] at e
          obtain rfl : F = G := Option.some.inj e
          exact ⟨ndF, lF, mF⟩
    rintro H3 ⟨s3, as, Fs, hd, la, nr, ne, fs⟩
    rw [Int.toNat_natCast] at la
    have lf : Fs.length = tb.length := by rw [← nr.1, la]
    refine ⟨_, rfl, t, _, rfl, .inl (SqL.of (s3 _ _ h1)), ((tb.length : Nat) : Int), by rw [List.length_map, lt], by omega, by omega, fun D2 nD2 => ?_⟩
    have nDH2 : H3 D2 = none := nD2
    have cl : ∀ x < tb.length, ∀ y ∈ rowN tb x, y < tb.length := fun x hx y hy => by
      unfold rowN at hy
      rw [List.getD_eq_getElem?_getD, List.getElem?_eq_getElem hx] at hy
      obtain ⟨z, hz, rfl⟩ := List.mem_map.mp hy
      have := (ok.row _ (List.getElem_mem hx)).2 z hz
      omega
    have near : ∀ {x : Nat}, x < tb.length → ∃ (a : Addr) (F : List Nat), as[x]? = some a ∧ Fs[x]? = some F ∧ H3 a = some (.lst ((nI F).map V.int)) := fun {x} hx => by
      obtain ⟨a, ea⟩ : ∃ a, as[x]? = some a := ⟨_, List.getElem?_eq_getElem (by omega)⟩
      obtain ⟨F, eF⟩ : ∃ F, Fs[x]? = some F := ⟨_, List.getElem?_eq_getElem (by omega)⟩
      exact ⟨a, F, ea, eF, nr.2 x a F ea eF⟩
    have atN : ∀ {x : Nat} {a : Addr}, as[x]? = some a → atI (as.map V.ref) ((x : Nat) : Int) = some (.ref a) := fun {x a} e => atI_nat (by rw [List.getElem?_map, e] <;> rfl)
    refine lc_it walk_range (fun i H4 => Same H3 H4 ∧ ∃ (rs : List Addr) (Gs : List (List Nat)), H4 D2 = some (.lst (rs.map V.ref)) ∧ rs.length = i ∧ Gs.length = i ∧ (∀ (j : Nat) (r : Addr) (G : List Nat), rs[j]? = some r → Gs[j]? = some G → H4 r = some (.tup ((nI G).map V.int))) ∧ ∀ (j : Nat) (G : List Nat), Gs[j]? = some G → G.Nodup ∧ G.length ≤ tb.length ∧ ∀ x, x ∈ G ↔ KN.Scc (rowN tb) j x) ⟨same_upd nD2, [], [], upd_same, rfl, rfl, (fun j r G e _ => nomatch e), (fun j G e => nomatch e)⟩ (fun _ _ _ _ => trivial) ?_ ?_
    · rintro i xi H4 H5 hi ⟨s4, rs, Gs, hd2, lr, lg, nr2, gs⟩ ⟨rfl, exi⟩
      obtain rfl : xi = .int ((i : Nat) : Int) := exi.trans (congrArg V.int (Int.zero_add _))
      rw [Int.toNat_natCast] at hi
      obtain ⟨a, F, ea, eF, ha⟩ := near hi
      obtain ⟨ndF, lF, mF⟩ := fs i F eF
      refine ⟨rfl, _, rfl, _, rfl, D, _, _, _, rfl, rfl, SqL.of (s4 _ _ hd), atN ea, a, rfl, ⟨_, SqL.of (s4 _ _ ha)⟩, fun D3 nD3 => ?_⟩
      have nDH3 : H5 D3 = none := nD3
      refine lc_it walk_list (fun j H6 => Same H5 H6 ∧ ∃ G : List Nat, H6 D3 = some (.lst ((nI G).map V.int)) ∧ G.length ≤ j ∧ G.Nodup ∧ ∀ x, x ∈ G ↔ x ∈ F.take j ∧ KN.Rch (rowN tb) x i) ⟨same_upd nD3, [], upd_same, Nat.le_refl _, List.nodup_nil, fun x => ⟨fun h => absurd h List.not_mem_nil, fun h => by simp at h⟩⟩ (fun j H6 _ h => SqL.of (h.1 _ _ (s4 _ _ ha))) ?_ ?_
      · rintro j x H6 H7 hj ⟨s6, G, hd6, le6, nd6, m6⟩ ⟨rfl, hx⟩
        rw [List.length_map, nI_len] at hj
        obtain ⟨v, ev⟩ : ∃ v, F[j]? = some v := ⟨_, List.getElem?_eq_getElem hj⟩
        obtain rfl : x = .int ((v : Nat) : Int) := by
          unfold nI at hx
          rw [List.getElem?_map, List.getElem?_map, ev] at hx
          exact (Option.some.inj hx).symm
        have vn := KN.Rch.lt cl ((mF v).mp (List.mem_of_getElem? ev)) hi
        obtain ⟨b, Fv, eb, eFv, hb⟩ := near vn
        obtain ⟨_, _, mFv⟩ := fs v Fv eFv
        have s36 := s4.trans s6
        have tk : F.take (j + 1) = F.take j ++ [v] := by rw [List.take_add_one, ev] <;> rfl
        refine ⟨rfl, _, rfl, _, rfl, _, rfl, D, _, _, _, rfl, rfl, SqL.of (s36 _ _ hd), atN eb, b, _, rfl, .inl (SqL.of (s36 _ _ hb)), rfl, flat_ints _, _, rfl, ?_⟩
        rw [inV_int, tk]
        have hin : ((i : Nat) : Int) ∈ nI Fv ↔ KN.Rch (rowN tb) v i := nI_mem.trans (mFv i)
        refine ite2 (fun hc => ?_) (fun hc => ?_)
        · have hc := hin.mp (of_decide_eq_true hc)
          have vG : v ∉ G := fun z => by
            obtain ⟨m, hm, e⟩ := List.getElem_of_mem ((m6 v).mp z).1
            rw [List.length_take] at hm
            rw [List.getElem_take] at e
            have := (List.getElem?_inj (show m < F.length by omega) ndF).mp ((List.getElem?_eq_getElem (by omega)).trans ((congrArg some e).trans ev.symm))
            omega
          refine ⟨_, rfl, _, hd6, by rw [List.length_map, nI_len, sizeLine_eq]; omega, same_at s6 nDH3, G ++ [v], by rw [upd_same, nI_snoc, List.map_append] <;> rfl, by rw [List.length_append, List.length_singleton]; omega, ?_, fun y => ?_⟩
          · refine List.nodup_append.mpr ⟨nd6, List.nodup_cons.mpr ⟨List.not_mem_nil, List.nodup_nil⟩, fun x hx y hy e => ?_⟩
            rw [List.mem_singleton.mp hy] at e
            exact vG (e ▸ hx)
          · rw [List.mem_append, List.mem_append, m6 y, List.mem_singleton]
            constructor
            · rintro (h | rfl)
              · exact ⟨.inl h.1, h.2⟩
              · exact ⟨.inr rfl, hc⟩
            · rintro ⟨h | rfl, g⟩
              · exact .inl ⟨h, g⟩
              · exact .inr rfl
        · have hc : ¬ KN.Rch (rowN tb) v i := fun z => hc (decide_eq_true (hin.mpr z))
          refine ⟨s6, G, hd6, by omega, nd6, fun y => ?_⟩
          rw [List.mem_append, m6 y, List.mem_singleton]
          constructor
          · exact fun h => ⟨.inl h.1, h.2⟩
          · rintro ⟨h | rfl, g⟩
            · exact ⟨h, g⟩
            · exact absurd g hc
      rintro H6 ⟨s6, G, hd6, le6, nd6, m6⟩
      rw [List.length_map, nI_len] at le6 m6
      rw [List.take_of_length_le (Nat.le_refl _)] at m6
      refine ⟨D3, _, rfl, .inl ⟨SqL.of hd6, fun T4 nT4 => ?_⟩⟩
      have s7 := s6.trans (same_upd (o := .tup ((nI G).map V.int)) nT4)
      have tT : (upd H6 T4 (.tup ((nI G).map V.int))) T4 = some (.tup ((nI G).map V.int)) := upd_same
      generalize upd H6 T4 (.tup ((nI G).map V.int)) = H7 at s7 tT ⊢
      have hd7 := s7 _ _ hd2
      have kt : KeepsTup H7 (upd H7 D2 (.lst (rs.map V.ref ++ [.ref T4]))) := tup_upd hd7 fun _ z => nomatch z
      refine ⟨_, hd7, by rw [List.length_map, sizeLine_eq]; omega, same_at (s4.trans s7) nDH2, rs ++ [T4], Gs ++ [G], by rw [upd_same, List.map_append] <;> rfl, by rw [List.length_append, lr] <;> rfl, by rw [List.length_append, lg] <;> rfl, (fun j r G' e1 e2 => ?_), (fun j G' e => ?_)⟩
      · by_cases hj : j < i
        · rw [List.getElem?_append_left (by omega)] at e1 e2
          exact kt _ _ (s7 _ _ (nr2 j r G' e1 e2))
        · have hlt := (List.getElem?_eq_some_iff.mp e1).1
          rw [List.length_append, List.length_singleton] at hlt
          obtain rfl : j = i := by omega
          rw [List.getElem?_append_right (by omega), lr, Nat.sub_self] at e1
          rw [List.getElem?_append_right (by omega), lg, Nat.sub_self] at e2
          obtain rfl : T4 = r := Option.some.inj e1
          obtain rfl : G = G' := Option.some.inj e2
          exact kt _ _ tT
      · by_cases hj : j < i
        · rw [List.getElem?_append_left (by omega)] at e
          exact gs j G' e
        · have hlt := (List.getElem?_eq_some_iff.mp e).1
          rw [List.length_append, List.length_singleton] at hlt
          obtain rfl : j = i := by omega
          rw [List.getElem?_append_right (by omega), lg, Nat.sub_self] at e
          obtain rfl : G = G' := Option.some.inj e
          refine ⟨nd6, by omega, fun x => ?_⟩
          rw [m6 x, mF x]
          exact Iff.rfl
    rintro H4 ⟨s4, rs, Gs, hd2, lr, lg, nr2, gs⟩
    rw [Int.toNat_natCast] at lr lg
    refine ⟨_, rfl, D2, rfl, ⟨_, SqL.of hd2⟩, fun D4 nD4 => ?_⟩
    have nDH4 : H4 D4 = none := nD4
    refine lc_it walk_list (fun i H5 => Same H4 H5 ∧ ∃ zs : List Tu, H5 D4 = some (.lst (refT zs)) ∧ zs.length = i ∧ Tus H5 zs ∧ ∀ (j : Nat) (z : Tu), zs[j]? = some z → z.2.Pairwise (· < ·) ∧ ∀ x : Int, x ∈ z.2 ↔ ∃ y : Nat, x = ((y : Nat) : Int) ∧ KN.Scc (rowN tb) j y) ⟨same_upd nD4, [], upd_same, rfl, (fun z h => absurd h List.not_mem_nil), (fun j z e => nomatch e)⟩ (fun i H5 _ h => SqL.of (h.1 _ _ hd2)) ?_ ?_
    · rintro i x H5 H6 hi ⟨s5, zs, hd5, lz, tus, zf⟩ ⟨rfl, hx⟩
      rw [List.length_map, lr] at hi
      obtain ⟨r, er⟩ : ∃ r, rs[i]? = some r := ⟨_, List.getElem?_eq_getElem (by omega)⟩
      obtain ⟨G, eG⟩ : ∃ G, Gs[i]? = some G := ⟨_, List.getElem?_eq_getElem (by omega)⟩
      obtain rfl : x = .ref r := by
        rw [List.getElem?_map, er] at hx
        exact (Option.some.inj hx).symm
      obtain ⟨ndG, lG, mG⟩ := gs i G eG
      refine ⟨rfl, _, rfl, r, nI G, rfl, SqT.of (s5 _ _ (nr2 i r G er eG)), fun ns p6 perm asc np6 => ⟨p6, _, rfl, .inl ⟨SqL.of upd_same, fun T5 nT5 => ?_⟩⟩⟩
      have sA := (same_upd (o := .lst (ns.map V.int)) np6).trans (same_upd (o := .tup (ns.map V.int)) nT5)
      have tT : (upd (upd H6 p6 (.lst (ns.map V.int))) T5 (.tup (ns.map V.int))) T5 = some (oTup ns) := upd_same
      generalize upd (upd H6 p6 (.lst (ns.map V.int))) T5 (.tup (ns.map V.int)) = H7 at sA tT ⊢
      have hd7 := sA _ _ hd5
      have kt : KeepsTup H7 (upd H7 D4 (.lst (refT zs ++ [.ref T5]))) := tup_upd hd7 fun _ z => nomatch z
      have ndn : (nI G).Nodup := by
        unfold nI
        exact List.nodup_iff_pairwise_ne.mpr (List.pairwise_map.mpr ((List.nodup_iff_pairwise_ne.mp ndG).imp fun h e => h (Int.ofNat.inj e)))
      have er2 : refT zs ++ [V.ref T5] = refT (zs ++ [(T5, ns)]) := (List.map_append (l₁ := zs) (l₂ := [(T5, ns)])).symm
      refine ⟨_, hd7, by unfold refT; rw [List.length_map, sizeLine_eq]; omega, same_at (s5.trans sA) nDH4, zs ++ [(T5, ns)], by rw [upd_same, er2], by rw [List.length_append, lz] <;> rfl, (fun z hz => ?_), (fun j z e => ?_)⟩
      · rcases List.mem_append.mp hz with hz | hz
        · exact kt _ _ (sA _ _ (tus z hz))
        · rw [List.mem_singleton.mp hz]
          exact kt _ _ tT
      · by_cases hj : j < i
        · rw [List.getElem?_append_left (by omega)] at e
          exact zf j z e
        · have hlt := (List.getElem?_eq_some_iff.mp e).1
          rw [List.length_append, List.length_singleton] at hlt
          obtain rfl : j = i := by omega
          rw [List.getElem?_append_right (by omega), lz, Nat.sub_self] at e
          obtain rfl : (T5, ns) = z := Option.some.inj e
          refine ⟨asc.imp₂ (fun _ _ h1 h2 => by omega) (perm.nodup_iff.mpr ndn), fun x => ?_⟩
          show x ∈ ns ↔ _
          rw [perm.mem_iff]
          constructor
          · intro hx
            obtain ⟨y, hy, rfl⟩ := List.mem_map.mp hx
            exact ⟨y, rfl, (mG y).mp hy⟩
          · rintro ⟨y, rfl, g⟩
            exact nI_mem.mpr ((mG y).mpr g)
    rintro H5 ⟨s5, zs, hd5, lz, tus, zf⟩
    rw [List.length_map, lr] at lz
    have at_ : ∀ z ∈ zs, ∃ j < tb.length, zs[j]? = some z := fun z hz => by
      obtain ⟨j, hj⟩ := List.mem_iff_getElem?.mp hz
      have := (List.getElem?_eq_some_iff.mp hj).1
      exact ⟨j, by omega, hj⟩
    refine ⟨D4, zs, rfl, SqL.of hd5, fun z hz => SqT.of (tus z hz), by omega, fun sa L nsa sub cov => ?_⟩
    have hd : ∀ z ∈ zs, z.2 ≠ [] ∧ z.2.headD 0 ∈ z.2 := fun z hz => by
      obtain ⟨j, _, e⟩ := at_ z hz
      have hs := ((zf j z e).2 ((j : Nat) : Int)).mpr ⟨j, rfl, KN.Scc.refl j⟩
      revert hs
      cases z.2 with
      | nil => exact fun z => absurd z List.not_mem_nil
      | cons x l => exact fun _ => ⟨fun z => (nomatch z), .head _⟩
    have one : ∀ z ∈ zs, ∀ z' ∈ zs, z.2.headD 0 = z'.2.headD 0 → z.2 = z'.2 := fun z hz z' hz' e => by
      obtain ⟨j, _, ej⟩ := at_ z hz
      obtain ⟨j', _, ej'⟩ := at_ z' hz'
      obtain ⟨a1, h⟩ := zf j z ej
      obtain ⟨a2, h'⟩ := zf j' z' ej'
      have m1 := (hd z hz).2
      have m2 := (hd z' hz').2
      rw [← e] at m2
      obtain ⟨y1, ey1, g1⟩ := (h _).mp m1
      obtain ⟨y2, ey2, g2⟩ := (h' _).mp m2
      obtain rfl : y1 = y2 := Int.ofNat.inj (ey1.symm.trans ey2)
      refine asc_eq a1 a2 fun x => (h x).trans (Iff.trans ?_ (h' x).symm)
      constructor
      · rintro ⟨y, rfl, g⟩
        exact ⟨y, rfl, g2.trans (g1.symm.trans g)⟩
      · rintro ⟨y, rfl, g⟩
        exact ⟨y, rfl, g1.trans (g2.symm.trans g)⟩
    have sS := same_upd (o := SetTO P w sa L) nsa
    refine ⟨sa, L, rfl, upd_same, fun z hz => SqT.of (sS _ _ (tus z (sub z hz))), fun z hz => (hd z (sub z hz)).1, fun z hz z' hz' => one z (sub z hz) z' (sub z' hz'), fun L' p perm nd few asc np => ?_⟩
    have s05 := (s3.trans s4).trans s5
    have sP := sS.trans (same_upd (o := .lst (refT L')) np)
    refine q p L' _ ((s05.trans sS).free np) (s05.trans sP) upd_same (fun z hz => sP _ _ (tus z (sub z (perm.mem_iff.mp hz)))) ⟨List.pairwise_map.mpr asc, nd, fun k hk => ?_, fun x hx => ?_⟩
    · obtain ⟨z, hz, rfl⟩ := List.mem_map.mp hk
      obtain ⟨j, hj, e⟩ := at_ z (sub z (perm.mem_iff.mp hz))
      exact ⟨(zf j z e).1, j, hj, (zf j z e).2⟩
    · obtain ⟨z, ez⟩ : ∃ z, zs[x]? = some z := ⟨_, List.getElem?_eq_getElem (by omega)⟩
      have hz := List.mem_of_getElem? ez
      obtain ⟨y, hy, e⟩ := List.mem_map.mp (cov z hz)
      exact ⟨z.2, List.mem_map.mpr ⟨y, perm.mem_iff.mpr hy, e⟩, ((zf x z ez).2 _).mpr ⟨x, rfl, KN.Scc.refl x⟩⟩
end
end WK
set_option Elab.async false
set_option linter.all false
set_option maxRecDepth 100000
set_option maxHeartbeats 4000000
namespace WK
open PySem L2 PyProof.Rows K1
section
variable {α β : Type} [DecidableEq α] [DecidableEq β]
def addG (o : List α) (a : α) : List α := if a ∈ o then o else o ++ [a]
theorem addG_in {o : List α} {a : α} (h : a ∈ o) : addG o a = o := if_pos h
theorem addG_out {o : List α} {a : α} (h : a ∉ o) : addG o a = o ++ [a] := if_neg h
theorem addG_nodup : ∀ {l o : List α}, (o ++ l).Nodup → l.foldl addG o = o ++ l
  | [], o, _ => (List.append_nil o).symm
  | a :: l, o, h => by
    have out : a ∉ o := fun z => (List.nodup_append.mp h).2.2 a z a (.head _) rfl
    rw [List.foldl_cons, addG_out out, addG_nodup (by rw [List.append_assoc]; exact h), List.append_assoc] <;> rfl
end
end WK
set_option Elab.async false
set_option linter.all false
set_option maxRecDepth 100000
set_option maxHeartbeats 4000000
namespace ND
open PySem PySem.Spec PyProof.Rows L2 WK
/-- keys of a kind, and dicts that have a number for each -/
structure Num (P : Program) (w : World) (α : Type) [DecidableEq α] where
  is : Hp → V → α → Prop
  has : Hp → Addr → List α → Prop
  keep : ∀ {H H' : Hp} {v : V} {a : α}, is H v a → KeepsTup H H' → is H' v a
  stay : ∀ {H H' : Hp} {D : Addr} {l : List α}, has H D l → Same H H' → has H' D l
  ext : ∀ {H : Hp} {D : Addr} {l : List α}, has H D l → ∃ φ, H D = some (.ext φ)
  dict : ∀ {X : Cx} {pins : List (Addr × Obj)} {σ : L2.St} {H : Hp} {s : Shared} {D : Addr} {l : List α}, X.prog = P → X.w = w → Inv X pins σ H s → has H D l → s.TypeIs (.ref D) "dict"
  new : ∀ {X : Cx} {pins : List (Addr × Obj)} {σ : L2.St} {H : Hp} {s : Shared}, X.prog = P → X.w = w → Inv X pins σ H s →
    ∃ o, ObjOk X.prog X.w (upd H s.heap.objs.size o) (s.heap.push { cls := .type "dict", data := .dict #[] }) s.heap.objs.size o ∧ has (upd H s.heap.objs.size o) s.heap.objs.size []
  notin : ∀ {X : Cx} {pins : List (Addr × Obj)} {σ : L2.St} {H : Hp} {s : Shared} {A : Around} {E : Value → Shared → Prop} {D : Addr} {l : List α} {v : V} {u : Value} {a : α} {Q : Value → Shared → Prop}, X.prog = P → X.w = w → A.units + 64 < cLine →
    Inv X pins σ H s → has H D l → is H v a → RelV v u → (∀ s', Inv X pins σ H s' → Q (.bool (!decide (a ∈ l))) s') → wpAny (model X.prog X.w) A (compareOp .NotIn u (.ref D)) Q E s
  get : ∀ {X : Cx} {pins : List (Addr × Obj)} {σ : L2.St} {H : Hp} {s : Shared} {A : Around} {E : Value → Shared → Prop} {D : Addr} {l : List α} {v : V} {u : Value} {a : α} {Q : Value → Shared → Prop}, X.prog = P → X.w = w → A.units + 64 < cLine →
    Inv X pins σ H s → has H D l → is H v a → a ∈ l → RelV v u → (∀ t s', Inv X pins σ H s' → Q (.int (l.idxOf a : Nat) t) s') → wpAny (model X.prog X.w) A (getItem (.ref D) u) Q E s
  put : ∀ {X : Cx} {pins : List (Addr × Obj)} {σ : L2.St} {H : Hp} {s : Shared} {A : Around} {E : Value → Shared → Prop} {D : Addr} {l : List α} {v : V} {u : Value} {a : α} {t : Tok} {Q : Unit → Shared → Prop}, X.prog = P → X.w = w → A.units + 64 < cLine →
    Inv X pins σ H s → has H D l → is H v a → a ∉ l → l.length < sizeLine → RelV v u → (∀ o s', has (upd H D o) D (l ++ [a]) → Inv X pins σ (upd H D o) s' → Q () s') → wpAny (model X.prog X.w) A (setItem (.ref D) u (.int (l.length : Nat) t)) Q E s
  size : ∀ {X : Cx} {pins : List (Addr × Obj)} {σ : L2.St} {H : Hp} {s : Shared} {A : Around} {E : Value → Shared → Prop} {D : Addr} {l : List α} {Q : Value → Shared → Prop}, X.prog = P → X.w = w →
    Inv X pins σ H s → has H D l → (∀ t s', Inv X pins σ H s' → Q (.int (l.length : Nat) t) s') → wpAny (model X.prog X.w) A (call (.builtin "len") [.ref D]) Q E s
section
variable {X : Cx} {P : Program} {w : World} {α : Type} [DecidableEq α] {N : Num P w α} {o i value : Expr} {pos pos' : Pos} {td ty tv : TE}
def tNew (N : Num P w α) : TE := fun _ H Q => ∀ p o, H p = none → N.has (upd H p o) p [] → Q (.ref p) (upd H p o)
theorem pe_new (eP : X.prog = P := by rfl) (ew : X.w = w := by rfl) : PE X (.Dict [] [] pos) (tNew N) := ⟨fun pins s σ H Q I h => by
  obtain ⟨o, ok, has⟩ := N.new eP ew I
  exact wpAny_Dict_empty ⟨.ref s.heap.objs.size, _, I.laid (t' := s.toks) (fun _ _ q => Heap.get?_push_of_some _ q) (Nat.le_refl _) ok, rfl, h _ o (I.hok.fresh (Nat.le_refl _)) has⟩⟩
def tNotIn (N : Num P w α) (ty td : TE) : TE := fun σ H Q => ty σ H fun y H1 => td σ H1 fun x H2 => ∃ (D : Addr) (l : List α) (a : α), x = .ref D ∧ N.has H2 D l ∧ N.is H2 y a ∧ Q (.bl (!decide (a ∈ l))) H2
theorem pc_notin (hu : X.A.units + 64 < cLine) (hi : PE X i ty) (ho : PE X o td) (eP : X.prog = P := by rfl) (ew : X.w = w := by rfl) : PC X .NotIn i o (tNotIn N ty td) := by
  refine ⟨fun pins s σ H Q I h => thn (hi.run pins s σ H _ I h) fun iv s1 ⟨y, H1, I1, ry, q1⟩ => thn (ho.run pins s1 σ H1 _ I1 q1) fun u s2 ⟨x, H2, I2, rx, D, l, a, ex, has, isK, q2⟩ => ?_⟩
  subst ex
  cases rx
  exact N.notin eP ew hu I2 has isK ry fun s3 I3 => ⟨.bl (!decide (a ∈ l)), H2, I3, rfl, q2⟩
def tGet (N : Num P w α) (td ty : TE) : TE := fun σ H Q => td σ H fun x H1 => ty σ H1 fun y H2 => ∃ (D : Addr) (l : List α) (a : α), x = .ref D ∧ N.has H2 D l ∧ N.is H2 y a ∧ a ∈ l ∧ Q (.int (l.idxOf a : Nat)) H2
theorem pe_get (hu : X.A.units + 64 < cLine) (ho : PE X o td) (hi : PE X i ty) (hs : NoSl i) (eP : X.prog = P := by rfl) (ew : X.w = w := by rfl) : PE X (.Subscript o i pos) (tGet N td ty) := by
  refine ⟨fun pins s σ H Q I h => subD_of PySem.F.slot_dict_getitem.lookup hs (thn (ho.run pins s σ H _ I h) fun u s1 ⟨x, H1, I1, rx, q1⟩ => thn (hi.run pins s1 σ H1 _ I1 q1) fun iv s2 ⟨y, H2, I2, ry, D, l, a, ex, has, isK, mem, q2⟩ => ?_)⟩
  subst ex
  cases rx
  exact ⟨N.dict eP ew I2 has, N.get eP ew hu I2 has isK mem ry fun t s3 I3 => ⟨.int (l.idxOf a : Nat), H2, I3, ⟨t, rfl⟩, q2⟩⟩
def tPut (N : Num P w α) (td ty tv : TE) : TS := fun D σ H => tv σ H fun v H1 => td σ H1 fun x H2 => ty σ H2 fun y H3 => ∃ (d : Addr) (l : List α) (a : α), x = .ref d ∧ v = .int (l.length : Nat) ∧ N.has H3 d l ∧ N.is H3 y a ∧ a ∉ l ∧ l.length < sizeLine ∧
  ∀ o, N.has (upd H3 d o) d (l ++ [a]) → D.nx σ (upd H3 d o)
theorem ps_put (hu : X.A.units + 64 < cLine) (ho : PE X o td) (hi : PE X i ty) (hv : PE X value tv) (hs : swapsWith value (some (.Subscript o i pos')) pos.line X.env = pure false) (eP : X.prog = P := by rfl) (ew : X.w = w := by rfl) :
    PS X (.Assign [.Subscript o i pos'] value pos) (tPut N td ty tv) := by
  refine ⟨fun pins s σ H D I h => wpAny_Assign_Subscript (thn (hv.run pins s σ H _ I h) fun r s1 ⟨v, H1, I1, rv, q1⟩ => thn (ho.run pins s1 σ H1 _ I1 q1) fun u s2 ⟨x, H2, I2, rx, q2⟩ => thn (hi.run pins s2 σ H2 _ I2 q2) fun iv s3 ⟨y, H3, I3, ry, d, l, a, ex, ev, has, isK, out, few, q3⟩ => ?_) hs⟩
  subst ex ev
  cases rx
  obtain ⟨t, rfl⟩ := rv
  exact N.put eP ew hu I3 has isK out few ry fun o s4 has4 I4 => ⟨σ, _, I4, q3 o has4⟩
theorem call_len (eP : X.prog = P := by rfl) (ew : X.w = w := by rfl) : CallR X (.builtin "len") (fun xs H Q => ∃ (D : Addr) (l : List α), xs = [.ref D] ∧ N.has H D l ∧ Q (.int (l.length : Nat)) H) := by
  rintro pins s σ H _ us Q I r ⟨D, l, rfl, has, q⟩
  rw [Vals.ref1 r]
  exact N.size eP ew I has fun t s' I' => ⟨.int (l.length : Nat), H, I', ⟨t, rfl⟩, q⟩
end
section
variable {α κ : Type} [DecidableEq α] [DecidableEq κ] (e : α → κ)
def NumV : Nat → List α → List (κ × Value) → Prop
  | _, [], [] => True
  | i, a :: l, p :: vs => p.1 = e a ∧ (∃ t, p.2 = .int (i : Nat) t) ∧ NumV (i + 1) l vs
  | _, _, _ => False
theorem numV_len : ∀ {i : Nat} {l : List α} {vs : List (κ × Value)}, NumV e i l vs → vs.length = l.length
  | _, [], [], _ => rfl
  | _, _ :: _, _ :: _, h => congrArg Nat.succ (numV_len h.2.2)
  | _, [], _ :: _, h => h.elim
  | _, _ :: _, [], h => h.elim
theorem numV_out (inj : ∀ a b, e a = e b → a = b) {a : α} : ∀ {i : Nat} {l : List α} {vs : List (κ × Value)}, NumV e i l vs → a ∉ l → valueAt vs (e a) = none
  | _, [], [], _, _ => rfl
  | i, b :: l, p :: vs, h, ha => by
    have ih := numV_out inj h.2.2 (fun z => ha (.tail _ z))
    have ne : ¬ p.1 = e a := fun z => ha (inj _ _ (h.1.symm.trans z) ▸ .head _)
    unfold valueAt at ih ⊢
    rw [List.find?_cons, show decide (p.1 = e a) = false from decide_eq_false ne]
    exact ih
  | _, [], _ :: _, h, _ => h.elim
  | _, _ :: _, [], h, _ => h.elim
theorem numV_in (inj : ∀ a b, e a = e b → a = b) {a : α} : ∀ {i : Nat} {l : List α} {vs : List (κ × Value)}, NumV e i l vs → a ∈ l → ∃ t, valueAt vs (e a) = some (.int ((i + l.idxOf a : Nat) : Nat) t)
  | _, [], [], _, ha => absurd ha List.not_mem_nil
  | i, b :: l, p :: vs, h, ha => by
    unfold valueAt
    rw [List.find?_cons, List.idxOf_cons]
    by_cases eb : b = a
    · obtain ⟨t, ht⟩ := h.2.1
      rw [show decide (p.1 = e a) = true from decide_eq_true (h.1.trans (congrArg e eb)), show (b == a) = true from beq_iff_eq.mpr eb]
      exact ⟨t, congrArg some ht⟩
    · have ne : ¬ p.1 = e a := fun z => eb (inj _ _ (h.1.symm.trans z))
      rw [show decide (p.1 = e a) = false from decide_eq_false ne, show (b == a) = false from beq_eq_false_iff_ne.mpr eb]
      obtain ⟨t, ht⟩ := numV_in inj h.2.2 ((List.mem_cons.mp ha).resolve_left fun z => eb z.symm)
      unfold valueAt at ht
      refine ⟨t, ht.trans ?_⟩
      show some (Value.int ((i + 1 + l.idxOf a : Nat) : Int) t) = some (Value.int ((i + (l.idxOf a + 1) : Nat) : Int) t)
      rw [show i + 1 + l.idxOf a = i + (l.idxOf a + 1) by omega]
  | _, [], _ :: _, h, _ => h.elim
  | _, _ :: _, [], h, _ => h.elim
theorem numV_snoc {a : α} {t : Tok} : ∀ {i : Nat} {l : List α} {vs : List (κ × Value)}, NumV e i l vs → NumV e i (l ++ [a]) (vs ++ [(e a, .int ((i + l.length : Nat) : Nat) t)])
  | i, [], [], _ => ⟨rfl, ⟨t, rfl⟩, trivial⟩
  | i, b :: l, p :: vs, h => by
    refine ⟨h.1, h.2.1, ?_⟩
    have := numV_snoc (a := a) (t := t) h.2.2
    rw [show i + 1 + l.length = i + (b :: l).length by rw [List.length_cons]; omega] at this
    exact this
  | _, [], _ :: _, h => h.elim
  | _, _ :: _, [], h => h.elim
end
theorem stored_out {κ : Type} [DecidableEq κ] {vs : List (κ × Value)} {k : κ} {v : Value} (h : valueAt vs k = none) : stored vs k v = vs ++ [(k, v)] := by
  have : ¬ (vs.any fun kv => kv.1 = k) = true := fun z => by
    obtain ⟨p, hp, e⟩ := List.any_eq_true.mp z
    unfold valueAt at h
    rw [Option.map_eq_none_iff, List.find?_eq_none] at h
    exact h p hp e
  unfold stored
  rw [if_neg this]
section
variable {P : Program} {w : World}
/-- a dict of the truth values in l at D -/
def encB (b : Bool) : Leaf := .num (if b = true then 1 else 0)
theorem encB_inj (a b : Bool) (h : encB a = encB b) : a = b := by
  injection h with h
  revert h
  cases a <;> cases b <;> decide
def BoolO (P : Program) (w : World) (D : Addr) (l : List Bool) : HO := .ext fun h => (D == sysModules) = false ∧ l.length ≤ sizeLine ∧ ∃ vs, NumV encB 0 l vs ∧ h.DictOf (leafKind P w) D vs
theorem boolO_ok {H : Hp} {h : Heap} {D : Addr} {l : List Bool} {vs : List (Leaf × Value)} (h1 : (D == sysModules) = false) (h2 : l.length ≤ sizeLine) (h3 : NumV encB 0 l vs) (h4 : h.DictOf (leafKind P w) D vs) : ObjOk P w H h D (BoolO P w D l) :=
  ⟨⟨h1, h2, vs, h3, h4⟩, let ⟨o, _, _, e, _⟩ := h4; ⟨o, e⟩, fun _ _ ⟨a, b, vs, c, d⟩ k => ⟨a, b, vs, c, let ⟨o, es, ep, q, r⟩ := d; ⟨o, es, ep, k _ q, r⟩⟩⟩
theorem isB {b : Bool} {u : Value} (r : RelV (.bl b) u) : (leafKind P w).is (encB b) u = true := by
  cases (show u = .bool b from r)
  exact decide_eq_true rfl
def numB (P : Program) (w : World) : Num P w Bool where
  is := fun _ v b => v = .bl b
  has := fun H D l => H D = some (BoolO P w D l)
  keep := fun h _ => h
  stay := fun h s => s _ _ h
  ext := fun h => ⟨_, h⟩
  dict := fun eP ew I h => by
    subst eP ew
    obtain ⟨_, _, vs, _, d⟩ := (I.hok _ _ h).1
    exact d.typeIs
  new := fun eP ew I => by
    subst eP ew
    exact ⟨_, boolO_ok (l := []) (beq_eq_false_iff_ne.mpr (Nat.ne_of_gt I.big)) (Nat.zero_le _) (vs := []) trivial (Heap.DictOf.new _), upd_same⟩
  notin := fun {X pins σ H s A E D l v u a Q} eP ew _ I h hv r q => by
    subst eP ew
    subst hv
    obtain ⟨hd, _, vs, nv, d⟩ := (I.hok _ _ h).1
    refine wpAny_notIn_of (isB r) hd d.mapOf ?_
    by_cases m : a ∈ l
    · obtain ⟨t, e⟩ := numV_in encB encB_inj nv m
      rw [e]
      have q := q _ (I.tok (s.toks + 1))
      rw [decide_eq_true m] at q
      exact q
    · rw [numV_out encB encB_inj nv m]
      have q := q _ (I.tok (s.toks + 1))
      rw [decide_eq_false m] at q
      exact q
  get := fun {X pins σ H s A E D l v u a Q} eP ew _ I h hv m r q => by
    subst eP ew
    subst hv
    obtain ⟨hd, _, vs, nv, d⟩ := (I.hok _ _ h).1
    obtain ⟨t, e⟩ := numV_in encB encB_inj nv m
    rw [Nat.zero_add] at e
    exact wpAny_getItem_of (isB r) d.mapOf e (q t _ (I.tok _))
  put := fun {X pins σ H s A E D l v u a t Q} eP ew _ I h hv m few r q => by
    subst eP ew
    subst hv
    obtain ⟨hd, hz, vs, nv, d⟩ := (I.hok _ _ h).1
    refine wpAny_setItem_pairs (hsz := by rw [numV_len encB nv]; exact hz) (isB r) d fun g d' same => ?_
    rw [stored_out (numV_out encB encB_inj nv m)] at d'
    have nv2 := numV_snoc encB (a := a) (t := t) nv
    rw [Nat.zero_add] at nv2
    refine q (BoolO X.prog X.w D (l ++ [a])) _ upd_same ?_
    exact d_write (t' := s.toks + 1) I (by rw [h]; trivial) same (let ⟨o, _, _, e, _⟩ := d'; ⟨o, e⟩) (boolO_ok hd (by rw [List.length_append]; exact few) nv2 d')
  size := fun {X pins σ H s A E D l Q} eP ew I h q => by
    subst eP ew
    obtain ⟨hd, hz, vs, nv, d⟩ := (I.hok _ _ h).1
    have len := numV_len encB nv
    refine call_len_dict hd d (by rw [len]; rw [sizeLine_eq] at hz; omega) ?_
    rw [len]
    exact q _ _ (I.tok _)
end
end ND
set_option Elab.async false
set_option linter.all false
set_option maxRecDepth 100000
set_option maxHeartbeats 4000000
namespace ND
open PySem PySem.Spec PyProof.Rows L2 WK
structure Pr where
  fst : Int
  snd : List Int
  deriving DecidableEq
def nk (r : List Int) : List NestedKey := r.map NestedKey.num
def encN (a : Pr) : NestedKey := .tup [.num a.fst, .tup (nk a.snd)]
theorem nk_inj : ∀ {r q : List Int}, nk r = nk q → r = q
  | [], [], _ => rfl
  | [], _ :: _, h => nomatch h
  | _ :: _, [], h => nomatch h
  | i :: r, j :: q, h => by
    injection h with h1 h2
    injection h1 with h1
    rw [h1, nk_inj h2]
theorem encN_inj (a b : Pr) (h : encN a = encN b) : a = b := by
  injection h with h
  injection h with h1 h2
  injection h1 with h1
  injection h2 with h2 _
  injection h2 with h2
  obtain ⟨a1, a2⟩ := a
  obtain ⟨b1, b2⟩ := b
  rw [show a1 = b1 from h1, show a2 = b2 from nk_inj h2]
theorem nk_depth : ∀ r : List Int, NestedKey.depthAll (nk r) = 0
  | [] => rfl
  | i :: r => by
    show max (NestedKey.depth (.num i)) (NestedKey.depthAll (nk r)) = 0
    rw [nk_depth r]
    rfl
theorem encN_depth (a : Pr) : (encN a).depth ≤ 8 := by
  show max (NestedKey.depth (.num a.fst)) (max (NestedKey.depthAll (nk a.snd) + 1) 0) + 1 ≤ 8
  rw [nk_depth]
  show max 0 (max 1 0) + 1 ≤ 8
  decide
/-- such a pair lies at b -/
def PrAt (H : Hp) (b : Addr) (a : Pr) : Prop := ∃ t : Addr, H b = some (.tup [.int a.fst, .ref t]) ∧ H t = some (oTup a.snd)
theorem PrAt.keep {H H' : Hp} {b : Addr} {a : Pr} (h : PrAt H b a) (k : KeepsTup H H') : PrAt H' b a := let ⟨t, h1, h2⟩ := h; ⟨t, k _ _ h1, k _ _ h2⟩
theorem nested_ints {h : Heap} : ∀ {r : List Int} {us : List Value}, Vals (r.map V.int) us → NestedAll h (nk r) us
  | [], [], _ => .nil
  | i :: r, u :: us, .cons ⟨t, ht⟩ z => by
    subst ht
    exact .cons (.int i t) (nested_ints z)
  | [], _ :: _, z => nomatch z
  | _ :: _, [], z => nomatch z
theorem PrAt.key {X : Cx} {pins : List (Addr × Obj)} {σ : L2.St} {H : Hp} {s : Shared} {b : Addr} {a : Pr} (I : Inv X pins σ H s) (h : PrAt H b a) : (nestedKind X.prog X.w).is s.heap (encN a) b := by
  obtain ⟨t, h1, h2⟩ := h
  obtain ⟨its, r1, ⟨o1, e1, c1, n1, d1⟩, _⟩ := I.tuple (SqT.of h1)
  obtain ⟨its2, r2, ⟨o2, e2, c2, n2, d2⟩, _⟩ := I.tuple (SqT.of h2)
  obtain ⟨u, y, rfl, ⟨tk, rfl⟩, ry⟩ := vals2 r1
  cases ry
  refine ⟨.tup e1 c1 d1 ?_, encN_depth a⟩
  exact .cons (.int _ tk) (.cons (.tup e2 c2 d2 (by simpa using nested_ints r2)) .nil)
/-- the entries: each pair with its tuple and its number, from i on -/
def NumH : Nat → List Pr → List Addr → List (NestedKey × Addr × Value) → Prop
  | _, [], [], [] => True
  | i, a :: l, b :: bs, x :: xs => x.1 = encN a ∧ x.2.1 = b ∧ (∃ t, x.2.2 = .int (i : Nat) t) ∧ NumH (i + 1) l bs xs
  | _, _, _, _ => False
theorem NumH.cases {i : Nat} : ∀ {l : List Pr} {bs : List Addr} {xs : List (NestedKey × Addr × Value)}, NumH i l bs xs → (l = [] ∧ bs = [] ∧ xs = []) ∨ ∃ a l' b bs' x xs', l = a :: l' ∧ bs = b :: bs' ∧ xs = x :: xs' ∧ x.1 = encN a ∧ x.2.1 = b ∧ (∃ t, x.2.2 = .int (i : Nat) t) ∧ NumH (i + 1) l' bs' xs'
  | [], [], [], _ => .inl ⟨rfl, rfl, rfl⟩
  | a :: l, b :: bs, x :: xs, h => .inr ⟨a, l, b, bs, x, xs, rfl, rfl, rfl, h.1, h.2.1, h.2.2.1, h.2.2.2⟩
  | [], [], _ :: _, h => h.elim
  | [], _ :: _, [], h => h.elim
  | [], _ :: _, _ :: _, h => h.elim
  | _ :: _, [], [], h => h.elim
  | _ :: _, [], _ :: _, h => h.elim
  | _ :: _, _ :: _, [], h => h.elim
theorem numH_len : ∀ {l : List Pr} {i : Nat} {bs : List Addr} {xs : List (NestedKey × Addr × Value)}, NumH i l bs xs → xs.length = l.length
  | [], _, _, _, h => by
    rcases h.cases with ⟨_, _, rfl⟩ | ⟨_, _, _, _, _, _, e, _⟩
    · rfl
    · cases e
  | _ :: l, _, _, _, h => by
    rcases h.cases with ⟨e, _⟩ | ⟨a, l', b, bs', x, xs', e, rfl, rfl, _, _, _, z⟩
    · cases e
    · injection e with _ e
      subst e
      exact congrArg Nat.succ (numH_len z)
theorem numH_out {a : Pr} : ∀ {l : List Pr} {i : Nat} {bs : List Addr} {xs : List (NestedKey × Addr × Value)}, NumH i l bs xs → a ∉ l → atKey xs (encN a) = none
  | [], _, _, _, h, _ => by
    rcases h.cases with ⟨_, _, rfl⟩ | ⟨_, _, _, _, _, _, e, _⟩
    · rfl
    · cases e
  | c :: l, _, _, _, h, ha => by
    rcases h.cases with ⟨e, _⟩ | ⟨c', l', b, bs', x, xs', e, rfl, rfl, h1, _, _, z⟩
    · cases e
    · injection e with e0 e
      subst e e0
      have ih := numH_out z (fun w => ha (.tail _ w))
      have ne : ¬ x.1 = encN a := fun w => ha (encN_inj _ _ (h1.symm.trans w) ▸ .head _)
      unfold atKey at ih ⊢
      rw [List.find?_cons, show decide (x.1 = encN a) = false from decide_eq_false ne]
      exact ih
theorem numH_in {a : Pr} : ∀ {l : List Pr} {i : Nat} {bs : List Addr} {xs : List (NestedKey × Addr × Value)}, NumH i l bs xs → a ∈ l → ∃ b t, atKey xs (encN a) = some (b, .int ((i + l.idxOf a : Nat) : Nat) t)
  | [], _, _, _, _, ha => absurd ha List.not_mem_nil
  | c :: l, i, _, _, h, ha => by
    rcases h.cases with ⟨e, _⟩ | ⟨c', l', b, bs', x, xs', e, rfl, rfl, h1, h2, ⟨t, ht⟩, z⟩
    · cases e
    · injection e with e0 e
      subst e e0
      unfold atKey
      rw [List.find?_cons, List.idxOf_cons]
      by_cases eb : c = a
      · rw [show decide (x.1 = encN a) = true from decide_eq_true (h1.trans (congrArg encN eb)), show (c == a) = true from beq_iff_eq.mpr eb]
        exact ⟨x.2.1, t, congrArg some (Prod.ext rfl ht)⟩
      · have ne : ¬ x.1 = encN a := fun w => eb (encN_inj _ _ (h1.symm.trans w))
        rw [show decide (x.1 = encN a) = false from decide_eq_false ne, show (c == a) = false from beq_eq_false_iff_ne.mpr eb]
        obtain ⟨d, t, ht⟩ := numH_in z ((List.mem_cons.mp ha).resolve_left fun w => eb w.symm)
        unfold atKey at ht
        refine ⟨d, t, ht.trans ?_⟩
        show some (d, Value.int ((i + 1 + l.idxOf a : Nat) : Int) t) = some (d, Value.int ((i + (l.idxOf a + 1) : Nat) : Int) t)
        rw [show i + 1 + l.idxOf a = i + (l.idxOf a + 1) by omega]
theorem numH_snoc {a : Pr} {c : Addr} {t : Tok} : ∀ {l : List Pr} {i : Nat} {bs : List Addr} {xs : List (NestedKey × Addr × Value)}, NumH i l bs xs → NumH i (l ++ [a]) (bs ++ [c]) (xs ++ [(encN a, c, .int ((i + l.length : Nat) : Nat) t)])
  | [], _, _, _, h => by
    rcases h.cases with ⟨_, rfl, rfl⟩ | ⟨_, _, _, _, _, _, e, _⟩
    · exact ⟨rfl, rfl, ⟨t, rfl⟩, trivial⟩
    · cases e
  | d :: l, i, _, _, h => by
    rcases h.cases with ⟨e, _⟩ | ⟨d', l', b, bs', x, xs', e, rfl, rfl, h1, h2, h3, z⟩
    · cases e
    · injection e with e0 e
      subst e e0
      refine ⟨h1, h2, h3, ?_⟩
      have := numH_snoc (a := a) (c := c) (t := t) z
      rw [show i + 1 + l.length = i + (d :: l).length by rw [List.length_cons]; omega] at this
      exact this
/-- each pair's tuple is there -/
def PrsAt (H : Hp) : List Addr → List Pr → Prop
  | [], [] => True
  | b :: bs, a :: l => PrAt H b a ∧ PrsAt H bs l
  | _, _ => False
theorem PrsAt.keep {H H' : Hp} (k : KeepsTup H H') : ∀ {bs : List Addr} {l : List Pr}, PrsAt H bs l → PrsAt H' bs l
  | [], [], _ => trivial
  | _ :: _, _ :: _, h => ⟨h.1.keep k, PrsAt.keep k h.2⟩
  | [], _ :: _, h => h.elim
  | _ :: _, [], h => h.elim
theorem PrsAt.snoc {H : Hp} {c : Addr} {a : Pr} (h : PrAt H c a) : ∀ {bs : List Addr} {l : List Pr}, PrsAt H bs l → PrsAt H (bs ++ [c]) (l ++ [a])
  | [], [], _ => ⟨h, trivial⟩
  | _ :: _, _ :: _, z => ⟨z.1, PrsAt.snoc h z.2⟩
  | [], _ :: _, z => z.elim
  | _ :: _, [], z => z.elim
theorem keys_is {X : Cx} {pins : List (Addr × Obj)} {σ : L2.St} {H : Hp} {s : Shared} (I : Inv X pins σ H s) : ∀ {bs : List Addr} {l : List Pr} {i : Nat} {xs : List (NestedKey × Addr × Value)}, PrsAt H bs l → NumH i l bs xs → ∀ x ∈ xs, (nestedKind X.prog X.w).is s.heap x.1 x.2.1
  | [], [], _, [], _, _, x, hx => absurd hx List.not_mem_nil
  | b :: bs, a :: l, _, y :: xs, h, z, x, hx => by
    cases hx with
    | head =>
      rw [z.1, z.2.1]
      exact h.1.key I
    | tail _ hx => exact keys_is I h.2 z.2.2.2 x hx
  | [], _ :: _, _, _, h, _, _, _ => h.elim
  | _ :: _, [], _, _, h, _, _, _ => h.elim
  | [], [], _, _ :: _, _, z, _, _ => z.elim
  | _ :: _, _ :: _, _, [], _, z, _, _ => z.elim
section
variable {P : Program} {w : World}
/-- what is true of the dict's object alone -/
def PrO (P : Program) (w : World) (D : Addr) (bs : List Addr) (l : List Pr) : HO := .ext fun h => (D == sysModules) = false ∧ l.length ≤ sizeLine ∧ ∃ xs, NumH 0 l bs xs ∧ ∃ o es ep, h.get? D = some o ∧ o.ExactDict ∧ o.data = .dict es ep ∧ es.toList = xs.map (entryOfKey (nestedKind P w)) ∧ (xs.map (·.1)).Nodup
theorem prO_ok {H : Hp} {h : Heap} {D : Addr} {bs : List Addr} {l : List Pr} {xs : List (NestedKey × Addr × Value)} (h1 : (D == sysModules) = false) (h2 : l.length ≤ sizeLine) (h3 : NumH 0 l bs xs) (h4 : h.DictOfH (nestedKind P w) D xs) : ObjOk P w H h D (PrO P w D bs l) := by
  obtain ⟨o, es, ep, e1, e2, e3, e4, _, e5⟩ := h4
  exact ⟨⟨h1, h2, xs, h3, o, es, ep, e1, e2, e3, e4, e5⟩, ⟨o, e1⟩, fun _ _ ⟨a, b, xs, c, o, es, ep, q, r⟩ k => ⟨a, b, xs, c, o, es, ep, k _ q, r⟩⟩
theorem prO_get {X : Cx} {pins : List (Addr × Obj)} {σ : L2.St} {H : Hp} {s : Shared} {D : Addr} {bs : List Addr} {l : List Pr} (I : Inv X pins σ H s) (h : H D = some (PrO X.prog X.w D bs l)) (at_ : PrsAt H bs l) :
    (D == sysModules) = false ∧ l.length ≤ sizeLine ∧ ∃ xs, NumH 0 l bs xs ∧ s.heap.DictOfH (nestedKind X.prog X.w) D xs := by
  obtain ⟨h1, h2, xs, nh, o, es, ep, e1, e2, e3, e4, e5⟩ := (I.hok _ _ h).1
  exact ⟨h1, h2, xs, nh, o, es, ep, e1, e2, e3, e4, keys_is I at_ nh, e5⟩
theorem room_n {A : Around} (h : A.units + 64 < cLine) : (nestedKind P w).room A.in1 := by
  show A.units + 1 + 8 < cLine
  omega
def numN (P : Program) (w : World) : Num P w Pr where
  is := fun H v a => ∃ b, v = .ref b ∧ PrAt H b a
  has := fun H D l => ∃ bs, H D = some (PrO P w D bs l) ∧ PrsAt H bs l
  keep := fun ⟨b, e, h⟩ k => ⟨b, e, h.keep k⟩
  stay := fun ⟨bs, h, p⟩ s => ⟨bs, s _ _ h, p.keep (Same.tup' s)⟩
  ext := fun ⟨_, h, _⟩ => ⟨_, h⟩
  dict := fun eP ew I ⟨bs, h, p⟩ => by
    subst eP ew
    obtain ⟨_, _, xs, _, d⟩ := prO_get I h p
    exact d.typeIs
  new := fun eP ew I => by
    subst eP ew
    exact ⟨_, prO_ok (l := []) (bs := []) (beq_eq_false_iff_ne.mpr (Nat.ne_of_gt I.big)) (Nat.zero_le _) (xs := []) trivial (Heap.DictOfH.new _), [], upd_same, trivial⟩
  notin := fun {X pins σ H s A E D l v u a Q} eP ew hu I ⟨bs, h, p⟩ ⟨b, ev, hk⟩ r q => by
    subst eP ew ev
    cases r
    obtain ⟨hd, _, xs, nh, d⟩ := prO_get I h p
    refine wpAny_notIn_heap (room_n hu) (hk.key I) hd d ?_
    by_cases m : a ∈ l
    · obtain ⟨c, t, e⟩ := numH_in nh m
      rw [e]
      have q := q _ (I.tok (s.toks + (nestedKind X.prog X.w).draws (encN a)))
      rw [decide_eq_true m] at q
      exact q
    · rw [numH_out nh m]
      have q := q _ (I.tok (s.toks + (nestedKind X.prog X.w).draws (encN a)))
      rw [decide_eq_false m] at q
      exact q
  get := fun {X pins σ H s A E D l v u a Q} eP ew hu I ⟨bs, h, p⟩ ⟨b, ev, hk⟩ m r q => by
    subst eP ew ev
    cases r
    obtain ⟨hd, _, xs, nh, d⟩ := prO_get I h p
    obtain ⟨c, t, e⟩ := numH_in nh m
    rw [Nat.zero_add] at e
    exact wpAny_getItem_heap (room_n hu) (hk.key I) d e (q t _ (I.tok _))
  put := fun {X pins σ H s A E D l v u a t Q} eP ew hu I ⟨bs, h, p⟩ ⟨b, ev, hk⟩ m few r q => by
    subst eP ew ev
    cases r
    obtain ⟨hd, hz, xs, nh, d⟩ := prO_get I h p
    refine wpAny_setItem_heap (hsz := by rw [numH_len nh]; exact hz) (room_n hu) (hk.key I) d fun g d' same => ?_
    rw [storedH_new (numH_out nh m)] at d'
    have nh2 := numH_snoc (a := a) (c := b) (t := t) nh
    rw [Nat.zero_add] at nh2
    have kt : KeepsTup H (upd H D (PrO X.prog X.w D (bs ++ [b]) (l ++ [a]))) := tup_upd h fun _ z => nomatch z
    refine q (PrO X.prog X.w D (bs ++ [b]) (l ++ [a])) _ ⟨bs ++ [b], upd_same, (p.keep kt).snoc (hk.keep kt)⟩ ?_
    exact d_write (t' := s.toks + (nestedKind X.prog X.w).draws (encN a)) I (by rw [h]; trivial) same (let ⟨o, _, _, e, _⟩ := d'; ⟨o, e⟩) (prO_ok hd (by rw [List.length_append]; exact few) nh2 d')
  size := fun {X pins σ H s A E D l Q} eP ew I ⟨bs, h, p⟩ q => by
    subst eP ew
    obtain ⟨hd, hz, xs, nh, d⟩ := prO_get I h p
    have len := numH_len nh
    refine call_len_dictH hd d (by rw [len]; rw [sizeLine_eq] at hz; omega) ?_
    rw [len]
    exact q _ _ (I.tok _)
end
end ND
set_option Elab.async false
set_option linter.all false
set_option maxRecDepth 100000
set_option maxHeartbeats 8000000
namespace ZPT
open PySem PySem.Spec PyProof.Rows L2
/-- each sign with the tuple's item, in a new pair -/
def ZiST (K : PySem.W.Frag) (x : Str) (a : Addr) (ys : List V) : It :=
  ⟨fun i H => SqT K H a ys ∧ i < x.cps.size ∧ i < ys.length, fun i H v H' => ∃ T c y, v = .ref T ∧ H T = none ∧ H' = upd H T (.tup [.str ⟨#[c]⟩, y]) ∧ x.cps[i]? = some c ∧ ys[i]? = some y, fun i H => SqT K H a ys ∧ i = x.cps.size ∧ i ≤ ys.length⟩
theorem tup_is {h : Heap} {a : Addr} {its : Array Value} (p : IsTup h a its) : h.IsTuple a its := let ⟨o, e, c, n, d⟩ := p; ⟨o, e, c, n, d⟩
/-- where it stands, i pairs out -/
def At (x : Str) (t : Tok) (a z TI TO i1 i2 : Addr) (i : Nat) (h : Heap) : Prop :=
  IsZip h z TI TO .none ∧ IsTupOf2 h TI (.ref i1) (.ref i2) ∧ (∃ p q, IsTupOf2 h TO p q) ∧ h.IsStrIter i1 (strIterType x) x t i ∧ h.IsTupleIter i2 a i
theorem turn_st {P : Program} {w : World} {K : PySem.W.Frag} {elts : List Expr} {kk : Nat} {tpos : Pos} (x : Str) (t : Tok) (a : Addr) (ys : List V) {z TI TO i1 i2 : Addr} (S : ZipSep2 z TI TO i1 i2 [i1] [i2, a]) (hai : a ≠ i2) :
    Turn P w K (.Tuple elts kk tpos) (ZiST K x a ys) [z, TI, TO, i1, i2] z (At x t a z TI TO i1 i2) where
  mem := .head _
  obj := fun i h ⟨hz, h1, ⟨p, q, h2⟩, ⟨o3, h3, _, d3⟩, ⟨o4, h4, _, d4⟩⟩ b hb => by
    simp only [List.mem_cons, List.not_mem_nil, or_false] at hb
    rcases hb with rfl | rfl | rfl | rfl | rfl
    · exact ⟨_, hz, fun v q => nomatch q⟩
    · exact ⟨_, h1, fun v q => nomatch q⟩
    · exact ⟨_, h2, fun v q => nomatch q⟩
    · exact ⟨o3, h3, fun v q => nomatch d3.symm.trans q⟩
    · exact ⟨o4, h4, fun v q => nomatch d4.symm.trans q⟩
  keep := fun i h h' ⟨hz, h1, ⟨p, q, h2⟩, ⟨o3, e3, r3⟩, h4⟩ k => ⟨k z (by simp) _ hz, k TI (by simp) _ h1, ⟨p, q, k TO (by simp) _ h2⟩, ⟨o3, k i1 (by simp) _ e3, r3⟩, h4.at fun o e => k i2 (by simp) o e⟩
  item := by
    intro X hP hw hK hc i pins s σ H E I hf ⟨hz, h1, ⟨p, q, h2⟩, h3, h4⟩ ⟨hT, hi1, hi2⟩
    subst hP hw hK
    obtain ⟨its, rv, pt, _⟩ := I.tuple hT
    have hl : its.toArray.size = ys.length := by rw [List.size_toArray, rv.length]
    have D1 := Draws.text (prog := X.prog) (w := X.w) (A := X.A.in1) (I.ok.hd hc) i1 x t
    have D2 := Draws.tuple (prog := X.prog) (w := X.w) (A := X.A.in1) (I.ok.hd hc) i2 a hai its.toArray
    have zlt : z < s.heap.objs.size := Heap.lt_size hz
    have old : ∀ b ∈ [z, TI, TO, i1, i2], b < s.heap.objs.size := fun b hb => by
      simp only [List.mem_cons, List.not_mem_nil, or_false] at hb
      rcases hb with rfl | rfl | rfl | rfl | rfl
      · exact zlt
      · exact Heap.lt_size h1
      · exact Heap.lt_size h2
      · obtain ⟨o, e, _⟩ := h3
        exact Heap.lt_size e
      · obtain ⟨o, e, _⟩ := h4
        exact Heap.lt_size e
    refine wpAny_pyNext_zipD2_item S D1 D2 hz h1 h2 h3 ⟨h4, tup_is pt⟩ hi1 (by rw [hl]; exact hi2) fun u v h' tk hu hv z1 TO1 n1 n2 made size kp => ?_
    obtain ⟨c, tc, hc', rfl⟩ := hu
    obtain ⟨y, hy⟩ : ∃ y, ys[i]? = some y := ⟨_, List.getElem?_eq_getElem hi2⟩
    obtain ⟨v2, e2, ry⟩ := rv.get hy
    have ev : v2 = v := Option.some.inj (e2.symm.trans (by rw [← List.getElem?_toArray]; exact hv))
    subst ev
    refine ⟨_, rfl, wpAny_letOwnedTupleGo_zip (s := { s with heap := h', toks := tk }) z1 fun h'' z2 sb => ?_⟩
    have free : H s.heap.objs.size = none := I.hok.fresh (Nat.le_refl _)
    have pair : h''.get? s.heap.objs.size = some { cls := .type "tuple", data := .seq #[.str ⟨#[c]⟩ tc, v2] } := (sb.2 _ (Nat.ne_of_gt zlt)).trans made
    have new : ObjOk X.prog X.w (upd H s.heap.objs.size (.tup [.str ⟨#[c]⟩, y])) h'' s.heap.objs.size (.tup [.str ⟨#[c]⟩, y]) := ⟨by show 2 ≤ sizeLine; decide, [.str ⟨#[c]⟩ tc, v2], .cons ⟨tc, rfl⟩ (.cons ry .nil), _, pair, rfl, _, rfl⟩
    have stay : ∀ b o, b ∉ [z, TI, TO, i1, i2] → s.heap.get? b = some o → h''.get? b = some o := fun b o hb e => (sb.2 b fun w => hb (by simp [w])).trans (kp b o (fun w => hb (by simp [w])) (fun w => hb (by simp [w])) (fun w => hb (by simp [w])) (fun w => hb (by simp [w])) e)
    refine ⟨.ref s.heap.objs.size, _, I.turnedNew (ch := [z, TI, TO, i1, i2]) stay hf (Nat.le_refl _) new, rfl, ⟨_, c, y, rfl, free, rfl, hc', hy⟩, ⟨z2, ?_, ⟨_, _, (sb.2 _ S.TOz).trans TO1⟩, ?_, ?_⟩, fun b hb => ?_⟩
    · exact (sb.2 _ S.TIz).trans (kp _ _ S.TIz S.TITO S.TIi1 S.TIi2 h1)
    · obtain ⟨o, e, r⟩ := n1
      exact ⟨o, (sb.2 _ S.zi1.symm).trans e, r⟩
    · exact n2.1.at fun o e => (sb.2 _ S.zi2.symm).trans e
    · rw [upd_ne (Nat.ne_of_lt (old b hb))]
      exact (hf b hb).1
  done := by
    intro X hP hw hK hc i pins s σ H E I hf ⟨hz, h1, ⟨p, q, h2⟩, h3, h4⟩ ⟨hT, hi1, hi2⟩
    subst hP hw hK
    obtain ⟨its, rv, pt, _⟩ := I.tuple hT
    have hl : its.toArray.size = ys.length := by rw [List.size_toArray, rv.length]
    have D1 := Draws.text (prog := X.prog) (w := X.w) (A := X.A.in1) (I.ok.hd hc) i1 x t
    have D2 := Draws.tuple (prog := X.prog) (w := X.w) (A := X.A.in1) (I.ok.hd hc) i2 a hai its.toArray
    exact wpAny_pyNext_zipD2_end S D1 D2 hz h1 h2 h3 ⟨h4, tup_is pt⟩ (Nat.le_of_eq hi1) (by rw [hl]; exact hi2) (.inl hi1) fun h' tk kp => ⟨rfl, I.turnedL (t' := tk) (ch := [z, TI, TO, i1, i2]) (fun b o hb e =>
      kp b o (fun w => hb (by simp [w])) (fun w => hb (by simp [w])) (fun w => hb (by simp [w])) (fun w => hb (by simp [w])) e) hf⟩
  self := fun _ _ _ _ _ st q => wpAny_pyIter_zip st.1 q
def iZipST (K : PySem.W.Frag) (ta : TA) : TI := fun σ H R => ta σ H fun vs H1 => ∃ x a ys, vs = [.str x, .ref a] ∧ SqT K H1 a ys ∧ R (ZiST K x a ys) H1
theorem pi_zipST {X : Cx} {e e2 : Expr} {ta : TA} {p pos tpos : Pos} {elts : List Expr} {kk : Nat} (hg : Gl X "zip") (hm : X.mg "zip" = none) (ha : PA X [e, e2] ta)
    (hs : starEach [e, e2] X.env = (false, eval e X.env) :: starEach [e2] X.env := by rfl) (hpl : (backTo pos (starEach [e2] X.env)).any (·.1) = false := by rfl) :
    PI X (.Tuple elts kk tpos) (.Call (.Name "zip" p) [e, e2] [] pos) (iZipST X.K ta) := by
  refine ⟨fun pins s σ H R I h => Call_ (ld_blt I hg hm PyProof.Rows.boot_zip (PyProof.Rows.callWith_type1 (thn (ha.run pos pins s σ H _ I h) fun us s1 ⟨vs, H1, I1, r1, x, a, ys, ex, hT, q⟩ => ?_) hs hpl))⟩
  subst ex
  cases r1 with
  | cons r rr =>
   cases rr with
   | cons r' rr =>
    cases rr
    obtain ⟨t, rfl⟩ := r
    cases r'
    obtain ⟨its, rv, pt, _⟩ := I1.tuple hT
    obtain ⟨o, ho, _⟩ := id pt
    have lt := Heap.lt_size ho
    refine zip_begins2 (begins_text x t) (begins_tuple a its.toArray) trivial (tup_is pt) fun h' hz hTI hTO g1 g2 size kp => wpAny_pyIter_zip hz ?_
    have fresh : ∀ b ∈ [s1.heap.objs.size + 4, s1.heap.objs.size + 2, s1.heap.objs.size + 3, s1.heap.objs.size, s1.heap.objs.size + 1], FpOk X pins H1 b := fun b hb => by
      have le : s1.heap.objs.size ≤ b := by
        have hb' : b = s1.heap.objs.size + 4 ∨ b = s1.heap.objs.size + 2 ∨ b = s1.heap.objs.size + 3 ∨ b = s1.heap.objs.size ∨ b = s1.heap.objs.size + 1 := by simpa using hb
        rcases hb' with z | z | z | z | z <;> rw [z] <;> first | exact Nat.le_refl _ | exact Nat.le_add_right _ _
      exact I1.fpOk le (I1.hok.fresh le)
    have S := zip_sep2 (N := s1.heap.objs.size) (fp1 := []) (fp2 := [a]) (fun _ h => (List.not_mem_nil h).elim) fun b hb => by rw [List.mem_singleton.mp hb]; exact lt
    exact ⟨s1.heap.objs.size + 4, [s1.heap.objs.size + 4, s1.heap.objs.size + 2, s1.heap.objs.size + 3, s1.heap.objs.size, s1.heap.objs.size + 1], _, _, H1, rfl, I1.kept (t' := s1.toks) kp, turn_st x t a ys S (Nat.ne_of_lt (Nat.lt_succ_of_lt lt)), ⟨hz, hTI, ⟨_, _, hTO⟩, ⟨_, g1, rfl, rfl⟩, ⟨_, g2, rfl, rfl⟩⟩, fresh, q⟩
theorem walk_st {K : PySem.W.Frag} {x : Str} {a : Addr} {ys : List V} (hl : x.cps.size = ys.length) : Walk (ZiST K x a ys) x.cps.size (fun H => SqT K H a ys) (YPair (fun i => (x.cps[i]?).map fun c => V.str ⟨#[c]⟩) (fun i => ys[i]?)) :=
  ⟨fun i H hi q => ⟨q, hi, by omega⟩, fun H q => ⟨q, rfl, by omega⟩, fun i H v H' _ _ ⟨T, c, y, e1, e2, e3, e4, e5⟩ => ⟨T, _, y, e1, e2, e3, by show Option.map _ (x.cps[i]?) = _; rw [e4] <;> rfl, e5⟩⟩
end ZPT
set_option Elab.async false
set_option linter.all false
set_option maxRecDepth 100000
set_option maxHeartbeats 8000000
namespace ZQT
open PySem PySem.Spec PyProof.Rows L2 RZ
section
variable {prog : Program} {w : World} {A : Around} {E : Value → Shared → Prop} {s : Shared}
/-- where it stands, i pairs out, the first of them l -/
structure At (a b z TI TO i1 i2 : Addr) (i : Nat) (l : Option Addr) (h : Heap) : Prop where
  ti : IsPair h TI (.ref i1) (.ref i2)
  to : ∃ p q, IsPair h TO p q
  it1 : h.IsTupleIter i1 a i
  it2 : h.IsTupleIter i2 b i
  none_ : l = none → IsZip h z TI TO .none
  some_ : ∀ T, l = some T → ∃ f, IsZipHeld h z TI TO T f
theorem At.obj {a b z TI TO i1 i2 : Addr} {i : Nat} {l : Option Addr} {h : Heap} (x : At a b z TI TO i1 i2 i l h) : ∀ c ∈ [z, TI, TO, i1, i2], ∃ o, h.get? c = some o ∧ ∀ v, o.data ≠ .cell v := by
  obtain ⟨h1, ⟨p, q, h2⟩, ⟨o3, e3, _, d3⟩, ⟨o4, e4, _, d4⟩, h5, h6⟩ := x
  intro c hc
  have hc' : c = z ∨ c = TI ∨ c = TO ∨ c = i1 ∨ c = i2 := by simpa using hc
  rcases hc' with y | y | y | y | y
  · rw [y]
    cases l with
    | none => exact ⟨_, h5 rfl, fun v q => nomatch q⟩
    | some T =>
      obtain ⟨f, q⟩ := h6 T rfl
      exact ⟨_, q, fun v q => nomatch q⟩
  · rw [y]
    exact ⟨_, h1, fun v q => nomatch q⟩
  · rw [y]
    exact ⟨_, h2, fun v q => nomatch q⟩
  · rw [y]
    exact ⟨o3, e3, fun v q => nomatch d3.symm.trans q⟩
  · rw [y]
    exact ⟨o4, e4, fun v q => nomatch d4.symm.trans q⟩
theorem At.keep {a b z TI TO i1 i2 : Addr} {i : Nat} {l : Option Addr} {h h' : Heap} (x : At a b z TI TO i1 i2 i l h) (k : ∀ c ∈ [z, TI, TO, i1, i2], ∀ o, h.get? c = some o → h'.get? c = some o) : At a b z TI TO i1 i2 i l h' :=
  ⟨k TI (by simp) _ x.ti, let ⟨p, q, e⟩ := x.to; ⟨p, q, k TO (by simp) _ e⟩, x.it1.at fun o e => k i1 (by simp) o e, x.it2.at fun o e => k i2 (by simp) o e, fun e => k z (by simp) _ (x.none_ e), fun T e => let ⟨f, q⟩ := x.some_ T e; ⟨f, k z (by simp) _ q⟩⟩
theorem At.typeIs {a b z TI TO i1 i2 : Addr} {i : Nat} {l : Option Addr} (x : At a b z TI TO i1 i2 i l s.heap) : s.TypeIs (.ref z) "zip" := by
  cases l with
  | none => exact ⟨_, x.none_ rfl, rfl⟩
  | some T =>
    obtain ⟨f, q⟩ := x.some_ T rfl
    exact ⟨_, q, rfl⟩
theorem item {a b z TI TO i1 i2 : Addr} {i : Nat} {l : Option Addr} {xs ys : Array Value} {x y : Value} {Q : Option Value → Shared → Prop} (D : ZipApart z TI TO i1 i2 a b) (st : At a b z TI TO i1 i2 i l s.heap) (old : ∀ T, l = some T → ∃ o, s.heap.get? T = some o ∧ T ∉ [z, TI, TO, i1, i2])
    (ha : s.heap.IsTuple a xs) (hb : s.heap.IsTuple b ys) (hx : xs[i]? = some x) (hy : ys[i]? = some y)
    (hQ : ∀ g, At a b z TI TO i1 i2 (i + 1) (some (l.getD s.heap.objs.size)) g → IsPair g s.heap.objs.size x y → (∀ c o, c ≠ z → c ≠ TO → c ≠ i1 → c ≠ i2 → s.heap.get? c = some o → g.get? c = some o) → Q (some (.ref s.heap.objs.size)) { s with heap := g }) :
    wpAny (model prog w) A (pyNext (.ref z)) Q E s := by
  have isTy := st.typeIs
  obtain ⟨h1, ⟨p, q, h2⟩, h3, h4, h5, h6⟩ := st
  cases l with
  | none =>
    refine pyNext_zipT_item D (h5 rfl) h1 h2 h3 h4 ha hb hx hy fun g z' TO' w1 w2 made _ keep => hQ g ⟨keep _ _ D.TIz D.TITO D.TIi1 D.TIi2 h1, ⟨_, _, TO'⟩, w1, w2, (fun e => nomatch e), fun T e => ?_⟩ made keep
    cases e
    exact ⟨false, z'⟩
  | some T =>
    obtain ⟨f, held⟩ := h6 T rfl
    obtain ⟨oT, atT, nT⟩ := old T rfl
    unfold pyNext
    refine wpAny_bind (wpAny_attempt (wpAny_callSpecial?_slot (name := Str.ofString "__next__") isTy F.slot_zip_next (wpAny_call_entry F.slot_zip_next isTy F.entry_zip_next ?_ (F.args_zip_next_1 _))))
    refine held_asked D held atT h1 h3 h4 ha hb (fun _ _ => ⟨y, hy⟩) (fun u v hu hv g z' w1 w2 made _ keep => ?_) (fun no => nomatch hx.symm.trans no)
    cases hx.symm.trans hu
    cases hy.symm.trans hv
    refine ⟨_, rfl, wpAny_pure (hQ g ⟨keep _ _ D.TIz D.TIi1 D.TIi2 h1, ⟨p, q, keep _ _ D.TOz D.TOi1 D.TOi2 h2⟩, w1, w2, (fun e => nomatch e), fun T' e => ?_⟩ made fun c o cz _ c1 c2 e => keep c o cz c1 c2 e)⟩
    cases e
    exact ⟨true, z'⟩
end
end ZQT
set_option Elab.async false
set_option linter.all false
set_option maxRecDepth 100000
set_option maxHeartbeats 8000000
namespace WK
open PySem L2 PyProof.Rows LCX K1 FV DP
open TX (sg sigs)
open PySem.W (Frag kitOne)
end WK
set_option Elab.async false
set_option linter.all false
set_option maxRecDepth 100000
set_option maxHeartbeats 4000000
namespace WK
open PySem PySem.Spec L2 PyProof.Rows K1
section
variable {α : Type} [DecidableEq α] {f : α → Nat → α} {L : W} {start : α}
theorem exSign_nd {key : α} {st : List α × List Int} {c : Nat} (h : st.1.Nodup) : (exSign f key st c).1.Nodup := by
  unfold exSign
  split
  · exact h
  · rename_i hn
    refine List.nodup_append.mpr ⟨h, List.nodup_cons.mpr ⟨List.not_mem_nil, List.nodup_nil⟩, fun x hx y hy z => ?_⟩
    rw [List.mem_singleton.mp hy] at z
    exact hn (z ▸ hx)
theorem exFold_nd {key : α} : ∀ {l : W} {st : List α × List Int}, st.1.Nodup → (l.foldl (exSign f key) st).1.Nodup
  | [], _, h => h
  | c :: l, _, h => exFold_nd (l := l) (exSign_nd h)
theorem exAll_cases (j : Nat) : (∃ key, (exAll f L start j).1[j]? = some key ∧ exAll f L start (j + 1) = ((L.foldl (exSign f key) ((exAll f L start j).1, [])).1, (exAll f L start j).2 ++ [(L.foldl (exSign f key) ((exAll f L start j).1, [])).2])) ∨
    ((exAll f L start j).1.length ≤ j ∧ exAll f L start (j + 1) = exAll f L start j) := by
  cases e : (exAll f L start j).1[j]? with
  | some key => exact .inl ⟨key, rfl, exAll_at e⟩
  | none =>
    have h := List.getElem?_eq_none_iff.mp e
    exact .inr ⟨h, exAll_stop h 1⟩
theorem exAll_nd : ∀ j, (exAll f L start j).1.Nodup
  | 0 => List.nodup_cons.mpr ⟨List.not_mem_nil, List.nodup_nil⟩
  | j + 1 => by
    rcases exAll_cases (f := f) (L := L) (start := start) j with ⟨key, _, e⟩ | ⟨_, e⟩
    · rw [e]
      exact exFold_nd (exAll_nd j)
    · rw [e]
      exact exAll_nd j
theorem exAll_grow (j : Nat) : (exAll f L start j).1 <+: (exAll f L start (j + 1)).1 ∧ (exAll f L start j).2 <+: (exAll f L start (j + 1)).2 := by
  rcases exAll_cases (f := f) (L := L) (start := start) j with ⟨key, _, e⟩ | ⟨_, e⟩
  · rw [e]
    exact ⟨exFold_grows f key L ((exAll f L start j).1, []), List.prefix_append _ _⟩
  · rw [e]
    exact ⟨List.prefix_refl _, List.prefix_refl _⟩
theorem exAll_pre (j : Nat) : ∀ m, (exAll f L start j).1 <+: (exAll f L start (j + m)).1 ∧ (exAll f L start j).2 <+: (exAll f L start (j + m)).2
  | 0 => ⟨List.prefix_refl _, List.prefix_refl _⟩
  | m + 1 => ⟨(exAll_pre j m).1.trans (exAll_grow (j + m)).1, (exAll_pre j m).2.trans (exAll_grow (j + m)).2⟩
theorem exAll_most {N : Nat} (h : (exAll f L start N).1.length ≤ N) (j : Nat) : (exAll f L start j).1.length ≤ N := by
  rcases Nat.le_total j N with a | a
  · have := (exAll_pre (f := f) (L := L) (start := start) j (N - j)).1.length_le
    rw [show j + (N - j) = N by omega] at this
    exact Nat.le_trans this h
  · have := exAll_stop h (j - N)
    rw [show N + (j - N) = j by omega] at this
    rw [this]
    exact h
theorem exAll_rows : ∀ j, (exAll f L start j).2.length = min j (exAll f L start j).1.length
  | 0 => by
    show 0 = min 0 1
    rfl
  | j + 1 => by
    have ih := exAll_rows j
    rcases exAll_cases (f := f) (L := L) (start := start) j with ⟨key, hk, e⟩ | ⟨h, e⟩
    · have hj := (List.getElem?_eq_some_iff.mp hk).1
      have hg := (exAll_grow (f := f) (L := L) (start := start) j).1.length_le
      have h2 : (exAll f L start (j + 1)).2.length = (exAll f L start j).2.length + 1 := by rw [e, List.length_append] <;> rfl
      rw [h2, ih]
      omega
    · rw [e, ih]
      omega
theorem idx_pre {a : α} {l m : List α} (h : a ∈ l) (p : l <+: m) : m.idxOf a = l.idxOf a := by
  obtain ⟨t, rfl⟩ := p
  rw [List.idxOf_append, if_pos h]
theorem fold_row (key : α) : ∀ (l : W) (st : List α × List Int), (l.foldl (exSign f key) st).2 = st.2 ++ l.map (fun c => (((l.foldl (exSign f key) st).1.idxOf (f key c) : Nat) : Int)) ∧ ∀ c ∈ l, f key c ∈ (l.foldl (exSign f key) st).1
  | [], st => ⟨(List.append_nil _).symm, fun c hc => (List.not_mem_nil hc).elim⟩
  | c :: l, st => by
    have one : f key c ∈ (exSign f key st c).1 ∧ (exSign f key st c).2 = st.2 ++ [(((exSign f key st c).1.idxOf (f key c) : Nat) : Int)] := by
      unfold exSign
      by_cases h : f key c ∈ st.1
      · rw [if_pos h]
        exact ⟨h, rfl⟩
      · rw [if_neg h]
        refine ⟨List.mem_append_right _ (List.mem_singleton.mpr rfl), ?_⟩
        show _ = st.2 ++ [(((st.1 ++ [f key c]).idxOf (f key c) : Nat) : Int)]
        rw [idx_end h]
    obtain ⟨ih1, ih2⟩ := fold_row key l (exSign f key st c)
    have pre := exFold_grows f key l (exSign f key st c)
    rw [List.foldl_cons]
    refine ⟨?_, fun d hd => ?_⟩
    · rw [ih1, one.2, List.append_assoc, List.map_cons, idx_pre one.1 pre] <;> rfl
    · rcases List.mem_cons.mp hd with rfl | z
      · exact pre.subset one.1
      · exact ih2 d z
/-- each row tells where the letters lead -/
theorem exAll_row : ∀ (j i : Nat) (r : List Int), (exAll f L start j).2[i]? = some r → ∃ key, (exAll f L start j).1[i]? = some key ∧ r = L.map (fun c => (((exAll f L start j).1.idxOf (f key c) : Nat) : Int)) ∧ ∀ c ∈ L, f key c ∈ (exAll f L start j).1
  | 0, i, r, h => by
    have : (exAll f L start 0).2 = [] := rfl
    rw [this] at h
    cases h
  | j + 1, i, r, h => by
    rcases exAll_cases (f := f) (L := L) (start := start) j with ⟨key, hk, e⟩ | ⟨_, e⟩
    · have pre := (exAll_grow (f := f) (L := L) (start := start) j).1
      have hj := (List.getElem?_eq_some_iff.mp hk).1
      have hl := exAll_rows (f := f) (L := L) (start := start) j
      rw [e] at h pre ⊢
      by_cases hi : i < (exAll f L start j).2.length
      · rw [List.getElem?_append_left hi] at h
        obtain ⟨k, k1, k2, k3⟩ := exAll_row j i r h
        refine ⟨k, ?_, ?_, fun c hc => pre.subset (k3 c hc)⟩
        · obtain ⟨t, ht⟩ := pre
          show (L.foldl (exSign f key) ((exAll f L start j).1, [])).1[i]? = _
          rw [← ht, List.getElem?_append_left (List.getElem?_eq_some_iff.mp k1).1]
          exact k1
        · rw [k2]
          refine List.map_congr_left fun c hc => ?_
          rw [idx_pre (k3 c hc) pre]
      · have hi2 : i = j := by
          have := (List.getElem?_eq_some_iff.mp h).1
          rw [List.length_append] at this
          have : i < (exAll f L start j).2.length + 1 := this
          omega
        rw [List.getElem?_append_right (by omega), hi2, hl, show j - min j (exAll f L start j).1.length = 0 by omega] at h
        obtain rfl := Option.some.inj h
        obtain ⟨f1, f2⟩ := fold_row (f := f) key L ((exAll f L start j).1, [])
        refine ⟨key, ?_, by rw [f1, List.nil_append], f2⟩
        obtain ⟨t, ht⟩ := pre
        show (L.foldl (exSign f key) ((exAll f L start j).1, [])).1[i]? = _
        rw [← ht, hi2, List.getElem?_append_left hj]
        exact hk
    · rw [e] at h ⊢
      exact exAll_row j i r h
theorem fold_add (key : α) : ∀ (l : W) (st : List α × List Int), ∃ es, (l.foldl (exSign f key) st).2 = st.2 ++ es ∧ es.foldl addN (rngI st.1.length) = rngI (l.foldl (exSign f key) st).1.length
  | [], st => ⟨[], (List.append_nil _).symm, rfl⟩
  | c :: l, st => by
    have one : ∃ e, (exSign f key st c).2 = st.2 ++ [e] ∧ addN (rngI st.1.length) e = rngI (exSign f key st c).1.length := by
      unfold exSign
      by_cases h : f key c ∈ st.1
      · rw [if_pos h]
        refine ⟨_, rfl, ?_⟩
        unfold addN
        rw [if_pos]
        exact List.mem_map.mpr ⟨_, List.mem_range.mpr (List.idxOf_lt_length_of_mem h), rfl⟩
      · rw [if_neg h]
        refine ⟨_, rfl, ?_⟩
        unfold addN
        rw [if_neg]
        · show _ = rngI (st.1 ++ [f key c]).length
          unfold rngI
          rw [List.length_append, show st.1.length + [f key c].length = st.1.length + 1 from rfl, List.range_succ, List.map_append] <;> rfl
        · intro z
          obtain ⟨i, hi, e⟩ := List.mem_map.mp z
          have := List.mem_range.mp hi
          omega
    obtain ⟨e, h1, h2⟩ := one
    obtain ⟨es, h3, h4⟩ := fold_add key l (exSign f key st c)
    rw [List.foldl_cons]
    refine ⟨e :: es, by rw [h3, h1, List.append_assoc] <;> rfl, ?_⟩
    rw [List.foldl_cons, h2]
    exact h4
theorem rng_at {n j : Nat} : (rngI n)[j]? = if j < n then some ((j : Nat) : Int) else none := by
  unfold rngI
  rw [List.getElem?_map]
  by_cases h : j < n
  · rw [if_pos h, List.getElem?_range h] <;> rfl
  · rw [if_neg h, List.getElem?_eq_none (by rw [List.length_range]; omega)] <;> rfl
theorem ex_way {N : Nat} : ∀ j ≤ N, wyA (exAll f L start N).2 0 j = rngI (exAll f L start j).1.length
  | 0, _ => rfl
  | j + 1, hj => by
    have ih := ex_way j (Nat.le_of_succ_le hj)
    have hl := exAll_rows (f := f) (L := L) (start := start) j
    rcases exAll_cases (f := f) (L := L) (start := start) j with ⟨key, hk, e⟩ | ⟨h, e⟩
    · have hlt := (List.getElem?_eq_some_iff.mp hk).1
      have h1 : (wyA (exAll f L start N).2 0 j)[j]? = some ((j : Nat) : Int) := by rw [ih, rng_at, if_pos hlt]
      rw [wyA_at h1, ih, e]
      obtain ⟨es, a1, a2⟩ := fold_add (f := f) key L ((exAll f L start j).1, [])
      have row : (exAll f L start N).2.getD ((j : Nat) : Int).toNat [] = es := by
        have pre := (exAll_pre (f := f) (L := L) (start := start) (j + 1) (N - (j + 1))).2
        rw [show j + 1 + (N - (j + 1)) = N by omega, e] at pre
        obtain ⟨t, ht⟩ := pre
        rw [← ht, List.getD_eq_getElem?_getD, Int.toNat_natCast, List.append_assoc, List.getElem?_append_right (by omega), hl, show j - min j (exAll f L start j).1.length = 0 by omega]
        show (L.foldl (exSign f key) ((exAll f L start j).1, [])).2 = es
        rw [a1] <;> rfl
      rw [row]
      exact a2
    · rw [e, ← ih]
      have h1 : (wyA (exAll f L start N).2 0 j).length ≤ j := by rw [ih]; unfold rngI; rw [List.length_map, List.length_range]; exact h
      exact wyA_stop h1 1
/-- all is explored in N steps -/
structure Done (f : α → Nat → α) (L : W) (start : α) (N : Nat) : Prop where
  len : (exAll f L start N).1.length = N
  pos : 1 ≤ N
theorem Done.lean {N : Nat} (d : Done f L start N) : LeanT (exAll f L start N).2 := by
  have hl := exAll_rows (f := f) (L := L) (start := start) N
  rw [d.len, Nat.min_self] at hl
  refine ⟨?_⟩
  rw [hl, ex_way N (Nat.le_refl _), d.len]
theorem Done.tab {N : Nat} (d : Done f L start N) : TabOk (exAll f L start N).2 L.length (N : Int) := by
  have hl := exAll_rows (f := f) (L := L) (start := start) N
  rw [d.len, Nat.min_self] at hl
  refine ⟨by rw [hl], fun r hr => ?_⟩
  obtain ⟨i, hi⟩ := List.mem_iff_getElem?.mp hr
  obtain ⟨key, _, h2, h3⟩ := exAll_row N i r hi
  refine ⟨by rw [h2, List.length_map], fun x hx => ?_⟩
  rw [h2] at hx
  obtain ⟨c, hc, rfl⟩ := List.mem_map.mp hx
  have := List.idxOf_lt_length_of_mem (h3 c hc)
  rw [d.len] at this
  omega
theorem Done.led {N : Nat} (d : Done f L start N) : ∀ (u : W) (key : α), key ∈ (exAll f L start N).1 → (∀ c ∈ u, c ∈ L) → u.foldl f key ∈ (exAll f L start N).1 ∧ ledL L (exAll f L start N).2 u (((exAll f L start N).1.idxOf key : Nat) : Int) = (((exAll f L start N).1.idxOf (u.foldl f key) : Nat) : Int)
  | [], key, hk, _ => ⟨hk, rfl⟩
  | c :: u, key, hk, hu => by
    have hl := exAll_rows (f := f) (L := L) (start := start) N
    rw [d.len, Nat.min_self] at hl
    have hi := List.idxOf_lt_length_of_mem hk
    have hi2 : (exAll f L start N).1.idxOf key < (exAll f L start N).2.length := Nat.lt_of_lt_of_eq hi (d.len.trans hl.symm)
    obtain ⟨key2, k1, k2, k3⟩ := exAll_row N _ _ (List.getElem?_eq_getElem hi2)
    have ek : key2 = key := by
      rw [List.getElem?_eq_getElem hi] at k1
      rw [← Option.some.inj k1]
      exact List.getElem_idxOf hi
    subst ek
    have hc := hu c (.head _)
    obtain ⟨a, b⟩ := Done.led d u (f key2 c) (k3 c hc) fun x hx => hu x (.tail _ hx)
    refine ⟨a, ?_⟩
    rw [List.foldl_cons, ← b]
    show ledL L _ u (stepL L _ _ c) = _
    congr 1
    unfold stepL
    have e1 : (exAll f L start N).2.getD (((exAll f L start N).1.idxOf key2 : Nat) : Int).toNat [] = (exAll f L start N).2[(exAll f L start N).1.idxOf key2] := by
      rw [Int.toNat_natCast, List.getD_eq_getElem?_getD, List.getElem?_eq_getElem hi2] <;> rfl
    rw [e1, k2, List.getD_eq_getElem?_getD, List.getElem?_map, List.getElem?_eq_getElem (List.idxOf_lt_length_of_mem hc)]
    show (((exAll f L start N).1.idxOf (f key2 (L[L.idxOf c]'(List.idxOf_lt_length_of_mem hc))) : Nat) : Int) = _
    rw [List.getElem_idxOf (List.idxOf_lt_length_of_mem hc)]
theorem Done.zero {N : Nat} (d : Done f L start N) : start ∈ (exAll f L start N).1 ∧ (exAll f L start N).1.idxOf start = 0 := by
  have pre := (exAll_pre (f := f) (L := L) (start := start) 0 N).1
  rw [Nat.zero_add] at pre
  obtain ⟨t, ht⟩ := pre
  have : (exAll f L start N).1 = start :: t := by rw [← ht] <;> rfl
  rw [this]
  exact ⟨List.mem_cons_self, List.idxOf_cons_self⟩
/-- two words lead to one place just if they make one key -/
theorem Done.same {N : Nat} (d : Done f L start N) {u v : W} (hu : ∀ c ∈ u, c ∈ L) (hv : ∀ c ∈ v, c ∈ L) : ledL L (exAll f L start N).2 u 0 = ledL L (exAll f L start N).2 v 0 ↔ u.foldl f start = v.foldl f start := by
  obtain ⟨z1, z2⟩ := d.zero
  obtain ⟨a1, a2⟩ := d.led u start z1 hu
  obtain ⟨b1, b2⟩ := d.led v start z1 hv
  rw [z2] at a2 b2
  have a2' : ledL L (exAll f L start N).2 u 0 = _ := a2
  have b2' : ledL L (exAll f L start N).2 v 0 = _ := b2
  rw [a2', b2']
  constructor
  · intro e
    have h1 := List.idxOf_lt_length_of_mem a1
    have h2 := List.idxOf_lt_length_of_mem b1
    have e : (exAll f L start N).1.idxOf (u.foldl f start) = (exAll f L start N).1.idxOf (v.foldl f start) := by omega
    rw [← List.getElem_idxOf h1, ← List.getElem_idxOf h2]
    congr 1
  · intro e
    rw [e]
theorem Done.most {N : Nat} (d : Done f L start N) (hN : N ≤ 400) : (∀ j, (exAll f L start j).1.length ≤ 400) ∧ exAll f L start 400 = exAll f L start N := by
  refine ⟨fun j => Nat.le_trans (exAll_most (Nat.le_of_eq d.len) j) hN, ?_⟩
  have := exAll_stop (Nat.le_of_eq d.len) (400 - N)
  rw [show N + (400 - N) = 400 by omega] at this
  exact this
end
end WK
set_option Elab.async false
set_option linter.all false
set_option maxRecDepth 100000
set_option maxHeartbeats 4000000
namespace WK
open PySem L2 PyProof.Rows K1
section
variable {α : Type} [DecidableEq α] {f : α → Nat → α} {L : W} {start : α}
theorem fold_in {S : List α} {key : α} (hk : ∀ c ∈ L, f key c ∈ S) : ∀ {l : W} {st : List α × List Int}, (∀ c ∈ l, c ∈ L) → (∀ a ∈ st.1, a ∈ S) → ∀ a ∈ (l.foldl (exSign f key) st).1, a ∈ S
  | [], _, _, h => h
  | c :: l, st, hl, h => fold_in hk (l := l) (st := exSign f key st c) (fun d hd => hl d (.tail _ hd)) fun a ha => by
    unfold exSign at ha
    split at ha
    · exact h a ha
    · rcases List.mem_append.mp ha with z | z
      · exact h a z
      · rw [List.mem_singleton.mp z]
        exact hk c (hl c (.head _))
/-- what is explored stays in what the step keeps -/
theorem keys_in {S : List α} (h0 : start ∈ S) (hs : ∀ a ∈ S, ∀ c ∈ L, f a c ∈ S) : ∀ j, ∀ a ∈ (exAll f L start j).1, a ∈ S
  | 0, a, ha => by
    rw [List.mem_singleton.mp ha]
    exact h0
  | j + 1, a, ha => by
    rcases exAll_cases (f := f) (L := L) (start := start) j with ⟨key, hk, e⟩ | ⟨_, e⟩
    · rw [e] at ha
      exact fold_in (hs key (keys_in h0 hs j key (List.mem_of_getElem? hk))) (fun _ h => h) (keys_in h0 hs j) a ha
    · rw [e] at ha
      exact keys_in h0 hs j a ha
/-- over finitely many keys exploring ends -/
theorem done_in {S : List α} (h0 : start ∈ S) (hs : ∀ a ∈ S, ∀ c ∈ L, f a c ∈ S) : ∃ N, Done f L start N ∧ N ≤ S.length := by
  have few : ∀ j, (exAll f L start j).1.length ≤ S.length := fun j => (exAll_nd (f := f) (L := L) (start := start) j).length_le_of_subset (keys_in h0 hs j)
  have at0 : 1 ≤ (exAll f L start S.length).1.length := by
    have := (exAll_pre (f := f) (L := L) (start := start) 0 S.length).1.length_le
    rw [Nat.zero_add] at this
    exact this
  refine ⟨(exAll f L start S.length).1.length, ⟨?_, at0⟩, few _⟩
  generalize hN : (exAll f L start S.length).1.length = N
  have le : N ≤ S.length := hN ▸ few _
  have up := (exAll_pre (f := f) (L := L) (start := start) N (S.length - N)).1.length_le
  rw [show N + (S.length - N) = S.length by omega, hN] at up
  have st := exAll_stop up (S.length - N)
  rw [show N + (S.length - N) = S.length by omega] at st
  rw [← st]
  exact hN
end
/-- the step of a table -/
def rowF (U : List (List Int)) (k : Int) (c : Nat) : Int := (U.getD k.toNat []).getD c 0
theorem rowF_in {U : List (List Int)} {wd : Nat} {n : Int} (ok : TabOk U wd n) {k : Int} (hk : 0 ≤ k ∧ k < n) {c : Nat} (hc : c < wd) : 0 ≤ rowF U k c ∧ rowF U k c < n := by
  have hl := ok.len
  have hi : k.toNat < U.length := by omega
  obtain ⟨w, b⟩ := ok.row _ (List.getElem_mem hi)
  unfold rowF
  rw [show U.getD k.toNat [] = U[k.toNat] by rw [List.getD_eq_getElem?_getD, List.getElem?_eq_getElem hi] <;> rfl]
  rw [show U[k.toNat].getD c 0 = U[k.toNat][c]'(by omega) by rw [List.getD_eq_getElem?_getD, List.getElem?_eq_getElem (by omega)] <;> rfl]
  exact b _ (List.getElem_mem _)
abbrev numsTo (n : Int) : List Int := (List.range n.toNat).map fun i => ((i : Nat) : Int)
theorem mem_nums {n k : Int} : k ∈ numsTo n ↔ 0 ≤ k ∧ k < n := by
  rw [List.mem_map]
  constructor
  · rintro ⟨i, hi, rfl⟩
    have := List.mem_range.mp hi
    omega
  · rintro ⟨a, b⟩
    exact ⟨k.toNat, List.mem_range.mpr (by omega), by omega⟩
/-- a table's reached places are told in at most so many steps -/
theorem done_row {U : List (List Int)} {wd : Nat} {n : Int} (ok : TabOk U wd n) (h1 : 1 ≤ n) : ∃ N, Done (rowF U) (List.range wd) 0 N ∧ N ≤ n.toNat := by
  obtain ⟨N, d, le⟩ := done_in (f := rowF U) (L := List.range wd) (start := (0 : Int)) (S := numsTo n) (mem_nums.mpr ⟨Int.le_refl _, by omega⟩) fun a ha c hc => mem_nums.mpr (rowF_in ok (mem_nums.mp ha) (List.mem_range.mp hc))
  exact ⟨N, d, by rw [List.length_map, List.length_range] at le; exact le⟩
theorem fold_add1 {α : Type} [DecidableEq α] (f : Int → Nat → Int) (key : Int) : ∀ (l : W) (st : List Int × List Int), (l.foldl (exSign f key) st).1 = (l.map (f key)).foldl addN st.1
  | [], _ => rfl
  | c :: l, st => by
    rw [List.foldl_cons, List.map_cons, List.foldl_cons, fold_add1 (α := α) f key l]
    congr 1
    unfold exSign addN
    split <;> rfl
/-- the ways in a table, in their order, are what its step explores -/
theorem way_row {U : List (List Int)} {wd : Nat} {n : Int} (ok : TabOk U wd n) (h1 : 1 ≤ n) : ∀ j, wyA U 0 j = (exAll (rowF U) (List.range wd) 0 j).1
  | 0 => rfl
  | j + 1 => by
    have ih := way_row ok h1 j
    have inn := keys_in (f := rowF U) (L := List.range wd) (start := (0 : Int)) (S := numsTo n) (mem_nums.mpr ⟨Int.le_refl _, by omega⟩) (fun a ha c hc => mem_nums.mpr (rowF_in ok (mem_nums.mp ha) (List.mem_range.mp hc))) j
    rcases exAll_cases (f := rowF U) (L := List.range wd) (start := (0 : Int)) j with ⟨key, hk, e⟩ | ⟨hl, e⟩
    · rw [wyA_at (ih ▸ hk), e, ih]
      show _ = ((List.range wd).foldl (exSign (rowF U) key) ((exAll (rowF U) (List.range wd) 0 j).1, [])).1
      rw [fold_add1 (α := Int)]
      congr 1
      have hb := mem_nums.mp (inn key (List.mem_of_getElem? hk))
      have hlen := ok.len
      have hi : key.toNat < U.length := by omega
      have hw := (ok.row _ (List.getElem_mem hi)).1
      have eU : U.getD key.toNat [] = U[key.toNat] := by rw [List.getD_eq_getElem?_getD, List.getElem?_eq_getElem hi] <;> rfl
      rw [eU]
      refine List.ext_getElem (by rw [List.length_map, List.length_range, hw]) fun i a b => ?_
      rw [List.getElem_map, List.getElem_range]
      unfold rowF
      rw [eU, List.getD_eq_getElem?_getD, List.getElem?_eq_getElem a]
      rfl
    · rw [e, ← ih]
      exact wyA_stop (by rw [ih]; exact hl) 1
end WK
set_option Elab.async false
set_option linter.all false
set_option maxRecDepth 100000
set_option maxHeartbeats 8000000
namespace WK
open PySem L2 PyProof.Rows LCX K1 FV DP
open TX (sg sigs)
open PySem.W (Frag kitOne)
/-- the table of what words reach -/
def leanT (U : List (List Int)) (wd : Nat) : List (List Int) := (exAll (rowF U) (List.range wd) 0 U.length).2
theorem exAll_len {α : Type} [DecidableEq α] {f : α → Nat → α} {L : W} {start : α} {N M : Nat} (d : Done f L start N) (h : N ≤ M) : exAll f L start M = exAll f L start N := by
  have := exAll_stop (Nat.le_of_eq d.len) (M - N)
  rw [show N + (M - N) = M by omega] at this
  exact this
/-- what a table's words reach: numbers of rows, each once, closed under the steps -/
structure Ord (U : List (List Int)) (wd : Nat) (o : List Int) (B : List (List Int)) : Prop where
  way : wyA U 0 U.length = o
  nd : o.Nodup
  len : B.length = o.length
  le : o.length ≤ U.length
  row : ∀ (i : Nat) (hi : i < o.length), ∃ (r : Nat) (hr : r < U.length) (hv : i < B.length), o[i] = (r : Int) ∧ U[r].length = wd ∧ B[i].length = wd ∧ ∀ (k : Nat) (hk : k < U[r].length) (hk2 : k < B[i].length), ∃ (j : Nat) (hj : j < o.length), o[j] = U[r][k] ∧ B[i][k] = (j : Int)
theorem ord_of {U : List (List Int)} {wd : Nat} {n : Int} (ok : TabOk U wd n) (h1 : 1 ≤ n) : Ord U wd (wyA U 0 U.length) (leanT U wd) := by
  obtain ⟨N, d, le⟩ := done_row ok h1
  have hl := ok.len
  have e := exAll_len d (show N ≤ U.length by omega)
  have ew : wyA U 0 U.length = (exAll (rowF U) (List.range wd) 0 N).1 := by rw [way_row ok h1, e]
  have eV : leanT U wd = (exAll (rowF U) (List.range wd) 0 N).2 := by
    unfold leanT
    rw [e]
  have inn := keys_in (f := rowF U) (L := List.range wd) (start := (0 : Int)) (S := numsTo n) (mem_nums.mpr ⟨Int.le_refl _, by omega⟩) (fun a ha c hc => mem_nums.mpr (rowF_in ok (mem_nums.mp ha) (List.mem_range.mp hc))) N
  have rl := exAll_rows (f := rowF U) (L := List.range wd) (start := (0 : Int)) N
  rw [d.len, Nat.min_self] at rl
  rw [ew, eV]
  refine ⟨ew, exAll_nd N, by rw [rl, d.len], by rw [d.len]; omega, fun i hi => ?_⟩
  have hiN : i < N := by rw [d.len] at hi; exact hi
  have hv : i < (exAll (rowF U) (List.range wd) 0 N).2.length := by omega
  obtain ⟨key, k1, k2, k3⟩ := exAll_row N i _ (List.getElem?_eq_getElem hv)
  have ek : (exAll (rowF U) (List.range wd) 0 N).1[i] = key := by
    rw [List.getElem?_eq_getElem hi] at k1
    exact Option.some.inj k1
  have hb := mem_nums.mp (inn key (ek ▸ List.getElem_mem hi))
  have hr : key.toNat < U.length := by omega
  have hw := (ok.row _ (List.getElem_mem hr)).1
  refine ⟨key.toNat, hr, hv, by rw [ek]; omega, hw, by rw [k2, List.length_map, List.length_range], fun k hk hk2 => ?_⟩
  have kin := k3 k (List.mem_range.mpr (by omega))
  have rw_ : rowF U key k = U[key.toNat][k] := by
    unfold rowF
    rw [show U.getD key.toNat [] = U[key.toNat] by rw [List.getD_eq_getElem?_getD, List.getElem?_eq_getElem hr] <;> rfl, List.getD_eq_getElem?_getD, List.getElem?_eq_getElem hk]
    rfl
  refine ⟨_, List.idxOf_lt_length_of_mem kin, ?_, ?_⟩
  · rw [List.getElem_idxOf, rw_]
  · simp only [k2, List.getElem_map, List.getElem_range]
def spTrimG (K : Frag) : Sp := fun vs H Q _ => ∃ (t : Addr) (tb : List (List Int)) (wd : Nat) (n : Int), vs = [.ref t, .int 0] ∧ TTab K H t tb ∧ TabOk tb wd n ∧ 1 ≤ n ∧ n ≤ 1000 ∧ wd ≤ 1000 ∧
  ∀ p u v H', H p = none → Same H H' → H' p = some (.tup [.ref u, .ref v]) → H' u = some (.lst ((wyA tb 0 tb.length).map V.int)) → RowsAt H' v (leanT tb wd) → Q (.ref p) H'
section
variable {P : Program} {w : World} {K : PySem.W.Frag} {mg : Str → Option Value} {base : Heap}
theorem ok_trimG {f fW : Addr} {fd dW : FuncData} (F : Fun K "trimmed" "trimmed" sTrim f fd) (T : TN mg) (en : mg "enumerate" = none) (AW : Fn K mg "ways" sWays ["table", "start"] fW dW) (GW : FnOk P w K mg base CX0 1 fW dW ["table", "start"] (spWays K)) : FnOk P w K mg base CX0 2 f fd ["table", "start"] (spTrimG K) := by
  refine F.ok scTr (fun vs H Q E h => ?_) (fun cdv A outer s H vs Q E hr h => ?_)
  · obtain ⟨t, tb, wd, n, rfl, _⟩ := h
    rfl
  · obtain ⟨t, tb, wd, n, rfl, hT, ok, h1n, hn, hw, q⟩ := h
    have hub := hu_of hr
    refine ⟨_, pss_cons (ps_set (i := 2) scTr.nd rfl (Or.inl rfl) (pe_callTy (call_listD rfl) (by rfl) T.list (by decide +kernel) (pa_cons (pe_call GW hr rfl AW.g AW.F.kp AW.b .nil pass0 (pa_cons (pv 0) (pa_cons (pv 1) pa_nil))) pa_nil)))
      (pss_cons (ps_set (i := 3) scTr.nd rfl (Or.inr rfl) (pe_dc (own := [("at", 5), ("row", 4)]) (g := gTup K 2 (gCons (gName 5) (gCons (gName 4) gNil))) (tt := tYes) (tk := tVar 4) (tv := tVar 5) rfl scTr.nd (pi_enum rfl en (pa_cons (pv 2) pa_nil))
        (blkOk_by (own := [("at", 5), ("row", 4)]) (N := NTr) (sc := defScope sTrim) (by decide +kernel)) (fun _ _ _ _ _ => pg_tup (by rfl) (pgs_cons (pg_name (i := 5) scTr.nd rfl (Or.inl rfl)) (pgs_cons (pg_name (i := 4) scTr.nd rfl (Or.inl rfl)) pgs_nil))) (fun _ _ _ _ _ => pts_nil)
        (fun _ _ _ _ _ => pv 4) (fun _ _ _ _ _ => pv 5)))
      (pss_one (ps_ret (pe_tup (pa_cons (pv 2) (pa_cons (pe_callTy call_tuple_of (by rfl) T.tuple (by decide +kernel) (pa_cons (pe_lc (own := [("row", 4)]) (g := gName 4) (tt := tYes)
        (te := tCB (fun xs H Q => ∃ p ys, xs = [V.ref p] ∧ ((SqL K H p ys ∧ ∀ l, H l = none → Q (V.ref l) (upd H l (.tup ys))) ∨ (SqT K H p ys ∧ Q (V.ref p) H))) (tCons (tLc (iTup K (tOp (rIxT K) (tVar 0) (tVar 4))) (gName 6) tYes (tDGet (tVar 3) (tVar 6)) [6]) tNil)) rfl scTr.nd (pi_list (pv 2))
        (blkOk_by (own := [("row", 4)]) (N := NTr) (sc := defScope sTrim) (by decide +kernel)) (fun _ _ _ _ _ => pg_name (i := 4) scTr.nd rfl (Or.inl rfl)) (fun _ _ _ _ _ => pts_nil)
        (fun _ _ _ _ _ => pe_callTy call_tuple_of (by rfl) T.tuple (by decide +kernel) (pa_cons (pe_lc (own := [("after", 6)]) (g := gName 6) (tt := tYes) (te := tDGet (tVar 3) (tVar 6)) rfl scTr.nd (pi_tup (pe_ix ix_tup (pv 0) (pv 4) (fun _ _ => rfl)))
          (blkOk_by (own := [("after", 6)]) (N := NTr) (sc := scTI) (by decide +kernel)) (fun _ _ _ _ _ => pg_name (i := 6) scTr.nd rfl (Or.inl rfl)) (fun _ _ _ _ _ => pts_nil) (fun _ _ _ _ _ => pe_dget hub (pv 3) (pv 6) (fun _ _ => rfl))) pa_nil))) pa_nil)) pa_nil)))))), ?_⟩
    refine ⟨_, rfl, _, rfl, t, tb, wd, n, 0, rfl, hT, ok, hn, hw, Int.le_refl _, by omega, fun D kvs H1 nD s1 hd keys few => ?_⟩
    refine ⟨D, kvs, rfl, .inl hd, fun p hp => ?_⟩
    have O := ord_of ok h1n
    generalize wyA tb 0 tb.length = o at keys few O q
    generalize leanT tb wd = B at O q
    have e1 : (kvs.map fun kv => kV kv.1) = o.map V.int := by
      have : (kvs.map fun kv => kV kv.1) = (kvs.map (·.1)).map kV := by rw [List.map_map] <;> rfl
      rw [this, show kvs.map (·.1) = _ from keys, List.map_map] <;> rfl
    rw [e1]
    have s2 : Same H (upd H1 p (.lst (o.map V.int))) := s1.trans (same_upd hp)
    have hp2 : (upd H1 p (.lst (o.map V.int))) p = some (.lst (o.map V.int)) := upd_same
    clear hd hp keys e1
    generalize upd H1 p (.lst (o.map V.int)) = H2 at s2 hp2 ⊢
    have hl := ok.len
    have le := O.le
    have rl : (o.map V.int).length = o.length := by rw [List.length_map]
    have rat : ∀ (i : Nat) (hi : i < o.length), (o.map V.int)[i]? = some (.int o[i]) := fun i hi => by
      rw [List.getElem?_map, List.getElem?_eq_getElem hi] <;> rfl
    refine ⟨_, rfl, p, _, rfl, SqL.of hp2, fun D2 hD2 => ?_⟩
    refine dc_it walk_enum (fun i H3 => Same H2 H3 ∧ ∃ kvs : List (Key × V), H3 D2 = some (.dK kvs) ∧ kvs.length ≤ i ∧ ∀ (j : Nat) (hj : j < o.length), j < i → valV kvs (Sum.inl o[j] : Key) = some (.int ((j : Nat) : Int))) ⟨same_upd hD2, [], upd_same, Nat.le_refl _, fun j _ hj => absurd hj (Nat.not_lt_zero _)⟩ (fun i H3 _ ⟨s3, _⟩ => SqL.of (s3 _ _ hp2)) ?_ ?_
    · rintro i x H3 H4 hi ⟨s3, kvs, hd, hlk, hv⟩ ⟨T2, y, z, rfl, hT2, rfl, hy, hz⟩
      rw [rl] at hi
      obtain rfl : V.int ((i : Nat) : Int) = y := Option.some.inj hy
      obtain rfl : V.int o[i] = z := Option.some.inj ((rat i hi).symm.trans hz)
      have s4 : Same H3 (upd H3 T2 (.tup [.int (i : Nat), .int o[i]])) := same_upd hT2
      refine ⟨T2, _, rfl, SqT.of upd_same, rfl, _, _, rfl, _, _, rfl, rfl, rfl, _, rfl, _, rfl, kvs, Sum.inl o[i], rfl, s4 _ _ hd, by rw [sizeLine_eq]; omega, same_at (s3.trans s4) hD2, _, upd_same, ?_, fun j hjo hj => ?_⟩
      · have := length_putK kvs (Sum.inl o[i] : Key) (.int (i : Nat))
        omega
      · rw [valV_put]
        by_cases e : j = i
        · subst e
          rw [if_pos rfl]
        · rw [if_neg fun z => e ((List.getElem_inj O.nd).mp (Sum.inl.inj z))]
          exact hv j hjo (by omega)
    · rintro H3 ⟨s3, kvs3, hd3, _, hv3⟩
      rw [rl] at hv3
      refine ⟨_, rfl, _, rfl, p, rfl, ⟨_, SqL.of (s3 _ _ hp2)⟩, fun D4 hD4 => ?_⟩
      refine lc_it walk_list (fun i H5 => Same H3 H5 ∧ ∃ ts : List Addr, H5 D4 = some (.lst (ts.map V.ref)) ∧ Objs oTup H5 ts (B.take i) ∧ ts.length = i) ⟨same_upd hD4, [], upd_same, trivial, rfl⟩ (fun i H5 _ ⟨s5, _⟩ => SqL.of (s5 _ _ (s3 _ _ hp2))) ?_ ?_
      · rintro i x H5 H6 hi ⟨s5, ts, hd5, ho5, hts⟩ ⟨rfl, hx⟩
        rw [rl] at hi
        obtain rfl : V.int o[i] = x := Option.some.inj ((rat i hi).symm.trans hx)
        obtain ⟨r0, hr0, hv0, eo, wU, wV, same⟩ := O.row i hi
        rw [eo]
        have s25 := (s2.trans s3).trans s5
        obtain ⟨us, h1, h2⟩ := hT.same s25
        obtain ⟨a, e1, e2⟩ := h2.get hr0
        have at1 : atI (us.map V.ref) ((r0 : Nat) : Int) = some (.ref a) := atI_nat (by rw [List.getElem?_map, e1] <;> rfl)
        have erow : tb.getD r0 [] = tb[r0] := by rw [List.getD_eq_getElem?_getD, List.getElem?_eq_getElem hr0] <;> rfl
        rw [erow] at e2
        refine ⟨rfl, _, rfl, _, rfl, t, _, _, _, rfl, rfl, h1, at1, a, rfl, ⟨_, SqT.of e2⟩, fun D6 hD6 => ?_⟩
        refine lc_it walk_tup (fun k H7 => Same H6 H7 ∧ H7 D6 = some (.lst ((B[i].take k).map V.int))) ⟨same_upd hD6, upd_same⟩ (fun k H7 _ ⟨s7, _⟩ => SqT.of (s7 _ _ e2)) ?_ ?_
        · rintro k y H7 H8 hk ⟨s7, hd7⟩ ⟨rfl, hy⟩
          rw [List.length_map] at hk
          have hk2 : k < B[i].length := by omega
          have hy2 : y = .int tb[r0][k] := by
            rw [List.getElem?_map, List.getElem?_eq_getElem hk] at hy
            exact (Option.some.inj hy).symm
          subst hy2
          obtain ⟨j, hj, j1, j2⟩ := same k hk hk2
          have hval : valV kvs3 (Sum.inl tb[r0][k] : Key) = some (.int B[i][k]) := by
            rw [← j1, j2]
            exact hv3 j hj hj
          refine ⟨rfl, _, rfl, _, rfl, D2, _, rfl, hval ▸ DGet.k (k := (Sum.inl tb[r0][k] : Key)) (s7 _ _ (s5 _ _ hd3)), _, hd7, ?_, same_at s7 hD6, ?_⟩
          · rw [List.length_map, List.length_take, sizeLine_eq]
            omega
          · rw [upd_same, List.take_add_one, List.getElem?_eq_getElem hk2, List.map_append] <;> rfl
        · rintro H7 ⟨s7, hd7⟩
          rw [List.length_map, wU, ← wV, List.take_length] at hd7
          refine ⟨D6, _, rfl, .inl ⟨SqL.of hd7, fun r hr => ?_⟩⟩
          have s8 := same_upd (o := .tup (B[i].map V.int)) hr
          have s68 := s7.trans s8
          refine ⟨_, s68 _ _ hd5, by rw [List.length_map, hts, sizeLine_eq]; omega, same_at (s5.trans s68) hD4, ts ++ [r], ?_, ?_, ?_⟩
          · rw [upd_same, List.map_append] <;> rfl
          · have kt := tup_upd (o := .lst (ts.map V.ref ++ [.ref r])) (s68 _ _ hd5) (fun _ z => nomatch z)
            have hr1 : (upd H7 r (.tup (B[i].map V.int))) r = some (oTup B[i]) := upd_same
            rw [List.take_add_one, List.getElem?_eq_getElem hv0]
            exact objs_tup ((objs_tup ho5 (Same.tup' s68)).snoc hr1) kt
          · rw [List.length_append, hts] <;> rfl
      · rintro H5 ⟨s5, ts, hd5, ho5, hts⟩
        rw [rl, ← O.len, List.take_length] at ho5
        refine ⟨D4, _, rfl, .inl ⟨SqL.of hd5, fun v hv => ?_⟩⟩
        have s6 := same_upd (o := .tup (ts.map V.ref)) hv
        refine ⟨by show 2 ≤ sizeLine; decide, fun u hu => ?_⟩
        have s7 := same_upd (o := .tup [V.ref p, .ref v]) hu
        have s57 := s6.trans s7
        have sall := ((s2.trans s3).trans s5).trans s57
        refine q u _ v _ (((s2.trans s3).trans (s5.trans s6)).free hu) sall upd_same (((s3.trans s5).trans s57) _ _ hp2) ⟨ts, s7 _ _ upd_same, objs_tup ho5 (Same.tup' s57)⟩
end
end WK
set_option Elab.async false
set_option linter.all false
set_option maxRecDepth 100000
set_option maxHeartbeats 4000000
namespace RM
open PySem L2 PyProof.Rows K1 WK ND
section
variable {α β : Type} [DecidableEq α] [DecidableEq β]
/-- each once, in the order of the first ones -/
def dd (l : List α) : List α := l.foldl addG []
theorem foldG_mem {x : α} : ∀ {l o : List α}, x ∈ l.foldl addG o ↔ x ∈ o ∨ x ∈ l
  | [], o => by simp
  | a :: l, o => by
    rw [List.foldl_cons, foldG_mem]
    by_cases h : a ∈ o
    · rw [addG_in h]
      constructor
      · rintro (z | z)
        · exact .inl z
        · exact .inr (.tail _ z)
      · rintro (z | z)
        · exact .inl z
        · rcases List.mem_cons.mp z with rfl | z
          · exact .inl h
          · exact .inr z
    · rw [addG_out h, List.mem_append, List.mem_singleton, List.mem_cons, or_assoc]
theorem dd_mem {x : α} {l : List α} : x ∈ dd l ↔ x ∈ l := by
  unfold dd
  rw [foldG_mem]
  exact ⟨fun h => h.resolve_left List.not_mem_nil, .inr⟩
theorem foldG_nd : ∀ {l o : List α}, o.Nodup → (l.foldl addG o).Nodup
  | [], _, h => h
  | a :: l, o, h => by
    rw [List.foldl_cons]
    refine foldG_nd ?_
    by_cases e : a ∈ o
    · rw [addG_in e]
      exact h
    · rw [addG_out e]
      refine List.nodup_append.mpr ⟨h, List.nodup_cons.mpr ⟨List.not_mem_nil, List.nodup_nil⟩, fun x hx y hy z => ?_⟩
      rw [List.mem_singleton.mp hy] at z
      exact e (z ▸ hx)
theorem dd_nd (l : List α) : (dd l).Nodup := foldG_nd List.nodup_nil
theorem dd_self {l : List α} (h : l.Nodup) : dd l = l := addG_nodup (o := []) h
theorem dd_app (l m : List α) : dd (l ++ m) = m.foldl addG (dd l) := List.foldl_append
theorem dd_one (l : List α) (a : α) : dd (l ++ [a]) = addG (dd l) a := dd_app l [a]
/-- a map's once are those of the once -/
theorem dd_fold (φ : α → β) : ∀ (l o : List α), dd ((l.foldl addG o).map φ) = (l.map φ).foldl addG (dd (o.map φ))
  | [], _ => rfl
  | a :: l, o => by
    rw [List.foldl_cons, dd_fold φ l, List.map_cons, List.foldl_cons]
    congr 1
    by_cases h : a ∈ o
    · rw [addG_in h, addG_in (dd_mem.mpr (List.mem_map_of_mem h))]
    · rw [addG_out h, List.map_append, ← dd_one] <;> rfl
theorem dd_map (φ : α → β) (l : List α) : dd (l.map φ) = dd ((dd l).map φ) := (dd_fold φ l []).symm
theorem foldG_len : ∀ (l o : List α), (l.foldl addG o).length ≤ o.length + l.length
  | [], o => Nat.le_refl _
  | a :: l, o => by
    rw [List.foldl_cons]
    refine Nat.le_trans (foldG_len l _) ?_
    rw [List.length_cons]
    unfold addG
    split
    · omega
    · rw [List.length_append, List.length_singleton]
      omega
theorem dd_len (l : List α) : (dd l).length ≤ l.length := by
  have := foldG_len l []
  rw [List.length_nil] at this
  unfold dd
  omega
theorem foldG_full : ∀ {l o : List α}, o.Nodup → o.length + l.length ≤ (l.foldl addG o).length → (o ++ l).Nodup
  | [], o, h, _ => by rw [List.append_nil]; exact h
  | a :: l, o, h, k => by
    rw [List.foldl_cons, List.length_cons] at k
    by_cases e : a ∈ o
    · rw [addG_in e] at k
      have := foldG_len l o
      omega
    · rw [addG_out e] at k
      have nd : (o ++ [a]).Nodup := by
        refine List.nodup_append.mpr ⟨h, List.nodup_cons.mpr ⟨List.not_mem_nil, List.nodup_nil⟩, fun x hx y hy z => ?_⟩
        rw [List.mem_singleton.mp hy] at z
        exact e (z ▸ hx)
      have := foldG_full (l := l) nd (by rw [List.length_append, List.length_singleton]; omega)
      rw [List.append_assoc] at this
      exact this
theorem dd_full {l : List α} (h : l.length ≤ (dd l).length) : l.Nodup := by
  have := foldG_full (o := []) (l := l) List.nodup_nil (by rw [List.length_nil]; unfold dd at h; omega)
  exact this
/-- the numbers of the keys -/
def num (l : List α) : List Int := l.map fun a => (((dd l).idxOf a : Nat) : Int)
theorem num_len (l : List α) : (num l).length = l.length := List.length_map _
theorem idx_inj {l : List α} {a b : α} (ha : a ∈ l) (hb : b ∈ l) (e : l.idxOf a = l.idxOf b) : a = b := by
  rw [← List.getElem_idxOf (List.idxOf_lt_length_of_mem ha), ← List.getElem_idxOf (List.idxOf_lt_length_of_mem hb)]
  simp only [e]
theorem idx_rng {l : List α} (h : l.Nodup) : l.map (fun a => ((l.idxOf a : Nat) : Int)) = rngI l.length := by
  refine List.ext_getElem (by rw [List.length_map, List.length_map, List.length_range]) fun i h1 h2 => ?_
  rw [List.length_map] at h1
  rw [List.getElem_map, List.getElem_map, List.getElem_range, h.idxOf_getElem]
theorem rng_nd (n : Nat) : (rngI n).Nodup := by
  unfold rngI
  refine List.Pairwise.map _ ?_ List.nodup_range
  intro a b h e
  exact h (by omega)
theorem num_dd (l : List α) : dd (num l) = rngI (dd l).length := by
  unfold num
  rw [dd_map, idx_rng (dd_nd l), dd_self (rng_nd _)]
/-- numbered in the order of the first ones -/
def Fo (g : List Int) : Prop := dd g = rngI (dd g).length
theorem num_fo (l : List α) : Fo (num l) := by
  unfold Fo
  rw [num_dd, List.length_map, List.length_range]
end
theorem rng_mem {n : Nat} {a : Int} : a ∈ rngI n ↔ 0 ≤ a ∧ a < n := by
  unfold rngI
  rw [List.mem_map]
  constructor
  · rintro ⟨i, hi, rfl⟩
    have := List.mem_range.mp hi
    omega
  · rintro ⟨h1, h2⟩
    exact ⟨a.toNat, List.mem_range.mpr (by omega), by omega⟩
theorem rng_len (n : Nat) : (rngI n).length = n := by unfold rngI; rw [List.length_map, List.length_range]
theorem rng_idx {n : Nat} {a : Int} (h : 0 ≤ a ∧ a < n) : (rngI n).idxOf a = a.toNat := by
  have hl : a.toNat < (rngI n).length := by rw [rng_len]; omega
  have : (rngI n)[a.toNat] = a := by unfold rngI; rw [List.getElem_map, List.getElem_range]; omega
  have h2 := (rng_nd n).idxOf_getElem a.toNat hl
  rw [this] at h2
  exact h2
theorem Fo.mem {g : List Int} (f : Fo g) {a : Int} : a ∈ g ↔ 0 ≤ a ∧ a < (dd g).length := by
  rw [← dd_mem, ← rng_mem, ← f]
/-- what stands at a -/
def gi (g : List Int) (a : Int) : Int := g.getD a.toNat 0
theorem gi_at {g : List Int} {a : Int} (h : 0 ≤ a ∧ a < g.length) : ∃ hl : a.toNat < g.length, gi g a = g[a.toNat] := by
  refine ⟨by omega, ?_⟩
  unfold gi
  rw [List.getD_eq_getElem?_getD, List.getElem?_eq_getElem (by omega)] <;> rfl
theorem gi_mem {g : List Int} {a : Int} (h : 0 ≤ a ∧ a < g.length) : gi g a ∈ g := by
  obtain ⟨hl, e⟩ := gi_at h
  rw [e]
  exact List.getElem_mem _
theorem gi_idx {g : List Int} {a : Int} (h : a ∈ g) : gi g ((g.idxOf a : Nat) : Int) = a := by
  obtain ⟨hl, e⟩ := gi_at (g := g) (a := ((g.idxOf a : Nat) : Int)) ⟨by omega, by have := List.idxOf_lt_length_of_mem h; omega⟩
  rw [e]
  exact List.getElem_idxOf _
/-- one step: what each is in, and where its letters lead -/
def prs (B : List (List Int)) (g : List Int) : List Pr := (List.range B.length).map fun i => ⟨g.getD i 0, (B.getD i []).map (gi g)⟩
def stG (B : List (List Int)) (g : List Int) : List Int := num (prs B g)
theorem prs_len (B : List (List Int)) (g : List Int) : (prs B g).length = B.length := by unfold prs; rw [List.length_map, List.length_range]
theorem stG_len (B : List (List Int)) (g : List Int) : (stG B g).length = B.length := by unfold stG; rw [num_len, prs_len]
theorem prs_fst {B : List (List Int)} {g : List Int} (h : g.length = B.length) : (prs B g).map Pr.fst = g := by
  unfold prs
  refine List.ext_getElem (by rw [List.length_map, List.length_map, List.length_range, h]) fun i h1 h2 => ?_
  rw [List.getElem_map, List.getElem_map, List.getElem_range]
  show g.getD i 0 = _
  rw [List.getD_eq_getElem?_getD, List.getElem?_eq_getElem h2] <;> rfl
/-- a step that adds none changes none -/
theorem stG_fix {B : List (List Int)} {g : List Int} (h : g.length = B.length) (f : Fo g) (le : (dd (stG B g)).length ≤ (dd g).length) : stG B g = g := by
  have e0 : dd g = dd ((dd (prs B g)).map Pr.fst) := by rw [← dd_map, prs_fst h]
  have e1 : (dd (stG B g)).length = (dd (prs B g)).length := by
    unfold stG
    rw [num_dd, rng_len]
  have nd : ((dd (prs B g)).map Pr.fst).Nodup := by
    refine dd_full ?_
    rw [← e0, List.length_map, ← e1]
    exact le
  have e2 : dd g = (dd (prs B g)).map Pr.fst := by rw [e0, dd_self nd]
  refine List.ext_getElem (by rw [stG_len, h]) fun i h1 h2 => ?_
  have hp : i < (prs B g).length := by rw [prs_len, ← h]; exact h2
  have ef : (prs B g)[i].fst = g[i] := by
    have : ((prs B g).map Pr.fst)[i]'(by rw [List.length_map]; exact hp) = g[i] := by
      congr 1
      exact prs_fst h
    rw [List.getElem_map] at this
    exact this
  have m : (prs B g)[i] ∈ dd (prs B g) := dd_mem.mpr (List.getElem_mem hp)
  have hk := List.idxOf_lt_length_of_mem m
  show (num (prs B g))[i]'(by rw [num_len]; exact hp) = g[i]
  unfold num
  rw [List.getElem_map]
  have e3 : ((dd (prs B g)).map Pr.fst)[(dd (prs B g)).idxOf (prs B g)[i]]'(by rw [List.length_map]; exact hk) = g[i] := by
    rw [List.getElem_map, List.getElem_idxOf hk, ef]
  have e4 : (dd g)[(dd (prs B g)).idxOf (prs B g)[i]]'(by rw [e2, List.length_map]; exact hk) = g[i] := by
    rw [← e3]
    congr 1
  have e5 : (rngI (dd g).length)[(dd (prs B g)).idxOf (prs B g)[i]]'(by rw [rng_len, e2, List.length_map]; exact hk) = g[i] := by
    rw [← e4]
    congr 1
    exact f.symm
  rw [← e5]
  unfold rngI
  rw [List.getElem_map, List.getElem_range]
/-- step by step -/
def itG (B : List (List Int)) (g : List Int) : Nat → List Int
  | 0 => g
  | j + 1 => stG B (itG B g j)
theorem itG_len {B : List (List Int)} {g : List Int} (h : g.length = B.length) : ∀ j, (itG B g j).length = B.length
  | 0 => h
  | j + 1 => stG_len _ _
theorem itG_fo {B : List (List Int)} {g : List Int} (h : Fo g) : ∀ j, Fo (itG B g j)
  | 0 => h
  | j + 1 => num_fo _
theorem num_at {α : Type} [DecidableEq α] {l : List α} {i : Nat} (hi : i < l.length) : gi (num l) i = (((dd l).idxOf l[i] : Nat) : Int) := by
  unfold gi num
  rw [List.getD_eq_getElem?_getD, List.getElem?_map, Int.toNat_natCast, List.getElem?_eq_getElem hi]
  rfl
theorem num_eq {α : Type} [DecidableEq α] {l : List α} {i k : Nat} (hi : i < l.length) (hk : k < l.length) : gi (num l) i = gi (num l) k ↔ l[i] = l[k] := by
  rw [num_at hi, num_at hk]
  constructor
  · intro e
    exact idx_inj (dd_mem.mpr (List.getElem_mem hi)) (dd_mem.mpr (List.getElem_mem hk)) (by omega)
  · intro e
    rw [e]
theorem prs_at {B : List (List Int)} {g : List Int} {i : Nat} (hi : i < B.length) : (prs B g)[i]'(by rw [prs_len]; exact hi) = ⟨gi g i, (B[i]).map (gi g)⟩ := by
  have e : (prs B g)[i]? = some ⟨gi g i, (B[i]).map (gi g)⟩ := by
    unfold prs
    rw [List.getElem?_map, List.getElem?_range hi]
    show some (Pr.mk (g.getD i 0) ((B.getD i []).map (gi g))) = _
    rw [List.getD_eq_getElem?_getD (l := B), List.getElem?_eq_getElem hi]
    rfl
  rw [List.getElem?_eq_getElem (by rw [prs_len]; exact hi)] at e
  exact Option.some.inj e
theorem map_row {r r' : List Int} {φ ψ : Int → Int} (h : r.length = r'.length) (k : ∀ c, c < r.length → φ (r.getD c 0) = ψ (r'.getD c 0)) : r.map φ = r'.map ψ := by
  refine List.ext_getElem (by rw [List.length_map, List.length_map, h]) fun i h1 h2 => ?_
  rw [List.length_map] at h1 h2
  have := k i h1
  rw [List.getD_eq_getElem?_getD, List.getElem?_eq_getElem h1, List.getD_eq_getElem?_getD, List.getElem?_eq_getElem h2] at this
  rw [List.getElem_map, List.getElem_map]
  exact this
theorem row_get {r r' : List Int} {φ : Int → Int} {c : Nat} (h : c < r.length) (h' : c < r'.length) (e : r.map φ = r'.map φ) : φ (r.getD c 0) = φ (r'.getD c 0) := by
  rw [List.getD_eq_getElem?_getD, List.getElem?_eq_getElem h, List.getD_eq_getElem?_getD, List.getElem?_eq_getElem h']
  have : (r.map φ)[c]'(by rw [List.length_map]; exact h) = (r'.map φ)[c]'(by rw [List.length_map]; exact h') := by congr 1
  rw [List.getElem_map, List.getElem_map] at this
  exact this
/-- the least many groups: what refining ends with -/
structure Ref (B : List (List Int)) (wd : Nat) (ms : List Bool) (g : List Int) : Prop where
  len : g.length = B.length
  fo : Fo g
  fix : stG B g = g
  by_ : ∃ j, g = itG B (num ms) j
section
variable {B : List (List Int)} {wd : Nat} {n : Int} {ms : List Bool} {g : List Int}
theorem it_mark (h : ms.length = B.length) : ∀ (j : Nat) {i k : Nat} (hi : i < B.length) (hk : k < B.length), gi (itG B (num ms) j) i = gi (itG B (num ms) j) k → ms[i] = ms[k]
  | 0, i, k, hi, hk, e => (num_eq (l := ms) (h ▸ hi) (h ▸ hk)).mp e
  | j + 1, i, k, hi, hk, e => by
    have e := (num_eq (l := prs B (itG B (num ms) j)) (by rw [prs_len]; exact hi) (by rw [prs_len]; exact hk)).mp e
    rw [prs_at hi, prs_at hk] at e
    injection e with e1 _
    exact it_mark h j hi hk e1
theorem Ref.mark (r : Ref B wd ms g) (h : ms.length = B.length) {i k : Nat} (hi : i < B.length) (hk : k < B.length) (e : gi g i = gi g k) : ms[i] = ms[k] := by
  obtain ⟨j, rfl⟩ := r.by_
  exact it_mark h j hi hk e
theorem tab_row (ok : TabOk B wd n) {i : Nat} (hi : i < B.length) {c : Nat} (hc : c < wd) : ∃ h : c < B[i].length, rowF B (i : Int) c = B[i].getD c 0 := by
  refine ⟨by rw [(ok.row _ (List.getElem_mem hi)).1]; exact hc, ?_⟩
  unfold rowF
  rw [List.getD_eq_getElem?_getD (l := B), Int.toNat_natCast, List.getElem?_eq_getElem hi]
  rfl
theorem it_least (ok : TabOk B wd n) (h : ms.length = B.length) {q : Int → Int} (q1 : ∀ (i k : Nat) (hi : i < B.length) (hk : k < B.length), q i = q k → ms[i] = ms[k])
    (q2 : ∀ (i k c : Nat), i < B.length → k < B.length → c < wd → q i = q k → q (rowF B i c) = q (rowF B k c)) : ∀ (j : Nat) {i k : Nat} (hi : i < B.length) (hk : k < B.length), q i = q k → gi (itG B (num ms) j) i = gi (itG B (num ms) j) k
  | 0, i, k, hi, hk, e => (num_eq (l := ms) (h ▸ hi) (h ▸ hk)).mpr (q1 i k hi hk e)
  | j + 1, i, k, hi, hk, e => by
    refine (num_eq (l := prs B (itG B (num ms) j)) (by rw [prs_len]; exact hi) (by rw [prs_len]; exact hk)).mpr ?_
    rw [prs_at hi, prs_at hk, it_least ok h q1 q2 j hi hk e]
    have wi := (ok.row _ (List.getElem_mem hi)).1
    have wk := (ok.row _ (List.getElem_mem hk)).1
    congr 1
    refine map_row (by rw [wi, wk]) fun c hc => ?_
    rw [wi] at hc
    obtain ⟨c1, r1⟩ := tab_row ok hi hc
    obtain ⟨c2, r2⟩ := tab_row ok hk hc
    have z := q2 i k c hi hk hc e
    have hl := ok.len
    have b1 := rowF_in ok (k := (i : Int)) ⟨by omega, by omega⟩ hc
    have b2 := rowF_in ok (k := (k : Int)) ⟨by omega, by omega⟩ hc
    have n1 : ((rowF B i c).toNat : Int) = rowF B i c := by omega
    have n2 : ((rowF B k c).toNat : Int) = rowF B k c := by omega
    rw [← n1, ← n2] at z
    have := it_least ok h q1 q2 j (i := (rowF B i c).toNat) (k := (rowF B k c).toNat) (by omega) (by omega) z
    rw [n1, n2, r1, r2] at this
    exact this
theorem Ref.least (r : Ref B wd ms g) (ok : TabOk B wd n) (h : ms.length = B.length) {q : Int → Int} (q1 : ∀ (i k : Nat) (hi : i < B.length) (hk : k < B.length), q i = q k → ms[i] = ms[k])
    (q2 : ∀ (i k c : Nat), i < B.length → k < B.length → c < wd → q i = q k → q (rowF B i c) = q (rowF B k c)) {i k : Nat} (hi : i < B.length) (hk : k < B.length) (e : q i = q k) : gi g i = gi g k := by
  obtain ⟨j, rfl⟩ := r.by_
  exact it_least ok h q1 q2 j hi hk e
/-- alike ones lead to alike ones -/
theorem Ref.cong (r : Ref B wd ms g) (ok : TabOk B wd n) {i k : Nat} (hi : i < B.length) (hk : k < B.length) (e : gi g i = gi g k) : B[i].map (gi g) = B[k].map (gi g) := by
  rw [← r.fix] at e
  have e := (num_eq (l := prs B g) (by rw [prs_len]; exact hi) (by rw [prs_len]; exact hk)).mp e
  rw [prs_at hi, prs_at hk] at e
  injection e
theorem Ref.congF (r : Ref B wd ms g) (ok : TabOk B wd n) {i k : Nat} (hi : i < B.length) (hk : k < B.length) (e : gi g i = gi g k) {c : Nat} (hc : c < wd) : gi g (rowF B i c) = gi g (rowF B k c) := by
  obtain ⟨c1, r1⟩ := tab_row ok hi hc
  obtain ⟨c2, r2⟩ := tab_row ok hk hc
  rw [r1, r2]
  exact row_get c1 c2 (r.cong ok hi hk e)
end
end RM
set_option Elab.async false
set_option linter.all false
set_option maxRecDepth 100000
set_option maxHeartbeats 4000000
namespace RM
open PySem L2 PyProof.Rows K1 WK ND
/-- how many groups -/
def cls (g : List Int) : Nat := (dd g).length
def kept (B : List (List Int)) (g : List Int) : List (List Int) := (rngI (cls g)).map fun a => (B.getD (g.idxOf a) []).map (gi g)
def endsK (ms : List Bool) (g : List Int) : List Int := (rngI (cls g)).filter fun a => ms.getD (g.idxOf a) false
section
variable {B : List (List Int)} {wd : Nat} {n : Int} {ms : List Bool} {g : List Int}
theorem fo_zero (f : Fo g) (h : 0 < g.length) : gi g 0 = 0 ∧ 0 < cls g := by
  obtain ⟨a, t, rfl⟩ : ∃ a t, g = a :: t := by
    cases g with
    | nil => exact absurd h (Nat.lt_irrefl 0)
    | cons a t => exact ⟨a, t, rfl⟩
  have e : dd (a :: t) = t.foldl addG [a] := rfl
  have pos : 0 < cls (a :: t) := by
    unfold cls
    have : a ∈ dd (a :: t) := dd_mem.mpr (.head _)
    exact List.length_pos_of_mem this
  refine ⟨?_, pos⟩
  have pre : ∀ (l o : List Int), o <+: l.foldl addG o := by
    intro l
    induction l with
    | nil => exact fun o => List.prefix_refl _
    | cons b l ih =>
      intro o
      refine List.IsPrefix.trans ?_ (ih _)
      unfold addG
      split
      · exact List.prefix_refl _
      · exact List.prefix_append _ _
  obtain ⟨r, hr⟩ := pre t [a]
  have h0 : (dd (a :: t))[0]? = some a := by rw [e, ← hr] <;> rfl
  have f2 : dd (a :: t) = rngI (cls (a :: t)) := f
  rw [f2, rng_at, if_pos pos] at h0
  exact (Option.some.inj h0).symm
theorem kept_len : (kept B g).length = cls g := by unfold kept; rw [List.length_map, rng_len]
theorem idx_in (f : Fo g) {a : Int} (h : 0 ≤ a ∧ a < cls g) : g.idxOf a < g.length ∧ gi g (g.idxOf a : Nat) = a := by
  have m : a ∈ g := f.mem.mpr h
  exact ⟨List.idxOf_lt_length_of_mem m, gi_idx m⟩
theorem gi_in (f : Fo g) {i : Nat} (h : i < g.length) : 0 ≤ gi g i ∧ gi g i < cls g := f.mem.mp (gi_mem ⟨by omega, by omega⟩)
theorem kept_at (r : Ref B wd ms g) {a : Nat} (h : a < cls g) : ∃ hi : g.idxOf (a : Int) < B.length, (kept B g)[a]? = some ((B[g.idxOf (a : Int)]).map (gi g)) := by
  have hi := (idx_in r.fo (a := (a : Int)) ⟨by omega, by omega⟩).1
  rw [r.len] at hi
  refine ⟨hi, ?_⟩
  unfold kept
  rw [List.getElem?_map, rng_at, if_pos h]
  show some ((B.getD (g.idxOf (a : Int)) []).map (gi g)) = _
  rw [List.getD_eq_getElem?_getD (l := B), List.getElem?_eq_getElem hi]
  rfl
theorem kept_tab (r : Ref B wd ms g) (ok : TabOk B wd n) : TabOk (kept B g) wd (cls g : Nat) := by
  refine ⟨by rw [kept_len], fun x hx => ?_⟩
  obtain ⟨a, ha⟩ := List.mem_iff_getElem?.mp hx
  have hl : a < cls g := by rw [← kept_len (B := B)]; exact (List.getElem?_eq_some_iff.mp ha).1
  obtain ⟨hi, e⟩ := kept_at r hl
  rw [e] at ha
  obtain rfl := Option.some.inj ha
  obtain ⟨w, b⟩ := ok.row _ (List.getElem_mem hi)
  refine ⟨by rw [List.length_map, w], fun y hy => ?_⟩
  obtain ⟨z, hz, rfl⟩ := List.mem_map.mp hy
  have bz := b z hz
  have hl := ok.len
  have := gi_in r.fo (i := z.toNat) (by rw [r.len]; omega)
  rw [show ((z.toNat : Nat) : Int) = z by omega] at this
  exact this
/-- kept rows lead as their places do -/
theorem kept_step (r : Ref B wd ms g) (ok : TabOk B wd n) {i c : Nat} (hi : i < B.length) (hc : c < wd) : rowF (kept B g) (gi g i) c = gi g (rowF B i c) := by
  have b := gi_in r.fo (i := i) (by rw [r.len]; exact hi)
  obtain ⟨a, ea⟩ : ∃ a : Nat, gi g i = (a : Int) := ⟨(gi g i).toNat, by omega⟩
  obtain ⟨i1, i2⟩ := idx_in r.fo b
  rw [ea] at b i1 i2 ⊢
  obtain ⟨hf, e⟩ := kept_at r (a := a) (by omega)
  have ec := r.congF ok (i := g.idxOf (a : Int)) (k := i) hf hi (i2.trans ea.symm) hc
  rw [← ec]
  obtain ⟨c1, r1⟩ := tab_row ok hf hc
  rw [r1]
  unfold rowF
  rw [List.getD_eq_getElem?_getD (l := kept B g), Int.toNat_natCast, e]
  show ((B[g.idxOf (a : Int)]).map (gi g)).getD c 0 = _
  rw [List.getD_eq_getElem?_getD, List.getElem?_map, List.getElem?_eq_getElem c1, List.getD_eq_getElem?_getD, List.getElem?_eq_getElem c1]
  rfl
theorem led_in {L u : W} (ok : TabOk B L.length n) : ∀ {u : W}, (∀ c ∈ u, c ∈ L) → ∀ {k : Int}, 0 ≤ k ∧ k < n → 0 ≤ ledL L B u k ∧ ledL L B u k < n
  | [], _, _, h => h
  | c :: u, hu, k, h => led_in (u := u) ok (fun x hx => hu x (.tail _ hx)) (rowF_in ok h (List.idxOf_lt_length_of_mem (hu c (.head _))))
theorem led_move {L : W} {U Z : List (List Int)} {m : Int} (ok : TabOk U L.length m) (φ : Int → Int) (hs : ∀ (i : Int) (c : Nat), 0 ≤ i ∧ i < m → c < L.length → rowF Z (φ i) c = φ (rowF U i c)) : ∀ {u : W}, (∀ c ∈ u, c ∈ L) → ∀ {k : Int}, 0 ≤ k ∧ k < m → ledL L Z u (φ k) = φ (ledL L U u k)
  | [], _, _, _ => rfl
  | c :: u, hu, k, h => by
    have hc := List.idxOf_lt_length_of_mem (hu c (.head _))
    show ledL L Z u (rowF Z (φ k) (L.idxOf c)) = φ (ledL L U u (rowF U k (L.idxOf c)))
    rw [hs k _ h hc]
    exact led_move ok φ hs (fun x hx => hu x (.tail _ hx)) (rowF_in ok h hc)
theorem ends_mem (r : Ref B wd ms g) (hm : ms.length = B.length) {i : Nat} (hi : i < B.length) : gi g i ∈ endsK ms g ↔ ms[i] = true := by
  have b := gi_in r.fo (i := i) (by rw [r.len]; exact hi)
  obtain ⟨i1, i2⟩ := idx_in r.fo b
  have i3 : g.idxOf (gi g i) < B.length := by rw [← r.len]; exact i1
  have e := r.mark hm (i := g.idxOf (gi g i)) (k := i) i3 hi i2
  unfold endsK
  rw [List.mem_filter, rng_mem, ← e, List.getD_eq_getElem?_getD, List.getElem?_eq_getElem (by rw [hm]; exact i3)]
  exact ⟨fun h => h.2, fun h => ⟨b, h⟩⟩
end
/-- what is kept of a table with some ends -/
def Least (T : List (List Int)) (wd : Nat) (ends : List Int) (kp : List (List Int)) (en : List Int) : Prop :=
  ∃ g, Ref (leanT T wd) wd ((wyA T 0 T.length).map fun a => decide (a ∈ ends)) g ∧ kp = kept (leanT T wd) g ∧ en = endsK ((wyA T 0 T.length).map fun a => decide (a ∈ ends)) g
section
variable {T : List (List Int)} {wd : Nat} {n : Int} {ends : List Int} {kp : List (List Int)} {en : List Int}
theorem lean_tab (ok : TabOk T wd n) (h1 : 1 ≤ n) : TabOk (leanT T wd) wd ((leanT T wd).length : Nat) ∧ 1 ≤ (leanT T wd).length ∧ (leanT T wd).length = (wyA T 0 T.length).length := by
  obtain ⟨N, d, le⟩ := done_row ok h1
  have hl := ok.len
  have e := exAll_len d (show N ≤ T.length by omega)
  have eV : leanT T wd = (exAll (rowF T) (List.range wd) 0 N).2 := by
    unfold leanT
    rw [e]
  have rl := exAll_rows (f := rowF T) (L := List.range wd) (start := (0 : Int)) N
  rw [d.len, Nat.min_self] at rl
  have t := d.tab
  rw [List.length_range] at t
  refine ⟨?_, by rw [eV, rl]; exact d.pos, (ord_of ok h1).len⟩
  rw [eV, rl]
  exact t
theorem lean_step (ok : TabOk T wd n) (h1 : 1 ≤ n) {i : Int} {c : Nat} (hi : 0 ≤ i ∧ i < ((leanT T wd).length : Nat)) (hc : c < wd) : rowF T (gi (wyA T 0 T.length) i) c = gi (wyA T 0 T.length) (rowF (leanT T wd) i c) := by
  have o := ord_of ok h1
  have hi2 : i.toNat < (wyA T 0 T.length).length := by rw [← o.len]; omega
  obtain ⟨r, hr, hv, e1, w1, w2, st⟩ := o.row i.toNat hi2
  obtain ⟨j, hj, e2, e3⟩ := st c (by omega) (by omega)
  have tk := (lean_tab ok h1).1
  obtain ⟨c1, r1⟩ := tab_row tk hv hc
  obtain ⟨c2, r2⟩ := tab_row ok hr hc
  have ei : ((i.toNat : Nat) : Int) = i := by omega
  rw [ei] at r1
  obtain ⟨_, g1⟩ := gi_at (g := wyA T 0 T.length) (a := i) ⟨hi.1, by omega⟩
  rw [g1, e1, r1, r2]
  have z1 : (leanT T wd)[i.toNat].getD c 0 = (j : Int) := by rw [List.getD_eq_getElem?_getD, List.getElem?_eq_getElem (by omega)]; exact e3
  have z2 : T[r].getD c 0 = (wyA T 0 T.length)[j] := by rw [List.getD_eq_getElem?_getD, List.getElem?_eq_getElem (by omega), e2]; rfl
  rw [z1, z2]
  obtain ⟨_, g2⟩ := gi_at (g := wyA T 0 T.length) (a := (j : Int)) ⟨by omega, by omega⟩
  rw [g2]
  rfl
theorem way_zero {T : List (List Int)} : ∀ j, gi (wyA T 0 j) 0 = 0 := by
  have pre : ∀ j, [(0 : Int)] <+: wyA T 0 j := by
    intro j
    induction j with
    | zero => exact List.prefix_refl _
    | succ j ih =>
      refine ih.trans ?_
      show _ <+: (match (wyA T 0 j)[j]? with | some r => _ | none => _)
      split
      · exact addF_grows _ _
      · exact List.prefix_refl _
  intro j
  obtain ⟨t, ht⟩ := pre j
  rw [← ht]
  rfl
theorem Least.tab (l : Least T wd ends kp en) (ok : TabOk T wd n) (h1 : 1 ≤ n) : TabOk kp wd (kp.length : Nat) ∧ 1 ≤ kp.length ∧ kp.length ≤ (leanT T wd).length ∧ kp.length ≤ T.length := by
  obtain ⟨g, r, rfl, rfl⟩ := l
  obtain ⟨tk, t1, t2⟩ := lean_tab ok h1
  have k := kept_tab r tk
  have le : cls g ≤ (leanT T wd).length := by
    rw [← r.len]
    exact dd_len g
  have o := ord_of ok h1
  have le2 := o.le
  rw [kept_len]
  exact ⟨k, (fo_zero r.fo (by rw [r.len]; omega)).2, le, by omega⟩
end
section
variable {B : List (List Int)} {wd : Nat} {n : Int} {ms : List Bool} {g : List Int}
theorem way_done {T : List (List Int)} : ∀ (j f r : Nat), f < j → (wyA T 0 j)[f]? = some (r : Int) → ∀ x ∈ T.getD r [], x ∈ wyA T 0 j
  | 0, f, r, h, _, _, _ => absurd h (Nat.not_lt_zero _)
  | j + 1, f, r, h, e, x, hx => by
    have grow : wyA T 0 j <+: wyA T 0 (j + 1) := by
      show _ <+: (match (wyA T 0 j)[j]? with | some r => _ | none => _)
      split
      · exact addF_grows _ _
      · exact List.prefix_refl _
    by_cases hf : f < (wyA T 0 j).length
    · have e2 : (wyA T 0 j)[f]? = some (r : Int) := by
        obtain ⟨t, ht⟩ := grow
        rw [← ht, List.getElem?_append_left hf] at e
        exact e
      by_cases fj : f < j
      · exact grow.subset (way_done j f r fj e2 x hx)
      · have : f = j := by omega
        subst this
        rw [wyA_at e2]
        rw [Int.toNat_natCast]
        exact (foldG_mem (α := Int)).mpr (.inr hx)
    · by_cases hj : (wyA T 0 j).length ≤ j
      · have s := wyA_stop hj 1
        rw [s, List.getElem?_eq_none (by omega)] at e
        exact nomatch e
      · omega
end
end RM
set_option Elab.async false
set_option linter.all false
set_option maxRecDepth 100000
set_option maxHeartbeats 4000000
namespace RM
open PySem L2 PyProof.Rows K1 WK ND
theorem foldG_pre {α : Type} [DecidableEq α] : ∀ (l o : List α), o <+: l.foldl addG o
  | [], _ => List.prefix_refl _
  | a :: l, o => by
    refine List.IsPrefix.trans ?_ (foldG_pre l (addG o a))
    unfold addG
    split
    · exact List.prefix_refl _
    · exact List.prefix_append _ _
theorem foldG_all {α : Type} [DecidableEq α] : ∀ {l o : List α}, (∀ x ∈ l, x ∈ o) → l.foldl addG o = o
  | [], _, _ => rfl
  | a :: l, o, h => by
    rw [List.foldl_cons, addG_in (h a (.head _))]
    exact foldG_all fun x hx => h x (.tail _ hx)
/-- the rows of an explored table come in order -/
structure Way (B : List (List Int)) : Prop where
  way : ∀ j ≤ B.length, ∃ c, wyA B 0 j = rngI c ∧ (j < B.length → j < c) ∧ c ≤ B.length
  all : wyA B 0 B.length = rngI B.length
theorem way_of {α : Type} [DecidableEq α] {f : α → Nat → α} {L : W} {start : α} {N : Nat} (d : Done f L start N) : Way (exAll f L start N).2 := by
  have rl := exAll_rows (f := f) (L := L) (start := start) N
  rw [d.len, Nat.min_self] at rl
  refine ⟨fun j hj => ⟨_, ex_way j (rl ▸ hj), fun lt => ?_, ?_⟩, d.lean.all⟩
  · refine Classical.byContradiction fun z => ?_
    have := exAll_stop (f := f) (L := L) (start := start) (j := j) (by omega) (N - j)
    rw [show j + (N - j) = N by omega] at this
    have l2 := d.len
    rw [this] at l2
    omega
  · have p := (exAll_pre (f := f) (L := L) (start := start) j (N - j)).1.length_le
    rw [show j + (N - j) = N by omega, d.len] at p
    omega
theorem way_lean {T : List (List Int)} {wd : Nat} {n : Int} (ok : TabOk T wd n) (h1 : 1 ≤ n) : Way (leanT T wd) := by
  obtain ⟨N, d, le⟩ := done_row ok h1
  have hl := ok.len
  have e := exAll_len d (show N ≤ T.length by omega)
  have eV : leanT T wd = (exAll (rowF T) (List.range wd) 0 N).2 := by
    unfold leanT
    rw [e]
  rw [eV]
  exact way_of d
section
variable {B : List (List Int)} {wd : Nat} {n : Int} {ms : List Bool} {g : List Int}
theorem rng_take {c : Nat} (h : c ≤ g.length) : (rngI c).map (gi g) = g.take c := by
  refine List.ext_getElem (by rw [List.length_map, rng_len, List.length_take, Nat.min_eq_left h]) fun i h1 h2 => ?_
  rw [List.length_map, rng_len] at h1
  rw [List.getElem_take, List.getElem_map]
  show gi g ((rngI c)[i]'(by rw [rng_len]; exact h1)) = _
  have : (rngI c)[i]'(by rw [rng_len]; exact h1) = (i : Int) := by unfold rngI; rw [List.getElem_map, List.getElem_range]
  rw [this]
  obtain ⟨_, e⟩ := gi_at (g := g) (a := (i : Int)) ⟨by omega, by omega⟩
  rw [e]
  rfl
theorem take_dd (f : Fo g) (j : Nat) : dd (g.take j) = rngI (dd (g.take j)).length ∧ (dd (g.take j)).length ≤ cls g := by
  have p : dd (g.take j) <+: dd g := by
    have := foldG_pre (g.drop j) (dd (g.take j))
    rw [← dd_app, List.take_append_drop] at this
    exact this
  have f2 : dd g = rngI (cls g) := f
  refine ⟨?_, p.length_le⟩
  rw [f2] at p
  obtain ⟨t, ht⟩ := p
  refine List.ext_getElem? fun i => ?_
  by_cases h : i < (dd (g.take j)).length
  · have e : (rngI (cls g))[i]? = (dd (g.take j))[i]? := by rw [← ht, List.getElem?_append_left h]
    have hl : (dd (g.take j)).length ≤ cls g := by
      have := congrArg List.length ht
      rw [List.length_append, rng_len] at this
      omega
    rw [← e, rng_at, rng_at, if_pos h, if_pos (by omega)]
  · rw [List.getElem?_eq_none (by omega), rng_at, if_neg h]
theorem kept_way (r : Ref B wd ms g) (ok : TabOk B wd n) (pos : 0 < B.length) (wy : Way B) : ∀ j ≤ B.length, wyA (kept B g) 0 (dd (g.take j)).length = dd ((wyA B 0 j).map (gi g))
  | 0, _ => by
    have z := (fo_zero r.fo (by rw [r.len]; exact pos)).1
    show [(0 : Int)] = dd ([(0 : Int)].map (gi g))
    rw [List.map_cons, z]
    rfl
  | j + 1, hj => by
    have ih := kept_way r ok pos wy j (Nat.le_of_succ_le hj)
    have hj2 : j < g.length := by rw [r.len]; exact hj
    obtain ⟨c, w1, w2, w3⟩ := wy.way j (Nat.le_of_succ_le hj)
    have w2 := w2 hj
    have at_ : (wyA B 0 j)[j]? = some ((j : Nat) : Int) := by rw [w1, rng_at, if_pos w2]
    have eB : B.getD ((j : Nat) : Int).toNat [] = B[j] := by rw [Int.toNat_natCast, List.getD_eq_getElem?_getD, List.getElem?_eq_getElem hj] <;> rfl
    have tk : g.take (j + 1) = g.take j ++ [g[j]] := by rw [List.take_succ, List.getElem?_eq_getElem hj2] <;> rfl
    have gj : gi g (j : Nat) = g[j] := by
      obtain ⟨_, e⟩ := gi_at (g := g) (a := (j : Int)) ⟨by omega, by omega⟩
      rw [e] <;> rfl
    have right : dd ((wyA B 0 (j + 1)).map (gi g)) = (B[j].map (gi g)).foldl addG (dd ((wyA B 0 j).map (gi g))) := by
      rw [wyA_at at_, eB]
      exact dd_fold (gi g) B[j] (wyA B 0 j)
    rw [right, tk, dd_one]
    by_cases old : g[j] ∈ g.take j
    · rw [addG_in (dd_mem.mpr old), ih]
      have mem : g[j] ∈ g := List.getElem_mem hj2
      have fj : g.idxOf g[j] < j := by
        have e1 := idx_pre old (List.take_prefix j g)
        have e2 := List.idxOf_lt_length_of_mem old
        rw [List.length_take] at e2
        omega
      have fB : g.idxOf g[j] < B.length := by omega
      have ec := r.cong ok (i := g.idxOf g[j]) (k := j) fB hj (by rw [gj]; exact gi_idx mem)
      rw [← ec]
      refine (foldG_all fun x hx => ?_).symm
      obtain ⟨y, hy, rfl⟩ := List.mem_map.mp hx
      refine dd_mem.mpr (List.mem_map_of_mem ?_)
      refine way_done j (g.idxOf g[j]) (g.idxOf g[j]) fj (by rw [w1, rng_at, if_pos (by omega)]) y ?_
      rw [List.getD_eq_getElem?_getD, List.getElem?_eq_getElem fB]
      exact hy
    · obtain ⟨t1, t2⟩ := take_dd r.fo (g := g) j
      obtain ⟨u1, u2⟩ := take_dd r.fo (g := g) (j + 1)
      have out : g[j] ∉ dd (g.take j) := fun z => old (dd_mem.mp z)
      rw [tk, dd_one, addG_out out, List.length_append, List.length_singleton] at u1 u2
      rw [addG_out out, List.length_append, List.length_singleton]
      generalize ha : (dd (g.take j)).length = a at ih t1 t2 u1 u2 ⊢
      have ga : g[j] = (a : Int) := by
        have : (dd (g.take j) ++ [g[j]])[a]? = (rngI (a + 1))[a]? := by rw [u1]
        rw [rng_at, if_pos (by omega), List.getElem?_append_right (by omega), ha, Nat.sub_self] at this
        exact Option.some.inj this
      have idx : g.idxOf (a : Int) = j := by
        have h1 : g.idxOf (a : Int) ≤ j := by
          have m : (a : Int) ∈ g.take (j + 1) := List.mem_take_iff_getElem.mpr ⟨j, by omega, ga⟩
          have e1 := idx_pre m (List.take_prefix (j + 1) g)
          have e2 := List.idxOf_lt_length_of_mem m
          rw [List.length_take] at e2
          omega
        have h2 : ¬ g.idxOf (a : Int) < j := fun z => by
          have m : (a : Int) ∈ g := ga ▸ List.getElem_mem hj2
          have hh := List.idxOf_lt_length_of_mem m
          have : g[g.idxOf (a : Int)] ∈ g.take j := List.mem_take_iff_getElem.mpr ⟨g.idxOf (a : Int), by omega, rfl⟩
          rw [List.getElem_idxOf hh] at this
          exact old (ga ▸ this)
        omega
      obtain ⟨hi, ek⟩ := kept_at r (a := a) (by omega)
      have ek2 : (kept B g).getD a [] = B[j].map (gi g) := by
        rw [List.getD_eq_getElem?_getD, ek]
        show (B[g.idxOf (a : Int)]).map (gi g) = _
        simp only [idx]
      have ex : dd ((wyA B 0 j).map (gi g)) = rngI (dd (g.take c)).length := by
        rw [w1, rng_take (by rw [r.len]; exact w3)]
        exact (take_dd r.fo c).1
      have lt : a < (dd (g.take c)).length := by
        have m : g[j] ∈ dd (g.take c) := dd_mem.mpr (List.mem_take_iff_getElem.mpr ⟨j, by have := r.len; omega, rfl⟩)
        rw [(take_dd r.fo c).1, ga] at m
        have := rng_mem.mp m
        omega
      have at2 : (wyA (kept B g) 0 a)[a]? = some ((a : Nat) : Int) := by rw [ih, ex, rng_at, if_pos lt]
      rw [wyA_at at2, Int.toNat_natCast, ek2, ih]
      rfl
theorem kept_lean (r : Ref B wd ms g) (ok : TabOk B wd n) (pos : 0 < B.length) (wy : Way B) : LeanT (kept B g) := by
  refine ⟨?_⟩
  have e := kept_way r ok pos wy B.length (Nat.le_refl _)
  rw [wy.all, rng_take (by rw [r.len]; exact Nat.le_refl _)] at e
  rw [show g.take B.length = g by rw [← r.len, List.take_length]] at e
  rw [kept_len]
  exact e.trans r.fo
/-- a table in order is its own lean one -/
theorem lean_self {T : List (List Int)} (ok : TabOk T wd n) (h1 : 1 ≤ n) (l : LeanT T) : leanT T wd = T := by
  have o := ord_of ok h1
  have hl := o.len
  rw [l.all, rng_len] at hl
  refine List.ext_getElem hl fun i h1 h2 => ?_
  obtain ⟨r, hr, hv, e1, w1, w2, st⟩ := o.row i (by rw [← o.len]; exact h1)
  have rg : ∀ (i : Nat) (hi : i < (wyA T 0 T.length).length), (wyA T 0 T.length)[i] = (i : Int) := fun i hi => by
    have e : (wyA T 0 T.length)[i]? = some (i : Int) := by
      rw [l.all, rng_at, if_pos]
      rw [l.all, rng_len] at hi
      exact hi
    rw [List.getElem?_eq_getElem hi] at e
    exact Option.some.inj e
  rw [rg] at e1
  have er : r = i := by omega
  subst er
  refine List.ext_getElem (by rw [w2, w1]) fun k k1 k2 => ?_
  obtain ⟨j, hj, e2, e3⟩ := st k k2 k1
  rw [rg] at e2
  rw [e3, e2]
/-- refining what is kept parts all -/
theorem kept_ref (r : Ref B wd ms g) (ok : TabOk B wd n) (hm : ms.length = B.length) (pos : 0 < B.length) {g' : List Int}
    (r' : Ref (kept B g) wd ((rngI (cls g)).map fun a => decide (a ∈ endsK ms g)) g') : g' = rngI (cls g) := by
  have okK := kept_tab r ok
  have inj : ∀ a b : Int, 0 ≤ a ∧ a < cls g → 0 ≤ b ∧ b < cls g → gi g' a = gi g' b → a = b := fun a b ha hb e => by
    obtain ⟨i1, i2⟩ := idx_in r.fo ha
    obtain ⟨k1, k2⟩ := idx_in r.fo hb
    rw [r.len] at i1 k1
    have mk : ∀ (i : Nat) (hi : i < B.length), ∃ h : (gi g i).toNat < ((rngI (cls g)).map fun a => decide (a ∈ endsK ms g)).length, ((rngI (cls g)).map fun a => decide (a ∈ endsK ms g))[(gi g i).toNat] = ms[i] := fun i hi => by
      have b := gi_in r.fo (i := i) (by rw [r.len]; exact hi)
      have hl : (gi g i).toNat < (rngI (cls g)).length := by rw [rng_len]; omega
      refine ⟨by rw [List.length_map]; exact hl, ?_⟩
      rw [List.getElem_map]
      have : (rngI (cls g))[(gi g i).toNat] = gi g i := by unfold rngI; rw [List.getElem_map, List.getElem_range]; omega
      rw [this]
      have em := ends_mem r hm hi
      cases hh : ms[i] with
      | true => exact decide_eq_true (em.mpr hh)
      | false => exact decide_eq_false fun z => by rw [em.mp z] at hh; exact nomatch hh
    have hlen : ((rngI (cls g)).map fun a => decide (a ∈ endsK ms g)).length = (kept B g).length := by rw [List.length_map, rng_len, kept_len]
    have := r.least ok hm (q := fun x => gi g' (gi g x)) (fun i k hi hk e => by
      obtain ⟨a1, a2⟩ := mk i hi
      obtain ⟨b1, b2⟩ := mk k hk
      rw [← a2, ← b2]
      have bi := gi_in r.fo (i := i) (by rw [r.len]; exact hi)
      have bk := gi_in r.fo (i := k) (by rw [r.len]; exact hk)
      refine r'.mark hlen (by rw [← hlen]; exact a1) (by rw [← hlen]; exact b1) ?_
      rw [show (((gi g i).toNat : Nat) : Int) = gi g i by omega, show (((gi g k).toNat : Nat) : Int) = gi g k by omega]
      exact e) (fun i k c hi hk hc e => by
      have bi := gi_in r.fo (i := i) (by rw [r.len]; exact hi)
      have bk := gi_in r.fo (i := k) (by rw [r.len]; exact hk)
      have := r'.congF okK (i := (gi g i).toNat) (k := (gi g k).toNat) (by rw [kept_len]; omega) (by rw [kept_len]; omega) (by
        rw [show (((gi g i).toNat : Nat) : Int) = gi g i by omega, show (((gi g k).toNat : Nat) : Int) = gi g k by omega]
        exact e) hc
      rw [show (((gi g i).toNat : Nat) : Int) = gi g i by omega, show (((gi g k).toNat : Nat) : Int) = gi g k by omega, kept_step r ok hi hc, kept_step r ok hk hc] at this
      exact this) (i := g.idxOf a) (k := g.idxOf b) i1 k1 (by
        show gi g' (gi g _) = gi g' (gi g _)
        rw [i2, k2]
        exact e)
    rw [i2, k2] at this
    exact this
  have hl : g'.length = cls g := by rw [r'.len, kept_len]
  have nd : g'.Nodup := by
    refine List.pairwise_iff_getElem.mpr fun i k hi hk hik e => ?_
    obtain ⟨_, a2⟩ := gi_at (g := g') (a := (i : Int)) ⟨by omega, by omega⟩
    obtain ⟨_, b2⟩ := gi_at (g := g') (a := (k : Int)) ⟨by omega, by omega⟩
    have := inj i k ⟨by omega, by omega⟩ ⟨by omega, by omega⟩ (by rw [a2, b2]; exact e)
    omega
  have f := r'.fo
  unfold Fo at f
  rw [dd_self nd, hl] at f
  exact f
end
section
variable {T : List (List Int)} {wd : Nat} {n : Int} {ends : List Int} {kp : List (List Int)} {en : List Int}
theorem Least.lean (l : Least T wd ends kp en) (ok : TabOk T wd n) (h1 : 1 ≤ n) : LeanT kp := by
  obtain ⟨g, r, rfl, rfl⟩ := l
  obtain ⟨tk, t1, t2⟩ := lean_tab ok h1
  exact kept_lean r tk t1 (way_lean ok h1)
/-- the least one's least one is itself -/
theorem Least.again (l : Least T wd ends kp en) (ok : TabOk T wd n) (h1 : 1 ≤ n) {kp' : List (List Int)} {en' : List Int} (l' : Least kp wd en kp' en') : kp' = kp ∧ en' = en := by
  have lk := l.lean ok h1
  obtain ⟨k1, k2, k3, k4⟩ := l.tab ok h1
  obtain ⟨g, r, rfl, rfl⟩ := l
  obtain ⟨tk, t1, t2⟩ := lean_tab ok h1
  obtain ⟨g', r', e1, e2⟩ := l'
  rw [lean_self k1 (by omega) lk] at r' e1
  rw [lk.all, kept_len] at r' e2
  have eg := kept_ref r tk (by rw [List.length_map, t2]) t1 r'
  subst eg
  have cl : cls (rngI (cls g)) = cls g := by
    show (dd (rngI (cls g))).length = _
    rw [dd_self (rng_nd _), rng_len]
  have idx : ∀ a : Int, 0 ≤ a ∧ a < cls g → (rngI (cls g)).idxOf a = a.toNat := fun a h => rng_idx h
  constructor
  · rw [e1]
    refine List.ext_getElem? fun i => ?_
    by_cases hi : i < cls g
    · obtain ⟨hf, e⟩ := kept_at r' (a := i) (by rw [cl]; exact hi)
      rw [e]
      have hk : i < (kept (leanT T wd) g).length := by rw [kept_len]; exact hi
      have ei : (rngI (cls g)).idxOf ((i : Nat) : Int) = i := by rw [idx _ ⟨by omega, by omega⟩]; omega
      rw [List.getElem?_eq_getElem hk]
      congr 1
      simp only [ei]
      obtain ⟨w, b⟩ := k1.row _ (List.getElem_mem hk)
      rw [kept_len] at b
      have : ∀ x ∈ (kept (leanT T wd) g)[i], gi (rngI (cls g)) x = x := fun x hx => by
        have bx := b x hx
        obtain ⟨_, ge⟩ := gi_at (g := rngI (cls g)) (a := x) ⟨bx.1, by rw [rng_len]; exact bx.2⟩
        rw [ge]
        unfold rngI
        rw [List.getElem_map, List.getElem_range]
        omega
      rw [List.map_congr_left this, List.map_id']
    · rw [List.getElem?_eq_none (by rw [kept_len, cl]; omega), List.getElem?_eq_none (by rw [kept_len]; omega)]
  · rw [e2]
    unfold endsK
    rw [cl]
    refine List.filter_congr fun a ha => ?_
    have b := rng_mem.mp ha
    rw [idx a b, List.getD_eq_getElem?_getD, List.getElem?_map, rng_at, if_pos (by omega)]
    show decide ((((a.toNat : Nat) : Int)) ∈ _) = _
    rw [show ((a.toNat : Nat) : Int) = a by omega]
    refine Bool.eq_iff_iff.mpr ?_
    rw [decide_eq_true_iff, List.mem_filter]
    exact ⟨fun h => h.2, fun h => ⟨ha, h⟩⟩
end
end RM
set_option Elab.async false
set_option linter.all false
set_option maxRecDepth 100000
set_option maxHeartbeats 4000000
namespace MXL
open PySem PySem.Spec PyProof.Rows L2
theorem ints_at : ∀ {us : List Value} {ns : List Int} {i : Nat} {v : Value}, IntsAre us ns → us[i]? = some v → ∃ t, v = .int (ns.getD i 0) t
  | _, _, i, v, .nil, h => nomatch h
  | _, _, 0, v, .cons n t z, h => by
    cases h
    exact ⟨t, rfl⟩
  | _, _, i + 1, v, .cons n t z, h => ints_at (i := i) z h
theorem ints_len : ∀ {us : List Value} {ns : List Int}, IntsAre us ns → us.length = ns.length
  | _, _, .nil => rfl
  | _, _, .cons n t z => congrArg Nat.succ (ints_len z)
theorem cr_maxL {X : Cx} (hc : X.calm = true) : CallR X (.builtin "max") (fun xs H Q => ∃ (l : Addr) (ns : List Int), xs = [.ref l] ∧ SqL X.K H l (ns.map V.int) ∧ ns ≠ [] ∧ ∀ M, M ∈ ns → (∀ a ∈ ns, a ≤ M) → Q (.int M) H) := by
  rintro pins s σ H _ us Q I r ⟨l, ns, rfl, hl, ne, q⟩
  rw [Vals.ref1 r]
  obtain ⟨its, rv, pl, hz⟩ := I.list hl
  have calm : X.A.handled = none := I.ok.hd hc
  have calm1 : X.A.in1.handled = none := by simp [calm]
  have ia := rv.ints
  have lenI := ints_len ia
  have pos : 0 < its.length := by
    rw [lenI]
    exact List.length_pos_iff.mpr ne
  have isL := pl.isList
  obtain ⟨o, ho, _⟩ := isL
  have below := Heap.lt_size ho
  refine PySem.call_max_walk (wpAny_pyIter_list pl.isList ?_)
  have w := (Walks.list (prog := X.prog) (w := X.w) calm1 s.heap.objs.size l (Nat.ne_of_lt below) its.toArray)
  refine ⟨_, _, _, _, _, _, fun i j => decide (ns.getD i 0 > ns.getD j 0), rfl, w, ⟨⟨_, Heap.get?_push_size _ rfl, rfl, rfl⟩, pl.isList.push _⟩, ?_, by simpa using pos, CmpOf.ints_gt (fun i => ns.getD i 0) (fun i v h => ints_at ia (by simpa using h)), ?_⟩
  · intro b hb
    simp only [List.mem_cons, List.not_mem_nil, or_false] at hb
    rw [Heap.size_push]
    rcases hb with rfl | rfl
    · exact Nat.lt_succ_self _
    · exact Nat.lt_succ_of_lt below
  · intro v h' tk hv keep
    obtain ⟨t, rfl⟩ := ints_at ia (show its[argBest (fun i j => decide (ns.getD i 0 > ns.getD j 0)) (its.toArray.size - 1)]? = some v from List.getElem?_toArray ▸ hv)
    obtain ⟨b1, b2⟩ := argBest_gt (fun i => ns.getD i 0) (its.toArray.size - 1)
    have hsz : its.toArray.size = ns.length := by simpa using lenI
    clear hz
    have hb : argBest (fun i j => decide (ns.getD i 0 > ns.getD j 0)) (its.toArray.size - 1) < ns.length := by
      have b3 : argBest (fun i j => decide (ns.getD i 0 > ns.getD j 0)) (its.toArray.size - 1) ≤ its.toArray.size - 1 := b1
      omega
    have get : ∀ i (hi : i < ns.length), ns.getD i 0 = ns[i] := fun i hi => by rw [List.getD_eq_getElem?_getD, List.getElem?_eq_getElem hi] <;> rfl
    refine ⟨.int _, H, I.kept (fun b o z => ?_), ⟨t, rfl⟩, q _ ?_ fun a ha => ?_⟩
    · have lt := Heap.lt_size z
      exact keep b o (fun h => Nat.lt_irrefl _ (List.mem_singleton.mp h ▸ lt)) (Heap.get?_push_of_some _ z)
    · rw [get _ hb]
      exact List.getElem_mem _
    · obtain ⟨i, hi⟩ := List.mem_iff_getElem?.mp ha
      obtain ⟨hl, e⟩ := List.getElem?_eq_some_iff.mp hi
      rw [← e, ← get i hl]
      exact b2 i (by omega)
end MXL
set_option Elab.async false
set_option linter.all false
set_option maxRecDepth 100000
set_option maxHeartbeats 8000000
namespace RM
open PySem L2 PyProof.Rows LCX K1 FV DP WK ND
open PySem.W (Frag kitOne)
abbrev sNumd : Stmt := top 16
abbrev NNm : List Str := ["keys", "numbers", "key"]
/-- these values are these keys -/
def ArE {P : Program} {w : World} {α : Type} [DecidableEq α] (N : Num P w α) (H : Hp) : List V → List α → Prop
  | [], [] => True
  | v :: vs, a :: l => N.is H v a ∧ ArE N H vs l
  | _, _ => False
section
variable {P : Program} {w : World} {K : PySem.W.Frag} {mg : Str → Option Value} {base : Heap} {α : Type} [DecidableEq α] {N : Num P w α}
theorem ArE.keep {H H' : Hp} (k : KeepsTup H H') : ∀ {vs : List V} {l : List α}, ArE N H vs l → ArE N H' vs l
  | [], [], _ => trivial
  | _ :: _, _ :: _, h => ⟨N.keep h.1 k, ArE.keep k h.2⟩
  | [], _ :: _, h => h.elim
  | _ :: _, [], h => h.elim
theorem ArE.len {H : Hp} : ∀ {vs : List V} {l : List α}, ArE N H vs l → vs.length = l.length
  | [], [], _ => rfl
  | _ :: _, _ :: _, h => congrArg Nat.succ (ArE.len h.2)
  | [], _ :: _, h => h.elim
  | _ :: _, [], h => h.elim
theorem ArE.at {H : Hp} : ∀ {vs : List V} {l : List α}, ArE N H vs l → ∀ {i : Nat} {v : V}, vs[i]? = some v → ∃ a, l[i]? = some a ∧ N.is H v a
  | [], [], _, i, v, h => nomatch h
  | v :: vs, a :: l, h, 0, _, e => by
    cases e
    exact ⟨a, rfl, h.1⟩
  | v :: vs, a :: l, h, i + 1, _, e => ArE.at h.2 (i := i) e
  | [], _ :: _, h, _, _, _ => h.elim
  | _ :: _, [], h, _, _, _ => h.elim
theorem ArE.snoc {H : Hp} {v : V} {a : α} (h : N.is H v a) : ∀ {vs : List V} {l : List α}, ArE N H vs l → ArE N H (vs ++ [v]) (l ++ [a])
  | [], [], _ => ⟨h, trivial⟩
  | _ :: _, _ :: _, z => ⟨z.1, ArE.snoc h z.2⟩
  | [], _ :: _, z => z.elim
  | _ :: _, [], z => z.elim
def spNumd (K : Frag) (N : Num P w α) : Sp := fun vs H Q _ => ∃ (l : Addr) (xs : List V) (ks : List α), vs = [.ref l] ∧ H l = some (.lst xs) ∧ ArE N H xs ks ∧ ks.length ≤ 1000 ∧
  ∀ p H', H p = none → Same H H' → H' p = some (.lst ((num ks).map V.int)) → Q (.ref p) H'
theorem scNm : FnScope NNm ["keys"] (defScope sNumd) := ⟨rfl, rfl, rfl, by decide +kernel, rfl, by decide +kernel, by decide +kernel⟩
theorem ok_numd {f : Addr} {fd : FuncData} (F : Fun K "numbered" "numbered" sNumd f fd) (T : TN mg) : FnOk P w K mg base CX0 1 f fd ["keys"] (spNumd K N) := by
  refine F.ok scNm (fun vs H Q E h => ?_) (fun cdv A outer s H vs Q E hr h => ?_)
  · obtain ⟨l, xs, ks, rfl, _⟩ := h
    rfl
  · obtain ⟨l, xs, ks, rfl, hl, ar, few, q⟩ := h
    have hu := hr.units
    refine ⟨_, pss_cons (ps_set (i := 1) scNm.nd rfl (Or.inr rfl) (pe_new (N := N)))
      (pss_cons (ps_for PassesOwn.never rfl (pi_list (pv 0)) (pg_name (i := 2) scNm.nd rfl (Or.inl rfl))
        (pss_one (ps_if (pt_cmp (pc_notin (N := N) hu (pv 2) (pv 1))) (pss_one (ps_put (N := N) hu (pv 1) (pv 2) (pe_callB (call_len (N := N)) (by rfl) T.len PySem.boot_len (pa_cons (pv 1) pa_nil)) rfl)) pss_nil)))
      (pss_one (ps_ret (pe_lc (own := [("key", 2)]) (g := gName 2) (tt := tYes) (te := tGet N (tVar 1) (tVar 2)) rfl scNm.nd (pi_list (pv 0)) (blkOk_by (own := [("key", 2)]) (N := NNm) (sc := defScope sNumd) (by decide +kernel))
        (fun _ _ _ _ _ => pg_name (i := 2) scNm.nd rfl (Or.inl rfl)) (fun _ _ _ _ _ => pts_nil) (fun _ _ _ _ _ => pe_get (N := N) hu (pv 1) (pv 2) (fun _ _ => rfl)))))), ?_⟩
    intro D o hD has0
    have s0 : Same H (upd H D o) := same_upd hD
    generalize upd H D o = H1 at s0 has0 ⊢
    have xl := ar.len
    refine ⟨_, rfl, l, rfl, ⟨xs, SqL.of (s0 _ _ hl)⟩, ?_⟩
    refine for_it walk_list (fun i σ H3 => ∃ x2 : Option V, Same H H3 ∧ N.has H3 D (dd (ks.take i)) ∧ σ = [some (.ref l), some (.ref D), x2]) ⟨none, s0, has0, rfl⟩ (fun i σ H3 _ ⟨_, s3, _⟩ => SqL.of (s3 _ _ hl)) ?_ ?_
    · rintro i x σ H3 H4 hi ⟨x2, s3, has3, rfl⟩ ⟨rfl, hx⟩
      obtain ⟨a, ha, isa⟩ := ar.at hx
      have isa := N.keep isa (Same.tup' s3)
      have tk : dd (ks.take (i + 1)) = addG (dd (ks.take i)) a := by rw [List.take_add_one, ha]; exact dd_one _ _
      have le : (dd (ks.take i)).length ≤ 1000 := by
        have := dd_len (ks.take i)
        rw [List.length_take] at this
        omega
      refine ⟨_, rfl, _, rfl, D, _, a, rfl, has3, isa, ?_⟩
      by_cases m : a ∈ dd (ks.take i)
      · rw [decide_eq_true m]
        refine ⟨_, rfl, iteF ?_⟩
        refine ⟨some x, s3, ?_, rfl⟩
        rw [tk, addG_in m]
        exact has3
      · rw [decide_eq_false m]
        refine ⟨_, rfl, iteT ?_⟩
        refine ⟨_, rfl, D, _, rfl, has3, _, rfl, _, rfl, D, _, a, rfl, rfl, has3, isa, m, by rw [sizeLine_eq]; omega, fun o2 has4 => ?_⟩
        refine ⟨some x, same_at s3 hD, ?_, rfl⟩
        rw [tk, addG_out m]
        exact has4
    · rintro σ H3 ⟨x2, s3, has3, rfl⟩
      rw [xl, List.take_length] at has3
      refine ⟨_, rfl, l, rfl, ⟨xs, SqL.of (s3 _ _ hl)⟩, fun R hR => ?_⟩
      refine lc_it walk_list (fun i H5 => Same H3 H5 ∧ H5 R = some (.lst ((ks.take i).map fun a => V.int ((dd ks).idxOf a : Nat)))) ⟨same_upd hR, upd_same⟩ (fun i H5 _ ⟨s5, _⟩ => SqL.of (s5 _ _ (s3 _ _ hl))) ?_ ?_
      · rintro i x H5 H6 hi ⟨s5, hd5⟩ ⟨rfl, hx⟩
        obtain ⟨a, ha, isa⟩ := ar.at hx
        have isa := N.keep isa (Same.tup' (s3.trans s5))
        refine ⟨rfl, _, rfl, _, rfl, D, _, a, rfl, N.stay has3 s5, isa, dd_mem.mpr (List.mem_of_getElem? ha), _, hd5, ?_, same_at s5 hR, ?_⟩
        · rw [List.length_map, List.length_take, sizeLine_eq]
          omega
        · rw [upd_same, List.take_add_one, ha, List.map_append] <;> rfl
      · rintro H5 ⟨s5, hd5⟩
        rw [xl, List.take_length] at hd5
        refine q R H5 ((s3.free hR)) (s3.trans s5) ?_
        rw [hd5]
        unfold num
        rw [List.map_map] <;> rfl
end
end RM
set_option Elab.async false
set_option linter.all false
set_option maxRecDepth 100000
set_option maxHeartbeats 8000000
namespace RM
open PySem L2 PyProof.Rows LCX K1 FV DP WK ND
open PySem.W (Frag kitOne)
abbrev sRefd : Stmt := top 17
abbrev NRf : List Str := ["table", "groups", "many", "at", "row", "after"]
abbrev scRi : Scope := { kind := .function, names := [(".0", .local), ("at", .local), ("row", .local), ("tuple", .globalImplicit), ("groups", .cell)], isGenerator := false, isCoroutine := false }
def spRefd (K : Frag) : Sp := fun vs H Q _ => ∃ (t g : Addr) (B : List (List Int)) (wd : Nat) (n : Int) (ms : List Bool), vs = [.ref t, .ref g] ∧ TTab K H t B ∧ TabOk B wd n ∧ 1 ≤ n ∧ n ≤ 900 ∧ wd ≤ 900 ∧ H g = some (.lst ((num ms).map V.int)) ∧ ms.length = B.length ∧
  ∀ l r H', Same H H' → H' l = some (.lst (r.map V.int)) → Ref B wd ms r → Q (.ref l) H'
theorem gi_atI {g : List Int} {a : Int} (h : 0 ≤ a ∧ a < g.length) : atI (g.map V.int) a = some (.int (gi g a)) := by
  obtain ⟨hl, e⟩ := gi_at h
  rw [e]
  have ea : a = ((a.toNat : Nat) : Int) := by omega
  have : atI (g.map V.int) ((a.toNat : Nat) : Int) = some (.int g[a.toNat]) := atI_nat (by rw [List.getElem?_map, List.getElem?_eq_getElem (by omega)] <;> rfl)
  rw [← ea] at this
  exact this
def manyOf (σ : L2.St) : Nat := match σ[2]? with
  | some (some (V.int j)) => j.toNat
  | _ => 0
theorem max_cls {g : List Int} {M : Int} (f : Fo g) (ne : g ≠ []) (h1 : M ∈ g) (h2 : ∀ a ∈ g, a ≤ M) : M + 1 = (cls g : Nat) := by
  have a := f.mem.mp h1
  have pos : 0 < cls g := by
    have : g.headD 0 ∈ g := by cases g with
      | nil => exact absurd rfl ne
      | cons x y => exact .head _
    exact List.length_pos_of_mem (dd_mem.mpr this)
  have b := h2 ((cls g - 1 : Nat) : Int) (f.mem.mpr ⟨by omega, by unfold cls at pos ⊢; omega⟩)
  unfold cls at *
  omega
section
variable {P : Program} {w : World} {K : PySem.W.Frag} {mg : Str → Option Value} {base : Heap} {fN : Addr} {dN : FuncData}
theorem scRf : FnScope NRf ["table", "groups"] (defScope sRefd) := ⟨rfl, rfl, rfl, by decide +kernel, rfl, by decide +kernel, by decide +kernel⟩
theorem ok_refd {f : Addr} {fd : FuncData} (F : Fun K "refined" "refined" sRefd f fd) (T : TN mg) (en : mg "enumerate" = none) (AN : Fn K mg "numbered" sNumd ["keys"] fN dN) (GN : FnOk P w K mg base CX0 1 fN dN ["keys"] (spNumd K (numN P w))) : FnOk P w K mg base CX0 2 f fd ["table", "groups"] (spRefd K) := by
  refine F.ok scRf (fun vs H Q E h => ?_) (fun cdv A outer s H vs Q E hr h => ?_)
  · obtain ⟨t, g, B, wd, n, ms, rfl, _⟩ := h
    rfl
  · obtain ⟨t, g, B, wd, n, ms, rfl, hT, ok, n1, n2, hw, hg, hm, q⟩ := h
    refine ⟨_, pss_cons (ps_set (i := 2) scRf.nd rfl (Or.inl rfl) pe_int)
      (pss_cons (ps_while PassesOwn.never (pt_cmpR op_gt (pe_op op_add (pe_callB (MXL.cr_maxL rfl) (by rfl) T.max (by decide +kernel) (pa_cons (pv 1) pa_nil)) pe_int) (pv 2) (nomark _))
        (pss_cons (ps_set (i := 2) scRf.nd rfl (Or.inl rfl) (pe_op op_add (pe_callB (MXL.cr_maxL rfl) (by rfl) T.max (by decide +kernel) (pa_cons (pv 1) pa_nil)) pe_int))
        (pss_one (ps_set (i := 1) scRf.nd rfl (Or.inr rfl) (pe_call (E := E0) GN hr rfl AN.g AN.F.kp AN.b .nil pass0 (pa_cons (pe_lc (own := [("at", 3), ("row", 4)]) (g := gTup K 2 (gCons (gName 3) (gCons (gName 4) gNil))) (tt := tYes)
          (te := tTup (tCons (tOp (rIxL K) (tVar 1) (tVar 3)) (tCons (tCB (rTupL K) (tCons (tLc (iTup K (tVar 4)) (gName 5) tYes (tOp (rIxL K) (tVar 1) (tVar 5)) [5]) tNil)) tNil))) rfl scRf.nd (ENU.pi_enT rfl en (pa_cons (pv 0) pa_nil))
          (blkOk_by (own := [("at", 3), ("row", 4)]) (N := NRf) (sc := defScope sRefd) (by decide +kernel)) (fun _ _ _ _ _ => pg_tup (by rfl) (pgs_cons (pg_name (i := 3) scRf.nd rfl (Or.inl rfl)) (pgs_cons (pg_name (i := 4) scRf.nd rfl (Or.inl rfl)) pgs_nil))) (fun _ _ _ _ _ => pts_nil)
          (fun _ _ _ _ _ => pe_tup (pa_cons (pe_ix ix_list (pv 1) (pv 3) (fun _ _ => rfl)) (pa_cons (pe_callTy call_tuple_of (by rfl) T.tuple (by decide +kernel) (pa_cons (pe_lc (own := [("after", 5)]) (g := gName 5) (tt := tYes) (te := tOp (rIxL K) (tVar 1) (tVar 5)) rfl scRf.nd (pi_tup (pv 4))
            (blkOk_by (own := [("after", 5)]) (N := NRf) (sc := scRi) (by decide +kernel)) (fun _ _ _ _ _ => pg_name (i := 5) scRf.nd rfl (Or.inl rfl)) (fun _ _ _ _ _ => pts_nil) (fun _ _ _ _ _ => pe_ix ix_list (pv 1) (pv 5) (fun _ _ => rfl))) pa_nil)) pa_nil)))) pa_nil))))))
      (pss_one (ps_ret (pv 1)))), ?_⟩
    have hlB := ok.len
    refine while_by (fun σ H2 => ∃ (j : Nat) (l : Addr) (many : Int), Same H H2 ∧ H2 l = some (.lst ((itG B (num ms) j).map V.int)) ∧ 0 ≤ many ∧ ((j = 0 ∧ many = 0) ∨ ∃ i, j = i + 1 ∧ many = (cls (itG B (num ms) i) : Nat)) ∧
      σ = [some (.ref t), some (.ref l), some (.int many), none, none, none]) (fun σ _ => n.toNat - manyOf σ) ⟨0, g, 0, fun _ _ z => z, hg, Int.le_refl _, .inl ⟨rfl, rfl⟩, rfl⟩ ?_ ?_
    · rintro σ H2 ⟨j, l, many, s2, hl, m0, cs, rfl⟩
      have len := itG_len (B := B) (g := num ms) (by rw [num_len]; exact hm) j
      have fo := itG_fo (B := B) (num_fo ms) j
      have ne : itG B (num ms) j ≠ [] := fun z => by rw [z] at len; rw [List.length_nil] at len; omega
      have cl : cls (itG B (num ms) j) ≤ B.length := by rw [← len]; exact dd_len _
      have fin : cls (itG B (num ms) j) ≤ many → Ref B wd ms (itG B (num ms) j) := fun le => by
        rcases cs with ⟨rfl, e⟩ | ⟨i, rfl, e⟩
        · have := (fo_zero fo (List.length_pos_iff.mpr ne)).2
          omega
        · have leni := itG_len (B := B) (g := num ms) (by rw [num_len]; exact hm) i
          have foi := itG_fo (B := B) (num_fo ms) i
          have fx := stG_fix leni foi (by
            show cls (itG B (num ms) (i + 1)) ≤ cls (itG B (num ms) i)
            omega)
          refine ⟨len, fo, ?_, i + 1, rfl⟩
          show stG B (stG B (itG B (num ms) i)) = stG B (itG B (num ms) i)
          rw [fx, fx]
      have nxt : itG B (num ms) (j + 1) = stG B (itG B (num ms) j) := rfl
      generalize hgr : itG B (num ms) j = gr at len fo ne cl fin nxt hl
      refine ⟨_, rfl, l, gr, rfl, SqL.of hl, ne, fun M hM1 hM2 => ?_⟩
      have eM := max_cls fo ne hM1 hM2
      refine ⟨_, _, rfl, rfl, _, rfl, _, _, rfl, rfl, _, rfl, ?_⟩
      refine ite2 (fun hlt => ?_) (fun hge => ?_)
      · have hlt : many < M + 1 := of_decide_eq_true hlt
        refine ⟨_, rfl, l, gr, rfl, SqL.of hl, ne, fun M' hM1' hM2' => ?_⟩
        have eM' := max_cls fo ne hM1' hM2'
        refine ⟨_, _, rfl, rfl, ?_⟩
        obtain ⟨ts, t1, t2⟩ := hT.same s2
        refine ⟨_, rfl, t, _, rfl, t1, fun D hD => ?_⟩
        refine lc_it ENU.walk_enT (fun i H5 => Same H2 H5 ∧ ∃ us : List V, H5 D = some (.lst us) ∧ ArE (numN P w) H5 us ((prs B gr).take i)) ⟨same_upd hD, [], upd_same, trivial⟩ (fun i H5 _ ⟨s5, _⟩ => seqT s5 t1) ?_ ?_
        · rintro i x H5 H6 hi ⟨s5, us, hd5, ar⟩ ⟨T2, y, rfl, hT2, rfl, hy⟩
          rw [List.length_map, t2.len] at hi
          obtain ⟨a, e1, e2⟩ := t2.get hi
          rw [List.getElem?_map, e1] at hy
          obtain rfl : V.ref a = y := Option.some.inj hy
          have erow : B.getD i [] = B[i] := by rw [List.getD_eq_getElem?_getD, List.getElem?_eq_getElem hi] <;> rfl
          rw [erow] at e2
          obtain ⟨w1, w2⟩ := ok.row _ (List.getElem_mem hi)
          have s6 : Same H5 (upd H5 T2 (.tup [.int (i : Nat), .ref a])) := same_upd hT2
          refine ⟨T2, _, rfl, SqT.of upd_same, rfl, _, _, rfl, _, _, rfl, rfl, rfl, ?_⟩
          generalize upd H5 T2 (.tup [.int (i : Nat), .ref a]) = H6 at s6
          have s56 := s5.trans s6
          refine ⟨_, rfl, _, rfl, l, _, _, _, rfl, rfl, SqL.of (s56 _ _ hl), gi_atI ⟨by omega, by omega⟩, ?_⟩
          refine ⟨_, rfl, a, rfl, ⟨_, SqT.of (s56 _ _ e2)⟩, fun D6 hD6 => ?_⟩
          refine lc_it walk_tup (fun k H7 => Same H6 H7 ∧ H7 D6 = some (.lst (((B[i].take k).map (gi gr)).map V.int))) ⟨same_upd hD6, upd_same⟩ (fun k H7 _ ⟨s7, _⟩ => SqT.of (s7 _ _ (s56 _ _ e2))) ?_ ?_
          · rintro k z H7 H8 hk ⟨s7, hd7⟩ ⟨rfl, hz⟩
            rw [List.length_map] at hk
            have hz2 : z = .int B[i][k] := by
              rw [List.getElem?_map, List.getElem?_eq_getElem hk] at hz
              exact (Option.some.inj hz).symm
            subst hz2
            have hin := w2 _ (List.getElem_mem hk)
            refine ⟨rfl, _, rfl, _, rfl, l, _, _, _, rfl, rfl, SqL.of (s7 _ _ (s56 _ _ hl)), gi_atI ⟨by omega, by omega⟩, _, hd7, ?_, same_at s7 hD6, ?_⟩
            · rw [List.length_map, List.length_map, List.length_take, sizeLine_eq]
              omega
            · rw [upd_same, List.take_add_one, List.getElem?_eq_getElem hk, List.map_append, List.map_append] <;> rfl
          · rintro H7 ⟨s7, hd7⟩
            rw [List.length_map, List.take_length] at hd7
            refine ⟨D6, _, rfl, .inl ⟨SqL.of hd7, fun r hr => ?_⟩⟩
            have s8 := same_upd (o := .tup ((B[i].map (gi gr)).map V.int)) hr
            refine ⟨by show 2 ≤ sizeLine; decide, fun u hu => ?_⟩
            have s9 := same_upd (o := .tup [.int (gi gr (i : Nat)), .ref r]) hu
            have s79 := s7.trans (s8.trans s9)
            have s59 := s6.trans s79
            refine ⟨_, s59 _ _ hd5, ?_, same_at (s5.trans s59) hD, us ++ [.ref u], by rw [upd_same], ?_⟩
            · have := ar.len
              rw [this, List.length_take, prs_len, sizeLine_eq]
              omega
            · have kt := tup_upd (o := .lst (us ++ [.ref u])) (s59 _ _ hd5) (fun _ z => nomatch z)
              have at_ : (prs B gr)[i]? = some ⟨gi gr (i : Nat), B[i].map (gi gr)⟩ := by rw [List.getElem?_eq_getElem (by rw [prs_len]; exact hi), prs_at hi]
              rw [List.take_add_one, at_]
              have pr : PrAt (upd (upd H7 r (.tup ((B[i].map (gi gr)).map V.int))) u (.tup [.int (gi gr (i : Nat)), .ref r])) u ⟨gi gr (i : Nat), B[i].map (gi gr)⟩ := ⟨r, upd_same, s9 _ _ upd_same⟩
              exact (ArE.keep kt ((ar.keep (Same.tup' s59)).snoc (N := numN P w) (a := ⟨gi gr (i : Nat), B[i].map (gi gr)⟩) ⟨u, rfl, pr⟩))
        · rintro H5 ⟨s5, us, hd5, ar⟩
          rw [List.length_map, t2.len, ← prs_len B gr, List.take_length] at ar
          refine ⟨D, us, prs B gr, rfl, hd5, ar, by rw [prs_len]; omega, fun p H6 hp s6 hl6 => ?_⟩
          refine ⟨⟨j + 1, p, _, s2.trans (s5.trans s6), ?_, ?_, .inr ⟨j, rfl, ?_⟩, rfl⟩, ?_⟩
          · rw [nxt]
            exact hl6
          · omega
          · rw [hgr]
            exact eM'
          · show n.toNat - (M' + 1).toNat < n.toNat - many.toNat
            omega
      · have hge : ¬ many < M + 1 := fun z => hge (decide_eq_true z)
        refine ⟨_, rfl, ?_⟩
        exact q l gr H2 s2 hl (fin (by omega))
    · exact fun σ H Q Q' hm ⟨v, hv, l, gr, e, sl, ne, k⟩ => ⟨v, hv, l, gr, e, sl, ne, fun M h1 h2 => let ⟨i, j, e1, e2, w', hw, a, b, c, d, bb, hb, q⟩ := k M h1 h2; ⟨i, j, e1, e2, w', hw, a, b, c, d, bb, hb, hm _ _ q⟩⟩
end
end RM
set_option Elab.async false
set_option linter.all false
set_option maxRecDepth 100000
set_option maxHeartbeats 16000000
namespace RM
open PySem L2 PyProof.Rows LCX K1 FV DP WK ND
open PySem.W (Frag kitOne)
abbrev sLP : Stmt := top 18
abbrev NLP : List Str := ["table", "ends", "start", "order", "rows", "marks", "groups", "firsts", "at", "group", "kept", "end", "row", "after"]
abbrev scLi : Scope := { kind := .function, names := [(".0", .local), ("at", .local), ("tuple", .globalImplicit), ("groups", .cell), ("rows", .cell)], isGenerator := false, isCoroutine := false }
def spLP (K : Frag) : Sp := fun vs H Q _ => ∃ (t e : Addr) (T : List (List Int)) (wd : Nat) (n : Int) (ends : List Int), vs = [.ref t, .ref e, .int 0] ∧ TTab K H t T ∧ TabOk T wd n ∧ 1 ≤ n ∧ n ≤ 900 ∧ wd ≤ 900 ∧ H e = some (oTup ends) ∧ ends.length ≤ 900 ∧
  ∀ p kp en kpL enL H', H p = none → Same H H' → H' p = some (.tup [.ref kp, .ref en]) → RowsAt H' kp kpL → H' en = some (oTup enL) → Least T wd ends kpL enL → Q (.ref p) H'
theorem rng_succ (n : Nat) : rngI (n + 1) = rngI n ++ [(n : Int)] := by unfold rngI; rw [List.range_succ, List.map_append] <;> rfl
/-- each one is met before, or is the next -/
theorem step_first {g : List Int} (f : Fo g) {j : Nat} (hj : j < g.length) : ((dd (g.take (j + 1))).length = (dd (g.take j)).length ∧ g[j] ≠ ((dd (g.take j)).length : Nat)) ∨ (g[j] = ((dd (g.take j)).length : Nat) ∧ (dd (g.take (j + 1))).length = (dd (g.take j)).length + 1 ∧ g.idxOf (((dd (g.take j)).length : Nat) : Int) = j) := by
  have tk : g.take (j + 1) = g.take j ++ [g[j]] := by rw [List.take_succ, List.getElem?_eq_getElem hj] <;> rfl
  obtain ⟨t1, t2⟩ := take_dd f j
  by_cases old : g[j] ∈ g.take j
  · refine .inl ⟨by rw [tk, dd_one, addG_in (dd_mem.mpr old)], fun z => ?_⟩
    have m : g[j] ∈ dd (g.take j) := dd_mem.mpr old
    rw [t1, z] at m
    have := rng_mem.mp m
    omega
  · obtain ⟨u1, u2⟩ := take_dd f (j + 1)
    have out : g[j] ∉ dd (g.take j) := fun z => old (dd_mem.mp z)
    rw [tk, dd_one, addG_out out, List.length_append, List.length_singleton] at u1 u2
    rw [tk, dd_one, addG_out out, List.length_append, List.length_singleton]
    generalize ha : (dd (g.take j)).length = a at t1 t2 u1 u2 ⊢
    have ga : g[j] = (a : Int) := by
      have : (dd (g.take j) ++ [g[j]])[a]? = (rngI (a + 1))[a]? := by rw [u1]
      rw [rng_at, if_pos (by omega), List.getElem?_append_right (by omega), ha, Nat.sub_self] at this
      exact Option.some.inj this
    refine .inr ⟨ga, rfl, ?_⟩
    have h1 : g.idxOf (a : Int) ≤ j := by
      have m : (a : Int) ∈ g.take (j + 1) := List.mem_take_iff_getElem.mpr ⟨j, by omega, ga⟩
      have e1 := idx_pre m (List.take_prefix (j + 1) g)
      have e2 := List.idxOf_lt_length_of_mem m
      rw [List.length_take] at e2
      omega
    have h2 : ¬ g.idxOf (a : Int) < j := fun z => by
      have m : (a : Int) ∈ g := ga ▸ List.getElem_mem hj
      have hh := List.idxOf_lt_length_of_mem m
      have : g[g.idxOf (a : Int)] ∈ g.take j := List.mem_take_iff_getElem.mpr ⟨g.idxOf (a : Int), by omega, rfl⟩
      rw [List.getElem_idxOf hh] at this
      exact old (ga ▸ this)
    omega
section
variable {P : Program} {w : World} {K : PySem.W.Frag} {mg : Str → Option Value} {base : Heap} {fT fN fR : Addr} {dT dN dR : FuncData}
theorem scLP : FnScope NLP ["table", "ends", "start"] (defScope sLP) := ⟨rfl, rfl, rfl, by decide +kernel, rfl, by decide +kernel, by decide +kernel⟩
abbrev tInMarks (i : Nat) : TE := tDIn (tVar i) (tVar 5)
theorem ok_lp {f : Addr} {fd : FuncData} (F : Fun K "least_parts" "least_parts" sLP f fd) (T : TN mg) (en : mg "enumerate" = none) (AT : Fn K mg "trimmed" sTrim ["table", "start"] fT dT) (GT : FnOk P w K mg base CX0 2 fT dT ["table", "start"] (spTrimG K))
    (AN : Fn K mg "numbered" sNumd ["keys"] fN dN) (GN : FnOk P w K mg base CX0 1 fN dN ["keys"] (spNumd K (numB P w))) (AR : Fn K mg "refined" sRefd ["table", "groups"] fR dR) (GR : FnOk P w K mg base CX0 2 fR dR ["table", "groups"] (spRefd K)) :
    FnOk P w K mg base CX0 3 f fd ["table", "ends", "start"] (spLP K) := by
  refine F.ok scLP (fun vs H Q E h => ?_) (fun cdv A outer s H vs Q E hr h => ?_)
  · obtain ⟨t, e, TT, wd, n, ends, rfl, _⟩ := h
    rfl
  · obtain ⟨t, e, U, wd, n, ends, rfl, hT, ok, n1, n2, hw, he, hel, q⟩ := h
    have hub := hu_of hr
    have hr1 : Room 1 _ := hr.mono (by decide)
    refine ⟨_, pss_cons (ps_asg (pe_call (E := E0) GT hr rfl AT.g AT.F.kp AT.b .nil pass0 (pa_cons (pv 0) (pa_cons (pv 2) pa_nil))) (pg_tup (by rfl) (pgs_cons (pg_name (i := 3) scLP.nd rfl (Or.inr rfl)) (pgs_cons (pg_name (i := 4) scLP.nd rfl (Or.inr rfl)) pgs_nil))))
      (pss_cons (ps_set (i := 5) scLP.nd rfl (Or.inr rfl) (pe_dc (own := [("end", 11)]) (g := gName 11) (tt := tYes) (tk := tVar 11) (tv := tC (.bl true)) rfl scLP.nd (pi_tup (pv 1))
        (blkOk_by (own := [("end", 11)]) (N := NLP) (sc := defScope sLP) (by decide +kernel)) (fun _ _ _ _ _ => pg_name (i := 11) scLP.nd rfl (Or.inl rfl)) (fun _ _ _ _ _ => pts_nil) (fun _ _ _ _ _ => pv 11) (fun _ _ _ _ _ => pe_bl)))
      (pss_cons (ps_set (i := 6) scLP.nd rfl (Or.inr rfl) (pe_call (E := E0) GR hr rfl AR.g AR.F.kp AR.b .nil pass0 (pa_cons (pv 4) (pa_cons (pe_call (E := E0) GN hr1 rfl AN.g AN.F.kp AN.b .nil pass0 (pa_cons (pe_lc (own := [("row", 12)]) (g := gName 12) (tt := tYes) (te := tInMarks 12) rfl scLP.nd (pi_list (pv 3))
        (blkOk_by (own := [("row", 12)]) (N := NLP) (sc := defScope sLP) (by decide +kernel)) (fun _ _ _ _ _ => pg_name (i := 12) scLP.nd rfl (Or.inl rfl)) (fun _ _ _ _ _ => pts_nil) (fun _ _ _ _ _ => pe_cmp (pc_din hub (pv 12) (pv 5)))) pa_nil)) pa_nil))))
      (pss_cons (ps_set (i := 7) scLP.nd rfl (Or.inl rfl) (pe_lst pa_nil))
      (pss_cons (ps_for PassesOwn.never rfl (pi_enum rfl en (pa_cons (pv 6) pa_nil)) (pg_tup (by rfl) (pgs_cons (pg_name (i := 8) scLP.nd rfl (Or.inl rfl)) (pgs_cons (pg_name (i := 9) scLP.nd rfl (Or.inl rfl)) pgs_nil)))
        (pss_one (ps_if (pt_cmpR op_eq (pv 9) (pe_callB call_len_seq (by rfl) T.len PySem.boot_len (pa_cons (pv 7) pa_nil)) (nomark _)) (pss_one (ps_expr (pe_bm PySem.F.plainAttrs_list PySem.F.slot_list_append PySem.F.type_list_append mt_append (pv 7) (pa_cons (pv 8) pa_nil)))) pss_nil)))
      (pss_cons (ps_set (i := 10) scLP.nd rfl (Or.inl rfl) (pe_callTy call_tuple_of (by rfl) T.tuple (by decide +kernel) (pa_cons (pe_lc (own := [("at", 8)]) (g := gName 8) (tt := tYes)
        (te := tCB (rTupL K) (tCons (tLc (iTup K (tOp (rIxT K) (tVar 4) (tVar 8))) (gName 13) tYes (tOp (rIxL K) (tVar 6) (tVar 13)) [13]) tNil)) rfl scLP.nd (pi_list (pv 7))
        (blkOk_by (own := [("at", 8)]) (N := NLP) (sc := defScope sLP) (by decide +kernel)) (fun _ _ _ _ _ => pg_name (i := 8) scLP.nd rfl (Or.inl rfl)) (fun _ _ _ _ _ => pts_nil)
        (fun _ _ _ _ _ => pe_callTy call_tuple_of (by rfl) T.tuple (by decide +kernel) (pa_cons (pe_lc (own := [("after", 13)]) (g := gName 13) (tt := tYes) (te := tOp (rIxL K) (tVar 6) (tVar 13)) rfl scLP.nd (pi_tup (pe_ix ix_tup (pv 4) (pv 8) (fun _ _ => rfl)))
          (blkOk_by (own := [("after", 13)]) (N := NLP) (sc := scLi) (by decide +kernel)) (fun _ _ _ _ _ => pg_name (i := 13) scLP.nd rfl (Or.inl rfl)) (fun _ _ _ _ _ => pts_nil) (fun _ _ _ _ _ => pe_ix ix_list (pv 6) (pv 13) (fun _ _ => rfl))) pa_nil))) pa_nil)))
      (pss_one (ps_ret (pe_tup (pa_cons (pv 10) (pa_cons (pe_callTy call_tuple_of (by rfl) T.tuple (by decide +kernel) (pa_cons (pe_lc (own := [("group", 9), ("at", 8)]) (g := gTup K 2 (gCons (gName 9) (gCons (gName 8) gNil)))
        (tt := tB (tDIn (tOp (rIxL K) (tVar 3) (tVar 8)) (tVar 5))) (te := tVar 9) rfl scLP.nd (pi_enum rfl en (pa_cons (pv 7) pa_nil))
        (blkOk_by (own := [("group", 9), ("at", 8)]) (N := NLP) (sc := defScope sLP) (by decide +kernel)) (fun _ _ _ _ _ => pg_tup (by rfl) (pgs_cons (pg_name (i := 9) scLP.nd rfl (Or.inl rfl)) (pgs_cons (pg_name (i := 8) scLP.nd rfl (Or.inl rfl)) pgs_nil)))
        (fun _ _ _ _ _ => pts_one (pt_cmp (pc_din hub (pe_ix ix_list (pv 3) (pv 8) (fun _ _ => rfl)) (pv 5)))) (fun _ _ _ _ _ => pv 9)) pa_nil)) pa_nil)))))))))), ?_⟩
    refine ⟨_, rfl, _, rfl, t, U, wd, n, rfl, hT, ok, n1, by omega, by omega, fun p u v H1 np s1 hp hu rows1 => ?_⟩
    refine ⟨p, _, rfl, SqT.of hp, rfl, _, _, rfl, _, _, rfl, rfl, ?_⟩
    obtain ⟨tk, tk1, tk2⟩ := lean_tab ok n1
    have O := ord_of ok n1
    have ole := O.le
    have hlU := ok.len
    have lst : ∀ kpL enL, (∃ g, Ref (leanT U wd) wd ((wyA U 0 U.length).map fun a => decide (a ∈ ends)) g ∧ kpL = kept (leanT U wd) g ∧ enL = endsK ((wyA U 0 U.length).map fun a => decide (a ∈ ends)) g) → Least U wd ends kpL enL := fun _ _ h => h
    generalize wyA U 0 U.length = o at hu tk2 ole lst O
    generalize leanT U wd = B at rows1 tk tk1 tk2 lst O
    clear O
    have he1 := s1 _ _ he
    refine ⟨_, rfl, e, rfl, ⟨_, SqT.of he1⟩, fun D hD => ?_⟩
    refine dc_it walk_tup (fun i H3 => Same H1 H3 ∧ ∃ kvs : List (Key × V), H3 D = some (.dK kvs) ∧ kvs.length ≤ i ∧ ∀ a : Int, (valV kvs (Sum.inl a : Key)).isSome = decide (a ∈ ends.take i)) ⟨same_upd hD, [], upd_same, Nat.le_refl _, fun a => rfl⟩ (fun i H3 _ ⟨s3, _⟩ => SqT.of (s3 _ _ he1)) ?_ ?_
    · rintro i x H3 H4 hi ⟨s3, kvs, hd, hlk, hv⟩ ⟨rfl, hx⟩
      rw [List.length_map] at hi
      obtain rfl : V.int ends[i] = x := by
        rw [List.getElem?_map, List.getElem?_eq_getElem hi] at hx
        exact Option.some.inj hx
      refine ⟨rfl, _, rfl, kvs, Sum.inl ends[i], rfl, hd, by rw [sizeLine_eq]; omega, same_at s3 hD, _, upd_same, ?_, fun a => ?_⟩
      · have := length_putK kvs (Sum.inl ends[i] : Key) (.bl true)
        omega
      · rw [valV_put, List.take_add_one, List.getElem?_eq_getElem hi]
        by_cases ea : a = ends[i]
        · rw [if_pos (by rw [ea]), decide_eq_true (List.mem_append_right _ (by rw [ea]; exact .head _))]
          rfl
        · rw [if_neg fun z => ea (by have := Sum.inl.inj z; omega), hv a]
          refine decide_eq_decide.mpr ⟨fun z => List.mem_append_left _ z, fun z => ?_⟩
          rcases List.mem_append.mp z with y | y
          · exact y
          · exact absurd (List.mem_singleton.mp y) ea
    rintro H3 ⟨s3, kvs, hd, hlk, hv⟩
    rw [List.length_map, List.take_length] at hv
    have hu3 := s3 _ _ hu
    have marks : ∀ {H' : Hp}, H' D = some (.dK kvs) → ∀ a : Int, DGet H' D (.int a) (valV kvs (Sum.inl a : Key)) := fun h a => DGet.k (k := (Sum.inl a : Key)) h
    refine ⟨_, rfl, _, rfl, u, rfl, ⟨_, SqL.of hu3⟩, fun D2 hD2 => ?_⟩
    refine lc_it walk_list (fun i H5 => Same H3 H5 ∧ H5 D2 = some (.lst ((o.take i).map fun a => V.bl (decide (a ∈ ends))))) ⟨same_upd hD2, upd_same⟩ (fun i H5 _ ⟨s5, _⟩ => SqL.of (s5 _ _ hu3)) ?_ ?_
    · rintro i x H5 H6 hi ⟨s5, hd5⟩ ⟨rfl, hx⟩
      rw [List.length_map] at hi
      obtain rfl : V.int o[i] = x := by
        rw [List.getElem?_map, List.getElem?_eq_getElem hi] at hx
        exact Option.some.inj hx
      refine ⟨rfl, _, rfl, _, rfl, D, _, rfl, marks (s5 _ _ hd) _, _, hd5, ?_, same_at s5 hD2, ?_⟩
      · rw [List.length_map, List.length_take, sizeLine_eq]
        omega
      · rw [upd_same, hv, List.take_add_one, List.getElem?_eq_getElem hi, List.map_append] <;> rfl
    rintro H5 ⟨s5, hd5⟩
    rw [List.length_map, List.take_length] at hd5
    have arB : ∀ l : List Int, ArE (numB P w) H5 (l.map fun a => V.bl (decide (a ∈ ends))) (l.map fun a => decide (a ∈ ends)) := fun l => by
      induction l with
      | nil => trivial
      | cons a l ih => exact ⟨rfl, ih⟩
    refine ⟨D2, _, o.map fun a => decide (a ∈ ends), rfl, hd5, arB o, by rw [List.length_map]; omega, fun p2 H6 np2 s6 hl6 => ?_⟩
    have rows6 := rows1.keep (Same.tup' ((s3.trans s5).trans s6))
    refine ⟨v, p2, B, wd, _, _, rfl, rows_tt rows6, tk, by omega, by omega, hw, hl6, by rw [List.length_map, tk2], fun g r H7 s7 hg rf => ?_⟩
    have rows7 := rows6.keep (Same.tup' s7)
    have hu7 := s7 _ _ (s6 _ _ (s5 _ _ hu3))
    have hd7 := s7 _ _ (s6 _ _ (s5 _ _ hd))
    have s07 : Same H H7 := s1.trans (s3.trans (s5.trans (s6.trans s7)))
    refine ⟨by show 0 ≤ sizeLine; decide, fun M hM => ?_⟩
    have hg7 : (upd H7 M (.lst [])) g = some (.lst (r.map V.int)) := same_upd hM _ _ hg
    have rl := rf.len
    refine ⟨_, rfl, g, _, rfl, SqL.of hg7, ?_⟩
    have cle : ∀ i, (dd (r.take i)).length ≤ r.length := fun i => by
      have := dd_len (r.take i)
      rw [List.length_take] at this
      omega
    refine for_it walk_enum (fun i σ H8 => ∃ x8 x9 : Option V, Same H7 H8 ∧ H8 M = some (.lst ((rngI (dd (r.take i)).length).map fun a => V.int (r.idxOf a : Nat))) ∧
      σ = [some (.ref t), some (.ref e), some (.int 0), some (.ref u), some (.ref v), some (.ref D), some (.ref g), some (.ref M), x8, x9, none, none, none, none]) ⟨none, none, same_upd hM, upd_same, rfl⟩ (fun i σ H8 _ ⟨_, _, s8, _⟩ => SqL.of (s8 _ _ hg)) ?_ ?_
    · rintro i x σ H8 H9 hi ⟨x8, x9, s8, hm8, rfl⟩ ⟨T2, y, z, rfl, hT2, rfl, hy, hz⟩
      rw [List.length_map] at hi
      obtain rfl : V.int ((i : Nat) : Int) = y := Option.some.inj hy
      have hz : (r.map V.int)[i]? = some z := hz
      obtain rfl : V.int r[i] = z := by
        rw [List.getElem?_map, List.getElem?_eq_getElem hi] at hz
        exact Option.some.inj hz
      have s9 : Same H8 (upd H8 T2 (.tup [.int (i : Nat), .int r[i]])) := same_upd hT2
      have hm9 := s9 _ _ hm8
      refine ⟨T2, _, rfl, SqT.of upd_same, rfl, _, _, rfl, _, _, rfl, rfl, ?_⟩
      refine ⟨_, rfl, _, rfl, M, _, rfl, .inl (SqL.of hm9), rfl, _, rfl, ?_⟩
      rw [List.length_map, rng_len]
      have c2 := cle i
      refine ite2 (fun hy => ?_) (fun hn => ?_)
      · have hy := of_decide_eq_true hy
        injection hy with hy
        rcases step_first rf.fo hi with ⟨_, h2⟩ | ⟨h1, h2, h3⟩
        · exact absurd hy h2
        · refine ⟨_, rfl, .inl ⟨rfl, _, SqL.of hm9⟩, _, rfl, M, _, _, rfl, rfl, hm9, by rw [List.length_map, rng_len, sizeLine_eq]; omega, ?_⟩
          refine ⟨_, _, same_at (s8.trans s9) hM, ?_, rfl⟩
          rw [upd_same, h2, rng_succ, List.map_append, List.map_cons, List.map_nil, h3]
      · have hn : ¬ (V.int r[i] = V.int ((dd (r.take i)).length : Nat)) := fun z => hn (decide_eq_true z)
        rcases step_first rf.fo hi with ⟨h1, h2⟩ | ⟨h1, h2, h3⟩
        · refine ⟨_, _, s8.trans s9, ?_, rfl⟩
          rw [h1]
          exact hm9
        · exact absurd (congrArg V.int h1) hn
    · rintro σ H8 ⟨x8, x9, s8, hm8, rfl⟩
      rw [List.length_map, List.take_length] at hm8
      have cls_le : cls r ≤ r.length := by
        have := dd_len r
        exact this
      have hg8 := s8 _ _ hg
      have rows8 := rows7.keep (Same.tup' s8)
      have hu8 := s8 _ _ hu7
      have hdm8 := s8 _ _ hd7
      have s08 := s07.trans s8
      clear hg7 hd5 arB hl6 rows6 rows7 hM hD2 hD rows1 s7 s6 s5 s3
      have hm8 : H8 M = some (.lst ((rngI (cls r)).map fun a => V.int (r.idxOf a : Nat))) := hm8
      have fat : ∀ i, i < cls r → ∃ hf : r.idxOf (i : Int) < B.length, ((rngI (cls r)).map fun a => V.int (r.idxOf a : Nat))[i]? = some (V.int (r.idxOf (i : Int) : Nat)) := fun i hi => by
        obtain ⟨hf, _⟩ := kept_at rf hi
        refine ⟨hf, ?_⟩
        rw [List.getElem?_map, rng_at, if_pos hi] <;> rfl
      refine ⟨_, rfl, M, rfl, ⟨_, SqL.of hm8⟩, fun D4 hD4 => ?_⟩
      refine lc_it walk_list (fun i H9 => Same H8 H9 ∧ ∃ ts : List Addr, H9 D4 = some (.lst (ts.map V.ref)) ∧ Objs oTup H9 ts ((kept B r).take i) ∧ ts.length = i) ⟨same_upd hD4, [], upd_same, trivial, rfl⟩ (fun i H9 _ ⟨s9, _⟩ => SqL.of (s9 _ _ hm8)) ?_ ?_
      · rintro i x H9 HX hi ⟨s9, ts, hd9, ho9, hts⟩ ⟨rfl, hx⟩
        rw [List.length_map, rng_len] at hi
        obtain ⟨hf, ef⟩ := fat i hi
        obtain rfl : V.int (r.idxOf (i : Int) : Nat) = x := Option.some.inj (ef.symm.trans hx)
        obtain ⟨_, ek⟩ := kept_at rf hi
        obtain ⟨us, h1, h2⟩ := rows8.keep (Same.tup' s9)
        obtain ⟨a, e1, e2⟩ := h2.get hf
        have at1 : atI (us.map V.ref) ((r.idxOf (i : Int) : Nat) : Int) = some (.ref a) := atI_nat (by rw [List.getElem?_map, e1] <;> rfl)
        have erow : B.getD (r.idxOf (i : Int)) [] = B[r.idxOf (i : Int)] := by rw [List.getD_eq_getElem?_getD, List.getElem?_eq_getElem hf] <;> rfl
        rw [erow] at e2
        obtain ⟨w1, w2⟩ := tk.row _ (List.getElem_mem hf)
        refine ⟨rfl, _, rfl, _, rfl, v, _, _, _, rfl, rfl, SqT.of h1, at1, a, rfl, ⟨_, SqT.of e2⟩, fun D6 hD6 => ?_⟩
        refine lc_it walk_tup (fun k HY => Same HX HY ∧ HY D6 = some (.lst (((B[r.idxOf (i : Int)].take k).map (gi r)).map V.int))) ⟨same_upd hD6, upd_same⟩ (fun k HY _ ⟨sy, _⟩ => SqT.of (sy _ _ e2)) ?_ ?_
        · rintro k z HY HZ hk ⟨sy, hdy⟩ ⟨rfl, hz⟩
          rw [List.length_map] at hk
          have hz2 : z = .int B[r.idxOf (i : Int)][k] := by
            rw [List.getElem?_map, List.getElem?_eq_getElem hk] at hz
            exact (Option.some.inj hz).symm
          subst hz2
          have hin := w2 _ (List.getElem_mem hk)
          refine ⟨rfl, _, rfl, _, rfl, g, _, _, _, rfl, rfl, SqL.of (sy _ _ (s9 _ _ hg8)), gi_atI ⟨by omega, by omega⟩, _, hdy, ?_, same_at sy hD6, ?_⟩
          · rw [List.length_map, List.length_map, List.length_take, sizeLine_eq]
            omega
          · rw [upd_same, List.take_add_one, List.getElem?_eq_getElem hk, List.map_append, List.map_append] <;> rfl
        · rintro HY ⟨sy, hdy⟩
          rw [List.length_map, List.take_length] at hdy
          refine ⟨D6, _, rfl, .inl ⟨SqL.of hdy, fun q1 hq1 => ?_⟩⟩
          have sq := same_upd (o := .tup ((B[r.idxOf (i : Int)].map (gi r)).map V.int)) hq1
          have s9q := sy.trans sq
          refine ⟨_, s9q _ _ hd9, by rw [List.length_map, hts, sizeLine_eq]; omega, same_at (s9.trans s9q) hD4, ts ++ [q1], ?_, ?_, ?_⟩
          · rw [upd_same, List.map_append] <;> rfl
          · have kt := tup_upd (o := .lst (ts.map V.ref ++ [.ref q1])) (s9q _ _ hd9) (fun _ z => nomatch z)
            have hr1 : (upd HY q1 (.tup ((B[r.idxOf (i : Int)].map (gi r)).map V.int))) q1 = some (oTup (B[r.idxOf (i : Int)].map (gi r))) := upd_same
            rw [List.take_add_one, ek]
            exact objs_tup ((objs_tup ho9 (Same.tup' s9q)).snoc hr1) kt
          · rw [List.length_append, hts] <;> rfl
      · rintro H9 ⟨s9, ts, hd9, ho9, hts⟩
        rw [List.length_map, rng_len, ← kept_len (B := B), List.take_length] at ho9
        refine ⟨D4, _, rfl, .inl ⟨SqL.of hd9, fun kp hkp => ?_⟩⟩
        have sk := same_upd (o := .tup (ts.map V.ref)) hkp
        have kpr : RowsAt (upd H9 kp (.tup (ts.map V.ref))) kp (kept B r) := ⟨ts, upd_same, objs_tup ho9 (Same.tup' sk)⟩
        have s8k := s9.trans sk
        generalize upd H9 kp (.tup (ts.map V.ref)) = HK at sk kpr s8k
        clear hd9 ho9 hkp
        refine ⟨_, rfl, _, rfl, M, _, rfl, SqL.of (s8k _ _ hm8), fun D5 hD5 => ?_⟩
        refine lc_it walk_enum (fun i HX => Same HK HX ∧ HX D5 = some (.lst (((rngI i).filter fun a => ((o.map fun a => decide (a ∈ ends)).getD (r.idxOf a) false)).map V.int))) ⟨same_upd hD5, upd_same⟩ (fun i HX _ ⟨sx, _⟩ => SqL.of (sx _ _ (s8k _ _ hm8))) ?_ ?_
        · rintro i x HX HY hi ⟨sx, hdx⟩ ⟨T2, y, z, rfl, hT2, rfl, hy, hz⟩
          rw [List.length_map, rng_len] at hi
          obtain rfl : V.int ((i : Nat) : Int) = y := Option.some.inj hy
          obtain ⟨hf, ef⟩ := fat i hi
          obtain rfl : V.int (r.idxOf (i : Int) : Nat) = z := Option.some.inj (ef.symm.trans hz)
          have st : Same HX (upd HX T2 (.tup [.int (i : Nat), .int (r.idxOf (i : Int) : Nat)])) := same_upd hT2
          have sKt := sx.trans st
          have hof : r.idxOf (i : Int) < o.length := by omega
          have eM : (o.map fun a => decide (a ∈ ends)).getD (r.idxOf (i : Int)) false = decide (gi o (r.idxOf (i : Int) : Nat) ∈ ends) := by
            rw [List.getD_eq_getElem?_getD, List.getElem?_map, List.getElem?_eq_getElem hof]
            obtain ⟨_, ge⟩ := gi_at (g := o) (a := ((r.idxOf (i : Int) : Nat) : Int)) ⟨by omega, by omega⟩
            rw [ge] <;> rfl
          refine ⟨T2, _, rfl, SqT.of upd_same, rfl, _, _, rfl, _, _, rfl, rfl, rfl, ?_⟩
          refine ⟨_, rfl, _, rfl, u, _, _, _, rfl, rfl, SqL.of (sKt _ _ (s8k _ _ hu8)), gi_atI ⟨by omega, by omega⟩, _, rfl, D, _, rfl, marks (sKt _ _ (s8k _ _ hdm8)) _, _, rfl, ?_⟩
          rw [hv, ← eM, rng_succ, List.filter_append, List.map_append]
          cases eb : (o.map fun a => decide (a ∈ ends)).getD (r.idxOf (i : Int)) false with
          | true =>
            refine iteT ?_
            refine ⟨_, rfl, _, st _ _ hdx, ?_, same_at sKt hD5, ?_⟩
            · rw [List.length_map, sizeLine_eq]
              have := List.length_filter_le (fun a => (o.map fun a => decide (a ∈ ends)).getD (r.idxOf a) false) (rngI i)
              rw [rng_len] at this
              omega
            · rw [upd_same, show List.filter (fun a => (o.map fun a => decide (a ∈ ends)).getD (r.idxOf a) false) [(i : Int)] = [(i : Int)] from List.filter_cons_of_pos (l := []) eb] <;> rfl
          | false =>
            refine iteF ?_
            refine ⟨sKt, ?_⟩
            rw [show List.filter (fun a => (o.map fun a => decide (a ∈ ends)).getD (r.idxOf a) false) [(i : Int)] = [] from List.filter_cons_of_neg (l := []) (by rw [eb]; exact Bool.false_ne_true), List.map_nil, List.append_nil]
            exact st _ _ hdx
        · rintro HX ⟨sx, hdx⟩
          rw [List.length_map, rng_len] at hdx
          refine ⟨D5, _, rfl, .inl ⟨SqL.of hdx, fun en hen => ?_⟩⟩
          have se := same_upd (o := .tup ((endsK (o.map fun a => decide (a ∈ ends)) r).map V.int)) hen
          refine ⟨by show 2 ≤ sizeLine; decide, fun pp hpp => ?_⟩
          have sp_ := same_upd (o := .tup [V.ref kp, .ref en]) hpp
          have sKe := sx.trans (se.trans sp_)
          have sall := s08.trans (s8k.trans sKe)
          refine q pp kp en (kept B r) (endsK (o.map fun a => decide (a ∈ ends)) r) _ ((s08.trans (s8k.trans (sx.trans se))).free hpp) sall upd_same (kpr.keep (Same.tup' sKe)) (sp_ _ _ upd_same) (lst _ _ ⟨r, rf, rfl, rfl⟩)
end
end RM
set_option Elab.async false
set_option linter.all false
set_option maxRecDepth 100000
set_option maxHeartbeats 8000000
namespace OWN
open PySem PySem.Spec L2 PyProof.Rows
/-- an instance that stands in H -/
theorem inst_at {X : Cx} {pins : List (Addr × Obj)} {σ : L2.St} {H : Hp} {s : Shared} {a C dx : Addr} {fs : List (Str × V)} (I : Inv X pins σ H s) (at_ : H a = some (.ins C dx fs)) : ∃ od : Obj, PySem.W.InstAt s.heap a (PySem.W.instObj C dx) C (some od) :=
  let ⟨_, j, _⟩ := ins_get I.hok at_
  let ⟨od, k, _⟩ := j.look
  ⟨od, k⟩
end OWN
set_option Elab.async false
set_option linter.all false
set_option maxRecDepth 100000
set_option maxHeartbeats 8000000
namespace RM
open PySem L2 PyProof.Rows LCX K1 FV DP WK ND
open TX (sg sigs)
open PySem.W (Frag kitOne)
structure TMk (K : Frag) (mg : Str → Option Value) (C cD : Addr) : Prop where
  cl : Cls K C
  nT : NoAttr K C "_table"
  nL : NoAttr K C "_letters"
  nE : NoAttr K C "_ends"
  clD : Cls K cD
  nR : NoAttr K cD "rows"
  gC : mg "Machine" = some (.ref C)
  gD : mg "Made" = some (.ref cD)
  tyD : ∀ {H : Hp} {a dx : Addr} {fs : List (Str × V)}, H a = some (.ins cD dx fs) → TyOf K H (.ref a) (.ref cD)
/-- a machine at o -/
def MacAt (C : Addr) (H : Hp) (o : Addr) (L : W) (tb : List (List Int)) (es : List Int) : Prop := ∃ dx t e : Addr, H o = some (.ins C dx (mfl (.str (tx L)) (.ref t) (.ref e))) ∧ RowsAt H t tb ∧ H e = some (oTup es)
theorem MacAt.same {C : Addr} {H H' : Hp} {o : Addr} {L : W} {tb : List (List Int)} {es : List Int} (h : MacAt C H o L tb es) (s : Same H H') : MacAt C H' o L tb es := by
  obtain ⟨dx, t, e, h1, h2, h3⟩ := h
  exact ⟨dx, t, e, s _ _ h1, h2.keep (Same.tup' s), s _ _ h3⟩
def spMInitD (C cD : Addr) : Sp := fun vs H Q _ => ∃ (p dx : Addr) (L : W) (g e : Addr) (tb : List (List Int)) (es : List Int), vs = [.ref p, .str (tx L), .ref g, .ref e] ∧ Let L ∧ H p = some (.ins C dx []) ∧ g ≠ p ∧ e ≠ p ∧ MadeAt cD H g tb ∧ H e = some (oTup es) ∧ Asc (tb.length : Nat) es ∧ tb.length ≤ 100 ∧
  ∀ H', MacAt C H' p L tb es → (∀ b o, H b = some o → b ≠ p → H' b = some o) → Q .non H'
section
variable {P : Program} {w : World} {K : PySem.W.Frag} {mg : Str → Option Value} {base : Heap} {C cD fL fA : Addr} {dL dA : FuncData}
theorem scMI2 : FnScope ["self", "letters", "table", "ends"] ["self", "letters", "table", "ends"] (defScope sMInit) := ⟨rfl, rfl, rfl, by decide +kernel, rfl, by decide +kernel, by decide +kernel⟩
theorem ok_minitD {f : Addr} {oc kV dc pm ct cd dV : Value} {an od : Option Addr} {sl : Array (Option Value)} (lk : K.lookup f = some ⟨oc, od, .func (PySem.W.fnOf "__init__" "Machine.__init__" (defArgs sMInit) (defBody sMInit) (defScope sMInit) dV kV dc pm an cd ct), sl⟩) (hcd : PySem.W.codeIn K cd "Machine.__init__" = true)
    (T : TN mg) (M : TMk K mg C cD) (AL : Fn K mg "is_letters" sIsLet ["value"] fL dL) (GL : FnOk P w K mg base CX0 2 fL dL ["value"] (spIsLet K))
    (AA : Fn K mg "is_ascending" sIsAsc ["value", "many"] fA dA) (GA : FnOk P w K mg base CX0 3 fA dA ["value", "many"] (spIsAsc K)) :
    FnOk P w K mg base CX0 4 f (PySem.W.fnOf "__init__" "Machine.__init__" (defArgs sMInit) (defBody sMInit) (defScope sMInit) dV kV dc pm an cd ct) ["self", "letters", "table", "ends"] (spMInitD C cD) := by
  refine fn_of lk hcd scMI2 (fun vs H Q E h => ?_) (fun A outer s H vs Q E hr h => ?_)
  · obtain ⟨p, dx, L, g, e, tb, es, rfl, _⟩ := h
    rfl
  · obtain ⟨p, dx, L, g, e, tb, es, rfl, hL, hp, hgp, hep, ⟨gx, r, hg, rows⟩, he, as, few, q⟩ := h
    have hr3 : Room 3 _ := hr.mono (by decide)
    have hr2 : Room 2 _ := hr.mono (by decide)
    refine ⟨_, pss_cons (ps_if (pt_not (pt_val (pe_call GL hr2 rfl AL.g AL.F.kp AL.b .nil pass0 (pa_cons (pv 1) pa_nil)))) (pss_one ps_never) pss_nil)
      (pss_cons (ps_if (pt_val (pe_callB call_isi (by rfl) T.isi (by decide +kernel) (pa_cons (pv 2) (pa_cons (pe_glob rfl M.gD (show RelV (.ref cD) (.ref cD) from rfl)) pa_nil)))) (pss_one (ps_fld (pv 0) (pe_fld (pv 2) rfl) rfl)) (pss_one ps_never))
      (pss_cons (ps_if (pt_not (pt_val (pe_call GA hr3 rfl AA.g AA.F.kp AA.b .nil pass0 (pa_cons (pv 3) (pa_cons (pe_callB call_len_seq (by rfl) T.len PySem.boot_len (pa_cons (pe_fld (pv 0) rfl) pa_nil)) pa_nil))))) (pss_one ps_never) pss_nil)
      (pss_cons (ps_fld (pv 0) (pv 1) rfl) (pss_one (ps_fld (pv 0) (pv 3) rfl))))), ?_⟩
    refine ⟨_, rfl, _, rfl, .inl ⟨tx L, rfl, by rw [tx_len]; have := hL.few; omega, fun H1 s1 => ⟨_, rfl, ?_⟩⟩⟩
    rw [letB_let hL]
    refine ⟨_, rfl, _, _, _, _, true, rfl, .own cD, .base (M.tyD (s1 _ _ hg)), if_pos (beq_self_eq_true _), true, rfl, ?_⟩
    have hp1 := s1 _ _ hp
    refine ⟨_, rfl, g, cD, gx, _, _, rfl, s1 _ _ hg, M.clD, M.nR, rfl, _, rfl, p, C, dx, [], rfl, hp1, M.cl, M.nT, by show 0 < 1000; decide, ?_⟩
    have kt1 := tup_upd (o := .ins C dx (putF "_table" (V.ref r) [])) hp1 fun _ z => nomatch z
    have rows2 := (rows.keep (Same.tup' s1)).keep kt1
    have he2 : upd H1 p (.ins C dx (putF "_table" (V.ref r) [])) e = some (oTup es) := kt1 _ _ (s1 _ _ he)
    have hp2 : upd H1 p (.ins C dx (putF "_table" (V.ref r) [])) p = some (.ins C dx (putF "_table" (V.ref r) [])) := upd_same
    have off : ∀ b o, H b = some o → b ≠ p → upd H1 p (.ins C dx (putF "_table" (V.ref r) [])) b = some o := fun b o z n => by rw [upd_ne n]; exact s1 _ _ z
    generalize upd H1 p (.ins C dx (putF "_table" (V.ref r) [])) = H2 at rows2 he2 hp2 off
    obtain ⟨ts, t1, t2⟩ := rows2
    have tl : (ts.map V.ref).length = tb.length := by rw [List.length_map, t2.len]
    refine ⟨_, rfl, _, rfl, p, C, dx, _, _, rfl, hp2, M.cl, M.nT, rfl, r, _, rfl, .inr (SqT.of t1), ?_⟩
    rw [tl]
    have el := asc_len as (by omega)
    refine ⟨_, _, rfl, .inl ⟨e, es.map V.int, rfl, SqT.of he2, by rw [List.length_map]; omega, fun x hx => ?_, fun H3 s3 => ⟨_, rfl, ?_⟩⟩⟩
    · obtain ⟨i, _, rfl⟩ := List.mem_map.mp hx
      exact .inl ⟨i, rfl⟩
    rw [ascV_in as]
    have hp3 := s3 _ _ hp2
    refine ⟨_, rfl, _, rfl, p, C, dx, _, rfl, hp3, M.cl, M.nL, by show 1 < 1000; decide, ?_⟩
    refine ⟨_, rfl, _, rfl, p, C, dx, _, rfl, upd_same, M.cl, M.nE, ?_, ?_⟩
    · show (putF "_letters" (V.str (tx L)) (putF "_table" (V.ref r) [])).length < 1000
      rw [put2]
      exact (show 2 < 1000 by decide)
    rw [L2.upd_upd, put2, put3]
    have kt3 := tup_upd (o := .ins C dx (mfl (.str (tx L)) (.ref r) (.ref e))) hp3 fun _ z => nomatch z
    refine q _ ⟨dx, r, e, upd_same, ⟨ts, kt3 _ _ (s3 _ _ t1), objs_tup (objs_tup t2 (Same.tup' s3)) kt3⟩, kt3 _ _ (s3 _ _ he2)⟩ fun b o z n => ?_
    rw [upd_ne n]
    exact s3 _ _ (off b o z n)
end
end RM
set_option Elab.async false
set_option linter.all false
set_option maxRecDepth 100000
set_option maxHeartbeats 8000000
namespace RM
open PySem L2 PyProof.Rows LCX K1 FV DP WK ND
open TX (sg sigs)
open PySem.W (Frag kitOne)
abbrev sLM : Stmt := top 44
abbrev NLM : List Str := ["letters", "table", "ends", "start", "rows", "kept"]
def spLM (K : Frag) (C : Addr) : Sp := fun vs H Q _ => ∃ (L : W) (t e : Addr) (T : List (List Int)) (n : Int) (ends : List Int), vs = [.str (tx L), .ref t, .ref e, .int 0] ∧ Let L ∧ TTab K H t T ∧ TabOk T L.length n ∧ 1 ≤ n ∧ n ≤ 100 ∧ H e = some (oTup ends) ∧ ends.length ≤ 900 ∧
  ∀ o kp en H', H o = none → Same H H' → MacAt C H' o L kp en → Least T L.length ends kp en → Q (.ref o) H'
theorem pairwise_filter {p : Int → Bool} {l : List Int} (h : l.Pairwise (· < ·)) : (l.filter p).Pairwise (· < ·) := h.filter p
theorem rng_pw (n : Nat) : (rngI n).Pairwise (· < ·) := by
  unfold rngI
  refine List.Pairwise.map _ ?_ List.pairwise_lt_range
  intro a b h
  omega
theorem Least.asc {T : List (List Int)} {wd : Nat} {n : Int} {ends : List Int} {kp : List (List Int)} {en : List Int} (l : Least T wd ends kp en) : Asc (kp.length : Nat) en := by
  obtain ⟨g, r, rfl, rfl⟩ := l
  rw [kept_len]
  refine ⟨fun i hi => ?_, pairwise_filter (rng_pw _)⟩
  exact rng_mem.mp ((List.mem_filter.mp hi).1)
section
variable {P : Program} {w : World} {K : PySem.W.Frag} {mg : Str → Option Value} {base : Heap} {C cD fP fI fD : Addr} {dP dI dD : FuncData}
theorem scLM : FnScope NLM ["letters", "table", "ends", "start"] (defScope sLM) := ⟨rfl, rfl, rfl, by decide +kernel, rfl, by decide +kernel, by decide +kernel⟩
theorem ok_lm {f : Addr} {oc kV dc pm ct cd dV : Value} {an od : Option Addr} {sl : Array (Option Value)} (lk : K.lookup f = some ⟨oc, od, .func (PySem.W.fnOf "least_machine" "least_machine" (defArgs sLM) (defBody sLM) (defScope sLM) dV kV dc pm an cd ct), sl⟩) (hcd : PySem.W.codeIn K cd "least_machine" = true)
    (M : TMk K mg C cD) (AP : Fn K mg "least_parts" sLP ["table", "ends", "start"] fP dP) (GP : FnOk P w K mg base CX0 3 fP dP ["table", "ends", "start"] (spLP K))
    (MI : Mk K C fI) (GI : FnOk P w K mg base CX0 4 fI dI ["self", "letters", "table", "ends"] (spMInitD C cD)) (bI : Binds K dI ["self", "letters", "table", "ends"] []) (MD : Mk K cD fD) (GD : FnOk P w K mg base CX0 1 fD dD ["self", "rows"] (spMadeI cD)) (bD : Binds K dD ["self", "rows"] []) :
    FnOk P w K mg base CX0 6 f (PySem.W.fnOf "least_machine" "least_machine" (defArgs sLM) (defBody sLM) (defScope sLM) dV kV dc pm an cd ct) ["letters", "table", "ends", "start"] (spLM K C) := by
  refine fn_of lk hcd scLM (fun vs H Q E h => ?_) (fun A outer s H vs Q E hr h => ?_)
  · obtain ⟨L, t, e, T, n, ends, rfl, _⟩ := h
    rfl
  · obtain ⟨L, t, e, T, n, ends, rfl, hL, hT, ok, n1, n2, he, hel, q⟩ := h
    have hr3 : Room 3 _ := hr.mono (by decide)
    have hr2 : Room 2 _ := hr.mono (by decide)
    refine ⟨_, pss_cons (ps_asg (pe_call (E := E0) GP hr3 rfl AP.g AP.F.kp AP.b .nil pass0 (pa_cons (pv 1) (pa_cons (pv 2) (pa_cons (pv 3) pa_nil)))) (pg_tup (by rfl) (pgs_cons (pg_name (i := 4) scLM.nd rfl (Or.inl rfl)) (pgs_cons (pg_name (i := 5) scLM.nd rfl (Or.inl rfl)) pgs_nil))))
      (pss_one (ps_ret (pe_make (E := E0) MI GI hr rfl M.gC bI .nil pass0 (pa_cons (pv 0) (pa_cons (pe_make (E := E0) MD GD hr2 rfl M.gD bD .nil pass0 (pa_cons (pv 4) pa_nil)) (pa_cons (pv 5) pa_nil)))))), ?_⟩
    have hw := hL.few
    refine ⟨_, rfl, _, rfl, _, rfl, t, e, T, L.length, n, ends, rfl, hT, ok, n1, by omega, by omega, he, hel, fun p kpA enA kp en H1 np s1 hp rows he1 l => ?_⟩
    refine ⟨p, _, rfl, SqT.of hp, rfl, _, _, rfl, _, _, rfl, rfl, ?_⟩
    refine ⟨_, rfl, _, rfl, ?_⟩
    intro x dx hx hdx ne
    refine ⟨x, dx, _, rfl, upd_same, rfl, ?_⟩
    have s3 : Same H1 (upd (upd (upd H1 dx (.own x)) x (.ins cD dx [])) x (.ins cD dx [("rows", .ref kpA)])) := fun b o z => by rw [upd_ne (ne_of_none z hx), upd_ne (ne_of_none z hx), upd_ne (ne_of_none z hdx)]; exact z
    have mk : MadeAt cD (upd (upd (upd H1 dx (.own x)) x (.ins cD dx [])) x (.ins cD dx [("rows", .ref kpA)])) x kp := ⟨dx, kpA, upd_same, rows.keep (Same.tup' s3)⟩
    generalize upd (upd (upd H1 dx (.own x)) x (.ins cD dx [])) x (.ins cD dx [("rows", .ref kpA)]) = H2 at s3 mk
    refine ⟨_, rfl, ?_⟩
    intro y dy hy hdy ney
    have s4 : Same H2 (upd (upd H2 dy (.own y)) y (.ins C dy [])) := fun b o z => by rw [upd_ne (ne_of_none z hy), upd_ne (ne_of_none z hdy)]; exact z
    obtain ⟨t1, t2, t3, t4⟩ := l.tab ok n1
    have hln := ok.len
    refine ⟨y, dy, L, x, enA, kp, en, rfl, hL, upd_same, ?_, ?_, ?_, s4 _ _ (s3 _ _ he1), l.asc (n := n), by omega, fun H5 mac off => ⟨rfl, ?_⟩⟩
    · obtain ⟨dx', r', a1, a2⟩ := mk
      exact ne_of_none a1 hy
    · exact ne_of_none (s3 _ _ he1) hy
    · obtain ⟨dx', r', a1, a2⟩ := mk
      exact ⟨dx', r', s4 _ _ a1, a2.keep (Same.tup' s4)⟩
    · have sall : Same H H5 := fun b o z => off b o (s4 _ _ (s3 _ _ (s1 _ _ z))) (ne_of_none (s3 _ _ (s1 _ _ z)) hy)
      have ny : H y = none := (s1.trans s3).free hy
      exact q y kp en H5 ny sall mac l
end
end RM
set_option Elab.async false
set_option linter.all false
set_option maxRecDepth 100000
set_option maxHeartbeats 8000000
namespace RM
open PySem L2 PyProof.Rows LCX K1 FV DP WK ND
open TX (sg sigs)
open PySem.W (Frag kitOne)
theorem eqV_int (a b : Int) : eqV (.int a) (.int b) = decide (a = b) := by
  show (a == b) = decide (a = b)
  rfl
theorem inV_int (r : Int) (es : List Int) : inV (.int r) (es.map V.int) = decide (r ∈ es) := by
  unfold inV
  rw [Bool.eq_iff_iff, decide_eq_true_eq, List.any_map, List.any_eq_true]
  constructor
  · rintro ⟨e, he, h⟩
    have h2 : eqV (.int e) (.int r) = true := h
    rw [eqV_int] at h2
    rw [← of_decide_eq_true h2]
    exact he
  · exact fun h => ⟨r, h, (eqV_int r r).trans (decide_eq_true rfl)⟩
theorem flat_ints (es : List Int) : (es.map V.int).all flatV = true := by
  rw [List.all_eq_true]
  intro v hv
  obtain ⟨i, _, rfl⟩ := List.mem_map.mp hv
  rfl
theorem mfl_T (a b c : V) : (mfl a b c).lookup ("_table" : Str) = some b := by
  rw [← put3, lookup_putF, if_neg (by decide +kernel), ← put2, lookup_putF, if_neg (by decide +kernel)]
  rfl
theorem mfl_L (a b c : V) : (mfl a b c).lookup ("_letters" : Str) = some a := by
  rw [← put3, lookup_putF, if_neg (by decide +kernel), ← put2, lookup_putF, if_pos rfl]
theorem mfl_E (a b c : V) : (mfl a b c).lookup ("_ends" : Str) = some c := by
  rw [← put3, lookup_putF, if_pos rfl]
abbrev sMLeast : Stmt := inClass (top 43) 9
def spMLeast (C : Addr) : Sp := fun vs H Q _ => ∃ (o : Addr) (L : W) (tb : List (List Int)) (es : List Int) (n : Int), vs = [.ref o] ∧ MacAt C H o L tb es ∧ Let L ∧ TabOk tb L.length n ∧ 1 ≤ n ∧ n ≤ 100 ∧ es.length ≤ 900 ∧ ∀ p kp en H', H p = none → Same H H' → MacAt C H' p L kp en → Least tb L.length es kp en → Q (.ref p) H'
section
variable {P : Program} {w : World} {K : PySem.W.Frag} {mg : Str → Option Value} {base : Heap} {C cD CM cT fW fO fL fA fM fT gN : Addr} {dW dO dL dA dM dT dN : FuncData}
theorem scMLs : FnScope ["self"] ["self"] (defScope sMLeast) := ⟨rfl, rfl, rfl, by decide +kernel, rfl, by decide +kernel, by decide +kernel⟩
theorem ok_mleast {f : Addr} {fd : FuncData} {v0 : Value} {t0 : Tok} (ev : v0 = .int 0 t0) (F : Fun K "least" "Machine.least" sMLeast f fd) (M : TMk K mg CM cD) (gM : mg "least_machine" = some (.ref fM)) (kM : PySem.W.keepIn K (.ref fM) = true) (GM : FnOk P w K mg base CX0 6 fM dM ["letters", "table", "ends", "start"] (spLM K CM)) (bM : Binds K dM ["letters", "table", "ends", "start"] [v0]) :
    FnOk P w K mg base CX0 7 f fd ["self"] (spMLeast CM) := by
  refine F.ok scMLs (fun vs H Q E h => ?_) (fun cdv A outer s H vs Q E hr h => ?_)
  · obtain ⟨o, _, _, _, _, rfl, _⟩ := h
    rfl
  · obtain ⟨o, L, tb, es, n, rfl, ⟨dx, t, e, h1, h2, h4⟩, hL, ok, n1, n2, hel, q⟩ := h
    refine ⟨_, pss_one (ps_ret (pe_call (E := E0) GM hr rfl gM kM bM (dvs := [.int 0]) (.cons ⟨t0, ev⟩ .nil) pass0 (pa_cons (pe_fld (pv 0) rfl) (pa_cons (pe_fld (pv 0) rfl) (pa_cons (pe_fld (pv 0) rfl) pa_nil))))), ?_⟩
    exact ⟨_, rfl, o, CM, dx, _, _, rfl, h1, M.cl, M.nL, mfl_L _ _ _, _, rfl, o, CM, dx, _, _, rfl, h1, M.cl, M.nT, mfl_T _ _ _, _, rfl, o, CM, dx, _, _, rfl, h1, M.cl, M.nE, mfl_E _ _ _, L, t, e, tb, n, es, rfl, hL, rows_tt h2, ok, n1, n2, h4, hel, q⟩
end
end RM
set_option Elab.async false
set_option linter.all false
set_option maxRecDepth 100000
set_option maxHeartbeats 8000000
namespace WK
open PySem L2 PyProof.Rows LCX K1 FV DP DL
open TX (sg sigs)
open PySem.W (Frag kitOne)
abbrev sNeedMs : Stmt := top 45
abbrev sKnots : Stmt := top 50
theorem KnotsOk.one {n : Nat} {row : Nat → List Nat} {a b : List (List Int)} (ha : KnotsOk n row a) (hb : KnotsOk n row b) : a = b := by
  have into : ∀ {a b : List (List Int)}, KnotsOk n row a → KnotsOk n row b → ∀ k ∈ a, k ∈ b := fun {a b} ha hb k hk => by
    obtain ⟨ak, s, sn, hs⟩ := ha.each k hk
    obtain ⟨k', hk', m⟩ := hb.all s sn
    obtain ⟨ak', s', _, hs'⟩ := hb.each k' hk'
    obtain ⟨y, ey, g⟩ := (hs' _).mp m
    obtain rfl : s = y := Int.ofNat.inj ey
    rw [asc_eq ak ak' fun x => (hs x).trans (Iff.trans ?_ (hs' x).symm)]
    · exact hk'
    · exact ⟨fun ⟨z, e, h⟩ => ⟨z, e, g.trans h⟩, fun ⟨z, e, h⟩ => ⟨z, e, g.symm.trans h⟩⟩
  refine List.Perm.eq_of_pairwise (le := fun x y : List Int => x.headD 0 ≤ y.headD 0) (fun x y hx hy h1 h2 => ?_) ha.asc hb.asc ((List.perm_ext_iff_of_nodup ha.nd hb.nd).mpr fun k => ⟨into ha hb k, into hb ha k⟩)
  have hy := into hb ha y hy
  obtain ⟨ax, s, _, hs⟩ := ha.each x hx
  obtain ⟨ay, s', _, hs'⟩ := ha.each y hy
  have hd : ∀ {k : List Int} {s : Nat}, (∀ x : Int, x ∈ k ↔ ∃ y : Nat, x = ((y : Nat) : Int) ∧ KN.Scc row s y) → k.headD 0 ∈ k := fun {k s} h => by
    have m := (h ((s : Nat) : Int)).mpr ⟨s, rfl, KN.Scc.refl s⟩
    revert m
    cases k with
    | nil => exact fun z => absurd z List.not_mem_nil
    | cons x l => exact fun _ => .head _
  have e := Int.le_antisymm h1 h2
  have m1 := hd hs
  have m2 := hd hs'
  rw [← e] at m2
  obtain ⟨y1, ey1, g1⟩ := (hs _).mp m1
  obtain ⟨y2, ey2, g2⟩ := (hs' _).mp m2
  obtain rfl : y1 = y2 := Int.ofNat.inj (ey1.symm.trans ey2)
  exact asc_eq ax ay fun x => (hs x).trans (Iff.trans ⟨fun ⟨z, e, h⟩ => ⟨z, e, g2.trans (g1.symm.trans h)⟩, fun ⟨z, e, h⟩ => ⟨z, e, g1.trans (g2.symm.trans h)⟩⟩ (hs' x).symm)
def InsAt (C : Addr) (H : Hp) (a : Addr) : Prop := ∃ dx fs, H a = some (.ins C dx fs)
def spNeedMn (K : Frag) (C : Addr) : Sp := fun vs H Q _ => ∃ (t : Addr) (as : List Addr), vs = [.ref t] ∧ SqT K H t (as.map V.ref) ∧ (∀ a ∈ as, InsAt C H a) ∧ Q .non H
def spKnots (C : Addr) : Sp := fun vs H Q _ => ∃ (m : Addr) (L : W) (tb : List (List Int)) (es : List Int) (n : Int), vs = [.ref m] ∧ MacAt C H m L tb es ∧ TabOk tb L.length n ∧ tb.length < 64 ∧ L.length ≤ 15 ∧
  ∀ (p : Addr) (zs : List Tu) H', H p = none → Same H H' → H' p = some (.tup (refT zs)) → Tus H' zs → KnotsOk tb.length (rowN tb) (zs.map (·.2)) → Q (.ref p) H'
section
variable {P : Program} {w : World} {K : PySem.W.Frag} {mg : Str → Option Value} {base : Heap} {C cD cM pT gT fN fK : Addr} {dT dN dK : FuncData}
theorem scNM : FnScope ["machines", "machine"] ["machines"] (defScope sNeedMs) := ⟨rfl, rfl, rfl, by decide +kernel, rfl, by decide +kernel, by decide +kernel⟩
theorem scKs : FnScope ["machine"] ["machine"] (defScope sKnots) := ⟨rfl, rfl, rfl, by decide +kernel, rfl, by decide +kernel, by decide +kernel⟩
theorem ok_needmn {f : Addr} {fd : FuncData} (F : Fun K "need_machines" "need_machines" sNeedMs f fd) (T : TN mg) (M : TMc K mg C cD cM) (is : SlX.SIsi K C) (kC : kitOne K (.ref C) (.ref C) = some true) : FnOk P w K mg base CX0 1 f fd ["machines"] (spNeedMn K C) := by
  refine F.ok scNM (fun vs H Q E h => ?_) (fun cdv A outer s H vs Q E hr h => ?_)
  · obtain ⟨t, _, rfl, _⟩ := h
    rfl
  · obtain ⟨t, as, rfl, hT, ha, q⟩ := h
    refine ⟨_, pss_one (ps_for PassesOwn.never rfl (pi_tup (pv 0)) (pg_name (i := 1) scNM.nd rfl (Or.inl rfl))
      (pss_one (ps_if (pt_not (pt_val (pe_callB call_isi (by rfl) T.isi (by decide +kernel) (pa_cons (pv 1) (pa_cons (pe_glob rfl M.gC (show RelV (.ref C) (.ref C) from rfl)) pa_nil))))) (pss_one ps_never) pss_nil))), ?_⟩
    refine ⟨_, rfl, t, rfl, ⟨_, hT⟩, ?_⟩
    refine for_tup (xs := as.map V.ref) (fun i σ H' => (∃ x, σ = [some (.ref t), x]) ∧ H' = H) ⟨⟨_, rfl⟩, rfl⟩ (fun _ _ H' _ h => by rw [h.2]; exact hT) ?_ ?_
    · rintro i x σ H2 hx ⟨⟨y, rfl⟩, rfl⟩
      rw [List.getElem?_map] at hx
      obtain ⟨a, hi, rfl⟩ := Option.map_eq_some_iff.mp hx
      obtain ⟨dx, fs, hz⟩ := ha a (List.mem_of_getElem? hi)
      exact ⟨_, rfl, _, _, _, _, true, rfl, .own C, .base (.ins hz M.cl is.ca is.cn is.ct is.cm), kC, _, rfl, ⟨_, rfl⟩, rfl⟩
    · rintro σ H2 ⟨⟨y, rfl⟩, rfl⟩
      exact q
theorem ok_knots {f : Addr} {fd : FuncData} (F : Fun K "knots" "knots" sKnots f fd) (M : TMc K mg C cD cM) (AN : Fn K mg "need_machines" sNeedMs ["machines"] fN dN) (GN : FnOk P w K mg base CX0 1 fN dN ["machines"] (spNeedMn K C)) (RT : PropOf K C "table" pT gT) (GT : FnOk P w K mg base CX0 1 gT dT ["self"] (getSp C "_table")) (bT : Binds K dT ["self"] [])
    (AK : Fn K mg "knots_of" sKnotsOf ["table"] fK dK) (GK : FnOk P w K mg base CX0 2 fK dK ["table"] (spKnotsOf K)) : FnOk P w K mg base CX0 3 f fd ["machine"] (spKnots C) := by
  refine F.ok scKs (fun vs H Q E h => ?_) (fun cdv A outer s H vs Q E hr h => ?_)
  · obtain ⟨m, _, _, _, _, rfl, _⟩ := h
    rfl
  · obtain ⟨m, L, tb, es, n, rfl, mac, ok, n1, w1, q⟩ := h
    have hr1 : Room 1 _ := hr.mono (by decide)
    refine ⟨_, pss_cons (ps_expr (pe_call GN hr1 rfl AN.g AN.F.kp AN.b .nil pass0 (pa_cons (pe_tup (pa_cons (pv 0) pa_nil)) pa_nil)))
      (pss_one (ps_ret (pe_call GK hr rfl AK.g AK.F.kp AK.b .nil pass0 (pa_cons (pe_prop (E := E0) (pv 0) M.cl RT GT hr bT .nil pass0 rfl) pa_nil)))), ?_⟩
    obtain ⟨dx, t, e, ts, hm, h2, h3, h4⟩ := id mac.ex
    refine ⟨_, rfl, (by show 1 ≤ sizeLine; decide), fun p1 hp1 => ⟨p1, [m], rfl, SqT.of upd_same, fun a ha => ?_, ?_⟩⟩
    · rw [List.mem_singleton.mp ha]
      exact ⟨dx, _, same_upd hp1 _ _ hm⟩
    have s1 := same_upd (o := .tup [.ref m]) hp1
    generalize upd H p1 (.tup [.ref m]) = H1 at s1 ⊢
    refine ⟨_, rfl, m, dx, _, rfl, s1 _ _ hm, m, dx, _, _, rfl, s1 _ _ hm, ?_, t, tb, L.length, n, rfl, ⟨ts, SqT.of (s1 _ _ h2), h3.to fun a _ r e => s1 _ _ e⟩, ok, n1, w1, fun p zs H2 np s2 hp tus kn => ?_⟩
    · exact RM.mfl_T _ _ _
    · exact q p zs H2 (s1.free np) (s1.trans s2) hp tus kn
end
end WK
set_option Elab.async false
set_option linter.all false
set_option maxRecDepth 100000
set_option maxHeartbeats 8000000
namespace WK
open PySem L2 PyProof.Rows LCX K1 FV DP
open TX (sg sigs)
open PySem.W (Frag kitOne)
/-- the rows met, each with the columns of its first way -/
abbrev Wy := List (Int × List Nat)
def addP (u : List Nat) (o : Wy) (p : Int × Nat) : Wy := if p.1 ∈ o.map (·.1) then o else o ++ [(p.1, u ++ [p.2])]
def wyP (tb : List (List Int)) (st : Int) : Nat → Wy
  | 0 => [(st, [])]
  | j + 1 => match (wyP tb st j)[j]? with
    | some (r, u) => ((tb.getD r.toNat []).zipIdx).foldl (addP u) (wyP tb st j)
    | none => wyP tb st j
theorem addP_fst (u : List Nat) (o : Wy) (p : Int × Nat) : (addP u o p).map (·.1) = addN (o.map (·.1)) p.1 := by
  unfold addP addN
  split
  · rfl
  · rw [List.map_append] <;> rfl
theorem foldP_fst (u : List Nat) : ∀ (l : List (Int × Nat)) (o : Wy), (l.foldl (addP u) o).map (·.1) = (l.map (·.1)).foldl addN (o.map (·.1))
  | [], _ => rfl
  | p :: l, o => by
    rw [List.foldl_cons, foldP_fst u l, addP_fst] <;> rfl
theorem wyP_fst {tb : List (List Int)} {st : Int} : ∀ j, (wyP tb st j).map (·.1) = wyA tb st j
  | 0 => rfl
  | j + 1 => by
    have ih := wyP_fst (tb := tb) (st := st) j
    have e : (wyA tb st j)[j]? = ((wyP tb st j)[j]?).map (·.1) := by rw [← ih, List.getElem?_map]
    show (match (wyP tb st j)[j]? with | some (r, u) => _ | none => _ : Wy).map (·.1) = (match (wyA tb st j)[j]? with | some r => _ | none => _)
    rw [e]
    cases hq : (wyP tb st j)[j]? with
    | none => exact ih
    | some p =>
      obtain ⟨r, u⟩ := p
      show (((tb.getD r.toNat []).zipIdx).foldl (addP u) (wyP tb st j)).map (·.1) = (tb.getD r.toNat []).foldl addN (wyA tb st j)
      rw [foldP_fst, List.zipIdx_map_fst, ih]
theorem wyP_at {tb : List (List Int)} {st r : Int} {u : List Nat} {j : Nat} (h : (wyP tb st j)[j]? = some (r, u)) : wyP tb st (j + 1) = ((tb.getD r.toNat []).zipIdx).foldl (addP u) (wyP tb st j) := by
  show (match (wyP tb st j)[j]? with | some (r, u) => _ | none => _) = _
  rw [h]
theorem wyP_stop {tb : List (List Int)} {st : Int} {j : Nat} (h : (wyP tb st j).length ≤ j) : ∀ m, wyP tb st (j + m) = wyP tb st j
  | 0 => rfl
  | m + 1 => by
    have ih := wyP_stop h m
    show (match (wyP tb st (j + m))[j + m]? with | some (r, u) => _ | none => _) = _
    rw [List.getElem?_eq_none (by rw [ih]; omega)]
    exact ih
/-- each reached row but the first has the row ahead of it, met before, and the column -/
def WOk (H : Hp) (wd : Nat) (kvs : List (Key × V)) (o : Wy) : Prop := ∀ (i : Nat) (a : Int) (u : List Nat), o[i]? = some (a, u) → (u = [] ∧ valV kvs (Sum.inl a : Key) = some .non) ∨ ∃ (T : Addr) (j c : Nat) (b : Int) (v : List Nat), j < i ∧ o[j]? = some (b, v) ∧ u = v ++ [c] ∧ c < wd ∧ valV kvs (Sum.inl a : Key) = some (.ref T) ∧ H T = some (.tup [.int b, .int (c : Int)])
theorem WOk.keep {H H' : Hp} {wd : Nat} {kvs : List (Key × V)} {o : Wy} (h : WOk H wd kvs o) (k : KeepsTup H H') : WOk H' wd kvs o := fun i a u e => (h i a u e).imp id fun ⟨T, j, c, b, v, h1, h2, h3, h4, h5, h6⟩ => ⟨T, j, c, b, v, h1, h2, h3, h4, h5, k _ _ h6⟩
theorem WOk.one (H : Hp) (wd : Nat) (st : Int) : WOk H wd (putK [] (Sum.inl st : Key) .non) [(st, [])] := fun i a u e => by
  have e2 : (a, u) = (st, []) := List.mem_singleton.mp (List.mem_of_getElem? e)
  cases e2
  exact .inl ⟨rfl, by rw [valV_put, if_pos rfl]⟩
theorem WOk.put {H : Hp} {wd c j0 : Nat} {kvs : List (Key × V)} {o : Wy} {y r : Int} {v : List Nat} {T : Addr} (h : WOk H wd kvs o) (hy : y ∉ o.map (·.1)) (hT : H T = some (.tup [.int r, .int (c : Int)])) (hr : o[j0]? = some (r, v)) (hc : c < wd) : WOk H wd (putK kvs (Sum.inl y : Key) (.ref T)) (o ++ [(y, v ++ [c])]) := fun i a u e => by
  rw [valV_put]
  rcases Nat.lt_or_ge i o.length with lt | ge
  · rw [List.getElem?_append_left lt] at e
    have ne : a ≠ y := fun z => hy (z ▸ List.mem_map_of_mem (f := (·.1)) (List.mem_of_getElem? e))
    rw [if_neg fun z => ne (Sum.inl.inj z)]
    refine (h i a u e).imp id fun ⟨T, j, c, b, v, h1, h2, h3⟩ => ⟨T, j, c, b, v, h1, ?_, h3⟩
    rw [List.getElem?_append_left (by omega)]
    exact h2
  · rw [List.getElem?_append_right ge] at e
    have e2 : (a, u) = (y, v ++ [c]) := List.mem_singleton.mp (List.mem_of_getElem? e)
    cases e2
    rw [if_pos rfl]
    have lt := (List.getElem?_eq_some_iff.mp hr).1
    exact .inr ⟨T, j0, c, r, v, by omega, by rw [List.getElem?_append_left lt]; exact hr, rfl, hc, rfl, hT⟩
theorem foldP_grows (u : List Nat) : ∀ (l : List (Int × Nat)) (o : Wy), o <+: l.foldl (addP u) o
  | [], _ => List.prefix_refl _
  | p :: l, o => by
    refine List.IsPrefix.trans ?_ (foldP_grows u l _)
    unfold addP
    split
    · exact List.prefix_refl _
    · exact List.prefix_append _ _
def spWaysV (K : Frag) : Sp := fun vs H Q _ => ∃ (t : Addr) (tb : List (List Int)) (wd : Nat) (n st : Int), vs = [.ref t, .int st] ∧ TTab K H t tb ∧ TabOk tb wd n ∧ n ≤ 1000 ∧ wd ≤ 1000 ∧ 0 ≤ st ∧ st < n ∧
  ∀ D kvs H', H D = none → Same H H' → H' D = some (.dK kvs) → Keys kvs (wyA tb st tb.length) → Few n (wyA tb st tb.length) → WOk H' wd kvs (wyP tb st tb.length) → Q (.ref D) H'
section
variable {P : Program} {w : World} {K : PySem.W.Frag} {mg : Str → Option Value} {base : Heap}
theorem ok_waysV {f : Addr} {fd : FuncData} (F : Fun K "ways" "ways" sWays f fd) (T : TN mg) (en : mg "enumerate" = none) : FnOk P w K mg base CX0 1 f fd ["table", "start"] (spWaysV K) := by
  refine F.ok scWy (fun vs H Q E h => ?_) (fun cdv A outer s H vs Q E hr h => ?_)
  · obtain ⟨t, tb, wd, n, st, rfl, _⟩ := h
    rfl
  · obtain ⟨t, tb, wd, n, st, rfl, hT, ok, hn, hw, s0, s1, q⟩ := h
    have hub := hu_of hr
    refine ⟨_, pss_cons (ps_set (i := 2) scWy.nd rfl (Or.inl rfl) (pe_disp1 (Nat.lt_of_succ_lt hub) (pv 1) pe_non))
      (pss_cons (ps_set (i := 3) scWy.nd rfl (Or.inl rfl) (pe_lst (pa_cons (pv 1) pa_nil)))
      (pss_cons (ps_set (i := 4) scWy.nd rfl (Or.inl rfl) pe_int)
      (pss_cons (ps_while PassesOwn.never (pt_cmpR op_lt (pv 4) (pe_callB call_len_seq (by rfl) T.len PySem.boot_len (pa_cons (pv 3) pa_nil)) (nomark _))
        (pss_cons (ps_set (i := 5) scWy.nd rfl (Or.inl rfl) (pe_ix ix_list (pv 3) (pv 4) (fun _ _ => rfl)))
        (pss_cons (ps_aug (i := 4) scWy.nd rfl (Or.inl rfl) pe_int ip_add)
        (pss_one (ps_for PassesOwn.never rfl (ENU.pi_enT rfl en (pa_cons (pe_ix ix_tup (pv 0) (pv 5) (fun _ _ => rfl)) pa_nil)) (pg_tup (by rfl) (pgs_cons (pg_name (i := 6) scWy.nd rfl (Or.inl rfl)) (pgs_cons (pg_name (i := 7) scWy.nd rfl (Or.inl rfl)) pgs_nil)))
          (pss_one (ps_if (pt_cmp (pc_dnotin hub (pv 7) (pv 2)))
            (pss_cons (ps_dput hub (pv 2) (pv 7) (pe_tup (pa_cons (pv 5) (pa_cons (pv 6) pa_nil))) rfl)
            (pss_one (ps_expr (pe_bm PySem.F.plainAttrs_list PySem.F.slot_list_append PySem.F.type_list_append mt_append (pv 3) (pa_cons (pv 7) pa_nil))))) pss_nil)))))))
      (pss_one (ps_ret (pv 2)))))), ?_⟩
    refine ⟨.dK [], .inl rfl, fun D hD => ⟨_, rfl, _, DPut.k (kvs := []) (k := (Sum.inl st : Key)) upd_same (by show 0 < sizeLine; decide), ?_⟩⟩
    rw [upd_upd]
    refine ⟨_, rfl, by show 1 ≤ sizeLine; decide, fun M hM => ?_⟩
    have nD : H D = none := hD
    have nDM : D ≠ M := fun z => by rw [← z, upd_same] at hM; cases hM
    have nM : H M = none := (same_upd hD).free hM
    have hrow : ∀ r : Int, 0 ≤ r → r < n → (tb.getD r.toNat []) ∈ tb := fun r h0 h1 => by
      have hl := ok.len
      have : r.toNat < tb.length := by omega
      rw [List.getD_eq_getElem?_getD, List.getElem?_eq_getElem this]
      exact List.getElem_mem this
    refine while_by (fun σ H2 => ∃ (j : Nat) (kvs : List (Key × V)) (x5 x6 x7 : Option V), Same H H2 ∧ H2 D = some (.dK kvs) ∧ Keys kvs (wyA tb st j) ∧ H2 M = some (.lst ((wyA tb st j).map V.int)) ∧ Few n (wyA tb st j) ∧ WOk H2 wd kvs (wyP tb st j) ∧ j ≤ (wyA tb st j).length ∧
      σ = [some (.ref t), some (.int st), some (.ref D), some (.ref M), some (.int (j : Nat)), x5, x6, x7]) (fun σ _ => n.toNat - doneOf σ) ?_ ?_ ?_
    · refine ⟨0, _, none, none, none, same_two (same_upd hD) hM, same_upd hM _ _ upd_same, rfl, ?_, ⟨List.nodup_cons.mpr ⟨List.not_mem_nil, List.nodup_nil⟩, fun a ha => ?_⟩, WOk.one _ _ _, Nat.zero_le _, rfl⟩
      · exact upd_same
      · rw [List.mem_singleton.mp ha]
        exact ⟨s0, s1⟩
    · rintro σ H2 ⟨j, kvs, x5, x6, x7, s2, hd, keys, hm, few, wo, hle, rfl⟩
      have hlen : ((wyA tb st j).length : Int) ≤ n := few.len.elim id fun z => by rw [z]; show (0 : Int) ≤ n; omega
      refine ⟨_, rfl, _, rfl, M, _, rfl, .inl (SqL.of hm), _, _, rfl, rfl, _, rfl, ?_⟩
      rw [List.length_map]
      refine ite2 (fun hlt => ?_) (fun hge => ?_)
      · have hlt : ((j : Nat) : Int) < (((wyA tb st j).length : Nat) : Int) := of_decide_eq_true hlt
        have hlt : j < (wyA tb st j).length := by omega
        obtain ⟨r, hr2⟩ : ∃ r, (wyA tb st j)[j]? = some r := ⟨_, List.getElem?_eq_getElem hlt⟩
        have hrin := few.in_ r (List.mem_of_getElem? hr2)
        have hstep := wyA_at hr2
        obtain ⟨u0, hu0⟩ : ∃ u0, (wyP tb st j)[j]? = some (r, u0) := by
          rw [← wyP_fst, List.getElem?_map] at hr2
          cases hq : (wyP tb st j)[j]? with
          | none => rw [hq] at hr2; cases hr2
          | some p =>
            rw [hq] at hr2
            obtain ⟨x, u⟩ := p
            cases hr2
            exact ⟨u, rfl⟩
        have hstepP := wyP_at hu0
        have pm := wyP_fst (tb := tb) (st := st) j
        obtain ⟨ts, h1, h2⟩ := hT.same s2
        have hrl : r.toNat < tb.length := by have := ok.len; omega
        obtain ⟨a, e1, e2⟩ := h2.get hrl
        have at1 : atI (ts.map V.ref) r = some (.ref a) := by
          have e3 : r = ((r.toNat : Nat) : Int) := by omega
          rw [e3]
          exact atI_nat (by rw [List.getElem?_map, e1] <;> rfl)
        obtain ⟨rl, rb⟩ := ok.row _ (hrow r hrin.1 hrin.2)
        generalize tb.getD r.toNat [] = row at hstep hstepP e2 rl rb
        generalize hks : wyA tb st j = o at hr2 hstep hlen hlt hle hm keys few pm
        generalize wyP tb st j = ps at hu0 hstepP pm wo
        refine ⟨_, rfl, _, rfl, M, _, _, _, rfl, rfl, SqL.of hm, atI_nat (by rw [List.getElem?_map, hr2] <;> rfl), ?_⟩
        refine ⟨_, rfl, _, _, rfl, rfl, ?_⟩
        refine ⟨_, rfl, _, rfl, t, _, _, _, rfl, rfl, h1, at1, a, _, rfl, SqT.of e2, ?_⟩
        have naD : a ≠ D := fun z => by rw [z, hd] at e2; cases e2
        have naM : a ≠ M := fun z => by rw [z, hm] at e2; cases e2
        refine for_it ENU.walk_enT (fun i σ H3 => ∃ (kvs : List (Key × V)) (x6 x7 : Option V), Same H H3 ∧ H3 a = some (oTup row) ∧ H3 D = some (.dK kvs) ∧ Keys kvs ((row.take i).foldl addN o) ∧ H3 M = some (.lst (((row.take i).foldl addN o).map V.int)) ∧ Few n ((row.take i).foldl addN o) ∧ WOk H3 wd kvs (((row.take i).zipIdx).foldl (addP u0) ps) ∧
          σ = [some (.ref t), some (.int st), some (.ref D), some (.ref M), some (.int ((j : Int) + 1)), some (.int r), x6, x7]) ?_ (fun i σ H3 _ ⟨_, _, _, _, h, _⟩ => SqT.of h) ?_ ?_
        · exact ⟨kvs, x6, x7, s2, e2, hd, keys, hm, few, wo, rfl⟩
        · rintro i x σ H3 H4 hi ⟨kvs, x6, x7, s3, ha3, hd3, keys3, hm3, few3, wo3, rfl⟩ ⟨T2, y, rfl, hT2, rfl, hy⟩
          rw [List.getElem?_map] at hy
          cases hc : row[i]? with
          | none => rw [hc] at hy; cases hy
          | some y2 =>
            rw [hc] at hy
            obtain rfl : V.int y2 = y := Option.some.inj hy
            have yin := rb y2 (List.mem_of_getElem? hc)
            have tk : (row.take (i + 1)).foldl addN o = addN ((row.take i).foldl addN o) y2 := by
              rw [List.take_add_one, hc, List.foldl_append] <;> rfl
            have hcw : i < wd := rl ▸ (List.getElem?_eq_some_iff.mp hc).1
            have tkP : ((row.take (i + 1)).zipIdx).foldl (addP u0) ps = addP u0 (((row.take i).zipIdx).foldl (addP u0) ps) (y2, i) := by
              have il : (row.take i).length = i := by rw [List.length_take]; have := (List.getElem?_eq_some_iff.mp hc).1; omega
              rw [List.take_add_one, hc]
              show ((row.take i ++ [y2]).zipIdx).foldl (addP u0) ps = _
              rw [List.zipIdx_append, List.foldl_append, il, Nat.zero_add] <;> rfl
            have rin3 : (((row.take i).zipIdx).foldl (addP u0) ps)[j]? = some (r, u0) := by
              obtain ⟨t, ht⟩ := foldP_grows u0 ((row.take i).zipIdx) ps
              rw [← ht, List.getElem?_append_left (List.getElem?_eq_some_iff.mp hu0).1]
              exact hu0
            have pm3 : (((row.take i).zipIdx).foldl (addP u0) ps).map (·.1) = (row.take i).foldl addN o := by rw [foldP_fst, List.zipIdx_map_fst, pm]
            rw [tk, tkP]
            generalize (row.take i).foldl addN o = o3 at keys3 hm3 few3 pm3 ⊢
            generalize ((row.take i).zipIdx).foldl (addP u0) ps = p3 at wo3 rin3 pm3 ⊢
            have hlen3 : (o3.length : Int) ≤ n := few3.len.elim id fun z => by rw [z]; show (0 : Int) ≤ n; omega
            have s4 : Same H3 (upd H3 T2 (.tup [.int (i : Nat), .int y2])) := same_upd hT2
            have ha4 := s4 _ _ ha3
            have hd4 := s4 _ _ hd3
            have hm4 := s4 _ _ hm3
            have tu : (upd H3 T2 (.tup [.int (i : Nat), .int y2])) T2 = some (.tup [.int (i : Nat), .int y2]) := upd_same
            have s04 := s3.trans s4
            have wo4 := wo3.keep (Same.tup' s4)
            generalize upd H3 T2 (.tup [.int (i : Nat), .int y2]) = H4 at ha4 hd4 hm4 tu s04 wo4 ⊢
            refine ⟨T2, _, rfl, SqT.of tu, rfl, _, _, rfl, _, _, rfl, rfl, ?_⟩
            refine ⟨_, rfl, _, rfl, D, _, rfl, DGet.k (k := (Sum.inl y2 : Key)) hd4, _, rfl, ?_⟩
            by_cases hin : y2 ∈ o3
            · obtain ⟨v, hv⟩ := Option.ne_none_iff_exists'.mp ((keys3.val y2).mpr hin)
              rw [hv]
              refine iteF ?_
              refine ⟨kvs, _, _, s04, ha4, hd4, ?_, ?_, ?_, ?_, rfl⟩
              · unfold addN
                rw [if_pos hin]
                exact keys3
              · unfold addN
                rw [if_pos hin]
                exact hm4
              · unfold addN
                rw [if_pos hin]
                exact few3
              · unfold addP
                rw [if_pos (by rw [pm3]; exact hin)]
                exact wo4
            · have hv : valV kvs (Sum.inl y2 : Key) = none := Classical.byContradiction fun z => hin ((keys3.val y2).mp z)
              rw [hv]
              refine iteT ?_
              refine ⟨_, rfl, _, rfl, by show 2 ≤ sizeLine; decide, fun T3 hT3 => ?_⟩
              have s5 : Same H4 (upd H4 T3 (.tup [.int r, .int (i : Nat)])) := same_upd hT3
              refine ⟨_, rfl, _, rfl, D, _, rfl, DPut.k (k := (Sum.inl y2 : Key)) (s5 _ _ hd4) (by rw [keys3.len, sizeLine_eq]; omega), ?_⟩
              have hd5 := s5 _ _ hd4
              have hm5 := s5 _ _ hm4
              have ha5 := s5 _ _ ha4
              have s05 := s04.trans s5
              have wo5 := wo4.keep (Same.tup' s5)
              have t5 : upd H4 T3 (.tup [.int r, .int (i : Nat)]) T3 = some (.tup [.int r, .int (i : Nat)]) := upd_same
              generalize upd H4 T3 (.tup [.int r, .int (i : Nat)]) = H5 at hd5 hm5 ha5 s05 wo5 t5 ⊢
              have hm6 : upd H5 D (.dK (putK kvs (Sum.inl y2) (.ref T3))) M = some (.lst (o3.map V.int)) := by
                rw [upd_ne (Ne.symm nDM)]
                exact hm5
              refine ⟨_, rfl, .inl ⟨rfl, _, SqL.of hm6⟩, _, rfl, M, _, _, rfl, rfl, hm6, by rw [List.length_map, sizeLine_eq]; omega, ?_⟩
              refine ⟨putK kvs (Sum.inl y2) (.ref T3), _, _, same_at (same_at s05 nD) nM, ?_, ?_, ?_, ?_, few3.add yin, ?_, rfl⟩
              · rw [upd_ne naM, upd_ne naD]
                exact ha5
              · rw [upd_ne nDM, upd_same]
              · unfold addN
                rw [if_neg hin]
                exact keys3.put hin _
              · rw [upd_same]
                unfold addN
                rw [if_neg hin, List.map_append] <;> rfl
              · have kt := (tup_upd (o := .dK (putK kvs (Sum.inl y2) (.ref T3))) hd5 (fun _ z => nomatch z)).trans (tup_upd (o := .lst (o3.map V.int ++ [.int y2])) hm6 (fun _ z => nomatch z))
                unfold addP
                rw [if_neg (by rw [pm3]; exact hin)]
                exact (wo5.put (by rw [pm3]; exact hin) t5 rin3 hcw).keep kt
        · rintro σ H3 ⟨kvs, x6, x7, s3, ha3, hd3, keys3, hm3, few3, wo3, rfl⟩
          rw [List.length_map, List.take_length, ← hstep] at keys3 hm3 few3
          rw [List.length_map, List.take_length, ← hstepP] at wo3
          refine ⟨⟨j + 1, kvs, _, _, _, s3, hd3, keys3, hm3, few3, wo3, ?_, rfl⟩, ?_⟩
          · have : o.length ≤ (wyA tb st (j + 1)).length := by rw [hstep]; exact (addF_grows row o).length_le
            omega
          · show n.toNat - ((j : Int) + 1).toNat < n.toNat - ((j : Int)).toNat
            omega
      · have hge : ¬ (((j : Nat) : Int) < (((wyA tb st j).length : Nat) : Int)) := fun z => hge (decide_eq_true z)
        have e1 : wyA tb st tb.length = wyA tb st j := by
          have h4 := wyA_stop (tb := tb) (st := st) (j := j) (by omega) (tb.length - j)
          have := ok.len
          rw [show j + (tb.length - j) = tb.length by omega] at h4
          exact h4
        refine ⟨_, rfl, q D kvs H2 hD s2 hd ?_ ?_ ?_⟩
        · rw [e1]
          exact keys
        · rw [e1]
          exact few
        · have lp : (wyP tb st j).length = (wyA tb st j).length := by rw [← wyP_fst, List.length_map]
          have h4 := wyP_stop (tb := tb) (st := st) (j := j) (by omega) (tb.length - j)
          have := ok.len
          rw [show j + (tb.length - j) = tb.length by omega] at h4
          rw [h4]
          exact wo
    · exact fun σ H Q Q' hm ⟨v, hv, w', hw, M2, ys2, e2, hs2, i, j, a, b, k, hk, q⟩ => ⟨v, hv, w', hw, M2, ys2, e2, hs2, i, j, a, b, k, hk, hm _ _ q⟩
end
end WK
set_option Elab.async false
set_option linter.all false
set_option maxRecDepth 100000
set_option maxHeartbeats 8000000
namespace WK
open PySem L2 PyProof.Rows LCX K1 FV DP
open TX (sg sigs)
open PySem.W (Frag kitOne)
abbrev sAlong : Stmt := top 13
abbrev NAl : List Str := ["letters", "found", "row", "taken", "step"]
/-- a way's word -/
def wordL (L : W) (u : List Nat) : W := u.map fun c => L.getD c 0
def spAlong : Sp := fun vs H Q _ => ∃ (L : W) (D : Addr) (a : Int) (kvs : List (Key × V)) (o : Wy) (w0 : List Nat), vs = [.str (tx L), .ref D, .int a] ∧ L.length ≤ 3 ∧ H D = some (.dK kvs) ∧ WOk H L.length kvs o ∧ (a, w0) ∈ o ∧ o.length ≤ 1000 ∧ ∀ (H' : Hp), Same H H' → Q (.str (tx (wordL L w0))) H'
theorem val_key {D : Addr} {kvs : List (Key × V)} {H : Hp} {a : Int} (h : H D = some (.dK kvs)) : DGet H D (.int a) (valV kvs (Sum.inl a : Key)) := DGet.k (k := (Sum.inl a : Key)) h
section
variable {P : Program} {w : World} {K : PySem.W.Frag} {mg : Str → Option Value} {base : Heap}
theorem scAl : FnScope NAl ["letters", "found", "row"] (defScope sAlong) := ⟨rfl, rfl, rfl, by decide +kernel, rfl, by decide +kernel, by decide +kernel⟩
theorem ok_along {f : Addr} {fd : FuncData} (F : Fun K "word_along" "word_along" sAlong f fd) : FnOk P w K mg base CX0 1 f fd ["letters", "found", "row"] spAlong := by
  refine F.ok scAl (fun vs H Q E h => ?_) (fun cdv A outer s H vs Q E hr h => ?_)
  · obtain ⟨L, D, a, _, _, _, rfl, _⟩ := h
    rfl
  · obtain ⟨L, D, a, kvs, o, w0, rfl, hL, hd, wo, ha, hol, q⟩ := h
    have hub := hu_of hr
    refine ⟨_, pss_cons (ps_set (i := 3) scAl.nd rfl (Or.inl rfl) (pe_lst pa_nil))
      (pss_cons (ps_set (i := 4) scAl.nd rfl (Or.inl rfl) (pe_dget hub (pv 1) (pv 2) (fun _ _ => rfl)))
      (pss_cons (ps_while PassesOwn.never (pt_cmp (pc_notN (pv 4)))
        (pss_cons (ps_expr (pe_bm PySem.F.plainAttrs_list PySem.F.slot_list_append PySem.F.type_list_append mt_append (pv 3) (pa_cons (pe_ix ix_str (pv 0) (pe_ix ix_tup (pv 4) pe_int (fun _ _ => rfl)) (fun _ _ => rfl)) pa_nil)))
        (pss_one (ps_set (i := 4) scAl.nd rfl (Or.inl rfl) (pe_dget hub (pv 1) (pe_ix ix_tup (pv 4) pe_int (fun _ _ => rfl)) (fun _ _ => rfl))))))
      (pss_one (ps_ret (pe_join pe_str (pe_revL (pv 3))))))), ?_⟩
    obtain ⟨i0, hi0⟩ := List.mem_iff_getElem?.mp ha
    have lt0 := (List.getElem?_eq_some_iff.mp hi0).1
    obtain ⟨x0, hx0⟩ : ∃ x, valV kvs (Sum.inl a : Key) = some x := by
      rcases wo i0 a w0 hi0 with ⟨_, h⟩ | ⟨T, _, _, _, _, _, _, _, _, h, _⟩
      · exact ⟨_, h⟩
      · exact ⟨_, h⟩
    refine ⟨by show 0 ≤ sizeLine; decide, fun M hM => ?_⟩
    have s1 := same_upd (o := .lst []) hM
    have nDM : D ≠ M := fun z => by rw [← z, hd] at hM; cases hM
    refine ⟨_, rfl, _, rfl, D, x0, rfl, hx0 ▸ val_key (s1 _ _ hd), ?_⟩
    refine while_by (fun σ H2 => ∃ (us : W) (i : Nat) (b : Int) (v : List Nat) (x : V), Same H H2 ∧ H2 M = some (.lst ((us.map sg).map V.str)) ∧ wordL L w0 = wordL L v ++ us.reverse ∧ us.length + i ≤ i0 ∧ o[i]? = some (b, v) ∧ valV kvs (Sum.inl b : Key) = some x ∧ σ = [some (.str (tx L)), some (.ref D), some (.int a), some (.ref M), some x]) (fun _ H2 => i0 + 1 - (match H2 M with | some (.lst xs) => xs.length | _ => 0)) ?_ ?_ ?_
    · exact ⟨[], i0, a, w0, x0, s1, upd_same, (List.append_nil _).symm, Nat.le_of_eq (Nat.zero_add _), hi0, hx0, rfl⟩
    · rintro σ H2 ⟨us, i, b, v, x, s2, hm, hus, le, hb, hx, rfl⟩
      refine ⟨_, rfl, _, rfl, ?_⟩
      rcases wo i b v hb with ⟨ev, h⟩ | ⟨T, j, c, b2, v2, h1, h2, ev, h3, h4, h5⟩
      · obtain rfl : x = .non := Option.some.inj (hx.symm.trans h)
        refine iteF ?_
        refine ⟨⟨_, rfl⟩, _, rfl, M, _, rfl, SqL.of hm, fun p hp => ?_⟩
        have s3 := same_upd (o := .lst ((us.map sg).map V.str).reverse) hp
        refine ⟨_, p, us.reverse.map sg, rfl, rfl, .inl (SqL.of ?_), ?_, ?_⟩
        · rw [upd_same, ← List.map_reverse, ← List.map_reverse]
        · rw [sum_sg]
          show us.reverse.length + _ * 0 ≤ _
          rw [List.length_reverse]
          omega
        · rw [show Txt.join (Str.ofString "") (us.reverse.map sg) = tx us.reverse from join_sg us.reverse]
          have e : us.reverse = wordL L w0 := by rw [hus, ev]; rfl
          rw [e]
          exact q _ (s2.trans s3)
      · obtain rfl : x = .ref T := Option.some.inj (hx.symm.trans h4)
        refine iteT ?_
        have hT := s2 _ _ h5
        obtain ⟨y, hy⟩ : ∃ y, L[c]? = some y := ⟨_, List.getElem?_eq_getElem h3⟩
        have at1 : atI (tx L).cps.toList ((c : Nat) : Int) = some y := by rw [tx_list]; exact atI_nat hy
        have at2 : atI [V.int b2, V.int (c : Int)] 1 = some (.int (c : Int)) := rfl
        have at3 : atI [V.int b2, V.int (c : Int)] 0 = some (.int b2) := rfl
        have hz : (tx L).length ≤ sizeLine := by rw [tx_len, sizeLine_eq]; omega
        have yin : y ∈ L := List.mem_of_getElem? hy
        obtain ⟨x2, hx2⟩ : ∃ x2, valV kvs (Sum.inl b2 : Key) = some x2 := by
          rcases wo j b2 v2 h2 with ⟨_, h⟩ | ⟨T, _, _, _, _, _, _, _, _, h, _⟩
          · exact ⟨_, h⟩
          · exact ⟨_, h⟩
        refine ⟨_, rfl, .inl ⟨rfl, _, SqL.of hm⟩, _, rfl, _, rfl, T, _, _, _, rfl, rfl, SqT.of hT, at2, tx L, _, y, rfl, rfl, hz, at1, M, _, _, rfl, rfl, hm, by rw [List.length_map, List.length_map, sizeLine_eq]; omega, ?_⟩
        have s3 : Same H (upd H2 M (.lst ((us.map sg).map V.str ++ [V.str (sg y)]))) := same_at s2 hM
        have kt := tup_upd (o := .lst ((us.map sg).map V.str ++ [V.str (sg y)])) hm (fun _ z => nomatch z)
        have hd3 : upd H2 M (.lst ((us.map sg).map V.str ++ [V.str (sg y)])) D = some (.dK kvs) := s3 _ _ hd
        refine ⟨_, rfl, _, rfl, T, _, _, _, rfl, rfl, SqT.of (kt _ _ hT), at3, D, x2, rfl, hx2 ▸ val_key hd3, ?_⟩
        refine ⟨⟨us ++ [y], j, b2, v2, x2, s3, ?_, ?_, by rw [List.length_append, List.length_singleton]; omega, h2, hx2, rfl⟩, ?_⟩
        · rw [upd_same, List.map_append, List.map_append] <;> rfl
        · rw [hus, ev, List.reverse_append]
          unfold wordL
          rw [List.map_append, List.append_assoc]
          show _ ++ ([L.getD c 0] ++ us.reverse) = _ ++ ([y] ++ us.reverse)
          rw [List.getD_eq_getElem?_getD, hy] <;> rfl
        · show i0 + 1 - (match (upd H2 M _) M with | some (.lst xs) => xs.length | _ => 0) < i0 + 1 - (match H2 M with | some (.lst xs) => xs.length | _ => 0)
          rw [upd_same, hm]
          show i0 + 1 - ((us.map sg).map V.str ++ [_]).length < i0 + 1 - ((us.map sg).map V.str).length
          rw [List.length_append, List.length_map, List.length_map]
          show i0 + 1 - (us.length + 1) < _
          omega
    · exact fun σ H Q Q' hm ⟨v, hv, k, hk, q⟩ => ⟨v, hv, k, hk, hm _ _ q⟩
end
end WK
set_option Elab.async false
set_option linter.all false
set_option maxRecDepth 100000
set_option maxHeartbeats 8000000
namespace RM
open PySem L2 PyProof.Rows LCX K1 FV DP WK
open TX (sg sigs)
open PySem.W (Frag kitOne)
abbrev sLFirsts : Stmt := top 64
abbrev NLf : List Str := ["_law_table_here", "_law_letters_here", "_law_found", "_law_at", "_law_place", "_law_letter", "_law_later"]
/-- the words of the first ways -/
def VOk (L : W) (kvs : List (Key × V)) (ps : Wy) : Prop := ∀ a u, (a, u) ∈ ps → valV kvs (Sum.inl a : Key) = some (.str (tx (wordL L u)))
theorem VOk.put {L : W} {kvs : List (Key × V)} {ps : Wy} {y : Int} {u : List Nat} (h : VOk L kvs ps) (hy : y ∉ ps.map (·.1)) : VOk L (putK kvs (Sum.inl y : Key) (.str (tx (wordL L u)))) (ps ++ [(y, u)]) := fun a v hm => by
  rw [valV_put]
  rcases List.mem_append.mp hm with z | z
  · rw [if_neg fun e => hy (by rw [← Sum.inl.inj e]; exact List.mem_map_of_mem (f := (·.1)) z)]
    exact h a v z
  · cases List.mem_singleton.mp z
    rw [if_pos rfl]
theorem foldP_len {u : List Nat} {m : Nat} (hu : u.length + 1 ≤ m) : ∀ {l : List (Int × Nat)} {o : Wy}, (∀ p ∈ o, p.2.length ≤ m) → ∀ p ∈ l.foldl (addP u) o, p.2.length ≤ m
  | [], _, h => h
  | q :: l, o, h => foldP_len hu (l := l) (o := addP u o q) fun p hp => by
    unfold addP at hp
    by_cases e : q.1 ∈ o.map (·.1)
    · rw [if_pos e] at hp
      exact h p hp
    · rw [if_neg e] at hp
      rcases List.mem_append.mp hp with z | z
      · exact h p z
      · rw [List.mem_singleton.mp z]
        show (u ++ [q.2]).length ≤ m
        rw [List.length_append]
        exact hu
theorem wyP_len {tb : List (List Int)} {st : Int} : ∀ j, ∀ p ∈ wyP tb st j, p.2.length ≤ j
  | 0, p, hp => by
    rw [List.mem_singleton.mp hp]
    exact Nat.le_refl _
  | j + 1, p, hp => by
    have ih := wyP_len (tb := tb) (st := st) j
    cases hq : (wyP tb st j)[j]? with
    | none =>
      have e : wyP tb st (j + 1) = wyP tb st j := wyP_stop (List.getElem?_eq_none_iff.mp hq) 1
      rw [e] at hp
      exact Nat.le_succ_of_le (ih p hp)
    | some q =>
      obtain ⟨r, u⟩ := q
      rw [wyP_at hq] at hp
      have hu : u.length ≤ j := ih _ (List.mem_of_getElem? hq)
      exact foldP_len (m := j + 1) (by omega) (fun p hp => Nat.le_succ_of_le (ih p hp)) p hp
theorem word_snoc {L : W} {u : List Nat} {i : Nat} {c : Nat} (h : L[i]? = some c) : wordL L (u ++ [i]) = wordL L u ++ [c] := by
  unfold wordL
  rw [List.map_append]
  show _ ++ [L.getD i 0] = _
  rw [List.getD_eq_getElem?_getD, h] <;> rfl
def spLFirsts : Sp := fun vs H Q _ => ∃ (l : Addr) (L : W) (tb : List (List Int)) (n : Int), vs = [.ref l, .str (tx L)] ∧ PTab H l tb ∧ Let L ∧ TabOk tb L.length n ∧ 1 ≤ n ∧ n ≤ 1000 ∧
  ∀ D kvs H', H D = none → Same H H' → H' D = some (.dK kvs) → Keys kvs (wyA tb 0 tb.length) → VOk L kvs (wyP tb 0 tb.length) → Q (.ref D) H'
def atOf (σ : L2.St) : Nat := match σ[3]? with
  | some (some (V.int j)) => j.toNat
  | _ => 0
section
variable {P : Program} {w : World} {K : PySem.W.Frag} {mg : Str → Option Value} {base : Heap} {fL : Addr} {dL : FuncData}
theorem scLF : FnScope NLf ["_law_table_here", "_law_letters_here"] (defScope sLFirsts) := ⟨rfl, rfl, rfl, by decide +kernel, rfl, by decide +kernel, by decide +kernel⟩
theorem ok_lfirsts {f : Addr} {fd : FuncData} (F : Fun K "_law_firsts" "_law_firsts" sLFirsts f fd) (T : TN mg) : FnOk P w K mg base CX0 1 f fd ["_law_table_here", "_law_letters_here"] spLFirsts := by
  refine F.ok scLF (fun vs H Q E h => ?_) (fun cdv A outer s H vs Q E hr h => ?_)
  · obtain ⟨l, L, tb, n, rfl, _⟩ := h
    rfl
  · obtain ⟨l, L, tb, n, rfl, ⟨as, h1, h2⟩, hL, ok, n1, n2, q⟩ := h
    have hub := hu_of hr
    refine ⟨_, pss_cons (ps_par (i := 2) (j := 3) (by rfl) scLF.nd rfl rfl (by decide) rfl rfl (pa_cons (pe_disp1 (Nat.lt_of_succ_lt hub) pe_int pe_str) (pa_cons pe_int pa_nil)) (by rfl))
      (pss_cons (ps_while PassesOwn.never (pt_cmpR op_lt (pv 3) (pe_callB call_lenD (by rfl) T.len PySem.boot_len (pa_cons (pv 2) pa_nil)) (nomark _))
        (pss_cons (ps_set (i := 4) scLF.nd rfl (Or.inl rfl) (pe_ix ix_list (pe_callTy (call_listD rfl) (by rfl) T.list (by decide +kernel) (pa_cons (pv 2) pa_nil)) (pv 3) (fun _ _ => rfl)))
        (pss_cons (ps_for PassesOwn.never rfl (ZPT.pi_zipST rfl T.zip (pa_cons (pv 1) (pa_cons (pe_ix ix_list (pv 0) (pv 4) (fun _ _ => rfl)) pa_nil))) (pg_tup (by rfl) (pgs_cons (pg_name (i := 5) scLF.nd rfl (Or.inl rfl)) (pgs_cons (pg_name (i := 6) scLF.nd rfl (Or.inl rfl)) pgs_nil)))
          (pss_one (ps_if (pt_cmp (pc_dnotin hub (pv 6) (pv 2))) (pss_one (ps_dput hub (pv 2) (pv 6) (pe_op op_add_str (pe_dget hub (pv 2) (pv 4) (fun _ _ => rfl)) (pv 5)) rfl)) pss_nil)))
        (pss_one (ps_set (i := 3) scLF.nd rfl (Or.inl rfl) (pe_op op_add (pv 3) pe_int))))))
      (pss_one (ps_ret (pv 2)))), ?_⟩
    have hln := ok.len
    have tl : (as.map V.ref).length = tb.length := by rw [List.length_map, h2.len]
    refine ⟨.dK [], .inl rfl, fun D hD => ⟨_, DPut.k (kvs := []) (k := (Sum.inl 0 : Key)) upd_same (by show 0 < sizeLine; decide), _, _, rfl, ?_⟩⟩
    rw [upd_upd]
    refine while_by (fun σ H2 => ∃ (j : Nat) (kvs : List (Key × V)) (x4 x5 x6 : Option V), Same H H2 ∧ H2 D = some (.dK kvs) ∧ Keys kvs (wyA tb 0 j) ∧ VOk L kvs (wyP tb 0 j) ∧ Few n (wyA tb 0 j) ∧ j ≤ (wyA tb 0 j).length ∧
      σ = [some (.ref l), some (.str (tx L)), some (.ref D), some (.int (j : Nat)), x4, x5, x6]) (fun σ _ => n.toNat - atOf σ) ?_ ?_ ?_
    · refine ⟨0, _, none, none, none, same_upd hD, upd_same, rfl, fun a u hm => ?_, ⟨List.nodup_cons.mpr ⟨List.not_mem_nil, List.nodup_nil⟩, fun a ha => ?_⟩, Nat.zero_le _, rfl⟩
      · cases List.mem_singleton.mp hm
        rw [valV_put, if_pos rfl] <;> rfl
      · rw [List.mem_singleton.mp ha]
        omega
    · rintro σ H2 ⟨j, kvs, x4, x5, x6, s2, hd, keys, vo, few, hle, rfl⟩
      have hlen : ((wyA tb 0 j).length : Int) ≤ n := few.len.elim id fun z => by rw [z]; show (0 : Int) ≤ n; omega
      refine ⟨_, rfl, _, rfl, D, kvs, rfl, hd, _, _, rfl, rfl, _, rfl, ?_⟩
      rw [keys.len]
      refine ite2 (fun hlt => ?_) (fun hge => ?_)
      · have hlt : ((j : Nat) : Int) < (((wyA tb 0 j).length : Nat) : Int) := of_decide_eq_true hlt
        have hlt : j < (wyA tb 0 j).length := by omega
        obtain ⟨r, hr2⟩ : ∃ r, (wyA tb 0 j)[j]? = some r := ⟨_, List.getElem?_eq_getElem hlt⟩
        have hrin := few.in_ r (List.mem_of_getElem? hr2)
        have hstep := wyA_at hr2
        obtain ⟨u0, hu0⟩ : ∃ u0, (wyP tb 0 j)[j]? = some (r, u0) := by
          rw [← wyP_fst, List.getElem?_map] at hr2
          cases hq : (wyP tb 0 j)[j]? with
          | none => rw [hq] at hr2; cases hr2
          | some p =>
            rw [hq] at hr2
            obtain ⟨x, u⟩ := p
            cases hr2
            exact ⟨u, rfl⟩
        have hstepP := wyP_at hu0
        have pm := wyP_fst (tb := tb) (st := 0) j
        have ul : u0.length ≤ j := wyP_len j _ (List.mem_of_getElem? hu0)
        have hrl : r.toNat < tb.length := by omega
        obtain ⟨a, e1, e2⟩ := h2.get hrl
        have at1 : atI (as.map V.ref) r = some (.ref a) := by
          have e3 : r = ((r.toNat : Nat) : Int) := by omega
          rw [e3]
          exact atI_nat (by rw [List.getElem?_map, e1] <;> rfl)
        have hrow : tb.getD r.toNat [] ∈ tb := by
          rw [List.getD_eq_getElem?_getD, List.getElem?_eq_getElem hrl]
          exact List.getElem_mem hrl
        obtain ⟨rl, rb⟩ := ok.row _ hrow
        generalize tb.getD r.toNat [] = row at hstep hstepP e2 rl rb
        have kl : (kvs.map fun kv => kV kv.1) = (wyA tb 0 j).map V.int := by
          have : (kvs.map fun kv => kV kv.1) = (kvs.map (·.1)).map kV := by rw [List.map_map] <;> rfl
          rw [this, show kvs.map (·.1) = _ from keys, List.map_map] <;> rfl
        generalize hks : wyA tb 0 j = o at hr2 hstep hlen hlt hle keys few pm kl
        generalize wyP tb 0 j = ps at hu0 hstepP pm vo
        refine ⟨_, rfl, D, kvs, rfl, .inl hd, fun p hp => ?_⟩
        rw [kl]
        have sp1 : Same H2 (upd H2 p (.lst (o.map V.int))) := same_upd hp
        refine ⟨_, rfl, p, _, _, _, rfl, rfl, SqL.of upd_same, atI_nat (by rw [List.getElem?_map, hr2] <;> rfl), ?_⟩
        have hdp := sp1 _ _ hd
        have s2p := s2.trans sp1
        generalize upd H2 p (.lst (o.map V.int)) = HP at sp1 hdp s2p
        have hl1 := s2p _ _ h1
        have ea : HP a = some (oTup row) := s2p _ _ e2
        refine ⟨_, rfl, _, rfl, _, rfl, l, _, _, _, rfl, rfl, SqL.of hl1, at1, _, a, _, rfl, SqT.of ea, ?_⟩
        have naD : a ≠ D := fun z => by rw [z, hdp] at ea; cases ea
        have hz : (tx L).cps.size = (row.map V.int).length := by rw [size_tx, List.length_map, rl]
        refine for_it (ZPT.walk_st hz) (fun i σ H3 => ∃ (kvs : List (Key × V)) (x5 x6 : Option V), Same H H3 ∧ H3 a = some (oTup row) ∧ H3 D = some (.dK kvs) ∧ Keys kvs ((row.take i).foldl addN o) ∧ VOk L kvs (((row.take i).zipIdx).foldl (addP u0) ps) ∧ Few n ((row.take i).foldl addN o) ∧
          σ = [some (.ref l), some (.str (tx L)), some (.ref D), some (.int (j : Nat)), some (.int r), x5, x6]) ?_ (fun i σ H3 _ ⟨_, _, _, _, h, _⟩ => SqT.of h) ?_ ?_
        · exact ⟨kvs, x5, x6, s2p, ea, hdp, keys, vo, few, rfl⟩
        · rintro i x σ H3 H4 hi ⟨kvs, x5, x6, s3, ha3, hd3, keys3, vo3, few3, rfl⟩ ⟨T2, y, z, rfl, hT2, rfl, hy, hz2⟩
          rw [size_tx] at hi
          have hir : i < row.length := by omega
          have hLi : L[i]? = some L[i] := List.getElem?_eq_getElem hi
          have hy' : y = .str (sg L[i]) := by
            have : (tx L).cps[i]? = some L[i] := by rw [← Array.getElem?_toList, tx_list, hLi]
            have hy2 : Option.map (fun c => V.str ⟨#[c]⟩) ((tx L).cps[i]?) = some y := hy
            rw [this] at hy2
            exact (Option.some.inj hy2).symm
          have hz' : z = .int row[i] := by
            have hz3 : (row.map V.int)[i]? = some z := hz2
            rw [List.getElem?_map, List.getElem?_eq_getElem hir] at hz3
            exact (Option.some.inj hz3).symm
          subst hy'
          subst hz'
          have yin := rb row[i] (List.getElem_mem hir)
          have tk : (row.take (i + 1)).foldl addN o = addN ((row.take i).foldl addN o) row[i] := by
            rw [List.take_add_one, List.getElem?_eq_getElem hir, List.foldl_append] <;> rfl
          have tkP : ((row.take (i + 1)).zipIdx).foldl (addP u0) ps = addP u0 (((row.take i).zipIdx).foldl (addP u0) ps) (row[i], i) := by
            have il : (row.take i).length = i := by rw [List.length_take]; omega
            rw [List.take_add_one, List.getElem?_eq_getElem hir]
            show ((row.take i ++ [row[i]]).zipIdx).foldl (addP u0) ps = _
            rw [List.zipIdx_append, List.foldl_append, il, Nat.zero_add] <;> rfl
          have rin3 : (((row.take i).zipIdx).foldl (addP u0) ps)[j]? = some (r, u0) := by
            obtain ⟨t, ht⟩ := foldP_grows u0 ((row.take i).zipIdx) ps
            rw [← ht, List.getElem?_append_left (List.getElem?_eq_some_iff.mp hu0).1]
            exact hu0
          have pm3 : (((row.take i).zipIdx).foldl (addP u0) ps).map (·.1) = (row.take i).foldl addN o := by rw [foldP_fst, List.zipIdx_map_fst, pm]
          rw [tk, tkP]
          generalize (row.take i).foldl addN o = o3 at keys3 few3 pm3 ⊢
          generalize ((row.take i).zipIdx).foldl (addP u0) ps = p3 at vo3 rin3 pm3 ⊢
          generalize row[i] = y2 at yin ⊢
          have hlen3 : (o3.length : Int) ≤ n := few3.len.elim id fun z => by rw [z]; show (0 : Int) ≤ n; omega
          have s4 : Same H3 (upd H3 T2 (.tup [.str (sg L[i]), .int y2])) := same_upd hT2
          have ha4 := s4 _ _ ha3
          have hd4 := s4 _ _ hd3
          have tu : (upd H3 T2 (.tup [.str (sg L[i]), .int y2])) T2 = some (.tup [.str (sg L[i]), .int y2]) := upd_same
          have s04 := s3.trans s4
          generalize upd H3 T2 (.tup [.str (sg L[i]), .int y2]) = H4 at ha4 hd4 tu s04 ⊢
          refine ⟨T2, _, rfl, SqT.of tu, rfl, _, _, rfl, _, _, rfl, rfl, ?_⟩
          refine ⟨_, rfl, _, rfl, D, _, rfl, DGet.k (k := (Sum.inl y2 : Key)) hd4, _, rfl, ?_⟩
          by_cases hin : y2 ∈ o3
          · obtain ⟨v, hv⟩ := Option.ne_none_iff_exists'.mp ((keys3.val y2).mpr hin)
            rw [hv]
            refine iteF ?_
            refine ⟨kvs, _, _, s04, ha4, hd4, ?_, ?_, ?_, rfl⟩
            · unfold addN
              rw [if_pos hin]
              exact keys3
            · unfold addP
              rw [if_pos (by rw [pm3]; exact hin)]
              exact vo3
            · unfold addN
              rw [if_pos hin]
              exact few3
          · have hv : valV kvs (Sum.inl y2 : Key) = none := Classical.byContradiction fun z => hin ((keys3.val y2).mp z)
            rw [hv]
            refine iteT ?_
            have vr := vo3 r u0 (List.mem_of_getElem? rin3)
            refine ⟨_, rfl, _, rfl, D, _, rfl, vr ▸ DGet.k (k := (Sum.inl r : Key)) hd4, _, rfl, _, _, rfl, rfl, ?_, ?_⟩
            · rw [tx_len, sizeLine_eq]
              show (wordL L u0).length + 1 ≤ _
              unfold wordL
              rw [List.length_map]
              omega
            rw [show tx (wordL L u0) ++ sg L[i] = tx (wordL L (u0 ++ [i])) by rw [word_snoc hLi, ← tx_app] <;> rfl]
            refine ⟨_, rfl, _, rfl, D, _, rfl, DPut.k (k := (Sum.inl y2 : Key)) hd4 (by rw [keys3.len, sizeLine_eq]; omega), ?_⟩
            refine ⟨putK kvs (Sum.inl y2) (.str (tx (wordL L (u0 ++ [i])))), _, _, same_at s04 hD, ?_, upd_same, ?_, ?_, few3.add yin, rfl⟩
            · rw [upd_ne naD]
              exact ha4
            · unfold addN
              rw [if_neg hin]
              exact keys3.put hin _
            · unfold addP
              rw [if_neg (by rw [pm3]; exact hin)]
              exact vo3.put (by rw [pm3]; exact hin)
        · rintro σ H3 ⟨kvs, x5, x6, s3, ha3, hd3, keys3, vo3, few3, rfl⟩
          have sz : (tx L).cps.size = row.length := by rw [size_tx, rl]
          rw [sz, List.take_length] at keys3 vo3 few3
          rw [← hstep] at keys3 few3
          rw [← hstepP] at vo3
          refine ⟨_, rfl, _, _, rfl, rfl, ?_⟩
          refine ⟨⟨j + 1, kvs, _, _, _, s3, hd3, keys3, vo3, few3, ?_, rfl⟩, ?_⟩
          · have : o.length ≤ (wyA tb 0 (j + 1)).length := by rw [hstep]; exact (addF_grows row o).length_le
            omega
          · show n.toNat - ((j : Int) + 1).toNat < n.toNat - ((j : Int)).toNat
            omega
      · have hge : ¬ (((j : Nat) : Int) < (((wyA tb 0 j).length : Nat) : Int)) := fun z => hge (decide_eq_true z)
        have e1 : wyA tb 0 tb.length = wyA tb 0 j := by
          have h4 := wyA_stop (tb := tb) (st := 0) (j := j) (by omega) (tb.length - j)
          rw [show j + (tb.length - j) = tb.length by omega] at h4
          exact h4
        have lp : (wyP tb 0 j).length = (wyA tb 0 j).length := by rw [← wyP_fst, List.length_map]
        have e2 : wyP tb 0 tb.length = wyP tb 0 j := by
          have h4 := wyP_stop (tb := tb) (st := 0) (j := j) (by omega) (tb.length - j)
          rw [show j + (tb.length - j) = tb.length by omega] at h4
          exact h4
        refine ⟨_, rfl, q D kvs H2 hD s2 hd ?_ ?_⟩
        · rw [e1]
          exact keys
        · rw [e2]
          exact vo
    · exact fun σ H Q Q' hm ⟨v, hv, w', hw, M2, ys2, e2, hs2, i, j, a, b, k, hk, q⟩ => ⟨v, hv, w', hw, M2, ys2, e2, hs2, i, j, a, b, k, hk, hm _ _ q⟩
end
end RM
set_option Elab.async false
set_option linter.all false
set_option maxRecDepth 100000
set_option maxHeartbeats 8000000
namespace WK
open PySem L2 PyProof.Rows LCX K1 FV DP DL
open TX (sg sigs)
open PySem.W (Frag kitOne)
abbrev sStW : Stmt := top 49
def spStW (C : Addr) : Sp := fun vs H Q _ => ∃ (m : Addr) (L : W) (tb : List (List Int)) (es : List Int) (n : Int), vs = [.ref m] ∧ MacAt C H m L tb es ∧ TabOk tb L.length n ∧ 1 ≤ n ∧ n ≤ 64 ∧ L.length ≤ 3 ∧
  ∀ (D : Addr) (kvs : List (Key × V)) (ns : List Int) H', H D = none → Same H H' → H' D = some (.dK kvs) → Keys kvs ns → ns.Pairwise (· < ·) → ns.Perm (wyA tb 0 tb.length) → (∀ a u, (a, u) ∈ wyP tb 0 tb.length → valV kvs (Sum.inl a : Key) = some (.str (tx (wordL L u)))) → Q (.ref D) H'
section
variable {P : Program} {w : World} {K : PySem.W.Frag} {mg : Str → Option Value} {base : Heap} {C cD cM pT gT pL gL fN fW fA : Addr} {dT dL dN dW dA : FuncData}
theorem scSW : FnScope ["machine", "found", "state"] ["machine"] (defScope sStW) := ⟨rfl, rfl, rfl, by decide +kernel, rfl, by decide +kernel, by decide +kernel⟩
theorem ok_statew {f : Addr} {fd : FuncData} (F : Fun K "state_words" "state_words" sStW f fd) (T : TN mg) (M : TMc K mg C cD cM) (AN : Fn K mg "need_machines" sNeedMs ["machines"] fN dN) (GN : FnOk P w K mg base CX0 1 fN dN ["machines"] (spNeedMn K C)) (RT : PropOf K C "table" pT gT) (GT : FnOk P w K mg base CX0 1 gT dT ["self"] (getSp C "_table")) (bT : Binds K dT ["self"] [])
    (RL : PropOf K C "letters" pL gL) (GL : FnOk P w K mg base CX0 1 gL dL ["self"] (getSp C "_letters")) (bL : Binds K dL ["self"] []) (AW : Fn K mg "ways" sWays ["table", "start"] fW dW) (GW : FnOk P w K mg base CX0 1 fW dW ["table", "start"] (spWaysV K))
    (AA : Fn K mg "word_along" sAlong ["letters", "found", "row"] fA dA) (GA : FnOk P w K mg base CX0 1 fA dA ["letters", "found", "row"] spAlong) : FnOk P w K mg base CX0 3 f fd ["machine"] (spStW C) := by
  refine F.ok scSW (fun vs H Q E h => ?_) (fun cdv A outer s H vs Q E hr h => ?_)
  · obtain ⟨m, _, _, _, _, rfl, _⟩ := h
    rfl
  · obtain ⟨m, L, tb, es, n, rfl, mac, ok, n1, n2, l3, q⟩ := h
    have hr1 : Room 1 _ := hr.mono (by decide)
    refine ⟨_, pss_cons (ps_expr (pe_call GN hr1 rfl AN.g AN.F.kp AN.b .nil pass0 (pa_cons (pe_tup (pa_cons (pv 0) pa_nil)) pa_nil)))
      (pss_cons (ps_set (i := 1) scSW.nd rfl (Or.inr rfl) (pe_call GW hr1 rfl AW.g AW.F.kp AW.b .nil pass0 (pa_cons (pe_prop (E := E0) (pv 0) M.cl RT GT hr bT .nil pass0 rfl) (pa_cons pe_int pa_nil))))
      (pss_one (ps_ret (pe_dc (own := [("state", 2)]) (g := gName 2) (tt := tYes) (tk := tVar 2) (tv := tCall spAlong [] E0 (tCons (tProp C (getSp C "_letters") [] E0 (tVar 0)) (tCons (tVar 1) (tCons (tVar 2) tNil)))) rfl scSW.nd
          (pi_list (pe_callB cr_sortedI (by rfl) T.sorted (by decide +kernel) (pa_cons (pe_callTy (call_listD rfl) (by rfl) T.list (by decide +kernel) (pa_cons (pv 1) pa_nil)) pa_nil)))
          (blkOk_by (own := [("state", 2)]) (N := ["machine", "found", "state"]) (sc := defScope sStW) (by decide +kernel)) (fun _ _ _ _ _ => pg_name (i := 2) scSW.nd rfl (Or.inl rfl)) (fun _ _ _ _ _ => pts_nil) (fun _ _ _ _ _ => pv 2)
          (fun _ _ _ _ _ => pe_call GA hr1 rfl AA.g AA.F.kp AA.b .nil pass0 (pa_cons (pe_prop (E := E0) (pv 0) M.cl RL GL hr bL .nil pass0 rfl) (pa_cons (pv 1) (pa_cons (pv 2) pa_nil)))))))), ?_⟩
    obtain ⟨dx, t, e, ts, hm, h2, h3, h4⟩ := id mac.ex
    have okl := ok.len
    refine ⟨_, rfl, (by show 1 ≤ sizeLine; decide), fun p1 hp1 => ⟨p1, [m], rfl, SqT.of upd_same, fun a ha => ?_, ?_⟩⟩
    · rw [List.mem_singleton.mp ha]
      exact ⟨dx, _, same_upd hp1 _ _ hm⟩
    have s1 := same_upd (o := .tup [.ref m]) hp1
    generalize upd H p1 (.tup [.ref m]) = H1 at s1 ⊢
    refine ⟨_, rfl, m, dx, _, rfl, s1 _ _ hm, m, dx, _, _, rfl, s1 _ _ hm, RM.mfl_T _ _ _, t, tb, L.length, n, 0, rfl, ⟨ts, SqT.of (s1 _ _ h2), h3.to fun a _ r e => s1 _ _ e⟩, ok, by omega, by omega, Int.le_refl _, by omega, fun D kvs H2 nD s2 hD keys few wok => ?_⟩
    have s02 := s1.trans s2
    have ek : (kvs.map fun kv => kV kv.1) = (wyA tb 0 tb.length).map V.int := by
      have h := congrArg (List.map kV) (show kvs.map (·.1) = (wyA tb 0 tb.length).map (Sum.inl : Int → Key) from keys)
      rw [List.map_map, List.map_map] at h
      exact h
    have lwy : (wyA tb 0 tb.length).length ≤ 64 := by
      have := few.len
      rcases this with h | h
      · omega
      · rw [h] <;> decide
    refine ⟨_, rfl, D, _, rfl, .inl hD, fun p5 np5 => ?_⟩
    rw [ek]
    have s5 := same_upd (o := .lst ((wyA tb 0 tb.length).map V.int)) np5
    refine ⟨p5, _, rfl, SqL.of upd_same, fun ns p6 perm asc np6 => ⟨p6, rfl, ⟨_, SqL.of upd_same⟩, fun D7 nD7 => ?_⟩⟩
    have s6 := same_upd (o := .lst (ns.map V.int)) np6
    have at6 : (upd (upd H2 p5 (.lst ((wyA tb 0 tb.length).map V.int))) p6 (.lst (ns.map V.int))) p6 = some (.lst (ns.map V.int)) := upd_same
    have s06 := s02.trans (s5.trans s6)
    have s26 := s5.trans s6
    generalize upd (upd H2 p5 (.lst ((wyA tb 0 tb.length).map V.int))) p6 (.lst (ns.map V.int)) = H6 at s6 at6 s06 s26 nD7 ⊢
    have ndw : ns.Nodup := perm.nodup_iff.mpr few.nd
    have lns : ns.length ≤ 64 := by rw [perm.length_eq]; exact lwy
    have nasc : ns.Pairwise (· < ·) := asc.imp₂ (fun _ _ h1 h2 => by omega) ndw
    have fst := wyP_fst (tb := tb) (st := 0) tb.length
    have lwp : (wyP tb 0 tb.length).length ≤ 1000 := by
      have := congrArg List.length fst
      rw [List.length_map] at this
      omega
    have uniq : ∀ {a : Int} {u v : List Nat}, (a, u) ∈ wyP tb 0 tb.length → (a, v) ∈ wyP tb 0 tb.length → u = v := fun {a u v} hu hv => by
      obtain ⟨i, hi⟩ := List.mem_iff_getElem?.mp hu
      obtain ⟨j, hj⟩ := List.mem_iff_getElem?.mp hv
      have fi : (wyA tb 0 tb.length)[i]? = some a := by rw [← fst, List.getElem?_map, hi] <;> rfl
      have fj : (wyA tb 0 tb.length)[j]? = some a := by rw [← fst, List.getElem?_map, hj] <;> rfl
      obtain rfl := (List.getElem?_inj (List.getElem?_eq_some_iff.mp fi).1 few.nd).mp (fi.trans fj.symm)
      have := Option.some.inj (hi.symm.trans hj)
      exact (Prod.mk.inj this).2
    refine dc_it walk_list (fun i H8 => Same H6 H8 ∧ ∃ kv : List (Key × V), H8 D7 = some (.dK kv) ∧ Keys kv (ns.take i) ∧ ∀ a u, (a, u) ∈ wyP tb 0 tb.length → a ∈ ns.take i → valV kv (Sum.inl a : Key) = some (.str (tx (wordL L u)))) ⟨same_upd nD7, [], upd_same, rfl, fun a u _ h => by simp at h⟩ (fun i H8 _ h => SqL.of (h.1 _ _ at6)) ?_ ?_
    · rintro i x H8 H9 hi ⟨s8, kv, hd8, k8, v8⟩ ⟨rfl, hx⟩
      rw [List.length_map] at hi
      obtain ⟨a, ea⟩ : ∃ a, ns[i]? = some a := ⟨_, List.getElem?_eq_getElem hi⟩
      obtain rfl : x = .int a := by
        rw [List.getElem?_map, ea] at hx
        exact (Option.some.inj hx).symm
      have aw : a ∈ wyA tb 0 tb.length := perm.mem_iff.mp (List.mem_of_getElem? ea)
      obtain ⟨w0, hw0⟩ : ∃ w0, (a, w0) ∈ wyP tb 0 tb.length := by
        rw [← fst] at aw
        obtain ⟨p, hp, e⟩ := List.mem_map.mp aw
        exact ⟨p.2, e ▸ hp⟩
      have s08 := s06.trans s8
      have s28 := s26.trans s8
      have tk : ns.take (i + 1) = ns.take i ++ [a] := by rw [List.take_add_one, ea] <;> rfl
      have anew : a ∉ ns.take i := fun z => by
        obtain ⟨m, hm, e⟩ := List.getElem_of_mem z
        rw [List.length_take] at hm
        rw [List.getElem_take] at e
        have := (List.getElem?_inj (show m < ns.length by omega) ndw).mp ((List.getElem?_eq_getElem (by omega)).trans ((congrArg some e).trans ea.symm))
        omega
      have lk : kv.length ≤ 64 := by
        rw [k8.len, List.length_take]
        omega
      refine ⟨rfl, _, rfl, _, rfl, m, dx, _, rfl, s08 _ _ hm, m, dx, _, _, rfl, s08 _ _ hm, RM.mfl_L _ _ _, _, rfl, _, rfl, L, D, a, kvs, wyP tb 0 tb.length, w0, rfl, l3, s28 _ _ hD, wok.keep (Same.tup' s28), hw0, lwp, fun H10 s10 => ?_⟩
      refine ⟨kv, Sum.inl a, rfl, s10 _ _ hd8, by rw [sizeLine_eq]; omega, same_at (s8.trans s10) nD7, _, upd_same, ?_, fun b u hb hbm => ?_⟩
      · rw [tk]
        exact k8.put anew _
      · rw [valV_put]
        by_cases e : b = a
        · subst e
          rw [if_pos rfl, uniq hb hw0]
        · rw [if_neg fun z => e (Sum.inl.inj z)]
          rw [tk] at hbm
          exact v8 b u hb ((List.mem_append.mp hbm).elim id fun z => absurd (List.mem_singleton.mp z) e)
    · rintro H8 ⟨s8, kv, hd8, k8, v8⟩
      rw [List.length_map, List.take_of_length_le (Nat.le_refl _)] at k8 v8
      have nDH : H D7 = none := s06.free nD7
      exact q D7 kv ns H8 nDH (s06.trans s8) hd8 k8 nasc perm fun a u hu => v8 a u hu (perm.mem_iff.mpr (by
        rw [← fst]
        exact List.mem_map_of_mem (f := (·.1)) hu))
end
end WK
set_option Elab.async false
set_option linter.all false
set_option maxRecDepth 100000
set_option maxHeartbeats 8000000
namespace WK
open PySem L2 PyProof.Rows LCX K1 FV DP DL NF
open TX (sg sigs)
open PySem.W (Frag kitOne)
abbrev sFree : Stmt := top 51
abbrev NOf : List Str := ["machine", "table", "columns", "row", "one", "other"]
/-- the state that two letters lead a row on to -/
def twoOn (kp : List (List Int)) (row : List Int) (i j : Nat) : Int := (kp.getD (row.getD i 0).toNat []).getD j 0
/-- any two letters lead each row on alike in both orders -/
def orderB (kp : List (List Int)) (k : Nat) : Bool := kp.all fun row => (List.range k).all fun i => (List.range k).all fun j => decide (twoOn kp row i j = twoOn kp row j i)
def spFree (C : Addr) : Sp := fun vs H Q _ => ∃ (m : Addr) (L : W) (tb : List (List Int)) (es : List Int) (n : Int), vs = [.ref m] ∧ MacAt C H m L tb es ∧ Let L ∧ TabOk tb L.length n ∧ 1 ≤ n ∧ n ≤ 100 ∧ es.length ≤ 900 ∧ L.length ≤ 3 ∧
  ∀ kp en H', Same H H' → RM.Least tb L.length es kp en → Q (.bl (orderB kp L.length)) H'
/-- over a range, by what holds when i are done -/
theorem u_range {lo : Int} {n : Nat} {g : TG} {tt : TT} {t : L2.St → Hp → (Hp → Prop) → Prop} {vs : List Nat} {σ : L2.St} {H0 : Hp} {Nx : Hp → Prop} (Pv : Nat → Hp → Prop) (h0 : Pv 0 H0)
    (hs : ∀ i H, i < n → Pv i H → g (.int (lo + i)) (wipe σ vs) H fun σ1 H1 => wipe σ1 vs = wipe σ vs ∧ tt σ1 H1 fun b H2 => if b = true then t σ1 H2 (Pv (i + 1)) else Pv (i + 1) H2) (hd : ∀ H, Pv n H → Nx H) : uLoop g tt t vs σ (Itr lo n) H0 Nx := by
  refine ⟨fun i m H => m + i = n ∧ Pv i H, ⟨n, rfl, h0⟩, ?_⟩
  rintro i m H ⟨e, p⟩
  rcases Nat.lt_or_ge i n with lt | ge
  · refine .inr ⟨lt, Pv (i + 1), fun H' p' => ⟨m - 1, by omega, by omega, p'⟩, ?_⟩
    rintro x _ ⟨rfl, rfl⟩
    exact hs i _ lt p
  · obtain rfl : i = n := by omega
    exact .inl ⟨Nat.le_refl _, hd H p⟩
theorem u_tup {K : Frag} {a : Addr} {xs : List V} {g : TG} {tt : TT} {t : L2.St → Hp → (Hp → Prop) → Prop} {vs : List Nat} {σ : L2.St} {H0 : Hp} {Nx : Hp → Prop} (Pv : Nat → Hp → Prop) (h0 : Pv 0 H0) (hl : ∀ i H, Pv i H → SqT K H a xs)
    (hs : ∀ i x H, xs[i]? = some x → Pv i H → g x (wipe σ vs) H fun σ1 H1 => wipe σ1 vs = wipe σ vs ∧ tt σ1 H1 fun b H2 => if b = true then t σ1 H2 (Pv (i + 1)) else Pv (i + 1) H2) (hd : ∀ H, Pv xs.length H → Nx H) : uLoop g tt t vs σ (Itt K a) H0 Nx := by
  refine ⟨fun i m H => m + i = xs.length ∧ Pv i H, ⟨xs.length, rfl, h0⟩, ?_⟩
  rintro i m H ⟨e, p⟩
  have q := hl i H p
  rcases Nat.lt_or_ge i xs.length with lt | ge
  · refine .inr ⟨⟨xs, xs[i], q, List.getElem?_eq_getElem lt⟩, Pv (i + 1), fun H' p' => ⟨m - 1, by omega, by omega, p'⟩, ?_⟩
    rintro x _ ⟨rfl, y⟩
    exact hs i x _ (y xs q) p
  · obtain rfl : i = xs.length := by omega
    exact .inl ⟨⟨xs, q, Nat.le_refl _⟩, hd H p⟩
abbrev tTwo (K : Frag) (a b : Nat) : TE := tOp (rIxT K) (tOp (rIxT K) (tVar 1) (tOp (rIxT K) (tVar 3) (tVar a))) (tVar b)
theorem two_ok {K : Frag} {H : Hp} {t ra : Addr} {ts : List Addr} {kp : List (List Int)} {k i j a b : Nat} {row : List Int} {σ : L2.St} {Q : VK} (h2 : H t = some (.tup (ts.map V.ref))) (h3 : Objs oTup H ts kp) (ok : TabOk kp k (kp.length : Nat)) (e1 : σ[1]? = some (some (.ref t))) (e3 : σ[3]? = some (some (.ref ra)))
    (ea : σ[a]? = some (some (.int ((i : Nat) : Int)))) (eb : σ[b]? = some (some (.int ((j : Nat) : Int)))) (hr : H ra = some (oTup row)) (hrow : row ∈ kp) (hi : i < k) (hj : j < k) (q : Q (.int (twoOn kp row i j)) H) : tTwo K a b σ H Q := by
  obtain ⟨rl, rb⟩ := ok.row row hrow
  have ri : row[i]? = some (row.getD i 0) := by rw [List.getD_eq_getElem?_getD, List.getElem?_eq_getElem (by omega)] <;> rfl
  obtain ⟨x0, xn⟩ := rb _ (List.mem_of_getElem? ri)
  have xl : (row.getD i 0).toNat < kp.length := by omega
  obtain ⟨ta, ets, hta⟩ := h3.get xl
  obtain ⟨sl, sb⟩ := ok.row (kp.getD (row.getD i 0).toNat []) (by rw [List.getD_eq_getElem?_getD, List.getElem?_eq_getElem xl]; exact List.getElem_mem xl)
  have sj : (kp.getD (row.getD i 0).toNat [])[j]? = some (twoOn kp row i j) := by
    unfold twoOn
    rw [List.getD_eq_getElem?_getD (l := kp.getD (row.getD i 0).toNat []), List.getElem?_eq_getElem (show j < (kp.getD (row.getD i 0).toNat []).length by omega)] <;> rfl
  have ex : row.getD i 0 = (((row.getD i 0).toNat : Nat) : Int) := by omega
  refine ⟨_, e1, _, e3, _, ea, ra, row.map V.int, i, .int (row.getD i 0), rfl, rfl, SqT.of hr, atI_nat (by rw [List.getElem?_map, ri] <;> rfl), t, ts.map V.ref, row.getD i 0, .ref ta, rfl, rfl, SqT.of h2, ?_, _, eb, ta, _, j, .int (twoOn kp row i j), rfl, rfl, SqT.of hta, atI_nat (by rw [List.getElem?_map, sj] <;> rfl), q⟩
  rw [ex]
  exact atI_nat (by rw [List.getElem?_map, ets] <;> rfl)
def cellB (kp : List (List Int)) (row : List Int) (i j : Nat) : Bool := decide (twoOn kp row i j = twoOn kp row j i)
def lineB (kp : List (List Int)) (k : Nat) (row : List Int) (i : Nat) : List Bool := (List.range k).map (cellB kp row i)
def blockB (kp : List (List Int)) (k : Nat) (row : List Int) : List Bool := (List.range k).flatMap (lineB kp k row)
theorem orderB_eq (kp : List (List Int)) (k : Nat) : (kp.flatMap (blockB kp k)).all id = orderB kp k := by
  unfold orderB blockB lineB cellB
  simp only [List.all_flatMap, List.all_map]
  rfl
theorem blockB_len {kp : List (List Int)} {k : Nat} {row : List Int} : ∀ m, ((List.range m).flatMap (lineB kp k row)).length = m * k
  | 0 => by rw [Nat.zero_mul] <;> rfl
  | m + 1 => by
    rw [List.range_succ, List.flatMap_append, List.length_append, blockB_len m, Nat.succ_mul]
    show m * k + ([m].flatMap (lineB kp k row)).length = _
    rw [List.flatMap_singleton]
    unfold lineB
    rw [List.length_map, List.length_range]
theorem take_len {kp : List (List Int)} {k : Nat} (f : List Int → List Bool) (hf : ∀ r, (f r).length = k) : ∀ l : List (List Int), (l.flatMap f).length = l.length * k
  | [] => by rw [List.length_nil, Nat.zero_mul] <;> rfl
  | r :: l => by rw [List.flatMap_cons, List.length_append, hf, take_len (kp := kp) f hf l, List.length_cons, Nat.succ_mul, Nat.add_comm]
section
variable {P : Program} {w : World} {K : PySem.W.Frag} {mg : Str → Option Value} {base : Heap} {C cD cM pT gT pL gL fN fS : Addr} {dT dL dN dS : FuncData}
theorem scOF : FnScope NOf ["machine"] (defScope sFree) := ⟨rfl, rfl, rfl, by decide +kernel, rfl, by decide +kernel, by decide +kernel⟩
theorem ok_free {f : Addr} {fd : FuncData} {fM : Addr} {ps : List Addr} (F : Fun K "is_order_free" "is_order_free" sFree f fd) (T : TN mg) (M : TMc K mg C cD cM) (AN : Fn K mg "need_machines" sNeedMs ["machines"] fN dN) (GN : FnOk P w K mg base CX0 1 fN dN ["machines"] (spNeedMn K C)) (RT : PropOf K C "table" pT gT) (GT : FnOk P w K mg base CX0 1 gT dT ["self"] (getSp C "_table")) (bT : Binds K dT ["self"] [])
    (RL : PropOf K C "letters" pL gL) (GL : FnOk P w K mg base CX0 1 gL dL ["self"] (getSp C "_letters")) (bL : Binds K dL ["self"] []) (MS : Meth K C "least" fS) (GS : FnOk P w K mg base CX0 7 fS dS ["self"] (RM.spMLeast C)) (bS : Binds K dS ["self"] []) : FnOk P w K mg base CX0 8 f fd ["machine"] (spFree C) := by
  refine F.ok scOF (fun vs H Q E h => ?_) (fun cdv A outer s H vs Q E hr h => ?_)
  · obtain ⟨m, _, _, _, _, rfl, _⟩ := h
    rfl
  · obtain ⟨m, L, tb, es, n, rfl, mac, hL, ok, n1, n2, eL, l3, q⟩ := h
    have hr1 : Room 1 _ := hr.mono (by decide)
    have hr2 : Room (1 + 1) _ := hr.mono (by decide)
    have hr7 : Room 7 _ := hr.mono (by decide)
    refine ⟨_, pss_cons (ps_expr (pe_call GN hr1 rfl AN.g AN.F.kp AN.b .nil pass0 (pa_cons (pe_tup (pa_cons (pv 0) pa_nil)) pa_nil)))
      (pss_cons (ps_set (i := 1) scOF.nd rfl (Or.inr rfl) (pe_prop (E := E0) (pe_meth0 (E := E0) (pv 0) M.cl MS GS hr7 bS .nil pass0) M.cl RT GT hr2 bT .nil pass0 rfl))
      (pss_cons (ps_set (i := 2) scOF.nd rfl (Or.inr rfl) (pe_callTy cr_rangeTo (by rfl) T.rng (by decide +kernel) (pa_cons (pe_callB call_len_str (by rfl) T.len PySem.boot_len (pa_cons (pe_prop (E := E0) (pv 0) M.cl RL GL hr2 bL .nil pass0 rfl) pa_nil)) pa_nil)))
      (pss_one (ps_ret (pe_callB (cr_all rfl) (by rfl) T.all (by decide +kernel) (pa_cons
        (pe_lcN (own := [("row", 3), ("one", 4), ("other", 5)]) (g := gName 3) (tt := tYes) (vs1 := [4, 5])
          (t := fun D σ H Nx => iHeld (tVar 2) σ H fun J H1 => uLoop (gName 4) tYes (fun σ H Nx => iHeld (tVar 2) σ H fun J H1 => uLoop (gName 5) tYes
            (fun σ H Nx => tOp rEq (tTwo K 4 5) (tTwo K 5 4) σ H fun y H1 => ∃ xs, H1 D = some (.lst xs) ∧ xs.length < sizeLine ∧ Nx (upd H1 D (.lst (xs ++ [y])))) [5] σ J H1 Nx) [4, 5] σ J H1 Nx)
          rfl scOF.nd (pi_tup (pv 1)) (blkOk_by (own := [("row", 3), ("one", 4), ("other", 5)]) (N := NOf) (sc := defScope sFree) (by decide +kernel)) (by decide)
          (fun D env => told_mid rfl rfl fun _ => rfl)
          (fun s H c D cl fp => ⟨pg_name (i := 3) scOF.nd rfl (Or.inl rfl), pts_nil,
            behind_for rfl rfl rfl (told_mid rfl rfl fun _ => rfl) (pi_held (pv 2)) (pg_name (i := 4) scOF.nd rfl (Or.inl rfl)) pts_nil
              (behind_for rfl rfl rfl (told_last rfl rfl) (pi_held (pv 2)) (pg_name (i := 5) scOF.nd rfl (Or.inl rfl)) pts_nil
                (behind_elt (vs := []) rfl (pe_cmpR op_eq (pe_ix ix_tup (pe_ix ix_tup (pv 1) (pe_ix ix_tup (pv 3) (pv 4) (fun _ _ => rfl)) (fun _ _ => rfl)) (pv 5) (fun _ _ => rfl))
                  (pe_ix ix_tup (pe_ix ix_tup (pv 1) (pe_ix ix_tup (pv 3) (pv 5) (fun _ _ => rfl)) (fun _ _ => rfl)) (pv 4) (fun _ _ => rfl)) (nomark _))) (by decide)) (by decide)⟩)) pa_nil)))))), ?_⟩
    obtain ⟨dx, t, e, ts, hm, h2, h3, h4⟩ := id mac.ex
    have okl := ok.len
    refine ⟨_, rfl, (by show 1 ≤ sizeLine; decide), fun p1 hp1 => ⟨p1, [m], rfl, SqT.of upd_same, fun a ha => ?_, ?_⟩⟩
    · rw [List.mem_singleton.mp ha]
      exact ⟨dx, _, same_upd hp1 _ _ hm⟩
    have s1 := same_upd (o := .tup [.ref m]) hp1
    generalize upd H p1 (.tup [.ref m]) = H1 at s1 ⊢
    refine ⟨_, rfl, m, dx, _, rfl, s1 _ _ hm, ?_, m, L, tb, es, n, rfl, ⟨dx, t, e, s1 _ _ hm, ⟨ts, s1 _ _ h2, h3.to fun a _ r z => s1 _ _ z⟩, s1 _ _ h4⟩, hL, ok, n1, n2, eL, fun p kp en H2 np s2 macP least => ?_⟩
    · rw [← put3, lookup_putF, if_neg (by decide +kernel), ← put2, lookup_putF, if_neg (by decide +kernel)]
      rfl
    have s02 := s1.trans s2
    obtain ⟨dk, tk, ek, hk, ⟨rs, k2, k3⟩, k4⟩ := macP
    obtain ⟨okk, kp1, _, kpT⟩ := least.tab ok n1
    refine ⟨p, dk, _, rfl, hk, p, dk, _, _, rfl, hk, RM.mfl_T _ _ _, _, rfl, m, dx, _, rfl, s02 _ _ hm, m, dx, _, _, rfl, s02 _ _ hm, RM.mfl_L _ _ _, tx L, rfl, ?_, _, rfl, fun p3 np3 => ?_⟩
    · rw [tx_len, sizeLine_eq]; omega
    rw [tx_len]
    have s3 := same_upd (o := .rng 0 ((L.length : Nat) : Int)) np3
    have at3 : (upd H2 p3 (.rng 0 ((L.length : Nat) : Int))) p3 = some (.rng 0 ((L.length : Nat) : Int)) := upd_same
    have s03 := s02.trans s3
    replace k2 := s3 _ _ k2
    replace k3 := k3.to fun a _ r z => s3 _ _ z
    generalize upd H2 p3 (.rng 0 ((L.length : Nat) : Int)) = H3 at s3 at3 s03 k2 k3 ⊢
    refine ⟨_, rfl, tk, rfl, ⟨_, SqT.of k2⟩, fun D nD => ?_⟩
    have sizes : ∀ (i j l : Nat) (row : List Int), i < kp.length → j < L.length → l < L.length → ((((kp.take i).flatMap (blockB kp L.length) ++ (List.range j).flatMap (lineB kp L.length row)) ++ (List.range l).map (cellB kp row j)).map V.bl).length < sizeLine := by
      intro i j l row hi hj hl
      have b1 : ∀ r, (blockB kp L.length r).length = L.length * L.length := fun r => blockB_len L.length
      have c1 : (kp.take i).length * (L.length * L.length) ≤ 100 * (3 * 3) := Nat.mul_le_mul (by rw [List.length_take]; omega) (Nat.mul_le_mul l3 l3)
      have c2 : j * L.length ≤ 3 * 3 := Nat.mul_le_mul (by omega) l3
      rw [List.length_map, List.length_append, List.length_append, take_len (kp := kp) _ b1, blockB_len, List.length_map, List.length_range, sizeLine_eq]
      omega
    have wide : (-(2 ^ 62) ≤ (0 : Int) ∧ (0 : Int) < 2 ^ 62 ∧ -(2 ^ 62) ≤ ((L.length : Nat) : Int) ∧ ((L.length : Nat) : Int) < 2 ^ 62) := by omega
    have eN : (((L.length : Nat) : Int) - 0).toNat = L.length := by omega
    refine u_tup (fun i H' => Same H3 H' ∧ H' D = some (.lst (((kp.take i).flatMap (blockB kp L.length)).map V.bl))) ⟨same_upd nD, upd_same⟩ (fun i H' p => SqT.of (p.1 _ _ k2)) ?_ ?_
    · rintro i x H4 hx ⟨s4, d4⟩
      rw [List.getElem?_map] at hx
      obtain ⟨ra, hra, rfl⟩ := Option.map_eq_some_iff.mp hx
      have il : i < kp.length := by
        rw [← k3.len]
        exact (List.getElem?_eq_some_iff.mp hra).1
      obtain ⟨ra', hra', atr⟩ := k3.get il
      obtain rfl : ra = ra' := Option.some.inj (hra.symm.trans hra')
      obtain ⟨row, hrow⟩ : ∃ row, row = kp.getD i [] := ⟨_, rfl⟩
      have rowI : kp[i]? = some row := by rw [hrow, List.getD_eq_getElem?_getD, List.getElem?_eq_getElem il] <;> rfl
      rw [← hrow] at atr
      refine ⟨rfl, _, rfl, p3, 0, ((L.length : Nat) : Int), rfl, s4 _ _ at3, wide, ?_⟩
      rw [eN]
      refine u_range (lo := 0) (fun j H' => Same H3 H' ∧ H' D = some (.lst (((kp.take i).flatMap (blockB kp L.length) ++ (List.range j).flatMap (lineB kp L.length row)).map V.bl))) ⟨s4, ?_⟩ ?_ ?_
      · rw [d4, List.range_zero, List.flatMap_nil, List.append_nil]
      · rintro j H5 hj ⟨s5, d5⟩
        refine ⟨rfl, _, rfl, p3, 0, ((L.length : Nat) : Int), rfl, s5 _ _ at3, wide, ?_⟩
        rw [eN]
        refine u_range (lo := 0) (fun l H' => Same H3 H' ∧ H' D = some (.lst ((((kp.take i).flatMap (blockB kp L.length) ++ (List.range j).flatMap (lineB kp L.length row)) ++ (List.range l).map (cellB kp row j)).map V.bl))) ⟨s5, ?_⟩ ?_ ?_
        · rw [d5, List.range_zero, List.map_nil, List.append_nil]
        · rintro l H6 hl ⟨s6, d6⟩
          have g2 := s6 _ _ k2
          have g3 : Objs oTup H6 rs kp := k3.to fun a _ r z => s6 _ _ z
          have gr := s6 _ _ atr
          have mem := List.mem_of_getElem? rowI
          refine ⟨rfl, two_ok (i := j) (j := l) (row := row) g2 g3 okk rfl rfl ?_ ?_ gr mem hj hl (two_ok (i := l) (j := j) (row := row) g2 g3 okk rfl rfl ?_ ?_ gr mem hl hj ⟨rfl, _, d6, sizes i j l row il hj hl, same_at s6 nD, ?_⟩)⟩
          · show some (some (V.int (0 + (j : Int)))) = _
            rw [Int.zero_add]
          · show some (some (V.int (0 + (l : Int)))) = _
            rw [Int.zero_add]
          · show some (some (V.int (0 + (l : Int)))) = _
            rw [Int.zero_add]
          · show some (some (V.int (0 + (j : Int)))) = _
            rw [Int.zero_add]
          · have ec : decide (V.int (twoOn kp row j l) = V.int (twoOn kp row l j)) = cellB kp row j l := decide_eq_decide.mpr ⟨V.int.inj, congrArg V.int⟩
            rw [upd_same, ec, List.range_succ, List.map_append (f := cellB kp row j), ← List.append_assoc]
            exact congrArg (fun z => some (HO.lst z)) (List.map_append (f := V.bl) (l₂ := [cellB kp row j l])).symm
        · rintro H6 ⟨s6, d6⟩
          refine ⟨s6, ?_⟩
          rw [d6, List.range_succ, List.flatMap_append, List.flatMap_singleton, List.append_assoc]
          rfl
      · rintro H5 ⟨s5, d5⟩
        refine ⟨s5, ?_⟩
        rw [d5, List.take_succ, rowI, List.flatMap_append]
        show _ = some (HO.lst ((_ ++ [row].flatMap _).map V.bl))
        rw [List.flatMap_singleton]
        rfl
    · rintro H4 ⟨s4, d4⟩
      rw [List.length_map, k3.len, List.take_length] at d4
      refine ⟨D, kp.flatMap (blockB kp L.length), rfl, SqL.of d4, ?_⟩
      rw [orderB_eq]
      exact q kp en H4 (s03.trans s4) least
end
end WK
set_option Elab.async false
set_option linter.all false
set_option maxRecDepth 100000
set_option maxHeartbeats 8000000
namespace RM
open PySem L2 PyProof.Rows LCX K1 FV DP WK ND
open TX (sg sigs)
open PySem.W (Frag kitOne)
abbrev sMInv : Stmt := inClass (top 43) 10
/-- the states that are no ends -/
def otherE (n : Nat) (es : List Int) : List Int := (rngI n).filter fun x => decide (x ∉ es)
def spMInv (C : Addr) : Sp := fun vs H Q _ => ∃ (o : Addr) (L : W) (tb : List (List Int)) (es : List Int) (n : Int), vs = [.ref o] ∧ MacAt C H o L tb es ∧ Let L ∧ TabOk tb L.length n ∧ 1 ≤ n ∧ n ≤ 100 ∧ ∀ p kp en H', H p = none → Same H H' → MacAt C H' p L kp en → Least tb L.length (otherE tb.length es) kp en → Q (.ref p) H'
section
variable {P : Program} {w : World} {K : PySem.W.Frag} {mg : Str → Option Value} {base : Heap} {cD CM fM : Addr} {dM : FuncData}
theorem scMIv : FnScope ["self", "others", "state"] ["self"] (defScope sMInv) := ⟨rfl, rfl, rfl, by decide +kernel, rfl, by decide +kernel, by decide +kernel⟩
theorem ok_minv {f : Addr} {fd : FuncData} {v0 : Value} {t0 : Tok} (ev : v0 = .int 0 t0) (F : Fun K "__invert__" "Machine.__invert__" sMInv f fd) (T : TN mg) (M : TMk K mg CM cD) (gM : mg "least_machine" = some (.ref fM)) (kM : PySem.W.keepIn K (.ref fM) = true) (GM : FnOk P w K mg base CX0 6 fM dM ["letters", "table", "ends", "start"] (spLM K CM)) (bM : Binds K dM ["letters", "table", "ends", "start"] [v0]) :
    FnOk P w K mg base CX0 7 f fd ["self"] (spMInv CM) := by
  refine F.ok scMIv (fun vs H Q E h => ?_) (fun cdv A outer s H vs Q E hr h => ?_)
  · obtain ⟨o, _, _, _, _, rfl, _⟩ := h
    rfl
  · obtain ⟨o, L, tb, es, n, rfl, ⟨dx, t, e, h1, h2, h4⟩, hL, ok, n1, n2, q⟩ := h
    refine ⟨_, pss_cons (ps_set (i := 1) scMIv.nd rfl (Or.inl rfl) (pe_callTy call_tuple_of (by rfl) T.tuple (by decide +kernel) (pa_cons (pe_lc (own := [("state", 2)]) (g := gName 2) (tt := tTest (tOp (rIn K true) (tVar 2) (tFld K (tVar 0) "_ends"))) (te := tVar 2) rfl scMIv.nd
          (pi_range1 rfl T.rng (pa_cons (pe_callB call_len_seq (by rfl) T.len PySem.boot_len (pa_cons (pe_fld (pv 0) rfl) pa_nil)) pa_nil)) (blkOk_by (own := [("state", 2)]) (N := ["self", "others", "state"]) (sc := defScope sMInv) (by decide +kernel)) (fun _ _ _ _ _ => pg_name (i := 2) scMIv.nd rfl (Or.inl rfl))
          (fun _ _ _ _ _ => pts_one (pt_cmpR op_notIn_seq (pv 2) (pe_fld (pv 0) rfl) (by rfl))) (fun _ _ _ _ _ => pv 2)) pa_nil)))
      (pss_one (ps_ret (pe_call (E := E0) GM hr rfl gM kM bM (dvs := [.int 0]) (.cons ⟨t0, ev⟩ .nil) pass0 (pa_cons (pe_fld (pv 0) rfl) (pa_cons (pe_fld (pv 0) rfl) (pa_cons (pv 1) pa_nil)))))), ?_⟩
    obtain ⟨ts, a1, a2⟩ := id h2
    have lt := a2.len
    have okl := ok.len
    refine ⟨_, rfl, o, CM, dx, _, _, rfl, h1, M.cl, M.nT, mfl_T _ _ _, t, _, rfl, .inr (SqT.of a1), ((tb.length : Nat) : Int), by rw [List.length_map, lt], by omega, by omega, fun D nD => ?_⟩
    have rs : ∀ i : Nat, rngI (i + 1) = rngI i ++ [((i : Nat) : Int)] := fun i => by
      unfold rngI
      rw [List.range_succ, List.map_append] <;> rfl
    refine lc_it walk_range (fun i H3 => Same H H3 ∧ H3 D = some (.lst ((otherE i es).map V.int))) ⟨same_upd nD, upd_same⟩ (fun _ _ _ _ => trivial) ?_ ?_
    · rintro i xi H3 H4 hi ⟨s3, hd⟩ ⟨rfl, exi⟩
      obtain rfl : xi = .int ((i : Nat) : Int) := exi.trans (congrArg V.int (Int.zero_add _))
      rw [Int.toNat_natCast] at hi
      have le : (otherE i es).length ≤ i := by
        have := List.length_filter_le (fun x => decide (x ∉ es)) (rngI i)
        unfold rngI at this
        rwa [List.length_map, List.length_range] at this
      refine ⟨rfl, _, rfl, _, rfl, o, CM, dx, _, _, rfl, s3 _ _ h1, M.cl, M.nE, mfl_E _ _ _, e, _, rfl, .inr (SqT.of (s3 _ _ h4)), rfl, RM.flat_ints es, _, rfl, ?_⟩
      rw [RM.inV_int]
      have nx : otherE (i + 1) es = otherE i es ++ (if decide (((i : Nat) : Int) ∉ es) = true then [((i : Nat) : Int)] else []) := by
        unfold otherE
        rw [rs, List.filter_append]
        refine congrArg _ ?_
        by_cases m : ((i : Nat) : Int) ∈ es <;> simp [m]
      rw [nx]
      refine ite2 (fun hc => ?_) (fun hc => ?_)
      · have m : ((i : Nat) : Int) ∉ es := fun m => by
          rw [decide_eq_true m] at hc
          cases hc
        rw [if_pos (decide_eq_true m)]
        refine ⟨_, rfl, _, hd, by rw [List.length_map, sizeLine_eq]; omega, same_at s3 nD, ?_⟩
        rw [upd_same, List.map_append] <;> rfl
      · have m : ((i : Nat) : Int) ∈ es := Classical.byContradiction fun m => hc (by rw [decide_eq_false m] <;> rfl)
        rw [if_neg (show ¬ decide (((i : Nat) : Int) ∉ es) = true from fun z => (of_decide_eq_true z : ((i : Nat) : Int) ∉ es) m), List.append_nil]
        exact ⟨s3, hd⟩
    rintro H3 ⟨s3, hd⟩
    rw [Int.toNat_natCast] at hd
    refine ⟨D, _, rfl, .inl ⟨SqL.of hd, fun oe noe => ?_⟩⟩
    have s4 := s3.trans (same_upd (o := .tup ((otherE tb.length es).map V.int)) noe)
    have te : (upd H3 oe (.tup ((otherE tb.length es).map V.int))) oe = some (oTup (otherE tb.length es)) := upd_same
    generalize upd H3 oe (.tup ((otherE tb.length es).map V.int)) = H4 at s4 te ⊢
    have lo : (otherE tb.length es).length ≤ tb.length := by
      have := List.length_filter_le (fun x => decide (x ∉ es)) (rngI tb.length)
      unfold rngI at this
      rwa [List.length_map, List.length_range] at this
    refine ⟨_, rfl, o, CM, dx, _, _, rfl, s4 _ _ h1, M.cl, M.nL, mfl_L _ _ _, _, rfl, o, CM, dx, _, _, rfl, s4 _ _ h1, M.cl, M.nT, mfl_T _ _ _, _, rfl, L, t, oe, tb, n, otherE tb.length es, rfl, hL, rows_tt (h2.keep (Same.tup' s4)), ok, n1, n2, te, by omega, fun p kp en H5 np s5 mac least => ?_⟩
    exact q p kp en H5 (s4.free np) (s4.trans s5) mac least
end
end RM
set_option Elab.async false
set_option linter.all false
set_option maxRecDepth 100000
set_option maxHeartbeats 4000000
namespace RM
open PySem L2 PyProof.Rows K1 WK ND
section
variable {B : List (List Int)} {wd : Nat} {n : Int} {ms : List Bool} {g h t : List Int}
/-- as many steps as there are places suffice -/
theorem it_fixed (hm : ms.length = B.length) (pos : 0 < B.length) : stG B (itG B (num ms) B.length) = itG B (num ms) B.length := by
  have len : ∀ j, (itG B (num ms) j).length = B.length := itG_len (by rw [num_len, hm])
  have step : ∀ j, stG B (itG B (num ms) j) = itG B (num ms) j ∨ j + 1 ≤ cls (itG B (num ms) j) := by
    intro j
    induction j with
    | zero => exact .inr (fo_zero (num_fo ms) (by rw [num_len, hm]; exact pos)).2
    | succ j ih =>
      rcases ih with e | le
      · left
        show stG B (stG B (itG B (num ms) j)) = stG B (itG B (num ms) j)
        rw [e, e]
      · by_cases e : stG B (itG B (num ms) j) = itG B (num ms) j
        · left
          show stG B (stG B (itG B (num ms) j)) = stG B (itG B (num ms) j)
          rw [e, e]
        · refine .inr ((Nat.lt_or_ge j (cls (itG B (num ms) (j + 1)) - 1)).elim (fun z => by omega) fun z => absurd (stG_fix (len j) (itG_fo (num_fo ms) j) ?_) e)
          show cls (itG B (num ms) (j + 1)) ≤ cls (itG B (num ms) j)
          omega
  rcases step B.length with e | le
  · exact e
  · have z : cls (itG B (num ms) B.length) ≤ B.length := by
      have := dd_len (itG B (num ms) B.length)
      rwa [len] at this
    omega
theorem ref_whole (hm : ms.length = B.length) (pos : 0 < B.length) : Ref B wd ms (itG B (num ms) B.length) := ⟨itG_len (by rw [num_len, hm]) _, itG_fo (num_fo ms) _, it_fixed hm pos, _, rfl⟩
/-- two lists part the places alike -/
def Ker (N : Nat) (g h : List Int) : Prop := ∀ i k : Nat, i < N → k < N → (gi g i = gi g k ↔ gi h i = gi h k)
theorem Ker.prs (ok : TabOk B wd n) (kr : Ker B.length g h) {i k : Nat} (hi : i < B.length) (hk : k < B.length) : (prs B g)[i]'(by rw [prs_len]; exact hi) = (prs B g)[k]'(by rw [prs_len]; exact hk) ↔ (prs B h)[i]'(by rw [prs_len]; exact hi) = (prs B h)[k]'(by rw [prs_len]; exact hk) := by
  have go : ∀ {g h : List Int}, Ker B.length g h → (RM.prs B g)[i]'(by rw [prs_len]; exact hi) = (RM.prs B g)[k]'(by rw [prs_len]; exact hk) → (RM.prs B h)[i]'(by rw [prs_len]; exact hi) = (RM.prs B h)[k]'(by rw [prs_len]; exact hk) := fun {g h} kr e => by
    rw [prs_at hi, prs_at hk] at e ⊢
    injection e with e1 e2
    have wi := ok.row _ (List.getElem_mem hi)
    have wk := ok.row _ (List.getElem_mem hk)
    have hl := ok.len
    rw [(kr i k hi hk).mp e1]
    congr 1
    refine map_row (by rw [wi.1, wk.1]) fun c hc => ?_
    have hc2 : c < B[k].length := by rw [wk.1, ← wi.1]; exact hc
    have z := row_get hc hc2 e2
    have b1 := wi.2 (B[i].getD c 0) (by rw [List.getD_eq_getElem?_getD, List.getElem?_eq_getElem hc]; exact List.getElem_mem hc)
    have b2 := wk.2 (B[k].getD c 0) (by rw [List.getD_eq_getElem?_getD, List.getElem?_eq_getElem hc2]; exact List.getElem_mem hc2)
    rw [show B[i].getD c 0 = (((B[i].getD c 0).toNat : Nat) : Int) by omega, show B[k].getD c 0 = (((B[k].getD c 0).toNat : Nat) : Int) by omega] at z ⊢
    exact (kr _ _ (by omega) (by omega)).mp z
  exact ⟨go kr, go fun i k hi hk => (kr i k hi hk).symm⟩
theorem Ker.next (ok : TabOk B wd n) (kr : Ker B.length g h) (ht : ∀ (i k : Nat) (hi : i < B.length) (hk : k < B.length), gi t i = gi t k ↔ (RM.prs B g)[i]'(by rw [prs_len]; exact hi) = (RM.prs B g)[k]'(by rw [prs_len]; exact hk)) : Ker B.length t (stG B h) := fun i k hi hk =>
  (ht i k hi hk).trans ((kr.prs ok hi hk).trans (num_eq (l := RM.prs B h) (by rw [prs_len]; exact hi) (by rw [prs_len]; exact hk)).symm)
/-- no word tells s from t -/
def Alk (L : W) (B : List (List Int)) (M : Int → Prop) (s t : Int) : Prop := ∀ u : W, (∀ c ∈ u, c ∈ L) → (M (ledL L B u s) ↔ M (ledL L B u t))
theorem Alk.refl {L : W} {M : Int → Prop} (s : Int) : Alk L B M s s := fun _ _ => Iff.rfl
theorem Alk.symm {L : W} {M : Int → Prop} {s t : Int} (h : Alk L B M s t) : Alk L B M t s := fun u hu => (h u hu).symm
theorem Alk.trans {L : W} {M : Int → Prop} {s t r : Int} (h : Alk L B M s t) (k : Alk L B M t r) : Alk L B M s r := fun u hu => (h u hu).trans (k u hu)
theorem Alk.same {L : W} {M : Int → Prop} {s t : Int} (h : Alk L B M s t) : Alk L B M s = Alk L B M t := funext fun _ => propext ⟨fun k => h.symm.trans k, fun k => h.trans k⟩
theorem ledL_app (L : W) (u v : W) (s : Int) : ledL L B (u ++ v) s = ledL L B v (ledL L B u s) := by
  unfold ledL
  rw [List.foldl_append]
theorem Alk.led {L : W} {M : Int → Prop} {s t : Int} (h : Alk L B M s t) {w : W} (hw : ∀ c ∈ w, c ∈ L) : Alk L B M (ledL L B w s) (ledL L B w t) := fun u hu => by
  rw [← ledL_app, ← ledL_app]
  exact h (w ++ u) fun c hc => (List.mem_append.mp hc).elim (hw c) (hu c)
theorem col_led {L : W} (nd : L.Nodup) {s : Int} {c : Nat} (hc : c < L.length) : ledL L B [L[c]] s = rowF B s c := by
  show rowF B s (L.idxOf L[c]) = _
  rw [List.Nodup.idxOf_getElem nd c hc]
theorem Ref.alk {L : W} {M : Int → Prop} (r : Ref B L.length ms g) (ok : TabOk B L.length n) (nd : L.Nodup) (hm : ms.length = B.length) (mk : ∀ (i : Nat) (hi : i < ms.length), ms[i] = true ↔ M ((i : Nat) : Int)) {i k : Nat} (hi : i < B.length) (hk : k < B.length) : gi g i = gi g k ↔ Alk L B M i k := by
  have hl := ok.len
  constructor
  · intro e u
    induction u generalizing i k with
    | nil =>
      intro _
      have := r.mark hm hi hk e
      exact (mk i (by rw [hm]; exact hi)).symm.trans ((by rw [this] : ms[i] = true ↔ ms[k] = true).trans (mk k (by rw [hm]; exact hk)))
    | cons c u ih =>
      intro hu
      have hc := List.idxOf_lt_length_of_mem (hu c (.head _))
      have b1 := rowF_in ok (k := (i : Int)) ⟨by omega, by omega⟩ hc
      have b2 := rowF_in ok (k := (k : Int)) ⟨by omega, by omega⟩ hc
      have z := r.congF ok hi hk e hc
      show M (ledL L B u (rowF B i (L.idxOf c))) ↔ M (ledL L B u (rowF B k (L.idxOf c)))
      rw [show rowF B i (L.idxOf c) = (((rowF B i (L.idxOf c)).toNat : Nat) : Int) by omega, show rowF B k (L.idxOf c) = (((rowF B k (L.idxOf c)).toNat : Nat) : Int) by omega] at z ⊢
      exact ih (by omega) (by omega) z fun d hd => hu d (.tail _ hd)
  · intro a
    have spec : ∀ s : Int, Alk L B M s (Classical.epsilon (Alk L B M s)) := fun s => Classical.epsilon_spec (p := Alk L B M s) ⟨s, Alk.refl s⟩
    have back : ∀ {s t : Int}, Classical.epsilon (Alk L B M s) = Classical.epsilon (Alk L B M t) → Alk L B M s t := fun {s t} e => (spec s).trans (e ▸ (spec t).symm)
    refine r.least ok hm (q := fun s => Classical.epsilon (Alk L B M s)) (fun i k hi hk e => ?_) (fun i k c hi hk hc e => ?_) hi hk (by rw [a.same])
    · have e2 := back e [] fun _ z => absurd z List.not_mem_nil
      rw [Bool.eq_iff_iff]
      exact (mk i (by rw [hm]; exact hi)).trans (Iff.trans e2 (mk k (by rw [hm]; exact hk)).symm)
    · have e2 := (back e).led (w := [L[c]]) fun d hd => by rw [List.mem_singleton.mp hd]; exact List.getElem_mem hc
      rw [col_led nd hc, col_led nd hc] at e2
      show Classical.epsilon (Alk L B M _) = Classical.epsilon (Alk L B M _)
      rw [e2.same]
end
/-- any two letters lead each state that words lead to on alike in both orders -/
def Free (L : W) (T : List (List Int)) (es : List Int) : Prop := ∀ s ∈ wyA T 0 T.length, ∀ i j : Nat, i < L.length → j < L.length → Alk L T (· ∈ es) (rowF T (rowF T s i) j) (rowF T (rowF T s j) i)
section
variable {L : W} {T : List (List Int)} {n : Int} {es kp : List (List Int)} {ends en : List Int}
theorem order_iff {kp : List (List Int)} {ends en : List Int} (hL : Let L) (l : Least T L.length ends kp en) (ok : TabOk T L.length n) (h1 : 1 ≤ n) : orderB kp L.length = true ↔ Free L T ends := by
  obtain ⟨g, r, rfl, rfl⟩ := l
  obtain ⟨tk, t1, t2⟩ := lean_tab ok h1
  have nd := nodup_of hL
  have o := ord_of ok h1
  have mk : ∀ (i : Nat) (hi : i < ((wyA T 0 T.length).map fun a => decide (a ∈ ends)).length), ((wyA T 0 T.length).map fun a => decide (a ∈ ends))[i] = true ↔ gi (wyA T 0 T.length) i ∈ ends := fun i hi => by
    rw [List.length_map] at hi
    obtain ⟨_, e⟩ := gi_at (g := wyA T 0 T.length) (a := (i : Int)) ⟨by omega, by omega⟩
    rw [List.getElem_map, decide_eq_true_iff, e]
    rfl
  have alk := fun {i k : Nat} (hi : i < (leanT T L.length).length) (hk : k < (leanT T L.length).length) => r.alk (M := fun x => gi (wyA T 0 T.length) x ∈ ends) tk nd (by rw [List.length_map, t2]) mk hi hk
  have up : ∀ {y z : Int}, (0 ≤ y ∧ y < ((leanT T L.length).length : Nat)) → (0 ≤ z ∧ z < ((leanT T L.length).length : Nat)) → (Alk L (leanT T L.length) (fun x => gi (wyA T 0 T.length) x ∈ ends) y z ↔ Alk L T (· ∈ ends) (gi (wyA T 0 T.length) y) (gi (wyA T 0 T.length) z)) := fun {y z} hy hz => by
    have mv := fun {u : W} (hu : ∀ c ∈ u, c ∈ L) {k : Int} (hk : 0 ≤ k ∧ k < ((leanT T L.length).length : Nat)) => led_move (U := leanT T L.length) (Z := T) tk (gi (wyA T 0 T.length)) (fun i c hi hc => lean_step ok h1 hi hc) hu hk
    unfold Alk
    refine forall_congr' fun u => forall_congr' fun hu => ?_
    rw [mv hu hy, mv hu hz]
  have two : ∀ {x : Nat} {i j : Nat}, x < (leanT T L.length).length → i < L.length → j < L.length → (rowF (kept (leanT T L.length) g) (rowF (kept (leanT T L.length) g) (gi g x) i) j = gi g (rowF (leanT T L.length) (rowF (leanT T L.length) x i) j)) := fun {x i j} hx hi hj => by
    have b := rowF_in tk (k := (x : Int)) ⟨by omega, by omega⟩ hi
    rw [kept_step r tk hx hi]
    have e := kept_step r tk (i := (rowF (leanT T L.length) x i).toNat) (by omega) hj
    rwa [show (((rowF (leanT T L.length) x i).toNat : Nat) : Int) = rowF (leanT T L.length) x i by omega] at e
  have key : ∀ {x : Nat} {i j : Nat}, x < (leanT T L.length).length → i < L.length → j < L.length → (rowF (kept (leanT T L.length) g) (rowF (kept (leanT T L.length) g) (gi g x) i) j = rowF (kept (leanT T L.length) g) (rowF (kept (leanT T L.length) g) (gi g x) j) i ↔
      Alk L T (· ∈ ends) (rowF T (rowF T (gi (wyA T 0 T.length) x) i) j) (rowF T (rowF T (gi (wyA T 0 T.length) x) j) i)) := fun {x i j} hx hi hj => by
    have hx' : (0 : Int) ≤ (x : Int) ∧ (x : Int) < ((leanT T L.length).length : Nat) := ⟨by omega, by omega⟩
    have b1 := rowF_in tk hx' hi
    have b2 := rowF_in tk hx' hj
    have c1 := rowF_in tk b1 hj
    have c2 := rowF_in tk b2 hi
    rw [two hx hi hj, two hx hj hi]
    have e := alk (i := (rowF (leanT T L.length) (rowF (leanT T L.length) x i) j).toNat) (k := (rowF (leanT T L.length) (rowF (leanT T L.length) x j) i).toNat) (by omega) (by omega)
    rw [show (((rowF (leanT T L.length) (rowF (leanT T L.length) x i) j).toNat : Nat) : Int) = rowF (leanT T L.length) (rowF (leanT T L.length) x i) j by omega, show (((rowF (leanT T L.length) (rowF (leanT T L.length) x j) i).toNat : Nat) : Int) = rowF (leanT T L.length) (rowF (leanT T L.length) x j) i by omega] at e
    rw [e, up c1 c2, ← lean_step ok h1 b1 hj, ← lean_step ok h1 hx' hi, ← lean_step ok h1 b2 hi, ← lean_step ok h1 hx' hj]
  have twoOn_eq : ∀ {row : List Int} {a : Int} {i j : Nat}, (kept (leanT T L.length) g).getD a.toNat [] = row → twoOn (kept (leanT T L.length) g) row i j = rowF (kept (leanT T L.length) g) (rowF (kept (leanT T L.length) g) a i) j := fun {row a i j} e => by
    subst e
    rfl
  have all : orderB (kept (leanT T L.length) g) L.length = true ↔ ∀ row ∈ kept (leanT T L.length) g, ∀ i j : Nat, i < L.length → j < L.length → twoOn (kept (leanT T L.length) g) row i j = twoOn (kept (leanT T L.length) g) row j i := by
    unfold orderB
    simp only [List.all_eq_true, List.mem_range, decide_eq_true_iff]
    exact ⟨fun h row hr i j hi hj => h row hr i hi j hj, fun h row hr i hi j hj => h row hr i j hi hj⟩
  rw [all]
  constructor
  · intro h s hs i j hi hj
    obtain ⟨x, hx, rfl⟩ := List.getElem_of_mem hs
    have hx2 : x < (leanT T L.length).length := by rw [t2]; exact hx
    obtain ⟨_, e⟩ := gi_at (g := wyA T 0 T.length) (a := (x : Int)) ⟨by omega, by omega⟩
    have e : gi (wyA T 0 T.length) x = (wyA T 0 T.length)[x] := e
    have b := gi_in r.fo (i := x) (by rw [r.len]; exact hx2)
    rw [← e]
    refine (key hx2 hi hj).mp ?_
    have hlt : (gi g x).toNat < (kept (leanT T L.length) g).length := by rw [kept_len]; omega
    have er : (kept (leanT T L.length) g).getD (gi g x).toNat [] = (kept (leanT T L.length) g)[(gi g x).toNat] := by rw [List.getD_eq_getElem?_getD, List.getElem?_eq_getElem hlt] <;> rfl
    have := h _ (List.getElem_mem hlt) i j hi hj
    rwa [twoOn_eq er, twoOn_eq er] at this
  · intro h row hr i j hi hj
    obtain ⟨a, ha, rfl⟩ := List.getElem_of_mem hr
    have ha2 := ha
    rw [kept_len] at ha2
    obtain ⟨i1, i2⟩ := idx_in r.fo (a := (a : Int)) ⟨by omega, by omega⟩
    have hx : g.idxOf (a : Int) < (leanT T L.length).length := by rw [← r.len]; exact i1
    have er : (kept (leanT T L.length) g).getD ((a : Int)).toNat [] = (kept (leanT T L.length) g)[a] := by rw [List.getD_eq_getElem?_getD, Int.toNat_natCast, List.getElem?_eq_getElem ha] <;> rfl
    rw [twoOn_eq er, twoOn_eq er, ← i2]
    refine (key hx hi hj).mpr (h _ ?_ i j hi hj)
    obtain ⟨lt, e⟩ := gi_at (g := wyA T 0 T.length) (a := (g.idxOf (a : Int) : Nat)) ⟨by omega, by omega⟩
    rw [e]
    exact List.getElem_mem lt
theorem way_in (ok : TabOk T L.length n) (h1 : 1 ≤ n) : ∀ s ∈ wyA T 0 T.length, 0 ≤ s ∧ s < n := fun s hs => by
  have hl := ok.len
  obtain ⟨x, hx, rfl⟩ := List.getElem_of_mem hs
  obtain ⟨rr, hr, _, e, _⟩ := (ord_of ok h1).row x hx
  rw [e]
  omega
theorem way_next (ok : TabOk T L.length n) (h1 : 1 ≤ n) {s : Int} {c : Nat} (hs : s ∈ wyA T 0 T.length) (hc : c < L.length) : rowF T s c ∈ wyA T 0 T.length := by
  have hl := ok.len
  obtain ⟨x, hx, e⟩ := List.getElem_of_mem hs
  have b := way_in ok h1 s hs
  have le := (ord_of ok h1).le
  have hr : s.toNat < T.length := by omega
  have at_ : (wyA T 0 T.length)[x]? = some ((s.toNat : Nat) : Int) := by
    rw [List.getElem?_eq_getElem hx, e]
    exact congrArg some (by omega)
  refine way_done T.length x s.toNat (by omega) at_ _ ?_
  have rl : (T.getD s.toNat []).length = L.length := by
    rw [List.getD_eq_getElem?_getD, List.getElem?_eq_getElem hr]
    exact (ok.row _ (List.getElem_mem hr)).1
  unfold rowF
  rw [List.getD_eq_getElem?_getD (l := T.getD s.toNat []), List.getElem?_eq_getElem (by omega)]
  exact List.getElem_mem _
theorem other_mem {s : Int} (hs : 0 ≤ s ∧ s < (T.length : Nat)) : s ∈ otherE T.length ends ↔ s ∉ ends := by
  unfold otherE
  rw [List.mem_filter, rng_mem, decide_eq_true_iff]
  exact ⟨fun h => h.2, fun h => ⟨hs, h⟩⟩
/-- the other words are order-free just then -/
theorem free_other (ok : TabOk T L.length n) (h1 : 1 ≤ n) : Free L T (otherE T.length ends) ↔ Free L T ends := by
  have hl := ok.len
  unfold Free Alk
  refine forall_congr' fun s => forall_congr' fun hs => forall_congr' fun i => forall_congr' fun j => forall_congr' fun hi => forall_congr' fun hj => forall_congr' fun u => forall_congr' fun hu => ?_
  have b := way_in ok h1 s hs
  have b1 := led_in (u := u) ok hu (rowF_in ok (rowF_in ok b hi) hj)
  have b2 := led_in (u := u) ok hu (rowF_in ok (rowF_in ok b hj) hi)
  show (_ ∈ otherE T.length ends ↔ _ ∈ otherE T.length ends) ↔ _
  rw [other_mem ⟨b1.1, by omega⟩, other_mem ⟨b2.1, by omega⟩]
  exact Decidable.not_iff_not
/-- words with the same letters lead to states that no word tells apart -/
theorem free_perm (ok : TabOk T L.length n) (h1 : 1 ≤ n) (fr : Free L T ends) {u v : W} (p : u.Perm v) : (∀ c ∈ u, c ∈ L) → ∀ s ∈ wyA T 0 T.length, Alk L T (· ∈ ends) (ledL L T u s) (ledL L T v s) := by
  induction p with
  | nil => exact fun _ s _ => Alk.refl _
  | cons c _ ih => exact fun hu s hs => ih (fun d hd => hu d (.tail _ hd)) _ (way_next ok h1 hs (List.idxOf_lt_length_of_mem (hu c (.head _))))
  | swap a b l =>
    intro hu s hs
    have e := fr s hs (L.idxOf b) (L.idxOf a) (List.idxOf_lt_length_of_mem (hu b (.head _))) (List.idxOf_lt_length_of_mem (hu a (.tail _ (.head _))))
    exact e.led fun d hd => hu d (.tail _ (.tail _ hd))
  | trans p _ ih1 ih2 => exact fun hu s hs => (ih1 hu s hs).trans (ih2 (fun d hd => hu d (p.mem_iff.mpr hd)) s hs)
theorem way_start : (0 : Int) ∈ wyA T 0 T.length := by
  have z := way_zero (T := T) T.length
  have pre : ∀ j, (0 : Int) ∈ wyA T 0 j := by
    intro j
    induction j with
    | zero => exact .head _
    | succ j ih =>
      show _ ∈ (match (wyA T 0 j)[j]? with | some r => _ | none => _)
      split
      · exact (addF_grows _ _).subset ih
      · exact ih
  exact pre _
end
/-- the marks of the ends -/
def marks (N : Nat) (es : List Int) : List Bool := (List.range N).map fun i => decide (((i : Nat) : Int) ∈ es)
theorem marks_len {N : Nat} {es : List Int} : (marks N es).length = N := by
  unfold marks
  rw [List.length_map, List.length_range]
theorem marks_at {N : Nat} {es : List Int} {i : Nat} (hi : i < (marks N es).length) : (marks N es)[i] = decide (((i : Nat) : Int) ∈ es) := by simp [marks]
/-- told parts the states as all words do -/
def Parts (L : W) (T : List (List Int)) (es t : List Int) : Prop := t.length = T.length ∧ ∀ i k : Nat, i < T.length → k < T.length → (gi t i = gi t k ↔ Alk L T (· ∈ es) i k)
theorem parts_of {L : W} {T : List (List Int)} {n : Int} {es t : List Int} (hL : Let L) (ok : TabOk T L.length n) (h1 : 1 ≤ n) (len : t.length = T.length) (kr : Ker T.length t (itG T (num (marks T.length es)) T.length)) : Parts L T es t := by
  have hl := ok.len
  refine ⟨len, fun i k hi hk => (kr i k hi hk).trans ((ref_whole (wd := L.length) marks_len (by omega)).alk (M := (· ∈ es)) ok (nodup_of hL) marks_len (fun i hi => ?_) hi hk)⟩
  rw [marks_at, decide_eq_true_iff]
end RM
set_option Elab.async false
set_option linter.all false
set_option maxRecDepth 100000
set_option maxHeartbeats 4000000
namespace NS
open PySem PySem.Spec PyProof.Rows L2 ND
/-- numbers, and tuples of such, so many deep -/
def Deep (h : Heap) : Nat → Value → Prop
  | 0, v => ∃ i t, v = .int i t
  | n + 1, v => (∃ i t, v = .int i t) ∨ ∃ a o vs m, v = .ref a ∧ h.get? a = some o ∧ o.cls = .type "tuple" ∧ o.data = .seq vs m ∧ ∀ u ∈ vs.toList, Deep h n u
theorem Deep.num {h : Heap} : ∀ (n : Nat) (i : Int) (t : Tok), Deep h n (.int i t)
  | 0, i, t => ⟨i, t, rfl⟩
  | _ + 1, i, t => .inl ⟨i, t, rfl⟩
section
variable {P : Program} {w : World} {A : Around} {E : Value → Shared → Prop} {s : Shared}
theorem by_value : ∀ (n : Nat) (v : Value) {Q : Bool → Shared → Prop}, Deep s.heap n v → Q true s → wpAny (model P w) A (hashByValue n v) Q E s
  | 0, _, _, ⟨i, t, rfl⟩, q => by
    rw [hashBy_int]
    exact wpAny_pure q
  | n + 1, _, _, .inl ⟨i, t, rfl⟩, q => by
    rw [hashBy_int]
    exact wpAny_pure q
  | n + 1, _, Q, .inr ⟨a, o, vs, m, rfl, at_a, isT, dat, all⟩, q => by
    unfold hashByValue
    refine wpAny_bind (wpAny_specialOf (T := "tuple") ⟨o, at_a, isT⟩ F.slot_tuple_hash.lookup ?_)
    show wpAny _ _ (seqItems? (.ref a) >>= _) _ _ s
    refine wpAny_bind (wpAny_seqItems at_a dat (wpAny_bind ?_))
    show wpAny _ _ (forIn vs _ _) _ _ s
    rw [← Array.forIn_toList]
    refine wpAny_forIn_list _ (fun left acc r => (∀ u ∈ left, Deep s.heap n u) ∧ acc.1 = none ∧ s = r) _ ?_ ?_ _ _ ⟨all, rfl, rfl⟩
    · rintro u left acc _ ⟨here, e, rfl⟩
      refine wpAny_bind (by_value n u (here u (.head _)) ?_)
      simp only [Bool.not_true, Bool.false_eq_true, if_false]
      exact wpAny_pure ⟨fun y hy => here y (.tail _ hy), rfl, rfl⟩
    · rintro ⟨e, _⟩ _ ⟨_, e1, rfl⟩
      have e1 : e = none := e1
      subst e1
      exact wpAny_pure q
theorem no_class : ∀ (n : Nat) (v : Value) {Q : Bool → Shared → Prop}, Deep s.heap n v → Q false s → wpAny (model P w) A (ofAClassStatement n v) Q E s
  | 0, _, _, ⟨i, t, rfl⟩, q => by
    rw [ofAClass_int]
    exact wpAny_pure q
  | n + 1, _, _, .inl ⟨i, t, rfl⟩, q => by
    rw [ofAClass_int]
    exact wpAny_pure q
  | n + 1, _, Q, .inr ⟨a, o, vs, m, rfl, at_a, isT, dat, all⟩, q => by
    unfold ofAClassStatement
    refine wpAny_bind (wpAny_typeOf (T := "tuple") ⟨o, at_a, isT⟩ ?_)
    have e0 : (("tuple" : String) == "tuple") = true := by decide
    dsimp only
    simp only [e0, if_true]
    refine wpAny_bind (wpAny_pure ?_)
    simp only [Bool.not_true, Bool.false_eq_true, if_false]
    show wpAny _ _ (seqItems? (.ref a) >>= _) _ _ s
    refine wpAny_bind (wpAny_seqItems at_a dat (wpAny_bind ?_))
    show wpAny _ _ (forIn vs _ _) _ _ s
    rw [← Array.forIn_toList]
    refine wpAny_forIn_list _ (fun left acc r => (∀ u ∈ left, Deep s.heap n u) ∧ acc.1 = none ∧ s = r) _ ?_ ?_ _ _ ⟨all, rfl, rfl⟩
    · rintro u left acc _ ⟨here, e, rfl⟩
      refine wpAny_bind (no_class n u (here u (.head _)) ?_)
      simp only [Bool.false_eq_true, if_false]
      exact wpAny_pure ⟨fun y hy => here y (.tail _ hy), rfl, rfl⟩
    · rintro ⟨e, _⟩ _ ⟨_, e1, rfl⟩
      have e1 : e = none := e1
      subst e1
      exact wpAny_pure q
end
theorem Deep.keeps {h h' : Heap} (k : ∀ a o vs m, h.get? a = some o → o.data = .seq vs m → h'.get? a = some o) : ∀ (n : Nat) (v : Value), Deep h n v → Deep h' n v
  | 0, _, x => x
  | _ + 1, _, .inl x => .inl x
  | n + 1, _, .inr ⟨a, o, vs, m, e, at_a, isT, dat, all⟩ => .inr ⟨a, o, vs, m, e, k _ _ _ _ at_a dat, isT, dat, fun u hu => Deep.keeps k n u (all u hu)⟩
section
variable {P : Program} {w : World} {A : Around} {E : Value → Shared → Prop} {s : Shared}
/-- the pair at b, as it is stored -/
def IsP (P : Program) (w : World) (h : Heap) (k : Pr) (b : Addr) : Prop := (nestedKind P w).is h (encN k) b ∧ Deep h 8 (.ref b)
theorem IsP.keeps {h h' : Heap} {k : Pr} {b : Addr} (x : IsP P w h k b) (kp : ∀ a o vs m, h.get? a = some o → o.data = .seq vs m → h'.get? a = some o) : IsP P w h' k b := ⟨⟨x.1.1.at kp, x.1.2⟩, Deep.keeps kp 8 _ x.2⟩
theorem IsP.other {h h' : Heap} {k : Pr} {a b : Addr} {o : Obj} {es : Array (Int × Value)} {ep : Nat} {t : SetTable} (x : IsP P w h k b) (at_a : h.get? a = some o) (dat : o.data = .set es ep t) (same : Heap.SameBut a h h') : IsP P w h' k b :=
  x.keeps fun c q vs m at_c seq => (same.2 c fun e => by
    subst e
    rw [← Option.some.inj (at_a.symm.trans at_c), dat] at seq
    cases seq).trans at_c
theorem unseen {k : Pr} {b : Addr} {Q : Bool → Shared → Prop} (hk : IsP P w s.heap k b) (q : Q false s) : ∀ {ys : List Value}, (∀ y ∈ ys, ∃ k' c, y = Value.ref c ∧ IsP P w s.heap k' c) → wpAny (model P w) A (searchCouldBeSeen (.ref b) ys) Q E s := fun {ys} hy => by
  unfold searchCouldBeSeen
  refine wpAny_bind (wpAny_forIn_list _ (fun left acc r => (∀ y ∈ left, ∃ k' c, y = Value.ref c ∧ IsP P w s.heap k' c) ∧ acc.1 = none ∧ s = r) _ ?_ ?_ _ _ ⟨hy, rfl, rfl⟩)
  · rintro y left acc _ ⟨here, e, rfl⟩
    obtain ⟨k', c, rfl, hc⟩ := here y (.head _)
    have later := fun y hy => here y (List.Mem.tail _ hy)
    dsimp only
    by_cases near : (b == c || (carriedByValue (.ref b) && carriedByValue (.ref c))) = true
    · exact wp_if_pos near (wpAny_pure ⟨later, rfl, rfl⟩)
    · refine wp_if_neg near (wpAny_bind ((nestedKind P w).quiet hk.1 ?_))
      simp only [Bool.not_true, Bool.false_eq_true, if_false]
      refine wpAny_bind ((nestedKind P w).quiet hc.1 ?_)
      simp only [Bool.not_true, Bool.false_eq_true, if_false]
      refine wpAny_bind (no_class 8 _ hk.2 ?_)
      simp only [Bool.false_eq_true, if_false]
      refine wpAny_bind (no_class 8 _ hc.2 ?_)
      simp only [Bool.false_eq_true, if_false]
      exact wpAny_pure ⟨later, rfl, rfl⟩
  · rintro ⟨e, _⟩ _ ⟨_, e1, rfl⟩
    have e1 : e = none := e1
    subst e1
    exact wpAny_pure q
abbrev hsh (w : World) (k : Pr) : Int := (encN k).hash w
def lines (w : World) (L : List (Addr × Pr)) : List (Int × Value) := L.map fun p => (hsh w p.2, Value.ref p.1)
/-- a small set of pairs -/
structure Small (P : Program) (w : World) (h : Heap) (a : Addr) (L : List (Addr × Pr)) (es : Array (Int × Value)) (ep : Nat) (t : SetTable) : Prop where
  own : ∃ o, h.get? a = some o ∧ o.ExactSet ∧ o.data = .set es ep t
  ln : es.toList = lines w L
  tab : TabOk t (L.map fun p => hsh w p.2)
  nd : (L.map (·.2)).Nodup
  key : ∀ p ∈ L, IsP P w h p.2 p.1
  plain : t.plain = true
  shown : w.params.followText "set-order" = true ∨ t.led = true
  mask : t.mask = 7
  few : L.length ≤ 4
variable {a : Addr} {L : List (Addr × Pr)} {es : Array (Int × Value)} {ep : Nat} {t : SetTable}
theorem Small.size (R : Small P w s.heap a L es ep t) : es.size = L.length := by
  have e := congrArg List.length R.ln
  unfold lines at e
  rwa [Array.length_toList, List.length_map] at e
theorem Small.place (R : Small P w s.heap a L es ep t) : t.place.size = L.length := by
  have e := R.tab.sz
  rwa [List.length_map] at e
theorem Small.fits (R : Small P w s.heap a L es ep t) : t.fits es.size = true := by
  have four := R.few
  show ((t.place.size == es.size) && decide (t.place.size + t.dummies.size ≤ t.mask)) = true
  rw [R.tab.dm, R.place, R.size, beq_self_eq_true, R.mask]
  exact decide_eq_true (show L.length + 0 ≤ 7 by omega)
theorem Small.row (R : Small P w s.heap a L es ep t) {i : Nat} {p : Addr × Pr} (h : L[i]? = some p) : es[i]? = some (hsh w p.2, Value.ref p.1) := by
  rw [← Array.getElem?_toList, R.ln]
  unfold lines
  exact (List.getElem?_map ..).trans (congrArg _ h)
theorem nth_clean {m : Nat} : ∀ (n : Nat) (p : SetTable.Probe), p.dummy = none → (nth m p n).dummy = none
  | 0, _, h => h
  | n + 1, p, h => nth_clean n (adv m p) (by unfold adv; split <;> exact h)
/-- the way of a hash -/
abbrev step (t : SetTable) (h : Int) (c : Nat) : SetTable.Probe := nth t.mask (runAt t.mask (SetTable.bits h % (t.mask + 1)) (SetTable.bits h)) c
theorem seek (R : Small P w s.heap a L es ep t) {x : Addr} {k : Pr} (hx : IsP P w s.heap k x) (hu : A.units + 8 < cLine) {K : Nat} (hKf : K < 10 * SetTable.turns t.mask) (free : way t.mask (hsh w k) K ∉ t.place.toList) (full : ∀ c, c < K → way t.mask (hsh w k) c ∈ t.place.toList) {Q : SetFound → Shared → Prop}
    (qi : k ∈ L.map (·.2) → Q (.there none) s) (qo : k ∉ L.map (·.2) → Q (.free (way t.mask (hsh w k) K) false) s) :
    ∀ (f d c : Nat) (st : Option SetTable.Probe), c + d = K → d < f → st.getD (t.probeStart (hsh w k)) = step t (hsh w k) c →
      (∀ (i : Nat) p, L[i]? = some p → p.2 = k → ∃ c', c ≤ c' ∧ c' < K ∧ t.place.toList[i]? = some (way t.mask (hsh w k) c')) → wpAny (model P w) A (setSearchFrom a (.ref x) (hsh w k) true f st) Q E s := by
  intro f
  induction f with
  | zero => exact fun d c st _ h => absurd h (Nat.not_lt_zero _)
  | succ f ih =>
    intro d c st ed hf est ahead
    obtain ⟨o, at_a, _, dat⟩ := R.own
    have shift : ∀ q, nth t.mask (step t (hsh w k) c) q = step t (hsh w k) (c + q) := fun q => (nth_add t.mask c _ q).symm
    have spec := go_spec t R.tab.ris R.tab.dm (fun i => (es[i]?.map (·.1)).getD 0) (hsh w k) (10 * SetTable.turns t.mask) d (step t (hsh w k) c) (nth_clean c _ rfl) (by omega)
      (fun q hq => by rw [shift]; exact full (c + q) (by omega)) (by rw [shift, ed]; exact free)
    have its : ∀ (i : Nat) p, L[i]? = some p → ((es[i]?.map (·.1)).getD 0) = hsh w p.2 := fun i p hp => by rw [R.row hp, Option.map_some, Option.getD_some]
    have notGave : ¬ t.gaveWay = true := by
      unfold SetTable.gaveWay
      rw [R.mask]
      decide
    rw [setSearchFrom_succ]
    refine wpAny_bind (wpAny_setState_of at_a dat R.fits ?_)
    dsimp only
    refine wp_if_neg notGave ?_
    try refine wpAny_bind (wpAny_pure ?_)
    rw [est]
    rcases spec with ⟨q, i, hq, hi, _, before, met⟩ | ⟨none_, met⟩
    · rw [shift] at hi met
      rw [shift] at met
      rw [show t.probe (fun i => (es[i]?.map (·.1)).getD 0) (hsh w k) (step t (hsh w k) c) = _ from met]
      dsimp only
      have il : i < L.length := by
        have h1 := (List.getElem?_eq_some_iff.mp hi).1
        rwa [Array.length_toList, R.place] at h1
      obtain ⟨p, hp⟩ : ∃ p, L[i]? = some p := ⟨_, List.getElem?_eq_getElem il⟩
      have live := slot_live R.tab.ris hi
      have mem := List.mem_of_getElem? hp
      have hpk := R.key p mem
      have go : wpAny (model P w) A (searchRest a (.ref x) (hsh w k) true f es t (way t.mask (hsh w k) (c + q)) i (step t (hsh w k) (c + (q + 1)))) Q E s := by
        unfold searchRest
        rw [R.row hp]
        dsimp only
        refine wpAny_bind (wpAny_holding ((nestedKind P w).eqBool hu hpk.1 hx.1 (wpAny_bind (wpAny_setState_of at_a dat R.fits ?_))))
        dsimp only
        by_cases same : p.2 = k
        · exact wp_if_pos (by simp [same]) (wpAny_pure (qi (List.mem_map.mpr ⟨p, mem, same⟩)))
        · have ne : ¬ encN p.2 = encN k := fun e => same (encN_inj _ _ e)
          refine wp_if_neg (by simp [ne]) ?_
          try refine wpAny_bind (wpAny_pure ?_)
          rw [sameMem]
          dsimp only
          simp only [if_true, live, R.row hp]
          refine wpAny_bind (wpAny_isSame_ref_self (wpAny_bind (wpAny_pure (?_ : wpAny _ _ _ _ _ _))))
          simp only [if_true]
          refine wp_if_neg (by simp [ne]) (ih (d - (q + 1)) (c + (q + 1)) _ (by omega) (by omega) rfl fun j r hj hr => ?_)
          obtain ⟨c', a1, a2, a3⟩ := ahead j r hj hr
          refine ⟨c', ?_, a2, a3⟩
          have notBefore : ¬ c' < c + q := fun lt => before (c' - c) j (by omega) (by rw [shift, show c + (c' - c) = c' by omega]; exact a3) ((its j r hj).trans (congrArg (hsh w) hr))
          have notHere : c' ≠ c + q := fun e => by
            rw [e] at a3
            have e2 := (slot_live R.tab.ris a3).symm.trans live
            injection e2 with e2
            rw [e2, hp] at hj
            exact same ((congrArg Prod.snd (Option.some.inj hj)).trans hr)
          omega
      by_cases led : t.led = true
      · refine wp_if_neg (by simp [led]) ?_
        try refine wpAny_bind (wpAny_pure ?_)
        exact go
      · refine wp_if_pos (by simp [led]) (wpAny_bind (unseen hx ?_ fun y hy => ?_))
        · refine wp_if_neg Bool.false_ne_true ?_
          try refine wpAny_bind (wpAny_pure ?_)
          exact go
        · obtain ⟨e, he, rfl⟩ := List.mem_map.mp hy
          have he1 : e ∈ es ∧ e.1 = hsh w k := by simpa using he
          have he2 : e ∈ lines w L := R.ln ▸ (by simpa using he1.1)
          obtain ⟨r, hr, rfl⟩ := List.mem_map.mp he2
          exact ⟨r.2, r.1, rfl, R.key r hr⟩
    · rw [shift, ed] at met
      rw [show t.probe (fun i => (es[i]?.map (·.1)).getD 0) (hsh w k) (step t (hsh w k) c) = _ from met]
      dsimp only
      refine wpAny_pure (qo fun hm => ?_)
      obtain ⟨r, hr, er⟩ := List.mem_map.mp hm
      obtain ⟨j, hj⟩ := List.mem_iff_getElem?.mp hr
      obtain ⟨c', a1, a2, a3⟩ := ahead j r hj er
      exact none_ (c' - c) j (by omega) (by rw [shift, show c + (c' - c) = c' by omega]; exact a3) ((its j r hj).trans (congrArg (hsh w) er))
theorem seek_add (R : Small P w s.heap a L es ep t) {x : Addr} {k : Pr} (hx : IsP P w s.heap k x) (hu : A.units + 8 < cLine) {Q : SetFound → Shared → Prop} (qi : k ∈ L.map (·.2) → Q (.there none) s)
    (qo : ∀ K, k ∉ L.map (·.2) → way t.mask (hsh w k) K ∉ t.place.toList → (∀ c, c < K → way t.mask (hsh w k) c ∈ t.place.toList) → Q (.free (way t.mask (hsh w k) K) false) s) : wpAny (model P w) A (setSearch a (.ref x) (hsh w k) true) Q E s := by
  have few := R.few
  have mask := R.mask
  obtain ⟨K, hKf, free, full⟩ := R.tab.first (by rw [List.length_map]; omega) (hsh w k)
  have low : K < 100000 := by
    have e : SetTable.turns t.mask = SetTable.turns 7 := by rw [mask]
    have e2 : 10 * SetTable.turns 7 ≤ 1000 := by decide
    rw [e] at hKf
    omega
  unfold setSearch
  refine seek R hx hu hKf free full qi (fun out => qo K out free full) 100000 K 0 none (Nat.zero_add K) low rfl fun i p hp hk => ?_
  have hi : (L.map fun p => hsh w p.2)[i]? = some (hsh w k) := by rw [List.getElem?_map, hp, ← hk] <;> rfl
  have il : i < t.place.toList.length := by
    rw [Array.length_toList, R.place]
    exact (List.getElem?_eq_some_iff.mp hp).1
  obtain ⟨c, lt, e⟩ := R.tab.before free hi (List.getElem?_eq_getElem il)
  exact ⟨c, Nat.zero_le _, lt, by rw [List.getElem?_eq_getElem il, e]⟩
end
end NS
set_option Elab.async false
set_option linter.all false
set_option maxRecDepth 100000
set_option maxHeartbeats 4000000
namespace NS
open PySem PySem.Spec PyProof.Rows L2 ND
/-- what a set has of the first i items -/
def Has (ks : List (Addr × Pr)) (i : Nat) (L : List (Addr × Pr)) : Prop := L.length ≤ i ∧ ∀ p, (p ∈ L → p ∈ ks.take i) ∧ (p ∈ ks.take i → p.2 ∈ L.map (·.2))
theorem Has.next {ks L L' : List (Addr × Pr)} {i : Nat} {x : Addr × Pr} (h : Has ks i L) (hx : ks[i]? = some x) (old : x.2 ∈ L.map (·.2) → L' = L) (new : x.2 ∉ L.map (·.2) → L'.Perm (x :: L)) : Has ks (i + 1) L' := by
  have tk : ks.take (i + 1) = ks.take i ++ [x] := by rw [List.take_add_one, hx] <;> rfl
  obtain ⟨len, both⟩ := h
  by_cases m : x.2 ∈ L.map (·.2)
  · rw [old m]
    refine ⟨by omega, fun p => ⟨fun hp => ?_, fun hp => ?_⟩⟩
    · rw [tk]
      exact List.mem_append_left _ ((both p).1 hp)
    · rw [tk] at hp
      rcases List.mem_append.mp hp with z | z
      · exact (both p).2 z
      · rw [List.mem_singleton.mp z]
        exact m
  · have pm := new m
    refine ⟨by rw [pm.length_eq, List.length_cons]; omega, fun p => ⟨fun hp => ?_, fun hp => ?_⟩⟩
    · rw [tk]
      rcases List.mem_cons.mp (pm.mem_iff.mp hp) with z | z
      · rw [z]
        exact List.mem_append_right _ (.head _)
      · exact List.mem_append_left _ ((both p).1 z)
    · refine (pm.map (·.2)).mem_iff.mpr ?_
      rw [List.map_cons]
      rw [tk] at hp
      rcases List.mem_append.mp hp with z | z
      · exact .tail _ ((both p).2 z)
      · rw [List.mem_singleton.mp z]
        exact .head _
section
variable {P : Program} {w : World} {A : Around} {E : Value → Shared → Prop} {s : Shared} {a : Addr} {L : List (Addr × Pr)} {es : Array (Int × Value)} {ep : Nat} {t : SetTable}
theorem put_in (R : Small P w s.heap a L es ep t) {x : Addr} {k : Pr} (hx : IsP P w s.heap k x) (hu : A.units + 8 < cLine) (room : k ∉ L.map (·.2) → L.length < 4) {Q : Bool → Shared → Prop}
    (q : ∀ b g L' es' ep' t', Heap.SameBut a s.heap g → Small P w g a L' es' ep' t' → (k ∈ L.map (·.2) → L' = L) → (k ∉ L.map (·.2) → L'.Perm ((x, k) :: L)) → Q b { s with heap := g }) : wpAny (model P w) A (setAddHashed a (.ref x) (hsh w k)) Q E s := by
  obtain ⟨o, at_a, exact_, dat⟩ := R.own
  unfold setAddHashed
  refine wpAny_holding ?_
  show wpAny _ _ (setAddHashedIn a (.ref x) (hsh w k) (99999 + 1)) _ _ s
  rw [setAddHashedIn_succ]
  refine wpAny_bind (wpAny_setState_of at_a dat R.fits ?_)
  dsimp only
  refine wp_if_neg (fun z => absurd z (by simp [byScan, Value.scannable])) ?_
  try refine wpAny_bind (wpAny_pure ?_)
  refine wpAny_bind (seek_add R hx hu (fun m => ?_) fun K out free full => ?_)
  · dsimp only
    exact wpAny_pure (q false s.heap L es ep t (Heap.SameBut.refl a s.heap) R (fun _ => rfl) fun z => absurd m z)
  have few := room out
  dsimp only
  refine wpAny_bind (wpAny_setState_of at_a dat R.fits ?_)
  dsimp only
  obtain ⟨b1, b2, b3, b4, b5, b6, _, _, b9⟩ := R.tab.put free full
  have pl : (t.put (way t.mask (hsh w k) K)).1.plain = true := b6.trans R.plain
  generalize SetTable.below t.place (way t.mask (hsh w k) K) = j at b1 b2 b3
  generalize t.put (way t.mask (hsh w k) K) = pt at b1 b3 b4 b5 b6 b9 pl ⊢
  obtain ⟨t1, j1⟩ := pt
  dsimp only at b1 b3 b4 b5 b6 b9 pl ⊢
  subst b1
  first
    | refine wp_if_pos pl (wpAny_bind (by_value 8 _ hx.2 ?_))
    | refine wpAny_bind (wp_if_pos pl (by_value 8 _ hx.2 ?_))
  simp only [if_true]
  have ln1 : (SetTable.insertAt es j1 (hsh w k, Value.ref x)).toList = lines w (L.take j1 ++ (x, k) :: L.drop j1) := by
    rw [SetTable.toList_insertAt, R.ln]
    unfold lines
    simp only [List.map_append, List.map_cons, List.map_take, List.map_drop]
  have hs1 : (L.take j1 ++ (x, k) :: L.drop j1).map (fun p => hsh w p.2) = (L.map fun p => hsh w p.2).take j1 ++ hsh w k :: (L.map fun p => hsh w p.2).drop j1 := by rw [List.map_append, List.map_cons, List.map_take, List.map_drop]
  have pm : (L.take j1 ++ (x, k) :: L.drop j1).Perm ((x, k) :: L) := by
    have h : (L.take j1 ++ (x, k) :: L.drop j1).Perm ((x, k) :: (L.take j1 ++ L.drop j1)) := List.perm_middle
    rwa [List.take_append_drop] at h
  rw [← hs1] at b3
  generalize L.take j1 ++ (x, k) :: L.drop j1 = L1 at ln1 b3 pm
  have len1 : L1.length = L.length + 1 := pm.length_eq
  have size1 : (SetTable.insertAt es j1 (hsh w k, Value.ref x)).size = L.length + 1 := by
    have e := congrArg List.length ln1
    unfold lines at e
    rwa [Array.length_toList, List.length_map, len1] at e
  generalize SetTable.insertAt es j1 (hsh w k, Value.ref x) = es1 at ln1 size1 ⊢
  refine wpAny_bind (wpAny_storeSet_of at_a dat ?_ (by rw [size1, sizeLine_eq]; omega))
  have same : Heap.SameBut a s.heap (s.heap.update a (Obj.putSet es1 t1)) := Heap.SameBut.update ..
  have there := store_at (es' := es1) (t' := t1) at_a dat
  generalize s.heap.update a (Obj.putSet es1 t1) = g at same there ⊢
  have notFull : ¬ t1.tooFull = true := by
    unfold SetTable.tooFull
    rw [decide_eq_true_eq, b9, b4, List.length_map, R.mask]
    omega
  have R1 : Small P w g a L1 es1 (ep + 1) t1 := ⟨⟨_, there, ⟨exact_.1, exact_.2.1, exact_.2.2⟩, rfl⟩, ln1, b3, (pm.map (·.2)).nodup_iff.mpr (by
      rw [List.map_cons]
      exact List.nodup_cons.mpr ⟨out, R.nd⟩), fun p hp => (List.mem_cons.mp (pm.mem_iff.mp hp)).elim (fun e => e ▸ hx.other at_a dat same) fun hp => (R.key p hp).other at_a dat same, pl, by rw [b5]; exact R.shown, b4.trans R.mask, by omega⟩
  first
    | refine wp_if_neg (by simp [notFull]) ?_
    | refine wpAny_bind (wp_if_neg (by simp [notFull]) (wpAny_pure ?_))
  exact wpAny_pure (q true g L1 es1 (ep + 1) t1 same R1 (fun z => absurd z out) fun _ => pm)
theorem Small.keeps {g : Heap} (R : Small P w s.heap a L es ep t) (h1 : ∀ o, s.heap.get? a = some o → g.get? a = some o) (h2 : ∀ p ∈ L, IsP P w g p.2 p.1) : Small P w g a L es ep t :=
  let ⟨o, e, r⟩ := R.own
  ⟨⟨o, h1 o e, r⟩, R.ln, R.tab, R.nd, h2, R.plain, R.shown, R.mask, R.few⟩
theorem small_new {h : Heap} (e : h.get? a = some (TX.newSet w)) : Small P w h a [] #[] 0 (.fresh 0 0 (!w.params.followText "set-order")) where
  own := ⟨_, e, ⟨rfl, rfl, rfl⟩, rfl⟩
  ln := rfl
  tab := ⟨.nil, rfl, rfl, .inl rfl, fun x hx => absurd hx (by simp [SetTable.fresh]), fun i h j hi => by simp at hi⟩
  nd := .nil
  key := fun p hp => absurd hp List.not_mem_nil
  plain := rfl
  shown := (Bool.eq_false_or_eq_true (w.params.followText "set-order")).elim .inl fun z => .inr (congrArg (fun b => !b) z)
  mask := rfl
  few := Nat.zero_le _
/-- the walk that fills the set -/
theorem fill {I S : Addr} {fp wr : List Addr} {G : Array GenState → Array GenState → Prop} {n : Nat} {Pv : Nat → Value → Prop} {St : Nat → Shared → Prop} {R : Result → Shared → Prop} (W : WalksS P w A.in1 I fp wr G n Pv St) (apart : S ∉ fp) (ks : List (Addr × Pr)) (size : n = ks.length) (four : n ≤ 4)
    (item : ∀ i v, Pv i v → ∃ p, ks[i]? = some p ∧ v = .ref p.1) {h0 : Heap} (keys : ∀ p ∈ ks, IsP P w h0 p.2 p.1) (new : h0.get? S = none) (free : ∀ b ∈ wr, h0.get? b = none) (hu : A.in1.units + 8 < cLine) :
    ∀ (d i : Nat) (s : Shared), i + d = n → St i s → (∀ b o, h0.get? b = some o → s.heap.get? b = some o) → (∃ L es ep t, Small P w s.heap S L es ep t ∧ Has ks i L) →
      (∀ r L es ep t, Moved (S :: wr) G s r → Small P w r.heap S L es ep t → Has ks n L → (∀ b o, h0.get? b = some o → r.heap.get? b = some o) → R (.ok (.ret .none)) r) →
      codeAny (model P w) A (.builtin "set.update.loop" ⟨[.ref S, .ref I], []⟩) R s := by
  have noW : S ∉ wr := fun h => apart (W.sub _ h)
  have wider : ∀ b ∈ wr, b ∈ S :: wr := fun b hb => .tail _ hb
  have stays : ∀ {s r : Shared}, Moved wr G s r → (∀ b o, h0.get? b = some o → s.heap.get? b = some o) → ∀ b o, h0.get? b = some o → r.heap.get? b = some o := fun m k b o e => m.heap b o (fun hb => by rw [free b hb] at e; cases e) (k b o e)
  have kept : ∀ {s r : Shared} {L es ep t i}, Moved wr G s r → (∀ b o, h0.get? b = some o → r.heap.get? b = some o) → Small P w s.heap S L es ep t → Has ks i L → Small P w r.heap S L es ep t := fun m k R h =>
    R.keeps (fun o e => m.heap S o noW e) fun p hp => (keys p (List.mem_of_mem_take ((h.2 p).1 hp))).keeps fun b o vs c e _ => k b o e
  intro d
  induction d with
  | zero =>
    rintro i s rfl st k ⟨L, es, ep, t, sm, has⟩ fin
    refine codeAny_builtin F.entry_set_update_loop ?_
    rw [Around.under_plainId F.plain_set_update_loop _]
    show wpAny _ A.in1 (pyNext (.ref I) >>= _) _ _ s
    refine wpAny_bind (W.done s _ _ st fun r m => ?_)
    show wpAny _ A.in1 (ret Value.none) _ _ r
    exact wpAny_pure (fin r L es ep t (m.mono wider) (kept m (stays m k) sm has) has (stays m k))
  | succ d ih =>
    rintro i s e st k ⟨L, es, ep, t, sm, has⟩ fin
    refine codeAny_builtin F.entry_set_update_loop ?_
    rw [Around.under_plainId F.plain_set_update_loop _]
    show wpAny _ A.in1 (pyNext (.ref I) >>= _) _ _ s
    refine wpAny_bind (W.item i s _ _ (by omega) st fun v r pv st1 m => ?_)
    obtain ⟨p, hp, rfl⟩ := item i v pv
    have k1 := stays m k
    have sm1 := kept m k1 sm has
    have key1 : IsP P w r.heap p.2 p.1 := (keys p (List.mem_of_getElem? hp)).keeps fun b o vs c e _ => k1 b o e
    show wpAny _ A.in1 (holding [Value.ref p.1] (setAdd S (.ref p.1)) >>= _) _ _ r
    refine wpAny_bind (wpAny_holding ?_)
    unfold setAdd
    refine wpAny_holding (wpAny_bind ((nestedKind P w).pyHash hu key1.1 ?_))
    refine put_in (s := { r with toks := r.toks + (nestedKind P w).draws (encN p.2) }) sm1 key1 hu (fun _ => by have := has.1; omega) fun b g L1 es1 ep1 t1 same sm2 old add => ?_
    have k2 : ∀ b o, h0.get? b = some o → g.get? b = some o := fun b o e => (same.2 b fun z => by rw [z, new] at e; cases e).trans (k1 b o e)
    refine wpAny_pure ⟨plainId_quiet F.plain_set_update_loop _, ih (i + 1) _ (by omega) (W.frame _ r _ _ st1 (Nat.le_add_right _ _) fun b hb o e => ?_) k2 ⟨L1, es1, ep1, t1, sm2, has.next hp old add⟩ fun r2 L2 es2 ep2 t2 m2 sm3 has2 k3 => ?_⟩
    · exact (same.2 b fun z => apart (by rwa [z] at hb)).trans e
    · refine fin r2 L2 es2 ep2 t2 (Moved.trans W.gtrans ((m.mono wider).then_heap (Nat.le_add_right _ _) fun b o hb e => ?_) m2) sm3 has2 k3
      exact (same.2 b fun z => hb (by rw [z]; exact .head _)).trans e
end
end NS
set_option Elab.async false
set_option linter.all false
set_option maxRecDepth 100000
set_option maxHeartbeats 4000000
namespace NS
open PySem PySem.Spec PyProof.Rows L2 ND PySem.W
/-- the pair's tuples, as they lie -/
def RowAt (h : Heap) (b : Addr) (a : Pr) : Prop := ∃ (o o2 : Obj) (t : Addr) (tk : Tok) (us : List Value) (m m2 : Nat), h.get? b = some o ∧ o.cls = .type "tuple" ∧ o.data = .seq #[.int a.fst tk, .ref t] m ∧ h.get? t = some o2 ∧ o2.cls = .type "tuple" ∧ o2.data = .seq us.toArray m2 ∧ IntsAre us a.snd
theorem RowAt.keeps {h h' : Heap} {b : Addr} {a : Pr} (x : RowAt h b a) (k : ∀ c o, h.get? c = some o → o.cls = .type "tuple" → h'.get? c = some o) : RowAt h' b a :=
  let ⟨o, o2, t, tk, us, m, m2, h1, h2, h3, h4, h5, h6, h7⟩ := x
  ⟨o, o2, t, tk, us, m, m2, k _ _ h1 h2, h2, h3, k _ _ h4 h5, h5, h6, h7⟩
theorem nested_of {h : Heap} : ∀ {us : List Value} {r : List Int}, IntsAre us r → NestedAll h (nk r) us
  | _, _, .nil => .nil
  | _, _, .cons i t z => .cons (.int i t) (nested_of z)
theorem reads_of {h : Heap} : ∀ {us : List Value} {r : List Int}, IntsAre us r → ReadsAll h us (r.map PyData.int) []
  | _, _, .nil => .nil
  | _, _, .cons i t z => .cons (as := []) (.int i t) (reads_of z)
theorem deep_of {h : Heap} {n : Nat} {us : List Value} {r : List Int} (x : IntsAre us r) : ∀ u ∈ us, Deep h n u := fun u hu => by
  obtain ⟨i, t, rfl⟩ := x.all u hu
  exact .num n i t
theorem alike_ints : ∀ (r q : List Int), alikeAll (r.map PyData.int) (q.map PyData.int) = true
  | [], _ => by cases ‹List Int› <;> rfl
  | _ :: _, [] => rfl
  | _ :: r, _ :: q => by
    show (true && alikeAll (r.map PyData.int) (q.map PyData.int)) = true
    rw [alike_ints r q] <;> rfl
theorem depth_ints : ∀ r : List Int, PyData.depthAll (r.map PyData.int) = 0
  | [] => rfl
  | i :: r => by
    show max (PyData.depth (.int i)) (PyData.depthAll (r.map PyData.int)) = 0
    rw [depth_ints r]
    rfl
theorem RowAt.isP {P : Program} {w : World} {h : Heap} {b : Addr} {a : Pr} (x : RowAt h b a) : IsP P w h a b := by
  obtain ⟨o, o2, t, tk, us, m, m2, h1, h2, h3, h4, h5, h6, h7⟩ := x
  refine ⟨⟨.tup h1 h2 h3 (.cons (.int _ tk) (.cons (.tup h4 h5 h6 (nested_of h7)) .nil)), encN_depth a⟩, .inr ⟨b, o, _, m, rfl, h1, h2, h3, fun u hu => ?_⟩⟩
  rcases List.mem_cons.mp hu with rfl | hu
  · exact .num 7 _ tk
  · rw [List.mem_singleton.mp hu]
    exact .inr ⟨t, o2, _, m2, rfl, h4, h5, h6, deep_of h7⟩
section
variable {P : Program} {w : World} {A : Around} {E : Value → Shared → Prop} {s : Shared}
/-- any two rows compare -/
theorem rows_tot {vs : List Value} (room : A.units + 8 < cLine) (x : ∀ v ∈ vs, ∃ b a, v = .ref b ∧ RowAt s.heap b a) : Srt.Tot P w A s (tuples' true) (fun p => p.1 ∈ vs) := by
  intro p q hp hq
  obtain ⟨b, a, e, o, o2, t, tk, us, m, m2, h1, h2, h3, h4, h5, h6, h7⟩ := x _ hp
  obtain ⟨b', a', e', o', o2', t', tk', us', m', m2', k1, k2, k3, k4, k5, k6, k7⟩ := x _ hq
  rw [e, e']
  refine ⟨lexLt itemOrd (keyToksAll [.int a.fst, .tuple (a.snd.map PyData.int)]) (keyToksAll [.int a'.fst, .tuple (a'.snd.map PyData.int)]), PySem.W.kat_lt h1 h3 k1 k3 ?_⟩
  refine katLex_alike [.int a.fst, .tuple (a.snd.map PyData.int)] [.int a'.fst, .tuple (a'.snd.map PyData.int)] 0 _ _ [] [] (.cons (as := []) (.int _ tk) (.cons (as := []) (.tuple h4 h5 h6 (reads_of h7)) .nil)) (.cons (as := []) (.int _ tk') (.cons (as := []) (.tuple k4 k5 k6 (reads_of k7)) .nil)) ?_ ?_ ?_ rfl ⟨rfl, rfl⟩
  · show (true && (alikeAll (a.snd.map PyData.int) (a'.snd.map PyData.int) && true)) = true
    rw [alike_ints] <;> rfl
  · have d : ∀ r : List Int, PyData.depthAll [.int a.fst, .tuple (r.map PyData.int)] ≤ 1 := fun r => by
      show max 0 (max (PyData.depthAll (r.map PyData.int) + 1) 0) ≤ 1
      rw [depth_ints]
      decide
    have := d a.snd
    omega
  · rintro _ _ x r t z y
    injection z with z _
    rw [← z] at y
    cases y
theorem rows_firsts {h : Heap} : ∀ {vs : List Value}, (∀ v ∈ vs, ∃ b a, v = .ref b ∧ RowAt h b a) → ∃ fs : List Value, PySem.W.KatTups h vs fs ∧ fs.length = vs.length ∧ ∀ f ∈ fs, ∃ i t, f = Value.int i t
  | [], _ => ⟨[], .nil, rfl, fun _ hf => absurd hf List.not_mem_nil⟩
  | v :: vs, x => by
    obtain ⟨fs, k, len, are⟩ := rows_firsts (vs := vs) fun u hu => x u (.tail _ hu)
    obtain ⟨b, a, rfl, o, o2, t, tk, us, m, m2, h1, h2, h3, _⟩ := x v (.head _)
    refine ⟨.int a.fst tk :: fs, .cons h1 h2 h3 rfl k, congrArg Nat.succ len, fun f hf => ?_⟩
    rcases List.mem_cons.mp hf with rfl | hf
    · exact ⟨_, tk, rfl⟩
    · exact are f hf
theorem rows_sortable {a : Addr} {vs : List Value} (room : A.units + 8 < cLine) (h0 : 0 < vs.length) (x : ∀ v ∈ vs, ∃ b a, v = .ref b ∧ RowAt s.heap b a) (ha : ∀ o, s.heap.get? a = some o → o.cls ≠ .type "tuple") : Srt.Sortable P w A s a vs := by
  intro h' keep
  have y : ∀ v ∈ vs, ∃ b a, v = .ref b ∧ RowAt h' b a := fun v hv => by
    obtain ⟨b, k, e, r⟩ := x v hv
    exact ⟨b, k, e, r.keeps fun c o at_c isT => keep c o (fun z => by subst z; exact ha o at_c isT) at_c⟩
  obtain ⟨fs, k, len, are⟩ := rows_firsts y
  refine ⟨tuples' true, fun Q E hq => ?_, rows_tot (s := { s with heap := h' }) room y⟩
  refine PySem.W.kat_kind (T := .type "int") k (by omega) (fun f hf => ?_) (by rfl) ?_
  · obtain ⟨i, t, rfl⟩ := are f hf
    exact .now
  · rw [show (Value.type "int" != Value.type "tuple") = true by first | rfl | decide]
    exact hq
variable {a : Addr} {L : List (Addr × Pr)} {es : Array (Int × Value)} {ep : Nat} {t : SetTable}
theorem sorted_rows {Q : Value → Shared → Prop} (R : Small P w s.heap a L es ep t) (calm : A.handled = none) (room : A.units + 64 < cLine) (rows : ∀ p ∈ L, RowAt s.heap p.1 p.2)
    (h : ∀ s' p (out : List Value) (c : Nat) (L' : List (Addr × Pr)), (∀ b o, s.heap.get? b = some o → s'.heap.get? b = some o) → s'.gens = s.gens → s'.os = s.os → s.heap.objs.size ≤ p → s'.heap.get? p = some (seqObj "list" out.toArray c) → out = L'.map (fun q => Value.ref q.1) → L'.Perm L → Q (.ref p) s') :
    wpAny (model P w) A (call (.builtin "sorted") [.ref a]) Q E s := by
  obtain ⟨o, at_a, exact_, dat⟩ := R.own
  have few := R.few
  have fit : es.toList.map (·.2) = L.map fun q => Value.ref q.1 := by
    rw [R.ln, lines, List.map_map] <;> rfl
  refine Calls.call_function_entry kind_sorted plain_sorted entry_sorted (args_sorted1 _) ?_
  unfold Builtin.«sorted»
  refine wpAny_bind (m := checkCount "sorted" 1 1 _) (wpAny_pure (wpAny_bind (collect_set (A := A.in1) calm ⟨o, at_a, exact_.1, dat⟩ R.fits (by have := R.size; unfold scanBound; omega) R.tab.ris R.shown fun s1 vs keep grown gens os perm => ?_)))
  obtain ⟨L1, eL1, p1⟩ := WK.perm_lift (fun q : Addr × Pr => Value.ref q.1) (fit ▸ perm) L rfl
  subst eL1
  have len1 : (L1.map fun q => Value.ref q.1).length ≤ 4 := by
    rw [List.length_map, p1.length_eq]
    exact few
  refine wpAny_bind (wpAny_newList ?_ (Nat.le_trans len1 (by decide)))
  have atL : (s1.heap.push (seqObj "list" (L1.map fun q => Value.ref q.1).toArray 0)).get? s1.heap.objs.size = some (seqObj "list" (L1.map fun q => Value.ref q.1).toArray 0) := Heap.get?_push_size _ rfl
  refine wpAny_bind (wpAny_holding (wpAny_call_entry slot_list_sort ⟨_, atL, rfl⟩ entry_list_sort (Srt.list_sort_any (s := { s1 with heap := s1.heap.push (seqObj "list" (L1.map fun q => Value.ref q.1).toArray 0) }) atL (by rw [sizeLine_eq]; omega) (fun two => rows_sortable ?_ (by omega) (fun v hv => ?_) fun o e => ?_) fun out a1 => ?_) (args_list_sort _)))
  · show A.units + 1 + 1 + 8 < cLine
    omega
  · obtain ⟨q, hq, rfl⟩ := List.mem_map.mp hv
    exact ⟨q.1, q.2, rfl, (rows q (p1.mem_iff.mp hq)).keeps fun c o e _ => Heap.get?_push_of_some _ (keep c o e)⟩
  · rw [← Option.some.inj (atL.symm.trans e)]
    exact fun c => absurd (Value.type.inj c) (by decide)
  · obtain ⟨c, hc⟩ := sortedHeap_at (vs := L1.map fun q => Value.ref q.1) (out := out.toArray) atL
    obtain ⟨L2, e2, p2⟩ := WK.perm_lift (fun q : Addr × Pr => Value.ref q.1) a1 L1 rfl
    refine ⟨_, rfl, wpAny_pure ⟨_, rfl, h _ s1.heap.objs.size out c L2 (fun b u e => ?_) gens os grown hc e2.symm (p2.trans p1)⟩⟩
    have old := keep b u e
    have lt := Heap.lt_size old
    show (sortedHeap (s1.heap.push (seqObj "list" (L1.map fun q => Value.ref q.1).toArray 0)) s1.heap.objs.size (L1.map fun q => Value.ref q.1) out.toArray).get? b = some u
    rw [sortedHeap_old (Nat.ne_of_lt lt) (by rw [size_push']; exact Nat.lt_succ_of_lt lt)]
    exact Heap.get?_push_of_some _ old
set_option maxHeartbeats 6400000 in
theorem set_rows {l : Addr} {items : Array Value} (ks : List (Addr × Pr)) {Q : Value → Shared → Prop} (calm : A.handled = none) (isL : s.heap.IsList l items) (are : items.toList = ks.map fun p => Value.ref p.1) (rows : ∀ p ∈ ks, RowAt s.heap p.1 p.2) (four : ks.length ≤ 4) (room : A.units + 64 < cLine)
    (h : ∀ (g : Heap) (tk : Nat) L es ep t, Small P w g s.heap.objs.size L es ep t → Has ks ks.length L → (∀ b q, s.heap.get? b = some q → g.get? b = some q) → Q (.ref s.heap.objs.size) { s with heap := g, toks := tk }) :
    wpAny (model P w) A (call (.type "set") [.ref l]) Q E s := by
  have made := F.called_set.made
  have isSub := F.called_set.sub
  have noType := F.called_set.notType
  have creates := F.called_set.canCreate
  obtain ⟨_, _, _⟩ := F.called_set.mro
  have typeCall := F.typeCall_set_1 (.ref l)
  have size : items.size = ks.length := by
    have e := congrArg List.length are
    rwa [Array.length_toList, List.length_map] at e
  have item : ∀ (i : Nat) (v : Value), items[i]? = some v → ∃ p, ks[i]? = some p ∧ v = .ref p.1 := fun i v e => by
    rw [← Array.getElem?_toList, are, List.getElem?_map] at e
    obtain ⟨p, hp, rfl⟩ := Option.map_eq_some_iff.mp e
    exact ⟨p, hp, rfl⟩
  refine wpAny_call (codeAny_of_tree ?_)
  change wpAny _ _ (callAny (.type "set") _) _ _ s
  refine wpAny_pure (And.intro (Code.quiet_builtin _ (by decide +kernel)) (codeAny_builtin F.entry_type_call ?_))
  rw [Around.under_plain (weight_type_call_type "set" [.ref l] []) rfl]
  repeat any_goals first | assumption | wp_step
  refine codeAny_mono (code_set_led1 (.ref l) (E := E) (Q₁ := fun v r => v = .ref s.heap.objs.size ∧ r = { s with heap := s.heap.push (TX.newSet w) }) ⟨rfl, rfl⟩) fun
    | .error _, _, bad => bad
    | .ok .next, _, bad => bad.elim
    | .ok .brk, _, bad => bad.elim
    | .ok .cont, _, bad => bad.elim
    | .ok (.ret _), _, ⟨rfl, rfl⟩ => ?_
  have setAt : (s.heap.push (TX.newSet w)).get? s.heap.objs.size = some (TX.newSet w) := Heap.get?_push_size _ rfl
  have isTy : Shared.TypeIs { s with heap := s.heap.push (TX.newSet w) } (.ref s.heap.objs.size) "set" := ⟨_, setAt, rfl⟩
  have found := F.called_set.init.lookup
  have bound := F.called_set.init.bind (.ref s.heap.objs.size)
  repeat any_goals first | assumption | wp_step
  refine codeAny_mono (codeAny_call_builtin (R := wants (fun v r => v = .none ∧ ∃ g tk L es ep t, r = { s with heap := g, toks := tk } ∧ Small P w g s.heap.objs.size L es ep t ∧ Has ks ks.length L ∧
      ∀ b q, s.heap.get? b = some q → g.get? b = some q) E) F.called_set.init.plain F.entry_set_init (check_set_init_1 isTy ?_)) fun
    | .error _, _, bad => bad
    | .ok .next, _, bad => bad.elim
    | .ok .brk, _, bad => bad.elim
    | .ok .cont, _, bad => bad.elim
    | .ok (.ret _), _, ⟨rfl, _, _, _, _, _, _, rfl, r1, r2, r3⟩ => ?_
  · obtain ⟨⟨ocls, odict, odata, osl⟩, ho, hcl, nl, hd⟩ := isL
    dsimp only at hcl hd
    subst hcl
    subst hd
    have atL : (s.heap.push (TX.newSet w)).get? l = some { cls := .type "list", dict := odict, data := .seq items nl, slots := osl } := Heap.get?_push_of_some _ ho
    have f1 := F.sub_list_set
    have f2 := F.sub_list_frozenset
    have f3 : (Value.type "list" == Value.type "dict") = false := by decide
    have isL1 : (s.heap.push (TX.newSet w)).IsList l items := ⟨_, atL, rfl, nl, rfl⟩
    unfold Builtin.«set.__init__» noKeywords Builtin.Frozenset.updateFrom
    generalize asIter : pyIter = PI
    wp_walk
    subst asIter
    have size1 : (s.heap.push (TX.newSet w)).objs.size = s.heap.objs.size + 1 := Heap.size_push ..
    have below := Heap.lt_size ho
    have calm3 : A.in1.in1.in1.handled = none := by simp [calm]
    have neI : l ≠ (s.heap.push (TX.newSet w)).objs.size := by
      rw [size1]
      exact Nat.ne_of_lt (Nat.lt_succ_of_lt below)
    have none_ : ∀ b, s.heap.objs.size ≤ b → s.heap.get? b = none := fun b hb => by
      cases q : s.heap.get? b with
      | none => rfl
      | some o =>
        exact (Nat.not_lt.mpr hb (Heap.lt_size q)).elim
    refine wpAny_pyIter_list isL1 (wpAny_bind (wpAny_runValue ?_))
    refine fill ((Walks.list calm3 _ l neI items).toS) (S := s.heap.objs.size) ?_ ks size (by omega) item (h0 := s.heap) (fun p hp => (rows p hp).isP) (none_ _ (Nat.le_refl _)) (fun b hb => ?_) ?_ items.size 0 _ (Nat.zero_add _) ⟨⟨_, Heap.get?_push_size _ rfl, rfl, rfl⟩, isL1.push _⟩
      (fun b o e => Heap.get?_push_of_some _ (Heap.get?_push_of_some _ e)) ⟨[], #[], 0, _, small_new (Heap.get?_push_of_some _ setAt), Nat.le_refl _, fun p => ⟨fun z => absurd z List.not_mem_nil, fun z => absurd z (by simp)⟩⟩ fun r L es ep t mv isSet has keep => ?_
    · simp only [List.mem_cons, List.mem_singleton, List.not_mem_nil, or_false, not_or, size1]
      exact ⟨Nat.ne_of_lt (Nat.lt_succ_self _), Nat.ne_of_gt below⟩
    · refine none_ b ?_
      rw [List.mem_singleton.mp hb, size1]
      exact Nat.le_succ _
    · show A.units + 1 + 1 + 1 + 8 < cLine
      omega
    · obtain ⟨g, gens, drawn, tk, os⟩ := r
      have e1 : gens = s.gens := mv.gens
      have e2 : drawn = s.drawn := mv.drawn
      have e3 : os = s.os := mv.os
      subst e1 e2 e3
      show wpAny _ _ _ _ _ _
      exact wpAny_pure (wpAny_pure ⟨rfl, g, tk, L, es, ep, t, rfl, isSet, size ▸ has, keep⟩)
  · repeat any_goals first | assumption | wp_step
    exact h _ _ _ _ _ _ r1 r2 r3
/-- the set's own object, without the rows -/
def Set0 (P : Program) (w : World) (h : Heap) (a : Addr) (L : List (Addr × Pr)) : Prop := ∃ es ep t, (∃ o, h.get? a = some o ∧ o.ExactSet ∧ o.data = .set es ep t) ∧ es.toList = lines w L ∧ TabOk t (L.map fun p => hsh w p.2) ∧ (L.map (·.2)).Nodup ∧ t.plain = true ∧ (w.params.followText "set-order" = true ∨ t.led = true) ∧ t.mask = 7 ∧ L.length ≤ 4
def SetPO (P : Program) (w : World) (a : Addr) (L : List (Addr × Pr)) : HO := .ext fun h => Set0 P w h a L
theorem Small.bare (R : Small P w s.heap a L es ep t) : Set0 P w s.heap a L := ⟨es, ep, t, R.own, R.ln, R.tab, R.nd, R.plain, R.shown, R.mask, R.few⟩
theorem setPO_ok {H : Hp} {h : Heap} (R : Set0 P w h a L) : ObjOk P w H h a (SetPO P w a L) := by
  obtain ⟨es, ep, t, ⟨o, ho, r⟩, q⟩ := id R
  refine ⟨R, ⟨o, ho⟩, ?_⟩
  rintro h1 h2 ⟨xs, n, u, ⟨v, at_v, r2⟩, q2⟩ k
  exact ⟨xs, n, u, ⟨v, k v at_v, r2⟩, q2⟩
end
section
variable {X : Cx}
theorem row_at {pins : List (Addr × Obj)} {σ : L2.St} {H : Hp} {s : Shared} {b : Addr} {a : Pr} (I : Inv X pins σ H s) (h : PrAt H b a) : RowAt s.heap b a := by
  obtain ⟨t, h1, h2⟩ := h
  obtain ⟨its, r1, ⟨o1, e1, c1, n1, d1⟩, _⟩ := I.tuple (SqT.of h1)
  obtain ⟨its2, r2, ⟨o2, e2, c2, n2, d2⟩, _⟩ := I.tuple (SqT.of h2)
  obtain ⟨u, y, rfl, ⟨tk, rfl⟩, ry⟩ := vals2 r1
  cases ry
  exact ⟨o1, o2, t, tk, its2, n1, n2, e1, c1, d1, e2, c2, d2, r2.ints⟩
theorem refs_pr : ∀ {ks : List (Addr × Pr)} {us : List Value}, Vals (ks.map fun p => V.ref p.1) us → us = ks.map fun p => Value.ref p.1
  | [], _, .nil => rfl
  | p :: ks, _, .cons r t => by
    cases r
    rw [refs_pr t] <;> rfl
theorem vals_pr : ∀ (ks : List (Addr × Pr)), Vals (ks.map fun p => V.ref p.1) (ks.map fun p => Value.ref p.1)
  | [] => .nil
  | _ :: ks => .cons rfl (vals_pr ks)
/-- set(xs) of up to four pairs -/
def rSetP (K : PySem.W.Frag) (P : Program) (w : World) : List V → Hp → VK → Prop := fun vs H Q => ∃ (l : Addr) (ks : List (Addr × Pr)), vs = [V.ref l] ∧ SqL K H l (ks.map fun p => V.ref p.1) ∧ (∀ p ∈ ks, PrAt H p.1 p.2) ∧ ks.length ≤ 4 ∧
  ∀ a L, H a = none → (∀ p ∈ L, p ∈ ks) → (∀ p ∈ ks, p.2 ∈ L.map (·.2)) → Q (.ref a) (upd H a (SetPO P w a L))
theorem cr_setP (hc : X.calm = true) (hu : X.A.units + 64 < cLine) : CallR X (.type "set") (rSetP X.K X.prog X.w) := by
  rintro pins s σ H _ us Q I r ⟨l, ks, rfl, hl, rows, four, q⟩
  rw [Vals.ref1 r]
  obtain ⟨us, rv, pl, _⟩ := I.list hl
  refine set_rows (P := X.prog) (w := X.w) ks (I.ok.hd hc) pl.isList (by simpa using refs_pr rv) (fun p hp => row_at I (rows p hp)) four hu fun g tk L es ep t sm has keep => ?_
  refine ⟨.ref s.heap.objs.size, _, I.laid (t' := tk) keep (Nat.le_refl _) (setPO_ok (Small.bare (s := { s with heap := g }) sm)), rfl, q _ L (I.hok.fresh (Nat.le_refl _)) (fun p hp => ?_) fun p hp => ?_⟩
  · exact List.mem_of_mem_take ((has.2 p).1 hp)
  · exact (has.2 p).2 (by rw [List.take_length]; exact hp)
/-- sorted(xs) of such a set: in some order -/
def rSortedPS (P : Program) (w : World) : List V → Hp → VK → Prop := fun vs H Q => ∃ (a : Addr) (L : List (Addr × Pr)), vs = [V.ref a] ∧ H a = some (SetPO P w a L) ∧ (∀ p ∈ L, PrAt H p.1 p.2) ∧
  ∀ (L' : List (Addr × Pr)) (p : Addr), L'.Perm L → (L'.map (·.2)).Nodup → L'.length ≤ 4 → H p = none → Q (.ref p) (upd H p (.lst (L'.map fun q => V.ref q.1)))
theorem cr_sortedPS (hc : X.calm = true) (hu : X.A.units + 64 < cLine) : CallR X (.builtin "sorted") (rSortedPS X.prog X.w) := by
  rintro pins s σ H vs us Q I r ⟨a, L, rfl, at_a, rows, q⟩
  obtain ⟨es, ep, t, h1, h2, h3, h4, h5, h6, h7, h8⟩ : Set0 X.prog X.w s.heap a L := (I.hok a _ at_a).1
  have rw_ : ∀ p ∈ L, RowAt s.heap p.1 p.2 := fun p hp => row_at I (rows p hp)
  have R : Small X.prog X.w s.heap a L es ep t := ⟨h1, h2, h3, h4, fun p hp => (rw_ p hp).isP, h5, h6, h7, h8⟩
  rw [Vals.ref1 r]
  refine sorted_rows R (I.ok.hd hc) hu rw_ fun s' p out c L' keep gens os new at_p eout perm => ?_
  have few : L'.length ≤ 4 := perm.length_eq ▸ h8
  have free : H p = none := I.hok.fresh new
  subst eout
  have after : Inv X pins σ (upd H p (.lst (L'.map fun q => V.ref q.1))) { s with heap := s'.heap, gens := s'.gens, drawn := s'.drawn, toks := s'.toks } :=
    I.call (ch := []) (Un.laid keep new free) (I.hok.laid keep new ⟨by rw [List.length_map, sizeLine_eq]; omega, _, c, vals_pr L', at_p⟩) (by rw [gens]; exact I.bare) (fun _ z => nomatch z)
  have same : s' = { s with heap := s'.heap, gens := s'.gens, drawn := s'.drawn, toks := s'.toks } := by
    cases s'
    cases s
    cases os
    rfl
  rw [same]
  exact ⟨.ref p, _, after, rfl, q L' p perm ((perm.map (·.2)).nodup_iff.mpr h4) few free⟩
end
end NS
set_option Elab.async false
set_option linter.all false
set_option maxRecDepth 100000
set_option maxHeartbeats 8000000
namespace WK
open PySem L2 PyProof.Rows LCX K1 FV DP DL RM ND NS
open TX (sg sigs)
open PySem.W (Frag kitOne)
abbrev sParted : Stmt := top 66
abbrev NPt : List Str := ["_law_plain", "_law_size", "_law_table_here", "_law_told", "_law_turn", "_law_rows", "_law_some", "_law_state", "_law_later", "_law_row"]
abbrev scPtIn : Scope := { kind := .function, names := [(".0", .local), ("_law_state", .local), ("tuple", .globalImplicit), ("_law_table_here", .cell), ("_law_told", .cell)], isGenerator := false, isCoroutine := false }
/-- a pair as data -/
def dPr (a : Pr) : PyData := .tuple [.int a.fst, .tuple (a.snd.map PyData.int)]
theorem Dp.pair {K : Frag} {H : Hp} {b : Addr} {a : Pr} (h : PrAt H b a) : Dp K H (.ref b) (dPr a) := by
  obtain ⟨t, h1, h2⟩ := h
  have allI : ∀ r : List Int, DpAll K H (r.map V.int) (r.map PyData.int) := fun r => by
    induction r with
    | nil => exact .nil
    | cons i r ih => exact .cons (.int i) ih
  exact .tup (SqT.of h1) (.cons (.int _) (.cons (.tup (SqT.of h2) (allI _)) .nil))
theorem dPr_lay (a : Pr) : (dPr a).canLay0 = true := by
  have allI : ∀ r : List Int, PyData.canLayAll0 (r.map PyData.int) = true := fun r => by
    induction r with
    | nil => rfl
    | cons i r ih => simp [PyData.canLayAll0, PyData.canLay0, ih]
  simp [dPr, PyData.canLay0, PyData.canLayAll0, allI]
theorem dPr_depth (a : Pr) : (dPr a).depth ≤ 2 := by
  show max 0 (max (PyData.depthAll (a.snd.map PyData.int) + 1) 0) + 1 ≤ 2
  rw [depth_ints]
  decide
theorem dPr_shaped (a : Pr) : SeqAt.shaped (dPr a) = true := by
  unfold SeqAt.shaped
  rw [dPr_lay, decide_eq_true (Nat.le_trans (dPr_depth a) (by decide))]
  rfl
theorem dPrs_shaped (l : List Pr) : SeqAt.shaped (.list (l.map dPr)) = true := by
  have lay : PyData.canLayAll0 (l.map dPr) = true := by
    induction l with
    | nil => rfl
    | cons a l ih => simp [PyData.canLayAll0, dPr_lay, ih]
  have dep : PyData.depthAll (l.map dPr) ≤ 2 := by
    induction l with
    | nil => exact Nat.zero_le _
    | cons a l ih =>
      have := dPr_depth a
      have ih := ih (by
        have z := lay
        simp only [List.map_cons, PyData.canLayAll0, Bool.and_eq_true] at z
        exact z.2)
      show max (dPr a).depth (PyData.depthAll (l.map dPr)) ≤ 2
      omega
  have d2 : PyData.depth (.list (l.map dPr)) ≤ 64 := by
    show PyData.depthAll (l.map dPr) + 1 ≤ 64
    omega
  unfold SeqAt.shaped
  rw [decide_eq_true d2, show PyData.canLay0 (.list (l.map dPr)) = true by simp [PyData.canLay0, lay]]
  rfl
theorem eqv_ints : ∀ r q : List Int, PyData.eqvAll (r.map PyData.int) (q.map PyData.int) = decide (r = q)
  | [], [] => rfl
  | [], _ :: _ => rfl
  | _ :: _, [] => rfl
  | i :: r, j :: q => by
    show ((i == j) && PyData.eqvAll (r.map PyData.int) (q.map PyData.int)) = _
    rw [eqv_ints r q, Bool.eq_iff_iff, Bool.and_eq_true, beq_iff_eq, decide_eq_true_iff, decide_eq_true_iff, List.cons.injEq]
theorem eqv_pr (a b : Pr) : PyData.eqv (dPr a) (dPr b) = decide (a = b) := by
  obtain ⟨i, r⟩ := a
  obtain ⟨j, q⟩ := b
  show ((i == j) && (PyData.eqvAll (r.map PyData.int) (q.map PyData.int) && true)) = _
  rw [eqv_ints, Bool.and_true, Bool.eq_iff_iff, Bool.and_eq_true, beq_iff_eq, decide_eq_true_iff, decide_eq_true_iff, Pr.mk.injEq]
theorem dp_prs {K : Frag} {H : Hp} : ∀ {l : List (Addr × Pr)}, (∀ p ∈ l, PrAt H p.1 p.2) → DpAll K H (l.map fun p => V.ref p.1) ((l.map (·.2)).map dPr)
  | [], _ => .nil
  | p :: l, h => .cons (Dp.pair (h p (.head _))) (dp_prs fun q hq => h q (.tail _ hq))
def spParted : Sp := fun vs H Q _ => ∃ (m : Addr) (L : W) (tb : List (List Int)) (es : List Int) (n : Int), vs = [.ref m] ∧ PlainM H m L tb es ∧ MacOk L tb es n ∧ n ≤ 4 ∧ Let L ∧
  ∀ (p : Addr) (t : List Int) H', H p = none → Same H H' → H' p = some (.lst (t.map V.int)) → Parts L tb es t → Q (.ref p) H'
section
variable {P : Program} {w : World} {K : PySem.W.Frag} {mg : Str → Option Value} {base : Heap}
theorem scPt : FnScope NPt ["_law_plain"] (defScope sParted) := ⟨rfl, rfl, rfl, by decide +kernel, rfl, by decide +kernel, by decide +kernel⟩
theorem ok_parted {f : Addr} {fd : FuncData} (F : Fun K "_law_parted" "_law_parted" sParted f fd) (T : TN mg) : FnOk P w K mg base CX0 1 f fd ["_law_plain"] spParted := by
  refine F.ok scPt (fun vs H Q E h => ?_) (fun cdv A outer s H vs Q E hr h => ?_)
  · obtain ⟨m, _, _, _, _, rfl, _⟩ := h
    rfl
  · obtain ⟨m, L, tb, es, n, rfl, hp, ok, h4, hL, q⟩ := h
    have hub := hu_of hr
    have hu64 := hr.units
    have hu65 : (A.deeper (envOfC "_law_parted" (defScope sParted) s.heap.objs.size f cdv)).units + 65 < cLine := by
      have := hr.un
      omega
    refine ⟨_, pss_cons (ps_asg (pe_tup (pa_cons (pe_callB call_len_seq (by rfl) T.len PySem.boot_len (pa_cons (pe_dget hub (pv 0) pe_str (fun _ _ => rfl)) pa_nil)) (pa_cons (pe_dget hub (pv 0) pe_str (fun _ _ => rfl)) pa_nil))) (pg_tup (n := 2) (by rfl) (pgs_cons (pg_name (i := 1) scPt.nd rfl (Or.inl rfl)) (pgs_cons (pg_name (i := 2) scPt.nd rfl (Or.inr rfl)) pgs_nil))))
      (pss_cons (ps_set (i := 3) scPt.nd rfl (Or.inr rfl) (pe_lc (own := [("_law_state", 7)]) (g := gName 7) (tt := tYes) (te := tCB (fun xs H Q => (∃ i, xs = [.int i] ∧ Q (.int i) H) ∨ ∃ k, xs = [.bl k] ∧ Q (.int (if k then 1 else 0)) H) (tCons (tOp (rIn K false) (tVar 7) (tDGet (tVar 0) (tC (.str "ends")))) tNil)) rfl scPt.nd (pi_range1 rfl T.rng (pa_cons (pv 1) pa_nil))
          (blkOk_by (own := [("_law_state", 7)]) (N := NPt) (sc := defScope sParted) (by decide +kernel)) (fun _ _ _ _ _ => pg_name (i := 7) scPt.nd rfl (Or.inl rfl)) (fun _ _ _ _ _ => pts_nil)
          (fun _ _ _ _ _ => pe_callTy call_int1 (by rfl) T.int (by decide +kernel) (pa_cons (pe_cmpR op_in_seq (pv 7) (pe_dget hub (pv 0) pe_str (fun _ _ => rfl)) (by rfl)) pa_nil))))
      (pss_cons (ps_for PassesOwn.never rfl (pi_range1 rfl T.rng (pa_cons (pv 1) pa_nil)) (pg_name (i := 4) scPt.nd rfl (Or.inl rfl))
        (pss_cons (ps_setLc (i := 5) (own := [("_law_state", 7)]) (g := gName 7) (tt := tYes) (te := tTup (tCons (tOp (rIxL K) (tVar 3) (tVar 7)) (tCons (tCB (rTupL K) (tCons (tLc (iTup K (tOp (rIxL K) (tVar 2) (tVar 7))) (gName 8) tYes (tOp (rIxL K) (tVar 3) (tVar 8)) [8]) tNil)) tNil))) rfl scPt.nd rfl rfl (sw_true rfl rfl rfl (by decide +kernel)) (pi_range1 rfl T.rng (pa_cons (pv 1) pa_nil))
            (blkOk_by (own := [("_law_state", 7)]) (N := NPt) (sc := defScope sParted) (by decide +kernel)) (fun _ _ _ _ _ => pg_name (i := 7) scPt.nd rfl (Or.inl rfl)) (fun _ _ _ _ _ => pts_nil)
            (fun _ _ _ _ _ => pe_tup (pa_cons (pe_ix ix_list (pv 3) (pv 7) (fun _ _ => rfl)) (pa_cons (pe_callTy call_tuple_of (by rfl) T.tuple (by decide +kernel) (pa_cons (pe_lc (own := [("_law_later", 8)]) (g := gName 8) (tt := tYes) (te := tOp (rIxL K) (tVar 3) (tVar 8)) rfl scPt.nd (pi_tup (pe_ix ix_list (pv 2) (pv 7) (fun _ _ => rfl)))
              (blkOk_by (own := [("_law_later", 8)]) (N := NPt) (sc := scPtIn) (by decide +kernel)) (fun _ _ _ _ _ => pg_name (i := 8) scPt.nd rfl (Or.inl rfl)) (fun _ _ _ _ _ => pts_nil) (fun _ _ _ _ _ => pe_ix ix_list (pv 3) (pv 8) (fun _ _ => rfl))) pa_nil)) pa_nil))))
        (pss_cons (ps_set (i := 6) scPt.nd rfl (Or.inr rfl) (pe_callB (show CallR _ _ (rSortedPS P w) from cr_sortedPS rfl hu64) (by rfl) T.sorted (by decide +kernel) (pa_cons (pe_callTy (show CallR _ _ (rSetP K P w) from cr_setP rfl hu64) (by rfl) T.set (by decide +kernel) (pa_cons (pv 5) pa_nil)) pa_nil)))
        (pss_one (ps_set (i := 3) scPt.nd rfl (Or.inr rfl) (pe_lc (own := [("_law_row", 9)]) (g := gName 9) (tt := tYes) (te := tBM K "list" (rIndexD K) (tVar 6) (tCons (tVar 9) tNil)) rfl scPt.nd (pi_list (pv 5))
            (blkOk_by (own := [("_law_row", 9)]) (N := NPt) (sc := defScope sParted) (by decide +kernel)) (fun _ _ _ _ _ => pg_name (i := 9) scPt.nd rfl (Or.inl rfl)) (fun _ _ _ _ _ => pts_nil)
            (fun _ _ _ _ _ => pe_bm PySem.F.plainAttrs_list PySem.F.slot_list_index PySem.F.type_list_index (mt_indexD hu65) (pv 6) (pa_cons (pv 9) pa_nil))))))))
      (pss_one (ps_ret (pv 3))))), ?_⟩
    obtain ⟨lt, le, h1, ⟨ts, h2, h3⟩, h5⟩ := hp.ex
    have okl := ok.tab.len
    have one := ok.one
    have tl := h3.len
    have g : ∀ (H' : Hp) (kk : Key) (v : V), Same H H' → valV (pkv L lt le) kk = some v → DGet H' m (kV kk) (some v) := fun H' kk v s e => e ▸ DGet.k (s _ _ h1)
    refine ⟨_, rfl, m, _, rfl, g H kTb _ (Same.refl H) (pkv_T L lt le), lt, _, rfl, .inl (SqL.of h2), _, rfl, m, _, rfl, g H kTb _ (Same.refl H) (pkv_T L lt le), by show 2 ≤ sizeLine; decide, fun T0 nT0 => ?_⟩
    rw [List.length_map, tl]
    have s0 := same_upd (o := .tup [.int ((tb.length : Nat) : Int), .ref lt]) nT0
    refine ⟨T0, _, rfl, SqT.of upd_same, rfl, _, _, rfl, _, _, rfl, rfl, ?_⟩
    generalize upd H T0 (.tup [.int ((tb.length : Nat) : Int), .ref lt]) = H0 at s0 ⊢
    refine ⟨_, rfl, ((tb.length : Nat) : Int), rfl, by omega, by omega, fun D nD => ?_⟩
    have b2 : ∀ i : Nat, (if decide (((i : Nat) : Int) ∈ es) = true then (1 : Int) else 0) = (fun b : Bool => if b = true then (1 : Int) else 0) (decide (((i : Nat) : Int) ∈ es)) := fun i => rfl
    refine lc_it walk_range (fun i H3 => Same H0 H3 ∧ H3 D = some (.lst (((marks i es).map fun b : Bool => if b = true then (1 : Int) else 0).map V.int))) ⟨same_upd nD, upd_same⟩ (fun _ _ _ _ => trivial) ?_ ?_
    · rintro i xi H3 H4 hi ⟨s3, hd⟩ ⟨rfl, exi⟩
      obtain rfl : xi = .int ((i : Nat) : Int) := exi.trans (congrArg V.int (Int.zero_add _))
      rw [Int.toNat_natCast] at hi
      refine ⟨rfl, _, rfl, _, rfl, m, _, rfl, g _ kE _ (s0.trans s3) (pkv_E L lt le), le, _, rfl, .inl (SqL.of ((s0.trans s3) _ _ h5)), rfl, flat_ints es, .inr ⟨_, rfl, _, hd, ?_, same_at s3 nD, ?_⟩⟩
      · rw [List.length_map, List.length_map, marks_len, sizeLine_eq]
        omega
      · rw [upd_same, inV_int]
        unfold marks
        rw [List.range_succ, List.map_append, List.map_append, List.map_append]
        rfl
    rintro H3 ⟨s3, hd⟩
    rw [Int.toNat_natCast] at hd
    have s03 := s0.trans s3
    have nD0 : H D = none := s0.free nD
    refine ⟨_, rfl, ((tb.length : Nat) : Int), rfl, by omega, by omega, ?_⟩
    refine for_it walk_range (fun k σ H4 => ∃ (Ta : Addr) (t : List Int) (x4 x5 x6 x7 x8 x9 : Option V), Same H H4 ∧ H4 Ta = some (.lst (t.map V.int)) ∧ H Ta = none ∧ t.length = tb.length ∧ Ker tb.length t (itG tb (num (marks tb.length es)) k) ∧
      σ = [some (.ref m), some (.int ((tb.length : Nat) : Int)), some (.ref lt), some (.ref Ta), x4, x5, x6, x7, x8, x9]) ?_ (fun _ _ _ _ _ => trivial) ?_ ?_
    · refine ⟨D, _, _, _, _, _, _, _, s03, hd, nD0, by rw [List.length_map, marks_len], fun i k hi hk => ?_, rfl⟩
      have at_ : ∀ {i : Nat}, i < tb.length → gi ((marks tb.length es).map fun b : Bool => if b = true then (1 : Int) else 0) i = if decide (((i : Nat) : Int) ∈ es) = true then 1 else 0 := fun {i} hi => by
        unfold gi
        rw [List.getD_eq_getElem?_getD, List.getElem?_map, Int.toNat_natCast, List.getElem?_eq_getElem (by rw [marks_len]; exact hi), marks_at]
        rfl
      refine Iff.trans ?_ (num_eq (l := marks tb.length es) (by rw [marks_len]; exact hi) (by rw [marks_len]; exact hk)).symm
      rw [at_ hi, at_ hk, marks_at, marks_at]
      cases decide (((i : Nat) : Int) ∈ es) <;> cases decide (((k : Nat) : Int) ∈ es) <;> simp
    · rintro k xk σ H4 H5 hk ⟨Ta, t, x4, x5, x6, x7, x8, x9, s4, hT, nTa, lt_, kr, rfl⟩ ⟨rfl, exk⟩
      refine ⟨_, rfl, ((tb.length : Nat) : Int), rfl, by omega, by omega, fun D2 nD2 => ?_⟩
      have nD2H : H5 D2 = none := nD2
      have atT : ∀ {z : Int}, 0 ≤ z ∧ z < n → atI (t.map V.int) z = some (.int (gi t z)) := fun {z} hz => by
        obtain ⟨hl, e⟩ := gi_at (g := t) (a := z) ⟨hz.1, by omega⟩
        rw [show z = ((z.toNat : Nat) : Int) by omega]
        refine atI_nat ?_
        rw [List.getElem?_map, List.getElem?_eq_getElem hl, show ((z.toNat : Nat) : Int) = z by omega, e] <;> rfl
      refine lc_it walk_range (fun i H6 => Same H5 H6 ∧ ∃ ks : List (Addr × Pr), H6 D2 = some (.lst (ks.map fun p => V.ref p.1)) ∧ ks.map (·.2) = (prs tb t).take i ∧ ∀ p ∈ ks, PrAt H6 p.1 p.2 ∧ p.1 ≠ D2) ⟨same_upd nD2, [], upd_same, rfl, fun p hp => absurd hp List.not_mem_nil⟩ (fun _ _ _ _ => trivial) ?_ ?_
      · rintro i xi H6 H7 hi ⟨s6, ks, hd6, kp, at6⟩ ⟨rfl, exi⟩
        obtain rfl : xi = .int ((i : Nat) : Int) := exi.trans (congrArg V.int (Int.zero_add _))
        rw [Int.toNat_natCast] at hi
        obtain ⟨a, ea, ha⟩ := h3.get hi
        have s46 := s4.trans s6
        have atr : atI (ts.map V.ref) ((i : Nat) : Int) = some (.ref a) := atI_nat (by rw [List.getElem?_map, ea] <;> rfl)
        have rb := (ok.tab.row _ (List.getElem_mem hi))
        have er : tb.getD i [] = tb[i] := by rw [List.getD_eq_getElem?_getD, List.getElem?_eq_getElem hi] <;> rfl
        rw [er] at ha
        have epr := prs_at (B := tb) (g := t) hi
        generalize tb[i] = row at ha rb epr
        refine ⟨rfl, _, rfl, _, rfl, Ta, _, _, _, rfl, rfl, SqL.of (s6 _ _ hT), atT ⟨by omega, by omega⟩, _, rfl, _, rfl, lt, _, _, _, rfl, rfl, SqL.of (s46 _ _ h2), atr, a, rfl, ⟨_, SqT.of (s46 _ _ ha)⟩, fun D3 nD3 => ?_⟩
        have nD3H : H7 D3 = none := nD3
        refine lc_it walk_tup (fun j H8 => Same H7 H8 ∧ H8 D3 = some (.lst (((row.take j).map (gi t)).map V.int))) ⟨same_upd nD3, upd_same⟩ (fun j H8 _ h => SqT.of (h.1 _ _ (s46 _ _ ha))) ?_ ?_
        · rintro j x H8 H9 hj ⟨s8, hd8⟩ ⟨rfl, hx⟩
          rw [List.length_map] at hj
          obtain ⟨v, ev⟩ : ∃ v, row[j]? = some v := ⟨_, List.getElem?_eq_getElem hj⟩
          obtain rfl : x = .int v := by
            rw [List.getElem?_map, ev] at hx
            exact (Option.some.inj hx).symm
          have bv := rb.2 v (List.mem_of_getElem? ev)
          refine ⟨rfl, _, rfl, _, rfl, Ta, _, _, _, rfl, rfl, SqL.of ((s6.trans s8) _ _ hT), atT bv, _, hd8, ?_, same_at s8 nD3H, ?_⟩
          · rw [List.length_map, List.length_map, List.length_take, sizeLine_eq]
            have := rb.1
            have := hL.few
            omega
          · rw [upd_same, List.take_add_one, ev, List.map_append, List.map_append]
            rfl
        rintro H8 ⟨s8, hd8⟩
        rw [List.length_map, List.take_of_length_le (Nat.le_refl _)] at hd8
        refine ⟨D3, _, rfl, .inl ⟨SqL.of hd8, fun T4 nT4 => ?_⟩⟩
        have sT := same_upd (o := .tup ((row.map (gi t)).map V.int)) nT4
        have tT : (upd H8 T4 (.tup ((row.map (gi t)).map V.int))) T4 = some (oTup (row.map (gi t))) := upd_same
        have s9 := s8.trans sT
        generalize upd H8 T4 (.tup ((row.map (gi t)).map V.int)) = H9 at tT s9 ⊢
        refine ⟨by show 2 ≤ sizeLine; decide, fun T5 nT5 => ?_⟩
        have sU := same_upd (o := .tup [.int (gi t i), .ref T4]) nT5
        have tU : (upd H9 T5 (.tup [.int (gi t i), .ref T4])) T5 = some (.tup [.int (gi t i), .ref T4]) := upd_same
        have tT2 := sU _ _ tT
        have s10 := s9.trans sU
        generalize upd H9 T5 (.tup [.int (gi t i), .ref T4]) = H10 at tU tT2 s10 ⊢
        have hd10 := s10 _ _ hd6
        have lk : ks.length = i := by
          have e := congrArg List.length kp
          rw [List.length_map, List.length_take, prs_len] at e
          omega
        have n5 : T5 ≠ D2 := fun z => by rw [z, hd10] at tU; cases tU
        have n4 : T4 ≠ D2 := fun z => by rw [z, hd10] at tT2; cases tT2
        have keepD : ∀ (xs : List V), KeepsTup H10 (upd H10 D2 (.lst xs)) := fun xs => tup_upd hd10 fun _ z => nomatch z
        refine ⟨_, hd10, by rw [List.length_map, sizeLine_eq]; omega, same_at (s6.trans s10) nD2H, ks ++ [(T5, ⟨gi t i, row.map (gi t)⟩)], by rw [upd_same, List.map_append] <;> rfl, ?_, fun p hp => ?_⟩
        · rw [List.map_append, kp, List.take_add_one, List.getElem?_eq_getElem (by rw [prs_len]; exact hi), epr]
          rfl
        · rcases List.mem_append.mp hp with z | z
          · exact ⟨((at6 p z).1.keep (Same.tup' s10)).keep (keepD _), (at6 p z).2⟩
          · rw [List.mem_singleton.mp z]
            exact ⟨PrAt.keep (a := ⟨gi t i, row.map (gi t)⟩) ⟨T4, tU, tT2⟩ (keepD _), n5⟩
      rintro H6 ⟨s6, ks, hd6, kp, at6⟩
      rw [Int.toNat_natCast, List.take_of_length_le (Nat.le_of_eq (prs_len tb t))] at kp
      have lk : ks.length = tb.length := by
        have e := congrArg List.length kp
        rwa [List.length_map, prs_len] at e
      refine ⟨_, rfl, D2, ks, rfl, SqL.of hd6, fun p hp => (at6 p hp).1, by omega, fun sa L1 nsa sub cov => ?_⟩
      have sS := same_upd (o := SetPO P w sa L1) nsa
      refine ⟨sa, L1, rfl, upd_same, fun p hp => (at6 p (sub p hp)).1.keep (Same.tup' sS), fun L2 p perm nd few np => ?_⟩
      have sP := sS.trans (same_upd (o := .lst (L2.map fun q => V.ref q.1)) np)
      have hP : (upd (upd H6 sa (SetPO P w sa L1)) p (.lst (L2.map fun q => V.ref q.1))) p = some (.lst (L2.map fun q => V.ref q.1)) := upd_same
      generalize upd (upd H6 sa (SetPO P w sa L1)) p (.lst (L2.map fun q => V.ref q.1)) = H7 at sP hP ⊢
      have at2 : ∀ q ∈ L2, PrAt H7 q.1 q.2 := fun q hq => (at6 q (sub q (perm.mem_iff.mp hq))).1.keep (Same.tup' sP)
      have cov2 : ∀ a ∈ prs tb t, a ∈ L2.map (·.2) := fun a ha => by
        rw [← kp] at ha
        obtain ⟨q, hq, rfl⟩ := List.mem_map.mp ha
        obtain ⟨r, hr, e⟩ := List.mem_map.mp (cov q hq)
        exact List.mem_map.mpr ⟨r, perm.mem_iff.mpr hr, e⟩
      have hd7 := sP _ _ hd6
      refine ⟨_, rfl, D2, rfl, ⟨_, SqL.of hd7⟩, fun D4 nD4 => ?_⟩
      have nD4H : H7 D4 = none := nD4
      refine lc_it walk_list (fun i H8 => Same H7 H8 ∧ H8 D4 = some (.lst ((((prs tb t).take i).map fun a => ((((L2.map (·.2)).idxOf a : Nat)) : Int)).map V.int))) ⟨same_upd nD4, upd_same⟩ (fun i H8 _ h => SqL.of (h.1 _ _ hd7)) ?_ ?_
      · rintro i x H8 H9 hi ⟨s8, hd8⟩ ⟨rfl, hx⟩
        rw [List.length_map, lk] at hi
        obtain ⟨q, eq⟩ : ∃ q, ks[i]? = some q := ⟨_, List.getElem?_eq_getElem (by omega)⟩
        obtain rfl : x = .ref q.1 := by
          rw [List.getElem?_map, eq] at hx
          exact (Option.some.inj hx).symm
        have epr : (prs tb t)[i]? = some q.2 := by
          rw [← kp, List.getElem?_map, eq] <;> rfl
        have mem := cov2 q.2 (List.mem_of_getElem? epr)
        have lj := List.idxOf_lt_length_of_mem mem
        have hP8 := s8 _ _ hP
        refine ⟨rfl, _, rfl, .inl ⟨rfl, _, SqL.of hP8⟩, _, rfl, p, .ref q.1, dPr q.2, (L2.map (·.2)).map dPr, (L2.map (·.2)).idxOf q.2, dPr q.2, rfl, rfl, .lst (SqL.of hP8) (dp_prs fun r hr => (at2 r hr).keep (Same.tup' s8)), Dp.pair ((at6 q (List.mem_of_getElem? eq)).1.keep (Same.tup' (sP.trans s8))), dPrs_shaped _, dPr_shaped _, ?_, ?_, fun j z hj hz => ?_, _, hd8, ?_, same_at s8 nD4H, ?_⟩
        · rw [List.getElem?_map, List.getElem?_eq_getElem lj, List.getElem_idxOf lj] <;> rfl
        · rw [eqv_pr]
          exact decide_eq_true rfl
        · rw [List.getElem?_map] at hz
          obtain ⟨a, ha, rfl⟩ := Option.map_eq_some_iff.mp hz
          rw [eqv_pr]
          refine decide_eq_false fun e => ?_
          subst e
          obtain ⟨h1, h2⟩ := List.getElem?_eq_some_iff.mp ha
          have e3 := List.Nodup.idxOf_getElem nd j h1
          rw [h2] at e3
          omega
        · rw [List.length_map, List.length_map, List.length_take, prs_len, sizeLine_eq]
          omega
        · rw [upd_same, List.take_add_one, epr, List.map_append, List.map_append]
          rfl
      rintro H8 ⟨s8, hd8⟩
      rw [List.length_map, lk, List.take_of_length_le (Nat.le_of_eq (prs_len tb t))] at hd8
      have s48 := s4.trans (s6.trans (sP.trans s8))
      refine ⟨D4, _, _, _, _, _, _, _, s48, hd8, (s4.trans (s6.trans sP)).free nD4H, by rw [List.length_map, prs_len], Ker.next ok.tab kr fun i k hi hk => ?_, rfl⟩
      have at_ : ∀ {i : Nat} (hi : i < tb.length), gi ((prs tb t).map fun a => ((((L2.map (·.2)).idxOf a : Nat)) : Int)) i = (((L2.map (·.2)).idxOf ((prs tb t)[i]'(by rw [prs_len]; exact hi)) : Nat) : Int) := fun {i} hi => by
        unfold gi
        rw [List.getD_eq_getElem?_getD, List.getElem?_map, Int.toNat_natCast, List.getElem?_eq_getElem (by rw [prs_len]; exact hi)]
        rfl
      rw [at_ hi, at_ hk]
      exact ⟨fun e => idx_inj (cov2 _ (List.getElem_mem _)) (cov2 _ (List.getElem_mem _)) (by omega), fun e => by rw [e]⟩
    · rintro σ H4 ⟨Ta, t, x4, x5, x6, x7, x8, x9, s4, hT, nTa, lt_, kr, rfl⟩
      rw [Int.toNat_natCast] at kr
      exact ⟨_, rfl, q Ta t H4 nTa s4 hT (parts_of hL ok.tab one lt_ kr)⟩
end
end WK
set_option Elab.async false
set_option linter.all false
set_option maxRecDepth 100000
set_option maxHeartbeats 8000000
namespace WK
open PySem L2 PyProof.Rows LCX K1 FV DP DL RM
open TX (sg sigs)
open PySem.W (Frag kitOne)
abbrev sLFree : Stmt := top 69
abbrev NLf2 : List Str := ["_law_plain", "_law_told", "_law_table_here", "_law_state", "_law_one", "_law_other", "_law_there", "_law_back"]
def spLFree : Sp := fun vs H Q _ => ∃ (m : Addr) (L : W) (tb : List (List Int)) (es : List Int) (n : Int), vs = [.ref m] ∧ PlainM H m L tb es ∧ MacOk L tb es n ∧ n ≤ 4 ∧ Let L ∧ ∀ b H', Same H H' → (b = true ↔ Free L tb es) → Q (.bl b) H'
/-- a new dict, from here on as it stands -/
def tFrz (td : TE) : TE := fun σ H Q => td σ H fun x H1 => ∃ d u, x = .ref d ∧ H1 d = some u ∧ Mut (some u) ∧ ∀ od, Q x (upd H1 d (.frz od u))
theorem pe_frz {X : Cx} {e : Expr} {td : TE} (h : PE X e td) : PE X e (tFrz td) := by
  refine ⟨fun pins s σ H Q I z => ?_⟩
  refine thn (h.run pins s σ H _ I z) fun v s1 ⟨x, H1, I1, rx, d, u, ex, hd, mu, q⟩ => ?_
  obtain ⟨od, I2⟩ := I1.lock hd mu
  exact ⟨x, _, I2, rx, q od⟩
abbrev tTwoL (K : Frag) (a b : Nat) : TE := tOp (rIxT K) (tOp (rIxL K) (tVar 2) (tOp (rIxT K) (tOp (rIxL K) (tVar 2) (tVar 3)) (tVar a))) (tVar b)
theorem cell_at {K : Frag} {H : Hp} {lt : Addr} {ts : List Addr} {tb : List (List Int)} {wd : Nat} {n s : Int} {i : Nat} (h2 : H lt = some (.lst (ts.map V.ref))) (h3 : Objs oTup H ts tb) (ok : TabOk tb wd n) (hs : 0 ≤ s ∧ s < n) (hi : i < wd) :
    ∃ ta, atI (ts.map V.ref) s = some (.ref ta) ∧ ∃ row, H ta = some (oTup row) ∧ atI (row.map V.int) ((i : Nat) : Int) = some (.int (rowF tb s i)) := by
  have okl := ok.len
  have sl : s.toNat < tb.length := by omega
  obtain ⟨ta, ets, hta⟩ := h3.get sl
  refine ⟨ta, ?_, _, hta, ?_⟩
  · rw [show s = ((s.toNat : Nat) : Int) by omega]
    exact atI_nat (by rw [List.getElem?_map, ets] <;> rfl)
  · have rl : (tb.getD s.toNat []).length = wd := by
      rw [List.getD_eq_getElem?_getD, List.getElem?_eq_getElem sl]
      exact (ok.row _ (List.getElem_mem sl)).1
    refine atI_nat ?_
    unfold rowF
    rw [List.getElem?_map, List.getD_eq_getElem?_getD (l := tb.getD s.toNat []), List.getElem?_eq_getElem (by omega)] <;> rfl
theorem twoL_ok {K : Frag} {H : Hp} {lt : Addr} {ts : List Addr} {tb : List (List Int)} {wd i j a b : Nat} {n s : Int} {σ : L2.St} {Q : VK} (h2 : H lt = some (.lst (ts.map V.ref))) (h3 : Objs oTup H ts tb) (ok : TabOk tb wd n) (e2 : σ[2]? = some (some (.ref lt))) (e3 : σ[3]? = some (some (.int s)))
    (ea : σ[a]? = some (some (.int ((i : Nat) : Int)))) (eb : σ[b]? = some (some (.int ((j : Nat) : Int)))) (hs : 0 ≤ s ∧ s < n) (hi : i < wd) (hj : j < wd) (q : Q (.int (rowF tb (rowF tb s i) j)) H) : tTwoL K a b σ H Q := by
  obtain ⟨t1, a1, r1, k1, c1⟩ := cell_at (K := K) h2 h3 ok hs hi
  obtain ⟨t2, a2, r2, k2, c2⟩ := cell_at (K := K) h2 h3 ok (rowF_in ok hs hi) hj
  exact ⟨_, e2, _, e2, _, e3, lt, _, s, .ref t1, rfl, rfl, SqL.of h2, a1, _, ea, t1, _, _, _, rfl, rfl, SqT.of k1, c1, lt, _, _, _, rfl, rfl, SqL.of h2, a2, _, eb, t2, _, _, _, rfl, rfl, SqT.of k2, c2, q⟩
section
variable {P : Program} {w : World} {K : PySem.W.Frag} {mg : Str → Option Value} {base : Heap} {fP fL : Addr} {dP dL : FuncData}
theorem scLfr : FnScope NLf2 ["_law_plain"] (defScope sLFree) := ⟨rfl, rfl, rfl, by decide +kernel, rfl, by decide +kernel, by decide +kernel⟩
theorem ok_lfree {f : Addr} {fd : FuncData} (F : Fun K "_law_is_free" "_law_is_free" sLFree f fd) (T : TN mg) (AP : Fn K mg "_law_parted" sParted ["_law_plain"] fP dP) (GP : FnOk P w K mg base CX0 1 fP dP ["_law_plain"] spParted)
    (AL : Fn K mg "_law_firsts" sLFirsts ["_law_table_here", "_law_letters_here"] fL dL) (GL : FnOk P w K mg base CX0 1 fL dL ["_law_table_here", "_law_letters_here"] spLFirsts) : FnOk P w K mg base CX0 2 f fd ["_law_plain"] spLFree := by
  refine F.ok scLfr (fun vs H Q E h => ?_) (fun cdv A outer s H vs Q E hr h => ?_)
  · obtain ⟨m, _, _, _, _, rfl, _⟩ := h
    rfl
  · obtain ⟨m, L, tb, es, n, rfl, hp, ok, h4, hL, q⟩ := h
    have hub := hu_of hr
    refine ⟨_, pss_cons (ps_par (i := 1) (j := 2) (by rfl) scLfr.nd rfl rfl (by decide) rfl rfl (pa_cons (pe_call (E := E0) GP hr rfl AP.g AP.F.kp AP.b .nil pass0 (pa_cons (pv 0) pa_nil)) (pa_cons (pe_dget hub (pv 0) pe_str (fun _ _ => rfl)) pa_nil)) (by rfl))
      (pss_cons (ps_for PassesOwn.never rfl (pi_keys (pe_frz (pe_call (E := E0) GL hr rfl AL.g AL.F.kp AL.b .nil pass0 (pa_cons (pv 2) (pa_cons (pe_dget hub (pv 0) pe_str (fun _ _ => rfl)) pa_nil))))) (pg_name (i := 3) scLfr.nd rfl (Or.inl rfl))
        (pss_one (ps_for PassesOwn.never rfl (pi_range1 rfl T.rng (pa_cons (pe_callB call_len_str (by rfl) T.len PySem.boot_len (pa_cons (pe_dget hub (pv 0) pe_str (fun _ _ => rfl)) pa_nil)) pa_nil)) (pg_name (i := 4) scLfr.nd rfl (Or.inl rfl))
          (pss_one (ps_for PassesOwn.never rfl (pi_range1 rfl T.rng (pa_cons (pv 4) pa_nil)) (pg_name (i := 5) scLfr.nd rfl (Or.inl rfl))
            (pss_cons (ps_set (i := 6) scLfr.nd rfl (Or.inl rfl) (pe_ix ix_tup (pe_ix ix_list (pv 2) (pe_ix ix_tup (pe_ix ix_list (pv 2) (pv 3) (fun _ _ => rfl)) (pv 4) (fun _ _ => rfl)) (fun _ _ => rfl)) (pv 5) (fun _ _ => rfl)))
            (pss_cons (ps_set (i := 7) scLfr.nd rfl (Or.inl rfl) (pe_ix ix_tup (pe_ix ix_list (pv 2) (pe_ix ix_tup (pe_ix ix_list (pv 2) (pv 3) (fun _ _ => rfl)) (pv 5) (fun _ _ => rfl)) (fun _ _ => rfl)) (pv 4) (fun _ _ => rfl)))
            (pss_one (ps_if (pt_cmpR op_ne (pe_ix ix_list (pv 1) (pv 6) (fun _ _ => rfl)) (pe_ix ix_list (pv 1) (pv 7) (fun _ _ => rfl)) (nomark _)) (pss_one (ps_ret pe_bl)) pss_nil)))))))))
      (pss_one (ps_ret pe_bl))), ?_⟩
    obtain ⟨lt, le, h1, ⟨ts, h2, h3⟩, h5⟩ := hp.ex
    have okt := ok.tab
    have okl := okt.len
    have one := ok.one
    have g : ∀ (H' : Hp) (kk : Key) (v : V), Same H H' → valV (pkv L lt le) kk = some v → DGet H' m (kV kk) (some v) := fun H' kk v s e => e ▸ DGet.k (s _ _ h1)
    refine ⟨_, rfl, m, L, tb, es, n, rfl, hp, ok, h4, hL, fun p t H1 np s1 hp1 parts => ?_⟩
    refine ⟨_, rfl, m, _, rfl, g H1 kTb _ s1 (pkv_T L lt le), _, _, rfl, ?_⟩
    refine ⟨_, rfl, _, rfl, m, _, rfl, g H1 kL _ s1 (pkv_L L lt le), lt, L, tb, n, rfl, ⟨ts, s1 _ _ h2, h3.to fun a _ r e => s1 _ _ e⟩, hL, okt, one, by omega, fun D kvs H2 nD s2 hD keys _ => ?_⟩
    refine ⟨D, _, rfl, hD, trivial, fun od => ⟨D, od, rfl, .inl ⟨kvs, upd_same, ?_⟩⟩⟩
    have nDH : H D = none := s1.free nD
    have sG : Same H (upd H2 D (.frz od (.dK kvs))) := same_at (s1.trans s2) nDH
    have atG : (upd H2 D (.frz od (.dK kvs))) D = some (.frz od (.dK kvs)) := upd_same
    have hpG : (upd H2 D (.frz od (.dK kvs))) p = some (.lst (t.map V.int)) := by
      rw [upd_ne (ne_of_none hp1 nD)]
      exact s2 _ _ hp1
    generalize upd H2 D (.frz od (.dK kvs)) = G at sG atG hpG ⊢
    obtain ⟨wy, ewy⟩ : ∃ wy, wy = wyA tb 0 tb.length := ⟨_, rfl⟩
    rw [← ewy] at keys
    have kl := keys.len
    have inn : ∀ s ∈ wy, 0 ≤ s ∧ s < n := fun s hs => way_in okt one s (ewy ▸ hs)
    have atT : ∀ {z : Int}, 0 ≤ z ∧ z < n → atI (t.map V.int) z = some (.int (gi t z)) := fun {z} hz => by
      have tl := parts.1
      obtain ⟨hl, e⟩ := gi_at (g := t) (a := z) ⟨hz.1, by omega⟩
      rw [show z = ((z.toNat : Nat) : Int) by omega]
      refine atI_nat ?_
      rw [List.getElem?_map, List.getElem?_eq_getElem hl, show ((z.toNat : Nat) : Int) = z by omega, e] <;> rfl
    have alk : ∀ {y z : Int}, 0 ≤ y ∧ y < n → 0 ≤ z ∧ z < n → (gi t y = gi t z ↔ Alk L tb (· ∈ es) y z) := fun {y z} hy hz => by
      have e := parts.2 y.toNat z.toNat (by omega) (by omega)
      rwa [show ((y.toNat : Nat) : Int) = y by omega, show ((z.toNat : Nat) : Int) = z by omega] at e
    have bd : ∀ {s : Int} {i j : Nat}, s ∈ wy → i < L.length → j < L.length → 0 ≤ rowF tb (rowF tb s i) j ∧ rowF tb (rowF tb s i) j < n := fun {s i j} hs hi hj => rowF_in okt (rowF_in okt (inn s hs) hi) hj
    let Good : Int → Nat → Nat → Prop := fun s i j => gi t (rowF tb (rowF tb s i) j) = gi t (rowF tb (rowF tb s j) i)
    have fin : (∀ s ∈ wy, ∀ i j : Nat, i < L.length → j < i → Good s i j) → Free L tb es := fun h s hs i j hi hj => by
      have hs' : s ∈ wy := ewy ▸ hs
      refine (alk (bd hs' hi hj) (bd hs' hj hi)).mp ?_
      rcases Nat.lt_trichotomy i j with c | c | c
      · exact (h s hs' j i hj c).symm
      · rw [c]
      · exact h s hs' i j hi c
    have bad : ∀ {s : Int} {i j : Nat}, s ∈ wy → i < L.length → j < i → ¬ Good s i j → ¬ Free L tb es := fun {s i j} hs hi hj no fr => no ((alk (bd hs hi (by omega)) (bd hs (by omega) hi)).mpr (fr s (ewy ▸ hs) i j hi (by omega)))
    refine for_it walk_keys (fun a σ H3 => (∃ x3 x4 x5 x6 x7 : Option V, σ = [some (.ref m), some (.ref p), some (.ref lt), x3, x4, x5, x6, x7]) ∧ H3 = G ∧ ∀ s ∈ wy.take a, ∀ i j : Nat, i < L.length → j < i → Good s i j) ⟨⟨_, _, _, _, _, rfl⟩, rfl, fun s hs => by simp at hs⟩ (fun a σ H3 _ h => by rw [h.2.1]; exact atG) ?_ ?_
    · rintro a x σ H3 H4 ha ⟨⟨x3, x4, x5, x6, x7, rfl⟩, rfl, hg⟩ ⟨rfl, k, v, hk, rfl⟩
      have ha2 : a < wy.length := by omega
      obtain rfl : k = Sum.inl wy[a] := by
        have := congrArg (fun l : List Key => l[a]?) (show kvs.map (·.1) = wy.map Sum.inl from keys)
        simp only [List.getElem?_map, hk, List.getElem?_eq_getElem ha2] at this
        exact Option.some.inj this
      have hs := List.getElem_mem ha2
      generalize hsa : wy[a] = sa at hs
      have tk : wy.take (a + 1) = wy.take a ++ [sa] := by rw [List.take_add_one, List.getElem?_eq_getElem ha2, hsa] <;> rfl
      have b0 := inn sa hs
      have few := hL.few
      have h2G := sG _ _ h2
      have h3G : Objs oTup H4 ts tb := h3.to fun a _ r e => sG _ _ e
      refine ⟨_, rfl, m, _, rfl, g H4 kL _ sG (pkv_L L lt le), tx L, rfl, by rw [tx_len, sizeLine_eq]; omega, ((L.length : Nat) : Int), by rw [tx_len], by omega, by omega, ?_⟩
      refine for_it walk_range (fun i σ H3 => (∃ x4 x5 x6 x7 : Option V, σ = [some (.ref m), some (.ref p), some (.ref lt), some (.int sa), x4, x5, x6, x7]) ∧ H3 = H4 ∧ ∀ i' j : Nat, i' < i → j < i' → Good sa i' j) ⟨⟨_, _, _, _, rfl⟩, rfl, fun i' j hi => absurd hi (Nat.not_lt_zero _)⟩ (fun _ _ _ _ _ => trivial) ?_ ?_
      · rintro i x σ H5 H6 hi ⟨⟨x4, x5, x6, x7, rfl⟩, rfl, hgi⟩ ⟨rfl, exi⟩
        obtain rfl : x = .int ((i : Nat) : Int) := exi.trans (congrArg V.int (Int.zero_add _))
        rw [Int.toNat_natCast] at hi
        refine ⟨_, rfl, ((i : Nat) : Int), rfl, by omega, by omega, ?_⟩
        refine for_it walk_range (fun j σ H3 => (∃ x5 x6 x7 : Option V, σ = [some (.ref m), some (.ref p), some (.ref lt), some (.int sa), some (.int ((i : Nat) : Int)), x5, x6, x7]) ∧ H3 = H6 ∧ ∀ j' : Nat, j' < j → Good sa i j') ⟨⟨_, _, _, rfl⟩, rfl, fun j' hj => absurd hj (Nat.not_lt_zero _)⟩ (fun _ _ _ _ _ => trivial) ?_ ?_
        · rintro j x σ H7 H8 hj ⟨⟨x5, x6, x7, rfl⟩, rfl, hgj⟩ ⟨rfl, exj⟩
          obtain rfl : x = .int ((j : Nat) : Int) := exj.trans (congrArg V.int (Int.zero_add _))
          rw [Int.toNat_natCast] at hj
          have hj2 : j < L.length := by omega
          refine twoL_ok h2G h3G okt rfl rfl rfl rfl b0 hi hj2 ?_
          refine twoL_ok h2G h3G okt rfl rfl rfl rfl b0 hj2 hi ?_
          refine ⟨_, rfl, _, rfl, p, _, _, _, rfl, rfl, SqL.of hpG, atT (bd hs hi hj2), _, rfl, _, rfl, p, _, _, _, rfl, rfl, SqL.of hpG, atT (bd hs hj2 hi), rfl, _, rfl, ?_⟩
          refine ite2 (fun hc => ?_) (fun hc => ?_)
          · have no : ¬ Good sa i j := fun e => by
              have e : gi t (rowF tb (rowF tb sa i) j) = gi t (rowF tb (rowF tb sa j) i) := e
              rw [e] at hc
              simp at hc
            exact q false H8 sG ⟨fun z => (by cases z), fun z => absurd z (bad hs hi hj no)⟩
          · have yes : Good sa i j := by
              show gi t (rowF tb (rowF tb sa i) j) = gi t (rowF tb (rowF tb sa j) i)
              simpa using hc
            refine ⟨⟨_, _, _, rfl⟩, rfl, fun j' hj' => ?_⟩
            rcases Nat.lt_succ_iff_lt_or_eq.mp hj' with z | z
            · exact hgj j' z
            · rw [z]
              exact yes
        · rintro σ H7 ⟨⟨x5, x6, x7, rfl⟩, rfl, hgj⟩
          rw [Int.toNat_natCast] at hgj
          refine ⟨⟨_, _, _, _, rfl⟩, rfl, fun i' j hi' hj => ?_⟩
          rcases Nat.lt_succ_iff_lt_or_eq.mp hi' with z | z
          · exact hgi i' j z hj
          · rw [z] at hj ⊢
            exact hgj j hj
      · rintro σ H5 ⟨⟨x4, x5, x6, x7, rfl⟩, rfl, hgi⟩
        rw [Int.toNat_natCast] at hgi
        refine ⟨⟨_, _, _, _, _, rfl⟩, rfl, fun s' hs' i' j hi' hj => ?_⟩
        rw [tk] at hs'
        rcases List.mem_append.mp hs' with z | z
        · exact hg s' z i' j hi' hj
        · rw [List.mem_singleton.mp z]
          exact hgi i' j hi' hj
    · rintro σ H3 ⟨⟨x3, x4, x5, x6, x7, rfl⟩, rfl, hg⟩
      rw [kl, List.take_length] at hg
      exact q true H3 sG ⟨fun _ => fin hg, fun _ => rfl⟩
end
end WK
set_option Elab.async false
set_option linter.all false
set_option maxRecDepth 100000
set_option maxHeartbeats 8000000
namespace WK
open PySem L2 PyProof.Rows K1
open TX (sg sigs)
open PySem.W (Frag kitOne)
theorem lay_len (L : W) (hL : L.length ≤ 3) : ∀ k, (lay L k).length ≤ 3 ^ k
  | 0 => Nat.le_refl _
  | k + 1 => by
    have ih := lay_len L hL k
    have h : ∀ l : List W, (l.flatMap fun u => L.map fun c => u ++ [c]).length ≤ l.length * 3 := by
      intro l
      induction l with
      | nil => exact Nat.le_refl _
      | cons u l ih =>
        rw [List.flatMap_cons, List.length_append, List.length_cons, List.length_map]
        omega
    have h1 := h (lay L k)
    exact Nat.le_trans h1 (by rw [Nat.pow_succ]; omega)
theorem lay_243 (L : W) (hL : L.length ≤ 3) {k : Nat} (hk : k ≤ 5) : (lay L k).length ≤ 243 := by
  have h1 := lay_len L hL k
  have h2 : (3 : Nat) ^ k ≤ 3 ^ 5 := Nat.pow_le_pow_right (by decide) hk
  have h3 : (3 : Nat) ^ 5 = 243 := by decide
  omega
theorem allW_len (L : W) (hL : L.length ≤ 3) : ∀ k, k ≤ 5 → (allW L k).length ≤ (k + 1) * 243
  | 0, _ => by show 1 ≤ 243; decide
  | k + 1, h => by
    have ih := allW_len L hL k (by omega)
    have h1 := lay_243 L hL h
    show (allW L k ++ lay L (k + 1)).length ≤ _
    rw [List.length_append]
    omega
abbrev sLAll : Stmt := top 65
def spLAll : Sp := fun vs H Q _ => ∃ (L : W) (m : Nat), vs = [.str (tx L), .int (m : Int)] ∧ L.length ≤ 3 ∧ m ≤ 5 ∧ ∀ t H', H t = none → Same H H' → H' t = some (.lst ((allW L m).map fun u => V.str (tx u))) → Q (.ref t) H'
abbrev txV : W → V := fun u => V.str (tx u)
section
variable {P : Program} {w : World} {K : PySem.W.Frag} {mg : Str → Option Value} {base : Heap}
abbrev NA : List Str := ["_law_letters_here", "_law_most", "_law_found", "_law_layer", "_law_size", "_law_longer", "_law_word", "_law_letter"]
theorem scLA : FnScope NA ["_law_letters_here", "_law_most"] (defScope sLAll) := ⟨rfl, rfl, rfl, by decide +kernel, rfl, by decide +kernel, by decide +kernel⟩
theorem ok_lall {f : Addr} {fd : FuncData} (F : Fun K "_law_all_words" "_law_all_words" sLAll f fd) (T : TN mg) : FnOk P w K mg base CX0 1 f fd ["_law_letters_here", "_law_most"] spLAll := by
  refine F.ok scLA (fun vs H Q E h => ?_) (fun cdv A outer s H vs Q E hr h => ?_)
  · obtain ⟨u, n, rfl, _⟩ := h
    rfl
  · obtain ⟨L, m, rfl, hL, hm, q⟩ := h
    refine ⟨_, pss_cons (ps_par (i := 2) (j := 3) (by rfl) scLA.nd rfl rfl (by decide) rfl rfl (pa_cons (pe_lst (pa_cons pe_str pa_nil)) (pa_cons (pe_lst (pa_cons pe_str pa_nil)) pa_nil)) (by rfl))
      (pss_cons (ps_for PassesOwn.never rfl (pi_range1 rfl T.rng (pa_cons (pv 1) pa_nil)) (pg_name (i := 4) scLA.nd rfl (Or.inl rfl))
        (pss_cons (ps_set (i := 5) scLA.nd rfl (Or.inl rfl) (pe_lst pa_nil))
        (pss_cons (ps_for PassesOwn.never rfl (pi_list (pe_callTy call_list_of (by rfl) T.list (by decide +kernel) (pa_cons (pv 3) pa_nil))) (pg_name (i := 6) scLA.nd rfl (Or.inr rfl))
          (pss_one (ps_expr (pe_bm PySem.F.plainAttrs_list PySem.F.slot_list_extend PySem.F.type_list_extend mt_extend (pv 5) (pa_cons (pe_lc (own := [("_law_letter", 7)]) (g := gName 7) (tt := tYes) rfl scLA.nd (pi_str (pv 0))
            (blkOk_by (own := [("_law_letter", 7)]) (N := NA) (sc := defScope sLAll) (by decide +kernel)) (fun _ _ _ _ _ => pg_name (i := 7) scLA.nd rfl (Or.inl rfl)) (fun _ _ _ _ _ => pts_nil)
            (fun _ _ _ _ _ => pe_op op_add_str (pv 6) (pv 7))) pa_nil)))))
        (pss_cons (ps_set (i := 3) scLA.nd rfl (Or.inl rfl) (pv 5))
        (pss_one (ps_set (i := 2) scLA.nd rfl (Or.inl rfl) (pe_op op_cat (pv 2) (pv 3))))))))
      (pss_one (ps_ret (pv 2)))), ?_⟩
    refine ⟨(by show 1 ≤ sizeLine; decide), fun fo hfo => ⟨(by show 1 ≤ sizeLine; decide), fun la hla => ⟨_, _, rfl, ?_⟩⟩⟩
    refine ⟨_, rfl, (m : Int), rfl, by omega, by omega, ?_⟩
    refine for_range (lo := 0) (n := m) (fun k σ H1 => ∃ fo la a4 a5 a6, σ = [some (.str (tx L)), some (.int m), some (.ref fo), some (.ref la), a4, a5, a6, none] ∧ H fo = none ∧ Same H H1 ∧ H1 fo = some (.lst ((allW L k).map txV)) ∧ H1 la = some (.lst ((lay L k).map txV))) ?_ ?_ ?_
    · exact ⟨fo, la, none, none, none, rfl, hfo, same_two (same_upd hfo) hla, same_upd hla _ _ upd_same, upd_same⟩
    · rintro k σ H1 hk ⟨fo, la, a4, a5, a6, rfl, hfo, s1, hfo1, hla1⟩
      refine ⟨(by show 0 ≤ sizeLine; decide), fun lo hlo => ?_⟩
      refine ⟨_, rfl, la, _, rfl, .inl (SqL.of (same_upd hlo _ _ hla1)), fun cl hcl => ?_⟩
      refine ⟨cl, rfl, ⟨_, SqL.of upd_same⟩, ?_⟩
      have g1 : Same H1 (upd (upd H1 lo (.lst [])) cl (.lst ((lay L k).map txV))) := same_two (same_upd hlo) hcl
      have g2 : (upd (upd H1 lo (.lst [])) cl (.lst ((lay L k).map txV))) cl = some (.lst ((lay L k).map txV)) := upd_same
      have g3 : (upd (upd H1 lo (.lst [])) cl (.lst ((lay L k).map txV))) lo = some (.lst []) := same_upd hcl _ _ upd_same
      generalize upd (upd H1 lo (.lst [])) cl (.lst ((lay L k).map txV)) = G at g1 g2 g3 ⊢
      have cllo : cl ≠ lo := fun z => by rw [z, upd_same] at hcl; cases hcl
      have lk := lay_243 L hL (show k ≤ 5 by omega)
      have lk1 := lay_243 L hL (show k + 1 ≤ 5 by omega)
      have ak := allW_len L hL k (by omega)
      refine for_it walk_list (fun i σ H2 => ∃ a4 a6, σ = [some (.str (tx L)), some (.int m), some (.ref fo), some (.ref la), a4, some (.ref lo), a6, none] ∧ Same H1 H2 ∧ H2 cl = some (.lst ((lay L k).map txV)) ∧ H2 lo = some (.lst ((((lay L k).take i).flatMap fun u => L.map fun c => u ++ [c]).map txV)))
        ⟨_, a6, rfl, g1, g2, by rw [g3] <;> rfl⟩ (fun i σ H2 _ ⟨_, _, _, _, h, _⟩ => SqL.of h) ?_ ?_
      · rintro i x σ H2 H3 hi ⟨a4, a6, rfl, s2, hcl2, hlo2⟩ ⟨rfl, hx⟩
        rw [List.getElem?_map] at hx
        cases hc : (lay L k)[i]? with
        | none => rw [hc] at hx; cases hx
        | some u =>
          rw [hc] at hx
          obtain rfl : txV u = x := Option.some.inj hx
          have hul : u.length = k := ((mem_lay L k u).mp (List.mem_of_getElem? hc)).1
          refine ⟨_, rfl, .inl ⟨rfl, _, SqL.of hlo2⟩, _, rfl, tx L, rfl, fun D hD => ?_⟩
          refine lc_it walk_str (fun j H5 => Same H3 H5 ∧ H5 D = some (.lst (((L.take j).map fun c => u ++ [c]).map txV))) ⟨same_upd hD, upd_same⟩ (fun _ _ _ _ => trivial) ?_ ?_
          · rintro j y H5 H6 hj ⟨s5, hd5⟩ ⟨rfl, d, hy, rfl⟩
            have hy' : L[j]? = some d := by
              rw [← Array.getElem?_toList, tx_list] at hy
              exact hy
            refine ⟨rfl, _, rfl, _, rfl, _, _, rfl, rfl, ?_, _, hd5, ?_, same_at s5 hD, ?_⟩
            · rw [tx_len, sizeLine_eq, hul]
              show k + 1 ≤ _
              omega
            · rw [List.length_map, List.length_map, List.length_take, sizeLine_eq]
              omega
            · rw [upd_same, List.take_add_one, hy', List.map_append, List.map_append]
              show _ = some (HO.lst (_ ++ [V.str (tx (u ++ [d]))]))
              rw [← tx_app] <;> rfl
          · rintro H5 ⟨s5, hd5⟩
            rw [size_tx, List.take_length] at hd5
            refine ⟨lo, D, _, _, rfl, rfl, s5 _ _ hlo2, hd5, ?_, a4, some (txV u), rfl, ?_, ?_, ?_⟩
            · have h1 : (((lay L k).take i).flatMap fun u => L.map fun c => u ++ [c]).length ≤ ((lay L k).take i).length * 3 := by
                generalize (lay L k).take i = l
                induction l with
                | nil => exact Nat.le_refl _
                | cons u l ih =>
                  rw [List.flatMap_cons, List.length_append, List.length_cons, List.length_map]
                  omega
              rw [List.length_take] at h1
              rw [List.length_map, List.length_map, List.length_map, sizeLine_eq]
              omega
            · exact same_at (s2.trans s5) hlo
            · rw [upd_ne cllo]
              exact s5 _ _ hcl2
            · rw [upd_same, List.take_add_one, hc, List.flatMap_append, List.map_append]
              show _ = some (HO.lst (_ ++ List.map txV (List.flatMap _ [u])))
              rw [List.flatMap_cons, List.flatMap_nil, List.append_nil] <;> rfl
      · rintro σ H2 ⟨a4, a6, rfl, s2, hcl2, hlo2⟩
        rw [List.length_map, List.take_length] at hlo2
        have hlo3 : H2 lo = some (.lst ((lay L (k + 1)).map txV)) := hlo2
        refine ⟨_, rfl, _, rfl, _, rfl, fo, lo, _, _, rfl, rfl, s2 _ _ hfo1, hlo3, ?_, fun nf hnf => ?_⟩
        · rw [List.length_map, List.length_map, sizeLine_eq]
          omega
        · refine ⟨nf, lo, a4, some (.ref lo), a6, rfl, (s1.trans s2).free hnf, same_two (s1.trans s2) hnf, ?_, same_upd hnf _ _ hlo3⟩
          rw [upd_same, ← List.map_append] <;> rfl
    · rintro σ H1 ⟨fo, la, a4, a5, a6, rfl, hfo, s1, hfo1, hla1⟩
      exact ⟨_, rfl, q fo H1 hfo s1 hfo1⟩
end
end WK
set_option Elab.async false
set_option linter.all false
set_option maxRecDepth 100000
set_option maxHeartbeats 4000000
set_option Elab.async false
set_option linter.all false
set_option maxRecDepth 100000
set_option maxHeartbeats 4000000
namespace TX
open PySem PySem.Spec PyProof.Rows L2
theorem signs_are {x : Str} : ∀ (vs : List Value) (i : Nat), (∀ j v, vs[j]? = some v → ∃ c t, x.cps.toList[i + j]? = some c ∧ v = .str ⟨#[c]⟩ t) → i + vs.length = x.cps.toList.length → StrsAre vs ((x.cps.toList.drop i).map sg)
  | [], i, _, hl => by
    rw [List.drop_eq_nil_of_le (by have : i + 0 = _ := hl; omega)]
    exact .nil
  | v :: vs, i, h, hl => by
    obtain ⟨c, t, hc, rfl⟩ := h 0 v rfl
    obtain ⟨hi, e⟩ := List.getElem?_eq_some_iff.mp hc
    rw [List.drop_eq_getElem_cons (show i < x.cps.toList.length from hi), List.map_cons, show x.cps.toList[i] = c from e]
    exact .cons _ t (signs_are vs (i + 1) (fun j v hj => by
      obtain ⟨c2, t2, a, b⟩ := h (j + 1) v hj
      exact ⟨c2, t2, by rw [show i + 1 + j = i + (j + 1) by omega]; exact a, b⟩) (by rw [← hl, List.length_cons]; omega))
section
variable {P : Program} {w : World} {A : Around} {E : Value → Shared → Prop} {s : Shared}
theorem sorted_text {x : Str} {t : Tok} {Q : Value → Shared → Prop} (calm : A.handled = none) (h64 : x.cps.size < 64)
    (hQ : ∀ r p (out : Array Value) (c : Nat) (ss : List Str), (∀ b q, s.heap.get? b = some q → r.heap.get? b = some q) → r.gens = s.gens → r.os = s.os → s.heap.get? p = none →
      r.heap.get? p = some (seqObj "list" out c) → StrsAre out.toList ss → sortedS ss = true → ss.Perm (x.cps.toList.map sg) → Q (.ref p) r) : wpAny (model P w) A (call (.builtin "sorted") [.str x t]) Q E s := by
  refine Calls.call_function_entry kind_sorted plain_sorted entry_sorted (args_sorted1 _) (wpAny_bind (m := checkCount "sorted" 1 1 _) (wpAny_pure (wpAny_bind ?_)))
  refine wpAny_collect_str (A := A.in1) calm x t (fun r acc keep gens drawn os items => ?_) (by rw [sizeLine_eq]; omega)
  obtain ⟨many, each⟩ := items
  have grows : s.heap.get? r.heap.objs.size = none := by
    cases e : s.heap.get? r.heap.objs.size with
    | none => rfl
    | some o => exact absurd (Heap.lt_size (keep _ _ e)) (Nat.lt_irrefl _)
  have texts : StrsAre acc.toList (x.cps.toList.map sg) := by
    have := signs_are (x := x) acc.toList 0 (fun j v hj => by
      rw [Array.getElem?_toList] at hj
      obtain ⟨c, tk, a, b⟩ := each j v hj
      exact ⟨c, tk, by rw [Nat.zero_add, Array.getElem?_toList]; exact a, b⟩) (by rw [Array.length_toList, Array.length_toList, Nat.zero_add]; exact many)
    rw [List.drop_zero] at this
    exact this
  refine wpAny_bind (wpAny_newList (wpAny_bind ?_) (by rw [sizeLine_eq, Array.length_toList]; omega))
  have listAt : (r.heap.push (seqObj "list" acc.toList.toArray 0)).get? r.heap.objs.size = some (seqObj "list" acc.toList.toArray 0) := Heap.get?_push_size _ rfl
  refine wpAny_holding (wpAny_call_entry slot_list_sort ⟨_, listAt, rfl⟩ entry_list_sort (list_sort_treeK (κ := PyProof.Rows.strKind) strKind_oneLt listAt texts.keysOf (fun v₁ v₂ rest e => keyKind_strs (e ▸ texts)) (by rw [Array.length_toList]; omega) fun st done isSorted => ⟨_, rfl, wpAny_pure ⟨_, rfl, ?_⟩⟩) (args_list_sort _))
  obtain ⟨ss, are, perm3, up⟩ := sorted_out_str texts done isSorted
  obtain ⟨c, outAt⟩ := sortedHeap_at (vs := acc.toList) (out := (arrOf st).map (·.2)) listAt
  refine hQ _ r.heap.objs.size _ c ss (fun b q z => ?_) gens os grows outAt are up perm3
  have lt := Heap.lt_size (keep b q z)
  exact (sortedHeap_old (Nat.ne_of_lt lt) (by rw [size_push']; exact Nat.lt_succ_of_lt lt)).trans (Heap.get?_push_of_some _ (keep b q z))
end
/-- what is told of stands there -/
theorem obj_there {P : Program} {w : World} {H : Hp} {h : Heap} {a : Addr} {o : HO} (x : ObjOk P w H h a o) : ∃ q, h.get? a = some q := by
  cases o with
  | lst xs => exact let ⟨_, _, _, _, e⟩ := x; ⟨_, e⟩
  | tup xs => exact let ⟨_, _, _, o, e, _⟩ := x; ⟨o, e⟩
  | dK kvs => exact let ⟨_, _, _, _, o, _, _, e, _⟩ := x; ⟨o, e⟩
  | dT kvs => exact let ⟨_, _, _, _, o, _, _, e, _⟩ := x; ⟨o, e⟩
  | set S n => exact let ⟨o, _, _, _, e, _⟩ := x; ⟨o, e⟩
  | ins C dx fs => exact let ⟨_, _, _, e, _⟩ := x; ⟨_, e⟩
  | own y => exact x
  | xd fs => exact let ⟨_, ⟨o, _, _, e, _⟩, _⟩ := x; ⟨o, e⟩
  | rng lo hi => exact let ⟨_, _, _, e⟩ := x; ⟨_, e⟩
  | frz ob u => exact let ⟨e, _⟩ := x; ⟨_, e⟩
  | tbl ps => exact ⟨_, x⟩
  | met f y => exact ⟨_, x⟩
  | ext φ => exact x.2.1
section
variable {X : Cx}
/-- sorted(text) -/
def rSortTx : List V → Hp → VK → Prop := fun vs H Q => ∃ x : Str, vs = [V.str x] ∧ x.cps.size < 64 ∧ ∀ (p : Addr) (ss : List Str), H p = none → ss.Perm (x.cps.toList.map sg) → Q (.ref p) (upd H p (.lst (ss.map V.str)))
theorem cr_sortTx (hc : X.calm = true) : CallR X (.builtin "sorted") rSortTx := by
  rintro pins s σ H _ us Q I r ⟨x, rfl, hx, q⟩
  obtain ⟨u, rfl, t, rfl⟩ := r.one
  refine sorted_text (I.ok.hd hc) hx fun s' p out c ss k g o hp hg hS _ perm => ?_
  have few : ss.length ≤ sizeLine := by
    rw [perm.length_eq, List.length_map, Array.length_toList, sizeLine_eq]
    omega
  have free : H p = none := by
    cases e : H p with
    | none => rfl
    | some ob =>
      obtain ⟨oo, ho⟩ := obj_there (I.hok p _ e)
      rw [hp] at ho
      cases ho
  have J : Inv X pins σ (upd H p (.lst (ss.map V.str))) { s with heap := s'.heap, gens := s'.gens, drawn := s'.drawn, toks := s'.toks } :=
    I.call (ch := []) (Un.laidN k hp free) (I.hok.laidN k free ⟨by rw [List.length_map]; exact few, _, c, vals_strs hS, hg⟩) (g ▸ I.bare) nofun
  have same : { s with heap := s'.heap, gens := s'.gens, drawn := s'.drawn, toks := s'.toks } = s' := by
    rcases s with ⟨⟩; rcases s' with ⟨⟩; cases o; rfl
  exact same ▸ ⟨.ref p, _, J, rfl, q p ss free perm⟩
end
end TX
set_option Elab.async false
set_option linter.all false
set_option maxRecDepth 100000
set_option maxHeartbeats 8000000
namespace WK
open PySem L2 PyProof.Rows LCX K1
open TX (sg sigs)
open PySem.W (Frag kitOne)
abbrev sLLed : Stmt := top 62
abbrev sLHas : Stmt := top 63
theorem index_tx {L : W} {c : Nat} (hnd : L.Nodup) (hc : c ∈ L) : Txt.index0 (tx L) (sg c) = some (L.idxOf c) := by
  unfold Txt.index0
  rcases StrLaws.occ_head_from (tx L) ⟨#[c]⟩ 0 1 (Nat.le_refl 1) with ⟨h0, hn⟩ | ⟨k, r, h0, hlo, hk, hn⟩
  · obtain ⟨j, hj⟩ := List.getElem?_of_mem hc
    refine absurd ((StrLaws.subAt_one (tx L) c j).mpr ?_) (hn j (Nat.zero_le _))
    rw [tx_list]
    exact hj
  · rw [show sg c = ⟨#[c]⟩ from rfl, h0]
    have e := (StrLaws.subAt_one (tx L) c k).mp hk
    rw [tx_list] at e
    rw [idx_of hnd e] <;> rfl
def spLLed : Sp := fun vs H Q _ => ∃ (l : Addr) (L u : W) (tb : List (List Int)) (n st : Int), vs = [.ref l, .str (tx L), .str (tx u), .int st] ∧ PTab H l tb ∧ Let L ∧ TabOk tb L.length n ∧ 0 ≤ st ∧ st < n ∧ (∀ c ∈ u, c ∈ L) ∧ Q (.int (ledL L tb u st)) H
abbrev NLl : List Str := ["_law_table_here", "_law_letters_here", "_law_word", "_law_start", "_law_place", "_law_letter"]
section
variable {P : Program} {w : World} {K : PySem.W.Frag} {mg : Str → Option Value} {base : Heap} {fL : Addr} {dL : FuncData}
theorem scLl : FnScope NLl ["_law_table_here", "_law_letters_here", "_law_word", "_law_start"] (defScope sLLed) := ⟨rfl, rfl, rfl, by decide +kernel, rfl, by decide +kernel, by decide +kernel⟩
theorem ok_lled {f : Addr} {fd : FuncData} (F : Fun K "_law_led" "_law_led" sLLed f fd) : FnOk P w K mg base CX0 1 f fd ["_law_table_here", "_law_letters_here", "_law_word", "_law_start"] spLLed := by
  refine F.ok scLl (fun vs H Q E h => ?_) (fun cdv A outer s H vs Q E hr h => ?_)
  · obtain ⟨l, L, u, tb, n, st, rfl, _⟩ := h
    rfl
  · obtain ⟨l, L, u, tb, n, st, rfl, hT, hL, ok, s0, s1, hc, q⟩ := h
    refine ⟨_, pss_cons (ps_set (i := 4) scLl.nd rfl (Or.inl rfl) (pv 3))
      (pss_cons (ps_for PassesOwn.never rfl (pi_str (pv 2)) (pg_name (i := 5) scLl.nd rfl (Or.inl rfl))
        (pss_one (ps_set (i := 4) scLl.nd rfl (Or.inl rfl) (pe_ix ix_tup (pe_ix ix_list (pv 0) (pv 4) (fun _ _ => rfl)) (pe_bmS PySem.F.plainAttrs_str PySem.F.slot_str_index PySem.F.type_str_index (mt_indexX rfl takes0) (pv 1) (pa_cons (pv 5) pa_nil)) (fun _ _ => rfl)))))
      (pss_one (ps_ret (pv 4)))), ?_⟩
    have hnd := nodup_of hL
    refine ⟨_, rfl, _, rfl, tx u, rfl, ?_⟩
    refine for_it walk_str (fun i σ H1 => H1 = H ∧ ∃ x : Option V, σ = [some (.ref l), some (.str (tx L)), some (.str (tx u)), some (.int st), some (.int (ledL L tb (u.take i) st)), x]) ⟨rfl, none, rfl⟩ (fun _ _ _ _ _ => trivial) ?_ ?_
    · rintro i x σ H1 H2 hi ⟨rfl, x0, rfl⟩ ⟨rfl, c, hx, rfl⟩
      have hx' : u[i]? = some c := by
        rw [← Array.getElem?_toList, tx_list] at hx
        exact hx
      have hcL : c ∈ L := hc c (List.mem_of_getElem? hx')
      have hin := ledL_in ok (u := u.take i) (st := st) ⟨s0, s1⟩ fun d hd => hc d (List.mem_of_mem_take hd)
      obtain ⟨as, h1, h2⟩ := hT
      have hrl : (ledL L tb (u.take i) st).toNat < tb.length := by have := ok.len; omega
      obtain ⟨a, e1, e2⟩ := h2.get hrl
      have at1 : atI (as.map V.ref) (ledL L tb (u.take i) st) = some (.ref a) := by
        have e3 : ledL L tb (u.take i) st = (((ledL L tb (u.take i) st).toNat : Nat) : Int) := by omega
        rw [e3]
        exact atI_nat (by rw [List.getElem?_map, e1] <;> rfl)
      have e4 : tb.getD (ledL L tb (u.take i) st).toNat [] = tb[(ledL L tb (u.take i) st).toNat] := by rw [List.getD_eq_getElem?_getD, List.getElem?_eq_getElem hrl] <;> rfl
      have hil : L.idxOf c < (tb.getD (ledL L tb (u.take i) st).toNat []).length := by rw [e4, (ok.row _ (List.getElem_mem hrl)).1]; exact List.idxOf_lt_length_of_mem hcL
      have at2 : atI ((tb.getD (ledL L tb (u.take i) st).toNat []).map V.int) ((L.idxOf c : Nat) : Int) = some (.int (stepL L tb (ledL L tb (u.take i) st) c)) := by
        refine atI_nat ?_
        unfold stepL
        rw [List.getElem?_map, List.getD_eq_getElem?_getD (l := tb.getD _ _), List.getElem?_eq_getElem hil] <;> rfl
      refine ⟨_, rfl, _, rfl, l, _, _, _, rfl, rfl, SqL.of h1, at1, _, rfl, rfl, _, rfl, tx L, sg c, rfl, rfl, fun k hk => ?_, fun hk => ?_⟩
      · rw [index_tx hnd hcL] at hk
        obtain rfl := Option.some.inj hk
        refine ⟨a, _, _, _, rfl, rfl, SqT.of e2, at2, rfl, some (.str (sg c)), ?_⟩
        rw [List.take_add_one, hx']
        show _ = [_, _, _, _, some (V.int (ledL L tb (u.take i ++ [c]) st)), _]
        rw [ledL_snoc] <;> rfl
      · rw [index_tx hnd hcL] at hk
        cases hk
    · rintro σ H1 ⟨rfl, x0, rfl⟩
      rw [size_tx, List.take_length]
      exact ⟨_, rfl, q⟩
/-- whether a word is one of a plain machine -/
def spLHas : Sp := fun vs H Q _ => ∃ (m : Addr) (L u : W) (tb : List (List Int)) (es : List Int) (n : Int), vs = [.ref m, .str (tx u)] ∧ PlainM H m L tb es ∧ MacOk L tb es n ∧ Let L ∧ (∀ c ∈ u, c ∈ L) ∧ Q (.bl (decide (ledL L tb u 0 ∈ es))) H
theorem scLh : FnScope ["_law_plain", "_law_word"] ["_law_plain", "_law_word"] (defScope sLHas) := ⟨rfl, rfl, rfl, by decide +kernel, rfl, by decide +kernel, by decide +kernel⟩
theorem ok_lhas {f : Addr} {fd : FuncData} (F : Fun K "_law_has" "_law_has" sLHas f fd) (AL : Fn K mg "_law_led" sLLed ["_law_table_here", "_law_letters_here", "_law_word", "_law_start"] fL dL) : FnOk P w K mg base CX0 2 f fd ["_law_plain", "_law_word"] spLHas := by
  have GL : FnOk P w K mg base CX0 1 fL dL ["_law_table_here", "_law_letters_here", "_law_word", "_law_start"] spLLed := ok_lled AL.F
  refine F.ok scLh (fun vs H Q E h => ?_) (fun cdv A outer s H vs Q E hr h => ?_)
  · obtain ⟨m, L, u, tb, es, n, rfl, _⟩ := h
    rfl
  · obtain ⟨m, L, u, tb, es, n, rfl, hp, ok, hL, hc, q⟩ := h
    have hub := hu_of hr
    refine ⟨_, pss_one (ps_ret (pe_cmpR op_in_seq (pe_call GL hr rfl AL.g AL.F.kp AL.b .nil pass0 (pa_cons (pe_dget hub (pv 0) pe_str (fun _ _ => rfl)) (pa_cons (pe_dget hub (pv 0) pe_str (fun _ _ => rfl)) (pa_cons (pv 1) (pa_cons pe_int pa_nil))))) (pe_dget hub (pv 0) pe_str (fun _ _ => rfl)) (by rfl))), ?_⟩
    obtain ⟨lt, le, h1, h2, h3⟩ := hp.ex
    have g : ∀ (kk : Key) (v : V), valV (pkv L lt le) kk = some v → DGet H m (kV kk) (some v) := fun kk v e => e ▸ DGet.k h1
    refine ⟨_, rfl, m, _, rfl, g kTb _ (pkv_T L lt le), _, rfl, m, _, rfl, g kL _ (pkv_L L lt le), _, rfl, lt, L, u, tb, n, 0, rfl, h2, hL, ok.tab, Int.le_refl _, by have := ok.one; omega, hc, ?_⟩
    refine ⟨_, rfl, m, _, rfl, g kE _ (pkv_E L lt le), le, _, rfl, .inl (SqL.of h3), rfl, flat_ints es, ?_⟩
    rw [inV_int]
    exact q
end
end WK
set_option Elab.async false
set_option linter.all false
set_option maxRecDepth 100000
set_option maxHeartbeats 8000000
namespace WK
open PySem L2 PyProof.Rows LCX K1 FV DP DL RM
open TX (sg sigs)
open PySem.W (Frag kitOne)
abbrev sAgree : Stmt := top 70
abbrev NAg : List Str := ["_law_plain", "_law_most", "_law_told", "_law_word", "_law_key"]
def spAgree : Sp := fun vs H Q _ => ∃ (m : Addr) (L : W) (tb : List (List Int)) (es : List Int) (n : Int) (k : Nat), vs = [.ref m, .int ((k : Nat) : Int)] ∧ PlainM H m L tb es ∧ MacOk L tb es n ∧ Let L ∧ k ≤ 5 ∧ Free L tb es ∧ ∀ H', Same H H' → Q (.bl true) H'
/-- each entry is of a word with these letters -/
def AgOk (L : W) (tb : List (List Int)) (es : List Int) (kvs : List (Key × V)) : Prop := ∀ (k : Key) (v : V), valV kvs k = some v → ∃ u y : W, k = Sum.inr (tx y) ∧ y.Perm u ∧ (∀ c ∈ u, c ∈ L) ∧ v = .bl (decide (ledL L tb u 0 ∈ es))
section
variable {P : Program} {w : World} {K : PySem.W.Frag} {mg : Str → Option Value} {base : Heap} {fA fH : Addr} {dA dH : FuncData}
theorem scAg : FnScope NAg ["_law_plain", "_law_most"] (defScope sAgree) := ⟨rfl, rfl, rfl, by decide +kernel, rfl, by decide +kernel, by decide +kernel⟩
theorem ok_agree {f : Addr} {fd : FuncData} (F : Fun K "_law_agree" "_law_agree" sAgree f fd) (T : TN mg) (AA : Fn K mg "_law_all_words" sLAll ["_law_letters_here", "_law_most"] fA dA) (GA : FnOk P w K mg base CX0 1 fA dA ["_law_letters_here", "_law_most"] spLAll)
    (AH : Fn K mg "_law_has" sLHas ["_law_plain", "_law_word"] fH dH) (GH : FnOk P w K mg base CX0 2 fH dH ["_law_plain", "_law_word"] spLHas) : FnOk P w K mg base CX0 3 f fd ["_law_plain", "_law_most"] spAgree := by
  refine F.ok scAg (fun vs H Q E h => ?_) (fun cdv A outer s H vs Q E hr h => ?_)
  · obtain ⟨m, _, _, _, _, _, rfl, _⟩ := h
    rfl
  · obtain ⟨m, L, tb, es, n, k, rfl, hp, ok, hL, hk, fr, q⟩ := h
    have hub := hu_of hr
    have hr1 : Room 1 _ := hr.mono (by decide)
    refine ⟨_, pss_cons (ps_set (i := 2) scAg.nd rfl (Or.inl rfl) pe_dnewK)
      (pss_cons (ps_for PassesOwn.never rfl (pi_list (pe_call (E := E0) GA hr1 rfl AA.g AA.F.kp AA.b .nil pass0 (pa_cons (pe_dget hub (pv 0) pe_str (fun _ _ => rfl)) (pa_cons (pv 1) pa_nil)))) (pg_name (i := 3) scAg.nd rfl (Or.inl rfl))
        (pss_cons (ps_set (i := 4) scAg.nd rfl (Or.inl rfl) (pe_join pe_str (pe_callB (TX.cr_sortTx rfl) (by rfl) T.sorted (by decide +kernel) (pa_cons (pv 3) pa_nil))))
        (pss_cons (ps_if (pt_cmpR op_ne (pe_dget2 hub (pv 2) (pv 4) (pe_call (E := E0) GH hr rfl AH.g AH.F.kp AH.b .nil pass0 (pa_cons (pv 0) (pa_cons (pv 3) pa_nil))) ⟨rfl, rfl, rfl, rfl⟩) (pe_call (E := E0) GH hr rfl AH.g AH.F.kp AH.b .nil pass0 (pa_cons (pv 0) (pa_cons (pv 3) pa_nil))) (nomark _)) (pss_one (ps_ret pe_bl)) pss_nil)
        (pss_one (ps_dput hub (pv 2) (pv 4) (pe_call (E := E0) GH hr rfl AH.g AH.F.kp AH.b .nil pass0 (pa_cons (pv 0) (pa_cons (pv 3) pa_nil))) rfl)))))
      (pss_one (ps_ret pe_bl))), ?_⟩
    obtain ⟨lt, le, h1, ⟨ts, h2, h3⟩, h5⟩ := hp.ex
    have okt := ok.tab
    have one := ok.one
    have few := hL.few
    refine fun D nD => ?_
    have sD := same_upd (o := .dK []) nD
    have hD0 : (upd H D (.dK [])) D = some (.dK []) := upd_same
    generalize upd H D (.dK []) = H1 at sD hD0 ⊢
    have g : ∀ (H' : Hp) (kk : Key) (v : V), Same H H' → valV (pkv L lt le) kk = some v → DGet H' m (kV kk) (some v) := fun H' kk v s e => e ▸ DGet.k (s _ _ h1)
    have plain : ∀ {H' : Hp}, Same H H' → PlainM H' m L tb es := fun {H'} s => ⟨lt, le, s _ _ h1, ⟨ts, s _ _ h2, h3.to fun a _ r e => s _ _ e⟩, s _ _ h5⟩
    refine ⟨_, rfl, m, _, rfl, g H1 kL _ sD (pkv_L L lt le), _, rfl, L, k, rfl, few, hk, fun t H2 nt s2 ht => ?_⟩
    refine ⟨t, rfl, ⟨_, SqL.of ht⟩, ?_⟩
    have tD : t ≠ D := fun z => by rw [z, hD0] at nt; cases nt
    have lenA := allW_len L few k hk
    refine for_it walk_list (fun i σ H3 => Same H H3 ∧ H3 t = some (.lst ((allW L k).map fun u => V.str (tx u))) ∧ (∃ kvs, H3 D = some (.dK kvs) ∧ AgOk L tb es kvs ∧ kvs.length ≤ i) ∧ ∃ x3 x4 : Option V, σ = [some (.ref m), some (.int ((k : Nat) : Int)), some (.ref D), x3, x4]) ⟨sD.trans s2, ht, ⟨[], s2 _ _ hD0, fun k v e => (by cases e), Nat.le_refl _⟩, _, _, rfl⟩ (fun i σ H3 _ h => SqL.of h.2.1) ?_ ?_
    · rintro i x σ H3 H4 hi ⟨s3, ht3, ⟨kvs, hd3, ag, le3⟩, x3, x4, rfl⟩ ⟨rfl, hx⟩
      rw [List.length_map] at hi
      obtain ⟨u, eu⟩ : ∃ u, (allW L k)[i]? = some u := ⟨_, List.getElem?_eq_getElem hi⟩
      obtain rfl : x = .str (tx u) := by
        rw [List.getElem?_map, eu] at hx
        exact (Option.some.inj hx).symm
      obtain ⟨ul, hu⟩ := (mem_allW L k u).mp (List.mem_of_getElem? eu)
      refine ⟨⟨_, rfl⟩, _, rfl, tx u, rfl, by rw [size_tx]; omega, fun p ss np perm => ?_⟩
      rw [tx_list] at perm
      obtain ⟨y, rfl, py⟩ := perm_lift sg perm u rfl
      have hyu := py.length_eq
      have sP := same_upd (o := .lst ((y.map sg).map V.str)) np
      have s5 := s3.trans sP
      have hd5 := sP _ _ hd3
      have ht5 := sP _ _ ht3
      have hp5 : (upd H4 p (.lst ((y.map sg).map V.str))) p = some (.lst ((y.map sg).map V.str)) := upd_same
      generalize upd H4 p (.lst ((y.map sg).map V.str)) = H5 at s5 hd5 ht5 hp5 ⊢
      refine ⟨tx [], p, y.map sg, rfl, rfl, .inl (SqL.of hp5), ?_, ?_⟩
      · have e : ∀ l : W, ((l.map sg).map fun x => x.length).sum = l.length := fun l => by
          induction l with
          | nil => rfl
          | cons c l ih =>
            rw [List.map_cons, List.map_cons, List.sum_cons, ih, List.length_cons]
            show 1 + l.length = _
            omega
        rw [e]
        show y.length + _ * 0 ≤ _
        omega
      rw [join_sg]
      refine ⟨_, rfl, D, rfl, .inl ⟨kvs, .inl hd5⟩, _, rfl, _, rfl, _, rfl, m, L, u, tb, es, n, rfl, plain s5, ok, hL, hu, _, DGet.k (k := (Sum.inr (tx y) : Key)) hd5, ?_⟩
      have same : (valV kvs (Sum.inr (tx y) : Key)).getD (.bl (decide (ledL L tb u 0 ∈ es))) = .bl (decide (ledL L tb u 0 ∈ es)) := by
        cases e : valV kvs (Sum.inr (tx y) : Key) with
        | none => rfl
        | some v =>
          obtain ⟨u', y', ek, py', hu', rfl⟩ := ag _ _ e
          obtain rfl : y = y' := tx_inj (Sum.inr.inj ek)
          have pu : u.Perm u' := py.symm.trans py'
          have al := free_perm okt one fr pu hu 0 way_start [] fun _ z => absurd z List.not_mem_nil
          show V.bl _ = V.bl _
          rw [decide_eq_decide.mpr (show ledL L tb u' 0 ∈ es ↔ ledL L tb u 0 ∈ es from al.symm)]
      rw [same]
      refine ⟨_, rfl, _, rfl, m, L, u, tb, es, n, rfl, plain s5, ok, hL, hu, rfl, _, rfl, ?_⟩
      rw [decide_eq_true rfl]
      refine iteF ?_
      refine ⟨_, rfl, _, rfl, m, L, u, tb, es, n, rfl, plain s5, ok, hL, hu, _, rfl, _, rfl, D, _, rfl, DPut.k (k := (Sum.inr (tx y) : Key)) hd5 (by rw [sizeLine_eq]; omega), ?_⟩
      refine ⟨same_at s5 nD, by rw [upd_ne tD]; exact ht5, ⟨_, upd_same, fun kk v e => ?_, ?_⟩, _, _, rfl⟩
      · rw [valV_put] at e
        by_cases ek : kk = Sum.inr (tx y)
        · rw [if_pos ek] at e
          exact ⟨u, y, ek, py, hu, (Option.some.inj e).symm⟩
        · rw [if_neg ek] at e
          exact ag kk v e
      · have := length_putK kvs (Sum.inr (tx y) : Key) (.bl (decide (ledL L tb u 0 ∈ es)))
        omega
    · rintro σ H3 ⟨s3, _, _, x3, x4, rfl⟩
      exact q H3 s3
end
end WK
set_option Elab.async false
set_option linter.all false
set_option maxRecDepth 100000
namespace OWN
open PySem PySem.Spec L2 PyProof.Rows
/-- the method is asked with x alone, and an object comes back -/
def rInvO (C : Addr) (sp : Sp) : V → Hp → VK → Prop := fun x H Q =>
  ∃ a dx fs, x = .ref a ∧ H a = some (.ins C dx fs) ∧ sp [x] H (fun z H' => ∃ r : Addr, z = .ref r ∧ Q (.ref r) H') E0
theorem un_invO {X : Cx} {C g : Addr} {n : Nat} {sp : Sp} (found : PySem.W.findIn X.K (.ref C) "__invert__" = some (some (.ref g))) (plain : PySem.W.isFn X.K (.ref g) = true)
    (own : FnR X.prog X.w X.K X.mg X.base CX0 n g sp) (room : Room n X.A) : UnR X (unaryOp .Invert) (rInvO C sp) := by
  rintro pins s σ H x v Q I rv ⟨a, dx, fs, rfl, at_a, ask⟩
  cases (show v = Value.ref a from rv)
  obtain ⟨_, J⟩ := inst_at I at_a
  obtain ⟨m, hF⟩ := I.fr
  have asked := wpAny_call (run_fnR (us := [.ref a]) (vs := [.ref a]) own room pass0 I (.cons rfl .nil) ask)
  refine PySem.W.ksp_inv hF I.ok.mod.kin J found plain (wpAny_mono asked ?_ fun _ _ z => z)
  rintro w s' ⟨z, H', I', rz, r, rfl, qz⟩
  exact ⟨.ref r, H', I', rz, qz⟩
end OWN
set_option Elab.async false
set_option linter.all false
set_option maxRecDepth 100000
set_option maxHeartbeats 8000000
namespace WK
open PySem L2 PyProof.Rows LCX K1
open TX (sg sigs)
open PySem.W (Frag kitOne)
def spLMac9 : Sp := fun vs H Q _ => ∃ (p : Addr) (L : W) (n : Int), vs = [.ref p, .str (tx L), .int n] ∧ DiceAt H p ∧ L ≠ [] ∧ L.length ≤ 26 ∧ 1 ≤ n ∧ n ≤ 50 ∧
  ∀ (m : Addr) (tb : List (List Int)) (es : List Int) (z : Int) (H' : Hp), H m = none → m ≠ p → DiceAt H' p → But p H H' → PlainM H' m L tb es → OffP H' m p L → MacOk L tb es z → z ≤ n → (∀ lt l, H' m = some (.dK (pkv L lt l)) → H lt = none ∧ H l = none) → Q (.ref m) H'
section
variable {P : Program} {w : World} {K : PySem.W.Frag} {mg : Str → Option Value} {base : Heap} {fR fO fA fT : Addr} {dR dO dA dT : FuncData}
theorem ok_lmac9 {f : Addr} {fd : FuncData} (F : Fun K "_law_machine" "_law_machine" sLMac f fd) (T : TN mg) (AR : Fn K mg "_law_roll" sRoll ["_law_dice_here", "_law_total"] fR dR) (AT : Fn K mg "_law_table" sLTab ["_law_dice_here", "_law_letters_here", "_law_size", "_law_sorts"] fT dT)
    (GT : FnOk P w K mg base CX0 3 fT dT ["_law_dice_here", "_law_letters_here", "_law_size", "_law_sorts"] spLTab) : FnOk P w K mg base CX0 4 f fd ["_law_dice_here", "_law_letters_here", "_law_states"] spLMac9 := by
  have GR : FnOk P w K mg base CX0 1 fR dR ["_law_dice_here", "_law_total"] spRoll := ok_roll AR.F T.dice
  refine F.ok scMa (fun vs H Q E h => ?_) (fun cdv A outer s H vs Q E hr h => ?_)
  · obtain ⟨p, L, n, rfl, _⟩ := h
    rfl
  · obtain ⟨p, L, n, rfl, hD, hL, hL2, h1, h50, k⟩ := h
    have hr1 : Room 1 _ := hr.mono (by decide)
    refine ⟨_, pss_cons (ps_set (i := 3) scMa.nd rfl (Or.inl rfl) (pe_op op_add pe_int (pe_call GR hr1 rfl AR.g AR.F.kp AR.b .nil pass0 (pa_cons (pv 0) (pa_cons (pv 2) pa_nil)))))
      (pss_cons (ps_set (i := 4) scMa.nd rfl (Or.inl rfl) (pe_call GT hr rfl AT.g AT.F.kp AT.b .nil pass0 (pa_cons (pv 0) (pa_cons (pv 1) (pa_cons (pv 3) (pa_cons (pe_lst (pa_cons pe_int (pa_cons pe_int (pa_cons pe_int (pa_cons pe_int (pa_cons pe_int (pa_cons pe_int (pa_cons pe_int (pa_cons pe_int pa_nil))))))))) pa_nil))))))
      (pss_cons (ps_setLc (i := 5) (own := [("_law_state", 6)]) (g := gName 6) (tt := tTest (tOp rEq (tCall spRoll [] E0 (tCons (tVar 0) (tCons (tC (.int 2)) tNil))) (tC (.int 0)))) rfl scMa.nd rfl rfl (sw_true rfl rfl rfl (by decide +kernel)) (pi_range1 rfl T.rng (pa_cons (pv 3) pa_nil))
        (blkOk_by (own := [("_law_state", 6)]) (N := NMa) (sc := defScope sLMac) (by decide +kernel)) (fun _ _ _ _ _ => pg_name (i := 6) scMa.nd rfl (Or.inl rfl))
        (fun _ _ _ _ _ => pts_one (pt_cmpR op_eq (pe_call GR hr1 rfl AR.g AR.F.kp AR.b .nil pass0 (pa_cons (pv 0) (pa_cons pe_int pa_nil))) pe_int (nomark _))) (fun _ _ _ _ _ => pv 6))
      (pss_one (ps_ret (pe_disp (pps_cons pe_str (pv 1) (pps_cons pe_str (pv 4) (pps_cons pe_str (pv 5) pps_nil))) (by rfl) (by rfl) (fun z => by cases z) (by decide)))))), ?_⟩
    refine ⟨_, rfl, _, rfl, p, _, rfl, hD, by omega, by omega, fun r H1 r0 r1 hD1 hB1 => ⟨_, _, rfl, rfl, ?_⟩⟩
    refine ⟨_, rfl, _, rfl, _, rfl, by decide, fun q hq => ?_⟩
    refine ⟨p, q, L, 1 + r, [0, 1, 2, 3, 3, 4, 5, 6], rfl, hD1.new hq, hL, hL2, by omega, by omega, hD1.ne hq, upd_same, by decide, by decide, fun lt tb H3 hl lp hD3 hB3 ht tok => ?_⟩
    refine ⟨_, rfl, _, rfl, by omega, by omega, fun D hD4 => ?_⟩
    have Dp := hD3.ne hD4
    refine lc_range (lo := 0) (n := (1 + r).toNat) (fun i H4 => DiceAt H4 p ∧ But p H3 H4 ∧ ∃ es : List Int, es.length ≤ i ∧ H4 D = some (.lst (es.map V.int)) ∧ Asc i es) ⟨hD3.new hD4, but_two (But.refl p H3) hD4, [], Nat.le_refl _, upd_same, fun e he => (nomatch he), List.Pairwise.nil⟩ ?_ ?_
    · rintro i H4 hi ⟨hD4', hB4, es, hl4, hd, ha⟩
      refine ⟨rfl, _, rfl, p, _, rfl, hD4', by decide, by decide, fun c H5 c0 c1 hD5 hB5 => ⟨rfl, _, rfl, ?_⟩⟩
      have hd5 := hB5 _ _ hd Dp
      refine ite2 (fun _ => ?_) (fun _ => ?_)
      · refine ⟨_, rfl, _, hd5, by rw [List.length_map, sizeLine_eq]; omega, hD5.keep fun o e => by rw [upd_ne (Ne.symm Dp)]; exact e, but_at (hB4.trans hB5) hD4, es ++ [0 + (i : Int)], by rw [List.length_append, List.length_singleton]; omega, by rw [upd_same, List.map_append] <;> rfl, fun e he => ?_, ?_⟩
        · rcases List.mem_append.mp he with z | z
          · have := ha.1 e z
            omega
          · rw [List.mem_singleton.mp z]
            omega
        · refine List.pairwise_append.mpr ⟨ha.2, List.pairwise_singleton _ _, fun x hx y hy => ?_⟩
          rw [List.mem_singleton.mp hy]
          have := ha.1 x hx
          omega
      · exact ⟨hD5, hB4.trans hB5, es, by omega, hd5, fun e he => by have := ha.1 e he; omega, ha.2⟩
    · rintro H4 ⟨hD4', hB4, es, hl4, hd, ha⟩
      refine fun m hm => ⟨_, rfl, _, rfl, _, rfl, upd_same, pkv L lt D, rfl, (by show 3 ≤ 15; decide), ?_⟩
      have Dm : D ≠ m := ne_of_none hd hm
      have ht4 : PTab H4 lt tb := ht.but lp hD3 hB4
      have hBm : But p H (upd (upd H4 m (.dK [])) m (.dK (mergeK [] (pkv L lt D)))) := by
        rw [upd_upd]
        exact but_two (((hB1.trans (but_two (But.refl _ _) hq)).trans hB3).trans hB4) hm
      have nm : H m = none := but_free (((hB1.trans (but_two (But.refl _ _) hq)).trans hB3).trans hB4) hm (hD4'.ne hm)
      have nlt : H lt = none := but_free (hB1.trans (but_two (But.refl _ _) hq)) hl lp
      have nD : H D = none := but_free ((hB1.trans (but_two (But.refl _ _) hq)).trans hB3) hD4 Dp
      refine k m tb es (1 + r) _ nm (hD4'.ne hm) (by rw [upd_upd]; exact hD4'.new hm) hBm ⟨lt, D, ?_, ?_, ?_⟩ (fun a b e => ?_) ⟨tok, ⟨fun e he => by have := ha.1 e he; omega, ha.2⟩, by omega⟩ (by omega) (fun a b e => ?_)
      · rw [upd_same, pkv, merge3]
      · rw [upd_upd]
        exact ht4.same (same_upd hm)
      · rw [upd_upd, upd_ne Dm]
        exact hd
      · rw [upd_same, pkv, merge3] at e
        injection e with e
        injection e with e
        obtain ⟨rfl, rfl⟩ := pkv_inj (L := L) e
        exact ⟨lp, Dp⟩
      · rw [upd_same, pkv, merge3] at e
        injection e with e
        injection e with e
        obtain ⟨rfl, rfl⟩ := pkv_inj (L := L) e
        exact ⟨nlt, nD⟩
end
end WK
set_option Elab.async false
set_option linter.all false
set_option maxRecDepth 100000
set_option maxHeartbeats 8000000
namespace WK
open PySem L2 PyProof.Rows LCX K1 FV DP DL RM NS
open TX (sg sigs)
open PySem.W (Frag kitOne)
abbrev sLR4 : Stmt := top 71
abbrev NR4 : List Str := ["_law_dice_here", "_law_letters_here", "_law_plain", "_law_made", "_law_firsts_here", "_law_told", "_law_free"]
theorem val_mem : ∀ {kvs : List (Key × V)}, (kvs.map (·.1)).Nodup → ∀ {p : Key × V}, p ∈ kvs → valV kvs p.1 = some p.2
  | [], _, _, h => absurd h List.not_mem_nil
  | q :: kvs, nd, p, h => by
    rw [List.map_cons] at nd
    obtain ⟨h1, h2⟩ := List.nodup_cons.mp nd
    obtain ⟨k, v⟩ := q
    by_cases e : p.1 = k
    · rcases List.mem_cons.mp h with z | z
      · subst z
        unfold valV
        rw [List.find?_cons, show decide (k = k) = true from decide_eq_true rfl] <;> rfl
      · exact absurd (List.mem_map.mpr ⟨p, z, e⟩) h1
    · rcases List.mem_cons.mp h with z | z
      · exact absurd (congrArg Prod.fst z) e
      · rw [val_skip (decide_eq_false fun z => e z.symm)]
        exact val_mem h2 z
theorem dp_nums {K : Frag} {H : Hp} : ∀ r : List Int, DpAll K H (r.map V.int) (r.map PyData.int)
  | [] => .nil
  | i :: r => .cons (.int i) (dp_nums r)
theorem lay_nums : ∀ r : List Int, PyData.canLayAll0 (r.map PyData.int) = true
  | [] => rfl
  | i :: r => by simp [PyData.canLayAll0, PyData.canLay0, lay_nums r]
theorem shaped_nums (r : List Int) : SeqAt.shaped (.list (r.map PyData.int)) = true := by
  unfold SeqAt.shaped
  rw [show PyData.canLay0 (.list (r.map PyData.int)) = true by simp [PyData.canLay0, lay_nums], show decide (PyData.depth (.list (r.map PyData.int)) ≤ 64) = true from decide_eq_true (by
    show PyData.depthAll (r.map PyData.int) + 1 ≤ 64
    rw [depth_ints]
    decide)]
  rfl
/-- a tuple of numbers as data -/
def dTu (r : List Int) : PyData := .tuple (r.map PyData.int)
theorem dp_tus {K : Frag} {H : Hp} : ∀ {zs : List Tu}, Tus H zs → DpAll K H (refT zs) ((zs.map (·.2)).map dTu)
  | [], _ => .nil
  | z :: zs, h => .cons (.tup (SqT.of (h z (.head _))) (dp_nums _)) (dp_tus fun y hy => h y (.tail _ hy))
theorem shaped_tus (l : List (List Int)) : SeqAt.shaped (.list (l.map dTu)) = true := by
  have lay : ∀ l : List (List Int), PyData.canLayAll0 (l.map dTu) = true := fun l => by
    induction l with
    | nil => rfl
    | cons a l ih => simp [PyData.canLayAll0, dTu, PyData.canLay0, lay_nums, ih]
  have dep : ∀ l : List (List Int), PyData.depthAll (l.map dTu) ≤ 1 := fun l => by
    induction l with
    | nil => exact Nat.zero_le _
    | cons a l ih =>
      show max (PyData.depthAll (a.map PyData.int) + 1) (PyData.depthAll (l.map dTu)) ≤ 1
      rw [depth_ints]
      omega
  have := dep l
  unfold SeqAt.shaped
  rw [show PyData.canLay0 (.list (l.map dTu)) = true by simp [PyData.canLay0, lay], show decide (PyData.depth (.list (l.map dTu)) ≤ 64) = true from decide_eq_true (by
    show PyData.depthAll (l.map dTu) + 1 ≤ 64
    omega)]
  rfl
theorem eqv_tus : ∀ l : List (List Int), PyData.eqv (.list (l.map dTu)) (.list (l.map dTu)) = true
  | [] => rfl
  | a :: l => by
    have ih : PyData.eqvAll (l.map dTu) (l.map dTu) = true := eqv_tus l
    show (PyData.eqvAll (a.map PyData.int) (a.map PyData.int) && PyData.eqvAll (l.map dTu) (l.map dTu)) = true
    rw [ih, eqv_ints, decide_eq_true rfl] <;> rfl
theorem eqv_nums (r : List Int) : PyData.eqv (.list (r.map PyData.int)) (.list (r.map PyData.int)) = true := by
  show PyData.eqvAll (r.map PyData.int) (r.map PyData.int) = true
  rw [eqv_ints, decide_eq_true rfl]
theorem ends_few {T : List (List Int)} {wd : Nat} {ends : List Int} {kp : List (List Int)} {en : List Int} (l : Least T wd ends kp en) : en.length ≤ kp.length := by
  obtain ⟨g, _, rfl, rfl⟩ := l
  rw [kept_len]
  unfold endsK
  have := List.length_filter_le (fun a : Int => ((wyA T 0 T.length).map fun a => decide (a ∈ ends)).getD (g.idxOf a) false) (rngI (cls g))
  rw [rng_len] at this
  exact this
theorem mac_rm {C : Addr} {H : Hp} {o : Addr} {L : W} {tb : List (List Int)} {es : List Int} (h : WK.MacAt C H o L tb es) : RM.MacAt C H o L tb es :=
  let ⟨dx, t, e, ts, h1, h2, h3, h4⟩ := h.ex
  ⟨dx, t, e, h1, ⟨ts, h2, h3⟩, h4⟩
theorem mac_wk {C : Addr} {H : Hp} {o : Addr} {L : W} {tb : List (List Int)} {es : List Int} (h : RM.MacAt C H o L tb es) : WK.MacAt C H o L tb es :=
  let ⟨dx, t, e, h1, ⟨ts, h2, h3⟩, h4⟩ := h
  ⟨dx, t, e, ts, h1, h2, h3, h4⟩
def spLR4 : Sp := fun vs H Q _ => ∃ p : Addr, vs = [.ref p] ∧ DiceAt H p ∧ ∀ H', DiceAt H' p → But p H H' → Q (.bl true) H'
section
variable {P : Program} {w : World} {K : PySem.W.Frag} {mg : Str → Option Value} {base : Heap} {C cD cM fO fLe fMc fMm fLf fSW fKn fLk fIF fFr fAg fS gI : Addr} {dO dLe dMc dMm dLf dSW dKn dLk dIF dFr dAg dS : FuncData}
theorem scR4 : FnScope NR4 ["_law_dice_here"] (defScope sLR4) := ⟨rfl, rfl, rfl, by decide +kernel, rfl, by decide +kernel, by decide +kernel⟩
theorem ok_lr4 {f : Addr} {fd : FuncData} (F : Fun K "_law_right" "_law_right" sLR4 f fd) (T : TN mg) (M : TMc K mg C cD cM)
    (AO : Fn K mg "_law_one_of" sOne ["_law_dice_here", "_law_items"] fO dO) (GO : FnOk P w K mg base CX0 2 fO dO ["_law_dice_here", "_law_items"] spOne)
    (ALe : Fn K mg "_law_letters" sLetters ["_law_dice_here", "_law_total"] fLe dLe) (GLe : FnOk P w K mg base CX0 3 fLe dLe ["_law_dice_here", "_law_total"] spLetters)
    (AMc : Fn K mg "_law_machine" sLMac ["_law_dice_here", "_law_letters_here", "_law_states"] fMc dMc) (GMc : FnOk P w K mg base CX0 4 fMc dMc ["_law_dice_here", "_law_letters_here", "_law_states"] spLMac9)
    (AMm : Fn K mg "_law_made_machine" sMade ["_law_plain"] fMm dMm) (GMm : FnOk P w K mg base CX0 7 fMm dMm ["_law_plain"] (spMade C))
    (ALf : Fn K mg "_law_firsts" sLFirsts ["_law_table_here", "_law_letters_here"] fLf dLf) (GLf : FnOk P w K mg base CX0 1 fLf dLf ["_law_table_here", "_law_letters_here"] spLFirsts)
    (ASW : Fn K mg "state_words" sStW ["machine"] fSW dSW) (GSW : FnOk P w K mg base CX0 3 fSW dSW ["machine"] (spStW C))
    (AKn : Fn K mg "knots" sKnots ["machine"] fKn dKn) (GKn : FnOk P w K mg base CX0 3 fKn dKn ["machine"] (spKnots C))
    (ALk : Fn K mg "_law_knots" sLKnots ["_law_table_here"] fLk dLk) (GLk : FnOk P w K mg base CX0 2 fLk dLk ["_law_table_here"] spLKnots)
    (AIF : Fn K mg "_law_is_free" sLFree ["_law_plain"] fIF dIF) (GIF : FnOk P w K mg base CX0 2 fIF dIF ["_law_plain"] spLFree)
    (AFr : Fn K mg "is_order_free" sFree ["machine"] fFr dFr) (GFr : FnOk P w K mg base CX0 8 fFr dFr ["machine"] (spFree C))
    (AAg : Fn K mg "_law_agree" sAgree ["_law_plain", "_law_most"] fAg dAg) (GAg : FnOk P w K mg base CX0 3 fAg dAg ["_law_plain", "_law_most"] spAgree)
    (MS : Meth K C "least" fS) (GS : FnOk P w K mg base CX0 7 fS dS ["self"] (RM.spMLeast C)) (bS : Binds K dS ["self"] [])
    (eI : PySem.W.findIn K (.ref C) "__invert__" = some (some (.ref gI))) (pI : PySem.W.isFn K (.ref gI) = true) (GI : FnR P w K mg base CX0 7 gI (RM.spMInv C)) :
    FnOk P w K mg base CX0 9 f fd ["_law_dice_here"] spLR4 := by
  refine F.ok scR4 (fun vs H Q E h => ?_) (fun cdv A outer s H vs Q E hr h => ?_)
  · obtain ⟨p, rfl, _⟩ := h
    rfl
  · obtain ⟨p, rfl, hD, q⟩ := h
    have hub := hu_of hr
    have hu0 := hr.units0
    have hu64 := hr.units
    have hr1 : Room 1 _ := hr.mono (by decide)
    have hr2 : Room 2 _ := hr.mono (by decide)
    have hr3 : Room 3 _ := hr.mono (by decide)
    have hr4 : Room 4 _ := hr.mono (by decide)
    have hr7 : Room 7 _ := hr.mono (by decide)
    refine ⟨_, pss_cons (ps_set (i := 1) scR4.nd rfl (Or.inl rfl) (pe_call (E := E0) GLe hr3 rfl ALe.g ALe.F.kp ALe.b .nil pass0 (pa_cons (pv 0) (pa_cons (pe_call (E := E0) GO hr2 rfl AO.g AO.F.kp AO.b .nil pass0 (pa_cons (pv 0) (pa_cons (pe_lst (pa_cons pe_int (pa_cons pe_int (pa_cons pe_int (pa_cons pe_int pa_nil))))) pa_nil))) pa_nil))))
      (pss_cons (ps_set (i := 2) scR4.nd rfl (Or.inl rfl) (pe_call (E := E0) GMc hr4 rfl AMc.g AMc.F.kp AMc.b .nil pass0 (pa_cons (pv 0) (pa_cons (pv 1) (pa_cons pe_int pa_nil)))))
      (pss_cons (ps_par (i := 3) (j := 4) (by rfl) scR4.nd rfl rfl (by decide) rfl rfl (pa_cons (pe_call (E := E0) GMm hr7 rfl AMm.g AMm.F.kp AMm.b .nil pass0 (pa_cons (pv 2) pa_nil)) (pa_cons (pe_call (E := E0) GLf hr1 rfl ALf.g ALf.F.kp ALf.b .nil pass0 (pa_cons (pe_dget hub (pv 2) pe_str (fun _ _ => rfl)) (pa_cons (pv 1) pa_nil))) pa_nil)) (by rfl))
      (pss_cons (ps_set (i := 5) scR4.nd rfl (Or.inl rfl) (pe_call (E := E0) GSW hr3 rfl ASW.g ASW.F.kp ASW.b .nil pass0 (pa_cons (pv 3) pa_nil)))
      (pss_cons (ps_if (PW.pt (pw_or (pt_cmpR (op_ne_dictA hu0) (pv 5) (pv 4) (nomark _))
          (pw_or (pt_cmpR (op_neD hu64) (pe_callTy (call_listD rfl) (by rfl) T.list (by decide +kernel) (pa_cons (pv 5) pa_nil)) (pe_callB (call_sortedDI rfl) (by rfl) T.sorted (by decide +kernel) (pa_cons (pv 4) pa_nil)) (nomark _))
          (pw_or1 (pt_cmpR (op_neD hu64) (pe_callTy call_list_of (by rfl) T.list (by decide +kernel) (pa_cons (pe_call (E := E0) GKn hr3 rfl AKn.g AKn.F.kp AKn.b .nil pass0 (pa_cons (pv 3) pa_nil)) pa_nil)) (pe_call (E := E0) GLk hr2 rfl ALk.g ALk.F.kp ALk.b .nil pass0 (pa_cons (pe_dget hub (pv 2) pe_str (fun _ _ => rfl)) pa_nil)) (nomark _)))))) (pss_one (ps_ret pe_bl)) pss_nil)
      (pss_cons (ps_set (i := 6) scR4.nd rfl (Or.inl rfl) (pe_call (E := E0) GIF hr2 rfl AIF.g AIF.F.kp AIF.b .nil pass0 (pa_cons (pv 2) pa_nil)))
      (pss_cons (ps_if (PW.pt (pw_or (pt_cmpR op_ne (pe_call (E := E0) GFr hr rfl AFr.g AFr.F.kp AFr.b .nil pass0 (pa_cons (pv 3) pa_nil)) (pv 6) (nomark _))
          (pw_or (pt_cmpR op_ne (pe_call (E := E0) GFr hr rfl AFr.g AFr.F.kp AFr.b .nil pass0 (pa_cons (pe_meth0 (E := E0) (pv 3) M.cl MS GS hr7 bS .nil pass0) pa_nil)) (pv 6) (nomark _))
          (pw_or1 (pt_cmpR op_ne (pe_call (E := E0) GFr hr rfl AFr.g AFr.F.kp AFr.b .nil pass0 (pa_cons (pe_un (OWN.un_invO eI pI GI hr7) (pv 3)) pa_nil)) (pv 6) (nomark _)))))) (pss_one (ps_ret pe_bl)) pss_nil)
      (pss_one (ps_ret (pe_or (pe_not (pv 6)) (pe_one (pe_call (E := E0) GAg hr3 rfl AAg.g AAg.F.kp AAg.b .nil pass0 (pa_cons (pv 2) (pa_cons (pe_ifExp (pt_cmpR op_lt (pe_callB call_len_str (by rfl) T.len PySem.boot_len (pa_cons (pv 1) pa_nil)) pe_int (nomark _)) pe_int pe_int) pa_nil))))))))))))), ?_⟩
    refine ⟨_, rfl, _, rfl, by show 4 ≤ sizeLine; decide, fun ql hql => ?_⟩
    refine ⟨p, ql, [.int 1, .int 2, .int 2, .int 3], rfl, hD.new hql, hD.ne hql, upd_same, by decide, by decide, fun v H2 hv D2 b2 => ?_⟩
    obtain ⟨n, rfl, n1, n3⟩ : ∃ n : Int, v = .int n ∧ 1 ≤ n ∧ n ≤ 3 := by
      simp only [List.mem_cons, List.mem_nil_iff, or_false] at hv
      rcases hv with rfl | rfl | rfl | rfl <;> exact ⟨_, rfl, by decide, by decide⟩
    refine ⟨p, n, rfl, D2, n1, n3, fun L H3 hL D3 b3 => ?_⟩
    have b13 := (but_two (But.refl p H) hql).trans (b2.trans b3)
    have few := hL.few
    refine ⟨_, rfl, _, rfl, p, L, 4, rfl, D3, hL.ne, by omega, by decide, by decide, fun m tb es z H4 nm mp D4 b4 pl off ok z4 nw => ?_⟩
    have b14 := b13.trans b4
    obtain ⟨lt, le, h1, ⟨ts, h2, h3⟩, h5⟩ := id pl.ex
    have okt := ok.tab
    have okl := okt.len
    have one := ok.one
    have g : ∀ (H' : Hp) (kk : Key) (v : V), Same H4 H' → valV (pkv L lt le) kk = some v → DGet H' m (kV kk) (some v) := fun H' kk v s e => e ▸ DGet.k (s _ _ h1)
    have plain : ∀ {H' : Hp}, Same H4 H' → PlainM H' m L tb es := fun {H'} s => ⟨lt, le, s _ _ h1, ⟨ts, s _ _ h2, h3.to fun a _ r e => s _ _ e⟩, s _ _ h5⟩
    refine ⟨_, rfl, m, L, tb, es, z, rfl, pl, ok, by omega, hL, fun a H5 na s5 mac => ?_⟩
    refine ⟨_, rfl, m, _, rfl, g H5 kTb _ s5 (pkv_T L lt le), _, rfl, lt, L, tb, z, rfl, ⟨ts, s5 _ _ h2, h3.to fun a _ r e => s5 _ _ e⟩, hL, okt, one, by omega, fun Df kf H6 nDf s6 hDf keysf vof => ?_⟩
    refine ⟨_, _, rfl, ?_⟩
    refine ⟨_, rfl, a, L, tb, es, z, rfl, mac.same s6, okt, one, by omega, few, fun Dt kt ns H7 nDt s7 hDt keyst asct permt wt => ?_⟩
    have s47 := s5.trans (s6.trans s7)
    have hDf7 := s7 _ _ hDf
    obtain ⟨wy, ewy⟩ : ∃ wy, wy = wyA tb 0 tb.length := ⟨_, rfl⟩
    rw [← ewy] at keysf permt
    have ndw : wy.Nodup := by
      rw [ewy]
      exact (ord_of okt one).nd
    have lwy : wy.length ≤ 4 := by
      have := (ord_of okt one).le
      rw [← ewy] at this
      omega
    have ndn : ns.Nodup := permt.nodup_iff.mpr ndw
    have klt := keyst.len
    have klf := keysf.len
    have fst := wyP_fst (tb := tb) (st := 0) tb.length
    have alike : ∀ p ∈ kt, valV kf p.1 = some p.2 ∧ flatB p.2 = true := fun p hp => by
      have hk : p.1 ∈ ns.map (Sum.inl : Int → Key) := (show kt.map (·.1) = ns.map Sum.inl from keyst) ▸ List.mem_map_of_mem (f := (·.1)) hp
      obtain ⟨x, hx, ex⟩ := List.mem_map.mp hk
      have hw : x ∈ wy := permt.mem_iff.mp hx
      rw [ewy, ← fst] at hw
      obtain ⟨q', hq', eq'⟩ := List.mem_map.mp hw
      obtain ⟨y, u⟩ := q'
      obtain rfl : y = x := eq'
      have v1 := wt y u hq'
      have v2 := vof y u hq'
      have nd : (kt.map (·.1)).Nodup := by
        rw [show kt.map (·.1) = ns.map Sum.inl from keyst]
        exact List.nodup_iff_pairwise_ne.mpr (List.pairwise_map.mpr ((List.nodup_iff_pairwise_ne.mp ndn).imp fun h e => h (Sum.inl.inj e)))
      have v3 := val_mem nd hp
      rw [← ex, v1] at v3
      rw [← ex, v2, Option.some.inj v3.symm]
      exact ⟨rfl, rfl⟩
    refine ⟨_, rfl, _, rfl, Dt, Df, kt, kf, rfl, rfl, hDt, hDf7, by rw [klt, klf, permt.length_eq], alike, _, rfl, iteF ?_⟩
    have ek : (kt.map fun kv => kV kv.1) = ns.map V.int := by
      have h := congrArg (List.map kV) (show kt.map (·.1) = ns.map (Sum.inl : Int → Key) from keyst)
      rw [List.map_map, List.map_map] at h
      exact h
    refine ⟨_, rfl, Dt, kt, rfl, .inl hDt, fun l1 nl1 => ?_⟩
    rw [ek]
    have sl1 := same_upd (o := .lst (ns.map V.int)) nl1
    have at1 : (upd H7 l1 (.lst (ns.map V.int))) l1 = some (.lst (ns.map V.int)) := upd_same
    have s48 := s47.trans sl1
    have sl1' := sl1
    have hDf8 := sl1 _ _ hDf7
    generalize upd H7 l1 (.lst (ns.map V.int)) = H8 at at1 s48 hDf8 sl1' ⊢
    refine ⟨_, rfl, Df, kf, wy, rfl, .inl hDf8, keysf, by omega, fun ys l2 perm2 asc2 nl2 => ?_⟩
    have ey : ys = ns := List.Perm.eq_of_pairwise (le := fun x y : Int => x ≤ y) (fun _ _ _ _ => Int.le_antisymm) asc2 (asct.imp fun h => Int.le_of_lt h) (perm2.trans permt.symm)
    subst ey
    have sl2 := same_upd (o := .lst (ys.map V.int)) nl2
    have at2 : (upd H8 l2 (.lst (ys.map V.int))) l2 = some (.lst (ys.map V.int)) := upd_same
    have s49 := s48.trans sl2
    have at1' := sl2 _ _ at1
    have s79 := sl1'.trans sl2
    generalize upd H8 l2 (.lst (ys.map V.int)) = H9 at at1' at2 s49 s79 ⊢
    refine ⟨.list (ys.map PyData.int), .list (ys.map PyData.int), .lst (SqL.of at1') (dp_nums ys), .lst (SqL.of at2) (dp_nums ys), shaped_nums ys, shaped_nums ys, _, rfl, ?_⟩
    rw [eqv_nums]
    refine iteF ?_
    have s59 : Same H5 H9 := s6.trans (s7.trans s79)
    have esl : es.length ≤ 4 := by
      have := asc_len ok.asc (by omega)
      omega
    refine ⟨_, rfl, a, L, tb, es, z, rfl, mac.same s59, okt, by omega, by omega, fun kp zs H10 nkp s10 hkp tus kno => ?_⟩
    refine ⟨kp, _, rfl, .inr (SqT.of hkp), fun l3 nl3 => ?_⟩
    have sl3 := same_upd (o := .lst (refT zs)) nl3
    have at3 : (upd H10 l3 (.lst (refT zs))) l3 = some (.lst (refT zs)) := upd_same
    have s9b := s10.trans sl3
    have tus2 : Tus (upd H10 l3 (.lst (refT zs))) zs := fun y hy => sl3 _ _ (tus y hy)
    generalize upd H10 l3 (.lst (refT zs)) = H11 at at3 s9b tus2 ⊢
    have s4b := s49.trans s9b
    refine ⟨_, rfl, m, _, rfl, g H11 kTb _ s4b (pkv_T L lt le), lt, tb, L.length, z, rfl, ⟨ts, s4b _ _ h2, h3.to fun a _ r e => s4b _ _ e⟩, okt, by omega, by omega, fun p2 zs2 H12 np2 s12 hp2 tus3 kno2 => ?_⟩
    have same : zs2.map (·.2) = zs.map (·.2) := KnotsOk.one kno2 kno
    refine ⟨.list ((zs.map (·.2)).map dTu), .list ((zs2.map (·.2)).map dTu), .lst (SqL.of (s12 _ _ at3)) (dp_tus fun y hy => s12 _ _ (tus2 y hy)), .lst (SqL.of hp2) (dp_tus tus3), shaped_tus _, shaped_tus _, _, rfl, ?_⟩
    rw [same, eqv_tus]
    refine iteF ?_
    have s4c := s4b.trans s12
    have s5c := s59.trans (s9b.trans s12)
    refine ⟨_, rfl, m, L, tb, es, z, rfl, plain s4c, ok, by omega, hL, fun b H13 s13 hb => ?_⟩
    have s4d := s4c.trans s13
    have s5d := s5c.trans s13
    have told : ∀ {kp : List (List Int)} {en : List Int} {ee : List Int}, Least tb L.length ee kp en → (Free L tb ee ↔ Free L tb es) → orderB kp L.length = b := fun {kp en ee} l e => by
      rw [Bool.eq_iff_iff]
      exact (order_iff hL l okt one).trans (e.trans hb.symm)
    have no : ∀ c : Bool, c = b → (!decide (V.bl c = V.bl b)) = false := fun c e => by
      rw [e, decide_eq_true rfl]
      rfl
    have mac13 := mac.same s5d
    refine ⟨_, rfl, a, L, tb, es, z, rfl, mac13, hL, okt, one, by omega, by omega, few, fun kp1 en1 H14 s14 l1 => ⟨_, rfl, rfl, _, rfl, ?_⟩⟩
    rw [no _ (told l1 Iff.rfl)]
    refine iteF ?_
    have mac14 := mac13.same s14
    obtain ⟨dx, t, e, ts', hm, h2', h3', h4'⟩ := id mac14.ex
    refine ⟨_, rfl, a, dx, _, rfl, hm, ?_, a, L, tb, es, z, rfl, mac_rm mac14, hL, okt, one, by omega, by omega, fun q1 kp2 en2 H15 nq1 s15 mac2 l2 => ?_⟩
    · rw [← put3, lookup_putF, if_neg (by decide +kernel), ← put2, lookup_putF, if_neg (by decide +kernel)]
      rfl
    obtain ⟨okk, kp1', _, kpT⟩ := l2.tab okt one
    have ef := ends_few l2
    refine ⟨q1, L, kp2, en2, ((kp2.length : Nat) : Int), rfl, mac_wk mac2, hL, okk, by omega, by omega, by omega, few, fun kp3 en3 H16 s16 l3 => ⟨_, rfl, rfl, _, rfl, ?_⟩⟩
    obtain ⟨rfl, rfl⟩ := l2.again okt one l3
    rw [no _ (told l2 Iff.rfl)]
    refine iteF ?_
    have mac16 := mac14.same (s15.trans s16)
    obtain ⟨dx6, t6, e6, ts6, hm6, _⟩ := id mac16.ex
    refine ⟨_, rfl, a, dx6, _, rfl, hm6, a, L, tb, es, z, rfl, mac_rm mac16, hL, okt, one, by omega, fun q2 kp4 en4 H17 nq2 s17 mac4 l4 => ⟨q2, rfl, ?_⟩⟩
    obtain ⟨okk4, kp1'', _, kpT4⟩ := l4.tab okt one
    have ef4 := ends_few l4
    refine ⟨q2, L, kp4, en4, ((kp4.length : Nat) : Int), rfl, mac_wk mac4, hL, okk4, by omega, by omega, by omega, few, fun kp5 en5 H18 s18 l5 => ⟨_, rfl, rfl, _, rfl, ?_⟩⟩
    obtain ⟨rfl, rfl⟩ := l4.again okt one l5
    rw [no _ (told l4 (free_other okt one))]
    refine iteF ?_
    have s4e := s4d.trans (s14.trans (s15.trans (s16.trans (s17.trans s18))))
    have D18 : ∀ {H' : Hp}, Same H4 H' → DiceAt H' p := fun {H'} s => D4.keep fun o h => s _ _ h
    have fin : Q (.bl true) H18 := q H18 (D18 s4e) (b14.trans (But.ofSame s4e))
    cases b with
    | false => exact ⟨_, rfl, _, rfl, _, rfl, iteT fin⟩
    | true =>
      have ag : ∀ k : Nat, k ≤ 5 → spAgree [.ref m, .int ((k : Nat) : Int)] H18 Q E0 := fun k hk => ⟨m, L, tb, es, z, k, rfl, plain s4e, ok, hL, hk, hb.mp rfl, fun H19 s19 => q H19 (D18 (s4e.trans s19)) (b14.trans (But.ofSame (s4e.trans s19)))⟩
      refine ⟨_, rfl, _, rfl, _, rfl, iteF ?_⟩
      refine ⟨_, rfl, _, rfl, tx L, rfl, by rw [tx_len, sizeLine_eq]; omega, _, _, rfl, rfl, _, rfl, ?_⟩
      refine ite2 (fun _ => ag 5 (by decide)) (fun _ => ag 4 (by decide))
end
end WK
set_option Elab.async false
set_option linter.all false
set_option maxRecDepth 100000
set_option maxHeartbeats 8000000
namespace WK
open PySem L2 PyProof.Rows LCX K1 FV DP DL RM NS LamX
open TX (sg sigs)
open PySem.W (Frag kitOne)
abbrev sLaw4 : Stmt := top 72
abbrev NL4 : List Str := ["_law_script", "_law_spot", "_law_dice_here", "_law_turn", "_law_even", "_law_closes", "_law_told"]
def spLaw4 (K : Frag) : Sp := fun vs H Q _ => ∃ (s : Addr) (ns : List Int), vs = [.ref s] ∧ SqL K H s (ns.map V.int) ∧ ns.length ≤ 63 ∧ ∀ H', Q (.bl true) H'
theorem seq4 {K : Frag} {H H' : Hp} {a : Addr} {xs : List V} (e : ExtN H H') (h : SqL K H a xs) : SqL K H' a xs := by
  rcases h with (h | ⟨o, h⟩) | h
  · exact .inl (.inl (e _ _ h fun _ z => nomatch z))
  · exact .inl (.inr ⟨o, e _ _ h fun _ z => nomatch z⟩)
  · exact .inr h
def EqM (K : Frag) (H : Hp) (x y : V) : Prop := EqV K H 8 x y ∨ ∃ d, Dp K H x d ∧ Dp K H y d ∧ SeqAt.shaped d = true ∧ PyData.eqv d d = true
def rEqM (K : Frag) : R2 := fun x y H Q => ∃ a b xs ys, x = .ref a ∧ y = .ref b ∧ SqL K H a xs ∧ SqL K H b ys ∧ Paired (EqM K H) xs ys ∧ Q (.bl true) H
theorem op_eqM {X : Cx} (hu : X.A.units + 70 < cLine) : OpR X (compareOp .Eq) (rEqM X.K) := by
  rintro pins s σ H x y v u Q I rx ry ⟨a, b, xs, ys, rfl, rfl, ha, hb, pr, q⟩
  refine eqR_run I (A := X.A) (F := EqM X.K H) (by omega) (fun x y v u h rx ry => ?_) (.inl ⟨a, b, xs, ys, rfl, rfl, ha, hb, pr⟩) rx ry _ _ ⟨.bl true, H, I, rfl, q⟩
  rcases h with h | ⟨d, h1, h2, sh, e⟩
  · exact eqV_run I 8 X.A.in1 (by show X.A.units + 1 + 8 < cLine; omega) x y v u h rx ry
  · obtain ⟨as, r1⟩ := Dp.reads I d x v h1 rx
    obtain ⟨bs, r2⟩ := Dp.reads I d y u h2 ry
    have lay := SeqAt.canLay_of_shaped sh
    have dep := SeqAt.depth_of_shaped sh
    have := SeqAt.eqAt_reads d d X.A.in1 s v u as bs r1 r2 lay lay (by show X.A.units + 1 + min d.depth d.depth < cLine; omega)
    rw [e] at this
    exact this.eqP
abbrev abW : W := [97, 98]
abbrev tbE : List (List Int) := [[1, 0], [0, 1]]
abbrev tbC : List (List Int) := [[1, 0], [1, 0]]
theorem ab_is : ("ab" : Str) = tx abW := by decide +kernel
theorem ab_let : Let abW where
  low := fun c hc => by
    simp only [List.mem_cons, List.mem_nil_iff, or_false] at hc
    omega
  asc := by decide
  ne := fun z => nomatch z
  few := by decide
theorem mac_two {tb : List (List Int)} {e : Int} (h : TabOk tb abW.length 2) (he : 0 ≤ e ∧ e < 2) : MacOk abW tb [e] 2 := ⟨h, ⟨fun i hi => by rw [List.mem_singleton.mp hi]; exact he, List.pairwise_singleton _ _⟩, by decide⟩
theorem tab_two {tb : List (List Int)} (h : tb.length = 2) (k : ∀ r ∈ tb, r.length = 2 ∧ ∀ x ∈ r, 0 ≤ x ∧ x < 2) : TabOk tb abW.length 2 := ⟨by rw [h] <;> rfl, k⟩
theorem okE : TabOk tbE abW.length 2 := tab_two rfl (by decide)
theorem okC : TabOk tbC abW.length 2 := tab_two rfl (by decide)
theorem wayE : wyA tbE 0 tbE.length = [0, 1] := by decide +kernel
theorem wayC : wyA tbC 0 tbC.length = [0, 1] := by decide +kernel
theorem wayPE : wyP tbE 0 tbE.length = [(0, []), (1, [0])] := by decide +kernel
theorem free_even : Free abW tbE [0] := by
  intro s hs i j hi hj
  rw [wayE] at hs
  have hi : i < 2 := hi
  have hj : j < 2 := hj
  have e : rowF tbE (rowF tbE s i) j = rowF tbE (rowF tbE s j) i := by
    have c1 : i = 0 ∨ i = 1 := by omega
    have c2 : j = 0 ∨ j = 1 := by omega
    simp only [List.mem_cons, List.mem_nil_iff, or_false] at hs
    rcases hs with rfl | rfl <;> rcases c1 with rfl | rfl <;> rcases c2 with rfl | rfl <;> rfl
  rw [e]
  exact Alk.refl _
theorem not_free : ¬ Free abW tbC [1] := fun h => by
  have a := h 0 (by rw [wayC]; exact .head _) 0 1 (by decide) (by decide) [] fun _ z => absurd z List.not_mem_nil
  have e1 : rowF tbC (rowF tbC 0 0) 1 = 0 := rfl
  have e2 : rowF tbC (rowF tbC 0 1) 0 = 1 := rfl
  rw [e1, e2] at a
  have : (0 : Int) ∈ [(1 : Int)] := a.mpr (.head _)
  simp at this
theorem knots_two : KnotsOk tbC.length (rowN tbC) [[0, 1]] := by
  have r0 : rowN tbC 0 = [1, 0] := rfl
  have r1 : rowN tbC 1 = [1, 0] := rfl
  have a01 : KN.Rch (rowN tbC) 0 1 := .step (.refl 0) (by rw [r0]; exact .head _)
  have a10 : KN.Rch (rowN tbC) 1 0 := .step (.refl 1) (by rw [r1]; exact .tail _ (.head _))
  have lt : ∀ {y : Nat}, KN.Rch (rowN tbC) 0 y → y < 2 := fun {y} h => by
    induction h with
    | refl => decide
    | @step b c _ e ih =>
      have hb : b = 0 ∨ b = 1 := by omega
      have e : c ∈ [1, 0] := by rcases hb with rfl | rfl <;> exact e
      simp only [List.mem_cons, List.mem_nil_iff, or_false] at e
      omega
  refine ⟨List.pairwise_singleton _ _, List.nodup_cons.mpr ⟨List.not_mem_nil, List.nodup_nil⟩, fun k hk => ?_, fun s hs => ⟨_, .head _, ?_⟩⟩
  · rw [List.mem_singleton.mp hk]
    refine ⟨by decide, 0, by decide, fun x => ⟨fun hx => ?_, ?_⟩⟩
    · simp only [List.mem_cons, List.mem_nil_iff, or_false] at hx
      rcases hx with rfl | rfl
      · exact ⟨0, rfl, .refl 0⟩
      · exact ⟨1, rfl, a01, a10⟩
    · rintro ⟨y, rfl, h, _⟩
      have := lt h
      have hy : y = 0 ∨ y = 1 := by omega
      rcases hy with rfl | rfl
      · exact .head _
      · exact .tail _ (.head _)
  · have hs : s < 2 := hs
    have hs : s = 0 ∨ s = 1 := by omega
    rcases hs with rfl | rfl
    · exact .head _
    · exact .tail _ (.head _)
section
variable {P : Program} {w : World} {K : PySem.W.Frag} {mg : Str → Option Value} {base : Heap}
variable {C cD cM fD fRi fI fFr fKn fSW : Addr} {dD dRi dI dFr dKn dSW : FuncData}
theorem make_told {H2 : Hp} {t e : Addr} {ts : List Addr} {L : W} {tb : List (List Int)} {es : List Int} {n : Int} {Q : VK} {E : XK} (hL : Let L) (ok : MacOk L tb es n) (h4 : n ≤ 4) (ht : H2 t = some (.tup (ts.map V.ref))) (h3 : Objs oTup H2 ts tb) (he : H2 e = some (.tup (es.map V.int)))
    (q : ∀ o H', H2 o = none → Same H2 H' → WK.MacAt C H' o L tb es → Q (.ref o) H') : ∀ x dx, H2 x = none → H2 dx = none → dx ≠ x → spMInit K C cM (.ref x :: ([.str (tx L), .ref t, .ref e] ++ [])) (upd (upd H2 dx (.own x)) x (.ins C dx [])) (fun v H3 => v = .non ∧ Q (.ref x) H3) E := by
  intro x dx hx hdx ne
  have s3 : Same H2 (upd (upd H2 dx (.own x)) x (.ins C dx [])) := fun b o z => by rw [upd_ne (ne_of_none z hx), upd_ne (ne_of_none z hdx)]; exact z
  have o3 : Objs oTup (upd (upd H2 dx (.own x)) x (.ins C dx [])) ts tb := h3.to fun a _ r z => s3 _ _ z
  have hlen := h3.len
  have htl := ok.tab.len
  refine ⟨x, dx, .str (tx L), .ref t, .ref e, some (tx L), some (rsOf tb), some (es.map V.int), rfl, upd_same, ⟨rfl, by rw [tx_len]; have := hL.few; omega⟩, ⟨t, _, rfl, SqT.of (s3 _ _ ht), by rw [List.length_map]; omega, rows_of (by have := hL.few; omega) o3 fun r hr => (ok.tab.row r hr).1⟩, ⟨e, rfl, SqT.of (s3 _ _ he), ?_, ?_⟩, .inl ⟨?_, fun H4 h4' k4 => ⟨rfl, ?_⟩⟩⟩
  · have := asc_len ok.asc (by have := ok.one; omega)
    rw [List.length_map]
    omega
  · intro y hy
    obtain ⟨i, _, rfl⟩ := List.mem_map.mp hy
    exact .inl ⟨i, rfl⟩
  · have e1 : ((rsOf tb).length : Int) = n := by rw [List.length_map]; exact htl
    rw [made_t, letB_let hL, tx_len, tabB_in ok.tab ok.one h4, e1]
    exact ascV_in ok.asc
  · have s4 : Same H2 H4 := fun b o z => k4 b o (s3 _ _ z) (ne_of_none z hx)
    exact q x H4 hx s4 ⟨dx, t, e, ts, h4', s4 _ _ ht, h3.to fun a _ r z => s4 _ _ z, s4 _ _ he⟩
abbrev tMacL (C : Addr) (K : Frag) (cM : Addr) (a b c d e : Int) : TE := tMake C (spMInit K C cM) [] (fun _ _ _ => False) (tCons (tC (.str "ab")) (tCons (tTup (tCons (tTup (tCons (tC (.int a)) (tCons (tC (.int b)) tNil))) (tCons (tTup (tCons (tC (.int c)) (tCons (tC (.int d)) tNil))) tNil))) (tCons (tTup (tCons (tC (.int e)) tNil)) tNil)))
theorem lit_mac {a b c d e : Int} {σ : L2.St} {H : Hp} {Q : VK} (ok : MacOk abW [[a, b], [c, d]] [e] 2) (q : ∀ o H', H o = none → Same H H' → WK.MacAt C H' o abW [[a, b], [c, d]] [e] → Q (.ref o) H') : tMacL C K cM a b c d e σ H Q := by
  refine ⟨by show 2 ≤ sizeLine; decide, fun t1 n1 => ⟨by show 2 ≤ sizeLine; decide, fun t2 n2 => ⟨by show 2 ≤ sizeLine; decide, fun t n3 => ⟨by show 1 ≤ sizeLine; decide, fun e1 n4 => ?_⟩⟩⟩⟩
  have s1 := same_upd (o := .tup [.int a, .int b]) n1
  have h1 : (upd H t1 (.tup [.int a, .int b])) t1 = some (oTup [a, b]) := upd_same
  generalize upd H t1 (.tup [.int a, .int b]) = H1 at n2 n3 n4 s1 h1 ⊢
  have s2 := same_upd (o := .tup [.int c, .int d]) n2
  have h2 : (upd H1 t2 (.tup [.int c, .int d])) t2 = some (oTup [c, d]) := upd_same
  generalize upd H1 t2 (.tup [.int c, .int d]) = H2 at n3 n4 s2 h2 ⊢
  have s3 := same_upd (o := .tup [.ref t1, .ref t2]) n3
  have h3 : (upd H2 t (.tup [.ref t1, .ref t2])) t = some (.tup ([t1, t2].map V.ref)) := upd_same
  generalize upd H2 t (.tup [.ref t1, .ref t2]) = H3 at n4 s3 h3 ⊢
  have s4 := same_upd (o := .tup [.int e]) n4
  have h4 : (upd H3 e1 (.tup [.int e])) e1 = some (.tup ([e].map V.int)) := upd_same
  generalize upd H3 e1 (.tup [.int e]) = H4 at s4 h4 ⊢
  have s14 := s2.trans (s3.trans s4)
  have s04 := s1.trans s14
  rw [ab_is]
  exact make_told ab_let ok (by decide) (s4 _ _ h3) ⟨s14 _ _ h1, (s3.trans s4) _ _ h2, trivial⟩ h4 fun o H' no s mac => q o H' (s04.free no) (s04.trans s) mac
theorem lit_par {t1 t2 : TE} {u : TS} {D : Ends} {σ : L2.St} {H : Hp} (h : t1 σ H fun v H1 => t2 σ H1 fun w H2 => u D ((σ.set 4 (some v)).set 5 (some w)) H2) : tSeq (tPar 4 5 (tCons t1 (tCons t2 tNil))) u D σ H := by
  unfold tSeq tPar tCons tNil
  have e : (fun v H1 => t2 σ H1 fun w H2 => u D ((σ.set 4 (some v)).set 5 (some w)) H2) = fun v H1 => t2 σ H1 fun w H2 => ∃ v' w', [v, w] = [v', w'] ∧ u D ((σ.set 4 (some v')).set 5 (some w')) H2 := by
    funext v H1
    congr 1
    funext w H2
    exact propext ⟨fun z => ⟨v, w, rfl, z⟩, fun ⟨v', w', e, z⟩ => by cases e; exact z⟩
  rw [e] at h
  exact h
theorem scL4 : FnScope NL4 ["_law_script"] (defScope sLaw4) := ⟨rfl, rfl, rfl, by decide +kernel, rfl, by decide +kernel, by decide +kernel⟩
theorem ok_law4 {f : Addr} {fd : FuncData} (F : Fun K "law" "law" sLaw4 f fd) (TT : TN mg) (M : TMc K mg C cD cM)
    (AD : Fn K mg "_law_dice" sDice ["_law_script", "_law_at"] fD dD) (GD : FnOk P w K mg base CX0 1 fD dD ["_law_script", "_law_at"] (spDice K))
    (ARi : Fn K mg "_law_right" sLR4 ["_law_dice_here"] fRi dRi) (GRi : FnOk P w K mg base CX0 9 fRi dRi ["_law_dice_here"] spLR4)
    (MI : Mk K C fI) (GI : FnOk P w K mg base (L2.CX P w) 5 fI dI ["self", "letters", "table", "ends"] (spMInit K C cM)) (bI : Binds K dI ["self", "letters", "table", "ends"] [])
    (AFr : Fn K mg "is_order_free" sFree ["machine"] fFr dFr) (GFr : FnOk P w K mg base CX0 8 fFr dFr ["machine"] (spFree C))
    (AKn : Fn K mg "knots" sKnots ["machine"] fKn dKn) (GKn : FnOk P w K mg base CX0 3 fKn dKn ["machine"] (spKnots C))
    (ASW : Fn K mg "state_words" sStW ["machine"] fSW dSW) (GSW : FnOk P w K mg base CX0 3 fSW dSW ["machine"] (spStW C)) : FnOk P w K mg base CX0 10 f fd ["_law_script"] (spLaw4 K) := by
  refine F.ok scL4 (fun vs H Q E h => ?_) (fun cdv A outer s H vs Q E hr h => ?_)
  · obtain ⟨s, ns, rfl, _⟩ := h
    rfl
  · obtain ⟨sc, ns, rfl, hS, hl, q⟩ := h
    have hr1 : Room 1 _ := hr.mono (by decide)
    have hr3 : Room 3 _ := hr.mono (by decide)
    have hr6 : Room 6 _ := hr.mono (by decide)
    have hr8 : Room 8 _ := hr.mono (by decide)
    have hu70 : (A.deeper (envOfC "law" (defScope sLaw4) s.heap.objs.size f cdv)).units + 70 < cLine := by
      have := hr.un
      omega
    refine ⟨_, pss_cons (ps_for PassesOwn.never rfl (pi_range1 rfl TT.rng (pa_cons (pe_callB (call_max2 rfl) (by rfl) TT.max (by decide +kernel) (pa_cons pe_int (pa_cons (pe_callB (call_min2 rfl) (by rfl) TT.min (by decide +kernel) (pa_cons pe_int (pa_cons (pe_callB call_len_seq (by rfl) TT.len PySem.boot_len (pa_cons (pv 0) pa_nil)) pa_nil))) pa_nil))) pa_nil)) (pg_name (i := 1) scL4.nd rfl (Or.inl rfl))
        (pss_cons (ps_set (i := 2) scL4.nd rfl (Or.inl rfl) (pe_call (E := E0) GD hr1 rfl AD.g AD.F.kp AD.b .nil pass0 (pa_cons (pv 0) (pa_cons (pv 1) pa_nil))))
        (pss_one (ps_for PassesOwn.never rfl (pi_range1 rfl TT.rng (pa_cons pe_int pa_nil)) (pg_name (i := 3) scL4.nd rfl (Or.inl rfl))
          (pss_one (ps_if (pt_not (pt_val (pe_call (E := E0) GRi hr rfl ARi.g ARi.F.kp ARi.b .nil pass0 (pa_cons (pv 2) pa_nil)))) (pss_one (ps_ret pe_bl)) pss_nil))))))
      (pss_cons (ps_par (i := 4) (j := 5) (by rfl) scL4.nd rfl rfl (by decide) rfl rfl
        (pa_cons (pe_make (E := fun _ _ _ => False) MI GI hr6 rfl M.gC bI .nil no_pass (pa_cons pe_str (pa_cons (pe_tup (pa_cons (pe_tup (pa_cons pe_int (pa_cons pe_int pa_nil))) (pa_cons (pe_tup (pa_cons pe_int (pa_cons pe_int pa_nil))) pa_nil))) (pa_cons (pe_tup (pa_cons pe_int pa_nil)) pa_nil))))
        (pa_cons (pe_make (E := fun _ _ _ => False) MI GI hr6 rfl M.gC bI .nil no_pass (pa_cons pe_str (pa_cons (pe_tup (pa_cons (pe_tup (pa_cons pe_int (pa_cons pe_int pa_nil))) (pa_cons (pe_tup (pa_cons pe_int (pa_cons pe_int pa_nil))) pa_nil))) (pa_cons (pe_tup (pa_cons pe_int pa_nil)) pa_nil)))) pa_nil)) (by rfl))
      (pss_cons (ps_set (i := 6) scL4.nd rfl (Or.inl rfl) (pe_lst (pa_cons (pe_call (E := E0) GFr hr8 rfl AFr.g AFr.F.kp AFr.b .nil pass0 (pa_cons (pv 4) pa_nil)) (pa_cons (pe_call (E := E0) GFr hr8 rfl AFr.g AFr.F.kp AFr.b .nil pass0 (pa_cons (pv 5) pa_nil))
        (pa_cons (pe_call (E := E0) GKn hr3 rfl AKn.g AKn.F.kp AKn.b .nil pass0 (pa_cons (pv 5) pa_nil)) (pa_cons (pe_call (E := E0) GSW hr3 rfl ASW.g ASW.F.kp ASW.b .nil pass0 (pa_cons (pv 4) pa_nil)) pa_nil))))))
      (pss_one (ps_ret (pe_cmpR (op_eqM hu70) (pv 6) (pe_lst (pa_cons pe_bl (pa_cons pe_bl (pa_cons (pe_tup (pa_cons (pe_tup (pa_cons pe_int (pa_cons pe_int pa_nil))) pa_nil)) (pa_cons (pe_disp (pps_cons pe_int pe_str (pps_cons pe_int pe_str pps_nil)) (by rfl) (by rfl) (fun z => by cases z) (by decide)) pa_nil))))) (nomark _)))))), ?_⟩
    have len : ((ns.map V.int).length : Int) ≤ 63 := by
      rw [List.length_map]
      omega
    have len0 : (0 : Int) ≤ ((ns.map V.int).length : Int) := Int.natCast_nonneg _
    refine ⟨_, rfl, sc, _, rfl, .inl hS, _, _, rfl, _, _, rfl, _, rfl, by split <;> split <;> omega, by split <;> split <;> omega, ?_⟩
    refine for_range (lo := 0) (fun i σ H1 => (∃ a b c d e f', σ = [some (.ref sc), a, b, c, d, e, f']) ∧ ExtN H H1) ⟨⟨_, _, _, _, _, _, rfl⟩, ExtN.refl H⟩ ?_ ?_
    · rintro i σ H1 hi ⟨⟨a, b, c, d, e, f', rfl⟩, s1⟩
      refine ⟨_, rfl, _, rfl, sc, ns, _, rfl, seq4 s1 hS, by omega, fun p H2 hp s2 hD => ?_⟩
      refine ⟨3, rfl, by omega, by omega, ?_⟩
      have free : ∀ b o, H b = some o → (∀ ps, o ≠ .tbl ps) → b ≠ p := fun b o e n => ne_of_none (s1 b o e n) hp
      refine for_range (lo := 0) (n := 3) (fun j σ H3 => (∃ a c d e f', σ = [some (.ref sc), a, some (.ref p), c, d, e, f']) ∧ ExtN H H3 ∧ DiceAt H3 p) ⟨⟨_, _, _, _, _, rfl⟩, fun b o e n => s2 _ _ (s1 b o e n), hD⟩ ?_ ?_
      · rintro j σ H3 hj ⟨⟨a, c, d, e, f', rfl⟩, s3, hD3⟩
        refine ⟨_, rfl, p, rfl, hD3, fun H4 hD4 b4 => ⟨true, rfl, ?_⟩⟩
        exact ⟨⟨_, _, _, _, _, rfl⟩, fun b o e n => b4 _ _ (s3 b o e n) (free b o e n), hD4⟩
      · rintro σ H3 ⟨⟨a, c, d, e, f', rfl⟩, s3, hD3⟩
        exact ⟨⟨_, _, _, _, _, _, rfl⟩, s3⟩
    rintro σ H1 ⟨⟨a, b, c, d, e, f', rfl⟩, _⟩
    dsimp only
    refine lit_par ?_
    refine lit_mac (mac_two (e := 0) okE (by decide)) fun o1 H2 no1 s2 mac1 => ?_
    refine lit_mac (mac_two (e := 1) okC (by decide)) fun o2 H3 no2 s3 mac2 => ?_
    refine ⟨_, rfl, o1, abW, tbE, [0], 2, rfl, mac1.same s3, ab_let, okE, by decide, by decide, by decide, by decide, fun kp1 en1 H4 s4 l1 => ?_⟩
    have e1 : orderB kp1 abW.length = true := (order_iff ab_let l1 okE (by decide)).mpr free_even
    rw [e1]
    refine ⟨_, rfl, o2, abW, tbC, [1], 2, rfl, mac2.same s4, ab_let, okC, by decide, by decide, by decide, by decide, fun kp2 en2 H5 s5 l2 => ?_⟩
    have e2 : orderB kp2 abW.length = false := Bool.eq_false_iff.mpr fun z => not_free ((order_iff ab_let l2 okC (by decide)).mp z)
    rw [e2]
    have s35 := s4.trans s5
    refine ⟨_, rfl, o2, abW, tbC, [1], 2, rfl, mac2.same s35, okC, by decide, by decide, fun kp zs H6 nkp s6 hkp tus kno => ?_⟩
    have ez : zs.map (·.2) = [[0, 1]] := KnotsOk.one kno knots_two
    refine ⟨_, rfl, o1, abW, tbE, [0], 2, rfl, mac1.same (s3.trans (s35.trans s6)), okE, by decide, by decide, by decide, fun D kvs ns' H7 nD s7 hD keys asc perm wok => ?_⟩
    rw [wayE] at perm
    rw [wayPE] at wok
    have en : ns' = [0, 1] := List.Perm.eq_of_pairwise (le := fun x y : Int => x ≤ y) (fun _ _ _ _ => Int.le_antisymm) (asc.imp fun h => Int.le_of_lt h) (by decide) perm
    subst en
    refine ⟨by show 4 ≤ sizeLine; decide, fun l3 n3 => ?_⟩
    have s8 := same_upd (o := .lst [.bl true, .bl false, .ref kp, .ref D]) n3
    have h8 : (upd H7 l3 (.lst [.bl true, .bl false, .ref kp, .ref D])) l3 = some (.lst [.bl true, .bl false, .ref kp, .ref D]) := upd_same
    have hkp8 := s8 _ _ (s7 _ _ hkp)
    have hD8 := s8 _ _ hD
    have tus8 : Tus (upd H7 l3 (.lst [.bl true, .bl false, .ref kp, .ref D])) zs := fun z hz => s8 _ _ (s7 _ _ (tus z hz))
    generalize upd H7 l3 (.lst [.bl true, .bl false, .ref kp, .ref D]) = H8 at h8 hkp8 hD8 tus8 ⊢
    refine ⟨_, rfl, by show 2 ≤ sizeLine; decide, fun t1 n1 => ⟨by show 1 ≤ sizeLine; decide, fun t2 n2 => ?_⟩⟩
    have s9 := same_upd (o := .tup [.int 0, .int 1]) n1
    have h9 : (upd H8 t1 (.tup [.int 0, .int 1])) t1 = some (oTup [0, 1]) := upd_same
    generalize upd H8 t1 (.tup [.int 0, .int 1]) = H9 at n2 s9 h9 ⊢
    have s10 := same_upd (o := .tup [.ref t1]) n2
    have h10 : (upd H9 t2 (.tup [.ref t1])) t2 = some (.tup (refT [(t1, [0, 1])])) := upd_same
    generalize upd H9 t2 (.tup [.ref t1]) = H10 at s10 h10 ⊢
    refine fun m hm => ⟨upd_same, [((Sum.inl 0 : Key), .str (tx [])), ((Sum.inl 1 : Key), .str (tx [97]))], rfl, by decide, ?_⟩
    have em : mergeK [] [((Sum.inl 0 : Key), V.str (tx [])), ((Sum.inl 1 : Key), V.str (tx [97]))] = [((Sum.inl 0 : Key), V.str (tx [])), ((Sum.inl 1 : Key), V.str (tx [97]))] := by rfl
    refine ⟨by show 4 ≤ sizeLine; decide, fun l4 n4 => ?_⟩
    rw [upd_upd, em] at n4 ⊢
    have s11 := same_upd (o := .dK [((Sum.inl 0 : Key), V.str (tx [])), ((Sum.inl 1 : Key), V.str (tx [97]))]) hm
    have h11 : (upd H10 m (.dK [((Sum.inl 0 : Key), V.str (tx [])), ((Sum.inl 1 : Key), V.str (tx [97]))])) m = some (.dK [((Sum.inl 0 : Key), V.str (tx [])), ((Sum.inl 1 : Key), V.str (tx [97]))]) := upd_same
    generalize upd H10 m (.dK [((Sum.inl 0 : Key), V.str (tx [])), ((Sum.inl 1 : Key), V.str (tx [97]))]) = H11 at s11 h11 n4 ⊢
    have s12 := same_upd (o := .lst [.bl true, .bl false, .ref t2, .ref m]) n4
    have h12 : (upd H11 l4 (.lst [.bl true, .bl false, .ref t2, .ref m])) l4 = some (.lst [.bl true, .bl false, .ref t2, .ref m]) := upd_same
    have h11' := s12 _ _ h11
    have s8c := s9.trans (s10.trans (s11.trans s12))
    have sAc := s11.trans s12
    have sBc := s10.trans sAc
    generalize upd H11 l4 (.lst [.bl true, .bl false, .ref t2, .ref m]) = H12 at h12 h11' s8c sAc sBc ⊢
    refine ⟨l3, l4, _, _, rfl, rfl, SqL.of (s8c _ _ h8), SqL.of h12, .cons (.inl (.inl ⟨rfl, rfl⟩)) (.cons (.inl (.inl ⟨rfl, rfl⟩)) (.cons (.inr ⟨.tuple ([[0, 1]].map dTu), ?_, ?_, by decide, by decide⟩) (.cons (.inl (.inr (.inr (.inr ⟨D, m, kvs, _, rfl, rfl, s8c _ _ hD8, h11', ?_, fun p hp => ?_⟩)))) .nil))), q _⟩
    · rw [← ez]
      exact .tup (SqT.of (s8c _ _ hkp8)) (dp_tus fun z hz => s8c _ _ (tus8 z hz))
    · exact .tup (SqT.of (sAc _ _ h10)) (dp_tus (zs := [(t1, [0, 1])]) fun z hz => by
        rw [List.mem_singleton.mp hz]
        exact sBc _ _ h9)
    · exact keys.len
    · have hk : p.1 ∈ [(0 : Int), 1].map (Sum.inl : Int → Key) := (show kvs.map (·.1) = [(0 : Int), 1].map Sum.inl from keys) ▸ List.mem_map_of_mem (f := (·.1)) hp
      have nd : (kvs.map (·.1)).Nodup := by
        rw [show kvs.map (·.1) = [(0 : Int), 1].map Sum.inl from keys]
        decide
      have v3 := val_mem nd hp
      simp only [List.map_cons, List.map_nil, List.mem_cons, List.mem_nil_iff, or_false] at hk
      rcases hk with e | e
      · have v1 := wok 0 [] (.head _)
        rw [e, v1] at v3
        rw [e, ← Option.some.inj v3]
        exact ⟨.str (tx []), rfl, .inl ⟨rfl, rfl⟩⟩
      · have v1 := wok 1 [0] (.tail _ (.head _))
        rw [e, v1] at v3
        rw [e, ← Option.some.inj v3]
        exact ⟨.str (tx [97]), rfl, .inl ⟨rfl, rfl⟩⟩
end
end WK
set_option Elab.async false
set_option linter.all false
set_option maxRecDepth 100000
set_option maxHeartbeats 8000000
namespace WK
open PySem L2 PyProof.Rows LCX K1 FV DP DL LamX RM NS
open TX (sg sigs)
open PySem.W (Frag kitOne)
abbrev sMLet : Stmt := inClass (top 43) 1
abbrev sMTab : Stmt := inClass (top 43) 2
theorem binds_one {K : Frag} {f T : Addr} {e : Value} {j : Option Addr} {u : Value} {m : Nat} {wv : Array (Option Value)} (lt : K.lookup T = some ⟨e, j, .seq #[u] m, wv⟩) {fd : FuncData} {a b c d : Str} (hd : fd.defaults = .ref T)
    (hb : ∀ x1 x2 x3 x4 : Value, ∃ k, bindArgs fd ⟨[x1, x2, x3, x4], []⟩ = seqItems? fd.defaults >>= k ∧ k (some #[u]) = pure [(a, x1), (b, x2), (c, x3), (d, x4)]) : L2.Binds K fd [a, b, c, d] [] := fun s us hin hl => by
  match us, hl with
  | [x1, x2, x3, x4], _ =>
    obtain ⟨k, h1, h2⟩ := hb x1 x2 x3 x4
    exact PySem.W.binds_K hin hd lt rfl h1 h2
theorem binds_dfl {K : Frag} {f T : Addr} {e : Value} {j : Option Addr} {u : Value} {m : Nat} {wv : Array (Option Value)} (lt : K.lookup T = some ⟨e, j, .seq #[u] m, wv⟩) {fd : FuncData} {a b c d : Str} (hd : fd.defaults = .ref T)
    (hb : ∀ x1 x2 x3 : Value, ∃ k, bindArgs fd ⟨[x1, x2, x3], []⟩ = seqItems? fd.defaults >>= k ∧ k (some #[u]) = pure [(a, x1), (b, x2), (c, x3), (d, u)]) : L2.Binds K fd [a, b, c, d] [u] := fun s us hin hl => by
  have three : us.length = 3 := by
    rw [List.length_append] at hl
    exact Nat.succ.inj hl
  match us, three with
  | [x1, x2, x3], _ =>
    obtain ⟨k, h1, h2⟩ := hb x1 x2 x3
    exact PySem.W.binds_K hin hd lt rfl h1 h2
theorem all_mk {l : PySem.W.OpenLaw} {w : World} {K : Frag} {h : Heap} {mg : Str → Option Value} {cD CM cI fa pml pmt t18 t44 f0 f1 f2 f3 f4 f5 f6 f7 f8 f9 f10 f11 f12 f13 f14 f15 f16 f17 f18 f19 f20 f21 f22 f23 f24 f25 f26 f27 f28 f29 f30 f31 f32 f33 f34 f35 f36 f37 f38 f39 f40 f41 f42 f43 f44 f45 f46 f47 f48 : Addr} (X : K.In h) (G : h.Ns mainGlobals mg) (hfa : mg "law" = some (.ref fa))
    {rml rmt : List Value} {xLM xMAX_LETTERS xMAX_STATES : Tok} {e18 e44 u44 : Value} {j18 j44 : Option Addr} {m18 m44 : Nat} {w18 w44 : Array (Option Value)} {od0 an0 od1 an1 od2 an2 od3 an3 od4 an4 od5 an5 od6 an6 od7 an7 od8 an8 od9 an9 od10 an10 od11 an11 od12 an12 od13 an13 od14 an14 od15 an15 od16 an16 od17 an17 od18 an18 od19 an19 od20 an20 od21 an21 od22 an22 od23 an23 od24 an24 od25 an25 od26 an26 od27 an27 od28 an28 od29 an29 od30 an30 od31 an31 od32 an32 od33 an33 od34 an34 od35 an35 od36 an36 od37 an37 od38 an38 od39 an39 od40 an40 od41 an41 od42 an42 od43 an43 od44 an44 od45 an45 od46 an46 od47 an47 od48 an48 : Option Addr} {sl0 sl1 sl2 sl3 sl4 sl5 sl6 sl7 sl8 sl9 sl10 sl11 sl12 sl13 sl14 sl15 sl16 sl17 sl18 sl19 sl20 sl21 sl22 sl23 sl24 sl25 sl26 sl27 sl28 sl29 sl30 sl31 sl32 sl33 sl34 sl35 sl36 sl37 sl38 sl39 sl40 sl41 sl42 sl43 sl44 sl45 sl46 sl47 sl48 : Array (Option Value)} {oc0 kV0 dc0 pm0 ct0 cd0 oc1 kV1 dc1 pm1 ct1 cd1 oc2 kV2 dc2 pm2 ct2 cd2 oc3 kV3 dc3 pm3 ct3 cd3 oc4 kV4 dc4 pm4 ct4 cd4 oc5 kV5 dc5 pm5 ct5 cd5 oc6 kV6 dc6 pm6 ct6 cd6 oc7 kV7 dc7 pm7 ct7 cd7 oc8 kV8 dc8 pm8 ct8 cd8 oc9 kV9 dc9 pm9 ct9 cd9 oc10 kV10 dc10 pm10 ct10 cd10 oc11 kV11 dc11 pm11 ct11 cd11 oc12 kV12 dc12 pm12 ct12 cd12 oc13 kV13 dc13 pm13 ct13 cd13 oc14 kV14 dc14 pm14 ct14 cd14 oc15 kV15 dc15 pm15 ct15 cd15 oc16 kV16 dc16 pm16 ct16 cd16 oc17 kV17 dc17 pm17 ct17 cd17 oc18 kV18 dc18 pm18 ct18 cd18 oc19 kV19 dc19 pm19 ct19 cd19 oc20 kV20 dc20 pm20 ct20 cd20 oc21 kV21 dc21 pm21 ct21 cd21 oc22 kV22 dc22 pm22 ct22 cd22 oc23 kV23 dc23 pm23 ct23 cd23 oc24 kV24 dc24 pm24 ct24 cd24 oc25 kV25 dc25 pm25 ct25 cd25 oc26 kV26 dc26 pm26 ct26 cd26 oc27 kV27 dc27 pm27 ct27 cd27 oc28 kV28 dc28 pm28 ct28 cd28 oc29 kV29 dc29 pm29 ct29 cd29 oc30 kV30 dc30 pm30 ct30 cd30 oc31 kV31 dc31 pm31 ct31 cd31 oc32 kV32 dc32 pm32 ct32 cd32 oc33 kV33 dc33 pm33 ct33 cd33 oc34 kV34 dc34 pm34 ct34 cd34 oc35 kV35 dc35 pm35 ct35 cd35 oc36 kV36 dc36 pm36 ct36 cd36 oc37 kV37 dc37 pm37 ct37 cd37 oc38 kV38 dc38 pm38 ct38 cd38 oc39 kV39 dc39 pm39 ct39 cd39 oc40 kV40 dc40 pm40 ct40 cd40 oc41 kV41 dc41 pm41 ct41 cd41 oc42 kV42 dc42 pm42 ct42 cd42 oc43 kV43 dc43 pm43 ct43 cd43 oc44 kV44 dc44 pm44 ct44 cd44 oc45 kV45 dc45 pm45 ct45 cd45 oc46 kV46 dc46 pm46 ct46 cd46 oc47 kV47 dc47 pm47 ct47 cd47 oc48 kV48 dc48 pm48 ct48 cd48 : Value}
    (gd : PySem.W.nsIn K mainGlobals "Made" = some (some (.ref cD)))
    (gm : PySem.W.nsIn K mainGlobals "Machine" = some (some (.ref CM)))
    (pgd : PySem.W.plainGet K cD Str.empty = true)
    (hdd : PySem.W.hasDictIn K cD = true)
    (pod : PySem.W.plainOver K cD = true)
    (sad : PySem.W.findIn K (.ref cD) "__setattr__" = some (some (.builtin "object.__setattr__")))
    (ccd : PySem.W.findIn K (.ref cD) "__class__" = some (some (.builtin "object.__class__")))
    (obd : PySem.W.mroIn K cD (.type "object") = some true)
    (mkd : PySem.W.makesIn K cD = true)
    (kCd : PySem.W.keepIn K (.ref cD) = true)
    (id : PySem.W.findIn K (.ref cD) "__init__" = some (some (.ref f43)))
    (nid : PySem.W.isFn K (.ref f43) = true)
    (pgm : PySem.W.plainGet K CM Str.empty = true)
    (hdm : PySem.W.hasDictIn K CM = true)
    (pom : PySem.W.plainOver K CM = true)
    (sam : PySem.W.findIn K (.ref CM) "__setattr__" = some (some (.builtin "object.__setattr__")))
    (ccm : PySem.W.findIn K (.ref CM) "__class__" = some (some (.builtin "object.__class__")))
    (obm : PySem.W.mroIn K CM (.type "object") = some true)
    (mkm : PySem.W.makesIn K CM = true)
    (kCm : PySem.W.keepIn K (.ref CM) = true)
    (im : PySem.W.findIn K (.ref CM) "__init__" = some (some (.ref f44)))
    (nim : PySem.W.isFn K (.ref f44) = true)
    (cn : PySem.W.specialIn K (.builtin "object.__class__") "__get__" = some (some (.builtin "getset_descriptor.__get__")))
    (ct : PySem.W.takesIn K (.builtin "object.__class__") = some true)
    (nR : PySem.W.findIn K (.ref cD) "rows" = some none)
    (nMT : PySem.W.findIn K (.ref CM) "_table" = some none)
    (nML : PySem.W.findIn K (.ref CM) "_letters" = some none)
    (nME : PySem.W.findIn K (.ref CM) "_ends" = some none)
    (paml : PySem.W.findIn K (.ref CM) "letters" = some (some (.ref pml)))
    (pg_ml : PySem.W.specialIn K (.ref pml) "__get__" = some (some (.builtin "property.__get__")))
    (pt_ml : PySem.W.takesIn K (.ref pml) = some true)
    (pr_ml : PySem.W.recIn K pml "property" = some (.ref f45 :: rml))
    (pamt : PySem.W.findIn K (.ref CM) "table" = some (some (.ref pmt)))
    (pg_mt : PySem.W.specialIn K (.ref pmt) "__get__" = some (some (.builtin "property.__get__")))
    (pt_mt : PySem.W.takesIn K (.ref pmt) = some true)
    (pr_mt : PySem.W.recIn K pmt "property" = some (.ref f46 :: rmt))
    (a47 : PySem.W.findIn K (.ref CM) "least" = some (some (.ref f47)))
    (n47 : PySem.W.isFn K (.ref f47) = true)
    (a48 : PySem.W.findIn K (.ref CM) "__invert__" = some (some (.ref f48)))
    (n48 : PySem.W.isFn K (.ref f48) = true)
    (kim : kitOne K (.ref CM) (.ref CM) = some true)
    (kitD : (plainTys.all fun t => kitOne K (.type t) (.ref cD) == some false) = true)
    (gI : PySem.W.nsIn K mainGlobals "InvalidMachine" = some (some (.ref cI)))
    (xI : PySem.W.excIn K cI [.type "ValueError", .type "Exception", .type "BaseException", .type "object"] "ValueError.__new__" = true)
    (kI : PySem.W.keepIn K (.ref cI) = true)
    (bI : PySem.W.subIn K (.ref cI) (.type "BaseException") = some true)
    (tI : PySem.W.typeIn K (.ref cI) = some (.type "type"))
    (d0 : PySem.W.nsIn K mainGlobals "ways" = some (some (.ref f0)))
    (l0 : K.lookup f0 = some ⟨oc0, od0, .func (PySem.W.fnOf "ways" "ways" (defArgs sWays) (defBody sWays) (defScope sWays) .none kV0 dc0 pm0 an0 cd0 ct0), sl0⟩)
    (q0 : PySem.W.codeIn K cd0 "ways" = true)
    (k0 : PySem.W.keepIn K (.ref f0) = true)
    (d1 : PySem.W.nsIn K mainGlobals "word_along" = some (some (.ref f1)))
    (l1 : K.lookup f1 = some ⟨oc1, od1, .func (PySem.W.fnOf "word_along" "word_along" (defArgs sAlong) (defBody sAlong) (defScope sAlong) .none kV1 dc1 pm1 an1 cd1 ct1), sl1⟩)
    (q1 : PySem.W.codeIn K cd1 "word_along" = true)
    (k1 : PySem.W.keepIn K (.ref f1) = true)
    (d2 : PySem.W.nsIn K mainGlobals "trimmed" = some (some (.ref f2)))
    (l2 : K.lookup f2 = some ⟨oc2, od2, .func (PySem.W.fnOf "trimmed" "trimmed" (defArgs sTrim) (defBody sTrim) (defScope sTrim) .none kV2 dc2 pm2 an2 cd2 ct2), sl2⟩)
    (q2 : PySem.W.codeIn K cd2 "trimmed" = true)
    (k2 : PySem.W.keepIn K (.ref f2) = true)
    (d3 : PySem.W.nsIn K mainGlobals "numbered" = some (some (.ref f3)))
    (l3 : K.lookup f3 = some ⟨oc3, od3, .func (PySem.W.fnOf "numbered" "numbered" (defArgs sNumd) (defBody sNumd) (defScope sNumd) .none kV3 dc3 pm3 an3 cd3 ct3), sl3⟩)
    (q3 : PySem.W.codeIn K cd3 "numbered" = true)
    (k3 : PySem.W.keepIn K (.ref f3) = true)
    (d4 : PySem.W.nsIn K mainGlobals "refined" = some (some (.ref f4)))
    (l4 : K.lookup f4 = some ⟨oc4, od4, .func (PySem.W.fnOf "refined" "refined" (defArgs sRefd) (defBody sRefd) (defScope sRefd) .none kV4 dc4 pm4 an4 cd4 ct4), sl4⟩)
    (q4 : PySem.W.codeIn K cd4 "refined" = true)
    (k4 : PySem.W.keepIn K (.ref f4) = true)
    (d5 : PySem.W.nsIn K mainGlobals "least_parts" = some (some (.ref f5)))
    (l5 : K.lookup f5 = some ⟨oc5, od5, .func (PySem.W.fnOf "least_parts" "least_parts" (defArgs sLP) (defBody sLP) (defScope sLP) .none kV5 dc5 pm5 an5 cd5 ct5), sl5⟩)
    (q5 : PySem.W.codeIn K cd5 "least_parts" = true)
    (k5 : PySem.W.keepIn K (.ref f5) = true)
    (d6 : PySem.W.nsIn K mainGlobals "knots_of" = some (some (.ref f6)))
    (l6 : K.lookup f6 = some ⟨oc6, od6, .func (PySem.W.fnOf "knots_of" "knots_of" (defArgs sKnotsOf) (defBody sKnotsOf) (defScope sKnotsOf) .none kV6 dc6 pm6 an6 cd6 ct6), sl6⟩)
    (q6 : PySem.W.codeIn K cd6 "knots_of" = true)
    (k6 : PySem.W.keepIn K (.ref f6) = true)
    (d7 : PySem.W.nsIn K mainGlobals "_turned_round" = some (some (.ref f7)))
    (l7 : K.lookup f7 = some ⟨oc7, od7, .func (PySem.W.fnOf "_turned_round" "_turned_round" (defArgs sTurned) (defBody sTurned) (defScope sTurned) .none kV7 dc7 pm7 an7 cd7 ct7), sl7⟩)
    (q7 : PySem.W.codeIn K cd7 "_turned_round" = true)
    (k7 : PySem.W.keepIn K (.ref f7) = true)
    (d8 : PySem.W.nsIn K mainGlobals "_finished" = some (some (.ref f8)))
    (l8 : K.lookup f8 = some ⟨oc8, od8, .func (PySem.W.fnOf "_finished" "_finished" (defArgs sFinished) (defBody sFinished) (defScope sFinished) .none kV8 dc8 pm8 an8 cd8 ct8), sl8⟩)
    (q8 : PySem.W.codeIn K cd8 "_finished" = true)
    (k8 : PySem.W.keepIn K (.ref f8) = true)
    (d9 : PySem.W.nsIn K mainGlobals "_not_taken" = some (some (.ref f9)))
    (l9 : K.lookup f9 = some ⟨oc9, od9, .func (PySem.W.fnOf "_not_taken" "_not_taken" (defArgs sNotTaken) (defBody sNotTaken) (defScope sNotTaken) .none kV9 dc9 pm9 an9 cd9 ct9), sl9⟩)
    (q9 : PySem.W.codeIn K cd9 "_not_taken" = true)
    (k9 : PySem.W.keepIn K (.ref f9) = true)
    (d10 : PySem.W.nsIn K mainGlobals "is_integer" = some (some (.ref f10)))
    (l10 : K.lookup f10 = some ⟨oc10, od10, .func (PySem.W.fnOf "is_integer" "is_integer" (defArgs sIsInt) (defBody sIsInt) (defScope sIsInt) .none kV10 dc10 pm10 an10 cd10 ct10), sl10⟩)
    (q10 : PySem.W.codeIn K cd10 "is_integer" = true)
    (k10 : PySem.W.keepIn K (.ref f10) = true)
    (d11 : PySem.W.nsIn K mainGlobals "is_number" = some (some (.ref f11)))
    (l11 : K.lookup f11 = some ⟨oc11, od11, .func (PySem.W.fnOf "is_number" "is_number" (defArgs sIsNum) (defBody sIsNum) (defScope sIsNum) .none kV11 dc11 pm11 an11 cd11 ct11), sl11⟩)
    (q11 : PySem.W.codeIn K cd11 "is_number" = true)
    (k11 : PySem.W.keepIn K (.ref f11) = true)
    (d12 : PySem.W.nsIn K mainGlobals "ascends" = some (some (.ref f12)))
    (l12 : K.lookup f12 = some ⟨oc12, od12, .func (PySem.W.fnOf "ascends" "ascends" (defArgs sAsc) (defBody sAsc) (defScope sAsc) .none kV12 dc12 pm12 an12 cd12 ct12), sl12⟩)
    (q12 : PySem.W.codeIn K cd12 "ascends" = true)
    (k12 : PySem.W.keepIn K (.ref f12) = true)
    (d13 : PySem.W.nsIn K mainGlobals "is_ascending" = some (some (.ref f13)))
    (l13 : K.lookup f13 = some ⟨oc13, od13, .func (PySem.W.fnOf "is_ascending" "is_ascending" (defArgs sIsAsc) (defBody sIsAsc) (defScope sIsAsc) .none kV13 dc13 pm13 an13 cd13 ct13), sl13⟩)
    (q13 : PySem.W.codeIn K cd13 "is_ascending" = true)
    (k13 : PySem.W.keepIn K (.ref f13) = true)
    (d14 : PySem.W.nsIn K mainGlobals "is_table" = some (some (.ref f14)))
    (l14 : K.lookup f14 = some ⟨oc14, od14, .func (PySem.W.fnOf "is_table" "is_table" (defArgs sIsTab) (defBody sIsTab) (defScope sIsTab) .none kV14 dc14 pm14 an14 cd14 ct14), sl14⟩)
    (q14 : PySem.W.codeIn K cd14 "is_table" = true)
    (k14 : PySem.W.keepIn K (.ref f14) = true)
    (d15 : PySem.W.nsIn K mainGlobals "_is_row" = some (some (.ref f15)))
    (l15 : K.lookup f15 = some ⟨oc15, od15, .func (PySem.W.fnOf "_is_row" "_is_row" (defArgs sIsRow) (defBody sIsRow) (defScope sIsRow) .none kV15 dc15 pm15 an15 cd15 ct15), sl15⟩)
    (q15 : PySem.W.codeIn K cd15 "_is_row" = true)
    (k15 : PySem.W.keepIn K (.ref f15) = true)
    (d16 : PySem.W.nsIn K mainGlobals "is_letters" = some (some (.ref f16)))
    (l16 : K.lookup f16 = some ⟨oc16, od16, .func (PySem.W.fnOf "is_letters" "is_letters" (defArgs sIsLet) (defBody sIsLet) (defScope sIsLet) .none kV16 dc16 pm16 an16 cd16 ct16), sl16⟩)
    (q16 : PySem.W.codeIn K cd16 "is_letters" = true)
    (k16 : PySem.W.keepIn K (.ref f16) = true)
    (d17 : PySem.W.nsIn K mainGlobals "is_word" = some (some (.ref f17)))
    (l17 : K.lookup f17 = some ⟨oc17, od17, .func (PySem.W.fnOf "is_word" "is_word" (defArgs sIsWord) (defBody sIsWord) (defScope sIsWord) .none kV17 dc17 pm17 an17 cd17 ct17), sl17⟩)
    (q17 : PySem.W.codeIn K cd17 "is_word" = true)
    (k17 : PySem.W.keepIn K (.ref f17) = true)
    (d18 : PySem.W.nsIn K mainGlobals "least_machine" = some (some (.ref f18)))
    (l18 : K.lookup f18 = some ⟨oc18, od18, .func (PySem.W.fnOf "least_machine" "least_machine" (defArgs sLM) (defBody sLM) (defScope sLM) (.ref t18) kV18 dc18 pm18 an18 cd18 ct18), sl18⟩)
    (q18 : PySem.W.codeIn K cd18 "least_machine" = true)
    (k18 : PySem.W.keepIn K (.ref f18) = true)
    (d19 : PySem.W.nsIn K mainGlobals "need_machines" = some (some (.ref f19)))
    (l19 : K.lookup f19 = some ⟨oc19, od19, .func (PySem.W.fnOf "need_machines" "need_machines" (defArgs sNeedMs) (defBody sNeedMs) (defScope sNeedMs) .none kV19 dc19 pm19 an19 cd19 ct19), sl19⟩)
    (q19 : PySem.W.codeIn K cd19 "need_machines" = true)
    (k19 : PySem.W.keepIn K (.ref f19) = true)
    (d20 : PySem.W.nsIn K mainGlobals "state_words" = some (some (.ref f20)))
    (l20 : K.lookup f20 = some ⟨oc20, od20, .func (PySem.W.fnOf "state_words" "state_words" (defArgs sStW) (defBody sStW) (defScope sStW) .none kV20 dc20 pm20 an20 cd20 ct20), sl20⟩)
    (q20 : PySem.W.codeIn K cd20 "state_words" = true)
    (k20 : PySem.W.keepIn K (.ref f20) = true)
    (d21 : PySem.W.nsIn K mainGlobals "knots" = some (some (.ref f21)))
    (l21 : K.lookup f21 = some ⟨oc21, od21, .func (PySem.W.fnOf "knots" "knots" (defArgs sKnots) (defBody sKnots) (defScope sKnots) .none kV21 dc21 pm21 an21 cd21 ct21), sl21⟩)
    (q21 : PySem.W.codeIn K cd21 "knots" = true)
    (k21 : PySem.W.keepIn K (.ref f21) = true)
    (d22 : PySem.W.nsIn K mainGlobals "is_order_free" = some (some (.ref f22)))
    (l22 : K.lookup f22 = some ⟨oc22, od22, .func (PySem.W.fnOf "is_order_free" "is_order_free" (defArgs sFree) (defBody sFree) (defScope sFree) .none kV22 dc22 pm22 an22 cd22 ct22), sl22⟩)
    (q22 : PySem.W.codeIn K cd22 "is_order_free" = true)
    (k22 : PySem.W.keepIn K (.ref f22) = true)
    (d23 : PySem.W.nsIn K mainGlobals "_law_dice" = some (some (.ref f23)))
    (l23 : K.lookup f23 = some ⟨oc23, od23, .func (PySem.W.fnOf "_law_dice" "_law_dice" (defArgs sDice) (defBody sDice) (defScope sDice) .none kV23 dc23 pm23 an23 cd23 ct23), sl23⟩)
    (q23 : PySem.W.codeIn K cd23 "_law_dice" = true)
    (k23 : PySem.W.keepIn K (.ref f23) = true)
    (d24 : PySem.W.nsIn K mainGlobals "_law_roll" = some (some (.ref f24)))
    (l24 : K.lookup f24 = some ⟨oc24, od24, .func (PySem.W.fnOf "_law_roll" "_law_roll" (defArgs sRoll) (defBody sRoll) (defScope sRoll) .none kV24 dc24 pm24 an24 cd24 ct24), sl24⟩)
    (q24 : PySem.W.codeIn K cd24 "_law_roll" = true)
    (k24 : PySem.W.keepIn K (.ref f24) = true)
    (d25 : PySem.W.nsIn K mainGlobals "_law_one_of" = some (some (.ref f25)))
    (l25 : K.lookup f25 = some ⟨oc25, od25, .func (PySem.W.fnOf "_law_one_of" "_law_one_of" (defArgs sOne) (defBody sOne) (defScope sOne) .none kV25 dc25 pm25 an25 cd25 ct25), sl25⟩)
    (q25 : PySem.W.codeIn K cd25 "_law_one_of" = true)
    (k25 : PySem.W.keepIn K (.ref f25) = true)
    (d26 : PySem.W.nsIn K mainGlobals "_law_mixed" = some (some (.ref f26)))
    (l26 : K.lookup f26 = some ⟨oc26, od26, .func (PySem.W.fnOf "_law_mixed" "_law_mixed" (defArgs sMixed) (defBody sMixed) (defScope sMixed) .none kV26 dc26 pm26 an26 cd26 ct26), sl26⟩)
    (q26 : PySem.W.codeIn K cd26 "_law_mixed" = true)
    (k26 : PySem.W.keepIn K (.ref f26) = true)
    (d27 : PySem.W.nsIn K mainGlobals "_law_letters" = some (some (.ref f27)))
    (l27 : K.lookup f27 = some ⟨oc27, od27, .func (PySem.W.fnOf "_law_letters" "_law_letters" (defArgs sLetters) (defBody sLetters) (defScope sLetters) .none kV27 dc27 pm27 an27 cd27 ct27), sl27⟩)
    (q27 : PySem.W.codeIn K cd27 "_law_letters" = true)
    (k27 : PySem.W.keepIn K (.ref f27) = true)
    (d28 : PySem.W.nsIn K mainGlobals "_law_action" = some (some (.ref f28)))
    (l28 : K.lookup f28 = some ⟨oc28, od28, .func (PySem.W.fnOf "_law_action" "_law_action" (defArgs sAct) (defBody sAct) (defScope sAct) .none kV28 dc28 pm28 an28 cd28 ct28), sl28⟩)
    (q28 : PySem.W.codeIn K cd28 "_law_action" = true)
    (k28 : PySem.W.keepIn K (.ref f28) = true)
    (d29 : PySem.W.nsIn K mainGlobals "_law_table" = some (some (.ref f29)))
    (l29 : K.lookup f29 = some ⟨oc29, od29, .func (PySem.W.fnOf "_law_table" "_law_table" (defArgs sLTab) (defBody sLTab) (defScope sLTab) .none kV29 dc29 pm29 an29 cd29 ct29), sl29⟩)
    (q29 : PySem.W.codeIn K cd29 "_law_table" = true)
    (k29 : PySem.W.keepIn K (.ref f29) = true)
    (d30 : PySem.W.nsIn K mainGlobals "_law_machine" = some (some (.ref f30)))
    (l30 : K.lookup f30 = some ⟨oc30, od30, .func (PySem.W.fnOf "_law_machine" "_law_machine" (defArgs sLMac) (defBody sLMac) (defScope sLMac) .none kV30 dc30 pm30 an30 cd30 ct30), sl30⟩)
    (q30 : PySem.W.codeIn K cd30 "_law_machine" = true)
    (k30 : PySem.W.keepIn K (.ref f30) = true)
    (d31 : PySem.W.nsIn K mainGlobals "_law_made_machine" = some (some (.ref f31)))
    (l31 : K.lookup f31 = some ⟨oc31, od31, .func (PySem.W.fnOf "_law_made_machine" "_law_made_machine" (defArgs sMade) (defBody sMade) (defScope sMade) .none kV31 dc31 pm31 an31 cd31 ct31), sl31⟩)
    (q31 : PySem.W.codeIn K cd31 "_law_made_machine" = true)
    (k31 : PySem.W.keepIn K (.ref f31) = true)
    (d32 : PySem.W.nsIn K mainGlobals "_law_led" = some (some (.ref f32)))
    (l32 : K.lookup f32 = some ⟨oc32, od32, .func (PySem.W.fnOf "_law_led" "_law_led" (defArgs sLLed) (defBody sLLed) (defScope sLLed) .none kV32 dc32 pm32 an32 cd32 ct32), sl32⟩)
    (q32 : PySem.W.codeIn K cd32 "_law_led" = true)
    (k32 : PySem.W.keepIn K (.ref f32) = true)
    (d33 : PySem.W.nsIn K mainGlobals "_law_has" = some (some (.ref f33)))
    (l33 : K.lookup f33 = some ⟨oc33, od33, .func (PySem.W.fnOf "_law_has" "_law_has" (defArgs sLHas) (defBody sLHas) (defScope sLHas) .none kV33 dc33 pm33 an33 cd33 ct33), sl33⟩)
    (q33 : PySem.W.codeIn K cd33 "_law_has" = true)
    (k33 : PySem.W.keepIn K (.ref f33) = true)
    (d34 : PySem.W.nsIn K mainGlobals "_law_firsts" = some (some (.ref f34)))
    (l34 : K.lookup f34 = some ⟨oc34, od34, .func (PySem.W.fnOf "_law_firsts" "_law_firsts" (defArgs sLFirsts) (defBody sLFirsts) (defScope sLFirsts) .none kV34 dc34 pm34 an34 cd34 ct34), sl34⟩)
    (q34 : PySem.W.codeIn K cd34 "_law_firsts" = true)
    (k34 : PySem.W.keepIn K (.ref f34) = true)
    (d35 : PySem.W.nsIn K mainGlobals "_law_all_words" = some (some (.ref f35)))
    (l35 : K.lookup f35 = some ⟨oc35, od35, .func (PySem.W.fnOf "_law_all_words" "_law_all_words" (defArgs sLAll) (defBody sLAll) (defScope sLAll) .none kV35 dc35 pm35 an35 cd35 ct35), sl35⟩)
    (q35 : PySem.W.codeIn K cd35 "_law_all_words" = true)
    (k35 : PySem.W.keepIn K (.ref f35) = true)
    (d36 : PySem.W.nsIn K mainGlobals "_law_parted" = some (some (.ref f36)))
    (l36 : K.lookup f36 = some ⟨oc36, od36, .func (PySem.W.fnOf "_law_parted" "_law_parted" (defArgs sParted) (defBody sParted) (defScope sParted) .none kV36 dc36 pm36 an36 cd36 ct36), sl36⟩)
    (q36 : PySem.W.codeIn K cd36 "_law_parted" = true)
    (k36 : PySem.W.keepIn K (.ref f36) = true)
    (d37 : PySem.W.nsIn K mainGlobals "_law_reach" = some (some (.ref f37)))
    (l37 : K.lookup f37 = some ⟨oc37, od37, .func (PySem.W.fnOf "_law_reach" "_law_reach" (defArgs sReach) (defBody sReach) (defScope sReach) .none kV37 dc37 pm37 an37 cd37 ct37), sl37⟩)
    (q37 : PySem.W.codeIn K cd37 "_law_reach" = true)
    (k37 : PySem.W.keepIn K (.ref f37) = true)
    (d38 : PySem.W.nsIn K mainGlobals "_law_knots" = some (some (.ref f38)))
    (l38 : K.lookup f38 = some ⟨oc38, od38, .func (PySem.W.fnOf "_law_knots" "_law_knots" (defArgs sLKnots) (defBody sLKnots) (defScope sLKnots) .none kV38 dc38 pm38 an38 cd38 ct38), sl38⟩)
    (q38 : PySem.W.codeIn K cd38 "_law_knots" = true)
    (k38 : PySem.W.keepIn K (.ref f38) = true)
    (d39 : PySem.W.nsIn K mainGlobals "_law_is_free" = some (some (.ref f39)))
    (l39 : K.lookup f39 = some ⟨oc39, od39, .func (PySem.W.fnOf "_law_is_free" "_law_is_free" (defArgs sLFree) (defBody sLFree) (defScope sLFree) .none kV39 dc39 pm39 an39 cd39 ct39), sl39⟩)
    (q39 : PySem.W.codeIn K cd39 "_law_is_free" = true)
    (k39 : PySem.W.keepIn K (.ref f39) = true)
    (d40 : PySem.W.nsIn K mainGlobals "_law_agree" = some (some (.ref f40)))
    (l40 : K.lookup f40 = some ⟨oc40, od40, .func (PySem.W.fnOf "_law_agree" "_law_agree" (defArgs sAgree) (defBody sAgree) (defScope sAgree) .none kV40 dc40 pm40 an40 cd40 ct40), sl40⟩)
    (q40 : PySem.W.codeIn K cd40 "_law_agree" = true)
    (k40 : PySem.W.keepIn K (.ref f40) = true)
    (d41 : PySem.W.nsIn K mainGlobals "_law_right" = some (some (.ref f41)))
    (l41 : K.lookup f41 = some ⟨oc41, od41, .func (PySem.W.fnOf "_law_right" "_law_right" (defArgs sLR4) (defBody sLR4) (defScope sLR4) .none kV41 dc41 pm41 an41 cd41 ct41), sl41⟩)
    (q41 : PySem.W.codeIn K cd41 "_law_right" = true)
    (k41 : PySem.W.keepIn K (.ref f41) = true)
    (d42 : PySem.W.nsIn K mainGlobals "law" = some (some (.ref f42)))
    (l42 : K.lookup f42 = some ⟨oc42, od42, .func (PySem.W.fnOf "law" "law" (defArgs sLaw4) (defBody sLaw4) (defScope sLaw4) .none kV42 dc42 pm42 an42 cd42 ct42), sl42⟩)
    (q42 : PySem.W.codeIn K cd42 "law" = true)
    (k42 : PySem.W.keepIn K (.ref f42) = true)
    (l43 : K.lookup f43 = some ⟨oc43, od43, .func (PySem.W.fnOf "__init__" "Made.__init__" (defArgs sMadeI) (defBody sMadeI) (defScope sMadeI) .none kV43 dc43 pm43 an43 cd43 ct43), sl43⟩)
    (q43 : PySem.W.codeIn K cd43 "Made.__init__" = true)
    (k43 : PySem.W.keepIn K (.ref f43) = true)
    (l44 : K.lookup f44 = some ⟨oc44, od44, .func (PySem.W.fnOf "__init__" "Machine.__init__" (defArgs sMInit) (defBody sMInit) (defScope sMInit) (.ref t44) kV44 dc44 pm44 an44 cd44 ct44), sl44⟩)
    (q44 : PySem.W.codeIn K cd44 "Machine.__init__" = true)
    (k44 : PySem.W.keepIn K (.ref f44) = true)
    (l45 : K.lookup f45 = some ⟨oc45, od45, .func (PySem.W.fnOf "letters" "Machine.letters" (defArgs sMLet) (defBody sMLet) (defScope sMLet) .none kV45 dc45 pm45 an45 cd45 ct45), sl45⟩)
    (q45 : PySem.W.codeIn K cd45 "Machine.letters" = true)
    (k45 : PySem.W.keepIn K (.ref f45) = true)
    (l46 : K.lookup f46 = some ⟨oc46, od46, .func (PySem.W.fnOf "table" "Machine.table" (defArgs sMTab) (defBody sMTab) (defScope sMTab) .none kV46 dc46 pm46 an46 cd46 ct46), sl46⟩)
    (q46 : PySem.W.codeIn K cd46 "Machine.table" = true)
    (k46 : PySem.W.keepIn K (.ref f46) = true)
    (l47 : K.lookup f47 = some ⟨oc47, od47, .func (PySem.W.fnOf "least" "Machine.least" (defArgs sMLeast) (defBody sMLeast) (defScope sMLeast) .none kV47 dc47 pm47 an47 cd47 ct47), sl47⟩)
    (q47 : PySem.W.codeIn K cd47 "Machine.least" = true)
    (k47 : PySem.W.keepIn K (.ref f47) = true)
    (l48 : K.lookup f48 = some ⟨oc48, od48, .func (PySem.W.fnOf "__invert__" "Machine.__invert__" (defArgs sMInv) (defBody sMInv) (defScope sMInv) .none kV48 dc48 pm48 an48 cd48 ct48), sl48⟩)
    (q48 : PySem.W.codeIn K cd48 "Machine.__invert__" = true)
    (k48 : PySem.W.keepIn K (.ref f48) = true)
    (y18 : K.lookup t18 = some ⟨e18, j18, .seq #[Value.int 0 xLM] m18, w18⟩)
    (y44 : K.lookup t44 = some ⟨e44, j44, .seq #[u44] m44, w44⟩)
    (vMAX_LETTERS : PySem.W.nsIn K mainGlobals "MAX_LETTERS" = some (some (.int 3 xMAX_LETTERS)))
    (vMAX_STATES : PySem.W.nsIn K mainGlobals "MAX_STATES" = some (some (.int 4 xMAX_STATES)))
    (z_len : PySem.W.nsIn K mainGlobals "len" = some none)
    (z_int : PySem.W.nsIn K mainGlobals "int" = some none)
    (z_abs : PySem.W.nsIn K mainGlobals "abs" = some none)
    (z_isinstance : PySem.W.nsIn K mainGlobals "isinstance" = some none)
    (z_bool : PySem.W.nsIn K mainGlobals "bool" = some none)
    (z_str : PySem.W.nsIn K mainGlobals "str" = some none)
    (z_all : PySem.W.nsIn K mainGlobals "all" = some none)
    (z_range : PySem.W.nsIn K mainGlobals "range" = some none)
    (z_sorted : PySem.W.nsIn K mainGlobals "sorted" = some none)
    (z_set : PySem.W.nsIn K mainGlobals "set" = some none)
    (z_tuple : PySem.W.nsIn K mainGlobals "tuple" = some none)
    (z_list : PySem.W.nsIn K mainGlobals "list" = some none)
    (z_max : PySem.W.nsIn K mainGlobals "max" = some none)
    (z_min : PySem.W.nsIn K mainGlobals "min" = some none)
    (z_zip : PySem.W.nsIn K mainGlobals "zip" = some none)
    (z_enumerate : PySem.W.nsIn K mainGlobals "enumerate" = some none) :
    LamX.LawAtS l w K CX0 10 63 "_law_script" mg fa h := by
  have e := hfa.symm.trans (PySem.W.mg_of X G d42)
  cases e
  have T : TN mg := ⟨PySem.W.mg_none_of X G z_len, PySem.W.mg_none_of X G z_int, PySem.W.mg_none_of X G z_abs, PySem.W.mg_none_of X G z_isinstance, PySem.W.mg_none_of X G z_bool, PySem.W.mg_none_of X G z_str, PySem.W.mg_none_of X G z_all, PySem.W.mg_none_of X G z_range, PySem.W.mg_none_of X G z_sorted, PySem.W.mg_none_of X G z_set, PySem.W.mg_none_of X G z_tuple, PySem.W.mg_none_of X G z_list, PySem.W.mg_none_of X G z_max, PySem.W.mg_none_of X G z_min, PySem.W.mg_none_of X G z_zip, ⟨_, PySem.W.mg_of X G vMAX_LETTERS⟩⟩
  have en := PySem.W.mg_none_of X G z_enumerate
  have clD : Cls K cD := ⟨pgd, hdd, pod, sad⟩
  have clM : Cls K CM := ⟨pgm, hdm, pom, sam⟩
  have Md : TMd K mg cD := ⟨clD, nR, PySem.W.mg_of X G gd, fun e => .ins e clD ccd cn ct obd⟩
  have M7 : TMk K mg CM cD := ⟨clM, nMT, nML, nME, clD, nR, PySem.W.mg_of X G gm, PySem.W.mg_of X G gd, fun e => .ins e clD ccd cn ct obd⟩
  have YM : SlX.SIsi K CM := ⟨ccm, cn, ct, obm⟩
  have MM : TMc K mg CM cD cI := ⟨clM, nMT, nML, nME, PySem.W.mg_of X G gm, PySem.W.mg_of X G gd, fun t ht => by simpa using List.all_eq_true.mp kitD t ht, PySem.W.mg_of X G gI, xI, kI, bI, tI, ⟨_, PySem.W.mg_of X G vMAX_STATES⟩⟩
  have Rml : PropOf K CM "letters" pml f45 := ⟨paml, pg_ml, pt_ml, _, pr_ml⟩
  have Rmt : PropOf K CM "table" pmt f46 := ⟨pamt, pg_mt, pt_mt, _, pr_mt⟩
  have F0 := fun_mk (st := sWays) l0 q0 k0
  have b0 := F0.binds (ps := ["table", "start"]) fun _ _ _ _ _ _ us hl => match us, hl with | [_, _], _ => rfl
  have A0 : Fn K mg "ways" sWays ["table", "start"] f0 _ := ⟨PySem.W.mg_of X G d0, F0, b0⟩
  have F1 := fun_mk (st := sAlong) l1 q1 k1
  have b1 := F1.binds (ps := ["letters", "found", "row"]) fun _ _ _ _ _ _ us hl => match us, hl with | [_, _, _], _ => rfl
  have A1 : Fn K mg "word_along" sAlong ["letters", "found", "row"] f1 _ := ⟨PySem.W.mg_of X G d1, F1, b1⟩
  have F2 := fun_mk (st := sTrim) l2 q2 k2
  have b2 := F2.binds (ps := ["table", "start"]) fun _ _ _ _ _ _ us hl => match us, hl with | [_, _], _ => rfl
  have A2 : Fn K mg "trimmed" sTrim ["table", "start"] f2 _ := ⟨PySem.W.mg_of X G d2, F2, b2⟩
  have F3 := fun_mk (st := sNumd) l3 q3 k3
  have b3 := F3.binds (ps := ["keys"]) fun _ _ _ _ _ _ us hl => match us, hl with | [_], _ => rfl
  have A3 : Fn K mg "numbered" sNumd ["keys"] f3 _ := ⟨PySem.W.mg_of X G d3, F3, b3⟩
  have F4 := fun_mk (st := sRefd) l4 q4 k4
  have b4 := F4.binds (ps := ["table", "groups"]) fun _ _ _ _ _ _ us hl => match us, hl with | [_, _], _ => rfl
  have A4 : Fn K mg "refined" sRefd ["table", "groups"] f4 _ := ⟨PySem.W.mg_of X G d4, F4, b4⟩
  have F5 := fun_mk (st := sLP) l5 q5 k5
  have b5 := F5.binds (ps := ["table", "ends", "start"]) fun _ _ _ _ _ _ us hl => match us, hl with | [_, _, _], _ => rfl
  have A5 : Fn K mg "least_parts" sLP ["table", "ends", "start"] f5 _ := ⟨PySem.W.mg_of X G d5, F5, b5⟩
  have F6 := fun_mk (st := sKnotsOf) l6 q6 k6
  have b6 := F6.binds (ps := ["table"]) fun _ _ _ _ _ _ us hl => match us, hl with | [_], _ => rfl
  have A6 : Fn K mg "knots_of" sKnotsOf ["table"] f6 _ := ⟨PySem.W.mg_of X G d6, F6, b6⟩
  have F7 := fun_mk (st := sTurned) l7 q7 k7
  have b7 := F7.binds (ps := ["table"]) fun _ _ _ _ _ _ us hl => match us, hl with | [_], _ => rfl
  have A7 : Fn K mg "_turned_round" sTurned ["table"] f7 _ := ⟨PySem.W.mg_of X G d7, F7, b7⟩
  have F8 := fun_mk (st := sFinished) l8 q8 k8
  have b8 := F8.binds (ps := ["table"]) fun _ _ _ _ _ _ us hl => match us, hl with | [_], _ => rfl
  have A8 : Fn K mg "_finished" sFinished ["table"] f8 _ := ⟨PySem.W.mg_of X G d8, F8, b8⟩
  have F9 := fun_mk (st := sNotTaken) l9 q9 k9
  have b9 := F9.binds (ps := ["back", "start", "taken"]) fun _ _ _ _ _ _ us hl => match us, hl with | [_, _, _], _ => rfl
  have A9 : Fn K mg "_not_taken" sNotTaken ["back", "start", "taken"] f9 _ := ⟨PySem.W.mg_of X G d9, F9, b9⟩
  have F10 := fun_mk (st := sIsInt) l10 q10 k10
  have b10 := F10.binds (ps := ["value"]) fun _ _ _ _ _ _ us hl => match us, hl with | [_], _ => rfl
  have A10 : Fn K mg "is_integer" sIsInt ["value"] f10 _ := ⟨PySem.W.mg_of X G d10, F10, b10⟩
  have F11 := fun_mk (st := sIsNum) l11 q11 k11
  have b11 := F11.binds (ps := ["value", "least", "most"]) fun _ _ _ _ _ _ us hl => match us, hl with | [_, _, _], _ => rfl
  have A11 : Fn K mg "is_number" sIsNum ["value", "least", "most"] f11 _ := ⟨PySem.W.mg_of X G d11, F11, b11⟩
  have F12 := fun_mk (st := sAsc) l12 q12 k12
  have b12 := F12.binds (ps := ["values"]) fun _ _ _ _ _ _ us hl => match us, hl with | [_], _ => rfl
  have A12 : Fn K mg "ascends" sAsc ["values"] f12 _ := ⟨PySem.W.mg_of X G d12, F12, b12⟩
  have F13 := fun_mk (st := sIsAsc) l13 q13 k13
  have b13 := F13.binds (ps := ["value", "many"]) fun _ _ _ _ _ _ us hl => match us, hl with | [_, _], _ => rfl
  have A13 : Fn K mg "is_ascending" sIsAsc ["value", "many"] f13 _ := ⟨PySem.W.mg_of X G d13, F13, b13⟩
  have F14 := fun_mk (st := sIsTab) l14 q14 k14
  have b14 := F14.binds (ps := ["value", "width", "most"]) fun _ _ _ _ _ _ us hl => match us, hl with | [_, _, _], _ => rfl
  have A14 : Fn K mg "is_table" sIsTab ["value", "width", "most"] f14 _ := ⟨PySem.W.mg_of X G d14, F14, b14⟩
  have F15 := fun_mk (st := sIsRow) l15 q15 k15
  have b15 := F15.binds (ps := ["value", "width", "many"]) fun _ _ _ _ _ _ us hl => match us, hl with | [_, _, _], _ => rfl
  have A15 : Fn K mg "_is_row" sIsRow ["value", "width", "many"] f15 _ := ⟨PySem.W.mg_of X G d15, F15, b15⟩
  have F16 := fun_mk (st := sIsLet) l16 q16 k16
  have b16 := F16.binds (ps := ["value"]) fun _ _ _ _ _ _ us hl => match us, hl with | [_], _ => rfl
  have A16 : Fn K mg "is_letters" sIsLet ["value"] f16 _ := ⟨PySem.W.mg_of X G d16, F16, b16⟩
  have F17 := fun_mk (st := sIsWord) l17 q17 k17
  have b17 := F17.binds (ps := ["value"]) fun _ _ _ _ _ _ us hl => match us, hl with | [_], _ => rfl
  have A17 : Fn K mg "is_word" sIsWord ["value"] f17 _ := ⟨PySem.W.mg_of X G d17, F17, b17⟩
  have b18 := binds_one (fd := PySem.W.fnOf "least_machine" "least_machine" (defArgs sLM) (defBody sLM) (defScope sLM) (.ref t18) kV18 dc18 pm18 an18 cd18 ct18) (f := f18) (a := "letters") (b := "table") (c := "ends") (d := "start") y18 rfl (fun _ _ _ _ => ⟨_, rfl, rfl⟩)
  have bd18 := binds_dfl (fd := PySem.W.fnOf "least_machine" "least_machine" (defArgs sLM) (defBody sLM) (defScope sLM) (.ref t18) kV18 dc18 pm18 an18 cd18 ct18) (f := f18) (a := "letters") (b := "table") (c := "ends") (d := "start") y18 rfl (fun _ _ _ => ⟨_, rfl, rfl⟩)
  have g18 := PySem.W.mg_of X G d18
  have F19 := fun_mk (st := sNeedMs) l19 q19 k19
  have b19 := F19.binds (ps := ["machines"]) fun _ _ _ _ _ _ us hl => match us, hl with | [_], _ => rfl
  have A19 : Fn K mg "need_machines" sNeedMs ["machines"] f19 _ := ⟨PySem.W.mg_of X G d19, F19, b19⟩
  have F20 := fun_mk (st := sStW) l20 q20 k20
  have b20 := F20.binds (ps := ["machine"]) fun _ _ _ _ _ _ us hl => match us, hl with | [_], _ => rfl
  have A20 : Fn K mg "state_words" sStW ["machine"] f20 _ := ⟨PySem.W.mg_of X G d20, F20, b20⟩
  have F21 := fun_mk (st := sKnots) l21 q21 k21
  have b21 := F21.binds (ps := ["machine"]) fun _ _ _ _ _ _ us hl => match us, hl with | [_], _ => rfl
  have A21 : Fn K mg "knots" sKnots ["machine"] f21 _ := ⟨PySem.W.mg_of X G d21, F21, b21⟩
  have F22 := fun_mk (st := sFree) l22 q22 k22
  have b22 := F22.binds (ps := ["machine"]) fun _ _ _ _ _ _ us hl => match us, hl with | [_], _ => rfl
  have A22 : Fn K mg "is_order_free" sFree ["machine"] f22 _ := ⟨PySem.W.mg_of X G d22, F22, b22⟩
  have F23 := fun_mk (st := sDice) l23 q23 k23
  have b23 := F23.binds (ps := ["_law_script", "_law_at"]) fun _ _ _ _ _ _ us hl => match us, hl with | [_, _], _ => rfl
  have A23 : Fn K mg "_law_dice" sDice ["_law_script", "_law_at"] f23 _ := ⟨PySem.W.mg_of X G d23, F23, b23⟩
  have F24 := fun_mk (st := sRoll) l24 q24 k24
  have b24 := F24.binds (ps := ["_law_dice_here", "_law_total"]) fun _ _ _ _ _ _ us hl => match us, hl with | [_, _], _ => rfl
  have A24 : Fn K mg "_law_roll" sRoll ["_law_dice_here", "_law_total"] f24 _ := ⟨PySem.W.mg_of X G d24, F24, b24⟩
  have F25 := fun_mk (st := sOne) l25 q25 k25
  have b25 := F25.binds (ps := ["_law_dice_here", "_law_items"]) fun _ _ _ _ _ _ us hl => match us, hl with | [_, _], _ => rfl
  have A25 : Fn K mg "_law_one_of" sOne ["_law_dice_here", "_law_items"] f25 _ := ⟨PySem.W.mg_of X G d25, F25, b25⟩
  have F26 := fun_mk (st := sMixed) l26 q26 k26
  have b26 := F26.binds (ps := ["_law_dice_here", "_law_items"]) fun _ _ _ _ _ _ us hl => match us, hl with | [_, _], _ => rfl
  have A26 : Fn K mg "_law_mixed" sMixed ["_law_dice_here", "_law_items"] f26 _ := ⟨PySem.W.mg_of X G d26, F26, b26⟩
  have F27 := fun_mk (st := sLetters) l27 q27 k27
  have b27 := F27.binds (ps := ["_law_dice_here", "_law_total"]) fun _ _ _ _ _ _ us hl => match us, hl with | [_, _], _ => rfl
  have A27 : Fn K mg "_law_letters" sLetters ["_law_dice_here", "_law_total"] f27 _ := ⟨PySem.W.mg_of X G d27, F27, b27⟩
  have F28 := fun_mk (st := sAct) l28 q28 k28
  have b28 := F28.binds (ps := ["_law_dice_here", "_law_size", "_law_sort"]) fun _ _ _ _ _ _ us hl => match us, hl with | [_, _, _], _ => rfl
  have A28 : Fn K mg "_law_action" sAct ["_law_dice_here", "_law_size", "_law_sort"] f28 _ := ⟨PySem.W.mg_of X G d28, F28, b28⟩
  have F29 := fun_mk (st := sLTab) l29 q29 k29
  have b29 := F29.binds (ps := ["_law_dice_here", "_law_letters_here", "_law_size", "_law_sorts"]) fun _ _ _ _ _ _ us hl => match us, hl with | [_, _, _, _], _ => rfl
  have A29 : Fn K mg "_law_table" sLTab ["_law_dice_here", "_law_letters_here", "_law_size", "_law_sorts"] f29 _ := ⟨PySem.W.mg_of X G d29, F29, b29⟩
  have F30 := fun_mk (st := sLMac) l30 q30 k30
  have b30 := F30.binds (ps := ["_law_dice_here", "_law_letters_here", "_law_states"]) fun _ _ _ _ _ _ us hl => match us, hl with | [_, _, _], _ => rfl
  have A30 : Fn K mg "_law_machine" sLMac ["_law_dice_here", "_law_letters_here", "_law_states"] f30 _ := ⟨PySem.W.mg_of X G d30, F30, b30⟩
  have F31 := fun_mk (st := sMade) l31 q31 k31
  have b31 := F31.binds (ps := ["_law_plain"]) fun _ _ _ _ _ _ us hl => match us, hl with | [_], _ => rfl
  have A31 : Fn K mg "_law_made_machine" sMade ["_law_plain"] f31 _ := ⟨PySem.W.mg_of X G d31, F31, b31⟩
  have F32 := fun_mk (st := sLLed) l32 q32 k32
  have b32 := F32.binds (ps := ["_law_table_here", "_law_letters_here", "_law_word", "_law_start"]) fun _ _ _ _ _ _ us hl => match us, hl with | [_, _, _, _], _ => rfl
  have A32 : Fn K mg "_law_led" sLLed ["_law_table_here", "_law_letters_here", "_law_word", "_law_start"] f32 _ := ⟨PySem.W.mg_of X G d32, F32, b32⟩
  have F33 := fun_mk (st := sLHas) l33 q33 k33
  have b33 := F33.binds (ps := ["_law_plain", "_law_word"]) fun _ _ _ _ _ _ us hl => match us, hl with | [_, _], _ => rfl
  have A33 : Fn K mg "_law_has" sLHas ["_law_plain", "_law_word"] f33 _ := ⟨PySem.W.mg_of X G d33, F33, b33⟩
  have F34 := fun_mk (st := sLFirsts) l34 q34 k34
  have b34 := F34.binds (ps := ["_law_table_here", "_law_letters_here"]) fun _ _ _ _ _ _ us hl => match us, hl with | [_, _], _ => rfl
  have A34 : Fn K mg "_law_firsts" sLFirsts ["_law_table_here", "_law_letters_here"] f34 _ := ⟨PySem.W.mg_of X G d34, F34, b34⟩
  have F35 := fun_mk (st := sLAll) l35 q35 k35
  have b35 := F35.binds (ps := ["_law_letters_here", "_law_most"]) fun _ _ _ _ _ _ us hl => match us, hl with | [_, _], _ => rfl
  have A35 : Fn K mg "_law_all_words" sLAll ["_law_letters_here", "_law_most"] f35 _ := ⟨PySem.W.mg_of X G d35, F35, b35⟩
  have F36 := fun_mk (st := sParted) l36 q36 k36
  have b36 := F36.binds (ps := ["_law_plain"]) fun _ _ _ _ _ _ us hl => match us, hl with | [_], _ => rfl
  have A36 : Fn K mg "_law_parted" sParted ["_law_plain"] f36 _ := ⟨PySem.W.mg_of X G d36, F36, b36⟩
  have F37 := fun_mk (st := sReach) l37 q37 k37
  have b37 := F37.binds (ps := ["_law_table_here", "_law_state"]) fun _ _ _ _ _ _ us hl => match us, hl with | [_, _], _ => rfl
  have A37 : Fn K mg "_law_reach" sReach ["_law_table_here", "_law_state"] f37 _ := ⟨PySem.W.mg_of X G d37, F37, b37⟩
  have F38 := fun_mk (st := sLKnots) l38 q38 k38
  have b38 := F38.binds (ps := ["_law_table_here"]) fun _ _ _ _ _ _ us hl => match us, hl with | [_], _ => rfl
  have A38 : Fn K mg "_law_knots" sLKnots ["_law_table_here"] f38 _ := ⟨PySem.W.mg_of X G d38, F38, b38⟩
  have F39 := fun_mk (st := sLFree) l39 q39 k39
  have b39 := F39.binds (ps := ["_law_plain"]) fun _ _ _ _ _ _ us hl => match us, hl with | [_], _ => rfl
  have A39 : Fn K mg "_law_is_free" sLFree ["_law_plain"] f39 _ := ⟨PySem.W.mg_of X G d39, F39, b39⟩
  have F40 := fun_mk (st := sAgree) l40 q40 k40
  have b40 := F40.binds (ps := ["_law_plain", "_law_most"]) fun _ _ _ _ _ _ us hl => match us, hl with | [_, _], _ => rfl
  have A40 : Fn K mg "_law_agree" sAgree ["_law_plain", "_law_most"] f40 _ := ⟨PySem.W.mg_of X G d40, F40, b40⟩
  have F41 := fun_mk (st := sLR4) l41 q41 k41
  have b41 := F41.binds (ps := ["_law_dice_here"]) fun _ _ _ _ _ _ us hl => match us, hl with | [_], _ => rfl
  have A41 : Fn K mg "_law_right" sLR4 ["_law_dice_here"] f41 _ := ⟨PySem.W.mg_of X G d41, F41, b41⟩
  have F42 := fun_mk (st := sLaw4) l42 q42 k42
  have F43 := fun_mk (st := sMadeI) l43 q43 k43
  have b43 := F43.binds (ps := ["self", "rows"]) fun _ _ _ _ _ _ us hl => match us, hl with | [_, _], _ => rfl
  have b44 := binds_one (fd := PySem.W.fnOf "__init__" "Machine.__init__" (defArgs sMInit) (defBody sMInit) (defScope sMInit) (.ref t44) kV44 dc44 pm44 an44 cd44 ct44) (f := f44) (a := "self") (b := "letters") (c := "table") (d := "ends") y44 rfl (fun _ _ _ _ => ⟨_, rfl, rfl⟩)
  have F45 := fun_mk (st := sMLet) l45 q45 k45
  have b45 := F45.binds (ps := ["self"]) fun _ _ _ _ _ _ us hl => match us, hl with | [_], _ => rfl
  have F46 := fun_mk (st := sMTab) l46 q46 k46
  have b46 := F46.binds (ps := ["self"]) fun _ _ _ _ _ _ us hl => match us, hl with | [_], _ => rfl
  have F47 := fun_mk (st := sMLeast) l47 q47 k47
  have b47 := F47.binds (ps := ["self"]) fun _ _ _ _ _ _ us hl => match us, hl with | [_], _ => rfl
  have F48 := fun_mk (st := sMInv) l48 q48 k48
  have b48 := F48.binds (ps := ["self"]) fun _ _ _ _ _ _ us hl => match us, hl with | [_], _ => rfl
  refine ⟨PySem.W.fnOf "law" "law" (defArgs sLaw4) (defBody sLaw4) (defScope sLaw4) .none kV42 dc42 pm42 an42 cd42 ct42, [], spLaw4 K, ?_, ?_, ?_, fun s v => .of_eq rfl, fun H a ns hl _ hT hS => ⟨a, ns, rfl, hS, hl, fun _ => rfl⟩, fun base _ _ hB => ?_⟩
  · intro p hp
    exact absurd hp List.not_mem_nil
  · intro p hp
    exact absurd hp List.not_mem_nil
  · intro p hp
    exact absurd hp List.not_mem_nil
  have G11 : FnOk l.prog w K mg base CX0 2 f11 (PySem.W.fnOf "is_number" "is_number" (defArgs sIsNum) (defBody sIsNum) (defScope sIsNum) .none kV11 dc11 pm11 an11 cd11 ct11) ["value", "least", "most"] (spNum2) := ok_num2 F11 T A10
  have G12 : FnOk l.prog w K mg base CX0 1 f12 (PySem.W.fnOf "ascends" "ascends" (defArgs sAsc) (defBody sAsc) (defScope sAsc) .none kV12 dc12 pm12 an12 cd12 ct12) ["values"] (spAscT K) := ok_ascT F12 T
  have G13 : FnOk l.prog w K mg base CX0 3 f13 (PySem.W.fnOf "is_ascending" "is_ascending" (defArgs sIsAsc) (defBody sIsAsc) (defScope sIsAsc) .none kV13 dc13 pm13 an13 cd13 ct13) ["value", "many"] (spIsAsc K) := ok_isasc F13 T A11 G11 A12 G12
  have G15 : FnOk l.prog w K mg base CX0 3 f15 (PySem.W.fnOf "_is_row" "_is_row" (defArgs sIsRow) (defBody sIsRow) (defScope sIsRow) .none kV15 dc15 pm15 an15 cd15 ct15) ["value", "width", "many"] (spRow K) := ok_row F15 T A11 G11
  have G14 : FnOk l.prog w K mg base CX0 4 f14 (PySem.W.fnOf "is_table" "is_table" (defArgs sIsTab) (defBody sIsTab) (defScope sIsTab) .none kV14 dc14 pm14 an14 cd14 ct14) ["value", "width", "most"] (spTab K) := ok_table F14 T A15 G15
  have G17 : FnOk l.prog w K mg base CX0 1 f17 (PySem.W.fnOf "is_word" "is_word" (defArgs sIsWord) (defBody sIsWord) (defScope sIsWord) .none kV17 dc17 pm17 an17 cd17 ct17) ["value"] (spIsWord K) := ok_isword F17 T
  have G16 : FnOk l.prog w K mg base CX0 2 f16 (PySem.W.fnOf "is_letters" "is_letters" (defArgs sIsLet) (defBody sIsLet) (defScope sIsLet) .none kV16 dc16 pm16 an16 cd16 ct16) ["value"] (spIsLet K) := ok_islet F16 T A17 A12
  have G43 : FnOk l.prog w K mg base CX0 1 f43 (PySem.W.fnOf "__init__" "Made.__init__" (defArgs sMadeI) (defBody sMadeI) (defScope sMadeI) .none kV43 dc43 pm43 an43 cd43 ct43) ["self", "rows"] (spMadeI cD) := ok_madei l43 q43 Md
  have G44 : FnOk l.prog w K mg base (L2.CX l.prog w) 5 f44 (PySem.W.fnOf "__init__" "Machine.__init__" (defArgs sMInit) (defBody sMInit) (defScope sMInit) (.ref t44) kV44 dc44 pm44 an44 cd44 ct44) ["self", "letters", "table", "ends"] (spMInit K CM cI) := ok_minit l44 q44 T MM A16 G16 A14 G14 A13 G13
  have GID : FnOk l.prog w K mg base CX0 4 f44 (PySem.W.fnOf "__init__" "Machine.__init__" (defArgs sMInit) (defBody sMInit) (defScope sMInit) (.ref t44) kV44 dc44 pm44 an44 cd44 ct44) ["self", "letters", "table", "ends"] (spMInitD CM cD) := ok_minitD l44 q44 T M7 A16 G16 A13 G13
  have MD : Mk K cD f43 := ⟨mkd, id, nid, kCd⟩
  have MIM : Mk K CM f44 := ⟨mkm, im, nim, kCm⟩
  have G0 : FnOk l.prog w K mg base CX0 1 f0 (PySem.W.fnOf "ways" "ways" (defArgs sWays) (defBody sWays) (defScope sWays) .none kV0 dc0 pm0 an0 cd0 ct0) ["table", "start"] (spWays K) := ok_ways F0 T en
  have GWV : FnOk l.prog w K mg base CX0 1 f0 (PySem.W.fnOf "ways" "ways" (defArgs sWays) (defBody sWays) (defScope sWays) .none kV0 dc0 pm0 an0 cd0 ct0) ["table", "start"] (spWaysV K) := ok_waysV F0 T en
  have G1 : FnOk l.prog w K mg base CX0 1 f1 (PySem.W.fnOf "word_along" "word_along" (defArgs sAlong) (defBody sAlong) (defScope sAlong) .none kV1 dc1 pm1 an1 cd1 ct1) ["letters", "found", "row"] (spAlong) := ok_along F1
  have G2 : FnOk l.prog w K mg base CX0 2 f2 (PySem.W.fnOf "trimmed" "trimmed" (defArgs sTrim) (defBody sTrim) (defScope sTrim) .none kV2 dc2 pm2 an2 cd2 ct2) ["table", "start"] (spTrimG K) := ok_trimG F2 T en A0 G0
  have GNB : FnOk l.prog w K mg base CX0 1 f3 (PySem.W.fnOf "numbered" "numbered" (defArgs sNumd) (defBody sNumd) (defScope sNumd) .none kV3 dc3 pm3 an3 cd3 ct3) ["keys"] (spNumd K (ND.numB l.prog w)) := ok_numd F3 T
  have GNN : FnOk l.prog w K mg base CX0 1 f3 (PySem.W.fnOf "numbered" "numbered" (defArgs sNumd) (defBody sNumd) (defScope sNumd) .none kV3 dc3 pm3 an3 cd3 ct3) ["keys"] (spNumd K (ND.numN l.prog w)) := ok_numd F3 T
  have G4 : FnOk l.prog w K mg base CX0 2 f4 (PySem.W.fnOf "refined" "refined" (defArgs sRefd) (defBody sRefd) (defScope sRefd) .none kV4 dc4 pm4 an4 cd4 ct4) ["table", "groups"] (spRefd K) := ok_refd F4 T en A3 GNN
  have G5 : FnOk l.prog w K mg base CX0 3 f5 (PySem.W.fnOf "least_parts" "least_parts" (defArgs sLP) (defBody sLP) (defScope sLP) .none kV5 dc5 pm5 an5 cd5 ct5) ["table", "ends", "start"] (spLP K) := ok_lp F5 T en A2 G2 A3 GNB A4 G4
  have G18 : FnOk l.prog w K mg base CX0 6 f18 (PySem.W.fnOf "least_machine" "least_machine" (defArgs sLM) (defBody sLM) (defScope sLM) (.ref t18) kV18 dc18 pm18 an18 cd18 ct18) ["letters", "table", "ends", "start"] (spLM K CM) := ok_lm l18 q18 M7 A5 G5 MIM GID b44 MD G43 b43
  have G47 : FnOk l.prog w K mg base CX0 7 f47 (PySem.W.fnOf "least" "Machine.least" (defArgs sMLeast) (defBody sMLeast) (defScope sMLeast) .none kV47 dc47 pm47 an47 cd47 ct47) ["self"] (spMLeast CM) := ok_mleast rfl F47 M7 g18 k18 G18 bd18
  have G48 : FnOk l.prog w K mg base CX0 7 f48 (PySem.W.fnOf "__invert__" "Machine.__invert__" (defArgs sMInv) (defBody sMInv) (defScope sMInv) .none kV48 dc48 pm48 an48 cd48 ct48) ["self"] (spMInv CM) := ok_minv rfl F48 T M7 g18 k18 G18 bd18
  have G19 : FnOk l.prog w K mg base CX0 1 f19 (PySem.W.fnOf "need_machines" "need_machines" (defArgs sNeedMs) (defBody sNeedMs) (defScope sNeedMs) .none kV19 dc19 pm19 an19 cd19 ct19) ["machines"] (spNeedMn K CM) := ok_needmn F19 T MM YM kim
  have G45 : FnOk l.prog w K mg base CX0 1 f45 (PySem.W.fnOf "letters" "Machine.letters" (defArgs sMLet) (defBody sMLet) (defScope sMLet) .none kV45 dc45 pm45 an45 cd45 ct45) ["self"] (getSp CM "_letters") := fn_getter (N := ["self"]) l45 q45 ⟨rfl, rfl, rfl, by decide +kernel, rfl, by decide +kernel, by decide +kernel⟩ rfl rfl clM nML
  have G46 : FnOk l.prog w K mg base CX0 1 f46 (PySem.W.fnOf "table" "Machine.table" (defArgs sMTab) (defBody sMTab) (defScope sMTab) .none kV46 dc46 pm46 an46 cd46 ct46) ["self"] (getSp CM "_table") := fn_getter (N := ["self"]) l46 q46 ⟨rfl, rfl, rfl, by decide +kernel, rfl, by decide +kernel, by decide +kernel⟩ rfl rfl clM nMT
  have G7 : FnOk l.prog w K mg base CX0 1 f7 (PySem.W.fnOf "_turned_round" "_turned_round" (defArgs sTurned) (defBody sTurned) (defScope sTurned) .none kV7 dc7 pm7 an7 cd7 ct7) ["table"] (spTurned K) := ok_turned F7 T en
  have G8 : FnOk l.prog w K mg base CX0 1 f8 (PySem.W.fnOf "_finished" "_finished" (defArgs sFinished) (defBody sFinished) (defScope sFinished) .none kV8 dc8 pm8 an8 cd8 ct8) ["table"] (spFinished K) := ok_finished F8 T
  have G9 : FnOk l.prog w K mg base CX0 1 f9 (PySem.W.fnOf "_not_taken" "_not_taken" (defArgs sNotTaken) (defBody sNotTaken) (defScope sNotTaken) .none kV9 dc9 pm9 an9 cd9 ct9) ["back", "start", "taken"] (spNotTaken) := ok_nottaken F9 T
  have G6 : FnOk l.prog w K mg base CX0 2 f6 (PySem.W.fnOf "knots_of" "knots_of" (defArgs sKnotsOf) (defBody sKnotsOf) (defScope sKnotsOf) .none kV6 dc6 pm6 an6 cd6 ct6) ["table"] (spKnotsOf K) := ok_knotsof F6 T A7 G7 A8 G8 A9 G9
  have G21 : FnOk l.prog w K mg base CX0 3 f21 (PySem.W.fnOf "knots" "knots" (defArgs sKnots) (defBody sKnots) (defScope sKnots) .none kV21 dc21 pm21 an21 cd21 ct21) ["machine"] (spKnots CM) := ok_knots F21 MM A19 G19 Rmt G46 b46 A6 G6
  have G20 : FnOk l.prog w K mg base CX0 3 f20 (PySem.W.fnOf "state_words" "state_words" (defArgs sStW) (defBody sStW) (defScope sStW) .none kV20 dc20 pm20 an20 cd20 ct20) ["machine"] (spStW CM) := ok_statew F20 T MM A19 G19 Rmt G46 b46 Rml G45 b45 A0 GWV A1 G1
  have G22 : FnOk l.prog w K mg base CX0 8 f22 (PySem.W.fnOf "is_order_free" "is_order_free" (defArgs sFree) (defBody sFree) (defScope sFree) .none kV22 dc22 pm22 an22 cd22 ct22) ["machine"] (spFree CM) := ok_free (fM := f0) (ps := []) F22 T MM A19 G19 Rmt G46 b46 Rml G45 b45 ⟨a47, n47, k47⟩ G47 b47
  have RI : FnR l.prog w K mg base CX0 7 f48 (spMInv CM) := by simpa only [List.append_nil] using G48.raw b48 .nil
  have G23 : FnOk l.prog w K mg base CX0 1 f23 (PySem.W.fnOf "_law_dice" "_law_dice" (defArgs sDice) (defBody sDice) (defScope sDice) .none kV23 dc23 pm23 an23 cd23 ct23) ["_law_script", "_law_at"] (spDice K) := ok_dice F23 T.dice
  have G24 : FnOk l.prog w K mg base CX0 1 f24 (PySem.W.fnOf "_law_roll" "_law_roll" (defArgs sRoll) (defBody sRoll) (defScope sRoll) .none kV24 dc24 pm24 an24 cd24 ct24) ["_law_dice_here", "_law_total"] (spRoll) := ok_roll F24 T.dice
  have G25 : FnOk l.prog w K mg base CX0 2 f25 (PySem.W.fnOf "_law_one_of" "_law_one_of" (defArgs sOne) (defBody sOne) (defScope sOne) .none kV25 dc25 pm25 an25 cd25 ct25) ["_law_dice_here", "_law_items"] (spOne) := ok_one F25 T.dice (PySem.W.mg_of X G d24) F24 b24
  have G26 : FnOk l.prog w K mg base CX0 2 f26 (PySem.W.fnOf "_law_mixed" "_law_mixed" (defArgs sMixed) (defBody sMixed) (defScope sMixed) .none kV26 dc26 pm26 an26 cd26 ct26) ["_law_dice_here", "_law_items"] (spMixed) := ok_mixed F26 T A24
  have G27 : FnOk l.prog w K mg base CX0 3 f27 (PySem.W.fnOf "_law_letters" "_law_letters" (defArgs sLetters) (defBody sLetters) (defScope sLetters) .none kV27 dc27 pm27 an27 cd27 ct27) ["_law_dice_here", "_law_total"] (spLetters) := ok_letters F27 T A26 G26
  have G29 : FnOk l.prog w K mg base CX0 3 f29 (PySem.W.fnOf "_law_table" "_law_table" (defArgs sLTab) (defBody sLTab) (defScope sLTab) .none kV29 dc29 pm29 an29 cd29 ct29) ["_law_dice_here", "_law_letters_here", "_law_size", "_law_sorts"] (spLTab) := ok_ltab F29 T A24 A25 A28
  have G30 : FnOk l.prog w K mg base CX0 4 f30 (PySem.W.fnOf "_law_machine" "_law_machine" (defArgs sLMac) (defBody sLMac) (defScope sLMac) .none kV30 dc30 pm30 an30 cd30 ct30) ["_law_dice_here", "_law_letters_here", "_law_states"] (spLMac9) := ok_lmac9 F30 T A24 A29 G29
  have G31 : FnOk l.prog w K mg base CX0 7 f31 (PySem.W.fnOf "_law_made_machine" "_law_made_machine" (defArgs sMade) (defBody sMade) (defScope sMade) .none kV31 dc31 pm31 an31 cd31 ct31) ["_law_plain"] (spMade CM) := ok_made F31 T MM MIM G44 b44
  have G32 : FnOk l.prog w K mg base CX0 1 f32 (PySem.W.fnOf "_law_led" "_law_led" (defArgs sLLed) (defBody sLLed) (defScope sLLed) .none kV32 dc32 pm32 an32 cd32 ct32) ["_law_table_here", "_law_letters_here", "_law_word", "_law_start"] (spLLed) := ok_lled F32
  have G33 : FnOk l.prog w K mg base CX0 2 f33 (PySem.W.fnOf "_law_has" "_law_has" (defArgs sLHas) (defBody sLHas) (defScope sLHas) .none kV33 dc33 pm33 an33 cd33 ct33) ["_law_plain", "_law_word"] (spLHas) := ok_lhas F33 A32
  have G34 : FnOk l.prog w K mg base CX0 1 f34 (PySem.W.fnOf "_law_firsts" "_law_firsts" (defArgs sLFirsts) (defBody sLFirsts) (defScope sLFirsts) .none kV34 dc34 pm34 an34 cd34 ct34) ["_law_table_here", "_law_letters_here"] (spLFirsts) := ok_lfirsts F34 T
  have G35 : FnOk l.prog w K mg base CX0 1 f35 (PySem.W.fnOf "_law_all_words" "_law_all_words" (defArgs sLAll) (defBody sLAll) (defScope sLAll) .none kV35 dc35 pm35 an35 cd35 ct35) ["_law_letters_here", "_law_most"] (spLAll) := ok_lall F35 T
  have G36 : FnOk l.prog w K mg base CX0 1 f36 (PySem.W.fnOf "_law_parted" "_law_parted" (defArgs sParted) (defBody sParted) (defScope sParted) .none kV36 dc36 pm36 an36 cd36 ct36) ["_law_plain"] (spParted) := ok_parted F36 T
  have G37 : FnOk l.prog w K mg base CX0 1 f37 (PySem.W.fnOf "_law_reach" "_law_reach" (defArgs sReach) (defBody sReach) (defScope sReach) .none kV37 dc37 pm37 an37 cd37 ct37) ["_law_table_here", "_law_state"] (spReach) := ok_lreach F37 T
  have G38 : FnOk l.prog w K mg base CX0 2 f38 (PySem.W.fnOf "_law_knots" "_law_knots" (defArgs sLKnots) (defBody sLKnots) (defScope sLKnots) .none kV38 dc38 pm38 an38 cd38 ct38) ["_law_table_here"] (spLKnots) := ok_lknots F38 T A37 G37
  have G39 : FnOk l.prog w K mg base CX0 2 f39 (PySem.W.fnOf "_law_is_free" "_law_is_free" (defArgs sLFree) (defBody sLFree) (defScope sLFree) .none kV39 dc39 pm39 an39 cd39 ct39) ["_law_plain"] (spLFree) := ok_lfree F39 T A36 G36 A34 G34
  have G40 : FnOk l.prog w K mg base CX0 3 f40 (PySem.W.fnOf "_law_agree" "_law_agree" (defArgs sAgree) (defBody sAgree) (defScope sAgree) .none kV40 dc40 pm40 an40 cd40 ct40) ["_law_plain", "_law_most"] (spAgree) := ok_agree F40 T A35 G35 A33 G33
  have G41 : FnOk l.prog w K mg base CX0 9 f41 (PySem.W.fnOf "_law_right" "_law_right" (defArgs sLR4) (defBody sLR4) (defScope sLR4) .none kV41 dc41 pm41 an41 cd41 ct41) ["_law_dice_here"] (spLR4) := ok_lr4 F41 T MM A25 G25 A27 G27 A30 G30 A31 G31 A34 G34 A20 G20 A21 G21 A38 G38 A39 G39 A22 G22 A40 G40 ⟨a47, n47, k47⟩ G47 b47 a48 n48 RI
  exact ok_law4 F42 T MM A23 G23 A41 G41 MIM G44 b44 A22 G22 A21 G21 A20 G20
end WK
set_option Elab.async false
set_option linter.all false
set_option maxRecDepth 100000
set_option maxHeartbeats 2000000
namespace HK
open PySem PySem.Spec PyProof.Rows L2
/-- a def as it was written, at an address -/
abbrev FnT : Type := Option (Str × Str × Arguments × FuncBody × Scope × Addr × List (Str × Addr) × Addr)
def fnAt (K : PySem.W.Frag) (f : Addr) : FnT := match K.lookup f with
  | some ⟨_, _, .func d, _⟩ => some (d.name, d.qualname, d.params, d.body, d.scope, d.globals, d.closure, d.builtins)
  | _ => none
def fnIs (nm q : Str) (st : Stmt) : FnT := some (nm, q, defArgs st, .stmts (defBody st), defScope st, mainGlobals, [], builtinsNs)
/-- none: nothing stands there; an address: that -/
def isV (d : Option Addr) (v : Value) : Bool := match d, v with
  | none, .none => true
  | some a, .ref b => Nat.beq a b
  | _, _ => false
def dV : Option Addr → Value
  | none => .none
  | some a => .ref a
theorem isV_ok {d : Option Addr} {v : Value} (h : isV d v = true) : v = dV d := by
  cases d with
  | none => cases v <;> first | rfl | cases h
  | some a =>
    cases v with
    | ref b => exact congrArg Value.ref (Nat.eq_of_beq_eq_true h).symm
    | _ => cases h
/-- an address, where one is asked -/
def anyV (d : Option Addr) (v : Value) : Bool := match d with
  | none => true
  | some _ => isV d v
/-- defaults, keyword defaults, the code object of the def at f -/
def fnB (K : PySem.W.Frag) (f : Addr) (q : Str) (d k o : Option Addr) : Bool := match K.lookup f with
  | some ⟨_, _, .func fd, _⟩ => isV d fd.defaults && (anyV k fd.kwdefaults && (anyV o fd.code && PySem.W.codeIn K fd.code q))
  | _ => false
theorem fn_ok {K : PySem.W.Frag} {f : Addr} {nm q : Str} {st : Stmt} {d k o : Option Addr} (e : fnAt K f = fnIs nm q st) (c : fnB K f q d k o = true) :
    ∃ (oc kV doc pm cd ct : Value) (od an : Option Addr) (sl : Array (Option Value)), K.lookup f = some ⟨oc, od, .func (PySem.W.fnOf nm q (defArgs st) (defBody st) (defScope st) (dV d) kV doc pm an cd ct), sl⟩ ∧ PySem.W.codeIn K cd q = true ∧ (∀ a, k = some a → kV = .ref a) ∧ (∀ a, o = some a → cd = .ref a) := by
  unfold fnAt fnIs at e
  unfold fnB at c
  cases l : K.lookup f with
  | none =>
    rw [l] at c
    cases c
  | some ob =>
    obtain ⟨oc, od, dt, sl⟩ := ob
    rw [l] at c e
    cases dt with
    | func fd =>
      obtain ⟨a1, a2, a3, a4, a5, a6, a7, a8, a9, b1, b2, b3, b4, b5, b6⟩ := fd
      have e2 : (some (a1, a2, a3, a4, a5, a6, a7, b6) : FnT) = some (nm, q, defArgs st, .stmts (defBody st), defScope st, mainGlobals, [], builtinsNs) := e
      simp only [Option.some.injEq, Prod.mk.injEq] at e2
      obtain ⟨rfl, rfl, rfl, rfl, rfl, rfl, rfl, rfl⟩ := e2
      have c2 : (isV d a8 && (anyV k a9 && (anyV o b4 && PySem.W.codeIn K b4 a2))) = true := c
      obtain ⟨c3, c6⟩ := Bool.and_eq_true_iff.mp c2
      obtain ⟨c4, c7⟩ := Bool.and_eq_true_iff.mp c6
      obtain ⟨c5, c8⟩ := Bool.and_eq_true_iff.mp c7
      have e3 := isV_ok c3
      subst e3
      refine ⟨oc, a9, b1, b2, b4, b5, od, b3, sl, rfl, c8, fun a h => ?_, fun a h => ?_⟩
      · subst h
        exact isV_ok c4
      · subst h
        exact isV_ok c5
    | _ => cases c
/-- what K says, as a Bool, and back -/
def intB (K : PySem.W.Frag) (D : Addr) (x : Str) (i : Int) : Bool := match PySem.W.nsIn K D x with
  | some (some (.int j _)) => decide (j = i)
  | _ => false
theorem int_ns {K : PySem.W.Frag} {D : Addr} {x : Str} {i : Int} (h : intB K D x i = true) : ∃ t, PySem.W.nsIn K D x = some (some (.int i t)) := by
  unfold intB at h
  cases l : PySem.W.nsIn K D x with
  | none =>
    rw [l] at h
    cases h
  | some u =>
    rw [l] at h
    cases u with
    | none => cases h
    | some v =>
      cases v with
      | int j t =>
        have e : j = i := of_decide_eq_true h
        exact ⟨t, by rw [e]⟩
      | _ => cases h
def recB (K : PySem.W.Frag) (p : Addr) (s : String) (f : Addr) : Bool := match PySem.W.recIn K p s with
  | some (.ref a :: _) => Nat.beq a f
  | _ => false
theorem rec_ns {K : PySem.W.Frag} {p f : Addr} {s : String} (h : recB K p s f = true) : ∃ r, PySem.W.recIn K p s = some (.ref f :: r) := by
  unfold recB at h
  cases l : PySem.W.recIn K p s with
  | none =>
    rw [l] at h
    cases h
  | some u =>
    rw [l] at h
    cases u with
    | nil => cases h
    | cons v r =>
      cases v with
      | ref a => exact ⟨r, by rw [Nat.eq_of_beq_eq_true h]⟩
      | _ => cases h
def oneB (K : PySem.W.Frag) (t : Addr) : Bool := match K.lookup t with
  | some ⟨_, _, .seq us _, _⟩ => decide (us.size = 1)
  | _ => false
theorem one_ns {K : PySem.W.Frag} {t : Addr} (h : oneB K t = true) : ∃ (e u : Value) (j : Option Addr) (m : Nat) (sl : Array (Option Value)), K.lookup t = some ⟨e, j, .seq #[u] m, sl⟩ := by
  unfold oneB at h
  cases l : K.lookup t with
  | none =>
    rw [l] at h
    cases h
  | some ob =>
    obtain ⟨oc, od, dt, sl⟩ := ob
    rw [l] at h
    cases dt with
    | seq us m =>
      have e : us.size = 1 := of_decide_eq_true h
      obtain ⟨us⟩ := us
      match us, e with
      | [u], _ => exact ⟨_, u, _, m, _, rfl⟩
    | _ => cases h
def tabB (g : Addr → Option Obj) (P : Addr) : Bool := match g P with
  | some ⟨.none, none, .fields ⟨[]⟩, ⟨[]⟩⟩ => true
  | _ => false
theorem tab_ns {g : Addr → Option Obj} {P : Addr} (h : tabB g P = true) : g P = some (PySem.W.tabObj #[]) := by
  unfold tabB at h
  split at h
  · rename_i e
    exact e
  · cases h
/-- the look: the Bool ex of the part at the addresses as, the tables ts empty, the defs fs -/
def look (as ts : List Addr) (ex : PySem.W.Frag → Bool) (fs : List (Addr × FnT)) (g : Addr → Option Obj) : Bool × List FnT := (ex (He.frG g as) && ts.all fun P => tabB g P && ((He.frG g as).lookup P).isNone, fs.map fun p => fnAt (He.frG g as) p.1)
structure Says (ts : List Addr) (ex : PySem.W.Frag → Bool) (fs : List (Addr × FnT)) (h : Heap) (K : PySem.W.Frag) : Prop where
  In : K.In h
  ex : ex K = true
  fns : fs.map (fun p => fnAt K p.1) = fs.map (·.2)
  tab : ∀ P ∈ ts, h.get? P = some (PySem.W.tabObj #[]) ∧ K.lookup P = none
theorem Says.fn {ts : List Addr} {ex : PySem.W.Frag → Bool} {fs : List (Addr × FnT)} {h : Heap} {K : PySem.W.Frag} (c : Says ts ex fs h K) (i : Nat) {f : Addr} {v : FnT} (e : fs[i]? = some (f, v)) : fnAt K f = v := by
  have z := congrArg (fun l : List FnT => l[i]?) c.fns
  simpa only [List.getElem?_map, e, Option.map_some, Option.some.injEq] using z
def hook (as ts : List Addr) (ex : PySem.W.Frag → Bool) (fs : List (Addr × FnT)) : PySem.W.Hook where
  α := Bool × List FnT
  obs := fun s => look as ts ex fs s.heap.get?
  val := fun _ => (true, fs.map (·.2))
  says := fun _ h => ∃ K : PySem.W.Frag, Says ts ex fs h K
  of := fun w s e => by
    have e1 := congrArg Prod.fst e
    have e2 := congrArg Prod.snd e
    obtain ⟨h1, h2⟩ := Bool.and_eq_true_iff.mp e1
    refine ⟨_, He.frG_in, h1, e2, fun P hP => ?_⟩
    obtain ⟨h3, h4⟩ := Bool.and_eq_true_iff.mp (List.all_eq_true.mp h2 P hP)
    exact ⟨tab_ns h3, Option.isNone_iff_eq_none.mp h4⟩
  keeps := fun _ _ _ ⟨K, c⟩ k => ⟨K, PySem.W.Frag.In.keeps c.In k, c.ex, c.fns, fun P hP => ⟨k _ _ (c.tab P hP).1, (c.tab P hP).2⟩⟩
theorem look_eq {as ts : List Addr} {ex : PySem.W.Frag → Bool} {fs : List (Addr × FnT)} (s : PySem.W.SharedT) : look as ts ex fs (HandSHeadRun.getT s) = (hook as ts ex fs).obs s.abs := by
  have e : HandSHeadRun.getT s = s.abs.heap.get? := funext (HandSHeadRun.getT_eq s)
  rw [e] <;> rfl
/-- two runs that looked at two things are one that looked at both -/
theorem run_join {r : PySem.W.OpenRow} {q : Program} {as ts : List Addr} {e1 e2 : PySem.W.Frag → Bool} {fs : List (Addr × FnT)} {M : Nat} {loose : List Str} {w : World}
    (h1 : HandSHeadRun.RunEq r q (hook as ts e1 fs) (fun s => look as ts e1 fs (HandSHeadRun.getT s)) M loose w) (h2 : HandSHeadRun.RunEq r q (hook as [] e2 []) (fun s => look as [] e2 [] (HandSHeadRun.getT s)) M loose w) :
    HandSHeadRun.RunEq r q (hook as ts (fun K => e1 K && e2 K) fs) (fun s => look as ts (fun K => e1 K && e2 K) fs (HandSHeadRun.getT s)) M loose w := by
  intro os
  obtain ⟨s, es, a⟩ := Option.map_eq_some_iff.mp (h1 os)
  obtain ⟨s2, es2, b⟩ := Option.map_eq_some_iff.mp (h2 os)
  obtain rfl : s = s2 := Option.some.inj (es.symm.trans es2)
  rw [es]
  have a1 := congrArg (fun z => z.2.2.1) a
  have a2 := congrArg (fun z => z.2.2.2) a
  have b1 := congrArg (fun z => z.2.2.1) b
  obtain ⟨a3, a4⟩ := Bool.and_eq_true_iff.mp (show (e1 (He.frG (HandSHeadRun.getT s) as) && ts.all fun P => tabB (HandSHeadRun.getT s) P && ((He.frG (HandSHeadRun.getT s) as).lookup P).isNone) = true from a1)
  obtain ⟨b3, _⟩ := Bool.and_eq_true_iff.mp (show (e2 (He.frG (HandSHeadRun.getT s) as) && List.all [] fun P => tabB (HandSHeadRun.getT s) P && ((He.frG (HandSHeadRun.getT s) as).lookup P).isNone) = true from b1)
  have l : look as ts (fun K => e1 K && e2 K) fs (HandSHeadRun.getT s) = (true, fs.map (·.2)) := by
    refine Prod.ext ?_ a2
    show ((e1 _ && e2 _) && List.all _ _) = true
    rw [a3, b3, a4] <;> rfl
  refine congrArg some ?_
  have c1 := congrArg (fun z => z.1) a
  have c2 := congrArg (fun z => z.2.1) a
  exact Prod.ext c1 (Prod.ext c2 l)
end HK
namespace HK
open PySem PySem.Spec PyProof.Rows L2
/-- a tuple of the number 0 alone -/
def zerB (K : PySem.W.Frag) (t : Addr) : Bool := match K.lookup t with
  | some ⟨_, _, .seq ⟨[.int 0 _]⟩ _, _⟩ => true
  | _ => false
theorem zer_ns {K : PySem.W.Frag} {t : Addr} (h : zerB K t = true) : ∃ (x : Tok) (e : Value) (j : Option Addr) (m : Nat) (sl : Array (Option Value)), K.lookup t = some ⟨e, j, .seq #[Value.int 0 x] m, sl⟩ := by
  unfold zerB at h
  split at h
  · rename_i e
    exact ⟨_, _, _, _, _, e⟩
  · cases h
end HK
set_option Elab.async false
set_option linter.all false
set_option maxRecDepth 100000
set_option maxHeartbeats 0
namespace WK
open PySem L2 PyProof.Rows LCX K1 FV DP DL LamX RM NS
open TX (sg sigs)
open PySem.W (Frag kitOne)
def ex0 (K : Frag) : Bool := He.eqO (PySem.W.nsIn K mainGlobals "Made") (some (some (.ref 127))) && (He.eqO (PySem.W.nsIn K mainGlobals "Machine") (some (some (.ref 439))) && ((PySem.W.plainGet K 127 Str.empty) && ((PySem.W.hasDictIn K 127) && ((PySem.W.plainOver K 127) && (He.eqO (PySem.W.findIn K (.ref 127) "__setattr__") (some (some (.builtin "object.__setattr__"))) && (He.eqO (PySem.W.findIn K (.ref 127) "__class__") (some (some (.builtin "object.__class__"))) && (decide (PySem.W.mroIn K 127 (.type "object") = some true) && ((PySem.W.makesIn K 127) && ((PySem.W.keepIn K (.ref 127)) && (He.eqO (PySem.W.findIn K (.ref 127) "__init__") (some (some (.ref 124))) && ((PySem.W.isFn K (.ref 124)) && ((PySem.W.plainGet K 439 Str.empty) && ((PySem.W.hasDictIn K 439) && ((PySem.W.plainOver K 439) && (He.eqO (PySem.W.findIn K (.ref 439) "__setattr__") (some (some (.builtin "object.__setattr__"))) && (He.eqO (PySem.W.findIn K (.ref 439) "__class__") (some (some (.builtin "object.__class__"))) && (decide (PySem.W.mroIn K 439 (.type "object") = some true) && ((PySem.W.makesIn K 439) && ((PySem.W.keepIn K (.ref 439)) && (He.eqO (PySem.W.findIn K (.ref 439) "__init__") (some (some (.ref 313))) && ((PySem.W.isFn K (.ref 313)) && (He.eqO (PySem.W.specialIn K (.builtin "object.__class__") "__get__") (some (some (.builtin "getset_descriptor.__get__"))) && (decide (PySem.W.takesIn K (.builtin "object.__class__") = some true) && (He.eqO (PySem.W.findIn K (.ref 127) "rows") (some none) && (He.eqO (PySem.W.findIn K (.ref 439) "_table") (some none) && (He.eqO (PySem.W.findIn K (.ref 439) "_letters") (some none) && (He.eqO (PySem.W.findIn K (.ref 439) "_ends") (some none) && (He.eqO (PySem.W.findIn K (.ref 439) "letters") (some (some (.ref 321))) && (He.eqO (PySem.W.specialIn K (.ref 321) "__get__") (some (some (.builtin "property.__get__"))) && true)))))))))))))))))))))))))))))
def ex1 (K : Frag) : Bool := decide (PySem.W.takesIn K (.ref 321) = some true) && (HK.recB K 321 "property" 320 && (He.eqO (PySem.W.findIn K (.ref 439) "table") (some (some (.ref 329))) && (He.eqO (PySem.W.specialIn K (.ref 329) "__get__") (some (some (.builtin "property.__get__"))) && (decide (PySem.W.takesIn K (.ref 329) = some true) && (HK.recB K 329 "property" 328 && (He.eqO (PySem.W.findIn K (.ref 439) "least") (some (some (.ref 382))) && ((PySem.W.isFn K (.ref 382)) && (He.eqO (PySem.W.findIn K (.ref 439) "__invert__") (some (some (.ref 387))) && ((PySem.W.isFn K (.ref 387)) && (decide (kitOne K (.ref 439) (.ref 439) = some true) && (((plainTys.all fun t => kitOne K (.type t) (.ref 127) == some false)) && (He.eqO (PySem.W.nsIn K mainGlobals "InvalidMachine") (some (some (.ref 56))) && ((PySem.W.excIn K 56 [.type "ValueError", .type "Exception", .type "BaseException", .type "object"] "ValueError.__new__") && ((PySem.W.keepIn K (.ref 56)) && (decide (PySem.W.subIn K (.ref 56) (.type "BaseException") = some true) && (decide (PySem.W.typeIn K (.ref 56) = some (.type "type")) && (He.eqO (PySem.W.nsIn K mainGlobals "ways") (some (some (.ref 150))) && (HK.fnB K 150 "ways" none none none && ((PySem.W.keepIn K (.ref 150)) && (He.eqO (PySem.W.nsIn K mainGlobals "word_along") (some (some (.ref 157))) && (HK.fnB K 157 "word_along" none none none && ((PySem.W.keepIn K (.ref 157)) && (He.eqO (PySem.W.nsIn K mainGlobals "trimmed") (some (some (.ref 162))) && (HK.fnB K 162 "trimmed" none none none && ((PySem.W.keepIn K (.ref 162)) && (He.eqO (PySem.W.nsIn K mainGlobals "numbered") (some (some (.ref 175))) && (HK.fnB K 175 "numbered" none none none && ((PySem.W.keepIn K (.ref 175)) && (He.eqO (PySem.W.nsIn K mainGlobals "refined") (some (some (.ref 180))) && true)))))))))))))))))))))))))))))
def ex2 (K : Frag) : Bool := HK.fnB K 180 "refined" none none none && ((PySem.W.keepIn K (.ref 180)) && (He.eqO (PySem.W.nsIn K mainGlobals "least_parts") (some (some (.ref 185))) && (HK.fnB K 185 "least_parts" none none none && ((PySem.W.keepIn K (.ref 185)) && (He.eqO (PySem.W.nsIn K mainGlobals "knots_of") (some (some (.ref 192))) && (HK.fnB K 192 "knots_of" none none none && ((PySem.W.keepIn K (.ref 192)) && (He.eqO (PySem.W.nsIn K mainGlobals "_turned_round") (some (some (.ref 197))) && (HK.fnB K 197 "_turned_round" none none none && ((PySem.W.keepIn K (.ref 197)) && (He.eqO (PySem.W.nsIn K mainGlobals "_finished") (some (some (.ref 204))) && (HK.fnB K 204 "_finished" none none none && ((PySem.W.keepIn K (.ref 204)) && (He.eqO (PySem.W.nsIn K mainGlobals "_not_taken") (some (some (.ref 211))) && (HK.fnB K 211 "_not_taken" none none none && ((PySem.W.keepIn K (.ref 211)) && (He.eqO (PySem.W.nsIn K mainGlobals "is_integer") (some (some (.ref 218))) && (HK.fnB K 218 "is_integer" none none none && ((PySem.W.keepIn K (.ref 218)) && (He.eqO (PySem.W.nsIn K mainGlobals "is_number") (some (some (.ref 225))) && (HK.fnB K 225 "is_number" none none none && ((PySem.W.keepIn K (.ref 225)) && (He.eqO (PySem.W.nsIn K mainGlobals "ascends") (some (some (.ref 237))) && (HK.fnB K 237 "ascends" none none none && ((PySem.W.keepIn K (.ref 237)) && (He.eqO (PySem.W.nsIn K mainGlobals "is_ascending") (some (some (.ref 242))) && (HK.fnB K 242 "is_ascending" none none none && ((PySem.W.keepIn K (.ref 242)) && (He.eqO (PySem.W.nsIn K mainGlobals "is_table") (some (some (.ref 247))) && true)))))))))))))))))))))))))))))
def ex3 (K : Frag) : Bool := HK.fnB K 247 "is_table" none none none && ((PySem.W.keepIn K (.ref 247)) && (He.eqO (PySem.W.nsIn K mainGlobals "_is_row") (some (some (.ref 252))) && (HK.fnB K 252 "_is_row" none none none && ((PySem.W.keepIn K (.ref 252)) && (He.eqO (PySem.W.nsIn K mainGlobals "is_letters") (some (some (.ref 259))) && (HK.fnB K 259 "is_letters" none none none && ((PySem.W.keepIn K (.ref 259)) && (He.eqO (PySem.W.nsIn K mainGlobals "is_word") (some (some (.ref 266))) && (HK.fnB K 266 "is_word" none none none && ((PySem.W.keepIn K (.ref 266)) && (He.eqO (PySem.W.nsIn K mainGlobals "least_machine") (some (some (.ref 451))) && (HK.fnB K 451 "least_machine" (some 444) none none && ((PySem.W.keepIn K (.ref 451)) && (He.eqO (PySem.W.nsIn K mainGlobals "need_machines") (some (some (.ref 458))) && (HK.fnB K 458 "need_machines" none none none && ((PySem.W.keepIn K (.ref 458)) && (He.eqO (PySem.W.nsIn K mainGlobals "state_words") (some (some (.ref 475))) && (HK.fnB K 475 "state_words" none none none && ((PySem.W.keepIn K (.ref 475)) && (He.eqO (PySem.W.nsIn K mainGlobals "knots") (some (some (.ref 482))) && (HK.fnB K 482 "knots" none none none && ((PySem.W.keepIn K (.ref 482)) && (He.eqO (PySem.W.nsIn K mainGlobals "is_order_free") (some (some (.ref 487))) && (HK.fnB K 487 "is_order_free" none none none && ((PySem.W.keepIn K (.ref 487)) && (He.eqO (PySem.W.nsIn K mainGlobals "_law_dice") (some (some (.ref 494))) && (HK.fnB K 494 "_law_dice" none none none && ((PySem.W.keepIn K (.ref 494)) && (He.eqO (PySem.W.nsIn K mainGlobals "_law_roll") (some (some (.ref 501))) && true)))))))))))))))))))))))))))))
def ex4 (K : Frag) : Bool := HK.fnB K 501 "_law_roll" none none none && ((PySem.W.keepIn K (.ref 501)) && (He.eqO (PySem.W.nsIn K mainGlobals "_law_one_of") (some (some (.ref 508))) && (HK.fnB K 508 "_law_one_of" none none none && ((PySem.W.keepIn K (.ref 508)) && (He.eqO (PySem.W.nsIn K mainGlobals "_law_mixed") (some (some (.ref 515))) && (HK.fnB K 515 "_law_mixed" none none none && ((PySem.W.keepIn K (.ref 515)) && (He.eqO (PySem.W.nsIn K mainGlobals "_law_letters") (some (some (.ref 522))) && (HK.fnB K 522 "_law_letters" none none none && ((PySem.W.keepIn K (.ref 522)) && (He.eqO (PySem.W.nsIn K mainGlobals "_law_action") (some (some (.ref 527))) && (HK.fnB K 527 "_law_action" none none none && ((PySem.W.keepIn K (.ref 527)) && (He.eqO (PySem.W.nsIn K mainGlobals "_law_table") (some (some (.ref 532))) && (HK.fnB K 532 "_law_table" none none none && ((PySem.W.keepIn K (.ref 532)) && (He.eqO (PySem.W.nsIn K mainGlobals "_law_machine") (some (some (.ref 537))) && (HK.fnB K 537 "_law_machine" none none none && ((PySem.W.keepIn K (.ref 537)) && (He.eqO (PySem.W.nsIn K mainGlobals "_law_made_machine") (some (some (.ref 544))) && (HK.fnB K 544 "_law_made_machine" none none none && ((PySem.W.keepIn K (.ref 544)) && (He.eqO (PySem.W.nsIn K mainGlobals "_law_led") (some (some (.ref 551))) && (HK.fnB K 551 "_law_led" none none none && ((PySem.W.keepIn K (.ref 551)) && (He.eqO (PySem.W.nsIn K mainGlobals "_law_has") (some (some (.ref 558))) && (HK.fnB K 558 "_law_has" none none none && ((PySem.W.keepIn K (.ref 558)) && (He.eqO (PySem.W.nsIn K mainGlobals "_law_firsts") (some (some (.ref 565))) && true)))))))))))))))))))))))))))))
def ex5 (K : Frag) : Bool := HK.fnB K 565 "_law_firsts" none none none && ((PySem.W.keepIn K (.ref 565)) && (He.eqO (PySem.W.nsIn K mainGlobals "_law_all_words") (some (some (.ref 570))) && (HK.fnB K 570 "_law_all_words" none none none && ((PySem.W.keepIn K (.ref 570)) && (He.eqO (PySem.W.nsIn K mainGlobals "_law_parted") (some (some (.ref 575))) && (HK.fnB K 575 "_law_parted" none none none && ((PySem.W.keepIn K (.ref 575)) && (He.eqO (PySem.W.nsIn K mainGlobals "_law_reach") (some (some (.ref 580))) && (HK.fnB K 580 "_law_reach" none none none && ((PySem.W.keepIn K (.ref 580)) && (He.eqO (PySem.W.nsIn K mainGlobals "_law_knots") (some (some (.ref 585))) && (HK.fnB K 585 "_law_knots" none none none && ((PySem.W.keepIn K (.ref 585)) && (He.eqO (PySem.W.nsIn K mainGlobals "_law_is_free") (some (some (.ref 592))) && (HK.fnB K 592 "_law_is_free" none none none && ((PySem.W.keepIn K (.ref 592)) && (He.eqO (PySem.W.nsIn K mainGlobals "_law_agree") (some (some (.ref 599))) && (HK.fnB K 599 "_law_agree" none none none && ((PySem.W.keepIn K (.ref 599)) && (He.eqO (PySem.W.nsIn K mainGlobals "_law_right") (some (some (.ref 606))) && (HK.fnB K 606 "_law_right" none none none && ((PySem.W.keepIn K (.ref 606)) && (He.eqO (PySem.W.nsIn K mainGlobals "law") (some (some (.ref 613))) && (HK.fnB K 613 "law" none none none && ((PySem.W.keepIn K (.ref 613)) && (HK.fnB K 124 "Made.__init__" none none none && ((PySem.W.keepIn K (.ref 124)) && (HK.fnB K 313 "Machine.__init__" (some 306) none none && ((PySem.W.keepIn K (.ref 313)) && true)))))))))))))))))))))))))))))
def ex6 (K : Frag) : Bool := HK.fnB K 320 "Machine.letters" none none none && ((PySem.W.keepIn K (.ref 320)) && (HK.fnB K 328 "Machine.table" none none none && ((PySem.W.keepIn K (.ref 328)) && (HK.fnB K 382 "Machine.least" none none none && ((PySem.W.keepIn K (.ref 382)) && (HK.fnB K 387 "Machine.__invert__" none none none && ((PySem.W.keepIn K (.ref 387)) && (HK.zerB K 444 && (HK.oneB K 306 && (HK.intB K mainGlobals "MAX_LETTERS" 3 && (HK.intB K mainGlobals "MAX_STATES" 4 && (He.eqO (PySem.W.nsIn K mainGlobals "len") (some none) && (He.eqO (PySem.W.nsIn K mainGlobals "int") (some none) && (He.eqO (PySem.W.nsIn K mainGlobals "abs") (some none) && (He.eqO (PySem.W.nsIn K mainGlobals "isinstance") (some none) && (He.eqO (PySem.W.nsIn K mainGlobals "bool") (some none) && (He.eqO (PySem.W.nsIn K mainGlobals "str") (some none) && (He.eqO (PySem.W.nsIn K mainGlobals "all") (some none) && (He.eqO (PySem.W.nsIn K mainGlobals "range") (some none) && (He.eqO (PySem.W.nsIn K mainGlobals "sorted") (some none) && (He.eqO (PySem.W.nsIn K mainGlobals "set") (some none) && (He.eqO (PySem.W.nsIn K mainGlobals "tuple") (some none) && (He.eqO (PySem.W.nsIn K mainGlobals "list") (some none) && (He.eqO (PySem.W.nsIn K mainGlobals "max") (some none) && (He.eqO (PySem.W.nsIn K mainGlobals "min") (some none) && (He.eqO (PySem.W.nsIn K mainGlobals "zip") (some none) && (He.eqO (PySem.W.nsIn K mainGlobals "enumerate") (some none) && true)))))))))))))))))))))))))))
def exG0 (K : Frag) : Bool := ex0 K && (ex1 K && true)
def exG1 (K : Frag) : Bool := ex2 K && (ex3 K && true)
def exG2 (K : Frag) : Bool := ex4 K && (ex5 K && true)
def exG3 (K : Frag) : Bool := ex6 K && true
abbrev exAllK : Frag → Bool := fun K => (fun K => (fun K => (fun K => (fun _ => true) K && exG0 K) K && exG1 K) K && exG2 K) K && exG3 K
abbrev fs0 : List (Addr × HK.FnT) := [(150, HK.fnIs "ways" "ways" sWays), (157, HK.fnIs "word_along" "word_along" sAlong), (162, HK.fnIs "trimmed" "trimmed" sTrim), (175, HK.fnIs "numbered" "numbered" sNumd), (180, HK.fnIs "refined" "refined" sRefd), (185, HK.fnIs "least_parts" "least_parts" sLP), (192, HK.fnIs "knots_of" "knots_of" sKnotsOf), (197, HK.fnIs "_turned_round" "_turned_round" sTurned), (204, HK.fnIs "_finished" "_finished" sFinished), (211, HK.fnIs "_not_taken" "_not_taken" sNotTaken), (218, HK.fnIs "is_integer" "is_integer" sIsInt), (225, HK.fnIs "is_number" "is_number" sIsNum), (237, HK.fnIs "ascends" "ascends" sAsc), (242, HK.fnIs "is_ascending" "is_ascending" sIsAsc), (247, HK.fnIs "is_table" "is_table" sIsTab), (252, HK.fnIs "_is_row" "_is_row" sIsRow), (259, HK.fnIs "is_letters" "is_letters" sIsLet), (266, HK.fnIs "is_word" "is_word" sIsWord), (451, HK.fnIs "least_machine" "least_machine" sLM), (458, HK.fnIs "need_machines" "need_machines" sNeedMs), (475, HK.fnIs "state_words" "state_words" sStW), (482, HK.fnIs "knots" "knots" sKnots), (487, HK.fnIs "is_order_free" "is_order_free" sFree), (494, HK.fnIs "_law_dice" "_law_dice" sDice), (501, HK.fnIs "_law_roll" "_law_roll" sRoll)]
abbrev fs1 : List (Addr × HK.FnT) := [(508, HK.fnIs "_law_one_of" "_law_one_of" sOne), (515, HK.fnIs "_law_mixed" "_law_mixed" sMixed), (522, HK.fnIs "_law_letters" "_law_letters" sLetters), (527, HK.fnIs "_law_action" "_law_action" sAct), (532, HK.fnIs "_law_table" "_law_table" sLTab), (537, HK.fnIs "_law_machine" "_law_machine" sLMac), (544, HK.fnIs "_law_made_machine" "_law_made_machine" sMade), (551, HK.fnIs "_law_led" "_law_led" sLLed), (558, HK.fnIs "_law_has" "_law_has" sLHas), (565, HK.fnIs "_law_firsts" "_law_firsts" sLFirsts), (570, HK.fnIs "_law_all_words" "_law_all_words" sLAll), (575, HK.fnIs "_law_parted" "_law_parted" sParted), (580, HK.fnIs "_law_reach" "_law_reach" sReach), (585, HK.fnIs "_law_knots" "_law_knots" sLKnots), (592, HK.fnIs "_law_is_free" "_law_is_free" sLFree), (599, HK.fnIs "_law_agree" "_law_agree" sAgree), (606, HK.fnIs "_law_right" "_law_right" sLR4), (613, HK.fnIs "law" "law" sLaw4), (124, HK.fnIs "__init__" "Made.__init__" sMadeI), (313, HK.fnIs "__init__" "Machine.__init__" sMInit), (320, HK.fnIs "letters" "Machine.letters" sMLet), (328, HK.fnIs "table" "Machine.table" sMTab), (382, HK.fnIs "least" "Machine.least" sMLeast), (387, HK.fnIs "__invert__" "Machine.__invert__" sMInv)]
abbrev fsAll : List (Addr × HK.FnT) := fs0 ++ (fs1)
def as0 : List Addr := [2, 3, 15, 17, 18, 20, 21, 22, 29, 30, 31, 32, 35, 42, 43, 44, 47, 54, 55, 56, 59, 66, 67, 68, 71, 78, 80, 81, 83, 84, 85, 86, 87, 88, 91, 98, 100, 101, 103, 104, 105, 106, 107, 108, 118, 120, 121, 123, 124, 125, 126, 127, 128, 129, 132, 135, 136, 137, 139, 140]
def as1 : List Addr := [142, 143, 144, 146, 147, 149, 150, 151, 153, 154, 156, 157, 158, 161, 162, 163, 164, 166, 167, 169, 170, 171, 174, 175, 176, 179, 180, 181, 184, 185, 186, 188, 189, 191, 192, 193, 196, 197, 198, 200, 201, 203, 204, 205, 207, 208, 210, 211, 212, 214, 215, 217, 218, 219, 221, 222, 224, 225, 226, 228]
def as2 : List Addr := [229, 231, 232, 233, 236, 237, 238, 241, 242, 243, 246, 247, 248, 251, 252, 253, 255, 256, 258, 259, 260, 262, 263, 265, 266, 267, 270, 271, 272, 274, 275, 277, 278, 279, 281, 282, 284, 285, 286, 288, 289, 291, 292, 293, 296, 297, 305, 306, 307, 309, 310, 312, 313, 314, 316, 317, 319, 320, 321, 322]
def as3 : List Addr := [324, 325, 327, 328, 329, 330, 332, 333, 335, 336, 337, 338, 340, 341, 343, 344, 345, 346, 348, 349, 351, 352, 353, 354, 355, 357, 358, 360, 361, 362, 364, 365, 367, 368, 369, 371, 372, 374, 375, 376, 378, 379, 381, 382, 383, 386, 387, 388, 390, 391, 393, 394, 395, 397, 398, 400, 401, 402, 404, 405]
def as4 : List Addr := [407, 408, 409, 411, 412, 414, 415, 416, 418, 419, 421, 422, 423, 425, 426, 428, 429, 430, 432, 433, 435, 436, 437, 438, 439, 440, 441, 444, 445, 447, 448, 450, 451, 452, 454, 455, 457, 458, 459, 461, 462, 464, 465, 466, 469, 470, 471, 474, 475, 476, 478, 479, 481, 482, 483, 486, 487, 488, 490, 491]
def as5 : List Addr := [493, 494, 495, 497, 498, 500, 501, 502, 504, 505, 507, 508, 509, 511, 512, 514, 515, 516, 518, 519, 521, 522, 523, 526, 527, 528, 531, 532, 533, 536, 537, 538, 540, 541, 543, 544, 545, 547, 548, 550, 551, 552, 554, 555, 557, 558, 559, 561, 562, 564, 565, 566, 569, 570, 571, 574, 575, 576, 579, 580]
def as6 : List Addr := [581, 584, 585, 586, 588, 589, 591, 592, 593, 595, 596, 598, 599, 600, 602, 603, 605, 606, 607, 609, 610, 612, 613]
def asAll : List Addr := as0 ++ (as1 ++ (as2 ++ (as3 ++ (as4 ++ (as5 ++ (as6))))))
abbrev tsAll : List Addr := []
def nm0 : List Str := ["_wall", "WatchError", "InvalidWord", "InvalidMachine", "InvalidOperation", "InvalidNumber", "TooMany", "Made", "led", "led_often", "ways", "word_along", "trimmed", "paired", "numbered", "refined", "least_parts", "knots_of", "_turned_round", "_finished", "_not_taken", "is_integer", "is_number", "need_number", "ascends", "is_ascending", "is_table", "_is_row", "MAX_LETTERS", "is_letters"]
def nm1 : List Str := ["is_word", "is_over", "need_letters", "need_word", "need_over", "all_words", "MAX_STATES", "MAX_TIMES", "Machine", "least_machine", "need_machines", "need_same_letters", "_combined", "state_words", "knots", "is_order_free", "_law_dice", "_law_roll", "_law_one_of", "_law_mixed", "_law_letters", "_law_action", "_law_table", "_law_machine", "_law_made_machine", "_law_led", "_law_has", "_law_firsts", "_law_all_words", "_law_parted"]
def nm2 : List Str := ["_law_reach", "_law_knots", "_law_is_free", "_law_agree", "_law_right"]
def nmAll : List Str := nm0 ++ (nm1 ++ (nm2))
abbrev Rw : PySem.W.OpenRow := PySem.W.OpenLaw.row PySem.Challenge.rw_watchkinds_k04_whole_knots_and_order_fre
abbrev hkAll : PySem.W.Hook := HK.hook asAll tsAll exAllK fsAll
def obAll (s : PySem.W.SharedT) : Bool × List HK.FnT := HK.look asAll tsAll exAllK fsAll (HandSHeadRun.getT s)
theorem obAll_eq (s : PySem.W.SharedT) : obAll s = hkAll.obs s.abs := HK.look_eq s
theorem runF (w : World) : HandSHeadRun.RunEq Rw (PySem.W.view Rw.prog [72]) (HK.hook asAll tsAll (fun _ => true) fsAll) (fun s => HK.look asAll tsAll (fun _ => true) fsAll (HandSHeadRun.getT s)) 9000 nmAll w := by
  intro os
  kernel_rfl
theorem runG0 (w : World) : HandSHeadRun.RunEq Rw (PySem.W.view Rw.prog [72]) (HK.hook asAll [] (exG0) []) (fun s => HK.look asAll [] (exG0) [] (HandSHeadRun.getT s)) 9000 nmAll w := by
  intro os
  kernel_rfl
theorem runG1 (w : World) : HandSHeadRun.RunEq Rw (PySem.W.view Rw.prog [72]) (HK.hook asAll [] (exG1) []) (fun s => HK.look asAll [] (exG1) [] (HandSHeadRun.getT s)) 9000 nmAll w := by
  intro os
  kernel_rfl
theorem runG2 (w : World) : HandSHeadRun.RunEq Rw (PySem.W.view Rw.prog [72]) (HK.hook asAll [] (exG2) []) (fun s => HK.look asAll [] (exG2) [] (HandSHeadRun.getT s)) 9000 nmAll w := by
  intro os
  kernel_rfl
theorem runG3 (w : World) : HandSHeadRun.RunEq Rw (PySem.W.view Rw.prog [72]) (HK.hook asAll [] (exG3) []) (fun s => HK.look asAll [] (exG3) [] (HandSHeadRun.getT s)) 9000 nmAll w := by
  intro os
  kernel_rfl
theorem runAll (w : World) : HandSHeadRun.RunEq Rw (PySem.W.view Rw.prog [72]) hkAll obAll 9000 nmAll w := HK.run_join (HK.run_join (HK.run_join (HK.run_join (runF w) (runG0 w)) (runG1 w)) (runG2 w)) (runG3 w)
theorem facts {w : World} {K : Frag} {h : Heap} {mg : Str → Option Value} {fa : Addr} (c : HK.Says tsAll exAllK fsAll h K) (G : h.Ns mainGlobals mg) (hfa : mg "law" = some (.ref fa)) : LamX.LawAtS PySem.Challenge.rw_watchkinds_k04_whole_knots_and_order_fre w K CX0 10 63 "_law_script" mg fa h := by
  have X := c.ex
  obtain ⟨X, Y3⟩ := Bool.and_eq_true_iff.mp X
  obtain ⟨X, Y2⟩ := Bool.and_eq_true_iff.mp X
  obtain ⟨X, Y1⟩ := Bool.and_eq_true_iff.mp X
  obtain ⟨X, Y0⟩ := Bool.and_eq_true_iff.mp X
  obtain ⟨E0, Y0⟩ := Bool.and_eq_true_iff.mp Y0
  have E0 : (He.eqO (PySem.W.nsIn K mainGlobals "Made") (some (some (.ref 127))) && (He.eqO (PySem.W.nsIn K mainGlobals "Machine") (some (some (.ref 439))) && ((PySem.W.plainGet K 127 Str.empty) && ((PySem.W.hasDictIn K 127) && ((PySem.W.plainOver K 127) && (He.eqO (PySem.W.findIn K (.ref 127) "__setattr__") (some (some (.builtin "object.__setattr__"))) && (He.eqO (PySem.W.findIn K (.ref 127) "__class__") (some (some (.builtin "object.__class__"))) && (decide (PySem.W.mroIn K 127 (.type "object") = some true) && ((PySem.W.makesIn K 127) && ((PySem.W.keepIn K (.ref 127)) && (He.eqO (PySem.W.findIn K (.ref 127) "__init__") (some (some (.ref 124))) && ((PySem.W.isFn K (.ref 124)) && ((PySem.W.plainGet K 439 Str.empty) && ((PySem.W.hasDictIn K 439) && ((PySem.W.plainOver K 439) && (He.eqO (PySem.W.findIn K (.ref 439) "__setattr__") (some (some (.builtin "object.__setattr__"))) && (He.eqO (PySem.W.findIn K (.ref 439) "__class__") (some (some (.builtin "object.__class__"))) && (decide (PySem.W.mroIn K 439 (.type "object") = some true) && ((PySem.W.makesIn K 439) && ((PySem.W.keepIn K (.ref 439)) && (He.eqO (PySem.W.findIn K (.ref 439) "__init__") (some (some (.ref 313))) && ((PySem.W.isFn K (.ref 313)) && (He.eqO (PySem.W.specialIn K (.builtin "object.__class__") "__get__") (some (some (.builtin "getset_descriptor.__get__"))) && (decide (PySem.W.takesIn K (.builtin "object.__class__") = some true) && (He.eqO (PySem.W.findIn K (.ref 127) "rows") (some none) && (He.eqO (PySem.W.findIn K (.ref 439) "_table") (some none) && (He.eqO (PySem.W.findIn K (.ref 439) "_letters") (some none) && (He.eqO (PySem.W.findIn K (.ref 439) "_ends") (some none) && (He.eqO (PySem.W.findIn K (.ref 439) "letters") (some (some (.ref 321))) && (He.eqO (PySem.W.specialIn K (.ref 321) "__get__") (some (some (.builtin "property.__get__"))) && true)))))))))))))))))))))))))))))) = true := E0
  obtain ⟨S, E0⟩ := Bool.and_eq_true_iff.mp E0
  have gd : PySem.W.nsIn K mainGlobals "Made" = some (some (.ref 127)) := He.eqO_ok S
  obtain ⟨S, E0⟩ := Bool.and_eq_true_iff.mp E0
  have gm : PySem.W.nsIn K mainGlobals "Machine" = some (some (.ref 439)) := He.eqO_ok S
  obtain ⟨S, E0⟩ := Bool.and_eq_true_iff.mp E0
  have pgd : PySem.W.plainGet K 127 Str.empty = true := S
  obtain ⟨S, E0⟩ := Bool.and_eq_true_iff.mp E0
  have hdd : PySem.W.hasDictIn K 127 = true := S
  obtain ⟨S, E0⟩ := Bool.and_eq_true_iff.mp E0
  have pod : PySem.W.plainOver K 127 = true := S
  obtain ⟨S, E0⟩ := Bool.and_eq_true_iff.mp E0
  have sad : PySem.W.findIn K (.ref 127) "__setattr__" = some (some (.builtin "object.__setattr__")) := He.eqO_ok S
  obtain ⟨S, E0⟩ := Bool.and_eq_true_iff.mp E0
  have ccd : PySem.W.findIn K (.ref 127) "__class__" = some (some (.builtin "object.__class__")) := He.eqO_ok S
  obtain ⟨S, E0⟩ := Bool.and_eq_true_iff.mp E0
  have obd : PySem.W.mroIn K 127 (.type "object") = some true := of_decide_eq_true S
  obtain ⟨S, E0⟩ := Bool.and_eq_true_iff.mp E0
  have mkd : PySem.W.makesIn K 127 = true := S
  obtain ⟨S, E0⟩ := Bool.and_eq_true_iff.mp E0
  have kCd : PySem.W.keepIn K (.ref 127) = true := S
  obtain ⟨S, E0⟩ := Bool.and_eq_true_iff.mp E0
  have id : PySem.W.findIn K (.ref 127) "__init__" = some (some (.ref 124)) := He.eqO_ok S
  obtain ⟨S, E0⟩ := Bool.and_eq_true_iff.mp E0
  have nid : PySem.W.isFn K (.ref 124) = true := S
  obtain ⟨S, E0⟩ := Bool.and_eq_true_iff.mp E0
  have pgm : PySem.W.plainGet K 439 Str.empty = true := S
  obtain ⟨S, E0⟩ := Bool.and_eq_true_iff.mp E0
  have hdm : PySem.W.hasDictIn K 439 = true := S
  obtain ⟨S, E0⟩ := Bool.and_eq_true_iff.mp E0
  have pom : PySem.W.plainOver K 439 = true := S
  obtain ⟨S, E0⟩ := Bool.and_eq_true_iff.mp E0
  have sam : PySem.W.findIn K (.ref 439) "__setattr__" = some (some (.builtin "object.__setattr__")) := He.eqO_ok S
  obtain ⟨S, E0⟩ := Bool.and_eq_true_iff.mp E0
  have ccm : PySem.W.findIn K (.ref 439) "__class__" = some (some (.builtin "object.__class__")) := He.eqO_ok S
  obtain ⟨S, E0⟩ := Bool.and_eq_true_iff.mp E0
  have obm : PySem.W.mroIn K 439 (.type "object") = some true := of_decide_eq_true S
  obtain ⟨S, E0⟩ := Bool.and_eq_true_iff.mp E0
  have mkm : PySem.W.makesIn K 439 = true := S
  obtain ⟨S, E0⟩ := Bool.and_eq_true_iff.mp E0
  have kCm : PySem.W.keepIn K (.ref 439) = true := S
  obtain ⟨S, E0⟩ := Bool.and_eq_true_iff.mp E0
  have im : PySem.W.findIn K (.ref 439) "__init__" = some (some (.ref 313)) := He.eqO_ok S
  obtain ⟨S, E0⟩ := Bool.and_eq_true_iff.mp E0
  have nim : PySem.W.isFn K (.ref 313) = true := S
  obtain ⟨S, E0⟩ := Bool.and_eq_true_iff.mp E0
  have cn : PySem.W.specialIn K (.builtin "object.__class__") "__get__" = some (some (.builtin "getset_descriptor.__get__")) := He.eqO_ok S
  obtain ⟨S, E0⟩ := Bool.and_eq_true_iff.mp E0
  have ct : PySem.W.takesIn K (.builtin "object.__class__") = some true := of_decide_eq_true S
  obtain ⟨S, E0⟩ := Bool.and_eq_true_iff.mp E0
  have nR : PySem.W.findIn K (.ref 127) "rows" = some none := He.eqO_ok S
  obtain ⟨S, E0⟩ := Bool.and_eq_true_iff.mp E0
  have nMT : PySem.W.findIn K (.ref 439) "_table" = some none := He.eqO_ok S
  obtain ⟨S, E0⟩ := Bool.and_eq_true_iff.mp E0
  have nML : PySem.W.findIn K (.ref 439) "_letters" = some none := He.eqO_ok S
  obtain ⟨S, E0⟩ := Bool.and_eq_true_iff.mp E0
  have nME : PySem.W.findIn K (.ref 439) "_ends" = some none := He.eqO_ok S
  obtain ⟨S, E0⟩ := Bool.and_eq_true_iff.mp E0
  have paml : PySem.W.findIn K (.ref 439) "letters" = some (some (.ref 321)) := He.eqO_ok S
  obtain ⟨S, E0⟩ := Bool.and_eq_true_iff.mp E0
  have pg_ml : PySem.W.specialIn K (.ref 321) "__get__" = some (some (.builtin "property.__get__")) := He.eqO_ok S
  obtain ⟨E1, Y0⟩ := Bool.and_eq_true_iff.mp Y0
  have E1 : (decide (PySem.W.takesIn K (.ref 321) = some true) && (HK.recB K 321 "property" 320 && (He.eqO (PySem.W.findIn K (.ref 439) "table") (some (some (.ref 329))) && (He.eqO (PySem.W.specialIn K (.ref 329) "__get__") (some (some (.builtin "property.__get__"))) && (decide (PySem.W.takesIn K (.ref 329) = some true) && (HK.recB K 329 "property" 328 && (He.eqO (PySem.W.findIn K (.ref 439) "least") (some (some (.ref 382))) && ((PySem.W.isFn K (.ref 382)) && (He.eqO (PySem.W.findIn K (.ref 439) "__invert__") (some (some (.ref 387))) && ((PySem.W.isFn K (.ref 387)) && (decide (kitOne K (.ref 439) (.ref 439) = some true) && (((plainTys.all fun t => kitOne K (.type t) (.ref 127) == some false)) && (He.eqO (PySem.W.nsIn K mainGlobals "InvalidMachine") (some (some (.ref 56))) && ((PySem.W.excIn K 56 [.type "ValueError", .type "Exception", .type "BaseException", .type "object"] "ValueError.__new__") && ((PySem.W.keepIn K (.ref 56)) && (decide (PySem.W.subIn K (.ref 56) (.type "BaseException") = some true) && (decide (PySem.W.typeIn K (.ref 56) = some (.type "type")) && (He.eqO (PySem.W.nsIn K mainGlobals "ways") (some (some (.ref 150))) && (HK.fnB K 150 "ways" none none none && ((PySem.W.keepIn K (.ref 150)) && (He.eqO (PySem.W.nsIn K mainGlobals "word_along") (some (some (.ref 157))) && (HK.fnB K 157 "word_along" none none none && ((PySem.W.keepIn K (.ref 157)) && (He.eqO (PySem.W.nsIn K mainGlobals "trimmed") (some (some (.ref 162))) && (HK.fnB K 162 "trimmed" none none none && ((PySem.W.keepIn K (.ref 162)) && (He.eqO (PySem.W.nsIn K mainGlobals "numbered") (some (some (.ref 175))) && (HK.fnB K 175 "numbered" none none none && ((PySem.W.keepIn K (.ref 175)) && (He.eqO (PySem.W.nsIn K mainGlobals "refined") (some (some (.ref 180))) && true)))))))))))))))))))))))))))))) = true := E1
  obtain ⟨S, E1⟩ := Bool.and_eq_true_iff.mp E1
  have pt_ml : PySem.W.takesIn K (.ref 321) = some true := of_decide_eq_true S
  obtain ⟨S, E1⟩ := Bool.and_eq_true_iff.mp E1
  obtain ⟨_, pr_ml⟩ := HK.rec_ns S
  obtain ⟨S, E1⟩ := Bool.and_eq_true_iff.mp E1
  have pamt : PySem.W.findIn K (.ref 439) "table" = some (some (.ref 329)) := He.eqO_ok S
  obtain ⟨S, E1⟩ := Bool.and_eq_true_iff.mp E1
  have pg_mt : PySem.W.specialIn K (.ref 329) "__get__" = some (some (.builtin "property.__get__")) := He.eqO_ok S
  obtain ⟨S, E1⟩ := Bool.and_eq_true_iff.mp E1
  have pt_mt : PySem.W.takesIn K (.ref 329) = some true := of_decide_eq_true S
  obtain ⟨S, E1⟩ := Bool.and_eq_true_iff.mp E1
  obtain ⟨_, pr_mt⟩ := HK.rec_ns S
  obtain ⟨S, E1⟩ := Bool.and_eq_true_iff.mp E1
  have a47 : PySem.W.findIn K (.ref 439) "least" = some (some (.ref 382)) := He.eqO_ok S
  obtain ⟨S, E1⟩ := Bool.and_eq_true_iff.mp E1
  have n47 : PySem.W.isFn K (.ref 382) = true := S
  obtain ⟨S, E1⟩ := Bool.and_eq_true_iff.mp E1
  have a48 : PySem.W.findIn K (.ref 439) "__invert__" = some (some (.ref 387)) := He.eqO_ok S
  obtain ⟨S, E1⟩ := Bool.and_eq_true_iff.mp E1
  have n48 : PySem.W.isFn K (.ref 387) = true := S
  obtain ⟨S, E1⟩ := Bool.and_eq_true_iff.mp E1
  have kim : kitOne K (.ref 439) (.ref 439) = some true := of_decide_eq_true S
  obtain ⟨S, E1⟩ := Bool.and_eq_true_iff.mp E1
  have kitD : (plainTys.all fun t => kitOne K (.type t) (.ref 127) == some false) = true := S
  obtain ⟨S, E1⟩ := Bool.and_eq_true_iff.mp E1
  have gI : PySem.W.nsIn K mainGlobals "InvalidMachine" = some (some (.ref 56)) := He.eqO_ok S
  obtain ⟨S, E1⟩ := Bool.and_eq_true_iff.mp E1
  have xI : PySem.W.excIn K 56 [.type "ValueError", .type "Exception", .type "BaseException", .type "object"] "ValueError.__new__" = true := S
  obtain ⟨S, E1⟩ := Bool.and_eq_true_iff.mp E1
  have kI : PySem.W.keepIn K (.ref 56) = true := S
  obtain ⟨S, E1⟩ := Bool.and_eq_true_iff.mp E1
  have bI : PySem.W.subIn K (.ref 56) (.type "BaseException") = some true := of_decide_eq_true S
  obtain ⟨S, E1⟩ := Bool.and_eq_true_iff.mp E1
  have tI : PySem.W.typeIn K (.ref 56) = some (.type "type") := of_decide_eq_true S
  obtain ⟨S, E1⟩ := Bool.and_eq_true_iff.mp E1
  have d0 : PySem.W.nsIn K mainGlobals "ways" = some (some (.ref 150)) := He.eqO_ok S
  obtain ⟨S, E1⟩ := Bool.and_eq_true_iff.mp E1
  obtain ⟨_, kv0, _, _, cd0, _, _, _, _, l0, q0, kk0, oo0⟩ := HK.fn_ok (c.fn 0 rfl) S
  obtain ⟨S, E1⟩ := Bool.and_eq_true_iff.mp E1
  have k0 : PySem.W.keepIn K (.ref 150) = true := S
  obtain ⟨S, E1⟩ := Bool.and_eq_true_iff.mp E1
  have d1 : PySem.W.nsIn K mainGlobals "word_along" = some (some (.ref 157)) := He.eqO_ok S
  obtain ⟨S, E1⟩ := Bool.and_eq_true_iff.mp E1
  obtain ⟨_, kv1, _, _, cd1, _, _, _, _, l1, q1, kk1, oo1⟩ := HK.fn_ok (c.fn 1 rfl) S
  obtain ⟨S, E1⟩ := Bool.and_eq_true_iff.mp E1
  have k1 : PySem.W.keepIn K (.ref 157) = true := S
  obtain ⟨S, E1⟩ := Bool.and_eq_true_iff.mp E1
  have d2 : PySem.W.nsIn K mainGlobals "trimmed" = some (some (.ref 162)) := He.eqO_ok S
  obtain ⟨S, E1⟩ := Bool.and_eq_true_iff.mp E1
  obtain ⟨_, kv2, _, _, cd2, _, _, _, _, l2, q2, kk2, oo2⟩ := HK.fn_ok (c.fn 2 rfl) S
  obtain ⟨S, E1⟩ := Bool.and_eq_true_iff.mp E1
  have k2 : PySem.W.keepIn K (.ref 162) = true := S
  obtain ⟨S, E1⟩ := Bool.and_eq_true_iff.mp E1
  have d3 : PySem.W.nsIn K mainGlobals "numbered" = some (some (.ref 175)) := He.eqO_ok S
  obtain ⟨S, E1⟩ := Bool.and_eq_true_iff.mp E1
  obtain ⟨_, kv3, _, _, cd3, _, _, _, _, l3, q3, kk3, oo3⟩ := HK.fn_ok (c.fn 3 rfl) S
  obtain ⟨S, E1⟩ := Bool.and_eq_true_iff.mp E1
  have k3 : PySem.W.keepIn K (.ref 175) = true := S
  obtain ⟨S, E1⟩ := Bool.and_eq_true_iff.mp E1
  have d4 : PySem.W.nsIn K mainGlobals "refined" = some (some (.ref 180)) := He.eqO_ok S
  obtain ⟨E2, Y1⟩ := Bool.and_eq_true_iff.mp Y1
  have E2 : (HK.fnB K 180 "refined" none none none && ((PySem.W.keepIn K (.ref 180)) && (He.eqO (PySem.W.nsIn K mainGlobals "least_parts") (some (some (.ref 185))) && (HK.fnB K 185 "least_parts" none none none && ((PySem.W.keepIn K (.ref 185)) && (He.eqO (PySem.W.nsIn K mainGlobals "knots_of") (some (some (.ref 192))) && (HK.fnB K 192 "knots_of" none none none && ((PySem.W.keepIn K (.ref 192)) && (He.eqO (PySem.W.nsIn K mainGlobals "_turned_round") (some (some (.ref 197))) && (HK.fnB K 197 "_turned_round" none none none && ((PySem.W.keepIn K (.ref 197)) && (He.eqO (PySem.W.nsIn K mainGlobals "_finished") (some (some (.ref 204))) && (HK.fnB K 204 "_finished" none none none && ((PySem.W.keepIn K (.ref 204)) && (He.eqO (PySem.W.nsIn K mainGlobals "_not_taken") (some (some (.ref 211))) && (HK.fnB K 211 "_not_taken" none none none && ((PySem.W.keepIn K (.ref 211)) && (He.eqO (PySem.W.nsIn K mainGlobals "is_integer") (some (some (.ref 218))) && (HK.fnB K 218 "is_integer" none none none && ((PySem.W.keepIn K (.ref 218)) && (He.eqO (PySem.W.nsIn K mainGlobals "is_number") (some (some (.ref 225))) && (HK.fnB K 225 "is_number" none none none && ((PySem.W.keepIn K (.ref 225)) && (He.eqO (PySem.W.nsIn K mainGlobals "ascends") (some (some (.ref 237))) && (HK.fnB K 237 "ascends" none none none && ((PySem.W.keepIn K (.ref 237)) && (He.eqO (PySem.W.nsIn K mainGlobals "is_ascending") (some (some (.ref 242))) && (HK.fnB K 242 "is_ascending" none none none && ((PySem.W.keepIn K (.ref 242)) && (He.eqO (PySem.W.nsIn K mainGlobals "is_table") (some (some (.ref 247))) && true)))))))))))))))))))))))))))))) = true := E2
  obtain ⟨S, E2⟩ := Bool.and_eq_true_iff.mp E2
  obtain ⟨_, kv4, _, _, cd4, _, _, _, _, l4, q4, kk4, oo4⟩ := HK.fn_ok (c.fn 4 rfl) S
  obtain ⟨S, E2⟩ := Bool.and_eq_true_iff.mp E2
  have k4 : PySem.W.keepIn K (.ref 180) = true := S
  obtain ⟨S, E2⟩ := Bool.and_eq_true_iff.mp E2
  have d5 : PySem.W.nsIn K mainGlobals "least_parts" = some (some (.ref 185)) := He.eqO_ok S
  obtain ⟨S, E2⟩ := Bool.and_eq_true_iff.mp E2
  obtain ⟨_, kv5, _, _, cd5, _, _, _, _, l5, q5, kk5, oo5⟩ := HK.fn_ok (c.fn 5 rfl) S
  obtain ⟨S, E2⟩ := Bool.and_eq_true_iff.mp E2
  have k5 : PySem.W.keepIn K (.ref 185) = true := S
  obtain ⟨S, E2⟩ := Bool.and_eq_true_iff.mp E2
  have d6 : PySem.W.nsIn K mainGlobals "knots_of" = some (some (.ref 192)) := He.eqO_ok S
  obtain ⟨S, E2⟩ := Bool.and_eq_true_iff.mp E2
  obtain ⟨_, kv6, _, _, cd6, _, _, _, _, l6, q6, kk6, oo6⟩ := HK.fn_ok (c.fn 6 rfl) S
  obtain ⟨S, E2⟩ := Bool.and_eq_true_iff.mp E2
  have k6 : PySem.W.keepIn K (.ref 192) = true := S
  obtain ⟨S, E2⟩ := Bool.and_eq_true_iff.mp E2
  have d7 : PySem.W.nsIn K mainGlobals "_turned_round" = some (some (.ref 197)) := He.eqO_ok S
  obtain ⟨S, E2⟩ := Bool.and_eq_true_iff.mp E2
  obtain ⟨_, kv7, _, _, cd7, _, _, _, _, l7, q7, kk7, oo7⟩ := HK.fn_ok (c.fn 7 rfl) S
  obtain ⟨S, E2⟩ := Bool.and_eq_true_iff.mp E2
  have k7 : PySem.W.keepIn K (.ref 197) = true := S
  obtain ⟨S, E2⟩ := Bool.and_eq_true_iff.mp E2
  have d8 : PySem.W.nsIn K mainGlobals "_finished" = some (some (.ref 204)) := He.eqO_ok S
  obtain ⟨S, E2⟩ := Bool.and_eq_true_iff.mp E2
  obtain ⟨_, kv8, _, _, cd8, _, _, _, _, l8, q8, kk8, oo8⟩ := HK.fn_ok (c.fn 8 rfl) S
  obtain ⟨S, E2⟩ := Bool.and_eq_true_iff.mp E2
  have k8 : PySem.W.keepIn K (.ref 204) = true := S
  obtain ⟨S, E2⟩ := Bool.and_eq_true_iff.mp E2
  have d9 : PySem.W.nsIn K mainGlobals "_not_taken" = some (some (.ref 211)) := He.eqO_ok S
  obtain ⟨S, E2⟩ := Bool.and_eq_true_iff.mp E2
  obtain ⟨_, kv9, _, _, cd9, _, _, _, _, l9, q9, kk9, oo9⟩ := HK.fn_ok (c.fn 9 rfl) S
  obtain ⟨S, E2⟩ := Bool.and_eq_true_iff.mp E2
  have k9 : PySem.W.keepIn K (.ref 211) = true := S
  obtain ⟨S, E2⟩ := Bool.and_eq_true_iff.mp E2
  have d10 : PySem.W.nsIn K mainGlobals "is_integer" = some (some (.ref 218)) := He.eqO_ok S
  obtain ⟨S, E2⟩ := Bool.and_eq_true_iff.mp E2
  obtain ⟨_, kv10, _, _, cd10, _, _, _, _, l10, q10, kk10, oo10⟩ := HK.fn_ok (c.fn 10 rfl) S
  obtain ⟨S, E2⟩ := Bool.and_eq_true_iff.mp E2
  have k10 : PySem.W.keepIn K (.ref 218) = true := S
  obtain ⟨S, E2⟩ := Bool.and_eq_true_iff.mp E2
  have d11 : PySem.W.nsIn K mainGlobals "is_number" = some (some (.ref 225)) := He.eqO_ok S
  obtain ⟨S, E2⟩ := Bool.and_eq_true_iff.mp E2
  obtain ⟨_, kv11, _, _, cd11, _, _, _, _, l11, q11, kk11, oo11⟩ := HK.fn_ok (c.fn 11 rfl) S
  obtain ⟨S, E2⟩ := Bool.and_eq_true_iff.mp E2
  have k11 : PySem.W.keepIn K (.ref 225) = true := S
  obtain ⟨S, E2⟩ := Bool.and_eq_true_iff.mp E2
  have d12 : PySem.W.nsIn K mainGlobals "ascends" = some (some (.ref 237)) := He.eqO_ok S
  obtain ⟨S, E2⟩ := Bool.and_eq_true_iff.mp E2
  obtain ⟨_, kv12, _, _, cd12, _, _, _, _, l12, q12, kk12, oo12⟩ := HK.fn_ok (c.fn 12 rfl) S
  obtain ⟨S, E2⟩ := Bool.and_eq_true_iff.mp E2
  have k12 : PySem.W.keepIn K (.ref 237) = true := S
  obtain ⟨S, E2⟩ := Bool.and_eq_true_iff.mp E2
  have d13 : PySem.W.nsIn K mainGlobals "is_ascending" = some (some (.ref 242)) := He.eqO_ok S
  obtain ⟨S, E2⟩ := Bool.and_eq_true_iff.mp E2
  obtain ⟨_, kv13, _, _, cd13, _, _, _, _, l13, q13, kk13, oo13⟩ := HK.fn_ok (c.fn 13 rfl) S
  obtain ⟨S, E2⟩ := Bool.and_eq_true_iff.mp E2
  have k13 : PySem.W.keepIn K (.ref 242) = true := S
  obtain ⟨S, E2⟩ := Bool.and_eq_true_iff.mp E2
  have d14 : PySem.W.nsIn K mainGlobals "is_table" = some (some (.ref 247)) := He.eqO_ok S
  obtain ⟨E3, Y1⟩ := Bool.and_eq_true_iff.mp Y1
  have E3 : (HK.fnB K 247 "is_table" none none none && ((PySem.W.keepIn K (.ref 247)) && (He.eqO (PySem.W.nsIn K mainGlobals "_is_row") (some (some (.ref 252))) && (HK.fnB K 252 "_is_row" none none none && ((PySem.W.keepIn K (.ref 252)) && (He.eqO (PySem.W.nsIn K mainGlobals "is_letters") (some (some (.ref 259))) && (HK.fnB K 259 "is_letters" none none none && ((PySem.W.keepIn K (.ref 259)) && (He.eqO (PySem.W.nsIn K mainGlobals "is_word") (some (some (.ref 266))) && (HK.fnB K 266 "is_word" none none none && ((PySem.W.keepIn K (.ref 266)) && (He.eqO (PySem.W.nsIn K mainGlobals "least_machine") (some (some (.ref 451))) && (HK.fnB K 451 "least_machine" (some 444) none none && ((PySem.W.keepIn K (.ref 451)) && (He.eqO (PySem.W.nsIn K mainGlobals "need_machines") (some (some (.ref 458))) && (HK.fnB K 458 "need_machines" none none none && ((PySem.W.keepIn K (.ref 458)) && (He.eqO (PySem.W.nsIn K mainGlobals "state_words") (some (some (.ref 475))) && (HK.fnB K 475 "state_words" none none none && ((PySem.W.keepIn K (.ref 475)) && (He.eqO (PySem.W.nsIn K mainGlobals "knots") (some (some (.ref 482))) && (HK.fnB K 482 "knots" none none none && ((PySem.W.keepIn K (.ref 482)) && (He.eqO (PySem.W.nsIn K mainGlobals "is_order_free") (some (some (.ref 487))) && (HK.fnB K 487 "is_order_free" none none none && ((PySem.W.keepIn K (.ref 487)) && (He.eqO (PySem.W.nsIn K mainGlobals "_law_dice") (some (some (.ref 494))) && (HK.fnB K 494 "_law_dice" none none none && ((PySem.W.keepIn K (.ref 494)) && (He.eqO (PySem.W.nsIn K mainGlobals "_law_roll") (some (some (.ref 501))) && true)))))))))))))))))))))))))))))) = true := E3
  obtain ⟨S, E3⟩ := Bool.and_eq_true_iff.mp E3
  obtain ⟨_, kv14, _, _, cd14, _, _, _, _, l14, q14, kk14, oo14⟩ := HK.fn_ok (c.fn 14 rfl) S
  obtain ⟨S, E3⟩ := Bool.and_eq_true_iff.mp E3
  have k14 : PySem.W.keepIn K (.ref 247) = true := S
  obtain ⟨S, E3⟩ := Bool.and_eq_true_iff.mp E3
  have d15 : PySem.W.nsIn K mainGlobals "_is_row" = some (some (.ref 252)) := He.eqO_ok S
  obtain ⟨S, E3⟩ := Bool.and_eq_true_iff.mp E3
  obtain ⟨_, kv15, _, _, cd15, _, _, _, _, l15, q15, kk15, oo15⟩ := HK.fn_ok (c.fn 15 rfl) S
  obtain ⟨S, E3⟩ := Bool.and_eq_true_iff.mp E3
  have k15 : PySem.W.keepIn K (.ref 252) = true := S
  obtain ⟨S, E3⟩ := Bool.and_eq_true_iff.mp E3
  have d16 : PySem.W.nsIn K mainGlobals "is_letters" = some (some (.ref 259)) := He.eqO_ok S
  obtain ⟨S, E3⟩ := Bool.and_eq_true_iff.mp E3
  obtain ⟨_, kv16, _, _, cd16, _, _, _, _, l16, q16, kk16, oo16⟩ := HK.fn_ok (c.fn 16 rfl) S
  obtain ⟨S, E3⟩ := Bool.and_eq_true_iff.mp E3
  have k16 : PySem.W.keepIn K (.ref 259) = true := S
  obtain ⟨S, E3⟩ := Bool.and_eq_true_iff.mp E3
  have d17 : PySem.W.nsIn K mainGlobals "is_word" = some (some (.ref 266)) := He.eqO_ok S
  obtain ⟨S, E3⟩ := Bool.and_eq_true_iff.mp E3
  obtain ⟨_, kv17, _, _, cd17, _, _, _, _, l17, q17, kk17, oo17⟩ := HK.fn_ok (c.fn 17 rfl) S
  obtain ⟨S, E3⟩ := Bool.and_eq_true_iff.mp E3
  have k17 : PySem.W.keepIn K (.ref 266) = true := S
  obtain ⟨S, E3⟩ := Bool.and_eq_true_iff.mp E3
  have d18 : PySem.W.nsIn K mainGlobals "least_machine" = some (some (.ref 451)) := He.eqO_ok S
  obtain ⟨S, E3⟩ := Bool.and_eq_true_iff.mp E3
  obtain ⟨_, kv18, _, _, cd18, _, _, _, _, l18, q18, kk18, oo18⟩ := HK.fn_ok (c.fn 18 rfl) S
  obtain ⟨S, E3⟩ := Bool.and_eq_true_iff.mp E3
  have k18 : PySem.W.keepIn K (.ref 451) = true := S
  obtain ⟨S, E3⟩ := Bool.and_eq_true_iff.mp E3
  have d19 : PySem.W.nsIn K mainGlobals "need_machines" = some (some (.ref 458)) := He.eqO_ok S
  obtain ⟨S, E3⟩ := Bool.and_eq_true_iff.mp E3
  obtain ⟨_, kv19, _, _, cd19, _, _, _, _, l19, q19, kk19, oo19⟩ := HK.fn_ok (c.fn 19 rfl) S
  obtain ⟨S, E3⟩ := Bool.and_eq_true_iff.mp E3
  have k19 : PySem.W.keepIn K (.ref 458) = true := S
  obtain ⟨S, E3⟩ := Bool.and_eq_true_iff.mp E3
  have d20 : PySem.W.nsIn K mainGlobals "state_words" = some (some (.ref 475)) := He.eqO_ok S
  obtain ⟨S, E3⟩ := Bool.and_eq_true_iff.mp E3
  obtain ⟨_, kv20, _, _, cd20, _, _, _, _, l20, q20, kk20, oo20⟩ := HK.fn_ok (c.fn 20 rfl) S
  obtain ⟨S, E3⟩ := Bool.and_eq_true_iff.mp E3
  have k20 : PySem.W.keepIn K (.ref 475) = true := S
  obtain ⟨S, E3⟩ := Bool.and_eq_true_iff.mp E3
  have d21 : PySem.W.nsIn K mainGlobals "knots" = some (some (.ref 482)) := He.eqO_ok S
  obtain ⟨S, E3⟩ := Bool.and_eq_true_iff.mp E3
  obtain ⟨_, kv21, _, _, cd21, _, _, _, _, l21, q21, kk21, oo21⟩ := HK.fn_ok (c.fn 21 rfl) S
  obtain ⟨S, E3⟩ := Bool.and_eq_true_iff.mp E3
  have k21 : PySem.W.keepIn K (.ref 482) = true := S
  obtain ⟨S, E3⟩ := Bool.and_eq_true_iff.mp E3
  have d22 : PySem.W.nsIn K mainGlobals "is_order_free" = some (some (.ref 487)) := He.eqO_ok S
  obtain ⟨S, E3⟩ := Bool.and_eq_true_iff.mp E3
  obtain ⟨_, kv22, _, _, cd22, _, _, _, _, l22, q22, kk22, oo22⟩ := HK.fn_ok (c.fn 22 rfl) S
  obtain ⟨S, E3⟩ := Bool.and_eq_true_iff.mp E3
  have k22 : PySem.W.keepIn K (.ref 487) = true := S
  obtain ⟨S, E3⟩ := Bool.and_eq_true_iff.mp E3
  have d23 : PySem.W.nsIn K mainGlobals "_law_dice" = some (some (.ref 494)) := He.eqO_ok S
  obtain ⟨S, E3⟩ := Bool.and_eq_true_iff.mp E3
  obtain ⟨_, kv23, _, _, cd23, _, _, _, _, l23, q23, kk23, oo23⟩ := HK.fn_ok (c.fn 23 rfl) S
  obtain ⟨S, E3⟩ := Bool.and_eq_true_iff.mp E3
  have k23 : PySem.W.keepIn K (.ref 494) = true := S
  obtain ⟨S, E3⟩ := Bool.and_eq_true_iff.mp E3
  have d24 : PySem.W.nsIn K mainGlobals "_law_roll" = some (some (.ref 501)) := He.eqO_ok S
  obtain ⟨E4, Y2⟩ := Bool.and_eq_true_iff.mp Y2
  have E4 : (HK.fnB K 501 "_law_roll" none none none && ((PySem.W.keepIn K (.ref 501)) && (He.eqO (PySem.W.nsIn K mainGlobals "_law_one_of") (some (some (.ref 508))) && (HK.fnB K 508 "_law_one_of" none none none && ((PySem.W.keepIn K (.ref 508)) && (He.eqO (PySem.W.nsIn K mainGlobals "_law_mixed") (some (some (.ref 515))) && (HK.fnB K 515 "_law_mixed" none none none && ((PySem.W.keepIn K (.ref 515)) && (He.eqO (PySem.W.nsIn K mainGlobals "_law_letters") (some (some (.ref 522))) && (HK.fnB K 522 "_law_letters" none none none && ((PySem.W.keepIn K (.ref 522)) && (He.eqO (PySem.W.nsIn K mainGlobals "_law_action") (some (some (.ref 527))) && (HK.fnB K 527 "_law_action" none none none && ((PySem.W.keepIn K (.ref 527)) && (He.eqO (PySem.W.nsIn K mainGlobals "_law_table") (some (some (.ref 532))) && (HK.fnB K 532 "_law_table" none none none && ((PySem.W.keepIn K (.ref 532)) && (He.eqO (PySem.W.nsIn K mainGlobals "_law_machine") (some (some (.ref 537))) && (HK.fnB K 537 "_law_machine" none none none && ((PySem.W.keepIn K (.ref 537)) && (He.eqO (PySem.W.nsIn K mainGlobals "_law_made_machine") (some (some (.ref 544))) && (HK.fnB K 544 "_law_made_machine" none none none && ((PySem.W.keepIn K (.ref 544)) && (He.eqO (PySem.W.nsIn K mainGlobals "_law_led") (some (some (.ref 551))) && (HK.fnB K 551 "_law_led" none none none && ((PySem.W.keepIn K (.ref 551)) && (He.eqO (PySem.W.nsIn K mainGlobals "_law_has") (some (some (.ref 558))) && (HK.fnB K 558 "_law_has" none none none && ((PySem.W.keepIn K (.ref 558)) && (He.eqO (PySem.W.nsIn K mainGlobals "_law_firsts") (some (some (.ref 565))) && true)))))))))))))))))))))))))))))) = true := E4
  obtain ⟨S, E4⟩ := Bool.and_eq_true_iff.mp E4
  obtain ⟨_, kv24, _, _, cd24, _, _, _, _, l24, q24, kk24, oo24⟩ := HK.fn_ok (c.fn 24 rfl) S
  obtain ⟨S, E4⟩ := Bool.and_eq_true_iff.mp E4
  have k24 : PySem.W.keepIn K (.ref 501) = true := S
  obtain ⟨S, E4⟩ := Bool.and_eq_true_iff.mp E4
  have d25 : PySem.W.nsIn K mainGlobals "_law_one_of" = some (some (.ref 508)) := He.eqO_ok S
  obtain ⟨S, E4⟩ := Bool.and_eq_true_iff.mp E4
  obtain ⟨_, kv25, _, _, cd25, _, _, _, _, l25, q25, kk25, oo25⟩ := HK.fn_ok (c.fn 25 rfl) S
  obtain ⟨S, E4⟩ := Bool.and_eq_true_iff.mp E4
  have k25 : PySem.W.keepIn K (.ref 508) = true := S
  obtain ⟨S, E4⟩ := Bool.and_eq_true_iff.mp E4
  have d26 : PySem.W.nsIn K mainGlobals "_law_mixed" = some (some (.ref 515)) := He.eqO_ok S
  obtain ⟨S, E4⟩ := Bool.and_eq_true_iff.mp E4
  obtain ⟨_, kv26, _, _, cd26, _, _, _, _, l26, q26, kk26, oo26⟩ := HK.fn_ok (c.fn 26 rfl) S
  obtain ⟨S, E4⟩ := Bool.and_eq_true_iff.mp E4
  have k26 : PySem.W.keepIn K (.ref 515) = true := S
  obtain ⟨S, E4⟩ := Bool.and_eq_true_iff.mp E4
  have d27 : PySem.W.nsIn K mainGlobals "_law_letters" = some (some (.ref 522)) := He.eqO_ok S
  obtain ⟨S, E4⟩ := Bool.and_eq_true_iff.mp E4
  obtain ⟨_, kv27, _, _, cd27, _, _, _, _, l27, q27, kk27, oo27⟩ := HK.fn_ok (c.fn 27 rfl) S
  obtain ⟨S, E4⟩ := Bool.and_eq_true_iff.mp E4
  have k27 : PySem.W.keepIn K (.ref 522) = true := S
  obtain ⟨S, E4⟩ := Bool.and_eq_true_iff.mp E4
  have d28 : PySem.W.nsIn K mainGlobals "_law_action" = some (some (.ref 527)) := He.eqO_ok S
  obtain ⟨S, E4⟩ := Bool.and_eq_true_iff.mp E4
  obtain ⟨_, kv28, _, _, cd28, _, _, _, _, l28, q28, kk28, oo28⟩ := HK.fn_ok (c.fn 28 rfl) S
  obtain ⟨S, E4⟩ := Bool.and_eq_true_iff.mp E4
  have k28 : PySem.W.keepIn K (.ref 527) = true := S
  obtain ⟨S, E4⟩ := Bool.and_eq_true_iff.mp E4
  have d29 : PySem.W.nsIn K mainGlobals "_law_table" = some (some (.ref 532)) := He.eqO_ok S
  obtain ⟨S, E4⟩ := Bool.and_eq_true_iff.mp E4
  obtain ⟨_, kv29, _, _, cd29, _, _, _, _, l29, q29, kk29, oo29⟩ := HK.fn_ok (c.fn 29 rfl) S
  obtain ⟨S, E4⟩ := Bool.and_eq_true_iff.mp E4
  have k29 : PySem.W.keepIn K (.ref 532) = true := S
  obtain ⟨S, E4⟩ := Bool.and_eq_true_iff.mp E4
  have d30 : PySem.W.nsIn K mainGlobals "_law_machine" = some (some (.ref 537)) := He.eqO_ok S
  obtain ⟨S, E4⟩ := Bool.and_eq_true_iff.mp E4
  obtain ⟨_, kv30, _, _, cd30, _, _, _, _, l30, q30, kk30, oo30⟩ := HK.fn_ok (c.fn 30 rfl) S
  obtain ⟨S, E4⟩ := Bool.and_eq_true_iff.mp E4
  have k30 : PySem.W.keepIn K (.ref 537) = true := S
  obtain ⟨S, E4⟩ := Bool.and_eq_true_iff.mp E4
  have d31 : PySem.W.nsIn K mainGlobals "_law_made_machine" = some (some (.ref 544)) := He.eqO_ok S
  obtain ⟨S, E4⟩ := Bool.and_eq_true_iff.mp E4
  obtain ⟨_, kv31, _, _, cd31, _, _, _, _, l31, q31, kk31, oo31⟩ := HK.fn_ok (c.fn 31 rfl) S
  obtain ⟨S, E4⟩ := Bool.and_eq_true_iff.mp E4
  have k31 : PySem.W.keepIn K (.ref 544) = true := S
  obtain ⟨S, E4⟩ := Bool.and_eq_true_iff.mp E4
  have d32 : PySem.W.nsIn K mainGlobals "_law_led" = some (some (.ref 551)) := He.eqO_ok S
  obtain ⟨S, E4⟩ := Bool.and_eq_true_iff.mp E4
  obtain ⟨_, kv32, _, _, cd32, _, _, _, _, l32, q32, kk32, oo32⟩ := HK.fn_ok (c.fn 32 rfl) S
  obtain ⟨S, E4⟩ := Bool.and_eq_true_iff.mp E4
  have k32 : PySem.W.keepIn K (.ref 551) = true := S
  obtain ⟨S, E4⟩ := Bool.and_eq_true_iff.mp E4
  have d33 : PySem.W.nsIn K mainGlobals "_law_has" = some (some (.ref 558)) := He.eqO_ok S
  obtain ⟨S, E4⟩ := Bool.and_eq_true_iff.mp E4
  obtain ⟨_, kv33, _, _, cd33, _, _, _, _, l33, q33, kk33, oo33⟩ := HK.fn_ok (c.fn 33 rfl) S
  obtain ⟨S, E4⟩ := Bool.and_eq_true_iff.mp E4
  have k33 : PySem.W.keepIn K (.ref 558) = true := S
  obtain ⟨S, E4⟩ := Bool.and_eq_true_iff.mp E4
  have d34 : PySem.W.nsIn K mainGlobals "_law_firsts" = some (some (.ref 565)) := He.eqO_ok S
  obtain ⟨E5, Y2⟩ := Bool.and_eq_true_iff.mp Y2
  have E5 : (HK.fnB K 565 "_law_firsts" none none none && ((PySem.W.keepIn K (.ref 565)) && (He.eqO (PySem.W.nsIn K mainGlobals "_law_all_words") (some (some (.ref 570))) && (HK.fnB K 570 "_law_all_words" none none none && ((PySem.W.keepIn K (.ref 570)) && (He.eqO (PySem.W.nsIn K mainGlobals "_law_parted") (some (some (.ref 575))) && (HK.fnB K 575 "_law_parted" none none none && ((PySem.W.keepIn K (.ref 575)) && (He.eqO (PySem.W.nsIn K mainGlobals "_law_reach") (some (some (.ref 580))) && (HK.fnB K 580 "_law_reach" none none none && ((PySem.W.keepIn K (.ref 580)) && (He.eqO (PySem.W.nsIn K mainGlobals "_law_knots") (some (some (.ref 585))) && (HK.fnB K 585 "_law_knots" none none none && ((PySem.W.keepIn K (.ref 585)) && (He.eqO (PySem.W.nsIn K mainGlobals "_law_is_free") (some (some (.ref 592))) && (HK.fnB K 592 "_law_is_free" none none none && ((PySem.W.keepIn K (.ref 592)) && (He.eqO (PySem.W.nsIn K mainGlobals "_law_agree") (some (some (.ref 599))) && (HK.fnB K 599 "_law_agree" none none none && ((PySem.W.keepIn K (.ref 599)) && (He.eqO (PySem.W.nsIn K mainGlobals "_law_right") (some (some (.ref 606))) && (HK.fnB K 606 "_law_right" none none none && ((PySem.W.keepIn K (.ref 606)) && (He.eqO (PySem.W.nsIn K mainGlobals "law") (some (some (.ref 613))) && (HK.fnB K 613 "law" none none none && ((PySem.W.keepIn K (.ref 613)) && (HK.fnB K 124 "Made.__init__" none none none && ((PySem.W.keepIn K (.ref 124)) && (HK.fnB K 313 "Machine.__init__" (some 306) none none && ((PySem.W.keepIn K (.ref 313)) && true)))))))))))))))))))))))))))))) = true := E5
  obtain ⟨S, E5⟩ := Bool.and_eq_true_iff.mp E5
  obtain ⟨_, kv34, _, _, cd34, _, _, _, _, l34, q34, kk34, oo34⟩ := HK.fn_ok (c.fn 34 rfl) S
  obtain ⟨S, E5⟩ := Bool.and_eq_true_iff.mp E5
  have k34 : PySem.W.keepIn K (.ref 565) = true := S
  obtain ⟨S, E5⟩ := Bool.and_eq_true_iff.mp E5
  have d35 : PySem.W.nsIn K mainGlobals "_law_all_words" = some (some (.ref 570)) := He.eqO_ok S
  obtain ⟨S, E5⟩ := Bool.and_eq_true_iff.mp E5
  obtain ⟨_, kv35, _, _, cd35, _, _, _, _, l35, q35, kk35, oo35⟩ := HK.fn_ok (c.fn 35 rfl) S
  obtain ⟨S, E5⟩ := Bool.and_eq_true_iff.mp E5
  have k35 : PySem.W.keepIn K (.ref 570) = true := S
  obtain ⟨S, E5⟩ := Bool.and_eq_true_iff.mp E5
  have d36 : PySem.W.nsIn K mainGlobals "_law_parted" = some (some (.ref 575)) := He.eqO_ok S
  obtain ⟨S, E5⟩ := Bool.and_eq_true_iff.mp E5
  obtain ⟨_, kv36, _, _, cd36, _, _, _, _, l36, q36, kk36, oo36⟩ := HK.fn_ok (c.fn 36 rfl) S
  obtain ⟨S, E5⟩ := Bool.and_eq_true_iff.mp E5
  have k36 : PySem.W.keepIn K (.ref 575) = true := S
  obtain ⟨S, E5⟩ := Bool.and_eq_true_iff.mp E5
  have d37 : PySem.W.nsIn K mainGlobals "_law_reach" = some (some (.ref 580)) := He.eqO_ok S
  obtain ⟨S, E5⟩ := Bool.and_eq_true_iff.mp E5
  obtain ⟨_, kv37, _, _, cd37, _, _, _, _, l37, q37, kk37, oo37⟩ := HK.fn_ok (c.fn 37 rfl) S
  obtain ⟨S, E5⟩ := Bool.and_eq_true_iff.mp E5
  have k37 : PySem.W.keepIn K (.ref 580) = true := S
  obtain ⟨S, E5⟩ := Bool.and_eq_true_iff.mp E5
  have d38 : PySem.W.nsIn K mainGlobals "_law_knots" = some (some (.ref 585)) := He.eqO_ok S
  obtain ⟨S, E5⟩ := Bool.and_eq_true_iff.mp E5
  obtain ⟨_, kv38, _, _, cd38, _, _, _, _, l38, q38, kk38, oo38⟩ := HK.fn_ok (c.fn 38 rfl) S
  obtain ⟨S, E5⟩ := Bool.and_eq_true_iff.mp E5
  have k38 : PySem.W.keepIn K (.ref 585) = true := S
  obtain ⟨S, E5⟩ := Bool.and_eq_true_iff.mp E5
  have d39 : PySem.W.nsIn K mainGlobals "_law_is_free" = some (some (.ref 592)) := He.eqO_ok S
  obtain ⟨S, E5⟩ := Bool.and_eq_true_iff.mp E5
  obtain ⟨_, kv39, _, _, cd39, _, _, _, _, l39, q39, kk39, oo39⟩ := HK.fn_ok (c.fn 39 rfl) S
  obtain ⟨S, E5⟩ := Bool.and_eq_true_iff.mp E5
  have k39 : PySem.W.keepIn K (.ref 592) = true := S
  obtain ⟨S, E5⟩ := Bool.and_eq_true_iff.mp E5
  have d40 : PySem.W.nsIn K mainGlobals "_law_agree" = some (some (.ref 599)) := He.eqO_ok S
  obtain ⟨S, E5⟩ := Bool.and_eq_true_iff.mp E5
  obtain ⟨_, kv40, _, _, cd40, _, _, _, _, l40, q40, kk40, oo40⟩ := HK.fn_ok (c.fn 40 rfl) S
  obtain ⟨S, E5⟩ := Bool.and_eq_true_iff.mp E5
  have k40 : PySem.W.keepIn K (.ref 599) = true := S
  obtain ⟨S, E5⟩ := Bool.and_eq_true_iff.mp E5
  have d41 : PySem.W.nsIn K mainGlobals "_law_right" = some (some (.ref 606)) := He.eqO_ok S
  obtain ⟨S, E5⟩ := Bool.and_eq_true_iff.mp E5
  obtain ⟨_, kv41, _, _, cd41, _, _, _, _, l41, q41, kk41, oo41⟩ := HK.fn_ok (c.fn 41 rfl) S
  obtain ⟨S, E5⟩ := Bool.and_eq_true_iff.mp E5
  have k41 : PySem.W.keepIn K (.ref 606) = true := S
  obtain ⟨S, E5⟩ := Bool.and_eq_true_iff.mp E5
  have d42 : PySem.W.nsIn K mainGlobals "law" = some (some (.ref 613)) := He.eqO_ok S
  obtain ⟨S, E5⟩ := Bool.and_eq_true_iff.mp E5
  obtain ⟨_, kv42, _, _, cd42, _, _, _, _, l42, q42, kk42, oo42⟩ := HK.fn_ok (c.fn 42 rfl) S
  obtain ⟨S, E5⟩ := Bool.and_eq_true_iff.mp E5
  have k42 : PySem.W.keepIn K (.ref 613) = true := S
  obtain ⟨S, E5⟩ := Bool.and_eq_true_iff.mp E5
  obtain ⟨_, kv43, _, _, cd43, _, _, _, _, l43, q43, kk43, oo43⟩ := HK.fn_ok (c.fn 43 rfl) S
  obtain ⟨S, E5⟩ := Bool.and_eq_true_iff.mp E5
  have k43 : PySem.W.keepIn K (.ref 124) = true := S
  obtain ⟨S, E5⟩ := Bool.and_eq_true_iff.mp E5
  obtain ⟨_, kv44, _, _, cd44, _, _, _, _, l44, q44, kk44, oo44⟩ := HK.fn_ok (c.fn 44 rfl) S
  obtain ⟨S, E5⟩ := Bool.and_eq_true_iff.mp E5
  have k44 : PySem.W.keepIn K (.ref 313) = true := S
  obtain ⟨E6, Y3⟩ := Bool.and_eq_true_iff.mp Y3
  have E6 : (HK.fnB K 320 "Machine.letters" none none none && ((PySem.W.keepIn K (.ref 320)) && (HK.fnB K 328 "Machine.table" none none none && ((PySem.W.keepIn K (.ref 328)) && (HK.fnB K 382 "Machine.least" none none none && ((PySem.W.keepIn K (.ref 382)) && (HK.fnB K 387 "Machine.__invert__" none none none && ((PySem.W.keepIn K (.ref 387)) && (HK.zerB K 444 && (HK.oneB K 306 && (HK.intB K mainGlobals "MAX_LETTERS" 3 && (HK.intB K mainGlobals "MAX_STATES" 4 && (He.eqO (PySem.W.nsIn K mainGlobals "len") (some none) && (He.eqO (PySem.W.nsIn K mainGlobals "int") (some none) && (He.eqO (PySem.W.nsIn K mainGlobals "abs") (some none) && (He.eqO (PySem.W.nsIn K mainGlobals "isinstance") (some none) && (He.eqO (PySem.W.nsIn K mainGlobals "bool") (some none) && (He.eqO (PySem.W.nsIn K mainGlobals "str") (some none) && (He.eqO (PySem.W.nsIn K mainGlobals "all") (some none) && (He.eqO (PySem.W.nsIn K mainGlobals "range") (some none) && (He.eqO (PySem.W.nsIn K mainGlobals "sorted") (some none) && (He.eqO (PySem.W.nsIn K mainGlobals "set") (some none) && (He.eqO (PySem.W.nsIn K mainGlobals "tuple") (some none) && (He.eqO (PySem.W.nsIn K mainGlobals "list") (some none) && (He.eqO (PySem.W.nsIn K mainGlobals "max") (some none) && (He.eqO (PySem.W.nsIn K mainGlobals "min") (some none) && (He.eqO (PySem.W.nsIn K mainGlobals "zip") (some none) && (He.eqO (PySem.W.nsIn K mainGlobals "enumerate") (some none) && true)))))))))))))))))))))))))))) = true := E6
  obtain ⟨S, E6⟩ := Bool.and_eq_true_iff.mp E6
  obtain ⟨_, kv45, _, _, cd45, _, _, _, _, l45, q45, kk45, oo45⟩ := HK.fn_ok (c.fn 45 rfl) S
  obtain ⟨S, E6⟩ := Bool.and_eq_true_iff.mp E6
  have k45 : PySem.W.keepIn K (.ref 320) = true := S
  obtain ⟨S, E6⟩ := Bool.and_eq_true_iff.mp E6
  obtain ⟨_, kv46, _, _, cd46, _, _, _, _, l46, q46, kk46, oo46⟩ := HK.fn_ok (c.fn 46 rfl) S
  obtain ⟨S, E6⟩ := Bool.and_eq_true_iff.mp E6
  have k46 : PySem.W.keepIn K (.ref 328) = true := S
  obtain ⟨S, E6⟩ := Bool.and_eq_true_iff.mp E6
  obtain ⟨_, kv47, _, _, cd47, _, _, _, _, l47, q47, kk47, oo47⟩ := HK.fn_ok (c.fn 47 rfl) S
  obtain ⟨S, E6⟩ := Bool.and_eq_true_iff.mp E6
  have k47 : PySem.W.keepIn K (.ref 382) = true := S
  obtain ⟨S, E6⟩ := Bool.and_eq_true_iff.mp E6
  obtain ⟨_, kv48, _, _, cd48, _, _, _, _, l48, q48, kk48, oo48⟩ := HK.fn_ok (c.fn 48 rfl) S
  obtain ⟨S, E6⟩ := Bool.and_eq_true_iff.mp E6
  have k48 : PySem.W.keepIn K (.ref 387) = true := S
  obtain ⟨S, E6⟩ := Bool.and_eq_true_iff.mp E6
  obtain ⟨_, _, _, _, _, y18⟩ := HK.zer_ns S
  obtain ⟨S, E6⟩ := Bool.and_eq_true_iff.mp E6
  obtain ⟨_, _, _, _, _, y44⟩ := HK.one_ns S
  obtain ⟨S, E6⟩ := Bool.and_eq_true_iff.mp E6
  obtain ⟨_, vMAX_LETTERS⟩ := HK.int_ns S
  obtain ⟨S, E6⟩ := Bool.and_eq_true_iff.mp E6
  obtain ⟨_, vMAX_STATES⟩ := HK.int_ns S
  obtain ⟨S, E6⟩ := Bool.and_eq_true_iff.mp E6
  have z_len : PySem.W.nsIn K mainGlobals "len" = some none := He.eqO_ok S
  obtain ⟨S, E6⟩ := Bool.and_eq_true_iff.mp E6
  have z_int : PySem.W.nsIn K mainGlobals "int" = some none := He.eqO_ok S
  obtain ⟨S, E6⟩ := Bool.and_eq_true_iff.mp E6
  have z_abs : PySem.W.nsIn K mainGlobals "abs" = some none := He.eqO_ok S
  obtain ⟨S, E6⟩ := Bool.and_eq_true_iff.mp E6
  have z_isinstance : PySem.W.nsIn K mainGlobals "isinstance" = some none := He.eqO_ok S
  obtain ⟨S, E6⟩ := Bool.and_eq_true_iff.mp E6
  have z_bool : PySem.W.nsIn K mainGlobals "bool" = some none := He.eqO_ok S
  obtain ⟨S, E6⟩ := Bool.and_eq_true_iff.mp E6
  have z_str : PySem.W.nsIn K mainGlobals "str" = some none := He.eqO_ok S
  obtain ⟨S, E6⟩ := Bool.and_eq_true_iff.mp E6
  have z_all : PySem.W.nsIn K mainGlobals "all" = some none := He.eqO_ok S
  obtain ⟨S, E6⟩ := Bool.and_eq_true_iff.mp E6
  have z_range : PySem.W.nsIn K mainGlobals "range" = some none := He.eqO_ok S
  obtain ⟨S, E6⟩ := Bool.and_eq_true_iff.mp E6
  have z_sorted : PySem.W.nsIn K mainGlobals "sorted" = some none := He.eqO_ok S
  obtain ⟨S, E6⟩ := Bool.and_eq_true_iff.mp E6
  have z_set : PySem.W.nsIn K mainGlobals "set" = some none := He.eqO_ok S
  obtain ⟨S, E6⟩ := Bool.and_eq_true_iff.mp E6
  have z_tuple : PySem.W.nsIn K mainGlobals "tuple" = some none := He.eqO_ok S
  obtain ⟨S, E6⟩ := Bool.and_eq_true_iff.mp E6
  have z_list : PySem.W.nsIn K mainGlobals "list" = some none := He.eqO_ok S
  obtain ⟨S, E6⟩ := Bool.and_eq_true_iff.mp E6
  have z_max : PySem.W.nsIn K mainGlobals "max" = some none := He.eqO_ok S
  obtain ⟨S, E6⟩ := Bool.and_eq_true_iff.mp E6
  have z_min : PySem.W.nsIn K mainGlobals "min" = some none := He.eqO_ok S
  obtain ⟨S, E6⟩ := Bool.and_eq_true_iff.mp E6
  have z_zip : PySem.W.nsIn K mainGlobals "zip" = some none := He.eqO_ok S
  obtain ⟨S, E6⟩ := Bool.and_eq_true_iff.mp E6
  have z_enumerate : PySem.W.nsIn K mainGlobals "enumerate" = some none := He.eqO_ok S
  exact all_mk c.In G hfa gd gm pgd hdd pod sad ccd obd mkd kCd id nid pgm hdm pom sam ccm obm mkm kCm im nim cn ct nR nMT nML nME paml pg_ml pt_ml pr_ml pamt pg_mt pt_mt pr_mt a47 n47 a48 n48 kim kitD gI xI kI bI tI d0 l0 q0 k0 d1 l1 q1 k1 d2 l2 q2 k2 d3 l3 q3 k3 d4 l4 q4 k4 d5 l5 q5 k5 d6 l6 q6 k6 d7 l7 q7 k7 d8 l8 q8 k8 d9 l9 q9 k9 d10 l10 q10 k10 d11 l11 q11 k11 d12 l12 q12 k12 d13 l13 q13 k13 d14 l14 q14 k14 d15 l15 q15 k15 d16 l16 q16 k16 d17 l17 q17 k17 d18 l18 q18 k18 d19 l19 q19 k19 d20 l20 q20 k20 d21 l21 q21 k21 d22 l22 q22 k22 d23 l23 q23 k23 d24 l24 q24 k24 d25 l25 q25 k25 d26 l26 q26 k26 d27 l27 q27 k27 d28 l28 q28 k28 d29 l29 q29 k29 d30 l30 q30 k30 d31 l31 q31 k31 d32 l32 q32 k32 d33 l33 q33 k33 d34 l34 q34 k34 d35 l35 q35 k35 d36 l36 q36 k36 d37 l37 q37 k37 d38 l38 q38 k38 d39 l39 q39 k39 d40 l40 q40 k40 d41 l41 q41 k41 d42 l42 q42 k42 l43 q43 k43 l44 q44 k44 l45 q45 k45 l46 q46 k46 l47 q47 k47 l48 q48 k48 y18 y44 vMAX_LETTERS vMAX_STATES z_len z_int z_abs z_isinstance z_bool z_str z_all z_range z_sorted z_set z_tuple z_list z_max z_min z_zip z_enumerate
end WK
open PySem PySem.W PySem.Calls PyProof.Rows
theorem PySem.Challenge.cw_watchkinds_k04_whole_knots_and_order_fre_holds : PySem.Challenge.rw_watchkinds_k04_whole_knots_and_order_fre.Holds := by
  w_on; o_law
  refine HandSHeadRun.head_any (r := WK.Rw) (q := view WK.Rw.prog [72]) (H := WK.hkAll) (ob := WK.obAll) (M := 9000) (loose := WK.nmAll) (d := HandSHeadRun.topDef WK.Rw.prog 72) (kwd := []) WK.obAll_eq (by kernel_rfl) (fun s => by kernel_rfl) WK.runAll (by kernel_rfl) (by kernel_rfl) (by kernel_rfl) (by rfl) (by first | assumption | decide +kernel) (by decide +kernel) ⟨rfl, rfl, rfl, rfl, rfl, by decide +kernel⟩ ?hw ?hc
  case hw => w_witness2
  case hc =>
    refine LamX.walk_ofTsE (l := PySem.Challenge.rw_watchkinds_k04_whole_knots_and_order_fre) (n := 63) (k := 10) (x := "_law_script") (CX := fun _ => L2.CX0) rfl (by decide) (by kernel_rfl) ⟨rfl, by decide, by decide⟩ ?F (fun _ _ _ _ _ z => z)
    intro w mg fa h Y G hmg
    obtain ⟨K, c⟩ := Y
    have e : (HandSHeadRun.topDef WK.Rw.prog 72).name = ("law" : PySem.Str) := by kernel_rfl
    rw [e] at hmg
    exact ⟨K, c.In, WK.facts c G hmg⟩
#print axioms PySem.Challenge.cw_watchkinds_k04_whole_knots_and_order_fre_holds
