import PyProof.Rows.All
import Wide.All
import OpenK.AllK
import Wide.FinOn
import HandS.ForMost
import HandS.Wide
import HandS.IsInst
import HandS.ExcInit
import HandS.Flow
import HandS.Codes
import KE.KExcIs
import KE.KExcInit
import PyProof.Rows.SetFrom
import PyProof.StrWalks
import HandS.Set
import HandS.TupSets
import HandS.SetTxt0
import HandS.SetTxtIn
import HandS.Strs
import HandS.Style
import HandS.StrMore
import HandS.Text
import PyProof.StrLawsFrom
import PyProof.Rows.StrCountLaw
import PyProof.Rows.StrRev
import PyProof.Rows.StrMul
import HandS.Walk
import HandS.Words
import HandS.Nested
import HandS.Lambda
import HandS.Dict
import PyProof.Rows.TupDisplay
import HandS.WordsExc
import HandS.Zip
import KE.GoesNew
import KE.GoesEnum
import HandS.Conv
import HandS.DictComp
import HandS.More
import HandS.SlotsOwn
import HandS.Property
import KE.KCallOwn
import KE.KFmtOwn
import PyProof.InstNe
import HandS.FStr
import HandS.Star
import KE.KDictZip
import HandS.Zip0
import HandS.SortInts
import HandS.Defaults
import HandS.Exc
import HandS.TryOnly
import HandS.ExcOwn
import KE.KDictPairs
import HandS.SetFor
import HandS.Deep
import HandS.ClsMeth
import HandS.TupLen
import HandS.EndTab
import HandS.Head2
import HandS.HeadHook2
import HandS.HeadHook1
import HandS.HeadWalk
import PySem.Challenge.RW_watchkinds_k89_whole_sights_of_clerks
set_option Elab.async false
set_option linter.all false
set_option maxRecDepth 100000
set_option maxHeartbeats 4000000
namespace WK
open PySem L2 PyProof.Rows
def top (i : Nat) : Stmt := PySem.Challenge.pw_watchkinds_k89_whole_sights_of_clerks.main.body.getD i (.Pass ⟨0, 0, 0, 0⟩)
abbrev sDice : Stmt := top 80
abbrev sRoll : Stmt := top 81
abbrev sOne : Stmt := top 82
/-- a power of any two numbers of which the result is not too long -/
def CPowW (i j : Int) : Prop := 0 ≤ j ∧ (Builtin.Int.intBits i : Int) * j ≤ 2 ^ 27
theorem op_powW {X : Cx} : OpR X (binaryOp .Pow) (rI CPowW fun i j => .int (i ^ j.toNat)) := opI fun _ _ _ _ _ _ _ hc q => pow_int hc.1 hc.2 q
/-- the dice stand at p -/
def DiceAt (H : Hp) (p : Addr) : Prop := ∃ a b c : Int, H p = some (.lst [.int a, .int b, .int c]) ∧ 0 ≤ a ∧ 0 ≤ b ∧ 0 ≤ c
/-- all that was tracked stands, but for what is at p -/
def But (p : Addr) (H H' : Hp) : Prop := ∀ b o, H b = some o → b ≠ p → H' b = some o
theorem But.refl (p : Addr) (H : Hp) : But p H H := fun _ _ h _ => h
theorem But.trans {p : Addr} {H H1 H2 : Hp} (a : But p H H1) (b : But p H1 H2) : But p H H2 := fun c o h n => b c o (a c o h n) n
theorem But.ofSame {p : Addr} {H H' : Hp} (s : Same H H') : But p H H' := fun b o h _ => s b o h
theorem But.upd {p : Addr} {H : Hp} {o : HO} : But p H (upd H p o) := fun b u h n => by rw [upd_ne n]; exact h
/-- law's number of a cell -/
def big : Int := (10 ^ 60) ^ 10
theorem big_pos : 0 < big := by decide +kernel
def spDice (K : PySem.W.Frag) : Sp := fun vs H Q _ => ∃ (s : Addr) (ns : List Int) (k : Int), vs = [.ref s, .int k] ∧ SqL K H s (ns.map V.int) ∧ 0 ≤ k ∧
  ∀ (p : Addr) (H' : Hp), H p = none → Same H H' → DiceAt H' p → Q (.ref p) H'
def spRoll : Sp := fun vs H Q _ => ∃ (p : Addr) (n : Int), vs = [.ref p, .int n] ∧ DiceAt H p ∧ 0 < n ∧ n < 1073741824 ∧
  ∀ (r : Int) (H' : Hp), 0 ≤ r → r < n → DiceAt H' p → But p H H' → Q (.int r) H'
def spOne : Sp := fun vs H Q _ => ∃ (p q : Addr) (xs : List V), vs = [.ref p, .ref q] ∧ DiceAt H p ∧ q ≠ p ∧ H q = some (.lst xs) ∧ 0 < xs.length ∧ xs.length < 1000000 ∧
  ∀ (v : V) (H' : Hp), v ∈ xs → DiceAt H' p → But p H H' → Q v H'
structure TDice (mg : Str → Option Value) : Prop where
  len : mg "len" = none
  int : mg "int" = none
  abs : mg "abs" = none
section
variable {P : Program} {w : World} {K : PySem.W.Frag} {mg : Str → Option Value} {base : Heap}
theorem scD : FnScope ["_law_script", "_law_at", "_law_cell", "_law_great", "_law_left", "_law_mixed_here"] ["_law_script", "_law_at"] (defScope sDice) := ⟨rfl, rfl, rfl, by decide +kernel, rfl, by decide +kernel, by decide +kernel⟩
theorem ok_dice {f : Addr} {fd : FuncData} (F : Fun K "_law_dice" "_law_dice" sDice f fd) (T : TDice mg) : FnOk P w K mg base CX0 1 f fd ["_law_script", "_law_at"] (spDice K) := by
  refine F.ok scD (fun vs H Q E h => ?_) (fun cdv A outer s H vs Q E hr h => ?_)
  · obtain ⟨s, ns, k, rfl, _⟩ := h
    rfl
  · obtain ⟨s, ns, k, rfl, hS, hk, q⟩ := h
    refine ⟨_, pss_cons (ps_set (i := 2) scD.nd rfl (Or.inl rfl) (pe_op op_add (pe_op op_mul pe_int (pv 1)) pe_int))
      (C8.pss_cut (ps_if (pt_cmpR op_lt (pv 1) (pe_callB call_len_seq (by rfl) T.len PySem.boot_len (pa_cons (pv 0) pa_nil)) (nomark _))
        (pss_one (ps_set (i := 2) scD.nd rfl (Or.inl rfl) (pe_ix ix_list (pv 0) (pv 1) (fun _ _ => rfl)))) pss_nil)
      (pss_cons (ps_set (i := 3) scD.nd rfl (Or.inl rfl) (pe_op op_mod (pe_callTy call_int1 (by rfl) T.int (by decide +kernel) (pa_cons (pe_callB call_abs (by rfl) T.abs (by decide +kernel) (pa_cons (pv 2) pa_nil)) pa_nil)) (pe_op op_powW (pe_op op_pow pe_int pe_int) pe_int)))
      (pss_cons (ps_set (i := 4) scD.nd rfl (Or.inl rfl) (pe_op op_fdivW (pv 3) (pe_op op_pow pe_int pe_int)))
      (pss_cons (ps_set (i := 5) scD.nd rfl (Or.inl rfl) (pe_op op_add (pe_op op_add (pe_op op_add (pe_op op_mul (pe_op op_mod (pv 3) pe_int) pe_int) (pe_op op_mul pe_int (pv 1)))
          (pe_op op_mul pe_int (pe_callTy call_int1 (by rfl) T.int (by decide +kernel) (pa_cons (pe_cmpR op_lt (pv 2) pe_int (nomark _)) pa_nil)))) pe_int))
      (pss_one (ps_ret (pe_lst (pa_cons (pv 4) (pa_cons (pe_op op_mod (pv 5) pe_int) (pa_cons pe_int pa_nil)))))))))), ?_⟩
    refine ⟨_, rfl, _, _, rfl, rfl, .inl ⟨by decide, by decide⟩, _, _, rfl, rfl, ?_⟩
    -- behind the if: some cell
    refine ⟨fun σ H' => H' = H ∧ ∃ c : Int, σ = [some (.ref s), some (.int k), some (.int c), none, none, none], ?_, ?_⟩
    · refine ⟨_, rfl, _, rfl, s, _, rfl, .inl hS, _, _, rfl, rfl, _, rfl, ?_⟩
      refine ite2 (fun hc => ?_) (fun _ => ?_)
      · have hl : k < ((ns.map V.int).length : Int) := of_decide_eq_true hc
        rw [List.length_map] at hl
        have hj : k.toNat < ns.length := by omega
        have e1 : (ns.map V.int)[k.toNat]? = some (V.int ns[k.toNat]) := by
          rw [List.getElem?_map, List.getElem?_eq_getElem hj]
          rfl
        have e2 := atI_nat e1
        rw [Int.toNat_of_nonneg hk] at e2
        exact ⟨_, rfl, _, rfl, s, _, _, _, rfl, rfl, hS, e2, rfl, _, rfl⟩
      · exact ⟨rfl, _, rfl⟩
    · rintro σ H' ⟨rfl, c, rfl⟩
      refine ⟨_, rfl, _, rfl, .inl ⟨_, rfl, ?_⟩⟩
      refine ⟨_, _, rfl, rfl, ⟨by decide, by decide, by decide +kernel⟩, _, _, rfl, rfl, ⟨by decide, by decide +kernel⟩, _, _, rfl, rfl, big_pos, ?_⟩
      refine ⟨_, rfl, _, _, rfl, rfl, ⟨by decide, by decide, by decide +kernel⟩, _, _, rfl, rfl, wide_div (b := 64) (by decide +kernel) (by decide +kernel) (by decide) (by decide), ?_⟩
      refine ⟨_, rfl, _, _, rfl, rfl, (by show (0 : Int) < 2147483059; decide), _, _, rfl, rfl, .inr ⟨by decide, by decide⟩, _, rfl, _, _, rfl, rfl, .inl ⟨by decide, by decide⟩, _, _, rfl, rfl, ?_⟩
      refine ⟨_, rfl, _, _, rfl, rfl, .inr ⟨_, rfl, ?_⟩⟩
      refine ⟨_, _, rfl, rfl, .inl ⟨by decide, by decide⟩, _, _, rfl, rfl, _, _, rfl, rfl, ?_⟩
      refine ⟨_, rfl, _, rfl, _, _, rfl, rfl, (by show (0 : Int) < 2147483053; decide), (by show 3 ≤ sizeLine; decide), fun p hp => q p _ hp (fun b o e => by rw [upd_ne (ne_of_none e hp)]; exact e) ⟨_, _, _, upd_same, ?_, ?_, Int.le_refl 0⟩⟩
      · exact Int.ediv_nonneg (Int.emod_nonneg _ (Int.ne_of_gt big_pos)) (by decide)
      · exact Int.emod_nonneg _ (by decide)
/-- of a roll -/
theorem scR : FnScope ["_law_dice_here", "_law_total", "_law_number", "_law_drawn", "_law_one", "_law_two"] ["_law_dice_here", "_law_total"] (defScope sRoll) := ⟨rfl, rfl, rfl, by decide +kernel, rfl, by decide +kernel, by decide +kernel⟩
theorem ok_roll {f : Addr} {fd : FuncData} (F : Fun K "_law_roll" "_law_roll" sRoll f fd) (T : TDice mg) : FnOk P w K mg base CX0 1 f fd ["_law_dice_here", "_law_total"] spRoll := by
  refine F.ok scR (fun vs H Q E h => ?_) (fun cdv A outer s H vs Q E hr h => ?_)
  · obtain ⟨p, n, rfl, _⟩ := h
    rfl
  · obtain ⟨p, n, rfl, ⟨a, b, c, hD, ha, hb, hc⟩, hn, hn2, q⟩ := h
    refine ⟨_, pss_cons (ps_set (i := 2) scR.nd rfl (Or.inl rfl) (pe_callTy call_int1 (by rfl) T.int (by decide +kernel) (pa_cons (pv 1) pa_nil)))
      (pss_cons (ps_if (pt_cmpR op_gt (pe_ix ix_list (pv 0) pe_int (fun _ _ => rfl)) pe_int (nomark _))
        (pss_cons (ps_set (i := 3) scR.nd rfl (Or.inl rfl) (pe_op op_mod (pe_ix ix_list (pv 0) pe_int (fun _ _ => rfl)) (pv 2)))
        (pss_cons (ps_asg (pe_op op_fdiv (pe_ix ix_list (pv 0) pe_int (fun _ _ => rfl)) (pv 2)) (pg_sub (pv 0) pe_int set_list))
        (pss_one (ps_ret (pe_callTy call_int1 (by rfl) T.int (by decide +kernel) (pa_cons (pv 3) pa_nil)))))) pss_nil)
      (pss_cons (ps_asg (pe_op op_add (pe_ix ix_list (pv 0) pe_int (fun _ _ => rfl)) pe_int) (pg_sub (pv 0) pe_int set_list))
      (pss_cons (ps_set (i := 4) scR.nd rfl (Or.inl rfl) (pe_op op_mod (pe_op op_add (pe_ix ix_list (pv 0) pe_int (fun _ _ => rfl)) (pe_op op_mul pe_int (pe_ix ix_list (pv 0) pe_int (fun _ _ => rfl)))) pe_int))
      (pss_cons (ps_set (i := 5) scR.nd rfl (Or.inl rfl) (pe_op op_add (pe_op op_mul (pe_op op_mod (pe_op op_mul (pv 4) (pv 4)) pe_int) (pv 4)) (pe_op op_mul pe_int (pe_ix ix_list (pv 0) pe_int (fun _ _ => rfl)))))
      (pss_cons (ps_set (i := 5) scR.nd rfl (Or.inl rfl) (pe_op op_mod (pv 5) pe_int))
      (pss_one (ps_ret (pe_callTy call_int1 (by rfl) T.int (by decide +kernel) (pa_cons (pe_op op_mod (pe_op op_fdiv (pv 5) pe_int) (pv 2)) pa_nil))))))))), ?_⟩
    refine ⟨_, rfl, .inl ⟨_, rfl, ?_⟩⟩
    refine ⟨_, rfl, p, _, _, _, rfl, rfl, SqL.of hD, atI_nat (j := 0) rfl, _, _, rfl, rfl, _, rfl, ?_⟩
    refine ite2 (fun hc' => ?_) (fun hc' => ?_)
    · refine ⟨_, rfl, p, _, _, _, rfl, rfl, SqL.of hD, atI_nat (j := 0) rfl, _, rfl, _, _, rfl, rfl, hn, ?_⟩
      refine ⟨_, rfl, p, _, _, _, rfl, rfl, SqL.of hD, atI_nat (j := 0) rfl, _, rfl, _, _, rfl, rfl, ⟨hn, hn2⟩, ?_⟩
      refine ⟨_, rfl, p, _, _, 0, rfl, rfl, hD, rfl, ?_⟩
      refine ⟨_, rfl, .inl ⟨_, rfl, ?_⟩⟩
      exact q _ _ (Int.emod_nonneg _ (Int.ne_of_gt hn)) (Int.emod_lt_of_pos _ hn) ⟨_, _, _, upd_same, Int.ediv_nonneg ha (Int.le_of_lt hn), hb, hc⟩ But.upd
    · refine ⟨_, rfl, p, _, _, _, rfl, rfl, SqL.of hD, atI_nat (j := 2) rfl, _, _, rfl, rfl, _, rfl, p, _, _, 2, rfl, rfl, hD, rfl, ?_⟩
      have h2 : (upd H p (.lst [.int a, .int b, .int (c + 1)])) p = some (.lst [.int a, .int b, .int (c + 1)]) := upd_same
      refine ⟨_, rfl, p, _, _, _, rfl, rfl, SqL.of h2, atI_nat (j := 1) rfl, _, rfl, p, _, _, _, rfl, rfl, SqL.of h2, atI_nat (j := 2) rfl, _, _, rfl, rfl, .inl ⟨by decide, by decide⟩, _, _, rfl, rfl, _, _, rfl, rfl, (by show (0 : Int) < 2305843009213693951; decide), ?_⟩
      have one0 : ∀ x : Int, -(2 ^ 64) < x % 2305843009213693951 ∧ x % 2305843009213693951 < 2 ^ 64 := fun x => by
        have l := Int.emod_nonneg x (show (2305843009213693951 : Int) ≠ 0 by decide)
        have u := Int.emod_lt_of_pos x (show (0 : Int) < 2305843009213693951 by decide)
        exact ⟨by omega, by omega⟩
      refine ⟨_, rfl, _, rfl, _, _, rfl, rfl, .inl (one0 _), _, _, rfl, rfl, (by show (0 : Int) < 2305843009213693921; decide), _, rfl, _, _, rfl, rfl, .inr (one0 _), _, rfl, p, _, _, _, rfl, rfl, SqL.of h2, atI_nat (j := 2) rfl, _, _, rfl, rfl, .inl ⟨by decide, by decide⟩, _, _, rfl, rfl, ?_⟩
      refine ⟨_, rfl, _, _, rfl, rfl, (by show (0 : Int) < 2305843009213693907; decide), ?_⟩
      refine ⟨_, rfl, _, _, rfl, rfl, ⟨by decide, by decide⟩, _, rfl, _, _, rfl, rfl, hn, .inl ⟨_, rfl, ?_⟩⟩
      exact q _ _ (Int.emod_nonneg _ (Int.ne_of_gt hn)) (Int.emod_lt_of_pos _ hn) ⟨_, _, _, upd_same, ha, hb, by omega⟩ But.upd
theorem scO : FnScope ["_law_dice_here", "_law_items"] ["_law_dice_here", "_law_items"] (defScope sOne) := ⟨rfl, rfl, rfl, by decide +kernel, rfl, by decide +kernel, by decide +kernel⟩
theorem ok_one {f fR : Addr} {fd fdR : FuncData} (F : Fun K "_law_one_of" "_law_one_of" sOne f fd) (T : TDice mg) (gR : mg "_law_roll" = some (.ref fR)) (FR : Fun K "_law_roll" "_law_roll" sRoll fR fdR) (bR : Binds K fdR ["_law_dice_here", "_law_total"] []) :
    FnOk P w K mg base CX0 2 f fd ["_law_dice_here", "_law_items"] spOne := by
  have GR : FnOk P w K mg base CX0 1 fR fdR ["_law_dice_here", "_law_total"] spRoll := ok_roll FR T
  refine F.ok scO (fun vs H Q E h => ?_) (fun cdv A outer s H vs Q E hr h => ?_)
  · obtain ⟨p, n, _, rfl, _⟩ := h
    rfl
  · obtain ⟨p, a, xs, rfl, hD, hne, hx, h0, h1, q⟩ := h
    refine ⟨_, pss_one (ps_ret (pe_ix ix_list (pv 1) (pe_call GR hr rfl gR FR.kp bR .nil pass0 (pa_cons (pv 0) (pa_cons (pe_callB call_len_seq (by rfl) T.len PySem.boot_len (pa_cons (pv 1) pa_nil)) pa_nil))) (fun _ _ => rfl))), ?_⟩
    refine ⟨_, rfl, _, rfl, _, rfl, a, _, rfl, .inl (SqL.of hx), p, _, rfl, hD, by omega, by omega, fun r H' hr0 hr1 hD' hB => ?_⟩
    have hj : r.toNat < xs.length := by omega
    have e1 : xs[r.toNat]? = some xs[r.toNat] := List.getElem?_eq_getElem hj
    have e2 := atI_nat e1
    rw [Int.toNat_of_nonneg hr0] at e2
    exact ⟨a, _, _, _, rfl, rfl, SqL.of (hB _ _ hx hne), e2, q _ _ (List.getElem_mem hj) hD' hB⟩
end
end WK
set_option Elab.async false
set_option linter.all false
set_option maxRecDepth 100000
set_option maxHeartbeats 4000000
namespace TX
open PySem PySem.Spec PyProof.Rows L2
/-- the text of an entry -/
def txOf (e : Int × Value) : Str := strOf e.2
def GoodX (w : World) (e : Int × Value) : Prop := ∃ k tk, e.2 = Value.str k tk ∧ e.1 = hashStr w k
/-- what holds of the entries of a set of texts, whatever object bears them: T says its members -/
structure Fine (w : World) (T : Str → Bool) (es : Array (Int × Value)) (t : SetTable) : Prop where
  good : ∀ e ∈ es.toList, GoodX w e
  once : (es.toList.map txOf).Nodup
  mem : ∀ k, T k = true ↔ k ∈ es.toList.map txOf
  few : es.size < scanBound
  fit : t.fits es.size = true
  ris : Ris t.place.toList
  led : t.led = true ∨ w.params.followText "set-order" = true
/-- a set of n texts at a -/
structure SetX (w : World) (h : Heap) (a : Addr) (T : Str → Bool) (n : Nat) (o : Obj) (es : Array (Int × Value)) (ep : Nat) (t : SetTable) : Prop where
  ob : h.get? a = some o
  ex : o.ExactSet
  dat : o.data = .set es ep t
  sz : es.size = n
  fine : Fine w T es t
def HasX (w : World) (h : Heap) (a : Addr) (T : Str → Bool) (n : Nat) : Prop := ∃ o es ep t, SetX w h a T n o es ep t
section
variable {P : Program} {w : World} {h h' : Heap} {a : Addr} {T : Str → Bool} {n : Nat}
theorem HasX.at (R : HasX w h a T n) (k : ∀ o, h.get? a = some o → h'.get? a = some o) : HasX w h' a T n := by
  obtain ⟨o, es, ep, t, r⟩ := R
  exact ⟨o, es, ep, t, { r with ob := k o r.ob }⟩
theorem good_elems {l : List (Int × Value)} (g : ∀ e ∈ l, GoodX w e) : ElemsOf (PySem.strKind P w) l := fun e at_e =>
  match e, g e at_e with
  | (_, _), ⟨k, tk, rfl, hash⟩ => ⟨⟨k, Froz.is_str k tk, hash⟩, by rfl⟩
theorem good_is {e : Int × Value} (g : GoodX w e) (k : Str) : (PySem.strKind P w).is k e.2 = true ↔ txOf e = k :=
  match e, g with
  | (_, _), ⟨j, tk, rfl, _⟩ => ⟨fun q => (PySem.strKind P w).inj (.str j tk) j k (Froz.is_str j tk) q, fun q => q ▸ Froz.is_str j tk⟩
/-- the scan of the entries finds a text just where T says so -/
theorem Fine.look {es : Array (Int × Value)} {t : SetTable} (F : Fine w T es t) (k : Str) : (es.toList.findIdx? fun e => (PySem.strKind P w).is k e.2).isSome = T k := by
  rw [List.findIdx?_isSome, Bool.eq_iff_iff, List.any_eq_true, F.mem k, List.mem_map]
  exact ⟨fun ⟨e, at_e, q⟩ => ⟨e, at_e, (good_is (F.good e at_e) k).mp q⟩, fun ⟨e, at_e, q⟩ => ⟨e, at_e, (good_is (F.good e at_e) k).mpr q⟩⟩
theorem Fine.moved {es fs : Array (Int × Value)} {t u : SetTable} (F : Fine w T es t) (p : fs.toList.Perm es.toList) (fit : u.fits fs.size = true) (ris : Ris u.place.toList) (led : u.led = t.led) : Fine w T fs u ∧ fs.size = es.size := by
  have size := p.length_eq
  rw [Array.length_toList, Array.length_toList] at size
  exact ⟨⟨fun e at_e => F.good e (p.mem_iff.mp at_e), (p.map txOf).nodup_iff.mpr F.once, fun k => (F.mem k).trans (p.map txOf).mem_iff.symm, size ▸ F.few, fit, ris, led ▸ F.led⟩, size⟩
theorem Fine.more {es fs : Array (Int × Value)} {t u : SetTable} {k : Str} {tk : Tok} (F : Fine w T es t) (out : T k = false) (room : es.size + 1 < scanBound)
    (p : fs.toList.Perm (es.push ((PySem.strKind P w).hash k, .str k tk)).toList) (fit : u.fits fs.size = true) (ris : Ris u.place.toList) (led : u.led = t.led) :
    Fine w (fun j => T j || decide (j = k)) fs u ∧ fs.size = es.size + 1 := by
  have pe : fs.toList.Perm (((PySem.strKind P w).hash k, Value.str k tk) :: es.toList) := p.trans (by rw [Array.toList_push]; exact List.perm_append_singleton _ _)
  have pt : (fs.toList.map txOf).Perm (k :: es.toList.map txOf) := pe.map txOf
  have size := pe.length_eq
  rw [List.length_cons, Array.length_toList, Array.length_toList] at size
  refine ⟨⟨fun e at_e => ?_, pt.nodup_iff.mpr (List.nodup_cons.mpr ⟨fun z => ?_, F.once⟩), fun j => ?_, size ▸ room, fit, ris, led ▸ F.led⟩, size⟩
  · cases pe.mem_iff.mp at_e with
    | head => exact ⟨k, tk, rfl, rfl⟩
    | tail _ old => exact F.good e old
  · exact Bool.false_ne_true (out.symm.trans ((F.mem k).mpr z))
  · simp only [pt.mem_iff, List.mem_cons, Bool.or_eq_true, decide_eq_true_eq, F.mem j]
    exact Or.comm
theorem Fine.plainOff {es : Array (Int × Value)} {t : SetTable} (F : Fine w T es t) : Fine w T es { t with plain := false } := { F with fit := SetTable.fits_plain_off F.fit }
end
section
variable {P : Program} {w : World} {A : Around} {E : Value → Shared → Prop} {s : Shared} {a : Addr} {T : Str → Bool} {n : Nat}
/-- the entries are laid down, and laid anew where the table is too full -/
theorem lay {g : Bool → Sem Unit} (calm : ∀ (b : Bool) (r : Shared) (K : Unit → Shared → Prop), K () r → wpAny (model P w) A (g b) K E r) {o : Obj} {es fs : Array (Int × Value)} {ep : Nat} {t u : SetTable}
    (ob : s.heap.get? a = some o) (ex : o.ExactSet) (dat : o.data = .set es ep t) (F : Fine w T fs u) {again : Bool} {R : Option Bool → Shared → Prop}
    (done : ∀ k, Heap.SameBut a s.heap k → HasX w k a T fs.size → R (some true) { s with heap := k }) :
    wpAny (model P w) A (storeSet a fs u >>= fun _ => if (!again && u.tooFull) = true then
        g (relayAll u fs (SetTable.grown fs.size)).2.2 >>= fun _ => storeSet a (relayAll u fs (SetTable.grown fs.size)).1 (relayAll u fs (SetTable.grown fs.size)).2.1 >>= fun _ => pure (some true)
      else pure (some true)) R E s := by
  have same1 := Heap.SameBut.update s.heap a (Obj.putSet fs u)
  have at1 := store_at (es' := fs) (t' := u) ob dat
  refine wpAny_bind (wpAny_storeSet_of ob dat ?_ (fits_of_scanBound F.few))
  by_cases full : (!again && u.tooFull) = true
  · rw [if_pos full]
    obtain ⟨F2, size2⟩ := F.moved (relayAll_perm u fs (SetTable.grown fs.size)) (relayAll_fits u fs _) (relayAll_ris u fs _) (relayAll_led u fs _)
    exact wpAny_bind (calm _ _ _ (wpAny_bind (wpAny_storeSet_of at1 rfl (wpAny_pure (done _ (same1.trans (Heap.SameBut.update _ a _)) ⟨_, _, _, _, store_at at1 rfl, ex, rfl, size2, F2⟩)) (fits_of_scanBound F2.few))))
  · rw [if_neg full]
    exact wpAny_pure (done _ same1 ⟨_, fs, _, u, at1, ex, rfl, rfl, F⟩)
theorem add {k : Str} {tk : Tok} {Q : Bool → Shared → Prop} (R : HasX w s.heap a T n) (room : n + 1 < scanBound)
    (hQ : ∀ h', Heap.SameBut a s.heap h' → HasX w h' a (fun j => T j || decide (j = k)) (if T k = true then n else n + 1) → Q (!T k) { s with heap := h' }) :
    wpAny (model P w) A (setAddHashed a (.str k tk) ((PySem.strKind P w).hash k)) Q E s := by
  obtain ⟨o, es, ep, t, ob, ex, dat, rfl, F⟩ := R
  have scans : (Value.str k tk).scannable = true := rfl
  have els := good_elems (P := P) F.good
  have calm : ∀ (b : Bool) (r : Shared) (K : Unit → Shared → Prop), K () r → wpAny (model P w) A (match b with | true => rule "set.scan.the-table-gave-way" | false => pure ()) K E r
    | true, _, _, q => wpAny_rule q
    | false, _, _, q => wpAny_pure q
  unfold setAddHashed; unfold setAddHashedIn
  refine wpAny_holding (wpAny_bind (wpAny_setState_of ob dat F.fit ?_))
  simp only [byScan_of scans F.few els, ↓reduceIte]
  unfold setAddByScan
  refine wpAny_bind (wpAny_bind (wpAny_rule (wpAny_bind (wpAny_setScan_of (Froz.is_str k tk) ob dat F.fit els ?_))))
  have seen := F.look (P := P) k
  cases found : es.toList.findIdx? (fun e => (PySem.strKind P w).is k e.2) with
  | some j =>
    rw [found] at seen
    have inT : T k = true := seen.symm
    have q := hQ s.heap (Heap.SameBut.refl a s.heap) ⟨o, es, ep, t, ob, ex, dat, (if_pos inT).symm, { F with mem := fun i => (F.mem i).symm.trans ?_ |>.symm }⟩
    · rw [inT] at q
      exact wpAny_pure (wpAny_pure q)
    · simp only [Bool.or_eq_true, decide_eq_true_eq]
      exact ⟨.inl, fun z => z.elim id fun e => e ▸ inT⟩
  | none =>
    rw [found] at seen
    have out : T k = false := seen.symm
    have F1 := F.more (P := P) (k := k) (tk := tk) out room (layNew_perm t es _ _) (layNew_fits t es _ _) (layNew_ris t es _ _ F.ris) (layNew_led t es _ _)
    revert F1
    generalize layNew t es ((PySem.strKind P w).hash k) (.str k tk) = Z
    rcases Z with ⟨fs, u, again, gave⟩
    rintro ⟨F1, size1⟩
    have fin : ∀ g, Heap.SameBut a s.heap g → HasX w g a (fun j => T j || decide (j = k)) fs.size → Q true { s with heap := g } := fun g same r => by
      have q := hQ g same
      simp only [out, Bool.false_eq_true, if_false, Bool.not_false] at q
      exact q (size1 ▸ r)
    dsimp only
    refine wpAny_bind (calm _ _ _ ?_)
    split
    · rw [hashByValue_scannable 8 scans]
      refine wpAny_bind (wpAny_pure (lay (T := fun j => T j || decide (j = k)) ?_ ob ex dat ?_ fun g same r => ?_))
      · exact fun b r K q => by cases b <;> first | exact wpAny_rule q | exact wpAny_pure q
      · first | exact F1 | (split <;> first | exact F1 | exact F1.plainOff)
      · dsimp only
        exact wpAny_pure (fin g same r)
    · refine wpAny_bind (wpAny_pure ?_)
      simp only [↓reduceIte]
      refine lay (T := fun j => T j || decide (j = k)) ?_ ob ex dat F1 fun g same r => ?_
      · exact fun b r K q => by cases b <;> first | exact wpAny_rule q | exact wpAny_pure q
      · dsimp only
        exact wpAny_pure (fin g same r)
end
/-- a set as it is made -/
abbrev newSet (w : World) : Obj := { cls := .type "set", dict := none, data := .set #[] 0 (.fresh 0 0 (!w.params.followText "set-order")) }
theorem fresh {h : Heap} (w : World) : HasX w (h.push (newSet w)) h.objs.size (fun _ => false) 0 := by
  refine ⟨_, #[], 0, _, Heap.get?_push_size _ rfl, ⟨rfl, rfl, rfl⟩, rfl, rfl, ⟨fun e at_e => by simp at at_e, by simp, fun k => by simp, by decide, by rfl, List.Pairwise.nil, ?_⟩⟩
  show (!w.params.followText "set-order") = true ∨ _
  cases w.params.followText "set-order" <;> simp
section
variable {prog : Program} {w : World} {A : Around} {R : Result → Shared → Prop} {I : Addr} {fp wr : List Addr} {n : Nat} {x : Str} {St : Nat → Heap → Prop}
/-- the signs of a text, one after the other, into the set: left of them are still to come -/
theorem loop (W : Walks prog w A.in1 I fp wr n (SignAt x) St) (hn : n = x.cps.size) (S : Addr) (away : S ∉ fp) (room : n + 1 < scanBound) :
    ∀ (left i : Nat) (s : Shared) (T : Str → Bool) (c : Nat), n - i = left → i ≤ n → St i s.heap → HasX w s.heap S T c → c ≤ i →
      (∀ g tk T' c', HasX w g S T' c' → c' ≤ n → (∀ k, T' k = (T k || (x.cps.toList.drop i).any fun z => decide (k = ⟨#[z]⟩))) → (∀ b q, b ∉ S :: wr → s.heap.get? b = some q → g.get? b = some q) →
        R (.ok (.ret .none)) { s with heap := g, toks := tk }) →
      codeAny (model prog w) A (.builtin "set.update.loop" ⟨[.ref S, .ref I], []⟩) R s := by
  have apart : S ∉ wr := fun z => away (W.sub _ z)
  intro left
  induction left with
  | zero =>
    intro i s T c hm hi st isSet hc done
    obtain rfl : i = n := by omega
    refine codeAny_builtin PyProof.Rows.F.entry_set_update_loop (Around.under_plainId PyProof.Rows.F.plain_set_update_loop _ ▸ wpAny_bind (m := pyNext (.ref I)) (W.done s _ _ st fun g tk keep => ?_))
    refine wpAny_pure (done g tk T c (isSet.at fun q at_S => keep S q apart at_S) hc (fun k => ?_) fun b q nb at_b => keep b q (fun z => nb (.tail _ z)) at_b)
    rw [List.drop_of_length_le (by rw [hn]; simp)]
    simp
  | succ left ih =>
    intro i s T c hm hi st isSet hc done
    have more : i < n := by omega
    refine codeAny_builtin PyProof.Rows.F.entry_set_update_loop (Around.under_plainId PyProof.Rows.F.plain_set_update_loop _ ▸ wpAny_bind (m := pyNext (.ref I)) (W.item i s _ _ more st fun v g tk isSign st' keep => ?_))
    obtain ⟨z, t, hz, rfl⟩ := isSign
    refine wpAny_bind (m := holding [Value.str ⟨#[z]⟩ t] (setAdd S (.str ⟨#[z]⟩ t))) (wpAny_holding ?_)
    unfold setAdd
    refine wpAny_holding (wpAny_bind ((PySem.strKind prog w).pyHash (k := ⟨#[z]⟩) (Froz.is_str _ _) ?_))
    refine add (s := { s with heap := g, toks := tk + 1 }) (isSet.at fun q at_S => keep S q apart at_S) (by omega) fun g2 same isSet2 => ?_
    have keep2 : ∀ b q, b ∉ S :: wr → s.heap.get? b = some q → g2.get? b = some q := fun b q nb at_b => (same.2 b fun z => nb (z ▸ List.mem_cons_self)).trans (keep b q (fun z => nb (.tail _ z)) at_b)
    refine wpAny_pure ⟨plainId_quiet PyProof.Rows.F.plain_set_update_loop _, ih (i + 1) { s with heap := g2, toks := tk + 1 } _ _ (by omega) more (W.frame _ g _ st' fun b hb q at_b => ?_) isSet2 (by split <;> omega) fun g3 tk3 T3 c3 r3 l3 m3 k3 => ?_⟩
    · exact (same.2 b fun z : b = S => away (z ▸ hb)).trans at_b
    · refine done g3 tk3 T3 c3 r3 l3 (fun k => ?_) fun b q nb at_b => k3 b q nb (keep2 b q nb at_b)
      rw [m3 k, Fz.drop_at hz, List.any_cons, Bool.or_assoc]
end
section
variable {P : Program} {w : World} {A : Around} {E : Value → Shared → Prop} {s : Shared}
set_option maxHeartbeats 6400000 in
/-- set(text) -/
theorem call_set {x : Str} {t : Tok} {Q : Value → Shared → Prop} (calm : A.handled = none) (room : x.cps.size + 1 < scanBound)
    (h : ∀ (g : Heap) (tk : Nat) T c, HasX w g s.heap.objs.size T c → c ≤ x.cps.size → (∀ k, T k = x.cps.toList.any fun z => decide (k = ⟨#[z]⟩)) → (∀ b q, s.heap.get? b = some q → g.get? b = some q) → Q (.ref s.heap.objs.size) { s with heap := g, toks := tk }) :
    wpAny (model P w) A (call (.type "set") [.str x t]) Q E s := by
  have made := F.called_set.made; have isSub := F.called_set.sub; have noType := F.called_set.notType; have creates := F.called_set.canCreate
  obtain ⟨_, _, _⟩ := F.called_set.mro
  have typeCall := F.typeCall_set_1 (.str x t)
  refine wpAny_call (codeAny_of_tree ?_)
  change wpAny _ _ (callAny (.type "set") _) _ _ s
  refine wpAny_pure (And.intro (Code.quiet_builtin _ (by decide +kernel)) (codeAny_builtin F.entry_type_call ?_))
  rw [Around.under_plain (weight_type_call_type "set" [.str x t] []) rfl]
  repeat any_goals first | assumption | wp_step
  refine codeAny_mono (code_set_led1 (.str x t) (E := E) (Q₁ := fun v r => v = .ref s.heap.objs.size ∧ r = { s with heap := s.heap.push (newSet w) }) ⟨rfl, rfl⟩) fun
    | .error _, _, hr => hr
    | .ok (.ret _), _, ⟨rfl, rfl⟩ => ?_
    | .ok .next, _, hr => hr.elim
    | .ok .brk, _, hr => hr.elim
    | .ok .cont, _, hr => hr.elim
  have isTy : Shared.TypeIs { s with heap := s.heap.push (newSet w) } (.ref s.heap.objs.size) "set" := ⟨_, Heap.get?_push_size _ rfl, rfl⟩
  have found := F.called_set.init.lookup
  have bound := F.called_set.init.bind (.ref s.heap.objs.size)
  repeat any_goals first | assumption | wp_step
  refine codeAny_mono (codeAny_call_builtin (R := wants (fun v r => v = .none ∧ ∃ g tk T c, r = { s with heap := g, toks := tk } ∧ HasX w g s.heap.objs.size T c ∧ c ≤ x.cps.size ∧ (∀ k, T k = x.cps.toList.any fun z => decide (k = ⟨#[z]⟩)) ∧
      ∀ b q, s.heap.get? b = some q → g.get? b = some q) E) F.called_set.init.plain F.entry_set_init (check_set_init_1 isTy ?_)) fun
    | .error _, _, hr => hr
    | .ok (.ret _), _, ⟨rfl, _, _, _, _, rfl, r1, r2, r3, r4⟩ => ?_
    | .ok .next, _, hr => hr.elim
    | .ok .brk, _, hr => hr.elim
    | .ok .cont, _, hr => hr.elim
  · have f1 := F.sub_str_set; have f2 := F.sub_str_frozenset; have f3 := typeIs_str
    have f4 : (Value.type "str" == Value.type "dict") = false := by decide
    unfold Builtin.«set.__init__» noKeywords; unfold Builtin.Frozenset.updateFrom
    generalize asIter : pyIter = PI
    wp_walk
    subst asIter
    have size1 : (s.heap.push (newSet w)).objs.size = s.heap.objs.size + 1 := Heap.size_push ..
    refine wpAny_pyIter_str fun o St W st => wpAny_bind (wpAny_runValue (loop (W _ (by simp [calm])) rfl s.heap.objs.size ?_ room _ 0 _ (fun _ => false) 0 rfl (Nat.zero_le _) st ((fresh w).at fun q at_b => Heap.get?_push_of_some _ at_b) (Nat.le_refl _) fun g tk T c r lc m keep => ?_))
    · rw [List.mem_singleton, size1]
      exact Nat.ne_of_lt (Nat.lt_succ_self _)
    · show wpAny _ _ _ _ _ _
      refine wpAny_pure (wpAny_pure ⟨rfl, g, tk, T, c, rfl, r, lc, fun z => by rw [m z, List.drop_zero, Bool.false_or], fun b q at_b => keep b q ?_ (Heap.get?_push_of_some _ (Heap.get?_push_of_some _ at_b))⟩)
      have below := Heap.lt_size at_b
      simp only [List.mem_cons, List.mem_singleton, List.not_mem_nil, or_false, not_or, size1]
      exact ⟨Nat.ne_of_lt below, Nat.ne_of_lt (Nat.lt_succ_of_lt below)⟩
  · repeat any_goals first | assumption | wp_step
    exact h _ _ _ _ r1 r2 r3 r4
end
end TX
set_option Elab.async false
set_option linter.all false
set_option maxRecDepth 100000
set_option maxHeartbeats 4000000
namespace TX
open PySem PySem.Spec PyProof.Rows L2
def ins (c : Nat) : List Nat → List Nat
  | [] => [c]
  | d :: r => if c < d then c :: d :: r else if c = d then d :: r else d :: ins c r
/-- the numbers of a list, each once, ascending -/
def sigs : List Nat → List Nat
  | [] => []
  | c :: r => ins c (sigs r)
theorem mem_ins (c k : Nat) : ∀ l : List Nat, k ∈ ins c l ↔ k = c ∨ k ∈ l
  | [] => by simp [ins]
  | d :: r => by
    unfold ins
    split
    · simp
    · split
      · rename_i _ e
        subst e
        simp
      · simp only [List.mem_cons, mem_ins c k r]
        exact ⟨fun h => h.elim (fun e => .inr (.inl e)) (fun h => h.elim .inl fun h => .inr (.inr h)), fun h => h.elim (fun e => .inr (.inl e)) fun h => h.elim .inl fun h => .inr (.inr h)⟩
theorem mem_sigs (k : Nat) : ∀ l : List Nat, k ∈ sigs l ↔ k ∈ l
  | [] => Iff.rfl
  | c :: r => by rw [sigs, mem_ins, mem_sigs k r, List.mem_cons]
theorem asc_ins (c : Nat) : ∀ l : List Nat, l.Pairwise (· < ·) → (ins c l).Pairwise (· < ·)
  | [], _ => List.pairwise_singleton ..
  | d :: r, h => by
    have ⟨h1, h2⟩ := List.pairwise_cons.mp h
    unfold ins
    split
    · rename_i q
      exact List.pairwise_cons.mpr ⟨fun y hy => by
        rcases List.mem_cons.mp hy with z | z
        · omega
        · have := h1 y z
          omega, h⟩
    · split
      · exact h
      · refine List.pairwise_cons.mpr ⟨fun y hy => ?_, asc_ins c r h2⟩
        rcases (mem_ins c y r).mp hy with z | z
        · omega
        · exact h1 y z
theorem asc_sigs : ∀ l : List Nat, (sigs l).Pairwise (· < ·)
  | [] => List.Pairwise.nil
  | c :: r => asc_ins c _ (asc_sigs r)
theorem asc_eq : ∀ l m : List Nat, l.Pairwise (· < ·) → m.Pairwise (· < ·) → (∀ k, k ∈ l ↔ k ∈ m) → l = m
  | [], [], _, _, _ => rfl
  | [], d :: m, _, _, h => absurd ((h d).mpr List.mem_cons_self) (by simp)
  | c :: l, [], _, _, h => absurd ((h c).mp List.mem_cons_self) (by simp)
  | c :: l, d :: m, hl, hm, h => by
    obtain ⟨l1, l2⟩ := List.pairwise_cons.mp hl
    obtain ⟨m1, m2⟩ := List.pairwise_cons.mp hm
    have e : c = d := by
      rcases List.mem_cons.mp ((h c).mp List.mem_cons_self) with z | z
      · exact z
      · rcases List.mem_cons.mp ((h d).mpr List.mem_cons_self) with y | y
        · exact y.symm
        · have := l1 d y
          have := m1 c z
          omega
    subst e
    rw [asc_eq l m l2 m2 fun k => ?_]
    constructor
    · intro hk
      rcases List.mem_cons.mp ((h k).mp (List.mem_cons_of_mem _ hk)) with z | z
      · have := l1 k hk
        omega
      · exact z
    · intro hk
      rcases List.mem_cons.mp ((h k).mpr (List.mem_cons_of_mem _ hk)) with z | z
      · have := m1 k hk
        omega
      · exact z
/-- a text of one sign -/
abbrev sg (c : Nat) : Str := ⟨#[c]⟩
def hd1 (x : Str) : Nat := x.cps.toList.headD 0
theorem sg_inj {a b : Nat} (h : sg a = sg b) : a = b := congrArg hd1 h
theorem lt_sg (a b : Nat) : ltCps (sg a).cps.toList (sg b).cps.toList = decide (a < b) := by
  rw [ltCps_eq]
  show decide ([a] < [b]) = decide (a < b)
  by_cases h : a < b
  · rw [decide_eq_true h, decide_eq_true]
    exact List.Lex.rel h
  · rw [decide_eq_false h, decide_eq_false]
    intro q
    cases q with
    | rel r => exact h r
    | cons r => cases r
theorem rising_le : ∀ (l : List Nat) (p : Nat), risingS (sg p) (l.map sg) = true → (p :: l).Pairwise (· ≤ ·)
  | [], p, _ => List.pairwise_singleton ..
  | c :: l, p, h => by
    have h' : (!ltCps (sg c).cps.toList (sg p).cps.toList && risingS (sg c) (l.map sg)) = true := h
    rw [Bool.and_eq_true, lt_sg, Bool.not_eq_true', decide_eq_false_iff_not] at h'
    have ih := rising_le l c h'.2
    obtain ⟨i1, _⟩ := List.pairwise_cons.mp ih
    refine List.pairwise_cons.mpr ⟨fun y hy => ?_, ih⟩
    rcases List.mem_cons.mp hy with z | z
    · omega
    · have := i1 y z
      omega
theorem sorted_le (l : List Nat) (h : sortedS (l.map sg) = true) : l.Pairwise (· ≤ ·) := by
  cases l with
  | nil => exact List.Pairwise.nil
  | cons p r => exact rising_le r p h
theorem lt_of_le : ∀ l : List Nat, l.Pairwise (· ≤ ·) → l.Nodup → l.Pairwise (· < ·)
  | [], _, _ => .nil
  | x :: l, .cons up rest, .cons new once => .cons (fun y at_y => Nat.lt_of_le_of_ne (up y at_y) (new y at_y)) (lt_of_le l rest once)
theorem all_sg : ∀ l : List Str, (∀ x ∈ l, ∃ c, x = sg c) → l = (l.map hd1).map sg
  | [], _ => rfl
  | x :: l, h => by
    obtain ⟨c, rfl⟩ := h x List.mem_cons_self
    rw [List.map_cons, List.map_cons, ← all_sg l fun y hy => h y (List.mem_cons_of_mem _ hy)] <;> rfl
theorem sorted_is {ss : List Str} {l : List Nat} (hs : sortedS ss = true) (hn : ss.Nodup) (hm : ∀ k, k ∈ ss ↔ ∃ z ∈ l, k = sg z) : ss = (sigs l).map sg := by
  have e := all_sg ss fun x hx => let ⟨z, _, q⟩ := (hm x).mp hx; ⟨z, q⟩
  have hn2 : (ss.map hd1).Nodup := by
    rw [e] at hn
    exact (List.pairwise_map.mp hn).imp fun h q => h (by rw [q])
  have hs2 : sortedS ((ss.map hd1).map sg) = true := by rw [← e]; exact hs
  have q : ss.map hd1 = sigs l := by
    refine asc_eq _ _ (lt_of_le _ (sorted_le _ hs2) hn2) (asc_sigs l) fun k => ?_
    rw [mem_sigs, List.mem_map]
    constructor
    · rintro ⟨x, hx, rfl⟩
      obtain ⟨z, hz, rfl⟩ := (hm x).mp hx
      exact hz
    · intro hk
      exact ⟨sg k, (hm _).mpr ⟨k, hk, rfl⟩, rfl⟩
  rw [e, q]
theorem len_sigs (l : List Nat) : (sigs l).length ≤ l.length := by
  induction l with
  | nil => exact Nat.le_refl _
  | cons c r ih =>
    have h : ∀ m : List Nat, (ins c m).length ≤ m.length + 1 := by
      intro m
      induction m with
      | nil => exact Nat.le_refl _
      | cons d m ih2 =>
        unfold ins
        split
        · simp
        · split
          · simp
          · simp only [List.length_cons]
            omega
    show (ins c (sigs r)).length ≤ r.length + 1
    have := h (sigs r)
    omega
section
variable {P : Program} {w : World} {A : Around} {E : Value → Shared → Prop} {s : Shared} {a : Addr}
/-- sorted(the set of the signs of x): its signs, rising -/
theorem sorted_set {x : Str} {T : Str → Bool} {n : Nat} {Q : Value → Shared → Prop} (R : HasX w s.heap a T n) (hT : ∀ k, T k = x.cps.toList.any fun z => decide (k = ⟨#[z]⟩)) (calm : A.handled = none) (h64 : n < 64)
    (hQ : ∀ r p (out : Array Value) (c : Nat), (∀ b q, s.heap.get? b = some q → r.heap.get? b = some q) → r.gens = s.gens → r.os = s.os → s.heap.objs.size ≤ p →
      r.heap.get? p = some (seqObj "list" out c) → StrsAre out.toList ((sigs x.cps.toList).map sg) → Q (.ref p) r) : wpAny (model P w) A (call (.builtin "sorted") [.ref a]) Q E s := by
  obtain ⟨o, es, ep, t, ob, ex, dat, sz, F⟩ := R
  refine Calls.call_function_entry kind_sorted plain_sorted entry_sorted (args_sorted1 _) (wpAny_bind (m := checkCount "sorted" 1 1 _) (wpAny_pure (wpAny_bind ?_)))
  refine collect_set (A := A.in1) calm ⟨o, ob, ex.1, dat⟩ F.fit F.few F.ris F.led.symm fun r vs keep grows gens os perm => ?_
  have count : vs.length = n := by rw [← sz, perm.length_eq, List.length_map, Array.length_toList]
  have texts : StrsAre vs (vs.map strOf) := strsAre_map vs fun v at_v =>
    let ⟨e, at_e, q⟩ := List.mem_map.mp (perm.mem_iff.mp at_v)
    let ⟨k, tk, isStr, _⟩ := F.good e at_e
    ⟨k, tk, q ▸ isStr⟩
  have perm2 : (vs.map strOf).Perm (es.toList.map txOf) := by have := perm.map strOf; rw [List.map_map] at this; exact this
  refine wpAny_bind (wpAny_newList (wpAny_bind ?_) (by have := count; rw [sizeLine_eq]; omega))
  have listAt : (r.heap.push (seqObj "list" vs.toArray 0)).get? r.heap.objs.size = some (seqObj "list" vs.toArray 0) := Heap.get?_push_size _ rfl
  refine wpAny_holding (wpAny_call_entry slot_list_sort ⟨_, listAt, rfl⟩ entry_list_sort (list_sort_treeK (κ := PyProof.Rows.strKind) strKind_oneLt listAt texts.keysOf (fun v₁ v₂ rest e => keyKind_strs (e ▸ texts)) (by omega) fun st done isSorted => ⟨_, rfl, wpAny_pure ⟨_, rfl, ?_⟩⟩) (args_list_sort _))
  obtain ⟨ss, are, perm3, up⟩ := sorted_out_str texts done isSorted
  obtain ⟨c, outAt⟩ := sortedHeap_at (vs := vs) (out := (arrOf st).map (·.2)) listAt
  have all : ss.Perm (es.toList.map txOf) := perm3.trans perm2
  have eq : ss = (sigs x.cps.toList).map sg := sorted_is up (all.nodup_iff.mpr F.once) fun k => by
    rw [all.mem_iff, ← F.mem k, hT k, List.any_eq_true]
    exact ⟨fun ⟨z, at_z, e⟩ => ⟨z, at_z, of_decide_eq_true e⟩, fun ⟨z, at_z, e⟩ => ⟨z, at_z, decide_eq_true e⟩⟩
  refine hQ _ r.heap.objs.size _ c (fun b q at_b => ?_) gens os grows outAt (eq ▸ are)
  have below := Heap.lt_size (keep b q at_b)
  exact (sortedHeap_old (Nat.ne_of_lt below) (by rw [size_push']; exact Nat.lt_succ_of_lt below)).trans (Heap.get?_push_of_some _ (keep b q at_b))
end
/-- the set of the signs of x at a -/
def SetO (w : World) (a : Addr) (x : Str) : HO := .ext fun h => ∃ T n, HasX w h a T n ∧ n ≤ x.cps.size ∧ ∀ k, T k = x.cps.toList.any fun z => decide (k = ⟨#[z]⟩)
theorem setO_new {P : Program} {w : World} {H : Hp} {h : Heap} {a : Addr} {x : Str} {T : Str → Bool} {n : Nat} (R : HasX w h a T n) (hn : n ≤ x.cps.size) (hT : ∀ k, T k = x.cps.toList.any fun z => decide (k = ⟨#[z]⟩)) : ObjOk P w H h a (SetO w a x) := by
  refine ⟨⟨T, n, R, hn, hT⟩, ?_, fun h1 h2 p k => ?_⟩
  · exact let ⟨o, _, _, _, r⟩ := R; ⟨o, r.ob⟩
  · obtain ⟨T', n', R', q⟩ := p
    exact ⟨T', n', R'.at k, q⟩
theorem vals_strs : ∀ {vs : List Value} {ss : List Str}, StrsAre vs ss → Vals (ss.map V.str) vs
  | _, _, .nil => .nil
  | _, _, .cons x t r => .cons ⟨t, rfl⟩ (vals_strs r)
section
variable {X : Cx}
def rSetX (w : World) : List V → Hp → VK → Prop := fun xs H Q => ∃ x : Str, xs = [V.str x] ∧ x.cps.size < 64 ∧ ∀ a o, H a = none → o = SetO w a x → Q (.ref a) (upd H a o)
theorem call_setX (hc : X.calm = true) : CallR X (.type "set") (rSetX X.w) := by
  rintro pins s σ H _ us Q I r ⟨x, rfl, hx, q⟩
  rcases vals1 r with ⟨_, rfl, t, rfl⟩
  refine call_set (P := X.prog) (w := X.w) (I.ok.hd hc) (by unfold scanBound; omega) fun h' tk T c r1 r2 r3 k => ?_
  exact ⟨.ref s.heap.objs.size, upd H s.heap.objs.size (SetO X.w s.heap.objs.size x), I.laid (t' := tk) k (Nat.le_refl _) (setO_new r1 r2 r3), rfl, q _ _ (I.hok.fresh (Nat.le_refl _)) rfl⟩
def rSortX (w : World) : List V → Hp → VK → Prop := fun xs H Q => ∃ (a : Addr) (x : Str) (o : HO), xs = [V.ref a] ∧ H a = some o ∧ o = SetO w a x ∧ x.cps.size < 64 ∧ ∀ p, H p = none → Q (.ref p) (upd H p (.lst ((sigs x.cps.toList).map fun c => V.str (sg c))))
theorem cr_sortX (hc : X.calm = true) : CallR X (.builtin "sorted") (rSortX X.w) := by
  rintro pins s σ H _ us Q I r ⟨a, x, _, rfl, ha, rfl, hx, q⟩
  obtain ⟨T, n, R, hn, hT⟩ := (I.hok a _ ha).1
  rw [Vals.ref1 r]
  refine sorted_set (x := x) R hT (I.ok.hd hc) (by omega) fun s' p out c k g o hp hg hS => ?_
  have hlen : ((sigs x.cps.toList).map fun c => V.str (sg c)).length ≤ sizeLine := by
    have h1 : (sigs x.cps.toList).length ≤ x.cps.toList.length := len_sigs _
    have h2 : x.cps.toList.length = x.cps.size := Array.length_toList
    have h3 := sizeLine_eq
    rw [List.length_map]
    omega
  have free : H p = none := I.hok.fresh hp
  have hv : Vals ((sigs x.cps.toList).map fun c => V.str (sg c)) out.toList := by
    have := vals_strs hS
    rw [List.map_map] at this
    exact this
  have J : Inv X pins σ (upd H p (.lst ((sigs x.cps.toList).map fun c => V.str (sg c)))) { s with heap := s'.heap, gens := s'.gens, drawn := s'.drawn, toks := s'.toks } :=
    I.call (ch := []) (Un.laid k hp free) (I.hok.laid k hp ⟨hlen, _, c, hv, hg⟩) (g ▸ I.bare) nofun
  have same : { s with heap := s'.heap, gens := s'.gens, drawn := s'.drawn, toks := s'.toks } = s' := by
    rcases s with ⟨⟩; rcases s' with ⟨⟩; cases o; rfl
  exact same ▸ ⟨.ref p, _, J, rfl, q p free⟩
/-- list(text) -/
theorem vals_signs {x : Str} : ∀ (l : List Value) (cs : List Nat), l.length = cs.length → (∀ (i : Nat) (v : Value), l[i]? = some v → ∃ (c : Nat) (u : Tok), cs[i]? = some c ∧ v = Value.str ⟨#[c]⟩ u) → Vals (cs.map fun c => V.str (sg c)) l
  | [], [], _, _ => .nil
  | v :: l, c :: cs, h, q => by
    obtain ⟨c', u, e1, e2⟩ := q 0 v rfl
    have e3 : c = c' := Option.some.inj e1
    subst e3
    exact .cons ⟨u, e2⟩ (vals_signs (x := x) l cs (Nat.succ.inj h) fun i v' e => q (i + 1) v' e)
  | [], _ :: _, h, _ => nomatch h
  | _ :: _, [], h, _ => nomatch h
theorem call_listX (hc : X.calm = true) : CallR X (.type "list") (fun xs H Q => ∃ x : Str, xs = [V.str x] ∧ x.cps.size ≤ sizeLine ∧ ∀ l, H l = none → Q (.ref l) (upd H l (.lst (x.cps.toList.map fun c => V.str (sg c))))) := by
  rintro pins s σ H _ us Q I r ⟨x, rfl, hx, q⟩
  rcases vals1 r with ⟨_, rfl, t, rfl⟩
  refine call_list_str (I.ok.hd hc) x t (fun h' tk acc c k hS hacc => ?_) hx
  have hlen : (x.cps.toList.map fun c => V.str (sg c)).length ≤ sizeLine := by
    have h2 : x.cps.toList.length = x.cps.size := Array.length_toList
    rw [List.length_map, h2]
    exact hx
  have hv : Vals (x.cps.toList.map fun c => V.str (sg c)) acc.toList := by
    refine vals_signs (x := x) _ _ (by rw [Array.length_toList, hacc.1, Array.length_toList]) fun i v e => ?_
    rw [Array.getElem?_toList] at e
    obtain ⟨c, u, h1, h2⟩ := hacc.2 i v e
    exact ⟨c, u, by rw [Array.getElem?_toList]; exact h1, h2⟩
  exact ⟨.ref s.heap.objs.size, _, I.laid (t' := tk) k (Nat.le_refl _) (show ObjOk X.prog X.w _ h' _ (.lst _) from ⟨hlen, acc.toList, c, hv, hS⟩), rfl, q _ (I.hok.fresh (Nat.le_refl _))⟩
end
end TX
set_option Elab.async false
set_option linter.all false
set_option maxRecDepth 100000
set_option maxHeartbeats 4000000
namespace K1
abbrev W := List Nat
/-- the words of just k letters, and of at most k -/
def lay (L : W) : Nat → List W
  | 0 => [[]]
  | k + 1 => (lay L k).flatMap fun u => L.map fun c => u ++ [c]
def allW (L : W) : Nat → List W
  | 0 => [[]]
  | k + 1 => allW L k ++ lay L (k + 1)
/-- what is left behind the first c -/
def after (c : Nat) : W → Option W
  | [] => none
  | d :: r => if d = c then some r else after c r
/-- what is left behind the first place of a piece -/
def rest : W → W → Option W
  | [], w => some w
  | a :: u, w => (after a w).bind (rest u)
def isP (u w : W) : Bool := (rest u w).isSome
/-- what is left of a word, by the law's walk -/
def lp : W → W → W
  | u, [] => u
  | [], _ :: _ => []
  | a :: u, c :: w => if a = c then lp u w else lp (a :: u) w
/-- the pieces of just k letters, each with what is left behind it -/
def pl (S w : W) : Nat → List (W × W)
  | 0 => [([], w)]
  | k + 1 => (pl S w k).flatMap fun p => S.filterMap fun c => (after c p.2).map fun r => (p.1 ++ [c], r)
theorem mem_lay (L : W) : ∀ (k : Nat) (u : W), u ∈ lay L k ↔ u.length = k ∧ ∀ c ∈ u, c ∈ L
  | 0, u => by
    show u ∈ [[]] ↔ _
    rw [List.mem_singleton]
    exact ⟨fun h => by subst h; exact ⟨rfl, fun c hc => nomatch hc⟩, fun h => List.length_eq_zero_iff.mp h.1⟩
  | k + 1, u => by
    show u ∈ (lay L k).flatMap _ ↔ _
    rw [List.mem_flatMap]
    constructor
    · rintro ⟨v, hv, hu⟩
      obtain ⟨c, hc, rfl⟩ := List.mem_map.mp hu
      obtain ⟨h1, h2⟩ := (mem_lay L k v).mp hv
      refine ⟨by rw [List.length_append, h1] <;> rfl, fun d hd => ?_⟩
      rcases List.mem_append.mp hd with z | z
      · exact h2 d z
      · rw [List.mem_singleton.mp z]
        exact hc
    · rintro ⟨h1, h2⟩
      have hne : u ≠ [] := fun e => by subst e; cases h1
      refine ⟨u.dropLast, (mem_lay L k _).mpr ⟨by rw [List.length_dropLast]; omega, fun c hc => h2 c (List.dropLast_subset u hc)⟩, List.mem_map.mpr ⟨u.getLast hne, h2 _ (List.getLast_mem hne), List.dropLast_concat_getLast hne⟩⟩
theorem mem_allW (L : W) : ∀ (k : Nat) (u : W), u ∈ allW L k ↔ u.length ≤ k ∧ ∀ c ∈ u, c ∈ L
  | 0, u => by
    show u ∈ [[]] ↔ _
    rw [List.mem_singleton]
    exact ⟨fun h => by subst h; exact ⟨Nat.le_refl _, fun c hc => nomatch hc⟩, fun h => List.length_eq_zero_iff.mp (by omega)⟩
  | k + 1, u => by
    show u ∈ allW L k ++ lay L (k + 1) ↔ _
    rw [List.mem_append, mem_allW L k u, mem_lay]
    constructor
    · rintro (⟨h1, h2⟩ | ⟨h1, h2⟩)
      · exact ⟨by omega, h2⟩
      · exact ⟨by omega, h2⟩
    · rintro ⟨h1, h2⟩
      by_cases h : u.length ≤ k
      · exact .inl ⟨h, h2⟩
      · exact .inr ⟨by omega, h2⟩
/-- the pieces of a word, as it is told -/
def told (w : W) (m : Nat) : List W := (allW (TX.sigs w) m).filter fun u => isP u w
/-- the place behind the first c from e on -/
def nx (w : W) (c e : Nat) : Option Nat := (after c (w.drop e)).map fun r => w.length - r.length
end K1
set_option Elab.async false
set_option linter.all false
set_option maxRecDepth 100000
set_option maxHeartbeats 4000000
namespace K1
open PySem PySem.Spec PyProof.Rows L2
open TX (sg sigs)
/-- the text of a word -/
def tx (w : W) : Str := ⟨w.toArray⟩
theorem tx_of (x : Str) : tx x.cps.toList = x := by
  unfold tx
  rw [Array.toArray_toList]
theorem tx_list (w : W) : (tx w).cps.toList = w := by
  show w.toArray.toList = w
  rw [List.toList_toArray]
theorem tx_len (w : W) : (tx w).length = w.length := by
  show w.toArray.size = w.length
  rw [List.size_toArray]
theorem tx_app (u v : W) : tx u ++ tx v = tx (u ++ v) := by
  show (⟨u.toArray ++ v.toArray⟩ : Str) = ⟨(u ++ v).toArray⟩
  rw [List.append_toArray]
theorem join_eq0 (ps : List W) : Txt.join (tx []) (ps.map tx) = tx ps.flatten := by
  rw [TL.join_eq]
  have h := TL.tl_join (tx []) (ps.map tx)
  have e : ∀ qs : List (List Nat), TL.joinL [] qs = qs.flatten := by
    intro qs
    induction qs with
    | nil => rfl
    | cons p r ih =>
      cases r with
      | nil => simp [TL.joinL]
      | cons q r => simp [TL.joinL] at ih ⊢; exact ih
  have e1 : TL.tl (tx []) = [] := rfl
  rw [e1, e, List.map_map] at h
  have e2 : (TL.tl ∘ tx) = (id : W → W) := by
    funext u
    exact tx_list u
  rw [e2, List.map_id] at h
  have h2 : (Str.join (tx []) (ps.map tx)).cps.toList = ps.flatten := h
  rw [← tx_of (Str.join (tx []) (ps.map tx)), h2]
theorem count_tx (w : W) (c : Nat) : Txt.count (tx w) (sg c) = (w.count c : Int) := by
  rw [count_is, tx_list]
  show cnt c w = _
  induction w with
  | nil => rfl
  | cons d w ih =>
    rw [cnt_cons, ih, List.count_cons]
    by_cases h : d = c
    · subst h
      simp
      omega
    · simp [h]
/-- the letters a to z -/
def Low (w : W) : Prop := ∀ c ∈ w, 97 ≤ c ∧ c ≤ 122
theorem uni : ∀ k : Fin 26, Unicode.isAlpha (97 + k.val) = true ∧ Unicode.isLower (97 + k.val) = true ∧ Unicode.isUpper (97 + k.val) = false ∧ Unicode.isTitle (97 + k.val) = false := by decide +kernel
theorem uni_low {c : Nat} (h : 97 ≤ c ∧ c ≤ 122) : Unicode.isAlpha c = true ∧ Unicode.isLower c = true ∧ Unicode.isUpper c = false ∧ Unicode.isTitle c = false := by
  have := uni ⟨c - 97, by omega⟩
  have e : 97 + (c - 97) = c := by omega
  simp only [e] at this
  exact this
theorem low_facts {w : W} (h : Low w) (hne : w ≠ []) : Txt.isascii (tx w) = true ∧ Txt.isalpha (tx w) = true ∧ Txt.islower (tx w) = true := by
  refine ⟨?_, ?_, ?_⟩
  · show (w.toArray).all _ = true
    rw [List.all_toArray, List.all_eq_true]
    intro c hc
    have := h c hc
    simp only [decide_eq_true_eq]
    omega
  · show ((decide ((tx w).length > 0)) && (w.toArray).all _) = true
    rw [List.all_toArray, tx_len, Bool.and_eq_true]
    refine ⟨decide_eq_true (List.length_pos_iff.mpr hne), ?_⟩
    rw [List.all_eq_true]
    exact fun c hc => (uni_low (h c hc)).1
  · show ((w.toArray).any _ && !(w.toArray).any _) = true
    rw [List.any_toArray, List.any_toArray, Bool.and_eq_true]
    constructor
    · rw [List.any_eq_true]
      obtain ⟨c, r, rfl⟩ : ∃ c r, w = c :: r := by
        cases w with
        | nil => exact absurd rfl hne
        | cons c r => exact ⟨c, r, rfl⟩
      exact ⟨c, List.mem_cons_self, (uni_low (h c List.mem_cons_self)).2.1⟩
    · rw [Bool.not_eq_true', List.any_eq_false]
      intro c hc
      have := uni_low (h c hc)
      rw [this.2.2.1, this.2.2.2]
      exact Bool.false_ne_true
end K1
set_option Elab.async false
set_option linter.all false
set_option maxRecDepth 100000
set_option maxHeartbeats 8000000
namespace WK
open PySem L2 PyProof.Rows K1
open TX (sg sigs)
open PySem.W (Frag kitOne)
/-- a def of the module by its name -/
structure Fn (K : Frag) (mg : Str → Option Value) (nm : Str) (st : Stmt) (ps : List Str) (f : Addr) (fd : FuncData) : Prop where
  g : mg nm = some (.ref f)
  F : Fun K nm nm st f fd
  b : L2.Binds K fd ps []
structure TN (mg : Str → Option Value) : Prop where
  len : mg "len" = none
  int : mg "int" = none
  abs : mg "abs" = none
  isi : mg "isinstance" = none
  bool : mg "bool" = none
  str : mg "str" = none
  all : mg "all" = none
  rng : mg "range" = none
  sorted : mg "sorted" = none
  set : mg "set" = none
  tuple : mg "tuple" = none
  list : mg "list" = none
  max : mg "max" = none
  min : mg "min" = none
  zip : mg "zip" = none
  most : ∃ t, mg "MAX_LETTERS" = some (.int 3 t)
theorem TN.dice {mg : Str → Option Value} (T : TN mg) : TDice mg := ⟨T.len, T.int, T.abs⟩
abbrev sIsInt : Stmt := top 22
abbrev sIsNum : Stmt := top 23
abbrev sNeedNum : Stmt := top 24
abbrev sAsc : Stmt := top 26
abbrev sIsLet : Stmt := top 32
abbrev sIsWord : Stmt := top 33
abbrev sIsOver : Stmt := top 34
abbrev sNeedLet : Stmt := top 35
abbrev sNeedWord : Stmt := top 36
abbrev sNeedOver : Stmt := top 37
theorem same_upd {H : Hp} {p : Addr} {o : HO} (h : H p = none) : Same H (upd H p o) := fun b u e => by rw [upd_ne (ne_of_none e h)]; exact e
theorem same_at {H H1 : Hp} {p : Addr} {o : HO} (s : Same H H1) (h : H p = none) : Same H (upd H1 p o) := fun b u e => by rw [upd_ne (ne_of_none e h)]; exact s b u e
theorem same_two {H H1 : Hp} {p : Addr} {o : HO} (s : Same H H1) (h : H1 p = none) : Same H (upd H1 p o) := s.trans (same_upd h)
theorem pe_ty {X : Cx} {x : Str} {pos : Pos} (n : String) (hm : X.mg x = none) (hv : bootBuiltins x = some (.type n)) (hg : Gl X x := by rfl) (hn : x ≠ "__name__" := by decide) (hd : (x == ("__debug__" : Str)) = false := by decide) : PE X (.Name x pos) (tC (.ty n)) := pe_bltn hg hm hv rfl hn hd
/-- a set of letters: one to three, ascending, of a to z -/
structure Let (L : W) : Prop where
  low : Low L
  asc : L.Pairwise (· < ·)
  ne : L ≠ []
  few : L.length ≤ 3
/-- what is told of a text: whether it is a word -/
def wordB (x : Str) : Bool := if x = "" then true else if Txt.isascii x = true then if Txt.isalpha x = true then Txt.islower x else false else false
theorem wordB_low {w : W} (h : Low w) : wordB (tx w) = true := by
  unfold wordB
  by_cases e : tx w = ""
  · rw [if_pos e]
  · rw [if_neg e]
    have hne : w ≠ [] := fun z => e (by rw [z] <;> rfl)
    obtain ⟨h1, h2, h3⟩ := low_facts h hne
    rw [if_pos h1, if_pos h2, h3]
def ascB (w : W) : Bool := decide (w.Pairwise (· < ·))
def letB (x : Str) : Bool := wordB x && (decide (1 ≤ x.length) && decide (x.length ≤ 3)) && ascB x.cps.toList
theorem letB_let {L : W} (h : Let L) : letB (tx L) = true := by
  unfold letB
  rw [wordB_low h.low, tx_len, tx_list]
  have h1 : ascB L = true := decide_eq_true h.asc
  have h2 := List.length_pos_iff.mpr h.ne
  rw [h1, decide_eq_true (show 1 ≤ L.length from h2), decide_eq_true h.few] <;> rfl
def spIsNum : Sp := fun vs H Q _ => ∃ i a b : Int, vs = [.int i, .int a, .int b] ∧ Q (.bl (decide (a ≤ i) && decide (i ≤ b))) H
def spNeedNum : Sp := fun vs H Q _ => ∃ i a b : Int, vs = [.int i, .int a, .int b] ∧ a ≤ i ∧ i ≤ b ∧ Q .non H
def spAsc : Sp := fun vs H Q _ => ∃ w : W, vs = [.str (tx w)] ∧ w ≠ [] ∧ w.length ≤ 1000 ∧ ∀ H', Same H H' → Q (.bl (ascB w)) H'
/-- no text -/
def NoText (K : Frag) (H : Hp) (v : V) : Prop := ∃ t, TyX K H v (.type t) ∧ PySem.W.kitOne K (.type t) (.type "str") = some false
def spIsWord (K : Frag) : Sp := fun vs H Q _ => ∃ v, vs = [v] ∧ ((∃ x, v = .str x ∧ Q (.bl (wordB x)) H) ∨ (NoText K H v ∧ Q (.bl false) H))
def spIsLet (K : Frag) : Sp := fun vs H Q _ => ∃ v, vs = [v] ∧ ((∃ x : Str, v = .str x ∧ x.length ≤ 1000 ∧ ∀ H', Same H H' → Q (.bl (letB x)) H') ∨ (NoText K H v ∧ Q (.bl false) H))
section
variable {P : Program} {w : World} {K : PySem.W.Frag} {mg : Str → Option Value} {base : Heap}
theorem scII : FnScope ["value"] ["value"] (defScope sIsInt) := ⟨rfl, rfl, rfl, by decide +kernel, rfl, by decide +kernel, by decide +kernel⟩
def spIsInt : Sp := fun vs H Q _ => ∃ i : Int, vs = [.int i] ∧ Q (.bl true) H
theorem ok_isint {f : Addr} {fd : FuncData} (F : Fun K "is_integer" "is_integer" sIsInt f fd) (T : TN mg) : FnOk P w K mg base CX0 1 f fd ["value"] spIsInt := by
  refine F.ok scII (fun vs H Q E h => ?_) (fun cdv A outer s H vs Q E hr h => ?_)
  · obtain ⟨i, rfl, _⟩ := h
    rfl
  · obtain ⟨i, rfl, q⟩ := h
    refine ⟨_, pss_one (ps_ret (pe_and (pe_callB call_isi (by rfl) T.isi (by decide +kernel) (pa_cons (pv 0) (pa_cons (pe_ty "int" T.int (by decide +kernel)) pa_nil)))
      (pe_one (pe_not (pe_callB call_isi (by rfl) T.isi (by decide +kernel) (pa_cons (pv 0) (pa_cons (pe_ty "bool" T.bool (by decide +kernel)) pa_nil))))))), ?_⟩
    refine ⟨_, rfl, _, _, _, _, true, rfl, .ty "int", .base (.int _), kit_ty (by decide +kernel), true, rfl, ?_⟩
    exact ⟨_, rfl, _, _, _, _, false, rfl, .ty "bool", .base (.int _), kit_ty (by decide +kernel), false, rfl, q⟩
theorem scIN : FnScope ["value", "least", "most"] ["value", "least", "most"] (defScope sIsNum) := ⟨rfl, rfl, rfl, by decide +kernel, rfl, by decide +kernel, by decide +kernel⟩
theorem ok_isnum {f g : Addr} {fd gd : FuncData} (F : Fun K "is_number" "is_number" sIsNum f fd) (T : TN mg) (A0 : Fn K mg "is_integer" sIsInt ["value"] g gd) : FnOk P w K mg base CX0 2 f fd ["value", "least", "most"] spIsNum := by
  have G0 : FnOk P w K mg base CX0 1 g gd ["value"] spIsInt := ok_isint A0.F T
  refine F.ok scIN (fun vs H Q E h => ?_) (fun cdv A outer s H vs Q E hr h => ?_)
  · obtain ⟨i, a, b, rfl, _⟩ := h
    rfl
  · obtain ⟨i, a, b, rfl, q⟩ := h
    refine ⟨_, pss_one (ps_ret (pe_and (pe_call G0 hr rfl A0.g A0.F.kp A0.b .nil pass0 (pa_cons (pv 0) pa_nil)) (pe_one (pe_chain op_le op_le (pv 1) (pv 0) (pv 2))))), ?_⟩
    refine ⟨_, rfl, i, rfl, true, rfl, ?_⟩
    refine ⟨_, rfl, _, rfl, _, _, rfl, rfl, _, rfl, ?_⟩
    by_cases h1 : a ≤ i
    · rw [decide_eq_true h1] at q ⊢
      exact ⟨_, rfl, _, _, rfl, rfl, q⟩
    · rw [decide_eq_false h1] at q ⊢
      exact q
theorem scNN : FnScope ["value", "least", "most"] ["value", "least", "most"] (defScope sNeedNum) := ⟨rfl, rfl, rfl, by decide +kernel, rfl, by decide +kernel, by decide +kernel⟩
theorem ok_neednum {f g e : Addr} {fd gd ed : FuncData} (F : Fun K "need_number" "need_number" sNeedNum f fd) (T : TN mg) (A0 : Fn K mg "is_integer" sIsInt ["value"] e ed) (A1 : Fn K mg "is_number" sIsNum ["value", "least", "most"] g gd) : FnOk P w K mg base CX0 3 f fd ["value", "least", "most"] spNeedNum := by
  have G1 : FnOk P w K mg base CX0 2 g gd _ spIsNum := ok_isnum A1.F T A0
  refine F.ok scNN (fun vs H Q E h => ?_) (fun cdv A outer s H vs Q E hr h => ?_)
  · obtain ⟨i, a, b, rfl, _⟩ := h
    rfl
  · obtain ⟨i, a, b, rfl, h1, h2, q⟩ := h
    refine ⟨_, pss_one (ps_if (pt_not (pt_val (pe_call G1 hr rfl A1.g A1.F.kp A1.b .nil pass0 (pa_cons (pv 0) (pa_cons (pv 1) (pa_cons (pv 2) pa_nil)))))) (pss_one ps_never) pss_nil), ?_⟩
    refine ⟨_, rfl, _, rfl, _, rfl, _, _, _, rfl, _, rfl, ?_⟩
    rw [decide_eq_true h1, decide_eq_true h2]
    exact q
theorem scAs : FnScope ["values", "at"] ["values"] (defScope sAsc) := ⟨rfl, rfl, rfl, by decide +kernel, rfl, by decide +kernel, by decide +kernel⟩
theorem lt_one (a b : Nat) : decide ((sg a).cps.toList < (sg b).cps.toList) = decide (a < b) := by
  rw [← ltCps_eq, TX.lt_sg]
/-- each less than the next -/
def adj (w : W) (i : Nat) : Bool := decide (w.getD i 0 < w.getD (i + 1) 0)
theorem adj_asc : ∀ (w : W), w ≠ [] → ((List.range (w.length - 1)).map (adj w)).all id = ascB w
  | [], h => absurd rfl h
  | [a], _ => by simp [ascB]
  | a :: b :: r, _ => by
    have ih := adj_asc (b :: r) (by simp)
    have e : (a :: b :: r).length - 1 = (b :: r).length - 1 + 1 := by simp
    rw [e, List.range_succ_eq_map, List.map_cons, List.all_cons, List.map_map]
    have e2 : (adj (a :: b :: r) ∘ Nat.succ) = adj (b :: r) := by
      funext i
      rfl
    rw [e2, ih]
    show (decide (a < b) && ascB (b :: r)) = ascB (a :: b :: r)
    unfold ascB
    rw [← Bool.decide_and]
    apply decide_eq_decide.mpr
    rw [List.pairwise_cons (a := a)]
    constructor
    · rintro ⟨h1, h2⟩
      refine ⟨fun y hy => ?_, h2⟩
      rcases List.mem_cons.mp hy with z | z
      · omega
      · have := (List.pairwise_cons.mp h2).1 y z
        omega
    · rintro ⟨h1, h2⟩
      exact ⟨h1 b List.mem_cons_self, h2⟩
theorem ok_asc {f : Addr} {fd : FuncData} (F : Fun K "ascends" "ascends" sAsc f fd) (T : TN mg) : FnOk P w K mg base CX0 1 f fd ["values"] spAsc := by
  refine F.ok scAs (fun vs H Q E h => ?_) (fun cdv A outer s H vs Q E hr h => ?_)
  · obtain ⟨w, rfl, _⟩ := h
    rfl
  · obtain ⟨w, rfl, hne, hl, q⟩ := h
    have hpos := List.length_pos_iff.mpr hne
    refine ⟨_, pss_one (ps_ret (pe_callB (cr_all rfl) (by rfl) T.all (by decide +kernel) (pa_cons (pe_lc (own := [("at", 1)]) (g := gName 1) (tt := tYes) rfl scAs.nd
      (pi_range1 rfl T.rng (pa_cons (pe_op op_sub (pe_callB call_len_str (by rfl) T.len PySem.boot_len (pa_cons (pv 0) pa_nil)) pe_int) pa_nil))
      (blkOk_by (own := [("at", 1)]) (N := ["values", "at"]) (sc := defScope sAsc) (by decide +kernel)) (fun _ _ _ _ _ => pg_name (i := 1) scAs.nd rfl (Or.inl rfl)) (fun _ _ _ _ _ => pts_nil)
      (fun _ _ _ _ _ => pe_cmpR op_lt_str (pe_ix ix_str (pv 0) (pv 1) (fun _ _ => rfl)) (pe_ix ix_str (pv 0) (pe_op op_add (pv 1) pe_int) (fun _ _ => rfl)) (nomark _))) pa_nil))), ?_⟩
    refine ⟨_, rfl, _, rfl, ?_, _, _, rfl, rfl, _, rfl, ?_, ?_, fun D hD => ?_⟩
    · rw [tx_len, sizeLine_eq]; omega
    · rw [tx_len]; omega
    · rw [tx_len]; omega
    · rw [tx_len]
      have e1 : ((w.length : Int) - 1) = ((w.length - 1 : Nat) : Int) := by omega
      rw [e1]
      refine lc_range (lo := 0) (n := w.length - 1) (fun i H1 => Same H H1 ∧ H1 D = some (.lst (((List.range i).map (adj w)).map V.bl))) ?_ ?_ ?_
      · exact ⟨same_upd hD, upd_same⟩
      · rintro i H1 hi ⟨s1, hd⟩
        have hz : (tx w).length ≤ sizeLine := by rw [tx_len, sizeLine_eq]; omega
        have at1 : atI (tx w).cps.toList (0 + (i : Int)) = some (w.getD i 0) := by
          rw [tx_list, Int.zero_add]
          exact atI_nat (by rw [List.getD_eq_getElem?_getD, List.getElem?_eq_getElem (by omega)] <;> rfl)
        have at2 : atI (tx w).cps.toList (0 + (i : Int) + 1) = some (w.getD (i + 1) 0) := by
          have e2 : (0 + (i : Int) + 1) = ((i + 1 : Nat) : Int) := by omega
          rw [tx_list, e2]
          exact atI_nat (by rw [List.getD_eq_getElem?_getD, List.getElem?_eq_getElem (by omega)] <;> rfl)
        refine ⟨rfl, _, rfl, _, rfl, _, _, w.getD i 0, rfl, rfl, hz, at1, _, rfl, _, rfl, _, _, rfl, rfl, _, _, w.getD (i + 1) 0, rfl, rfl, hz, at2, _, _, rfl, rfl, _, hd, ?_, same_at s1 hD, ?_⟩
        · rw [List.length_map, List.length_map, List.length_range, sizeLine_eq]
          omega
        · have e3 := lt_one (w.getD i 0) (w.getD (i + 1) 0)
          rw [e3, upd_same, List.range_succ, List.map_append, List.map_append] <;> rfl
      · rintro H1 ⟨s1, hd⟩
        refine ⟨D, _, rfl, SqL.of hd, ?_⟩
        rw [adj_asc w hne]
        exact q _ s1
theorem scIW : FnScope ["value"] ["value"] (defScope sIsWord) := ⟨rfl, rfl, rfl, by decide +kernel, rfl, by decide +kernel, by decide +kernel⟩
theorem ok_isword {f : Addr} {fd : FuncData} (F : Fun K "is_word" "is_word" sIsWord f fd) (T : TN mg) : FnOk P w K mg base CX0 1 f fd ["value"] (spIsWord K) := by
  refine F.ok scIW (fun vs H Q E h => ?_) (fun cdv A outer s H vs Q E hr h => ?_)
  · obtain ⟨v, rfl, _⟩ := h
    rfl
  · obtain ⟨v, rfl, h⟩ := h
    refine ⟨_, pss_cons (ps_if (pt_not (pt_val (pe_callB call_isi (by rfl) T.isi (by decide +kernel) (pa_cons (pv 0) (pa_cons (pe_ty "str" T.str (by decide +kernel)) pa_nil))))) (pss_one (ps_ret pe_bl)) pss_nil)
      (pss_one (ps_ret (pe_or (pe_cmpR op_eq (pv 0) pe_str (nomark _))
        (pe_one (pe_and (pe_m0 PySem.F.slot_str_isascii PySem.F.type_str_isascii mt_isascii (pv 0))
          (pe_and (pe_m0 PySem.F.slot_str_isalpha PySem.F.type_str_isalpha mt_isalpha (pv 0)) (pe_one (pe_m0 PySem.F.slot_str_islower PySem.F.type_str_islower mt_islower (pv 0))))))))), ?_⟩
    rcases h with ⟨x, rfl, q⟩ | ⟨⟨t, ty, hk⟩, q⟩
    · refine ⟨_, rfl, _, _, _, _, true, rfl, .ty "str", .base (.str _), kit_ty (by decide +kernel), true, rfl, ?_⟩
      refine ⟨_, rfl, rfl, _, rfl, ?_⟩
      unfold wordB at q
      by_cases h1 : x = ""
      · rw [if_pos h1] at q
        rw [if_pos (decide_eq_true (by rw [h1]))]
        exact q
      · rw [if_neg h1] at q
        rw [if_neg (fun z => h1 (V.str.inj (of_decide_eq_true z)))]
        refine ⟨_, rfl, ⟨_, rfl⟩, _, rfl, rfl, trivial, _, rfl, ?_⟩
        by_cases h2 : Txt.isascii x = true
        · rw [if_pos h2] at q ⊢
          refine ⟨_, rfl, ⟨_, rfl⟩, _, rfl, rfl, trivial, _, rfl, ?_⟩
          by_cases h3 : Txt.isalpha x = true
          · rw [if_pos h3] at q ⊢
            exact ⟨_, rfl, ⟨_, rfl⟩, _, rfl, rfl, trivial, q⟩
          · rw [if_neg h3] at q ⊢
            exact q
        · rw [if_neg h2] at q ⊢
          exact q
    · refine ⟨_, rfl, _, _, _, _, false, rfl, .ty "str", ty, hk, false, rfl, ?_⟩
      exact q
theorem scIL : FnScope ["value"] ["value"] (defScope sIsLet) := ⟨rfl, rfl, rfl, by decide +kernel, rfl, by decide +kernel, by decide +kernel⟩
theorem ok_islet {f g h : Addr} {fd gd hd : FuncData} (F : Fun K "is_letters" "is_letters" sIsLet f fd) (T : TN mg) (A1 : Fn K mg "is_word" sIsWord ["value"] g gd) (A2 : Fn K mg "ascends" sAsc ["values"] h hd) : FnOk P w K mg base CX0 2 f fd ["value"] (spIsLet K) := by
  have G1 : FnOk P w K mg base CX0 1 g gd _ (spIsWord K) := ok_isword A1.F T
  have G2 : FnOk P w K mg base CX0 1 h hd _ spAsc := ok_asc A2.F T
  obtain ⟨tM, hM⟩ := T.most
  refine F.ok scIL (fun vs H Q E h => ?_) (fun cdv A outer s H vs Q E hr h => ?_)
  · obtain ⟨v, rfl, _⟩ := h
    rfl
  · obtain ⟨v, rfl, h⟩ := h
    refine ⟨_, pss_one (ps_ret (pe_and (pe_call G1 hr rfl A1.g A1.F.kp A1.b .nil pass0 (pa_cons (pv 0) pa_nil))
      (pe_and (pe_chain op_le op_le pe_int (pe_callB call_len_str (by rfl) T.len PySem.boot_len (pa_cons (pv 0) pa_nil)) (pe_glob rfl hM (show RelV (.int 3) (.int 3 tM) from ⟨tM, rfl⟩)))
        (pe_one (pe_call G2 hr rfl A2.g A2.F.kp A2.b .nil pass0 (pa_cons (pv 0) pa_nil)))))), ?_⟩
    rcases h with ⟨x, rfl, hx, q⟩ | ⟨hn, q⟩
    · unfold letB at q
      refine ⟨_, rfl, _, rfl, .inl ⟨x, rfl, ?_⟩⟩
      refine ⟨_, rfl, ?_⟩
      by_cases h1 : wordB x = true
      · rw [if_pos h1]
        rw [h1] at q
        have hz : x.length ≤ sizeLine := by rw [sizeLine_eq]; omega
        refine ⟨_, rfl, _, rfl, hz, _, _, rfl, rfl, _, rfl, ?_⟩
        by_cases h2 : 1 ≤ x.length
        · have h2' : ((1 : Int) ≤ (x.length : Int)) := by omega
          rw [if_pos (decide_eq_true h2')]
          refine ⟨_, _, rfl, rfl, _, rfl, ?_⟩
          by_cases h3 : x.length ≤ 3
          · have h3' : ((x.length : Int) ≤ 3) := by omega
            rw [if_pos (decide_eq_true h3')]
            rw [decide_eq_true h2, decide_eq_true h3] at q
            refine ⟨_, rfl, x.cps.toList, (by rw [tx_of]; rfl), ?_, ?_, fun H' s1 => q H' s1⟩
            · intro z
              have : x.cps.toList.length = x.length := Array.length_toList
              rw [z] at this
              have h0 : x.length = 0 := this.symm
              omega
            · have : x.cps.toList.length = x.length := Array.length_toList
              omega
          · have h3' : ¬ ((x.length : Int) ≤ 3) := by omega
            rw [decide_eq_true h2, decide_eq_false h3] at q
            rw [if_neg (fun z => h3' (of_decide_eq_true z))]
            exact q _ (Same.refl _)
        · have h2' : ¬ ((1 : Int) ≤ (x.length : Int)) := by omega
          rw [if_neg (fun z => h2' (of_decide_eq_true z))]
          rw [decide_eq_false h2] at q
          exact ⟨_, rfl, q _ (Same.refl _)⟩
      · have h1' : wordB x = false := eq_false_of_ne_true h1
        rw [if_neg h1]
        rw [h1'] at q
        exact q _ (Same.refl _)
    · refine ⟨_, rfl, _, rfl, .inr ⟨hn, ?_⟩⟩
      exact ⟨_, rfl, q⟩
def spOver : Sp := fun vs H Q _ => ∃ L u : W, vs = [.str (tx L), .str (tx u)] ∧ u.length < 64 ∧ (∀ c ∈ u, c ∈ L) ∧ ∀ H', Same H H' → Q (.bl true) H'
def spNeedOver : Sp := fun vs H Q _ => ∃ L u : W, vs = [.str (tx L), .str (tx u)] ∧ u.length < 64 ∧ (∀ c ∈ u, c ∈ L) ∧ ∀ H', Same H H' → Q .non H'
def spNeedWord : Sp := fun vs H Q _ => ∃ u : W, vs = [.str (tx u)] ∧ Low u ∧ Q .non H
def spNeedLet : Sp := fun vs H Q _ => ∃ L : W, vs = [.str (tx L)] ∧ Let L ∧ ∀ H', Same H H' → Q .non H'
theorem scIO : FnScope ["letters", "word", "letter"] ["letters", "word"] (defScope sIsOver) := ⟨rfl, rfl, rfl, by decide +kernel, rfl, by decide +kernel, by decide +kernel⟩
theorem size_tx (u : W) : (tx u).cps.size = u.length := List.size_toArray
theorem all_true : ∀ n : Nat, ((List.replicate n true).all id) = true
  | 0 => rfl
  | n + 1 => by rw [List.replicate_succ, List.all_cons, all_true n] <;> rfl
theorem ok_over {f : Addr} {fd : FuncData} (F : Fun K "is_over" "is_over" sIsOver f fd) (T : TN mg) : FnOk P w K mg base CX0 1 f fd ["letters", "word"] spOver := by
  refine F.ok scIO (fun vs H Q E h => ?_) (fun cdv A outer s H vs Q E hr h => ?_)
  · obtain ⟨L, u, rfl, _⟩ := h
    rfl
  · obtain ⟨L, u, rfl, hu, hL, q⟩ := h
    refine ⟨_, pss_one (ps_ret (pe_callB (cr_all rfl) (by rfl) T.all (by decide +kernel) (pa_cons (pe_lc (own := [("letter", 2)]) (g := gName 2) (tt := tYes) rfl scIO.nd
      (pi_list (pe_callB (TX.cr_sortX rfl) (by rfl) T.sorted (by decide +kernel) (pa_cons (pe_callTy (TX.call_setX rfl) (by rfl) T.set (by decide +kernel) (pa_cons (pv 1) pa_nil)) pa_nil)))
      (blkOk_by (own := [("letter", 2)]) (N := ["letters", "word", "letter"]) (sc := defScope sIsOver) (by decide +kernel)) (fun _ _ _ _ _ => pg_name (i := 2) scIO.nd rfl (Or.inl rfl)) (fun _ _ _ _ _ => pts_nil)
      (fun _ _ _ _ _ => pe_cmpR op_in_sign (pv 2) (pv 0) rfl)) pa_nil))), ?_⟩
    have hz : (tx u).cps.size < 64 := by rw [size_tx]; exact hu
    refine ⟨_, rfl, tx u, rfl, hz, fun a o ha ho => ?_⟩
    refine ⟨a, tx u, o, rfl, upd_same, ho, hz, fun p hp => ?_⟩
    rw [tx_list]
    refine ⟨p, rfl, ⟨_, SqL.of upd_same⟩, fun D hD => ?_⟩
    have sp : Same H (upd (upd H a o) p (.lst ((sigs u).map fun c => V.str (sg c)))) := same_two (same_upd ha) hp
    have hq : (upd (upd H a o) p (.lst ((sigs u).map fun c => V.str (sg c)))) p = some (.lst ((sigs u).map fun c => V.str (sg c))) := upd_same
    generalize upd (upd H a o) p (.lst ((sigs u).map fun c => V.str (sg c))) = G at sp hq hD ⊢
    refine lc_list (xs := (sigs u).map fun c => V.str (sg c)) (fun i H1 => Same G H1 ∧ H1 D = some (.lst ((List.replicate i true).map V.bl))) ⟨same_upd hD, upd_same⟩ (fun i H1 _ ⟨s1, _⟩ => SqL.of (s1 _ _ hq)) ?_ ?_
    · rintro i x H1 hx ⟨s1, hd⟩
      rw [List.getElem?_map] at hx
      cases hc : (sigs u)[i]? with
      | none => rw [hc] at hx; cases hx
      | some c =>
        rw [hc] at hx
        obtain rfl : V.str (sg c) = x := Option.some.inj hx
        have hm : c ∈ sigs u := List.mem_of_getElem? hc
        have hi : i < (sigs u).length := (List.getElem?_eq_some_iff.mp hc).1
        have hi2 := TX.len_sigs u
        refine ⟨rfl, _, rfl, _, rfl, c, tx L, rfl, rfl, _, hd, ?_, same_at s1 hD, ?_⟩
        · rw [List.length_map, List.length_replicate, sizeLine_eq]
          omega
        · have e : c ∈ (tx L).cps.toList := by rw [tx_list]; exact hL c ((TX.mem_sigs c u).mp hm)
          rw [decide_eq_true e, upd_same, List.replicate_succ', List.map_append] <;> rfl
    · rintro H1 ⟨s1, hd⟩
      refine ⟨D, _, rfl, SqL.of hd, ?_⟩
      rw [all_true]
      exact q _ (sp.trans s1)
theorem scNL : FnScope ["letters"] ["letters"] (defScope sNeedLet) := ⟨rfl, rfl, rfl, by decide +kernel, rfl, by decide +kernel, by decide +kernel⟩
theorem ok_needlet {f g : Addr} {fd gd : FuncData} (F : Fun K "need_letters" "need_letters" sNeedLet f fd) (A1 : Fn K mg "is_letters" sIsLet ["value"] g gd) (G1 : FnOk P w K mg base CX0 2 g gd ["value"] (spIsLet K)) : FnOk P w K mg base CX0 3 f fd ["letters"] spNeedLet := by
  refine F.ok scNL (fun vs H Q E h => ?_) (fun cdv A outer s H vs Q E hr h => ?_)
  · obtain ⟨L, rfl, _⟩ := h
    rfl
  · obtain ⟨L, rfl, hL, q⟩ := h
    refine ⟨_, pss_one (ps_if (pt_not (pt_val (pe_call G1 hr rfl A1.g A1.F.kp A1.b .nil pass0 (pa_cons (pv 0) pa_nil)))) (pss_one ps_never) pss_nil), ?_⟩
    refine ⟨_, rfl, _, rfl, .inl ⟨tx L, rfl, ?_, fun H' s1 => ⟨_, rfl, ?_⟩⟩⟩
    · rw [tx_len]
      have := hL.few
      omega
    · rw [letB_let hL]
      exact q _ s1
theorem scNW : FnScope ["word"] ["word"] (defScope sNeedWord) := ⟨rfl, rfl, rfl, by decide +kernel, rfl, by decide +kernel, by decide +kernel⟩
theorem ok_needword {f g : Addr} {fd gd : FuncData} (F : Fun K "need_word" "need_word" sNeedWord f fd) (A1 : Fn K mg "is_word" sIsWord ["value"] g gd) (G1 : FnOk P w K mg base CX0 1 g gd ["value"] (spIsWord K)) : FnOk P w K mg base CX0 2 f fd ["word"] spNeedWord := by
  refine F.ok scNW (fun vs H Q E h => ?_) (fun cdv A outer s H vs Q E hr h => ?_)
  · obtain ⟨L, rfl, _⟩ := h
    rfl
  · obtain ⟨u, rfl, hu, q⟩ := h
    refine ⟨_, pss_one (ps_if (pt_not (pt_val (pe_call G1 hr rfl A1.g A1.F.kp A1.b .nil pass0 (pa_cons (pv 0) pa_nil)))) (pss_one ps_never) pss_nil), ?_⟩
    refine ⟨_, rfl, _, rfl, .inl ⟨tx u, rfl, _, rfl, ?_⟩⟩
    rw [wordB_low hu]
    exact q
theorem scNO : FnScope ["letters", "word"] ["letters", "word"] (defScope sNeedOver) := ⟨rfl, rfl, rfl, by decide +kernel, rfl, by decide +kernel, by decide +kernel⟩
theorem ok_needover {f g : Addr} {fd gd : FuncData} (F : Fun K "need_over" "need_over" sNeedOver f fd) (A1 : Fn K mg "is_over" sIsOver ["letters", "word"] g gd) (G1 : FnOk P w K mg base CX0 1 g gd ["letters", "word"] spOver) : FnOk P w K mg base CX0 2 f fd ["letters", "word"] spNeedOver := by
  refine F.ok scNO (fun vs H Q E h => ?_) (fun cdv A outer s H vs Q E hr h => ?_)
  · obtain ⟨L, u, rfl, _⟩ := h
    rfl
  · obtain ⟨L, u, rfl, hu, hL, q⟩ := h
    refine ⟨_, pss_one (ps_if (pt_not (pt_val (pe_call G1 hr rfl A1.g A1.F.kp A1.b .nil pass0 (pa_cons (pv 0) (pa_cons (pv 1) pa_nil))))) (pss_one ps_never) pss_nil), ?_⟩
    exact ⟨_, rfl, _, rfl, L, u, rfl, hu, hL, fun H' s1 => ⟨_, rfl, q _ s1⟩⟩
end
end WK
set_option Elab.async false
set_option linter.all false
set_option maxRecDepth 100000
set_option maxHeartbeats 8000000
namespace WK
open PySem L2 PyProof.Rows K1
open TX (sg sigs)
open Walks
open PySem.W (Frag kitOne)
abbrev sCounts : Stmt := top 39
def spCounts : Sp := fun vs H Q _ => ∃ L u : W, vs = [.str (tx L), .str (tx u)] ∧ Let L ∧ Low u ∧ u.length < 64 ∧ (∀ c ∈ u, c ∈ L) ∧ ∀ t H', H t = none → Same H H' → H' t = some (.tup (L.map fun c => .int (u.count c : Int))) → Q (.ref t) H'
section
variable {P : Program} {w : World} {K : PySem.W.Frag} {mg : Str → Option Value} {base : Heap}
variable {fNL fNW fNO fNN : Addr} {dNL dNW dNO dNN : FuncData}
theorem scCo : FnScope ["letters", "word", "letter"] ["letters", "word"] (defScope sCounts) := ⟨rfl, rfl, rfl, by decide +kernel, rfl, by decide +kernel, by decide +kernel⟩
theorem ok_counts {f : Addr} {fd : FuncData} (F : Fun K "counts" "counts" sCounts f fd) (T : TN mg) (AL : Fn K mg "need_letters" sNeedLet ["letters"] fNL dNL) (GL : FnOk P w K mg base CX0 3 fNL dNL ["letters"] spNeedLet)
    (AW : Fn K mg "need_word" sNeedWord ["word"] fNW dNW) (GW : FnOk P w K mg base CX0 2 fNW dNW ["word"] spNeedWord)
    (AO : Fn K mg "need_over" sNeedOver ["letters", "word"] fNO dNO) (GO : FnOk P w K mg base CX0 2 fNO dNO ["letters", "word"] spNeedOver) : FnOk P w K mg base CX0 4 f fd ["letters", "word"] spCounts := by
  refine F.ok scCo (fun vs H Q E h => ?_) (fun cdv A outer s H vs Q E hr h => ?_)
  · obtain ⟨L, u, rfl, _⟩ := h
    rfl
  · obtain ⟨L, u, rfl, hL, hu, hl, hc, q⟩ := h
    have hr2 : Room 2 _ := hr.mono (by decide)
    refine ⟨_, pss_cons (ps_expr (pe_call GL hr rfl AL.g AL.F.kp AL.b .nil pass0 (pa_cons (pv 0) pa_nil)))
      (pss_cons (ps_expr (pe_call GW hr2 rfl AW.g AW.F.kp AW.b .nil pass0 (pa_cons (pv 1) pa_nil)))
      (pss_cons (ps_expr (pe_call GO hr2 rfl AO.g AO.F.kp AO.b .nil pass0 (pa_cons (pv 0) (pa_cons (pv 1) pa_nil))))
      (pss_one (ps_ret (pe_callTy call_tuple_of (by rfl) T.tuple (by decide +kernel) (pa_cons (pe_lc (own := [("letter", 2)]) (g := gName 2) (tt := tYes) rfl scCo.nd (pi_str (pv 0))
        (blkOk_by (own := [("letter", 2)]) (N := ["letters", "word", "letter"]) (sc := defScope sCounts) (by decide +kernel)) (fun _ _ _ _ _ => pg_name (i := 2) scCo.nd rfl (Or.inl rfl)) (fun _ _ _ _ _ => pts_nil)
        (fun _ _ _ _ _ => pe_m1 PySem.F.slot_str_count PySem.F.type_str_count mt_count (pv 1) (pv 2))) pa_nil)))))), ?_⟩
    refine ⟨_, rfl, L, rfl, hL, fun H1 s1 => ⟨_, rfl, u, rfl, hu, _, rfl, _, rfl, L, u, rfl, hl, hc, fun H2 s2 => ?_⟩⟩
    refine ⟨_, rfl, tx L, rfl, fun D hD => ?_⟩
    have sz : (tx L).cps.size = L.length := size_tx L
    refine lc_it walk_str (fun i H3 => Same H2 H3 ∧ H3 D = some (.lst ((L.take i).map fun c => .int (u.count c : Int)))) ⟨same_upd hD, upd_same⟩ (fun _ _ _ _ => trivial) ?_ ?_
    · rintro i x H3 H4 hi ⟨s3, hd⟩ ⟨rfl, c, hx, rfl⟩
      have hx' : L[i]? = some c := by
        rw [← Array.getElem?_toList, tx_list] at hx
        exact hx
      refine ⟨rfl, _, rfl, ⟨_, rfl⟩, _, rfl, tx u, sg c, rfl, rfl, _, hd, ?_, same_at s3 hD, ?_⟩
      · rw [List.length_map, List.length_take, sizeLine_eq]
        have := hL.few
        omega
      · rw [count_tx, upd_same, List.take_add_one, hx', List.map_append] <;> rfl
    · rintro H3 ⟨s3, hd⟩
      rw [sz, List.take_length] at hd
      have sD : Same H H3 := s1.trans (s2.trans s3)
      exact ⟨D, _, rfl, .inl ⟨SqL.of hd, fun t ht => q t _ (sD.free ht) (same_two sD ht) upd_same⟩⟩
end
end WK
set_option Elab.async false
set_option linter.all false
set_option maxRecDepth 100000
set_option maxHeartbeats 8000000
namespace WK
open PySem L2 PyProof.Rows K1
open TX (sg sigs)
open PySem.W (Frag kitOne)
abbrev sMixed : Stmt := top 83
abbrev sLetters : Stmt := top 84
abbrev sLCounts : Stmt := top 91
abbrev sLAll : Stmt := top 92
theorem but_at {p a : Addr} {H H1 : Hp} {o : HO} (B : But p H H1) (h : H a = none) : But p H (upd H1 a o) := fun b u e n => by rw [upd_ne (ne_of_none e h)]; exact B b u e n
theorem but_two {p a : Addr} {H H1 : Hp} {o : HO} (B : But p H H1) (h : H1 a = none) : But p H (upd H1 a o) := B.trans (But.ofSame (same_upd h))
theorem DiceAt.keep {H H' : Hp} {p : Addr} (h : DiceAt H p) (k : ∀ o, H p = some o → H' p = some o) : DiceAt H' p := by
  obtain ⟨a, b, c, e, r⟩ := h
  exact ⟨a, b, c, k _ e, r⟩
theorem DiceAt.new {H : Hp} {p a : Addr} {o : HO} (h : DiceAt H p) (ha : H a = none) : DiceAt (upd H a o) p := h.keep fun _ e => same_upd ha _ _ e
theorem DiceAt.ne {H : Hp} {p a : Addr} (h : DiceAt H p) (ha : H a = none) : a ≠ p := fun z => by
  obtain ⟨_, _, _, e, _⟩ := h
  rw [← z, ha] at e
  cases e
theorem dp_strs {K : Frag} {H : Hp} : ∀ ys : List Str, DpAll K H (ys.map V.str) (ys.map PyData.str)
  | [] => .nil
  | y :: ys => .cons (.str y) (dp_strs ys)
theorem shaped_strs (ys : List Str) (h : ∀ y ∈ ys, PyData.canLay0 (.str y) = true) : SeqAt.shaped (.list (ys.map PyData.str)) = true ∧ SeqAt.shaped (.tuple (ys.map PyData.str)) = true := by
  have h1 : ∀ ys : List Str, (∀ y ∈ ys, PyData.canLay0 (.str y) = true) → PyData.canLayAll0 (ys.map PyData.str) = true := by
    intro ys
    induction ys with
    | nil => intro _; rfl
    | cons y ys ih =>
      intro h
      show (PyData.canLay0 (.str y) && PyData.canLayAll0 (ys.map PyData.str)) = true
      rw [h y List.mem_cons_self, ih fun z hz => h z (List.mem_cons_of_mem _ hz)] <;> rfl
  have h2 : ∀ ys : List Str, PyData.depthAll (ys.map PyData.str) = 0 := by
    intro ys
    induction ys with
    | nil => rfl
    | cons y ys ih =>
      show max (PyData.depth (.str y)) (PyData.depthAll (ys.map PyData.str)) = 0
      rw [ih] <;> rfl
  constructor
  · show (PyData.canLayAll0 _ && decide (PyData.depthAll _ + 1 ≤ 64)) = true
    rw [h1 ys h, h2 ys] <;> rfl
  · show (PyData.canLayAll0 _ && decide (PyData.depthAll _ + 1 ≤ 64)) = true
    rw [h1 ys h, h2 ys] <;> rfl
theorem eqv_nil (ys : List Str) : PyData.eqv (.list (ys.map PyData.str)) (.list []) = ys.isEmpty := by
  cases ys <;> rfl
theorem seqIx {i : Int} {n : Nat} (h0 : 0 ≤ i) (h1 : i < (n : Int)) : seqIndex? i n = some i.toNat := by
  unfold seqIndex?
  have e : ¬ i < 0 := by omega
  simp only [e, if_false]
  rw [decide_eq_true h0, decide_eq_true h1] <;> rfl
theorem map_erase {α β : Type} (f : α → β) : ∀ (xs : List α) (k : Nat), (xs.map f).eraseIdx k = (xs.eraseIdx k).map f
  | [], _ => rfl
  | _ :: _, 0 => rfl
  | x :: xs, k + 1 => by
    show f x :: (xs.map f).eraseIdx k = f x :: (xs.eraseIdx k).map f
    rw [map_erase f xs k]
def spMixed : Sp := fun vs H Q _ => ∃ (p q : Addr) (ys : List Str), vs = [.ref p, .ref q] ∧ DiceAt H p ∧ q ≠ p ∧ H q = some (.lst (ys.map V.str)) ∧ ys.length < 100 ∧ (∀ y ∈ ys, PyData.canLay0 (.str y) = true) ∧
  ∀ (r : Addr) (zs : List Str) (H' : Hp), zs.Perm ys → H r = none → DiceAt H' p → But p H H' → H' r = some (.lst (zs.map V.str)) → r ≠ p → Q (.ref r) H'
section
variable {P : Program} {w : World} {K : PySem.W.Frag} {mg : Str → Option Value} {base : Heap}
variable {fR fM fO : Addr} {dR dM dO : FuncData}
def muMix : L2.St → Hp → Nat := fun σ H => match σ with
  | [_, _, some (.ref l), _] => (match H l with | some (.lst xs) => xs.length | _ => 0)
  | _ => 0
theorem scMi : FnScope ["_law_dice_here", "_law_items", "_law_left", "_law_found"] ["_law_dice_here", "_law_items"] (defScope sMixed) := ⟨rfl, rfl, rfl, by decide +kernel, rfl, by decide +kernel, by decide +kernel⟩
theorem ok_mixed {f : Addr} {fd : FuncData} (F : Fun K "_law_mixed" "_law_mixed" sMixed f fd) (T : TN mg) (AR : Fn K mg "_law_roll" sRoll ["_law_dice_here", "_law_total"] fR dR) : FnOk P w K mg base CX0 2 f fd ["_law_dice_here", "_law_items"] spMixed := by
  have GR : FnOk P w K mg base CX0 1 fR dR ["_law_dice_here", "_law_total"] spRoll := ok_roll AR.F T.dice
  refine F.ok scMi (fun vs H Q E h => ?_) (fun cdv A outer s H vs Q E hr h => ?_)
  · obtain ⟨u, n, _, rfl, _⟩ := h
    rfl
  · obtain ⟨p, q, ys, rfl, hD, hqp, hq, hl, hy, qq⟩ := h

    refine ⟨_, pss_cons (ps_par (i := 2) (j := 3) (by rfl) scMi.nd rfl rfl (by decide) rfl rfl (pa_cons (pe_callTy call_list_of (by rfl) T.list (by decide +kernel) (pa_cons (pv 1) pa_nil)) (pa_cons (pe_lst pa_nil) pa_nil)) (by rfl))
      (pss_cons (ps_while PassesOwn.never (pt_cmpR (op_neD hr.units) (pv 2) (pe_lst pa_nil) (nomark _))
        (pss_one (ps_expr (pe_bm PySem.F.plainAttrs_list PySem.F.slot_list_append PySem.F.type_list_append mt_append (pv 3) (pa_cons
          (pe_bm PySem.F.plainAttrs_list PySem.F.slot_list_pop PySem.F.type_list_pop mt_popAt (pv 2) (pa_cons
            (pe_call GR hr rfl AR.g AR.F.kp AR.b .nil pass0 (pa_cons (pv 0) (pa_cons (pe_callB call_len_seq (by rfl) T.len PySem.boot_len (pa_cons (pv 2) pa_nil)) pa_nil))) pa_nil)) pa_nil)))))
      (pss_one (ps_ret (pv 3)))), ?_⟩
    refine ⟨_, rfl, q, _, rfl, .inl (SqL.of hq), fun l hl1 => ⟨(by show 0 ≤ sizeLine; decide), fun r hr1 => ⟨_, _, rfl, ?_⟩⟩⟩
    refine while_by (fun σ H1 => ∃ zs fs : List Str, σ = [some (.ref p), some (.ref q), some (.ref l), some (.ref r)] ∧ DiceAt H1 p ∧ But p H H1 ∧ H1 l = some (.lst (zs.map V.str)) ∧ H1 r = some (.lst (fs.map V.str)) ∧ (zs ++ fs).Perm ys) muMix ?_ ?_ ?_
    · exact ⟨ys, [], rfl, (hD.new hl1).new hr1, But.ofSame (same_two (same_upd hl1) hr1), same_upd hr1 _ _ upd_same, upd_same, by rw [List.append_nil]⟩
    · have nr : H r = none := (same_upd hl1).free hr1
      have lp := hD.ne hl1
      have rp := hD.ne nr
      have lr : l ≠ r := fun z => by rw [← z, upd_same] at hr1; cases hr1
      rintro σ H1 ⟨zs, fs, rfl, hD1, hB1, hz, hf, hp⟩
      have hzy : ∀ y ∈ zs, PyData.canLay0 (.str y) = true := fun y hm => hy y (hp.mem_iff.mp (List.mem_append_left _ hm))
      have hlen : zs.length + fs.length = ys.length := by rw [← List.length_append, hp.length_eq]
      refine ⟨_, rfl, (by show 0 ≤ sizeLine; decide), fun e he => ⟨.list (zs.map PyData.str), .list [], .lst (SqL.of (same_upd he _ _ hz)) (dp_strs zs), .lst (SqL.of upd_same) .nil, (shaped_strs zs hzy).1, by decide, _, rfl, ?_⟩⟩
      rw [eqv_nil]
      have eD := hD1.new he (o := .lst [])
      have eB : But p H (upd H1 e (.lst [])) := but_two hB1 he
      have ez := same_upd he (o := .lst []) _ _ hz
      have ef := same_upd he (o := .lst []) _ _ hf
      generalize upd H1 e (.lst []) = H2 at eD eB ez ef ⊢
      cases zs with
      | nil => exact ⟨_, rfl, qq r fs _ hp nr eD eB ef rp⟩
      | cons z zs =>
        have len : (((z :: zs).map V.str).length : Int) = (z :: zs).length := by rw [List.length_map]
        have len2 : (z :: zs).length < 100 := by omega
        have len3 : 0 < (z :: zs).length := Nat.succ_pos _
        refine ⟨_, rfl, .inl ⟨rfl, _, SqL.of ef⟩, _, rfl, .inl ⟨rfl, _, SqL.of ez⟩, _, rfl, _, rfl, l, _, rfl, .inl (SqL.of ez), p, _, rfl, eD, by rw [len]; omega, by rw [len]; omega, fun i H3 hi0 hi1 hD3 hB3 => ?_⟩
        rw [len] at hi1
        have hk : i.toNat < (z :: zs).length := by omega
        have hz3 := hB3 _ _ ez lp
        have hf3 := hB3 _ _ ef rp
        have hget : ((z :: zs).map V.str)[i.toNat]? = some (V.str (z :: zs)[i.toNat]) := by rw [List.getElem?_map, List.getElem?_eq_getElem hk] <;> rfl
        have hidx : seqIndex? i ((z :: zs).map V.str).length = some i.toNat := by
          exact seqIx hi0 (by rw [len]; exact hi1)
        refine ⟨l, _, i, i.toNat, _, rfl, rfl, hz3, by omega, by omega, hidx, hget, r, _, _, rfl, rfl, (by rw [upd_ne (Ne.symm lr)]; exact hf3), ?_, ?_, ?_⟩
        · rw [List.length_map, sizeLine_eq]
          omega
        · refine ⟨(z :: zs).eraseIdx i.toNat, fs ++ [(z :: zs)[i.toNat]], rfl, ?_, ?_, ?_, ?_, ?_⟩
          · exact hD3.keep fun o e => by rw [upd_ne (Ne.symm rp), upd_ne (Ne.symm lp)]; exact e
          · exact but_at (but_at (eB.trans hB3) hl1) nr
          · rw [upd_ne lr, upd_same, map_erase]
          · rw [upd_same, List.map_append] <;> rfl
          · refine List.Perm.trans ?_ hp
            have h1 := erase_perm (z :: zs) i.toNat _ (List.getElem?_eq_getElem hk)
            refine List.Perm.trans ?_ (h1.append_right fs)
            show List.Perm (_ ++ (fs ++ [_])) (_ :: (_ ++ fs))
            rw [← List.append_assoc]
            exact List.perm_append_singleton _ _
        · show (match (upd (upd H3 l _) r _) l with | some (.lst xs) => xs.length | _ => 0) < (match H1 l with | some (.lst xs) => xs.length | _ => 0)
          rw [upd_ne lr, upd_same, hz]
          show (((z :: zs).map V.str).eraseIdx i.toNat).length < ((z :: zs).map V.str).length
          rw [List.length_eraseIdx, if_pos (by rw [List.length_map]; exact hk), List.length_map]
          omega
    · exact fun σ H Q Q' hm ⟨v, hv, hl, h⟩ => ⟨v, hv, hl, fun l hl' => let ⟨d, e, a, b, c, dd, k, hk, q⟩ := h l hl'; ⟨d, e, a, b, c, dd, k, hk, hm _ _ q⟩⟩
end
end WK
set_option Elab.async false
set_option linter.all false
set_option maxRecDepth 100000
set_option maxHeartbeats 8000000
namespace WK
open PySem L2 PyProof.Rows K1
open TX (sg sigs)
open PySem.W (Frag kitOne)
theorem but_free {p a : Addr} {H H1 : Hp} (B : But p H H1) (ha : H1 a = none) (hne : a ≠ p) : H a = none := by
  cases e : H a with
  | none => rfl
  | some o => rw [B a o e hne] at ha; cases ha
theorem flat_one (us : W) : (us.map fun c => [c]).flatten = us := by
  induction us with
  | nil => rfl
  | cons c us ih => rw [List.map_cons, List.flatten_cons, ih] <;> rfl
theorem join_sg (us : W) : Txt.join (tx []) (us.map sg) = tx us := by
  have e : us.map sg = (us.map fun c => [c]).map tx := by rw [List.map_map] <;> rfl
  rw [e, join_eq0, flat_one]
theorem sum_sg (us : W) : ((us.map sg).map (·.length)).sum = us.length := by
  induction us with
  | nil => rfl
  | cons c us ih =>
    rw [List.map_cons, List.map_cons, List.sum_cons, ih, List.length_cons]
    show 1 + us.length = us.length + 1
    omega
theorem cut_take {α : Type} (f : α → V) (zs : List α) (n : Nat) : cutV (zs.map f) none (some (n : Int)) = (zs.take n).map f := by
  unfold cutV
  have h1 : HT.sIx (zs.map f).length 0 none = 0 := rfl
  have h2 : HT.sIx (zs.map f).length (zs.map f).length (some (n : Int)) = min n zs.length := by
    unfold HT.sIx
    simp
    try omega
  rw [h1, h2, List.drop_zero, Nat.sub_zero, List.map_take]
  by_cases h : n ≤ zs.length
  · rw [Nat.min_eq_left h]
  · rw [Nat.min_eq_right (by omega), List.take_of_length_le (by rw [List.length_map]; exact Nat.le_refl _), List.take_of_length_le (by rw [List.length_map]; omega)]
def six : W := [97, 98, 100, 109, 114, 120]
theorem six_is : ("abdmrx" : Str) = tx six := by decide +kernel
def spLetters : Sp := fun vs H Q _ => ∃ (p : Addr) (n : Int), vs = [.ref p, .int n] ∧ DiceAt H p ∧ 1 ≤ n ∧ n ≤ 3 ∧ ∀ (L : W) (H' : Hp), Let L → (L.length : Int) = n → DiceAt H' p → But p H H' → Q (.str (tx L)) H'
section
variable {P : Program} {w : World} {K : PySem.W.Frag} {mg : Str → Option Value} {base : Heap}
variable {fR fM fO : Addr} {dR dM dO : FuncData}
theorem scLe : FnScope ["_law_dice_here", "_law_total"] ["_law_dice_here", "_law_total"] (defScope sLetters) := ⟨rfl, rfl, rfl, by decide +kernel, rfl, by decide +kernel, by decide +kernel⟩
theorem ok_letters {f : Addr} {fd : FuncData} (F : Fun K "_law_letters" "_law_letters" sLetters f fd) (T : TN mg) (AM : Fn K mg "_law_mixed" sMixed ["_law_dice_here", "_law_items"] fM dM) (GM : FnOk P w K mg base CX0 2 fM dM ["_law_dice_here", "_law_items"] spMixed) : FnOk P w K mg base CX0 3 f fd ["_law_dice_here", "_law_total"] spLetters := by
  refine F.ok scLe (fun vs H Q E h => ?_) (fun cdv A outer s H vs Q E hr h => ?_)
  · obtain ⟨u, n, rfl, _⟩ := h
    rfl
  · obtain ⟨p, n, rfl, hD, h1, h3, q⟩ := h
    refine ⟨_, pss_one (ps_ret (pe_join pe_str (pe_callB cr_sortedS (by rfl) T.sorted (by decide +kernel) (pa_cons (pe_slice sl_list
      (pe_call GM hr rfl AM.g AM.F.kp AM.b .nil pass0 (pa_cons (pv 0) (pa_cons (pe_callTy (TX.call_listX rfl) (by rfl) T.list (by decide +kernel) (pa_cons pe_str pa_nil)) pa_nil))) po_none (po_some (pv 1))) pa_nil)))), ?_⟩
    have e0 : (tx six).cps.toList.map (fun c => V.str (sg c)) = (six.map sg).map V.str := by rw [tx_list, List.map_map] <;> rfl
    refine ⟨⟨_, rfl⟩, _, rfl, "abdmrx", rfl, by decide +kernel, fun l hl => ?_⟩
    rw [six_is, e0]
    have lp := hD.ne hl
    refine ⟨p, l, six.map sg, rfl, hD.new hl, lp, upd_same, by decide, by decide +kernel, fun r zs H' hz hr1 hD' hB' hr2 hrp => ?_⟩
    have nr : H r = none := (same_upd hl).free hr1
    have B2 : But p H H' := (But.ofSame (same_upd hl)).trans hB'
    refine ⟨_, rfl, n, rfl, r, _, rfl, SqL.of hr2, fun t ht => ?_⟩
    have en : n = ((n.toNat : Nat) : Int) := by omega
    have zl : zs.length = 6 := hz.length_eq
    rw [en, cut_take]
    refine ⟨t, zs.take n.toNat, rfl, SqL.of upd_same, by rw [List.length_take]; omega, fun ys d hp hs hd => ?_⟩
    -- the letters
    have allz : ∀ x ∈ zs, ∃ c, x = sg c ∧ c ∈ six := fun x hx => by
      obtain ⟨c, hc, e⟩ := List.mem_map.mp (hz.mem_iff.mp hx)
      exact ⟨c, e.symm, hc⟩
    have ally : ∀ x ∈ ys, ∃ c, x = sg c ∧ c ∈ six := fun x hx => allz x (List.mem_of_mem_take (hp.mem_iff.mp hx))
    have ey : ys = (ys.map TX.hd1).map sg := TX.all_sg ys fun x hx => let ⟨c, e, _⟩ := ally x hx; ⟨c, e⟩
    have nz : zs.Nodup := hz.nodup_iff.mpr (by decide)
    have ny : ys.Nodup := hp.nodup_iff.mpr (nz.sublist (List.take_sublist _ _))
    have lenL : (ys.map TX.hd1).length = n.toNat := by
      rw [List.length_map, hp.length_eq, List.length_take]
      omega
    have hL : Let (ys.map TX.hd1) := by
      refine ⟨fun c hc => ?_, ?_, fun z => ?_, by omega⟩
      · obtain ⟨x, hx, e⟩ := List.mem_map.mp hc
        obtain ⟨c', rfl, hc'⟩ := ally x hx
        have : c' = c := e
        rw [← this]
        have h6 : ∀ c ∈ six, 97 ≤ c ∧ c ≤ 122 := by decide
        exact h6 _ hc'
      · rw [ey] at hs ny
        refine TX.lt_of_le _ (TX.sorted_le _ hs) ((List.pairwise_map.mp ny).imp fun h q => h (by rw [q]))
      · rw [z] at lenL
        have : (0 : Nat) = n.toNat := lenL
        omega
    have ey2 : ys.map V.str = ((ys.map TX.hd1).map sg).map V.str := by rw [← ey]
    refine ⟨tx [], d, (ys.map TX.hd1).map sg, rfl, rfl, .inl (SqL.of (by rw [upd_same, ← ey])), ?_, ?_⟩
    · rw [sum_sg]
      show (ys.map TX.hd1).length + _ * 0 ≤ _
      omega
    · rw [join_sg]
      exact q _ _ hL (by rw [lenL]; omega) ((hD'.new ht).new hd) (but_two (but_two B2 ht) hd)
end
end WK
set_option Elab.async false
set_option linter.all false
set_option maxRecDepth 100000
set_option maxHeartbeats 6000000
namespace LCX
open PySem L2 PyProof.Rows WK
open PySem.W (Frag)
theorem seqT {K : Frag} {H H' : Hp} {a : Addr} {xs : List V} (e : Same H H') (h : SqT K H a xs) : SqT K H' a xs := by
  rcases h with h | h
  · rcases h with h | ⟨ob, h⟩
    · exact .inl (.inl (e _ _ h))
    · exact .inl (.inr ⟨ob, e _ _ h⟩)
  · exact .inr h
theorem take_succ_flat {α : Type} (l : List α) (r : α → List V) (i : Nat) (x : α) (h : l[i]? = some x) : (l.take (i + 1)).flatMap r = (l.take i).flatMap r ++ r x := by
  rw [List.take_add_one, h]
  simp [List.flatMap_append]
theorem flat_map {α : Type} (l : List α) (v : α → V) : l.flatMap (fun x => [v x]) = l.map v := by
  induction l with
  | nil => rfl
  | cons x l ih => rw [List.flatMap_cons, ih] <;> rfl
theorem flat_len {α : Type} (l : List α) (r : α → List V) (h : ∀ x, (r x).length ≤ 1) : (l.flatMap r).length ≤ l.length := by
  induction l with
  | nil => exact Nat.le_refl _
  | cons x l ih =>
    rw [List.flatMap_cons, List.length_append, List.length_cons]
    have := h x
    omega
section
variable {K : Frag} {a D : Addr} {α : Type} {l : List α} {val : α → V} {r : α → List V} {g : TG} {tt : TT} {te : TE} {vs : List Nat} {σ : L2.St} {H1 : Hp} {Qd : Hp → Prop} {G : List V → Prop}
/-- one turn -/
abbrev Turn (g : TG) (tt : TT) (te : TE) (vs : List Nat) (σ : L2.St) (D : Addr) (x : V) (H : Hp) (N : Hp → Prop) : Prop := g x (wipe σ vs) H fun σ2 H2 => wipe σ2 vs = wipe σ vs ∧ tt σ2 H2 fun b H3 =>
  if b = true then te σ2 H3 fun y H4 => ∃ acc, H4 D = some (.lst acc) ∧ acc.length < sizeLine ∧ N (upd H4 D (.lst (acc ++ [y]))) else N H3
/-- what a comprehension asks that adds to the list at D what it picks -/
abbrev Went (J : It) (g : TG) (tt : TT) (te : TE) (vs : List Nat) (σ : L2.St) (D : Addr) (H1 : Hp) (Qd : Hp → Prop) : Prop :=
  ∃ W : Nat → Nat → Hp → Prop, (∃ m, W 0 m (upd H1 D (.lst []))) ∧ ∀ j n G, W j n G → (J.stop j G ∧ Qd G) ∨ (J.go j G ∧ ∃ N : Hp → Prop, (∀ G', N G' → ∃ n', n' < n ∧ W (j + 1) n' G') ∧ ∀ v G', J.yld j G v G' → Turn g tt te vs σ D v G' N)
/-- with an invariant of one's own -/
theorem pick_list (Iv : Hp → Prop) (h0 : Iv (upd H1 D (.lst []))) (hl : ∀ H, Iv H → SqL K H a (l.map val)) (hn : l.length < sizeLine) (hr : ∀ x, (r x).length ≤ 1)
    (hs : ∀ x ∈ l, ∀ H acc, Iv H → H D = some (.lst acc) → acc.length < sizeLine → ∀ N : Hp → Prop, (∀ H', Iv H' → H' D = some (.lst (acc ++ r x)) → N H') → Turn g tt te vs σ D (val x) H N)
    (hd : ∀ H, Iv H → H D = some (.lst (l.flatMap r)) → Qd H) :
    Went (Itl K a) g tt te vs σ D H1 Qd := by
  refine lc_list (K := K) (a := a) (xs := l.map val) (fun i H => Iv H ∧ H D = some (.lst ((l.take i).flatMap r))) ⟨h0, upd_same⟩ (fun i H _ p => hl H p.1) (fun i x H hx p => ?_) (fun H p => ?_)
  · rw [List.getElem?_map] at hx
    cases e : l[i]? with
    | none => rw [e] at hx; cases hx
    | some y =>
      rw [e] at hx
      obtain rfl : val y = x := Option.some.inj hx
      have hlen := flat_len (l.take i) r hr
      have : (l.take i).length ≤ l.length := by rw [List.length_take]; exact Nat.min_le_right ..
      exact hs y (List.mem_of_getElem? e) H _ p.1 p.2 (by omega) _ fun H' q1 q2 => ⟨q1, by rw [take_succ_flat l r i y e]; exact q2⟩
  · rw [List.length_map, List.take_length] at p
    exact hd H p.1 p.2
theorem pick_tup (Iv : Hp → Prop) (h0 : Iv (upd H1 D (.lst []))) (hl : ∀ H, Iv H → SqT K H a (l.map val)) (hn : l.length < sizeLine) (hr : ∀ x, (r x).length ≤ 1)
    (hs : ∀ x ∈ l, ∀ H acc, Iv H → H D = some (.lst acc) → acc.length < sizeLine → ∀ N : Hp → Prop, (∀ H', Iv H' → H' D = some (.lst (acc ++ r x)) → N H') → Turn g tt te vs σ D (val x) H N)
    (hd : ∀ H, Iv H → H D = some (.lst (l.flatMap r)) → Qd H) :
    Went (Itt K a) g tt te vs σ D H1 Qd := by
  refine lc_tup (K := K) (a := a) (xs := l.map val) (fun i H => Iv H ∧ H D = some (.lst ((l.take i).flatMap r))) ⟨h0, upd_same⟩ (fun i H _ p => hl H p.1) (fun i x H hx p => ?_) (fun H p => ?_)
  · rw [List.getElem?_map] at hx
    cases e : l[i]? with
    | none => rw [e] at hx; cases hx
    | some y =>
      rw [e] at hx
      obtain rfl : val y = x := Option.some.inj hx
      have hlen := flat_len (l.take i) r hr
      have : (l.take i).length ≤ l.length := by rw [List.length_take]; exact Nat.min_le_right ..
      exact hs y (List.mem_of_getElem? e) H _ p.1 p.2 (by omega) _ fun H' q1 q2 => ⟨q1, by rw [take_succ_flat l r i y e]; exact q2⟩
  · rw [List.length_map, List.take_length] at p
    exact hd H p.1 p.2
/-- nothing but new things: over a list, over a tuple -/
theorem same_list (hD : H1 D = none) (hl : SqL K H1 a (l.map val)) (hn : l.length < sizeLine) (hr : ∀ x, (r x).length ≤ 1)
    (hs : ∀ x ∈ l, ∀ H acc, Same H1 H → H D = some (.lst acc) → acc.length < sizeLine → ∀ N : Hp → Prop, (∀ H', Same H1 H' → H' D = some (.lst (acc ++ r x)) → N H') → Turn g tt te vs σ D (val x) H N)
    (hd : ∀ H, Same H1 H → H D = some (.lst (l.flatMap r)) → Qd H) :
    Went (Itl K a) g tt te vs σ D H1 Qd :=
  pick_list (Same H1) (same_upd hD) (fun H s => s.seq hl) hn hr hs hd
theorem same_tup (hD : H1 D = none) (hl : SqT K H1 a (l.map val)) (hn : l.length < sizeLine) (hr : ∀ x, (r x).length ≤ 1)
    (hs : ∀ x ∈ l, ∀ H acc, Same H1 H → H D = some (.lst acc) → acc.length < sizeLine → ∀ N : Hp → Prop, (∀ H', Same H1 H' → H' D = some (.lst (acc ++ r x)) → N H') → Turn g tt te vs σ D (val x) H N)
    (hd : ∀ H, Same H1 H → H D = some (.lst (l.flatMap r)) → Qd H) :
    Went (Itt K a) g tt te vs σ D H1 Qd :=
  pick_tup (Same H1) (same_upd hD) (fun H s => seqT s hl) hn hr hs hd
end
end LCX
set_option Elab.async false
set_option linter.all false
set_option maxRecDepth 100000
set_option maxHeartbeats 4000000
namespace WK
open PySem L2 PyProof.Rows LCX K1
def Bel (n : Int) (ns : List Int) : Prop := ∀ i ∈ ns, 0 ≤ i ∧ i < n
abbrev oTup (r : List Int) : HO := .tup (r.map V.int)
/-- at these places stand these rows -/
def Objs (mk : List Int → HO) (H : Hp) : List Addr → List (List Int) → Prop
  | [], [] => True
  | a :: as, r :: rs => H a = some (mk r) ∧ Objs mk H as rs
  | _, _ => False
theorem Objs.to {mk : List Int → HO} {H H' : Hp} : ∀ {as : List Addr} {rs : List (List Int)}, Objs mk H as rs → (∀ a ∈ as, ∀ r, H a = some (mk r) → H' a = some (mk r)) → Objs mk H' as rs
  | [], [], _, _ => trivial
  | a :: as, _ :: _, h, k => ⟨k a (.head _) _ h.1, h.2.to fun b hb => k b (.tail _ hb)⟩
  | [], _ :: _, h, _ => h.elim
  | _ :: _, [], h, _ => h.elim
theorem Objs.snoc {mk : List Int → HO} {H : Hp} {b : Addr} {s : List Int} : ∀ {as : List Addr} {rs : List (List Int)}, Objs mk H as rs → H b = some (mk s) → Objs mk H (as ++ [b]) (rs ++ [s])
  | [], [], _, k => ⟨k, trivial⟩
  | _ :: _, _ :: _, h, k => ⟨h.1, h.2.snoc k⟩
  | [], _ :: _, h, _ => h.elim
  | _ :: _, [], h, _ => h.elim
theorem Objs.len {mk : List Int → HO} {H : Hp} : ∀ {as : List Addr} {rs : List (List Int)}, Objs mk H as rs → as.length = rs.length
  | [], [], _ => rfl
  | _ :: _, _ :: _, h => congrArg Nat.succ h.2.len
  | [], _ :: _, h => h.elim
  | _ :: _, [], h => h.elim
theorem Objs.at_ {mk : List Int → HO} {H : Hp} : ∀ {as : List Addr} {rs : List (List Int)}, Objs mk H as rs → ∀ p ∈ as.zip rs, H p.1 = some (mk p.2)
  | [], [], _, _, hp => (List.not_mem_nil hp).elim
  | _ :: _, _ :: _, h, p, hp => (List.mem_cons.mp hp).elim (fun e => e ▸ h.1) fun z => h.2.at_ p z
  | [], _ :: _, h, _, _ => h.elim
  | _ :: _, [], h, _, _ => h.elim
theorem Objs.mem {mk : List Int → HO} {H : Hp} : ∀ {as : List Addr} {rs : List (List Int)}, Objs mk H as rs → ∀ a ∈ as, ∃ r ∈ rs, H a = some (mk r)
  | [], [], _, _, ha => (List.not_mem_nil ha).elim
  | _ :: _, _ :: _, h, a, ha => (List.mem_cons.mp ha).elim (fun e => ⟨_, .head _, e ▸ h.1⟩) fun z => let ⟨r, hr, e⟩ := h.2.mem a z; ⟨r, .tail _ hr, e⟩
  | [], _ :: _, h, _, _ => h.elim
  | _ :: _, [], h, _, _ => h.elim
/-- a def as it stands, defaults or none; nothing is raised in it -/
theorem fn_ofN {P : Program} {w : World} {K : PySem.W.Frag} {mg : Str → Option Value} {base : Heap} {k : Nat} {f : Addr} {name qual : Str} {params : Arguments} {body : List Stmt} {scope : Scope} {dV kV doc pm cdv ct oc : Value} {an od : Option Addr} {osl : Array (Option Value)} {N ps : List Str} {sp : Sp}
    (lk : K.lookup f = some ⟨oc, od, .func (PySem.W.fnOf name qual params body scope dV kV doc pm an cdv ct), osl⟩) (hcd : PySem.W.codeIn K cdv qual = true) (S : FnScope N ps scope) (len : ∀ (vs : List V) (H : Hp) (Q : VK) (E : XK), sp vs H Q E → vs.length = ps.length)
    (h : ∀ (A : Around) (outer : List Env) (s : Shared) (H : Hp) (vs : List V) (Q : VK) (E : XK), Room k (A.deeper (envOfC qual scope s.heap.objs.size f cdv)) → sp vs H Q E →
      ∃ t, PSs (cxOf CX0 P w K mg base N qual scope f cdv A outer s H E).nox body t ∧ t { nx := fun x H' => Q V.non H', rt := Q } (L2.start N vs) H) :
    FnOk P w K mg base CX0 (k + 1) f (PySem.W.fnOf name qual params body scope dV kV doc pm an cdv ct) ps sp :=
  fn_of lk hcd S len fun A outer s H vs Q E hr hs => let ⟨t, a, b⟩ := h A outer s H vs Q E hr hs; ⟨t, a.nox, b⟩
end WK
set_option Elab.async false
set_option linter.all false
set_option maxRecDepth 100000
set_option maxHeartbeats 6000000
namespace FV
open PySem PySem.Spec PyProof.Rows L2 LamX NdefX
/-- the very object o stands at c -/
def Fix (c : Addr) (o : Obj) : HO := .ext fun h => h.get? c = some o
abbrev Cs := List (Addr × Obj)
def Lay (cs : Cs) (H : Hp) : Prop := ∀ p ∈ cs, H p.1 = some (Fix p.1 p.2)
def off (cs : Cs) (H : Hp) : Hp := fun b => if b ∈ cs.map (·.1) then none else H b
def onn (cs : Cs) (H : Hp) : Hp := cs.foldr (fun p G => upd G p.1 (Fix p.1 p.2)) H
theorem off_in {cs : Cs} {H : Hp} {b : Addr} (h : b ∈ cs.map (·.1)) : off cs H b = none := if_pos h
theorem off_out {cs : Cs} {H : Hp} {b : Addr} (h : b ∉ cs.map (·.1)) : off cs H b = H b := if_neg h
theorem onn_out {H : Hp} {b : Addr} : ∀ {cs : Cs}, b ∉ cs.map (·.1) → onn cs H b = H b
  | [], _ => rfl
  | p :: cs, h => by
    show upd (onn cs H) p.1 _ b = _
    rw [upd_ne fun (z : b = p.1) => h (List.mem_map.mpr ⟨p, List.mem_cons_self, z.symm⟩)]
    exact onn_out fun z => h (List.mem_cons_of_mem _ z)
theorem onn_lay {H : Hp} : ∀ {cs : Cs}, (cs.map (·.1)).Nodup → Lay cs (onn cs H)
  | [], _, _, hp => (List.not_mem_nil hp).elim
  | q :: cs, nd, p, hp => by
    obtain ⟨h1, h2⟩ := List.nodup_cons.mp nd
    show upd (onn cs H) q.1 _ p.1 = _
    rcases List.mem_cons.mp hp with rfl | z
    · exact upd_same
    · rw [upd_ne fun (e : p.1 = q.1) => h1 (List.mem_map.mpr ⟨p, z, e⟩)]
      exact onn_lay h2 p z
theorem lay_none {cs : Cs} {H : Hp} (l : Lay cs H) {b : Addr} (h : H b = none) : b ∉ cs.map (·.1) := fun z => by
  obtain ⟨p, hp, rfl⟩ := List.mem_map.mp z
  rw [l p hp] at h
  cases h
theorem lay_not {cs : Cs} {H : Hp} (l : Lay cs H) {b : Addr} {o : HO} (h : H b = some o) (n : ∀ φ, o ≠ .ext φ) : b ∉ cs.map (·.1) := fun z => by
  obtain ⟨p, hp, rfl⟩ := List.mem_map.mp z
  rw [l p hp] at h
  exact n _ (Option.some.inj h).symm
theorem Lay.same {cs : Cs} {H H' : Hp} (l : Lay cs H) (s : ∀ b o, H b = some o → (∀ ps, o ≠ .tbl ps) → H' b = some o) : Lay cs H' := fun p hp => s _ _ (l p hp) fun _ z => nomatch z
section
variable {P : Program} {w : World} {H H' : Hp} {h h' : Heap} {cs : Cs} {fs : List Addr}
theorem lay_at (ok : HOk P w H h) (l : Lay cs H) : ∀ p ∈ cs, h.get? p.1 = some p.2 := fun p hp => (ok p.1 _ (l p hp)).1
theorem hok_off (ok : HOk P w H h) (l : Lay cs H) : HOk P w (off cs H) h := fun b u e => by
  have nb : b ∉ cs.map (·.1) := fun z => by rw [off_in z] at e; cases e
  rw [off_out nb] at e
  exact (ok b u e).stay (fun _ _ _ q => q) (fun d q => by rw [off_out (lay_not l q fun _ z => nomatch z)]; exact q) fun d xs q => by rw [off_out (lay_not l q fun _ z => nomatch z)]; exact q
theorem hok_on (ok : HOk P w H h) (nd : (cs.map (·.1)).Nodup) (n : ∀ p ∈ cs, H p.1 = none) (at_ : ∀ p ∈ cs, h.get? p.1 = some p.2) : HOk P w (onn cs H) h := fun b u e => by
  have out : ∀ {d : Addr} {o : HO}, H d = some o → d ∉ cs.map (·.1) := fun {d o} q z => by
    obtain ⟨p, hp, rfl⟩ := List.mem_map.mp z
    rw [n p hp] at q
    cases q
  by_cases hb : b ∈ cs.map (·.1)
  · obtain ⟨p, hp, rfl⟩ := List.mem_map.mp hb
    rw [onn_lay nd p hp] at e
    cases e
    exact ⟨at_ p hp, ⟨_, at_ p hp⟩, fun _ _ a k => k _ a⟩
  · rw [onn_out hb] at e
    exact (ok b u e).stay (fun _ _ _ q => q) (fun d q => by rw [onn_out (out q)]; exact q) fun d xs q => by rw [onn_out (out q)]; exact q
/-- what a call left of the heap without the cells, told with them -/
theorem un_on (u : Un fs [] (off cs H) H' h h') (l : Lay cs H) : Un fs [] H (onn cs H') h h' where
  keep := fun b o e n hb hx => u.keep b o e (by rw [off_out (lay_none l n)]; exact n) hb hx
  slot := fun b o e n hb hx => u.slot b o e (by rw [off_out (lay_none l n)]; exact n) hb hx
  free := fun b o e n hx => by
    rw [onn_out (lay_none l n)]
    exact u.free b o e (by rw [off_out (lay_none l n)]; exact n) hx
  there := u.there
  tups := fun b xs e => by
    have nb := lay_not l e fun _ z => nomatch z
    rw [onn_out nb]
    exact u.tups b xs (by rw [off_out nb]; exact e)
  frzs := fun b o v e => by
    have nb := lay_not l e fun _ z => nomatch z
    rw [onn_out nb]
    exact u.frzs b o v (by rw [off_out nb]; exact e)
  tbls := fun b ps e => by
    have nb := lay_not l e fun _ z => nomatch z
    obtain ⟨more, q⟩ := u.tbls b ps (by rw [off_out nb]; exact e)
    exact ⟨more, by rw [onn_out nb]; exact q⟩
/-- what a call that was told of the cells left, told without them -/
theorem un_off (u : Un fs [] (onn cs H) H' h h') (nd : (cs.map (·.1)).Nodup) (n : ∀ p ∈ cs, H p.1 = none) (at_ : ∀ p ∈ cs, h.get? p.1 = some p.2) (ok : HOk P w H' h') (l : Lay cs H') : Un fs [] H (off cs H') h h' := by
  have out : ∀ {d : Addr} {o : HO}, H d = some o → d ∉ cs.map (·.1) := fun {d o} q z => by
    obtain ⟨p, hp, rfl⟩ := List.mem_map.mp z
    rw [n p hp] at q
    cases q
  refine ⟨fun b o e nb hb hx => ?_, fun b o e nb hb hx => ?_, fun b o e nb hx => ?_, u.there, fun b xs e => ?_, fun b o v e => ?_, fun b ps e => ?_⟩
  · by_cases hc : b ∈ cs.map (·.1)
    · obtain ⟨p, hp, rfl⟩ := List.mem_map.mp hc
      rw [lay_at ok l p hp, ← e, at_ p hp]
    · exact u.keep b o e (by rw [onn_out hc]; exact nb) hb hx
  · by_cases hc : b ∈ cs.map (·.1)
    · obtain ⟨p, hp, rfl⟩ := List.mem_map.mp hc
      exact ⟨o.slots, by rw [lay_at ok l p hp, ← at_ p hp, e]⟩
    · exact u.slot b o e (by rw [onn_out hc]; exact nb) hb hx
  · by_cases hc : b ∈ cs.map (·.1)
    · exact off_in hc
    · rw [off_out hc]
      exact u.free b o e (by rw [onn_out hc]; exact nb) hx
  · rw [off_out fun z => by obtain ⟨p, hp, rfl⟩ := List.mem_map.mp z; have := u.tups p.1 xs (by rw [onn_out (out e)]; exact e); rw [l p hp] at this; cases this]
    exact u.tups b xs (by rw [onn_out (out e)]; exact e)
  · rw [off_out fun z => by obtain ⟨p, hp, rfl⟩ := List.mem_map.mp z; have := u.frzs p.1 o v (by rw [onn_out (out e)]; exact e); rw [l p hp] at this; cases this]
    exact u.frzs b o v (by rw [onn_out (out e)]; exact e)
  · obtain ⟨more, q⟩ := u.tbls b ps (by rw [onn_out (out e)]; exact e)
    exact ⟨more, by rw [off_out (lay_not l q fun _ z => nomatch z)]; exact q⟩
end
/-- the closure cl has the names fr, at these cells with these values -/
structure Fits (cl : List (Str × Addr)) (fr : List Str) (cs : Cs) (vals : List V) : Prop where
  len : cs.length = fr.length
  lenV : vals.length = fr.length
  at_ : ∀ (i : Nat) (y : Str) (p : Addr × Obj), fr[i]? = some y → cs[i]? = some p → cl.lookup y = some p.1
  only : ∀ (y : Str) (c : Addr), cl.lookup y = some c → y ∈ fr
  nd : (cs.map (·.1)).Nodup
  val : ∀ (i : Nat) (p : Addr × Obj) (v : V), cs[i]? = some p → vals[i]? = some v → ∃ u, RelV v u ∧ p.2.data = .cell (some u)
theorem nodup_at {α : Type} {l : List α} (nd : l.Nodup) {i j : Nat} {x : α} (a : l[i]? = some x) (b : l[j]? = some x) : i = j := by
  obtain ⟨h1, e1⟩ := List.getElem?_eq_some_iff.mp a
  obtain ⟨h2, e2⟩ := List.getElem?_eq_some_iff.mp b
  exact (List.getElem_inj nd).mp (e1.trans e2.symm)
theorem Fits.mem {cl : List (Str × Addr)} {fr : List Str} {cs : Cs} {vals : List V} (F : Fits cl fr cs vals) {y : Str} {c : Addr} (e : cl.lookup y = some c) : ∃ (i : Nat) (p : Addr × Obj), fr[i]? = some y ∧ cs[i]? = some p ∧ p.1 = c := by
  obtain ⟨i, hi⟩ := List.mem_iff_getElem?.mp (F.only y c e)
  have hl : i < cs.length := by rw [F.len]; exact (List.getElem?_eq_some_iff.mp hi).1
  refine ⟨i, cs[i], hi, List.getElem?_eq_getElem hl, ?_⟩
  have := F.at_ i y cs[i] hi (List.getElem?_eq_getElem hl)
  rw [e] at this
  exact (Option.some.inj this).symm
theorem Fits.cells {P : Program} {w : World} {cl : List (Str × Addr)} {fr : List Str} {cs : Cs} {vals : List V} {H : Hp} {h : Heap} (F : Fits cl fr cs vals) (ok : HOk P w H h) (l : Lay cs H) : CellsAt cl fr (vals.map some) h (off cs H) := by
  have cell : ∀ (i : Nat) (p : Addr × Obj), cs[i]? = some p → ∃ v u, vals[i]? = some v ∧ RelV v u ∧ h.IsCell p.1 (some u) := fun i p hp => by
    have hl : i < vals.length := by rw [F.lenV, ← F.len]; exact (List.getElem?_eq_some_iff.mp hp).1
    obtain ⟨u, r, d⟩ := F.val i p vals[i] hp (List.getElem?_eq_getElem hl)
    exact ⟨vals[i], u, List.getElem?_eq_getElem hl, r, p.2, lay_at ok l p (List.mem_of_getElem? hp), d⟩
  refine ⟨by rw [List.length_map]; exact F.lenV, fun y c e => ?_, fun x y c e1 e2 => ?_, fun i y e => ?_⟩
  · obtain ⟨i, p, _, hp, rfl⟩ := F.mem e
    obtain ⟨v, u, _, _, z⟩ := cell i p hp
    exact ⟨off_in (List.mem_map.mpr ⟨p, List.mem_of_getElem? hp, rfl⟩), _, z⟩
  · obtain ⟨i, p, hi, hp, rfl⟩ := F.mem e1
    obtain ⟨j, q, hj, hq, e⟩ := F.mem e2
    have : i = j := nodup_at F.nd (x := p.1) (by rw [List.getElem?_map, hp] <;> rfl) (by rw [List.getElem?_map, hq, ← e] <;> rfl)
    rw [this, hj] at hi
    exact (Option.some.inj hi).symm
  · have hl : i < cs.length := by rw [F.len]; exact (List.getElem?_eq_some_iff.mp e).1
    obtain ⟨v, u, hv, r, z⟩ := cell i cs[i] (List.getElem?_eq_getElem hl)
    refine ⟨cs[i].1, F.at_ i y cs[i] e (List.getElem?_eq_getElem hl), fun v' hv' => ?_⟩
    rw [List.getElem?_map, hv] at hv'
    cases hv'
    exact ⟨u, r, z⟩
/-- the function at f may be called wherever G holds of the heap -/
structure CallV (P : Program) (w : World) (K : PySem.W.Frag) (mg : Str → Option Value) (base : Heap) (CX : CXT) (k : Nat) (f : Addr) (G : Hp → Prop) (sp : Sp) : Prop where
  fn : ∀ {H : Hp} {h : Heap}, HOk P w H h → G H → PySem.W.FnAt f h
  run : ∀ (A : Around) (outer : List Env) (s : Shared) (H : Hp) (us : List Value) (vs : List V) (Q : VK) (E : XK), Room k A → Env0 P w K mg base A outer s H → G H → Vals vs us → sp vs H Q E → codeAny (model P w) A (.call (.ref f) ⟨us, []⟩) (CR CX outer P w H s Q E) s
theorem CallV.mono {P : Program} {w : World} {K : PySem.W.Frag} {mg : Str → Option Value} {base : Heap} {CX : CXT} {j k : Nat} {f : Addr} {G : Hp → Prop} {sp : Sp} (c : CallV P w K mg base CX j f G sp) (h : j ≤ k) : CallV P w K mg base CX k f G sp :=
  ⟨c.fn, fun A outer s H us vs Q E hr => c.run A outer s H us vs Q E (hr.mono h)⟩
theorem CallV.imp {P : Program} {w : World} {K : PySem.W.Frag} {mg : Str → Option Value} {base : Heap} {CX : CXT} {k : Nat} {f : Addr} {G G' : Hp → Prop} {sp sp' : Sp} (c : CallV P w K mg base CX k f G sp) (hG : ∀ H, G' H → G H) (h : ∀ vs H Q E, G' H → sp' vs H Q E → sp vs H Q E) : CallV P w K mg base CX k f G' sp' :=
  ⟨fun ok g => c.fn ok (hG _ g), fun A outer s H us vs Q E hr e0 g r q => c.run A outer s H us vs Q E hr e0 (hG _ g) r (h _ _ _ _ g q)⟩
/-- an exception that leaves a call, told without the cells and with them -/
def CXOn (P : Program) (w : World) (CX : CXT) : Prop := ∀ (cs : Cs) (outer : List Env) (s : Shared) (H : Hp) (E : XK) (e : Value) (s' : Shared), (cs.map (·.1)).Nodup → Lay cs H → HOk P w H s.heap → (∀ b ∈ frs outer, H b = none) → CX outer (off cs H) s (fun cls d H' => E cls d (onn cs H')) e s' → CX outer H s E e s'
theorem cxon_0 {P : Program} {w : World} : CXOn P w L2.CX0 := fun _ _ _ _ _ _ _ _ _ _ _ z => z
section
variable {P : Program} {w : World} {K : PySem.W.Frag} {mg : Str → Option Value} {base : Heap} {CX : CXT} {A : Around} {outer : List Env} {s s' : Shared} {H : Hp} {cs : Cs} {Q : VK} {u : Value}
theorem env0_off (e0 : Env0 P w K mg base A outer s H) (l : Lay cs H) : Env0 P w K mg base A outer s (off cs H) :=
  have n : ∀ {b : Addr}, H b = none → off cs H b = none := fun {b} h => by rw [off_out (lay_none l h)]; exact h
  ⟨e0.frames, e0.mod, fun b o e => ⟨(e0.bs b o e).1, n (e0.bs b o e).2⟩, e0.bsz, e0.funs, fun b hb => n (e0.frf b hb), hok_off e0.hok l, e0.bare⟩
theorem ce_on (e0 : Env0 P w K mg base A outer s H) (nd : (cs.map (·.1)).Nodup) (l : Lay cs H) (h : CE outer P w (off cs H) s (fun v H' => (∀ p ∈ cs, H' p.1 = none) → Q v (onn cs H')) u s') : CE outer P w H s Q u s' := by
  obtain ⟨v, H', os, bare, un, ok, r, q⟩ := h
  have kept : ∀ p ∈ cs, s'.heap.get? p.1 = some p.2 ∧ H' p.1 = none := fun p hp => by
    have e := lay_at e0.hok l p hp
    have n : off cs H p.1 = none := off_in (List.mem_map.mpr ⟨p, hp, rfl⟩)
    refine ⟨un.keep p.1 p.2 e n (fun z => ?_) List.not_mem_nil, un.free p.1 p.2 e n List.not_mem_nil⟩
    have := e0.frf p.1 z
    rw [l p hp] at this
    cases this
  exact ⟨v, onn cs H', os, bare, un_on un l, hok_on ok nd (fun p hp => (kept p hp).2) fun p hp => (kept p hp).1, r, q fun p hp => (kept p hp).2⟩
theorem cr_on (hx : CXOn P w CX) (e0 : Env0 P w K mg base A outer s H) (nd : (cs.map (·.1)).Nodup) (l : Lay cs H) {r : Result} {E : XK} (h : CR CX outer P w (off cs H) s (fun v H' => (∀ p ∈ cs, H' p.1 = none) → Q v (onn cs H')) (fun cls d H' => E cls d (onn cs H')) r s') : CR CX outer P w H s Q E r s' := by
  cases r with
  | error e => exact hx cs outer s H E e s' nd l e0.hok e0.frf h
  | ok fl =>
    cases fl with
    | ret u => exact ce_on e0 nd l h
    | next => exact False.elim h
    | brk => exact False.elim h
    | cont => exact False.elim h
/-- a nested def as a value -/
theorem callV_nok {k : Nat} {f : Addr} {F : NF} {ps fr : List Str} {sp : List (Option V) → Sp} {vals : List V} (o : NOk P w K mg base CX k f F ps fr sp) (hx : CXOn P w CX) (ft : Fits F.cl fr cs vals) :
    CallV P w K mg base CX k f (fun H => H f = some (FnO f F) ∧ H F.c = some (CodeO F.c F.qual) ∧ Lay cs H) (fun vs H Q E => sp (vals.map some) vs (off cs H) (fun v H' => (∀ p ∈ cs, H' p.1 = none) → Q v (onn cs H')) (fun cls d H' => E cls d (onn cs H'))) := by
  have cellv : ∀ p ∈ cs, ∃ u, p.2.data = .cell (some u) := fun p hp => by
    obtain ⟨i, hi⟩ := List.mem_iff_getElem?.mp hp
    have hl : i < vals.length := by rw [ft.lenV, ← ft.len]; exact (List.getElem?_eq_some_iff.mp hi).1
    obtain ⟨u, _, d⟩ := ft.val i p vals[i] hi (List.getElem?_eq_getElem hl)
    exact ⟨u, d⟩
  refine ⟨fun ok g => ?_, fun A outer s H us vs Q E hr e0 ⟨g1, g2, l⟩ r q => ?_⟩
  · obtain ⟨od, sl, doc, pm, ctv, ho⟩ := fnO_at ok g.1
    exact ⟨_, od, _, sl, ho⟩
  · have n1 : f ∉ cs.map (·.1) := fun z => by
      obtain ⟨p, hp, e⟩ := List.mem_map.mp z
      obtain ⟨od, sl, doc, pm, ctv, ho⟩ := fnO_at e0.hok g1
      obtain ⟨u, d⟩ := cellv p hp
      have := lay_at e0.hok l p hp
      rw [e, ho] at this
      rw [← Option.some.inj this] at d
      cases d
    have n2 : F.c ∉ cs.map (·.1) := fun z => by
      obtain ⟨p, hp, e⟩ := List.mem_map.mp z
      obtain ⟨oc, vs2, t, h1, h2, _⟩ := (e0.hok F.c _ g2).1
      obtain ⟨u, d⟩ := cellv p hp
      have := lay_at e0.hok l p hp
      rw [e, h1] at this
      rw [← Option.some.inj this, h2] at d
      cases d
    refine codeAny_mono (o.run A outer s (off cs H) us vs _ _ _ hr (env0_off e0 l) (by rw [off_out n1]; exact g1) (by rw [off_out n2]; exact g2) (ft.cells e0.hok l) r q) fun r s' h => cr_on hx e0 ft.nd l h
end
end FV
set_option Elab.async false
set_option linter.all false
set_option maxRecDepth 100000
set_option maxHeartbeats 6000000
namespace FV
open PySem PySem.Spec PyProof.Rows L2 LamX NdefX
/-- x(e, ..), x a name of the running frame that holds a function -/
def tCallV (P : Program) (w : World) (K : PySem.W.Frag) (mg : Str → Option Value) (base : Heap) (CX : CXT) (k i : Nat) (E : XK) (t : TA) : TE := fun σ H Q => ∃ f G sp, σ[i]? = some (some (.ref f)) ∧ CallV P w K mg base CX k f G sp ∧ G H ∧ t σ H fun vs H1 => G H1 ∧ sp vs H1 Q E
section
variable {X : Cx} {CX : CXT} {k i : Nat} {x : Str} {E : XK} {t : TA} {e : Expr} {es : List Expr} {p pos : Pos}
theorem run_v {f : Addr} {G : Hp → Prop} {sp : Sp} {pins : List (Addr × Obj)} {σ : L2.St} {H : Hp} {s : Shared} {Q : VK} {us : List Value} {vs : List V} (c : CallV X.prog X.w X.K X.mg X.base CX k f G sp) (hr : Room k X.A) (hx : Passes CX X E) (I : Inv X pins σ H s) (g : G H) (r : Vals vs us) (q : sp vs H Q E) :
    wpAny (model X.prog X.w) X.A (call (.ref f) us) (EP X pins σ Q) X.xe s :=
  wpAny_call (codeAny_mono (c.run X.A X.stack s H us vs Q E hr I.env0 g r q) fun r s' h => match r, h with
    | .error e, h => hx pins σ H s e s' I h
    | .ok (.ret _), h => I.after h
    | .ok .next, h => h.elim
    | .ok .brk, h => h.elim
    | .ok .cont, h => h.elim)
theorem pe_callV (hr : Room k X.A) (hx : Passes CX X E) (hN : X.N[i]? = some x) (hv : Vis X.env.scope x) (ha : PA X (e :: es) t) (hd : (x == ("__debug__" : Str)) = false := by decide) (hcd : (x == ("__classdict__" : Str)) = false := by decide)
    (he : starEach (e :: es) X.env = (false, eval e X.env) :: starEach es X.env := by rfl) (hpl : (backTo pos (starEach es X.env)).any (·.1) = false := by rfl) : PE X (.Call (.Name x p) (e :: es) [] pos) (tCallV X.prog X.w X.K X.mg X.base CX k i E t) := by
  refine ⟨fun pins s σ H Q I ⟨f, G, sp, hs, c, g, ht⟩ => ?_⟩
  refine wpAny_Call_Name_kw (thn ((pe_var (pos := p) hN hv hd hcd).run pins s σ H (fun v H1 => v = .ref f ∧ H1 = H) I ⟨_, hs, rfl, rfl⟩) fun u s1 ⟨v, H1, I1, r1, ev, eH⟩ => ?_)
  subst ev
  subst eH
  cases (show u = Value.ref f from r1)
  exact PySem.W.callWith_F (first := []) (c.fn I1.hok g) (thn (ha.run pos pins s1 σ _ _ I1 ht) fun us s2 ⟨vs, H2, I2, r, g2, q⟩ => ⟨c.fn I2.hok g2, run_v c hr hx I2 g2 r q⟩) he hpl
end
section
variable {X : Cx} {σ : L2.St} {H : Hp} {s : Shared} {pins : List (Addr × Obj)} {cs : Cs}
theorem env0_on (I : Inv X pins σ H s) (nd : (cs.map (·.1)).Nodup) (n : ∀ p ∈ cs, H p.1 = none) (at_ : ∀ p ∈ cs, s.heap.get? p.1 = some p.2) (young : ∀ p ∈ cs, X.s_0.heap.objs.size ≤ p.1 ∧ p.1 ≠ X.env.locals) : Env0 X.prog X.w X.K X.mg X.base X.A X.stack s (onn cs H) := by
  have e := I.env0
  have out : ∀ {b : Addr}, b < X.s_0.heap.objs.size → b ∉ cs.map (·.1) := fun {b} lt z => by
    obtain ⟨p, hp, rfl⟩ := List.mem_map.mp z
    exact absurd lt (Nat.not_lt.mpr (young p hp).1)
  refine ⟨e.frames, e.mod, fun b o eb => ⟨(e.bs b o eb).1, ?_⟩, e.bsz, e.funs, fun b hb => ?_, hok_on I.hok nd n at_, e.bare⟩
  · rw [onn_out (out (Nat.lt_of_lt_of_le (Heap.lt_size eb) I.ok.bsz))]
    exact (e.bs b o eb).2
  · have nb : b ∉ cs.map (·.1) := by
      rcases List.mem_cons.mp (I.stkSub b hb) with z | z
      · intro y
        obtain ⟨p, hp, e2⟩ := List.mem_map.mp y
        exact (young p hp).2 (e2.trans z)
      · obtain ⟨_, o, ho, _⟩ := I.ok.funs.mem z
        exact out (Heap.lt_size ho)
    rw [onn_out nb]
    exact e.frf b hb
/-- the running frame's cells, as they stand -/
theorem fits_of {cl : List (Str × Addr)} {fr : List Str} {js : List Nat} {vals : List V} (I : Inv X pins σ H s) (cp : Caps X cl fr js) (only : ∀ (y : Str) (c : Addr), cl.lookup y = some c → y ∈ fr) (nd : fr.Nodup) (hv : js.map (fun j => σ[j]?) = vals.map fun v => some (some v)) :
    ∃ cs, Fits cl fr cs vals ∧ (∀ p ∈ cs, H p.1 = none ∧ s.heap.get? p.1 = some p.2 ∧ ∃ y ∈ fr, X.env.cells.lookup y = some p.1) := by
  have C := cells_of I cp
  have lenJ : js.length = fr.length := by
    have := congrArg List.length cp.at_
    rw [List.length_map, List.length_map] at this
    exact this
  have lenV : vals.length = fr.length := by
    have := congrArg List.length hv
    rw [List.length_map, List.length_map] at this
    omega
  have each : ∀ i : Fin fr.length, ∃ p : Addr × Obj, cl.lookup (fr[i.1]'i.2) = some p.1 ∧ s.heap.get? p.1 = some p.2 ∧ ∃ u, RelV (vals[i.1]'(Nat.lt_of_lt_of_eq i.2 lenV.symm)) u ∧ p.2.data = .cell (some u) := fun ⟨i, hi⟩ => by
    obtain ⟨c, hc, at_⟩ := C.has i _ (List.getElem?_eq_getElem hi)
    have hj : i < js.length := Nat.lt_of_lt_of_eq hi lenJ.symm
    have hV : i < vals.length := Nat.lt_of_lt_of_eq hi lenV.symm
    have e : σ[js[i]]? = some (some vals[i]) := by
      have := congrArg (fun l => l[i]?) hv
      rw [List.getElem?_map, List.getElem?_map, List.getElem?_eq_getElem hj, List.getElem?_eq_getElem hV] at this
      exact Option.some.inj this
    obtain ⟨u, r, o, ho, d⟩ := at_ vals[i] (by rw [List.getElem?_map, List.getElem?_eq_getElem hj]; exact congrArg some (slotAt_of e))
    exact ⟨(c, o), hc, ho, u, r, d⟩
  obtain ⟨g, hg⟩ := Classical.axiomOfChoice each
  have at_ : ∀ (i : Nat) (p : Addr × Obj), (List.ofFn g)[i]? = some p → ∃ hi : i < fr.length, p = g ⟨i, hi⟩ := fun i p h => by
    obtain ⟨h1, h2⟩ := List.getElem?_eq_some_iff.mp h
    have hi : i < fr.length := by rw [List.length_ofFn] at h1; exact h1
    exact ⟨hi, by rw [← h2, List.getElem_ofFn]⟩
  refine ⟨List.ofFn g, ⟨List.length_ofFn, lenV, fun i y p hy hp => ?_, only, ?_, fun i p v hp hv2 => ?_⟩, fun p hp => ?_⟩
  · obtain ⟨hi, rfl⟩ := at_ i p hp
    have := (hg ⟨i, hi⟩).1
    rw [List.getElem?_eq_getElem hi] at hy
    rw [← Option.some.inj hy]
    exact this
  · rw [List.map_ofFn]
    refine List.pairwise_iff_getElem.mpr fun i j h1 h2 lt e => ?_
    rw [List.length_ofFn] at h1 h2
    rw [List.getElem_ofFn, List.getElem_ofFn] at e
    have e2 : (g ⟨i, h1⟩).1 = (g ⟨j, h2⟩).1 := e
    have e3 := C.inj _ _ _ (hg ⟨i, h1⟩).1 (e2 ▸ (hg ⟨j, h2⟩).1)
    have : i = j := nodup_at nd (List.getElem?_eq_getElem h1) (by rw [List.getElem?_eq_getElem h2]; exact congrArg some e3.symm)
    omega
  · obtain ⟨hi, rfl⟩ := at_ i p hp
    have hV : i < vals.length := Nat.lt_of_lt_of_eq hi lenV.symm
    rw [List.getElem?_eq_getElem hV] at hv2
    rw [← Option.some.inj hv2]
    exact (hg ⟨i, hi⟩).2.2
  · obtain ⟨i, hi⟩ := List.mem_iff_getElem?.mp hp
    obtain ⟨hj, rfl⟩ := at_ i p hi
    exact ⟨(C.all _ _ (hg ⟨i, hj⟩).1).1, (hg ⟨i, hj⟩).2.1, _, List.getElem_mem hj, cp.sub _ _ (hg ⟨i, hj⟩).1⟩
end
/-- f(e, ..) of a def of the module that is told of the running frame's cells -/
def tCallC (cl : List (Str × Addr)) (fr : List Str) (js : List Nat) (sp : Sp) (t : TA) : TE := fun σ H Q => t σ H fun vs H1 => ∃ vals : List V, js.map (fun j => σ[j]?) = vals.map (fun v => some (some v)) ∧
  ∀ cs, Fits cl fr cs vals → (∀ p ∈ cs, H1 p.1 = none) → sp vs (onn cs H1) (fun v H' => Lay cs H' ∧ Q v (off cs H')) E0
section
variable {X : Cx} {k : Nat} {f : Addr} {fd : FuncData} {ps : List Str} {sp : Sp} {x : Str} {p pos : Pos} {e : Expr} {es : List Expr} {t : TA} {cl : List (Str × Addr)} {fr : List Str} {js : List Nat}
theorem pe_callC (F : FnOk X.prog X.w X.K X.mg X.base CX0 k f fd ps sp) (hr : Room k X.A) (hg : Gl X x) (hm : X.mg x = some (.ref f)) (hk : PySem.W.keepIn X.K (.ref f) = true) (hb : Binds X.K fd ps [])
    (cp : X.Ok → Caps X cl fr js) (only : ∀ (y : Str) (c : Addr), cl.lookup y = some c → y ∈ fr) (nd : fr.Nodup) (own : ∀ y ∈ fr, X.fn y = true) (ha : PA X (e :: es) t) (hdb : (x == ("__debug__" : Str)) = false := by decide)
    (he : starEach (e :: es) X.env = (false, eval e X.env) :: starEach es X.env := by rfl) (hpl : (backTo pos (starEach es X.env)).any (·.1) = false := by rfl) : PE X (.Call (.Name x p) (e :: es) [] pos) (tCallC cl fr js sp t) := by
  refine ⟨fun pins s σ H Q I h => wpAny_Call_Name_kw (ld_glob I hg hm (PySem.W.callWith_K (h₀ := X.base) I.ok.mod.kin hk (thn (ha.run pos pins s σ H _ I h) fun us s1 ⟨vs, H1, I1, r, vals, hv, q⟩ => ⟨I1.kIn, ?_⟩) he hpl) hdb)⟩
  obtain ⟨cs, ft, hcs⟩ := fits_of I1 (cp I1.ok) only nd hv
  have none_ : ∀ p ∈ cs, H1 p.1 = none := fun p hp => (hcs p hp).1
  have at_ : ∀ p ∈ cs, s1.heap.get? p.1 = some p.2 := fun p hp => (hcs p hp).2.1
  have e0 := env0_on I1 ft.nd none_ at_ fun p hp => let ⟨y, hy, e⟩ := (hcs p hp).2.2; ⟨I1.ok.cab y p.1 (own y hy) e, I1.cne y p.1 e⟩
  have q := q cs ft none_
  have hl : us.length = ps.length := by rw [← r.length]; exact F.len _ _ _ _ q
  have hb2 := hb s1 us I1.kIn (by rw [List.append_nil]; exact hl)
  rw [List.append_nil] at hb2
  refine wpAny_call (codeAny_mono (F.run X.A X.stack s1 (onn cs H1) ⟨us, []⟩ us vs _ E0 hr e0 hb2 r q) fun r s' h => ?_)
  exact match r, h with
    | .error _, h => (show False from h).elim
    | .ok (.ret _), h => I1.after (let ⟨v, H', os, bare, un, ok, rv, l, qv⟩ := h; ⟨v, off cs H', os, bare, un_off un ft.nd none_ at_ ok l, hok_off ok l, rv, qv⟩)
    | .ok .next, h => h.elim
    | .ok .brk, h => h.elim
    | .ok .cont, h => h.elim
end
end FV
set_option Elab.async false
set_option linter.all false
set_option maxRecDepth 100000
set_option maxHeartbeats 6000000
namespace FV
open PySem PySem.Spec PyProof.Rows L2 LamX NdefX
/-- nothing that was tracked is lost, but for tables of code objects, which grow -/
def Grows (T : List (Addr × Str)) (H H1 : Hp) : Prop := ExtN H H1 ∧ Tabs T H1 ∧ ∀ d, H1 d = none → H d = none
end FV
set_option Elab.async false
set_option linter.all false
set_option maxRecDepth 100000
set_option maxHeartbeats 4000000
namespace DP
open PySem PySem.Spec PyProof.Rows L2
def tDisp1 (tk tv : TE) : TE := fun σ H Q => ∃ emp : HO, (emp = .dK [] ∨ emp = .dT []) ∧ ∀ p, H p = none → tk σ (upd H p emp) fun y H1 => tv σ H1 fun z H2 => ∃ H3, DPut H2 p y z H3 ∧ Q (.ref p) H3
section
variable {X : Cx} {pins : List (Addr × Obj)} {σ : L2.St} {H H' : Hp} {s : Shared} {a : Addr} {y v : V} {u r : Value}
/-- what a display does with a pair -/
theorem d_set {Q : Unit → Shared → Prop} (hu : X.A.units < cLine) (I : Inv X pins σ H s) (g : DPut H a y v H') (ry : RelV y u) (rv : RelV v r) (h : ∀ s', Inv X pins σ H' s' → Q () s') : wpAny (model X.prog X.w) X.A (dictSet a u r) Q X.xe s := by
  rcases g with ⟨kvs, k, e, rfl, l, rfl⟩ | ⟨kvs, k, b, e, rfl, eb, l, rfl⟩
  · obtain ⟨z, hd, vs, rel, dd⟩ := dk_of I.hok e
    have few := length_putK kvs k v
    refine wpAny_dictSet_pairs (hsz := by rw [← rel.length]; exact z) (kV_is ry) dd fun h' dd' hs => h _ ?_
    exact d_write I (by rw [e]; exact True.intro) hs (let ⟨q, _, _, hq, _⟩ := dd'; ⟨q, hq⟩) (dk_new (by omega) hd (rel.put k rv) dd')
  · cases (show u = Value.ref b from ry)
    obtain ⟨z, hd, xs, rel, dd⟩ := dt_of I.hok e
    have few := length_putK kvs k v
    refine wpAny_dictSet_heap (hsz := by rw [← Paired.length rel]; exact z) hu (key_of I.hok eb) dd fun h' ⟨q, es, ep, hq, h2, h3, h4, _, h5⟩ hs => h _ ?_
    refine d_write I (by rw [e]; exact True.intro) hs ⟨q, hq⟩ ⟨by omega, hd, _, (rel.put k eb rv).keeps fun c ys ec => ?_, q, es, ep, hq, h2, h3, h4, h5⟩
    rw [upd_ne (ne_of ec e fun z => nomatch z)]
    exact ec
end
theorem pe_disp1 {X : Cx} {k v : Expr} {tk tv : TE} {pos : Pos} (hu : X.A.units < cLine) (hk : PE X k tk) (hv : PE X v tv) : PE X (.Dict [some k] [v] pos) (tDisp1 tk tv) := by
  refine ⟨fun pins s σ H Q I ⟨emp, kind, told⟩ => ?_⟩
  have new := I.hok.fresh (Nat.le_refl s.heap.objs.size)
  have J : Inv X pins σ (upd H s.heap.objs.size emp) { s with heap := s.heap.push { cls := .type "dict", data := .dict #[] } } := by
    refine I.laid (t' := s.toks) (fun _ _ q => Heap.get?_push_of_some _ q) (Nat.le_refl _) ?_
    rcases kind with rfl | rfl
    · exact dk_empty s.heap I.big
    · exact dt_empty s.heap I.big
  refine wpAny_Dict_any rfl rfl (fun z => by cases z) (by show 1 ≤ 15; decide) (pairTrees_cons_walk ?_)
  refine thn (hk.run pins _ σ _ _ J (told _ new)) fun u s1 ⟨y, H1, I1, ry, q1⟩ => thn (hv.run pins s1 σ H1 _ I1 q1) fun r s2 ⟨z, H2, I2, rz, H3, g, q2⟩ => pairTrees_nil_walk ?_
  show wpAny _ _ (forIn [(u, r)] PUnit.unit _) _ _ s2
  rw [List.forIn_cons]
  refine wpAny_bind (wpAny_bind (d_set hu I2 g ry rz fun s3 I3 => wpAny_pure ?_))
  exact wpAny_pure ⟨.ref s.heap.objs.size, H3, I3, rfl, q2⟩
end DP
set_option Elab.async false
set_option linter.all false
set_option maxRecDepth 100000
set_option maxHeartbeats 8000000
namespace WK
open PySem L2 PyProof.Rows LCX K1 FV DP
open TX (sg sigs)
open PySem.W (Frag kitOne)
abbrev sExpl : Stmt := top 17
section
variable {α : Type} [DecidableEq α]
/-- one letter: the key behind it, and the row so far -/
def exSign (f : α → Nat → α) (key : α) (st : List α × List Int) (c : Nat) : List α × List Int :=
  if f key c ∈ st.1 then (st.1, st.2 ++ [((st.1.idxOf (f key c) : Nat) : Int)]) else (st.1 ++ [f key c], st.2 ++ [((st.1.length : Nat) : Int)])
def exAll (f : α → Nat → α) (L : W) (start : α) : Nat → List α × List (List Int)
  | 0 => ([start], [])
  | j + 1 => match (exAll f L start j).1[j]? with
    | some key => ((L.foldl (exSign f key) ((exAll f L start j).1, [])).1, (exAll f L start j).2 ++ [(L.foldl (exSign f key) ((exAll f L start j).1, [])).2])
    | none => exAll f L start j
theorem exSign_grows (f : α → Nat → α) (key : α) (st : List α × List Int) (c : Nat) : st.1 <+: (exSign f key st c).1 := by
  unfold exSign
  split
  · exact List.prefix_refl _
  · exact List.prefix_append _ _
theorem exFold_grows (f : α → Nat → α) (key : α) : ∀ (l : W) (st : List α × List Int), st.1 <+: (l.foldl (exSign f key) st).1
  | [], _ => List.prefix_refl _
  | c :: l, st => (exSign_grows f key st c).trans (exFold_grows f key l _)
theorem exAll_at {f : α → Nat → α} {L : W} {start : α} {j : Nat} {key : α} (h : (exAll f L start j).1[j]? = some key) :
    exAll f L start (j + 1) = ((L.foldl (exSign f key) ((exAll f L start j).1, [])).1, (exAll f L start j).2 ++ [(L.foldl (exSign f key) ((exAll f L start j).1, [])).2]) := by
  show (match (exAll f L start j).1[j]? with | some key => _ | none => _) = _
  rw [h]
theorem exAll_stop {f : α → Nat → α} {L : W} {start : α} {j : Nat} (h : (exAll f L start j).1.length ≤ j) : ∀ m, exAll f L start (j + m) = exAll f L start j
  | 0 => rfl
  | m + 1 => by
    have ih := exAll_stop h m
    show (match (exAll f L start (j + m)).1[j + m]? with | some key => _ | none => _) = _
    rw [List.getElem?_eq_none (by rw [ih]; omega)]
    exact ih
end
/-- how keys of a kind lie in the heap, and how a dict has their numbers -/
structure Kit (α : Type) [DecidableEq α] where
  is : Hp → V → α → Prop
  keep : ∀ {H H' : Hp} {v : V} {a : α}, is H v a → (∀ b xs, H b = some (.tup xs) → H' b = some (.tup xs)) → is H' v a
  ho : List α → HO
  kind : ∀ l, (∃ kvs, ho l = .dK kvs) ∨ ∃ kvs, ho l = .dT kvs
  emp : ho [] = .dK [] ∨ ho [] = .dT []
  get : ∀ {H : Hp} {D : Addr} {l : List α} {v : V} {a : α}, H D = some (ho l) → is H v a → DGet H D v (if a ∈ l then some (.int ((l.idxOf a : Nat) : Int)) else none)
  put : ∀ {H : Hp} {D : Addr} {l : List α} {v : V} {a : α}, H D = some (ho l) → is H v a → a ∉ l → l.length < sizeLine → DPut H D v (.int ((l.length : Nat) : Int)) (upd H D (ho (l ++ [a])))
section
variable {α : Type} [DecidableEq α] {kit : Kit α} {H H' : Hp}
def Are (kit : Kit α) (H : Hp) : List V → List α → Prop
  | [], [] => True
  | v :: vs, a :: l => kit.is H v a ∧ Are kit H vs l
  | _, _ => False
theorem Are.keep : ∀ {vs : List V} {l : List α}, Are kit H vs l → (∀ b xs, H b = some (.tup xs) → H' b = some (.tup xs)) → Are kit H' vs l
  | [], [], _, _ => trivial
  | _ :: _, _ :: _, h, k => ⟨kit.keep h.1 k, h.2.keep k⟩
  | [], _ :: _, h, _ => h.elim
  | _ :: _, [], h, _ => h.elim
theorem Are.len : ∀ {vs : List V} {l : List α}, Are kit H vs l → vs.length = l.length
  | [], [], _ => rfl
  | _ :: _, _ :: _, h => congrArg Nat.succ h.2.len
  | [], _ :: _, h => h.elim
  | _ :: _, [], h => h.elim
theorem Are.snoc {v : V} {a : α} : ∀ {vs : List V} {l : List α}, Are kit H vs l → kit.is H v a → Are kit H (vs ++ [v]) (l ++ [a])
  | [], [], _, k => ⟨k, trivial⟩
  | _ :: _, _ :: _, h, k => ⟨h.1, h.2.snoc k⟩
  | [], _ :: _, h, _ => h.elim
  | _ :: _, [], h, _ => h.elim
theorem Are.get {a : α} : ∀ {vs : List V} {l : List α} {i : Nat}, Are kit H vs l → l[i]? = some a → ∃ v, vs[i]? = some v ∧ kit.is H v a
  | v :: _, b :: _, 0, h, e => ⟨v, rfl, by cases e; exact h.1⟩
  | _ :: _, _ :: _, i + 1, h, e => h.2.get (i := i) e
  | [], [], _, _, e => by cases e
  | [], _ :: _, _, h, _ => h.elim
  | _ :: _, [], _, h, _ => h.elim
theorem Kit.not_tup (kit : Kit α) (l : List α) (xs : List V) : kit.ho l ≠ .tup xs := fun e => by
  rcases kit.kind l with ⟨k, z⟩ | ⟨k, z⟩ <;> rw [z] at e <;> cases e
end
/-- what is known of functions stays -/
def KeepsExt (H H' : Hp) : Prop := ∀ b φ, H b = some (.ext φ) → H' b = some (.ext φ)
def KeepsTup (H H' : Hp) : Prop := ∀ b xs, H b = some (.tup xs) → H' b = some (.tup xs)
theorem Same.ext' {H H' : Hp} (s : Same H H') : KeepsExt H H' := fun b _ e => s b _ e
theorem Same.tup' {H H' : Hp} (s : Same H H') : KeepsTup H H' := fun b _ e => s b _ e
theorem KeepsTup.trans {H H1 H2 : Hp} (a : KeepsTup H H1) (b : KeepsTup H1 H2) : KeepsTup H H2 := fun d xs e => b d xs (a d xs e)
theorem KeepsExt.trans {H H1 H2 : Hp} (a : KeepsExt H H1) (b : KeepsExt H1 H2) : KeepsExt H H2 := fun d xs e => b d xs (a d xs e)
theorem tup_upd {H : Hp} {a : Addr} {u o : HO} (h : H a = some u) (n : ∀ xs, u ≠ .tup xs) : KeepsTup H (upd H a o) := fun b xs e => by
  rw [upd_ne fun z => n xs (Option.some.inj (h.symm.trans (by rw [← z]; exact e)))]
  exact e
theorem objs_tup {H H' : Hp} {as : List Addr} {rs : List (List Int)} (o : Objs oTup H as rs) (k : KeepsTup H H') : Objs oTup H' as rs := o.to fun a _ r e => k a _ e
theorem idx_end {α : Type} [DecidableEq α] {a : α} : ∀ {l : List α}, a ∉ l → (l ++ [a]).idxOf a = l.length := by
  intro l h
  rw [List.idxOf_append, if_neg h, List.idxOf_cons_self]
  omega
theorem iteF' {c : Bool} {a b : Prop} (h : c = false) (k : b) : (if c = true then a else b) := by
  rw [h]
  exact k
abbrev NEx : List Str := ["signs", "start", "step", "most", "keys", "numbers", "rows", "key", "row", "sign", "after"]
section
variable {α : Type} [DecidableEq α]
def spExpl (P : Program) (w : World) (K : Frag) (mg : Str → Option Value) (base : Heap) (kit : Kit α) (kf : Nat) : Sp := fun vs H Q _ =>
  ∃ (L : W) (v0 : V) (start : α) (fa : Addr) (G : Hp → Prop) (sp : Sp) (f : α → Nat → α) (ok : α → Prop) (B : Nat), vs = [.str (tx L), v0, .ref fa, .int 400] ∧ L.length ≤ 3 ∧ kit.is H v0 start ∧ CallV P w K mg base CX0 kf fa G sp ∧ G H ∧
    (∀ H H', KeepsExt H H' → G H → G H') ∧ ok start ∧ (∀ a c, ok a → c ∈ L → ok (f a c)) ∧
    (∀ (H : Hp) (v : V) (a : α) (c : Nat) (Q : VK), G H → kit.is H v a → ok a → c ∈ L → (∀ v' H', Same H H' → kit.is H' v' (f a c) → Q v' H') → sp [v, .str (sg c)] H Q E0) ∧ (∀ j, (exAll f L start j).1.length ≤ B) ∧ B ≤ 400 ∧
    ∀ (t k r : Addr) (ts : List Addr) (vs : List V) (H' : Hp), Same H H' → H' t = some (.tup [.ref k, .ref r]) → H' k = some (.lst vs) → Are kit H' vs (exAll f L start B).1 → H' r = some (.tup (ts.map V.ref)) → Objs oTup H' ts (exAll f L start B).2 → Q (.ref t) H'
end
section
variable {α : Type} [DecidableEq α] {P : Program} {w : World} {K : PySem.W.Frag} {mg : Str → Option Value} {base : Heap} {kit : Kit α} {kf : Nat}
theorem scEx : FnScope NEx ["signs", "start", "step", "most"] (defScope sExpl) := ⟨rfl, rfl, rfl, by decide +kernel, rfl, by decide +kernel, by decide +kernel⟩
theorem ok_expl {f : Addr} {oc kV dc pm ct cd dV : Value} {an od : Option Addr} {sl : Array (Option Value)} (lk : K.lookup f = some ⟨oc, od, .func (PySem.W.fnOf "explored" "explored" (defArgs sExpl) (defBody sExpl) (defScope sExpl) dV kV dc pm an cd ct), sl⟩) (hcd : PySem.W.codeIn K cd "explored" = true) (T : TN mg) : FnOk P w K mg base CX0 (kf + 1) f (PySem.W.fnOf "explored" "explored" (defArgs sExpl) (defBody sExpl) (defScope sExpl) dV kV dc pm an cd ct) ["signs", "start", "step", "most"] (spExpl P w K mg base kit kf) := by
  refine fn_ofN lk hcd scEx (fun vs H Q E h => ?_) (fun A outer s H vs Q E hr h => ?_)
  · obtain ⟨L, v0, start, fa, G, sp, fn, ok, B, rfl, _⟩ := h
    rfl
  · obtain ⟨L, v0, start, fa, G, sp, fn, ok, B, rfl, hL, is0, cv, g0, gk, ok0, okc, hstep, hB, hB4, q⟩ := h
    have hub := hu_of hr
    refine ⟨_, pss_cons (ps_set (i := 4) scEx.nd rfl (Or.inl rfl) (pe_lst (pa_cons (pv 1) pa_nil)))
      (pss_cons (ps_set (i := 5) scEx.nd rfl (Or.inl rfl) (pe_disp1 (Nat.lt_of_succ_lt hub) (pv 1) pe_int))
      (pss_cons (ps_set (i := 6) scEx.nd rfl (Or.inl rfl) (pe_lst pa_nil))
      (pss_cons (ps_while PassesOwn.never (pt_cmpR op_lt (pe_callB call_len_seq (by rfl) T.len PySem.boot_len (pa_cons (pv 6) pa_nil)) (pe_callB call_len_seq (by rfl) T.len PySem.boot_len (pa_cons (pv 4) pa_nil)) (nomark _))
        (pss_cons (ps_set (i := 7) scEx.nd rfl (Or.inl rfl) (pe_ix ix_list (pv 4) (pe_callB call_len_seq (by rfl) T.len PySem.boot_len (pa_cons (pv 6) pa_nil)) (fun _ _ => rfl)))
        (pss_cons (ps_set (i := 8) scEx.nd rfl (Or.inl rfl) (pe_lst pa_nil))
        (pss_cons (ps_for PassesOwn.never rfl (pi_str (pv 0)) (pg_name (i := 9) scEx.nd rfl (Or.inl rfl))
          (pss_cons (ps_set (i := 10) scEx.nd rfl (Or.inl rfl) (pe_callV (i := 2) (CX := CX0) (E := E0) hr pass0 rfl (.inl rfl) (pa_cons (pv 7) (pa_cons (pv 9) pa_nil))))
          (pss_cons (ps_if (pt_cmp (pc_dnotin hub (pv 10) (pv 5)))
              (pss_cons (ps_if (pt_cmpR op_eq (pe_callB call_len_seq (by rfl) T.len PySem.boot_len (pa_cons (pv 4) pa_nil)) (pv 3) (nomark _)) (pss_one ps_never) pss_nil)
              (pss_cons (ps_dput hub (pv 5) (pv 10) (pe_callB call_len_seq (by rfl) T.len PySem.boot_len (pa_cons (pv 4) pa_nil)) rfl)
              (pss_one (ps_expr (pe_bm PySem.F.plainAttrs_list PySem.F.slot_list_append PySem.F.type_list_append mt_append (pv 4) (pa_cons (pv 10) pa_nil)))))) pss_nil)
          (pss_one (ps_expr (pe_bm PySem.F.plainAttrs_list PySem.F.slot_list_append PySem.F.type_list_append mt_append (pv 8) (pa_cons (pe_dget hub (pv 5) (pv 10) (fun _ _ => rfl)) pa_nil)))))))
        (pss_one (ps_expr (pe_bm PySem.F.plainAttrs_list PySem.F.slot_list_append PySem.F.type_list_append mt_append (pv 6) (pa_cons (pe_callTy call_tuple_of (by rfl) T.tuple (by decide +kernel) (pa_cons (pv 8) pa_nil)) pa_nil))))))))
      (pss_one (ps_ret (pe_tup (pa_cons (pv 4) (pa_cons (pe_callTy call_tuple_of (by rfl) T.tuple (by decide +kernel) (pa_cons (pv 6) pa_nil)) pa_nil)))))))), ?_⟩
    generalize hst : exAll fn L start = st at hB q
    have hz : st 0 = ([start], []) := by rw [← hst] <;> rfl
    have hnx : ∀ (j : Nat) (key : α), (st j).1[j]? = some key → st (j + 1) = ((L.foldl (exSign fn key) ((st j).1, [])).1, (st j).2 ++ [(L.foldl (exSign fn key) ((st j).1, [])).2]) := by
      intro j key e
      have e2 := exAll_at (f := fn) (L := L) (start := start) (j := j) (by rw [hst]; exact e)
      rw [hst] at e2
      exact e2
    have hsp : ∀ (j m : Nat), (st j).1.length ≤ j → st (j + m) = st j := by
      intro j m h
      rw [← hst] at h ⊢
      exact exAll_stop h m
    have hgr : ∀ (j i : Nat) (key : α), (st j).1[j]? = some key → ((L.take i).foldl (exSign fn key) ((st j).1, [])).1.length ≤ B := by
      intro j i key e
      have h2 := hB (j + 1)
      rw [hnx j key e] at h2
      have h3 := exFold_grows fn key (L.drop i) ((L.take i).foldl (exSign fn key) ((st j).1, []))
      rw [← List.foldl_append, List.take_append_drop] at h3
      exact Nat.le_trans h3.length_le h2
    have B1 : 1 ≤ B := by have := hB 0; rw [hz] at this; exact this
    refine ⟨_, rfl, (by show 1 ≤ sizeLine; decide), fun M hM => ?_⟩
    refine ⟨kit.ho [], kit.emp, fun D hD => ⟨_, rfl, _, kit.put (l := []) upd_same (kit.keep is0 (fun b xs e => (same_two (same_upd hM) hD) _ _ e)) List.not_mem_nil (by show 0 < sizeLine; decide), ?_⟩⟩
    rw [upd_upd]
    have nD : H D = none := (same_upd hM).free hD
    have nMD : M ≠ D := fun z => by rw [← z, upd_same] at hD; cases hD
    refine ⟨by show 0 ≤ sizeLine; decide, fun R hR => ?_⟩
    have s0 : Same H (upd (upd (upd H M (.lst [v0])) D (kit.ho [start])) R (.lst [])) := same_two (same_two (same_upd hM) hD) hR
    have nMR : M ≠ R := fun z => by rw [← z, upd_ne nMD, upd_same] at hR; cases hR
    have nDR : D ≠ R := fun z => by rw [← z, upd_same] at hR; cases hR
    have nR : H R = none := (same_two (same_upd hM) hD).free hR
    refine while_by (fun σ H2 => ∃ (j : Nat) (vs : List V) (ts : List Addr) (x7 x8 x9 x10 : Option V), Same H H2 ∧ H2 M = some (.lst vs) ∧ Are kit H2 vs (st j).1 ∧ H2 D = some (kit.ho (st j).1) ∧ H2 R = some (.lst (ts.map V.ref)) ∧ Objs oTup H2 ts (st j).2 ∧ ts.length = j ∧ j ≤ (st j).1.length ∧ (∀ a ∈ (st j).1, ok a) ∧
      σ = [some (.str (tx L)), some v0, some (.ref fa), some (.int 400), some (.ref M), some (.ref D), some (.ref R), x7, x8, x9, x10]) (fun _ H2 => B - (match H2 R with | some (.lst xs) => xs.length | _ => 0)) ?_ ?_ ?_
    · refine ⟨0, [v0], [], none, none, none, none, s0, ?_, ?_, ?_, upd_same, ?_, rfl, Nat.zero_le _, ?_, rfl⟩
      · rw [upd_ne nMR, upd_ne nMD, upd_same]
      · rw [hz]
        exact ⟨kit.keep is0 fun b xs e => s0 _ _ e, trivial⟩
      · rw [upd_ne nDR, upd_same, hz] <;> rfl
      · rw [hz]
        exact trivial
      · rw [hz]
        intro a ha
        rw [List.mem_singleton.mp ha]
        exact ok0
    · rintro σ H2 ⟨j, vs, ts, x7, x8, x9, x10, s2, hm, are, hd, hr2, objs, hts, hle, oks, rfl⟩
      have hvl := are.len
      refine ⟨_, rfl, R, _, rfl, .inl (SqL.of hr2), _, rfl, M, _, rfl, .inl (SqL.of hm), _, _, rfl, rfl, _, rfl, ?_⟩
      rw [List.length_map, hts, hvl]
      refine ite2 (fun hlt => ?_) (fun hge => ?_)
      · have hlt : ((j : Nat) : Int) < (((st j).1.length : Nat) : Int) := of_decide_eq_true hlt
        have hlt : j < (st j).1.length := by omega
        obtain ⟨key, hkey⟩ : ∃ key, (st j).1[j]? = some key := ⟨_, List.getElem?_eq_getElem hlt⟩
        obtain ⟨v, hv, isv⟩ := are.get hkey
        have okk : ok key := oks _ (List.mem_of_getElem? hkey)
        have hstep1 := hnx j key hkey
        have hg := fun i => hgr j i key hkey
        have hlenB := hB j
        refine ⟨_, rfl, _, rfl, R, _, rfl, .inl (SqL.of hr2), M, _, _, _, rfl, rfl, SqL.of hm, by rw [List.length_map, hts]; exact atI_nat hv, ?_⟩
        refine ⟨by show 0 ≤ sizeLine; decide, fun RW hRW => ?_⟩
        have nRW : H RW = none := s2.free hRW
        have nMW : M ≠ RW := fun z => by rw [← z, hm] at hRW; cases hRW
        have nDW : D ≠ RW := fun z => by rw [← z, hd] at hRW; cases hRW
        have nRR : R ≠ RW := fun z => by rw [← z, hr2] at hRW; cases hRW
        generalize hks : (st j).1 = ks at hkey hlenB hg hstep1 hlt hle are hd oks hvl
        generalize hrs : (st j).2 = rs at objs hstep1
        have kt0 : KeepsTup H2 (upd H2 RW (.lst [])) := Same.tup' (same_upd hRW)
        refine ⟨_, rfl, tx L, rfl, ?_⟩
        refine for_it walk_str (fun i σ H3 => ∃ (vs : List V) (x9 x10 : Option V), Same H H3 ∧ H3 M = some (.lst vs) ∧ Are kit H3 vs ((L.take i).foldl (exSign fn key) (ks, [])).1 ∧ H3 D = some (kit.ho ((L.take i).foldl (exSign fn key) (ks, [])).1) ∧ H3 R = some (.lst (ts.map V.ref)) ∧ Objs oTup H3 ts rs ∧ kit.is H3 v key ∧
            H3 RW = some (.lst (((L.take i).foldl (exSign fn key) (ks, [])).2.map V.int)) ∧ ((L.take i).foldl (exSign fn key) (ks, [])).2.length = i ∧ (∀ a ∈ ((L.take i).foldl (exSign fn key) (ks, [])).1, ok a) ∧
            σ = [some (.str (tx L)), some v0, some (.ref fa), some (.int 400), some (.ref M), some (.ref D), some (.ref R), some v, some (.ref RW), x9, x10]) ?_ (fun _ _ _ _ _ => trivial) ?_ ?_
        · refine ⟨vs, x9, x10, s2.trans (same_upd hRW), same_upd hRW _ _ hm, are.keep kt0, same_upd hRW _ _ hd, same_upd hRW _ _ hr2, objs_tup objs kt0, kit.keep isv kt0, upd_same, rfl, oks, rfl⟩
        · rintro i x σ H3 H4 hi ⟨vs, x9, x10, s3, hm3, are3, hd3, hr3, objs3, isv3, hw3, hw3l, oks3, rfl⟩ ⟨rfl, c, hx, rfl⟩
          have hx' : L[i]? = some c := by
            rw [← Array.getElem?_toList, tx_list] at hx
            exact hx
          have hcL : c ∈ L := List.mem_of_getElem? hx'
          have hiL : i < L.length := (List.getElem?_eq_some_iff.mp hx').1
          have hgi1 := hg (i + 1)
          have e1 : (L.take (i + 1)).foldl (exSign fn key) (ks, []) = exSign fn key ((L.take i).foldl (exSign fn key) (ks, [])) c := by
            rw [List.take_add_one, hx', List.foldl_append] <;> rfl
          rw [e1] at hgi1
          rw [e1]
          generalize (L.take i).foldl (exSign fn key) (ks, []) = fo at are3 hd3 hw3 hw3l oks3 hgi1 ⊢
          have gH := gk H H4 (Same.ext' s3) g0
          refine ⟨fa, G, sp, rfl, cv, gH, _, rfl, _, rfl, gH, hstep H4 v key c _ gH isv3 okk hcL fun v' H5 s5 is5 => ?_⟩
          have oka : ok (fn key c) := okc _ _ okk hcL
          replace hm3 := s5 _ _ hm3
          replace are3 := are3.keep (Same.tup' s5)
          replace hd3 := s5 _ _ hd3
          replace hr3 := s5 _ _ hr3
          replace objs3 := objs_tup objs3 (Same.tup' s5)
          replace isv3 := kit.keep isv3 (Same.tup' s5)
          replace hw3 := s5 _ _ hw3
          replace s3 := s3.trans s5
          have vl3 := are3.len
          refine ⟨_, rfl, _, rfl, D, _, rfl, kit.get hd3 is5, _, rfl, ?_⟩
          unfold exSign at hgi1 ⊢
          by_cases hin : fn key c ∈ fo.1
          · rw [if_pos hin] at hgi1 ⊢
            rw [if_pos hin]
            refine iteF ?_
            refine ⟨_, rfl, .inl ⟨rfl, _, SqL.of hw3⟩, _, rfl, _, rfl, D, _, rfl, (if_pos hin) ▸ kit.get hd3 is5, RW, _, _, rfl, rfl, hw3, by rw [List.length_map, hw3l, sizeLine_eq]; omega, ?_⟩
            have kt := tup_upd (o := .lst (fo.2.map V.int ++ [.int ((fo.1.idxOf (fn key c) : Nat) : Int)])) hw3 (fun _ z => nomatch z)
            refine ⟨vs, _, _, same_at s3 nRW, ?_, are3.keep kt, ?_, ?_, objs_tup objs3 kt, kit.keep isv3 kt, ?_, ?_, oks3, rfl⟩
            · rw [upd_ne nMW]
              exact hm3
            · rw [upd_ne nDW]
              exact hd3
            · rw [upd_ne nRR]
              exact hr3
            · rw [upd_same]
              show _ = some (HO.lst ((fo.2 ++ [_]).map V.int))
              rw [List.map_append] <;> rfl
            · show (fo.2 ++ [_]).length = _
              rw [List.length_append, hw3l] <;> rfl
          · rw [if_neg hin] at hgi1 ⊢
            rw [if_neg hin]
            have hlen1 : fo.1.length + 1 ≤ B := by rw [List.length_append] at hgi1; exact hgi1
            refine iteT ?_
            refine ⟨_, rfl, M, _, rfl, .inl (SqL.of hm3), _, rfl, rfl, _, rfl, iteF' ?_ ?_⟩
            · rw [vl3]
              refine decide_eq_false fun z => ?_
              have := V.int.inj z
              omega
            refine ⟨_, rfl, M, _, rfl, .inl (SqL.of hm3), _, rfl, _, rfl, D, _, rfl, by rw [vl3]; exact kit.put hd3 is5 hin (by rw [sizeLine_eq]; omega), ?_⟩
            have k1 := tup_upd (o := kit.ho (fo.1 ++ [fn key c])) hd3 (kit.not_tup _)
            have m1 : upd H5 D (kit.ho (fo.1 ++ [fn key c])) M = some (.lst vs) := by rw [upd_ne nMD]; exact hm3
            have d1 : upd H5 D (kit.ho (fo.1 ++ [fn key c])) D = some (kit.ho (fo.1 ++ [fn key c])) := upd_same
            have r1 : upd H5 D (kit.ho (fo.1 ++ [fn key c])) R = some (.lst (ts.map V.ref)) := by rw [upd_ne (Ne.symm nDR)]; exact hr3
            have w1 : upd H5 D (kit.ho (fo.1 ++ [fn key c])) RW = some (.lst (fo.2.map V.int)) := by rw [upd_ne (Ne.symm nDW)]; exact hw3
            have s1 : Same H (upd H5 D (kit.ho (fo.1 ++ [fn key c]))) := same_at s3 nD
            have a1 := are3.keep k1
            have o1 := objs_tup objs3 k1
            have v1 := kit.keep isv3 k1
            have is1 := kit.keep is5 k1
            generalize upd H5 D (kit.ho (fo.1 ++ [fn key c])) = H6 at m1 d1 r1 w1 s1 a1 o1 v1 is1 ⊢
            refine ⟨_, rfl, .inl ⟨rfl, _, SqL.of m1⟩, _, rfl, M, _, _, rfl, rfl, m1, by rw [vl3, sizeLine_eq]; omega, ?_⟩
            have k2 := tup_upd (o := .lst (vs ++ [v'])) m1 (fun _ z => nomatch z)
            have m2 : upd H6 M (.lst (vs ++ [v'])) M = some (.lst (vs ++ [v'])) := upd_same
            have d2 : upd H6 M (.lst (vs ++ [v'])) D = some (kit.ho (fo.1 ++ [fn key c])) := by rw [upd_ne (Ne.symm nMD)]; exact d1
            have r2 : upd H6 M (.lst (vs ++ [v'])) R = some (.lst (ts.map V.ref)) := by rw [upd_ne (Ne.symm nMR)]; exact r1
            have w2 : upd H6 M (.lst (vs ++ [v'])) RW = some (.lst (fo.2.map V.int)) := by rw [upd_ne (Ne.symm nMW)]; exact w1
            have s2' : Same H (upd H6 M (.lst (vs ++ [v']))) := same_at s1 hM
            have a2 := (a1.snoc is1).keep k2
            have o2 := objs_tup o1 k2
            have v2 := kit.keep v1 k2
            have is2 := kit.keep is1 k2
            generalize upd H6 M (.lst (vs ++ [v'])) = H7 at m2 d2 r2 w2 s2' a2 o2 v2 is2 ⊢
            have gg := kit.get d2 is2
            rw [if_pos (List.mem_append_right _ (List.mem_singleton.mpr rfl)), idx_end hin] at gg
            refine ⟨_, rfl, .inl ⟨rfl, _, SqL.of w2⟩, _, rfl, _, rfl, D, _, rfl, gg, RW, _, _, rfl, rfl, w2, by rw [List.length_map, hw3l, sizeLine_eq]; omega, ?_⟩
            have k3 := tup_upd (o := .lst (fo.2.map V.int ++ [.int ((fo.1.length : Nat) : Int)])) w2 (fun _ z => nomatch z)
            refine ⟨vs ++ [v'], _, _, same_at s2' nRW, ?_, a2.keep k3, ?_, ?_, objs_tup o2 k3, kit.keep v2 k3, ?_, ?_, ?_, rfl⟩
            · rw [upd_ne nMW]
              exact m2
            · rw [upd_ne nDW]
              exact d2
            · rw [upd_ne nRR]
              exact r2
            · rw [upd_same]
              show _ = some (HO.lst ((fo.2 ++ [_]).map V.int))
              rw [List.map_append] <;> rfl
            · show (fo.2 ++ [_]).length = _
              rw [List.length_append, hw3l] <;> rfl
            · intro a ha
              rcases List.mem_append.mp ha with h | h
              · exact oks3 a h
              · rw [List.mem_singleton.mp h]
                exact oka
        · rintro σ H3 ⟨vs, x9, x10, s3, hm3, are3, hd3, hr3, objs3, isv3, hw3, hw3l, oks3, rfl⟩
          rw [size_tx, List.take_length] at are3 hd3 hw3 hw3l oks3
          have fB := hB (j + 1)
          rw [hstep1] at fB
          generalize hfo : L.foldl (exSign fn key) (ks, []) = fo at are3 hd3 hw3 hw3l oks3 fB hstep1
          have grows : ks.length ≤ fo.1.length := by rw [← hfo]; exact (exFold_grows fn key L (ks, [])).length_le
          refine ⟨_, rfl, .inl ⟨rfl, _, SqL.of hr3⟩, _, rfl, RW, _, rfl, .inl ⟨SqL.of hw3, fun t ht => ?_⟩⟩
          have s4 := same_upd (o := .tup (fo.2.map V.int)) ht
          have nt : R ≠ t := fun z => by rw [← z, hr3] at ht; cases ht
          refine ⟨R, _, _, rfl, rfl, s4 _ _ hr3, by rw [List.length_map, hts, sizeLine_eq]; omega, ?_⟩
          have hr4 := s4 _ _ hr3
          have hm4 := s4 _ _ hm3
          have hd4 := s4 _ _ hd3
          have ho4 := objs_tup objs3 (Same.tup' s4)
          have ha4 := are3.keep (Same.tup' s4)
          have ht4 : upd H3 t (.tup (fo.2.map V.int)) t = some (oTup fo.2) := upd_same
          have s5 := s3.trans s4
          generalize upd H3 t (.tup (fo.2.map V.int)) = H4 at hr4 hm4 hd4 ho4 ha4 ht4 s5 ⊢
          have k3 := tup_upd (o := .lst (ts.map V.ref ++ [.ref t])) hr4 (fun _ z => nomatch z)
          refine ⟨⟨j + 1, vs, ts ++ [t], _, _, _, _, same_at s5 nR, ?_, ?_, ?_, ?_, ?_, ?_, ?_, ?_, rfl⟩, ?_⟩
          · rw [upd_ne nMR]
            exact hm4
          · rw [hstep1]
            exact ha4.keep k3
          · rw [upd_ne nDR, hstep1]
            exact hd4
          · rw [upd_same, List.map_append] <;> rfl
          · rw [hstep1]
            exact objs_tup (ho4.snoc ht4) k3
          · rw [List.length_append, hts] <;> rfl
          · rw [hstep1]
            show j + 1 ≤ fo.1.length
            omega
          · rw [hstep1]
            exact oks3
          · show B - (match (upd _ R _) R with | some (.lst xs) => xs.length | _ => 0) < B - (match H2 R with | some (.lst xs) => xs.length | _ => 0)
            rw [upd_same, hr2]
            show _ - (ts.map V.ref ++ [_]).length < _ - (ts.map V.ref).length
            rw [List.length_append, List.length_map, hts]
            show _ - (j + 1) < _
            omega
      · have hge : ¬ (((j : Nat) : Int) < (((st j).1.length : Nat) : Int)) := fun z => hge (decide_eq_true z)
        have e1 : (st j).1.length = j := by omega
        have e2 : st B = st j := by
          have h3 := hB j
          have h4 := hsp j (B - j) (by omega)
          rw [show j + (B - j) = B by omega] at h4
          exact h4
        refine ⟨_, rfl, _, rfl, R, _, rfl, .inl ⟨SqL.of hr2, fun r hr => ?_⟩⟩
        refine ⟨by show 2 ≤ sizeLine; decide, fun t ht => ?_⟩
        have s3 := same_upd (o := .tup (ts.map V.ref)) hr
        have s4 := same_upd (o := .tup [.ref M, .ref r]) ht
        refine q t M r ts vs _ (s2.trans (s3.trans s4)) upd_same (s4 _ _ (s3 _ _ hm)) ?_ (s4 _ _ upd_same) ?_
        · rw [e2]
          exact are.keep (Same.tup' (s3.trans s4))
        · rw [e2]
          exact objs_tup objs (Same.tup' (s3.trans s4))
    · exact fun σ H Q Q' hm ⟨v, hv, M', ys, e, hs, w', hw, M2, ys2, e2, hs2, i, j, a, b, k, hk, q⟩ => ⟨v, hv, M', ys, e, hs, w', hw, M2, ys2, e2, hs2, i, j, a, b, k, hk, hm _ _ q⟩
end
end WK
set_option Elab.async false
set_option linter.all false
set_option maxRecDepth 100000
set_option maxHeartbeats 4000000
namespace WK
open PySem L2 PyProof.Rows LCX K1 FV DP
open TX (sg sigs)
section
variable {α κ : Type} [DecidableEq α] [DecidableEq κ] (e : α → κ)
/-- a dict's pairs: each key with its number, from i on -/
def numK (i : Nat) : List α → List (κ × V)
  | [] => []
  | a :: l => (e a, .int ((i : Nat) : Int)) :: numK (i + 1) l
theorem numK_len : ∀ (l : List α) (i : Nat), (numK e i l).length = l.length
  | [], _ => rfl
  | _ :: l, i => congrArg Nat.succ (numK_len l (i + 1))
theorem numK_snoc (a : α) : ∀ (l : List α) (i : Nat), numK e i (l ++ [a]) = numK e i l ++ [(e a, .int (((i + l.length : Nat) : Nat) : Int))]
  | [], _ => rfl
  | b :: l, i => by
    show (e b, _) :: numK e (i + 1) (l ++ [a]) = (e b, _) :: (numK e (i + 1) l ++ _)
    rw [numK_snoc a l (i + 1), List.length_cons, show i + 1 + l.length = i + (l.length + 1) by omega]
theorem numK_val (inj : ∀ a b, e a = e b → a = b) (a : α) : ∀ (l : List α) (i : Nat), valV (numK e i l) (e a) = if a ∈ l then some (.int (((i + l.idxOf a : Nat) : Nat) : Int)) else none
  | [], _ => rfl
  | b :: l, i => by
    show valV ((e b, V.int ((i : Nat) : Int)) :: numK e (i + 1) l) (e a) = _
    by_cases hb : b = a
    · rw [valV_pos (congrArg e hb), if_pos (hb ▸ List.mem_cons_self), hb, List.idxOf_cons_self] <;> rfl
    · rw [valV_neg fun z => hb (inj _ _ z), numK_val inj a l (i + 1)]
      have hm : (a ∈ b :: l) ↔ a ∈ l := ⟨fun z => (List.mem_cons.mp z).resolve_left fun w => hb w.symm, List.mem_cons_of_mem _⟩
      by_cases h : a ∈ l
      · rw [if_pos h, if_pos (hm.mpr h), List.idxOf_cons, show (b == a) = false from beq_eq_false_iff_ne.mpr hb, show i + 1 + l.idxOf a = i + (l.idxOf a + 1) by omega] <;> rfl
      · rw [if_neg h, if_neg fun z => h (hm.mp z)]
theorem numK_put (inj : ∀ a b, e a = e b → a = b) {a : α} {l : List α} (h : a ∉ l) : putK (numK e 0 l) (e a) (.int ((l.length : Nat) : Int)) = numK e 0 (l ++ [a]) := by
  unfold putK
  rw [valV_any, numK_val e inj, if_neg h, numK_snoc, Nat.zero_add]
  exact if_neg fun z => nomatch z
end
theorem map_inj {α β : Type} {f : α → β} (inj : ∀ a b, f a = f b → a = b) : ∀ (l m : List α), l.map f = m.map f → l = m
  | [], [], _ => rfl
  | a :: l, b :: m, h => by
    obtain ⟨h1, h2⟩ := List.cons.inj h
    rw [inj a b h1, map_inj inj l m h2]
  | [], _ :: _, h => nomatch h
  | _ :: _, [], h => nomatch h
/-- tuples of keys -/
def kitL {α : Type} [DecidableEq α] (e : α → Key) (inj : ∀ a b, e a = e b → a = b) : Kit (List α) where
  is := fun H v a => ∃ b, v = .ref b ∧ H b = some (.tup ((a.map e).map kV))
  keep := fun ⟨b, hv, hb⟩ k => ⟨b, hv, k _ _ hb⟩
  ho := fun l => .dT (numK (fun a : List α => a.map e) 0 l)
  kind := fun l => .inr ⟨_, rfl⟩
  emp := .inr rfl
  get := fun {H D l v a} hd hv => by
    obtain ⟨b, rfl, hb⟩ := hv
    have h := DGet.t (k := a.map e) hd hb
    rw [numK_val (fun a : List α => a.map e) (fun a b z => map_inj inj a b z), Nat.zero_add] at h
    exact h
  put := fun {H D l v a} hd hv hn hl => by
    obtain ⟨b, rfl, hb⟩ := hv
    have h := DPut.t (k := a.map e) (v := .int ((l.length : Nat) : Int)) hd hb (by rw [numK_len]; exact hl)
    rw [numK_put (fun a : List α => a.map e) (fun a b z => map_inj inj a b z) hn] at h
    exact h
/-- tuples of numbers -/
def kitI : Kit (List Int) := kitL (fun i : Int => (Sum.inl i : Key)) fun _ _ h => Sum.inl.inj h
theorem kitI_is {H : Hp} {b : Addr} {a : List Int} : kitI.is H (.ref b) a ↔ H b = some (.tup (a.map V.int)) := by
  show (∃ c, V.ref b = .ref c ∧ H c = some (.tup ((a.map _).map kV))) ↔ _
  rw [List.map_map]
  exact ⟨fun ⟨c, h, k⟩ => by cases h; exact k, fun h => ⟨b, rfl, h⟩⟩
end WK
set_option Elab.async false
set_option linter.all false
set_option maxRecDepth 100000
set_option maxHeartbeats 8000000
namespace WK
open PySem L2 PyProof.Rows LCX K1 FV DP
open TX (sg sigs)
open PySem.W (Frag kitOne)
abbrev sMadeI : Stmt := inClass (top 10) 0
abbrev sBoxI : Stmt := inClass (top 66) 0
abbrev sGrown : Stmt := top 68
/-- the class Box at C, the class Made at cD -/
structure TBx (K : Frag) (mg : Str → Option Value) (C cD : Addr) : Prop where
  cl : Cls K C
  nT : NoAttr K C "_table"
  nL : NoAttr K C "_letters"
  clD : Cls K cD
  nR : NoAttr K cD "rows"
  gC : mg "Box" = some (.ref C)
  gD : mg "Made" = some (.ref cD)
  tyC : ∀ {H : Hp} {a dx : Addr} {fs : List (Str × V)}, H a = some (.ins C dx fs) → TyOf K H (.ref a) (.ref C)
  tyD : ∀ {H : Hp} {a dx : Addr} {fs : List (Str × V)}, H a = some (.ins cD dx fs) → TyOf K H (.ref a) (.ref cD)
  most : ∃ t, mg "MAX_MADE" = some (.int 400 t)
def bfl (lt tb : V) : List (Str × V) := [("_table", tb), ("_letters", lt)]
/-- a class is called, which a name of the running frame holds -/
def tMakeV (i : Nat) (C : Addr) (sp : Sp) (dvs : List V) (E : XK) (t : TA) : TE := fun σ H Q => σ[i]? = some (some (.ref C)) ∧ tMake C sp dvs E t σ H Q
theorem pe_makeV {X : Cx} {CX : CXT} {k i : Nat} {f C : Addr} {fd : FuncData} {ps : List Str} {ds : List Value} {dvs : List V} {sp : Sp} {E : XK} {x : Str} {p pos : Pos} {e : Expr} {es : List Expr} {t : TA}
    (M : Mk X.K C f) (F : FnOk X.prog X.w X.K X.mg X.base CX k f fd ps sp) (hr : Room (k + 1) X.A) (hN : X.N[i]? = some x) (hv : Vis X.env.scope x) (hb : Binds X.K fd ps ds) (hd : Vals dvs ds) (hx : Passes CX X E) (ha : PA X (e :: es) t)
    (hdb : (x == ("__debug__" : Str)) = false := by decide) (hcd : (x == ("__classdict__" : Str)) = false := by decide) (he : starEach (e :: es) X.env = (false, eval e X.env) :: starEach es X.env := by rfl) (hpl : (backTo pos (starEach es X.env)).any (·.1) = false := by rfl) :
    PE X (.Call (.Name x p) (e :: es) [] pos) (tMakeV i C sp dvs E t) := by
  refine ⟨fun pins s σ H Q I ⟨hs, h⟩ => ?_⟩
  refine wpAny_Call_Name_kw (thn ((pe_var (pos := p) hN hv hdb hcd).run pins s σ H (fun v H1 => v = .ref C ∧ H1 = H) I ⟨_, hs, rfl, rfl⟩) fun u s1 ⟨v, H1, I1, r1, ev, eH⟩ => ?_)
  subst ev
  subst eH
  cases (show u = Value.ref C from r1)
  refine PySem.W.callWith_K (h₀ := X.base) I1.ok.mod.kin M.kp (thn (ha.run pos pins s1 σ _ _ I1 h) fun us s2 ⟨vs, H2, I2, r, q⟩ => ⟨I2.kIn, ?_⟩) he hpl
  exact run_make M F hr hb hd hx I2 r q
/-- rows as the package made them stand at g -/
def RowsAt (H : Hp) (r : Addr) (tb : List (List Int)) : Prop := ∃ ts : List Addr, H r = some (.tup (ts.map V.ref)) ∧ Objs oTup H ts tb
theorem RowsAt.keep {H H' : Hp} {r : Addr} {tb : List (List Int)} (h : RowsAt H r tb) (k : KeepsTup H H') : RowsAt H' r tb := by
  obtain ⟨ts, h1, h2⟩ := h
  exact ⟨ts, k _ _ h1, objs_tup h2 k⟩
def MadeAt (cD : Addr) (H : Hp) (g : Addr) (tb : List (List Int)) : Prop := ∃ dx r : Addr, H g = some (.ins cD dx [("rows", .ref r)]) ∧ RowsAt H r tb
theorem MadeAt.same {cD : Addr} {H H' : Hp} {g : Addr} {tb : List (List Int)} (h : MadeAt cD H g tb) (s : Same H H') : MadeAt cD H' g tb := by
  obtain ⟨dx, r, h1, h2⟩ := h
  exact ⟨dx, r, s _ _ h1, h2.keep (Same.tup' s)⟩
/-- a box stands at o -/
def BoxAt (C : Addr) (H : Hp) (o : Addr) (L : W) (tb : List (List Int)) : Prop := ∃ dx r : Addr, H o = some (.ins C dx (bfl (.str (tx L)) (.ref r))) ∧ RowsAt H r tb
theorem BoxAt.same {C : Addr} {H H' : Hp} {o : Addr} {L : W} {tb : List (List Int)} (h : BoxAt C H o L tb) (s : Same H H') : BoxAt C H' o L tb := by
  obtain ⟨dx, r, h1, h2⟩ := h
  exact ⟨dx, r, s _ _ h1, h2.keep (Same.tup' s)⟩
def spMadeI (cD : Addr) : Sp := fun vs H Q _ => ∃ p dx r, vs = [.ref p, r] ∧ H p = some (.ins cD dx []) ∧ Q .non (upd H p (.ins cD dx [("rows", r)]))
def spBoxI (C cD : Addr) : Sp := fun vs H Q _ => ∃ (p dx : Addr) (L : W) (g : Addr) (tb : List (List Int)), vs = [.ref p, .str (tx L), .ref g] ∧ Let L ∧ H p = some (.ins C dx []) ∧ g ≠ p ∧ MadeAt cD H g tb ∧
  ∀ (r : Addr) (H' : Hp), H' p = some (.ins C dx (bfl (.str (tx L)) (.ref r))) → (∀ b o, H b = some o → b ≠ p → H' b = some o) → RowsAt H' r tb → Q .non H'
/-- a step that may be explored from a start -/
def Steps {α : Type} [DecidableEq α] (P : Program) (w : World) (K : Frag) (mg : Str → Option Value) (base : Heap) (kit : Kit α) (kf : Nat) (H : Hp) (L : W) (v0 : V) (fa : Addr) (start : α) (f : α → Nat → α) (B : Nat) : Prop :=
  ∃ (G : Hp → Prop) (sp : Sp) (ok : α → Prop), kit.is H v0 start ∧ CallV P w K mg base CX0 kf fa G sp ∧ G H ∧
    (∀ H H', KeepsExt H H' → G H → G H') ∧ ok start ∧ (∀ a c, ok a → c ∈ L → ok (f a c)) ∧
    (∀ (H : Hp) (v : V) (a : α) (c : Nat) (Q : VK), G H → kit.is H v a → ok a → c ∈ L → (∀ v' H', Same H H' → kit.is H' v' (f a c) → Q v' H') → sp [v, .str (sg c)] H Q E0) ∧ (∀ j, (exAll f L start j).1.length ≤ B) ∧ B ≤ 400
def spGrown (P : Program) (w : World) (K : Frag) (mg : Str → Option Value) (base : Heap) {α : Type} [DecidableEq α] (kit : Kit α) (kf : Nat) (cD : Addr) : Sp := fun vs H Q _ =>
  ∃ (L : W) (v0 : V) (start : α) (fa : Addr) (f : α → Nat → α) (B : Nat), vs = [.str (tx L), v0, .ref fa] ∧ L.length ≤ 3 ∧ Steps P w K mg base kit kf H L v0 fa start f B ∧ ∀ g H', H g = none → Same H H' → MadeAt cD H' g (exAll f L start B).2 → Q (.ref g) H'
section
variable {P : Program} {w : World} {K : PySem.W.Frag} {mg : Str → Option Value} {base : Heap} {C cD fL fI fE : Addr} {dL dI dE : FuncData}
theorem scDI : FnScope ["self", "rows"] ["self", "rows"] (defScope sMadeI) := ⟨rfl, rfl, rfl, by decide +kernel, rfl, by decide +kernel, by decide +kernel⟩
theorem ok_madei {f : Addr} {oc kV dc pm ct cd dV : Value} {an od : Option Addr} {sl : Array (Option Value)} (lk : K.lookup f = some ⟨oc, od, .func (PySem.W.fnOf "__init__" "Made.__init__" (defArgs sMadeI) (defBody sMadeI) (defScope sMadeI) dV kV dc pm an cd ct), sl⟩) (hcd : PySem.W.codeIn K cd "Made.__init__" = true) (M : TBx K mg C cD) :
    FnOk P w K mg base CX0 1 f (PySem.W.fnOf "__init__" "Made.__init__" (defArgs sMadeI) (defBody sMadeI) (defScope sMadeI) dV kV dc pm an cd ct) ["self", "rows"] (spMadeI cD) := by
  refine fn_of lk hcd scDI (fun vs H Q E h => ?_) (fun A outer s H vs Q E hr h => ?_)
  · obtain ⟨p, dx, r, rfl, _⟩ := h
    rfl
  · obtain ⟨p, dx, r, rfl, hp, q⟩ := h
    refine ⟨_, pss_one (ps_fld (pv 0) (pv 1) rfl), ?_⟩
    exact ⟨_, rfl, _, rfl, p, cD, dx, [], rfl, hp, M.clD, M.nR, by show 0 < 1000; decide, q⟩
theorem scBI : FnScope ["self", "letters", "table"] ["self", "letters", "table"] (defScope sBoxI) := ⟨rfl, rfl, rfl, by decide +kernel, rfl, by decide +kernel, by decide +kernel⟩
theorem ok_boxi {f : Addr} {oc kV dc pm ct cd dV : Value} {an od : Option Addr} {sl : Array (Option Value)} (lk : K.lookup f = some ⟨oc, od, .func (PySem.W.fnOf "__init__" "Box.__init__" (defArgs sBoxI) (defBody sBoxI) (defScope sBoxI) dV kV dc pm an cd ct), sl⟩) (hcd : PySem.W.codeIn K cd "Box.__init__" = true)
    (T : TN mg) (M : TBx K mg C cD) (AL : Fn K mg "is_letters" sIsLet ["value"] fL dL) (GL : FnOk P w K mg base CX0 2 fL dL ["value"] (spIsLet K)) :
    FnOk P w K mg base CX0 3 f (PySem.W.fnOf "__init__" "Box.__init__" (defArgs sBoxI) (defBody sBoxI) (defScope sBoxI) dV kV dc pm an cd ct) ["self", "letters", "table"] (spBoxI C cD) := by
  refine fn_of lk hcd scBI (fun vs H Q E h => ?_) (fun A outer s H vs Q E hr h => ?_)
  · obtain ⟨p, dx, L, g, tb, rfl, _⟩ := h
    rfl
  · obtain ⟨p, dx, L, g, tb, rfl, hL, hp, hgp, ⟨gx, r, hg, rows⟩, q⟩ := h
    refine ⟨_, pss_cons (ps_if (pt_not (pt_val (pe_call GL hr rfl AL.g AL.F.kp AL.b .nil pass0 (pa_cons (pv 1) pa_nil)))) (pss_one ps_never) pss_nil)
      (pss_cons (ps_if (pt_val (pe_callB call_isi (by rfl) T.isi (by decide +kernel) (pa_cons (pv 2) (pa_cons (pe_glob rfl M.gD (show RelV (.ref cD) (.ref cD) from rfl)) pa_nil)))) (pss_one (ps_fld (pv 0) (pe_fld (pv 2) rfl) rfl)) (pss_one ps_never))
      (pss_one (ps_fld (pv 0) (pv 1) rfl))), ?_⟩
    refine ⟨_, rfl, _, rfl, .inl ⟨tx L, rfl, by rw [tx_len]; have := hL.few; omega, fun H1 s1 => ⟨_, rfl, ?_⟩⟩⟩
    rw [letB_let hL]
    refine ⟨_, rfl, _, _, _, _, true, rfl, .own cD, .base (M.tyD (s1 _ _ hg)), if_pos (beq_self_eq_true _), true, rfl, ?_⟩
    have hp1 := s1 _ _ hp
    refine ⟨_, rfl, g, cD, gx, _, _, rfl, s1 _ _ hg, M.clD, M.nR, rfl, _, rfl, p, C, dx, [], rfl, hp1, M.cl, M.nT, by show 0 < 1000; decide, ?_⟩
    refine ⟨_, rfl, _, rfl, p, C, dx, _, rfl, upd_same, M.cl, M.nL, by show 1 < 1000; decide, ?_⟩
    have kt : KeepsTup H _ := (Same.tup' s1).trans ((tup_upd (o := .ins C dx (putF "_table" (V.ref r) [])) hp1 fun _ z => nomatch z).trans (tup_upd (o := .ins C dx (putF "_letters" (V.str (tx L)) (putF "_table" (V.ref r) []))) upd_same fun _ z => nomatch z))
    refine q r _ ?_ (fun b o z n => ?_) (rows.keep kt)
    · rw [upd_same]
      show _ = some (HO.ins C dx [("_table", V.ref r), ("_letters", V.str (tx L))])
      refine congrArg (fun l => some (HO.ins C dx l)) ?_
      show (if ("_table" : Str) = "_letters" then [(("_table" : Str), V.str (tx L))] else (("_table" : Str), V.ref r) :: putF "_letters" (V.str (tx L)) []) = _
      rw [if_neg (by decide +kernel)]
      rfl
    · rw [upd_ne n, upd_ne n]
      exact s1 _ _ z
theorem scGr : FnScope ["letters", "start", "step"] ["letters", "start", "step"] (defScope sGrown) := ⟨rfl, rfl, rfl, by decide +kernel, rfl, by decide +kernel, by decide +kernel⟩
theorem ok_grown {α : Type} [DecidableEq α] {kit : Kit α} {kf : Nat} {f : Addr} {fd : FuncData} (F : Fun K "_grown" "_grown" sGrown f fd) (M : TBx K mg C cD) (gE : mg "explored" = some (.ref fE)) (kE : PySem.W.keepIn K (.ref fE) = true) (GE : FnOk P w K mg base CX0 (kf + 1) fE dE ["signs", "start", "step", "most"] (spExpl P w K mg base kit kf))
    (MI : Mk K cD fI) (GI : FnOk P w K mg base CX0 1 fI dI ["self", "rows"] (spMadeI cD)) (bI : Binds K dI ["self", "rows"] []) (bE : Binds K dE ["signs", "start", "step", "most"] []) :
    FnOk P w K mg base CX0 (kf + 3) f fd ["letters", "start", "step"] (spGrown P w K mg base kit kf cD) := by
  obtain ⟨tm, most⟩ := M.most
  refine F.ok scGr (fun vs H Q E h => ?_) (fun cdv A outer s H vs Q E hr h => ?_)
  · obtain ⟨L, v0, start, fa, fn, B, rfl, _⟩ := h
    rfl
  · obtain ⟨L, v0, start, fa, fn, B, rfl, hL, ⟨G, sp, ok, is0, cv, g0, gk, ok0, okc, hstep, hB, hB4⟩, q⟩ := h
    have hr1 : Room (kf + 1) _ := hr.mono (by omega)
    have hr2 : Room 2 _ := hr.mono (by omega)
    refine ⟨_, pss_one (ps_ret (pe_make (E := E0) MI GI hr2 rfl M.gD bI .nil pass0 (pa_cons (pe_ix ix_tup (pe_call (E := E0) GE hr1 rfl gE kE bE .nil pass0 (pa_cons (pv 0) (pa_cons (pv 1) (pa_cons (pv 2) (pa_cons (pe_glob rfl most (show RelV (.int 400) (.int 400 tm) from ⟨tm, rfl⟩)) pa_nil))))) pe_int (fun _ _ => rfl)) pa_nil))), ?_⟩
    refine ⟨_, rfl, _, rfl, _, rfl, L, v0, start, fa, G, sp, fn, ok, B, rfl, hL, is0, cv, g0, gk, ok0, okc, hstep, hB, hB4, fun t k r ts vs H1 s1 ht hk hare hr' hobj => ?_⟩
    refine ⟨t, _, _, _, rfl, rfl, SqT.of ht, rfl, ?_⟩
    intro x dx hx hdx ne
    refine ⟨x, dx, _, rfl, upd_same, rfl, ?_⟩
    have s3 : Same H1 (upd (upd (upd H1 dx (.own x)) x (.ins cD dx [])) x (.ins cD dx [("rows", .ref r)])) := fun b o z => by rw [upd_ne (ne_of_none z hx), upd_ne (ne_of_none z hx), upd_ne (ne_of_none z hdx)]; exact z
    exact q x _ (s1.free hx) (s1.trans s3) ⟨dx, r, upd_same, ts, s3 _ _ hr', objs_tup hobj (Same.tup' s3)⟩
end
end WK
set_option Elab.async false
set_option linter.all false
set_option maxRecDepth 100000
set_option maxHeartbeats 8000000
namespace WK
open PySem L2 PyProof.Rows LCX K1 FV DP LamX NdefX
open TX (sg sigs)
open PySem.W (Frag kitOne)
theorem clo_only {cells : List (Str × Addr)} {y : Str} {c : Addr} : ∀ {names : List (Str × NameKind)} {acc : List (Str × Addr)}, (cloFrom cells names acc).lookup y = some c → (y, NameKind.free) ∈ names ∨ acc.lookup y = some c
  | [], _, h => .inr h
  | (n, k) :: r, acc, h => by
    unfold cloFrom at h
    by_cases hk : (k == NameKind.free) = true
    · rw [if_pos hk] at h
      rcases clo_only h with z | z
      · exact .inl (.tail _ z)
      · rw [List.lookup_cons] at z
        by_cases hy : (y == n) = true
        · have e1 : y = n := beq_iff_eq.mp hy
          have e2 : k = .free := by cases k <;> first | rfl | cases hk
          rw [e1, e2]
          exact .inl (.head _)
        · rw [show (y == n) = false from Bool.eq_false_iff.mpr hy] at z
          exact .inr z
    · rw [if_neg hk] at h
      rcases clo_only h with z | z
      · exact .inl (.tail _ z)
      · exact .inr z
end WK
set_option Elab.async false
set_option linter.all false
set_option maxRecDepth 100000
set_option maxHeartbeats 8000000
namespace WK
open PySem L2 PyProof.Rows LCX K1 FV DP LamX NdefX
open TX (sg sigs)
open PySem.W (Frag kitOne)
theorem Grows.refl {T : List (Addr × Str)} {H : Hp} (t : Tabs T H) : Grows T H H := ⟨ExtN.refl H, t, fun _ h => h⟩
theorem grows_same {T : List (Addr × Str)} {H H1 H2 : Hp} (a : Grows T H H1) (s : Same H1 H2) : Grows T H H2 := ⟨fun b o e n => s _ _ (a.1 b o e n), a.2.1.ext s, fun d n => a.2.2 d (s.free n)⟩
/-- what a call that was told of cells made, told without them -/
theorem same_off {cs : Cs} {H H' : Hp} (n : ∀ p ∈ cs, H p.1 = none) (s : Same (onn cs H) H') : Same H (off cs H') := fun b o e => by
  have nb : b ∉ cs.map (·.1) := fun z => by
    obtain ⟨p, hp, rfl⟩ := List.mem_map.mp z
    rw [n p hp] at e
    cases e
  rw [off_out nb]
  exact s b o (by rw [onn_out nb]; exact e)
theorem lay_same {cs : Cs} {H H' : Hp} (nd : (cs.map (·.1)).Nodup) (s : Same (onn cs H) H') : Lay cs H' := fun p hp => s _ _ (onn_lay nd p hp)
theorem madeAt_off {cs : Cs} {cD : Addr} {H : Hp} {g : Addr} {tb : List (List Int)} (l : Lay cs H) (m : MadeAt cD H g tb) : MadeAt cD (off cs H) g tb := by
  obtain ⟨dx, r, h1, ts, h2, h3⟩ := m
  exact ⟨dx, r, by rw [off_out (lay_not l h1 fun _ z => nomatch z)]; exact h1, ts, by rw [off_out (lay_not l h2 fun _ z => nomatch z)]; exact h2, h3.to fun a _ r z => by rw [off_out (lay_not l z fun _ z => nomatch z)]; exact z⟩
theorem off_keep {cs : Cs} {H : Hp} {b : Addr} {o : HO} (l : Lay cs H) (e : H b = some o) (n : ∀ φ, o ≠ .ext φ) : FV.off cs H b = some o := by
  rw [off_out (lay_not l e n)]
  exact e
theorem same_on {cs : Cs} {H H' : Hp} (l : Lay cs H) (nd : (cs.map (·.1)).Nodup) (s : Same (FV.off cs H) H') (n : ∀ p ∈ cs, H' p.1 = none) : Same H (onn cs H') := fun b o e => by
  by_cases hb : b ∈ cs.map (·.1)
  · obtain ⟨p, hp, rfl⟩ := List.mem_map.mp hb
    rw [onn_lay nd p hp, ← l p hp]
    exact e
  · rw [onn_out hb]
    exact s b o (by rw [off_out hb]; exact e)
theorem on_keep {cs : Cs} {H : Hp} {b : Addr} {o : HO} (n : ∀ p ∈ cs, H p.1 = none) (e : H b = some o) : onn cs H b = some o := by
  rw [onn_out fun z => ?_]
  · exact e
  · obtain ⟨p, hp, rfl⟩ := List.mem_map.mp z
    rw [n p hp] at e
    cases e
end WK
set_option Elab.async false
set_option linter.all false
set_option maxRecDepth 100000
set_option maxHeartbeats 8000000
namespace ZPT
open PySem PySem.Spec PyProof.Rows L2
/-- each sign with the tuple's item, in a new pair -/
def ZiST (K : PySem.W.Frag) (x : Str) (a : Addr) (ys : List V) : It :=
  ⟨fun i H => SqT K H a ys ∧ i < x.cps.size ∧ i < ys.length, fun i H v H' => ∃ T c y, v = .ref T ∧ H T = none ∧ H' = upd H T (.tup [.str ⟨#[c]⟩, y]) ∧ x.cps[i]? = some c ∧ ys[i]? = some y, fun i H => SqT K H a ys ∧ i = x.cps.size ∧ i ≤ ys.length⟩
theorem tup_is {h : Heap} {a : Addr} {its : Array Value} (p : IsTup h a its) : h.IsTuple a its := let ⟨o, e, c, n, d⟩ := p; ⟨o, e, c, n, d⟩
/-- where it stands, i pairs out -/
def At (x : Str) (t : Tok) (a z TI TO i1 i2 : Addr) (i : Nat) (h : Heap) : Prop :=
  IsZip h z TI TO .none ∧ IsTupOf2 h TI (.ref i1) (.ref i2) ∧ (∃ p q, IsTupOf2 h TO p q) ∧ h.IsStrIter i1 (strIterType x) x t i ∧ h.IsTupleIter i2 a i
theorem turn_st {P : Program} {w : World} {K : PySem.W.Frag} {elts : List Expr} {kk : Nat} {tpos : Pos} (x : Str) (t : Tok) (a : Addr) (ys : List V) {z TI TO i1 i2 : Addr} (S : ZipSep2 z TI TO i1 i2 [i1] [i2, a]) (hai : a ≠ i2) :
    Turn P w K (.Tuple elts kk tpos) (ZiST K x a ys) [z, TI, TO, i1, i2] z (At x t a z TI TO i1 i2) where
  mem := .head _
  obj := fun i h ⟨hz, h1, ⟨p, q, h2⟩, ⟨o3, h3, _, d3⟩, ⟨o4, h4, _, d4⟩⟩ b hb => by
    simp only [List.mem_cons, List.not_mem_nil, or_false] at hb
    rcases hb with rfl | rfl | rfl | rfl | rfl
    · exact ⟨_, hz, fun v q => nomatch q⟩
    · exact ⟨_, h1, fun v q => nomatch q⟩
    · exact ⟨_, h2, fun v q => nomatch q⟩
    · exact ⟨o3, h3, fun v q => nomatch d3.symm.trans q⟩
    · exact ⟨o4, h4, fun v q => nomatch d4.symm.trans q⟩
  keep := fun i h h' ⟨hz, h1, ⟨p, q, h2⟩, ⟨o3, e3, r3⟩, h4⟩ k => ⟨k z (by simp) _ hz, k TI (by simp) _ h1, ⟨p, q, k TO (by simp) _ h2⟩, ⟨o3, k i1 (by simp) _ e3, r3⟩, h4.at fun o e => k i2 (by simp) o e⟩
  item := by
    intro X hP hw hK hc i pins s σ H E I hf ⟨hz, h1, ⟨p, q, h2⟩, h3, h4⟩ ⟨hT, hi1, hi2⟩
    subst hP hw hK
    obtain ⟨its, rv, pt, _⟩ := I.tuple hT
    have hl : its.toArray.size = ys.length := by rw [List.size_toArray, rv.length]
    have D1 := Draws.text (prog := X.prog) (w := X.w) (A := X.A.in1) (I.ok.hd hc) i1 x t
    have D2 := Draws.tuple (prog := X.prog) (w := X.w) (A := X.A.in1) (I.ok.hd hc) i2 a hai its.toArray
    have zlt : z < s.heap.objs.size := Heap.lt_size hz
    have old : ∀ b ∈ [z, TI, TO, i1, i2], b < s.heap.objs.size := fun b hb => by
      simp only [List.mem_cons, List.not_mem_nil, or_false] at hb
      rcases hb with rfl | rfl | rfl | rfl | rfl
      · exact zlt
      · exact Heap.lt_size h1
      · exact Heap.lt_size h2
      · obtain ⟨o, e, _⟩ := h3
        exact Heap.lt_size e
      · obtain ⟨o, e, _⟩ := h4
        exact Heap.lt_size e
    refine wpAny_pyNext_zipD2_item S D1 D2 hz h1 h2 h3 ⟨h4, tup_is pt⟩ hi1 (by rw [hl]; exact hi2) fun u v h' tk hu hv z1 TO1 n1 n2 made size kp => ?_
    obtain ⟨c, tc, hc', rfl⟩ := hu
    obtain ⟨y, hy⟩ : ∃ y, ys[i]? = some y := ⟨_, List.getElem?_eq_getElem hi2⟩
    obtain ⟨v2, e2, ry⟩ := rv.get hy
    have ev : v2 = v := Option.some.inj (e2.symm.trans (by rw [← List.getElem?_toArray]; exact hv))
    subst ev
    refine ⟨_, rfl, wpAny_letOwnedTupleGo_zip (s := { s with heap := h', toks := tk }) z1 fun h'' z2 sb => ?_⟩
    have free : H s.heap.objs.size = none := I.hok.fresh (Nat.le_refl _)
    have pair : h''.get? s.heap.objs.size = some { cls := .type "tuple", data := .seq #[.str ⟨#[c]⟩ tc, v2] } := (sb.2 _ (Nat.ne_of_gt zlt)).trans made
    have new : ObjOk X.prog X.w (upd H s.heap.objs.size (.tup [.str ⟨#[c]⟩, y])) h'' s.heap.objs.size (.tup [.str ⟨#[c]⟩, y]) := ⟨by show 2 ≤ sizeLine; decide, [.str ⟨#[c]⟩ tc, v2], .cons ⟨tc, rfl⟩ (.cons ry .nil), _, pair, rfl, _, rfl⟩
    have stay : ∀ b o, b ∉ [z, TI, TO, i1, i2] → s.heap.get? b = some o → h''.get? b = some o := fun b o hb e => (sb.2 b fun w => hb (by simp [w])).trans (kp b o (fun w => hb (by simp [w])) (fun w => hb (by simp [w])) (fun w => hb (by simp [w])) (fun w => hb (by simp [w])) e)
    refine ⟨.ref s.heap.objs.size, _, I.turnedNew (ch := [z, TI, TO, i1, i2]) stay hf (Nat.le_refl _) new, rfl, ⟨_, c, y, rfl, free, rfl, hc', hy⟩, ⟨z2, ?_, ⟨_, _, (sb.2 _ S.TOz).trans TO1⟩, ?_, ?_⟩, fun b hb => ?_⟩
    · exact (sb.2 _ S.TIz).trans (kp _ _ S.TIz S.TITO S.TIi1 S.TIi2 h1)
    · obtain ⟨o, e, r⟩ := n1
      exact ⟨o, (sb.2 _ S.zi1.symm).trans e, r⟩
    · exact n2.1.at fun o e => (sb.2 _ S.zi2.symm).trans e
    · rw [upd_ne (Nat.ne_of_lt (old b hb))]
      exact (hf b hb).1
  done := by
    intro X hP hw hK hc i pins s σ H E I hf ⟨hz, h1, ⟨p, q, h2⟩, h3, h4⟩ ⟨hT, hi1, hi2⟩
    subst hP hw hK
    obtain ⟨its, rv, pt, _⟩ := I.tuple hT
    have hl : its.toArray.size = ys.length := by rw [List.size_toArray, rv.length]
    have D1 := Draws.text (prog := X.prog) (w := X.w) (A := X.A.in1) (I.ok.hd hc) i1 x t
    have D2 := Draws.tuple (prog := X.prog) (w := X.w) (A := X.A.in1) (I.ok.hd hc) i2 a hai its.toArray
    exact wpAny_pyNext_zipD2_end S D1 D2 hz h1 h2 h3 ⟨h4, tup_is pt⟩ (Nat.le_of_eq hi1) (by rw [hl]; exact hi2) (.inl hi1) fun h' tk kp => ⟨rfl, I.turnedL (t' := tk) (ch := [z, TI, TO, i1, i2]) (fun b o hb e =>
      kp b o (fun w => hb (by simp [w])) (fun w => hb (by simp [w])) (fun w => hb (by simp [w])) (fun w => hb (by simp [w])) e) hf⟩
  self := fun _ _ _ _ _ st q => wpAny_pyIter_zip st.1 q
def iZipST (K : PySem.W.Frag) (ta : TA) : TI := fun σ H R => ta σ H fun vs H1 => ∃ x a ys, vs = [.str x, .ref a] ∧ SqT K H1 a ys ∧ R (ZiST K x a ys) H1
theorem pi_zipST {X : Cx} {e e2 : Expr} {ta : TA} {p pos tpos : Pos} {elts : List Expr} {kk : Nat} (hg : Gl X "zip") (hm : X.mg "zip" = none) (ha : PA X [e, e2] ta)
    (hs : starEach [e, e2] X.env = (false, eval e X.env) :: starEach [e2] X.env := by rfl) (hpl : (backTo pos (starEach [e2] X.env)).any (·.1) = false := by rfl) :
    PI X (.Tuple elts kk tpos) (.Call (.Name "zip" p) [e, e2] [] pos) (iZipST X.K ta) := by
  refine ⟨fun pins s σ H R I h => Call_ (ld_blt I hg hm PyProof.Rows.boot_zip (PyProof.Rows.callWith_type1 (thn (ha.run pos pins s σ H _ I h) fun us s1 ⟨vs, H1, I1, r1, x, a, ys, ex, hT, q⟩ => ?_) hs hpl))⟩
  subst ex
  cases r1 with
  | cons r rr =>
   cases rr with
   | cons r' rr =>
    cases rr
    obtain ⟨t, rfl⟩ := r
    cases r'
    obtain ⟨its, rv, pt, _⟩ := I1.tuple hT
    obtain ⟨o, ho, _⟩ := id pt
    have lt := Heap.lt_size ho
    refine zip_begins2 (begins_text x t) (begins_tuple a its.toArray) trivial (tup_is pt) fun h' hz hTI hTO g1 g2 size kp => wpAny_pyIter_zip hz ?_
    have fresh : ∀ b ∈ [s1.heap.objs.size + 4, s1.heap.objs.size + 2, s1.heap.objs.size + 3, s1.heap.objs.size, s1.heap.objs.size + 1], FpOk X pins H1 b := fun b hb => by
      have le : s1.heap.objs.size ≤ b := by
        have hb' : b = s1.heap.objs.size + 4 ∨ b = s1.heap.objs.size + 2 ∨ b = s1.heap.objs.size + 3 ∨ b = s1.heap.objs.size ∨ b = s1.heap.objs.size + 1 := by simpa using hb
        rcases hb' with z | z | z | z | z <;> rw [z] <;> first | exact Nat.le_refl _ | exact Nat.le_add_right _ _
      exact I1.fpOk le (I1.hok.fresh le)
    have S := zip_sep2 (N := s1.heap.objs.size) (fp1 := []) (fp2 := [a]) (fun _ h => (List.not_mem_nil h).elim) fun b hb => by rw [List.mem_singleton.mp hb]; exact lt
    exact ⟨s1.heap.objs.size + 4, [s1.heap.objs.size + 4, s1.heap.objs.size + 2, s1.heap.objs.size + 3, s1.heap.objs.size, s1.heap.objs.size + 1], _, _, H1, rfl, I1.kept (t' := s1.toks) kp, turn_st x t a ys S (Nat.ne_of_lt (Nat.lt_succ_of_lt lt)), ⟨hz, hTI, ⟨_, _, hTO⟩, ⟨_, g1, rfl, rfl⟩, ⟨_, g2, rfl, rfl⟩⟩, fresh, q⟩
theorem walk_st {K : PySem.W.Frag} {x : Str} {a : Addr} {ys : List V} (hl : x.cps.size = ys.length) : Walk (ZiST K x a ys) x.cps.size (fun H => SqT K H a ys) (YPair (fun i => (x.cps[i]?).map fun c => V.str ⟨#[c]⟩) (fun i => ys[i]?)) :=
  ⟨fun i H hi q => ⟨q, hi, by omega⟩, fun H q => ⟨q, rfl, by omega⟩, fun i H v H' _ _ ⟨T, c, y, e1, e2, e3, e4, e5⟩ => ⟨T, _, y, e1, e2, e3, by show Option.map _ (x.cps[i]?) = _; rw [e4] <;> rfl, e5⟩⟩
end ZPT
set_option Elab.async false
set_option linter.all false
set_option maxRecDepth 100000
set_option maxHeartbeats 4000000
namespace NCX
open PySem PySem.Spec PyProof.Rows L2 LamX NdefX
/-- the new cells lie ahead of the captured ones -/
theorem cf_app : ∀ (names : List (Str × NameKind)) (n : Nat) (acc : List (Str × Addr)), cellsFrom n names acc = cellsFrom n names [] ++ acc
  | [], _, _ => rfl
  | (x, k) :: r, n, acc => by
    unfold cellsFrom
    split
    · rw [cf_app r (n + 1) ((x, n) :: acc), cf_app r (n + 1) [(x, n)], List.append_assoc] <;> rfl
    · exact cf_app r n acc
theorem look_app {α : Type} {x : Str} : ∀ (l m : List (Str × α)), (l ++ m).lookup x = (l.lookup x).or (m.lookup x)
  | [], _ => rfl
  | (y, a) :: l, m => by
    rw [List.cons_append, List.lookup_cons, List.lookup_cons]
    cases x == y with
    | true => rfl
    | false => exact look_app l m
theorem own_look {names : List (Str × NameKind)} {n : Nat} {cl : List (Str × Addr)} {x : Str} {c : Addr} (h : (cellsFrom n names []).lookup x = some c) : (cellsFrom n names cl).lookup x = some c := by
  rw [cf_app, look_app, h] <;> rfl
theorem two_look {names : List (Str × NameKind)} {n : Nat} {cl : List (Str × Addr)} {x : Str} {c : Addr} (h : (cellsFrom n names cl).lookup x = some c) : (cellsFrom n names []).lookup x = some c ∨ ((cellsFrom n names []).lookup x = none ∧ cl.lookup x = some c) := by
  rw [cf_app, look_app] at h
  cases e : (cellsFrom n names []).lookup x with
  | some d =>
    rw [e] at h
    exact .inl h
  | none =>
    rw [e] at h
    exact .inr ⟨rfl, h⟩
theorem own_only : ∀ (names : List (Str × NameKind)) (n : Nat) (acc : List (Str × Addr)) {x : Str} {c : Addr}, (cellsFrom n names acc).lookup x = some c → (∃ q ∈ names, q.1 = x ∧ q.2 = .cell) ∨ acc.lookup x = some c
  | [], _, _, _, _, h => .inr h
  | (y, k) :: r, n, acc, x, c, h => by
    unfold cellsFrom at h
    split at h
    · rename_i hk
      rcases own_only r _ _ h with ⟨q, h1, h2⟩ | z
      · exact .inl ⟨q, .tail _ h1, h2⟩
      · rw [List.lookup_cons] at z
        cases e : x == y with
        | true => exact .inl ⟨_, .head _, (beq_iff_eq.mp e).symm, beq_iff_eq.mp hk⟩
        | false =>
          rw [e] at z
          exact .inr z
    · rcases own_only r _ _ h with ⟨q, h1, h2⟩ | z
      · exact .inl ⟨q, .tail _ h1, h2⟩
      · exact .inr z
section
variable {M : Model} {A : Around} {E : Value → Shared → Prop} {s₀ s : Shared} {env : Env} {cs : List (Str × Addr)}
/-- the parameters are stored, where the frame's own cells are cs -/
theorem bindN (f : Str × Value → PUnit → Sem (ForInStep PUnit)) (hf : ∀ n v u, f (n, v) u = (do storeName env n v; pure (.yield ⟨⟩))) (hk : env.scope.kind = .function) :
    ∀ (binds : List (Str × Value)) (m cm : Str → Option Value) (s : Shared) (Q : PUnit → Shared → Prop), InCallC s₀ env.locals m cs cm s →
      (∀ x ∈ binds, env.kindOf x.1 = some .local ∨ (env.kindOf x.1 = some .cell ∧ ∃ c, env.cells.lookup x.1 = some c ∧ cs.lookup x.1 = some c)) →
      (∀ s', InCallC s₀ env.locals (bindL env.kindOf binds m) cs (bindC env.kindOf binds cm) s' → Q ⟨⟩ s') → wpAny M A (forIn binds ⟨⟩ f) Q E s
  | [], m, cm, s, Q, x, _, h => by
    rw [List.forIn_nil]
    exact wpAny_pure (h s x)
  | (n, v) :: r, m, cm, s, Q, x, kinds, h => by
    rw [List.forIn_cons, hf]
    have rest := fun y hy => kinds y (List.mem_cons_of_mem _ hy)
    have same : storeName env n v = storeName { env with cells := cs } n v := by
      rcases kinds (n, v) (.head _) with hl | ⟨hl, c, h1, h2⟩
      · unfold storeName
        have hl2 : ({ env with cells := cs } : Env).kindOf n = some .local := hl
        rw [hl, hl2]
        rfl
      · unfold storeName
        have hl2 : ({ env with cells := cs } : Env).kindOf n = some .cell := hl
        rw [hl, hl2]
        simp only [PySem.cellOf, h1, h2]
        rfl
    rw [same]
    rcases kinds (n, v) (.head _) with hl | ⟨hl, c, h1, h2⟩
    · refine wpAny_bind (wpAny_bind (stLC (env := { env with cells := cs }) x hk hl fun s' x' => wpAny_pure (bindN f hf hk r _ _ s' Q x' rest fun s'' x'' => h s'' ?_)))
      unfold bindL bindC
      rw [if_pos hl, if_pos hl]
      exact x''
    · have hnl : ¬ env.kindOf n = some .local := by rw [hl]; decide
      refine wpAny_bind (wpAny_bind (stCC (env := { env with cells := cs }) x hk hl h2 fun s' x' => wpAny_pure (bindN f hf hk r _ _ s' Q x' rest fun s'' x'' => h s'' ?_)))
      unfold bindL bindC
      rw [if_neg hnl, if_neg hnl]
      exact x''
theorem frame_made {scope : Scope} {globals : Addr} {cl : List (Str × Addr)} {binds : List (Str × Value)} {qual : Str} {func : Option Addr} {code : Value} {builtins : Addr} {Q : Env → Shared → Prop} (hk : scope.kind = .function)
    (kinds : ∀ x ∈ binds, scope.names.lookup x.1 = some .local ∨ scope.names.lookup x.1 = some .cell)
    (h : ∀ env, env = newEnv scope s.heap.objs.size globals (cellsFrom (s.heap.objs.size + 1) scope.names cl) qual func code none builtins →
      ∀ s', InCallC s env.locals (bindL env.kindOf binds fun _ => none) (cellsFrom (s.heap.objs.size + 1) scope.names []) (bindC env.kindOf binds fun _ => none) s' → Q env s') :
    wpAny M A (newFunctionEnv scope globals cl binds qual func code none builtins) Q E s := by
  simp only [newFunctionEnv, Option.isSome_none, Bool.false_eq_true, if_false]
  refine wpAny_bind (wpAny_alloc (wpAny_bind (wpAny_layCells _ (fun name kind cells => by cases hkc : kind == NameKind.cell <;> simp [hkc]) _ _ _ _ ?_)))
  have size : (s.heap.push { cls := .type "frame", data := .dict #[] }).objs.size = s.heap.objs.size + 1 := Heap.size_push ..
  have ok := cellsFrom_ok scope.names (s.heap.push { cls := .type "frame", data := .dict #[] }) (s.heap.objs.size + 1) [] ⟨fun _ _ hm => (nomatch hm), List.Pairwise.nil⟩ (Nat.le_of_eq size.symm)
  rw [size] at ok
  rw [show ({ s with heap := s.heap.push { cls := .type "frame", data := .dict #[] } } : Shared).heap.objs.size = s.heap.objs.size + 1 from size]
  refine wpAny_bind (bindN (s₀ := s) (env := newEnv scope s.heap.objs.size globals (cellsFrom (s.heap.objs.size + 1) scope.names cl) qual func code none builtins) _ (fun _ _ _ => rfl) hk binds (fun _ => none) (fun _ => none) _ _
    ⟨⟨⟨_, _, rfl⟩, (Heap.Ns.new s.heap (.type "frame")).keeps (pushCells_keeps _ _), fun b o e => pushCells_keeps _ _ b o (Heap.get?_push_of_some _ e), Nat.le_refl _⟩, fun n c hc => (ok.empty n c (mem_of_lookup hc)).1, ok.apart, fun n c hm => (ok.empty n c hm).2⟩
    (fun x hx => (kinds x hx).imp id fun z => ?_) fun s' x => wpAny_pure (h _ rfl s' x))
  obtain ⟨c, hc⟩ := Option.isSome_iff_exists.mp (PySem.W.cellsFrom_some scope.names (s.heap.objs.size + 1) [] (.inl z))
  exact ⟨z, c, own_look hc, hc⟩
end
/-- how a def's names lie: those it is asked with, those it caught, its own; what it is asked with may be kept in a cell -/
structure NScopeC (N asked caught : List Str) (sc : Scope) : Prop where
  plain : sc.kind = .function ∧ sc.isCoroutine = false ∧ sc.isGenerator = false
  lie : ∃ own : List Str, N = asked ++ (caught ++ own)
  nd : N.Nodup
  ask : ∀ p ∈ asked, sc.names.lookup p = some .local ∨ sc.names.lookup p = some .cell
  got : ∀ p ∈ caught, sc.names.lookup p = some .free ∧ (p, NameKind.cell) ∉ sc.names
  only : ∀ q ∈ sc.names, q.2 = .free → q.1 ∈ caught
/-- what a slot holds at the entry: what was asked, or what was caught -/
theorem slot_of {N asked caught own : List Str} (e : N = asked ++ (caught ++ own)) {vs : List V} {ws : List (Option V)} (la : vs.length = asked.length) (lc : ws.length = caught.length) {i : Nat} {y : Str} {v : V} (hy : N[i]? = some y) (hv : (startF N vs ws)[i]? = some (some v)) :
    (asked[i]? = some y ∧ vs[i]? = some v) ∨ ∃ j : Nat, caught[j]? = some y ∧ ws[j]? = some (some v) := by
  subst e
  unfold startF at hv
  rcases Nat.lt_or_ge i asked.length with lt | ge
  · left
    rw [List.getElem?_append_left (by rw [List.length_map]; omega), List.getElem?_map, Option.map_eq_some_iff] at hv
    obtain ⟨z, h1, h2⟩ := hv
    cases h2
    exact ⟨by rw [List.getElem?_append_left lt] at hy; exact hy, h1⟩
  · right
    rw [List.getElem?_append_right ge] at hy
    rw [List.getElem?_append_right (by rw [List.length_map]; omega), List.length_map, la] at hv
    generalize i - asked.length = j at hy hv
    rcases Nat.lt_or_ge j caught.length with lt | ge2
    · rw [List.getElem?_append_left (Nat.lt_of_lt_of_eq lt lc.symm)] at hv
      rw [List.getElem?_append_left lt] at hy
      exact ⟨j, hy, hv⟩
    · rw [List.getElem?_append_right (Nat.le_trans (Nat.le_of_eq lc) ge2)] at hv
      cases (List.mem_replicate.mp (List.mem_of_getElem? hv)).2
abbrev envC (F : NF) (f L : Addr) : Env := PySem.W.envX F.qual F.scope L f (.ref F.c) (cellsFrom (L + 1) F.scope.names F.cl)
/-- where its body runs -/
def ccx (CX : CXT) (P : Program) (w : World) (K : PySem.W.Frag) (mg : Str → Option Value) (base : Heap) (N : List Str) (F : NF) (f : Addr) (A : Around) (outer : List Env) (s : Shared) (H : Hp) (E : XK) : Cx :=
  let here := envC F f s.heap.objs.size
  { prog := P, w := w, K := K, mg := mg, base := base, A := A.deeper here, N := N, s_0 := s, H_0 := H, env := here, outer := outer, stack := here :: outer, ex := [], calm := true, fn := fun _ => false, pn := [],
    xe := fun e s' => wpAny (model P w) (A.deeper here) (leaving here e) (fun _ s'' => CX outer H s E e s'') (fun e' s'' => CX outer H s E e' s'') s' }
section
variable {CX : CXT} {P : Program} {w : World} {K : PySem.W.Frag} {mg : Str → Option Value} {base : Heap} {N ps fr : List Str} {F : NF} {f : Addr} {A : Around} {outer : List Env} {s s1 : Shared} {H : Hp} {E : XK} {us : List Value} {vs : List V} {ws : List (Option V)} {k : Nat} {sp : List (Option V) → Sp}
/-- a name asked, once it was stored -/
theorem asked_at (S : NScopeC N ps fr F.scope) {i : Nat} {y : Str} {u : Value} (hp : ps[i]? = some y) (hu : us[i]? = some u)
    (x : InCallC s s.heap.objs.size (bindL (envC F f s.heap.objs.size).kindOf (ps.zip us) fun _ => none) (cellsFrom (s.heap.objs.size + 1) F.scope.names []) (bindC (envC F f s.heap.objs.size).kindOf (ps.zip us) fun _ => none) s1) :
    (F.scope.names.lookup y = some .local ∧ bindL (envC F f s.heap.objs.size).kindOf (ps.zip us) (fun _ => none) y = some u) ∨
    (F.scope.names.lookup y = some .cell ∧ ∃ c, (cellsFrom (s.heap.objs.size + 1) F.scope.names F.cl).lookup y = some c ∧ s1.heap.IsCell c (some u)) := by
  obtain ⟨own, e⟩ := S.lie
  have once : ps.Nodup := (List.nodup_append.mp (e ▸ S.nd)).1
  rcases S.ask y (List.mem_of_getElem? hp) with here | here
  · exact .inl ⟨here, bindL_get once hp hu here⟩
  · obtain ⟨c, hc⟩ := Option.isSome_iff_exists.mp (PySem.W.cellsFrom_some F.scope.names (s.heap.objs.size + 1) [] (.inl here))
    have held := x.cell y c hc
    rw [bindC_get once hp hu (fun z => by cases here.symm.trans z)] at held
    exact .inr ⟨here, c, own_look hc, held⟩
/-- a caught name finds the cell that it was caught with -/
theorem caught_at (S : NScopeC N ps fr F.scope) {n : Nat} {y : Str} {c : Addr} (hy : y ∈ fr) (hc : F.cl.lookup y = some c) : (cellsFrom n F.scope.names F.cl).lookup y = some c := by
  rw [cf_app, look_app]
  cases e : (cellsFrom n F.scope.names []).lookup y with
  | none => exact hc
  | some d =>
    rcases own_only _ _ _ e with ⟨⟨q1, q2⟩, hq, rfl, rfl⟩ | z
    · exact absurd hq (S.got _ hy).2
    · cases z
theorem inv_startC (S : NScopeC N ps fr F.scope) (hd : A.handled = none) (e0 : Env0 P w K mg base A outer s H) (hl : vs.length = ps.length) (r : Vals vs us) (C : CellsAt F.cl fr ws s.heap H)
    (x : InCallC s s.heap.objs.size (bindL (envC F f s.heap.objs.size).kindOf (ps.zip us) fun _ => none) (cellsFrom (s.heap.objs.size + 1) F.scope.names []) (bindC (envC F f s.heap.objs.size).kindOf (ps.zip us) fun _ => none) s1) :
    Inv (ccx CX P w K mg base N F f A outer s H E) [] (startF N vs ws) H s1 := by
  obtain ⟨own, lie⟩ := S.lie
  have kept := x.done
  obtain ⟨_, tk, rfl, hk⟩ := kept
  have none_out : ∀ b : Addr, ¬ b ∈ (ccx CX P w K mg base N F f A outer s H E).ex := fun b z => List.not_mem_nil (show b ∈ ([] : List Addr) from z)
  have before : ∀ {y : Str} {c : Addr}, F.cl.lookup y = some c → c < s.heap.objs.size := fun {y c} e => (C.all y c e).2.elim fun _ z => z.elim fun _ z => Heap.lt_size z.1
  have after : ∀ {y : Str} {c : Addr}, (cellsFrom (s.heap.objs.size + 1) F.scope.names []).lookup y = some c → s.heap.objs.size < c := fun {y c} e => x.above y c (mem_of_lookup e)
  have found : ∀ y : Str, F.scope.names.lookup y = some .cell ∨ F.scope.names.lookup y = some .free → ∃ c, (cellsFrom (s.heap.objs.size + 1) F.scope.names F.cl).lookup y = some c := fun y hy => by
    rcases hy with z | z
    · exact Option.isSome_iff_exists.mp (PySem.W.cellsFrom_some _ _ _ (.inl z))
    · have inF := S.only _ (mem_of_lookup z) rfl
      obtain ⟨j, hj⟩ := List.mem_iff_getElem?.mp inF
      obtain ⟨c, hc, _⟩ := C.has j y hj
      exact ⟨c, caught_at S inF hc⟩
  have one : ∀ (y z : Str) (c : Addr), (cellsFrom (s.heap.objs.size + 1) F.scope.names F.cl).lookup y = some c → (cellsFrom (s.heap.objs.size + 1) F.scope.names F.cl).lookup z = some c → y = z := fun y z c h1 h2 => by
    rcases two_look h1 with a | ⟨_, a⟩ <;> rcases two_look h2 with b | ⟨_, b⟩
    · exact name_of_addr x.apart (mem_of_lookup a) (mem_of_lookup b)
    · exact absurd (Nat.lt_trans (after a) (before b)) (Nat.lt_irrefl _)
    · exact absurd (Nat.lt_trans (after b) (before a)) (Nat.lt_irrefl _)
    · exact C.inj y z c a b
  have slots : ∀ (i : Nat) (y : Str) (v : V), N[i]? = some y → (startF N vs ws)[i]? = some (some v) → ∃ u, L2.RelV v u ∧ ((F.scope.names.lookup y = some .local ∧ bindL (envC F f s.heap.objs.size).kindOf (ps.zip us) (fun _ => none) y = some u) ∨
      ((F.scope.names.lookup y = some .cell ∨ F.scope.names.lookup y = some .free) ∧ ∃ c, (cellsFrom (s.heap.objs.size + 1) F.scope.names F.cl).lookup y = some c ∧ Heap.IsCell _ c (some u))) := fun i y v hy hv => by
    rcases slot_of lie hl C.len hy hv with ⟨a, b⟩ | ⟨j, a, b⟩
    · obtain ⟨u, hu, rv⟩ := r.get b
      exact ⟨u, rv, (asked_at S a hu x).imp id fun z => ⟨.inl z.1, z.2⟩⟩
    · obtain ⟨c, hc, told⟩ := C.has j y a
      obtain ⟨u, ru, o, ho, hd⟩ := told v b
      have inF := List.mem_of_getElem? a
      exact ⟨u, ru, .inr ⟨.inr (S.got y inF).1, c, caught_at S inF hc, o, hk _ _ ho, hd⟩⟩
  refine ⟨⟨e0.mod, S.plain.1, rfl, rfl, Nat.le_refl _, one, found, fun y c h _ => (Bool.false_ne_true h).elim, fun _ => hd, Around.frames_deeper e0.frames, .inr ⟨rfl, rfl⟩, fun b z => absurd z (none_out b), e0.bs, e0.bsz, fun b _ _ => none_out b, fun b z => absurd z (none_out b), e0.funs, e0.frf⟩,
    rfl, e0.bare, Un.kept hk, ⟨_, x.toInCall.ns, fun i y v a b _ => slots i y v a b⟩, fun y c h => ?_, e0.hok.fresh (Nat.le_refl _), fun y c h => ?_, fun p hp => (List.not_mem_nil hp).elim, e0.hok.kept hk, ?_⟩
  · rcases two_look h with a | ⟨_, a⟩
    · exact ⟨_, x.cell y c a⟩
    · exact (C.all y c a).2.elim fun v z => z.elim fun o z => ⟨v, o, hk _ _ z.1, z.2⟩
  · exact (two_look h).elim (fun a => e0.hok.fresh (Nat.le_of_lt (after a))) fun a => (C.all y c a.2).1
  · have lens := congrArg List.length lie
    have lc := C.len
    simp only [List.length_append] at lens
    show (List.map some vs ++ (ws ++ List.replicate (N.length - vs.length - ws.length) none)).length = N.length
    simp only [List.length_append, List.length_map, List.length_replicate]
    omega
/-- what a body left is what its call gives -/
theorem left_by {σ' : L2.St} {H' : Hp} {s' : Shared} {v : V} {u : Value} {Q : VK} (J : Inv (ccx CX P w K mg base N F f A outer s H E) [] σ' H' s') (rv : L2.RelV v u) (q : Q v H') : CE outer P w H s Q u s' := by
  exact ⟨v, H', J.os, J.bare, J.base, J.hok, rv, q⟩
/-- a nested def with cells of its own, by its body -/
theorem nokC_of (S : NScopeC N ps fr F.scope) (hb : ∀ (doc pm ctv : Value) (us : List Value), us.length = ps.length → bindArgs (F.fd doc pm ctv) ⟨us, []⟩ = pure (ps.zip us)) (len : ∀ ws vs H Q E, sp ws vs H Q E → vs.length = ps.length)
    (body : ∀ (A : Around) (outer : List Env) (s : Shared) (H : Hp) (vs : List V) (ws : List (Option V)) (Q : VK) (E : XK), Room k (A.deeper (envC F f s.heap.objs.size)) → ws.length = fr.length → sp ws vs H Q E →
      ∃ t, PSs (ccx CX P w K mg base N F f A outer s H E) F.body t ∧ t { nx := fun _ H' => Q .non H', rt := Q } (startF N vs ws) H) : NOk P w K mg base CX (k + 1) f F ps fr sp where
  len := len
  run := fun A outer s H us vs ws Q E hr e0 hf hc C r told => by
    have hl := len _ _ _ _ _ told
    obtain ⟨t, rule, q⟩ := body A outer s H vs ws Q E (hr.deeper _) C.len told
    obtain ⟨_, _, doc, pm, ctv, stands⟩ := fnO_at e0.hok hf
    refine codeAny_call_function hr.depth stands rfl S.plain.2.1 S.plain.2.2 rfl (codeO_at e0.hok hc) ?_
    rw [hb doc pm ctv us (r.length ▸ hl)]
    refine wpAny_pure (frame_made S.plain.1 (fun ⟨n, _⟩ hy => S.ask n (List.of_mem_zip hy).1) fun env he s1 x => ?_)
    cases he
    refine ⟨Heap.NoLimit.keeps (e0.mod.nolimit.keeps fun b o e => (e0.bs b o e).1) x.toInCall.keep, codeAny_func (wpAny_mono (rule.run [] s1 (startF N vs ws) H _ (inv_startC S hr.hd e0 hl r C x) q) (fun fl s' z => ?_) fun _ _ z => z)⟩
    cases fl with
    | ret u => exact let ⟨_, _, _, J, rv, a⟩ := z; left_by J rv a
    | next => exact let ⟨_, _, J, a⟩ := z; left_by J (v := .non) rfl a
    | brk => exact z.elim fun _ z => z.elim fun _ z => z.2.elim
    | cont => exact z.elim fun _ z => z.elim fun _ z => z.2.elim
end
end NCX
set_option Elab.async false
set_option linter.all false
set_option maxRecDepth 100000
set_option maxHeartbeats 8000000
namespace WK
open PySem L2 PyProof.Rows LCX K1 FV DP LamX NdefX NCX
open TX (sg sigs)
open PySem.W (Frag kitOne)
abbrev sCount : Stmt := top 69
abbrev sOneM : Stmt := top 70
abbrev sStep : Stmt := (defBody sCount).getD 0 (.Pass ⟨0, 0, 0, 0⟩)
abbrev qStep : Str := (envOfC "_counting" (defScope sCount) 0 0 .none).qual ++ "step"
/-- one more of a letter, and the counts with a letter more -/
def oneM (cap md n : Int) : Int := if n + 1 < cap + md then n + 1 else cap
def cntF (L : W) (cap md : Int) (a : List Int) (c : Nat) : List Int := (L.zip a).map fun p => if p.1 = c then oneM cap md p.2 else p.2
abbrev zeros (L : W) : List Int := L.map fun _ => 0
def spOneM : Sp := fun vs H Q _ => ∃ n cap md : Int, vs = [.int n, .int cap, .int md] ∧ Q (.int (oneM cap md n)) H
def spStep (ws : List (Option V)) : Sp := fun vs H Q _ => ∃ (b : Addr) (L : W) (a : List Int) (c : Nat) (cap md : Int), ws = [some (.str (tx L)), some (.int cap), some (.int md)] ∧ vs = [.ref b, .str (sg c)] ∧ H b = some (.tup (a.map V.int)) ∧ a.length = L.length ∧ L.length ≤ 3 ∧
  ∀ t H', H t = none → Same H H' → H' t = some (.tup ((cntF L cap md a c).map V.int)) → Q (.ref t) H'
theorem cnt_len (L : W) (cap md : Int) (a : List Int) (c : Nat) (h : a.length = L.length) : (cntF L cap md a c).length = L.length := by
  unfold cntF
  rw [List.length_map, List.length_zip, h, Nat.min_self]
section
variable {P : Program} {w : World} {K : PySem.W.Frag} {mg : Str → Option Value} {base : Heap}
theorem scOM : FnScope ["number", "cap", "modulus"] ["number", "cap", "modulus"] (defScope sOneM) := ⟨rfl, rfl, rfl, by decide +kernel, rfl, by decide +kernel, by decide +kernel⟩
theorem ok_onem {f : Addr} {fd : FuncData} (F : Fun K "_one_more" "_one_more" sOneM f fd) : FnOk P w K mg base CX0 1 f fd ["number", "cap", "modulus"] spOneM := by
  refine F.ok scOM (fun vs H Q E h => ?_) (fun cdv A outer s H vs Q E hr h => ?_)
  · obtain ⟨n, cap, md, rfl, _⟩ := h
    rfl
  · obtain ⟨n, cap, md, rfl, q⟩ := h
    refine ⟨_, pss_one (ps_ret (pe_ifExp (pt_cmpR op_lt (pe_op op_add (pv 0) pe_int) (pe_op op_add (pv 1) (pv 2)) (nomark _)) (pe_op op_add (pv 0) pe_int) (pv 1))), ?_⟩
    refine ⟨_, rfl, _, _, rfl, rfl, _, rfl, _, rfl, _, _, rfl, rfl, _, _, rfl, rfl, _, rfl, ?_⟩
    unfold oneM at q
    by_cases h1 : n + 1 < cap + md
    · rw [if_pos h1] at q
      rw [if_pos (decide_eq_true h1)]
      exact ⟨_, rfl, _, _, rfl, rfl, q⟩
    · rw [if_neg h1] at q
      rw [if_neg fun z => h1 (of_decide_eq_true z)]
      exact ⟨_, rfl, q⟩
abbrev NSt : List Str := ["held", "letter", "letters", "cap", "modulus", "sign", "number"]
theorem scSt : NScopeC NSt ["held", "letter"] ["letters", "cap", "modulus"] (C8.fnScope sStep) := ⟨⟨rfl, rfl, rfl⟩, ⟨["sign", "number"], rfl⟩, by decide +kernel, by decide +kernel, by decide +kernel, by decide +kernel⟩
theorem nok_step {f fO : Addr} {dO : FuncData} {F : NF} (hs : F.scope = C8.fnScope sStep) (hp : F.params = C8.fnArgs sStep) (hbd : F.body = C8.fnBody sStep) (T : TN mg) (AO : Fn K mg "_one_more" sOneM ["number", "cap", "modulus"] fO dO) (GO : FnOk P w K mg base CX0 1 fO dO ["number", "cap", "modulus"] spOneM) :
    NOk P w K mg base CX0 2 f F ["held", "letter"] ["letters", "cap", "modulus"] spStep := by
  obtain ⟨nm, qual, params, body, scope, cl, c⟩ := F
  dsimp only at hs hp hbd
  subst hs
  subst hp
  subst hbd
  refine nokC_of (N := NSt) scSt (fun doc pm ctv us hl => ?_) (fun ws vs H Q E h => ?_) (fun A outer s H vs ws Q E hr hw h => ?_)
  · obtain ⟨a, b, rfl⟩ : ∃ a b, us = [a, b] := by
      match us, hl with
      | [a, b], _ => exact ⟨a, b, rfl⟩
    rfl
  · obtain ⟨b, L, a, c, cap, md, _, rfl, _⟩ := h
    rfl
  · obtain ⟨b, L, a, c, cap, md, rfl, rfl, hb, hl, hL, q⟩ := h
    refine ⟨_, pss_one (ps_ret (pe_callTy call_tuple_of (by rfl) T.tuple (by decide +kernel) (pa_cons (pe_lc (own := [("number", 6), ("sign", 5)]) (g := gTup K 2 (gCons (gName 5) (gCons (gName 6) gNil))) (tt := tYes)
        (te := tIf (tTest (tOp rEq (tVar 5) (tVar 1))) (tCall spOneM [] E0 (tCons (tVar 6) (tCons (tVar 3) (tCons (tVar 4) tNil)))) (tVar 6)) rfl scSt.nd (ZPT.pi_zipST rfl T.zip (pa_cons (pv 2) (pa_cons (pv 0) pa_nil)))
        (blkOk_by (own := [("number", 6), ("sign", 5)]) (N := NSt) (sc := C8.fnScope sStep) (by decide +kernel)) (fun _ _ _ _ _ => pg_tup (by rfl) (pgs_cons (pg_name (i := 5) scSt.nd rfl (Or.inl rfl)) (pgs_cons (pg_name (i := 6) scSt.nd rfl (Or.inl rfl)) pgs_nil))) (fun _ _ _ _ _ => pts_nil)
        (fun _ _ _ _ _ => pe_ifExp (pt_cmpR op_eq (pv 5) (pv 1) (nomark _)) (pe_call GO hr rfl AO.g AO.F.kp AO.b .nil pass0 (pa_cons (pv 6) (pa_cons (pv 3) (pa_cons (pv 4) pa_nil)))) (pv 6))) pa_nil))), ?_⟩
    refine ⟨_, rfl, _, rfl, _, b, _, rfl, SqT.of hb, fun D hD => ?_⟩
    have hz : (tx L).cps.size = (a.map V.int).length := by rw [size_tx, List.length_map, hl]
    refine lc_it (ZPT.walk_st hz) (fun i H3 => Same H H3 ∧ H3 D = some (.lst (((cntF L cap md a c).take i).map V.int))) ⟨same_upd hD, upd_same⟩ (fun i H3 _ ⟨s3, _⟩ => SqT.of (s3 _ _ hb)) ?_ ?_
    · rintro i x H3 H4 hi ⟨s3, hd⟩ ⟨T2, y, z, rfl, hT2, rfl, hy, hz2⟩
      rw [size_tx] at hi
      have hia : i < a.length := by omega
      have hy' : y = .str (sg L[i]) := by
        have : (tx L).cps[i]? = some L[i] := by rw [← Array.getElem?_toList, tx_list, List.getElem?_eq_getElem hi]
        have hy2 : Option.map (fun c => V.str ⟨#[c]⟩) ((tx L).cps[i]?) = some y := hy
        rw [this] at hy2
        exact (Option.some.inj hy2).symm
      have hz' : z = .int a[i] := by
        have hz3 : (a.map V.int)[i]? = some z := hz2
        rw [List.getElem?_map, List.getElem?_eq_getElem hia] at hz3
        exact (Option.some.inj hz3).symm
      subst hy'
      subst hz'
      have s4 : Same H3 (upd H3 T2 (.tup [.str (sg L[i]), .int a[i]])) := same_upd hT2
      have tk : (cntF L cap md a c).take (i + 1) = (cntF L cap md a c).take i ++ [if L[i] = c then oneM cap md a[i] else a[i]] := by
        rw [List.take_add_one]
        congr 1
        unfold cntF
        rw [List.getElem?_map, List.getElem?_eq_getElem (by rw [List.length_zip]; omega)]
        simp
      have fewD : (((cntF L cap md a c).take i).map V.int).length < sizeLine := by
        rw [List.length_map, List.length_take, sizeLine_eq]
        omega
      refine ⟨T2, _, rfl, SqT.of upd_same, rfl, _, _, rfl, _, _, rfl, rfl, rfl, _, rfl, _, rfl, rfl, ?_⟩
      have hd4 := s4 _ _ hd
      have done : ∀ y, y = V.int (if L[i] = c then oneM cap md a[i] else a[i]) → Same H (upd (upd H3 T2 (.tup [.str (sg L[i]), .int a[i]])) D (.lst (((cntF L cap md a c).take i).map V.int ++ [y]))) ∧ upd (upd H3 T2 (.tup [.str (sg L[i]), .int a[i]])) D (.lst (((cntF L cap md a c).take i).map V.int ++ [y])) D = some (.lst (((cntF L cap md a c).take (i + 1)).map V.int)) := fun y e => by
        refine ⟨same_at (s3.trans s4) hD, ?_⟩
        rw [upd_same, tk, List.map_append, e] <;> rfl
      by_cases hc : L[i] = c
      · refine ⟨true, congrArg V.bl (decide_eq_true (by rw [hc])), ?_⟩
        refine ⟨_, rfl, _, rfl, _, rfl, _, _, _, rfl, _, hd4, fewD, done _ ?_⟩
        rw [if_pos hc]
      · refine ⟨false, congrArg V.bl (decide_eq_false fun z => hc (TX.sg_inj (V.str.inj z))), ?_⟩
        refine ⟨_, rfl, _, hd4, fewD, done _ ?_⟩
        rw [if_neg hc]
    · rintro H3 ⟨s3, hd⟩
      rw [size_tx, List.take_of_length_le (Nat.le_of_eq (cnt_len L cap md a c hl))] at hd
      refine ⟨D, _, rfl, .inl ⟨SqL.of hd, fun t ht => ?_⟩⟩
      exact q t _ (s3.free ht) (s3.trans (same_upd ht)) upd_same
/-- the tables of code objects, as the rules of nested defs tell them -/
abbrev nTabs (T : List (Addr × Str)) : List NTab := T.map fun p => (p.1, fun _ _ => p.2)
theorem tabsN_of {T : List (Addr × Str)} {H : Hp} (t : Tabs T H) : TabsN (nTabs T) H := fun p hp => by
  obtain ⟨q, hq, rfl⟩ := List.mem_map.mp hp
  exact TabN.of (t q hq)
theorem tabs_ofN {T : List (Addr × Str)} {H : Hp} (t : TabsN (nTabs T) H) : Tabs T H := fun p hp => TabN.to (t (p.1, fun _ _ => p.2) (List.mem_map.mpr ⟨p, hp, rfl⟩))
theorem steps_cnt {f : Addr} {F : NF} {cs : Cs} {B : Nat} {L : W} {cap md : Int} {H : Hp} {b0 : Addr} (o : NOk P w K mg base CX0 2 f F ["held", "letter"] ["letters", "cap", "modulus"] spStep) (ft : Fits F.cl ["letters", "cap", "modulus"] cs [.str (tx L), .int cap, .int md])
    (h1 : H f = some (FnO f F)) (h2 : H F.c = some (CodeO F.c F.qual)) (l : Lay cs H) (h0 : H b0 = some (.tup ((zeros L).map V.int))) (hL : L.length ≤ 3) (hB : ∀ j, (exAll (cntF L cap md) L (zeros L) j).1.length ≤ B) (hB4 : B ≤ 400) :
    Steps P w K mg base kitI 2 H L (.ref b0) f (zeros L) (cntF L cap md) B := by
  refine ⟨_, _, fun a => a.length = L.length, kitI_is.mpr h0, callV_nok o cxon_0 ft, ⟨h1, h2, l⟩, fun H H' k ⟨a, b, c⟩ => ⟨k _ _ a, k _ _ b, fun p hp => k _ _ (c p hp)⟩, List.length_map _, fun a c h _ => cnt_len L cap md a c h, fun H v a c Q ⟨_, _, l⟩ hv ha hc q => ?_, hB, hB4⟩
  obtain ⟨b1, e1, hb0⟩ := hv
  subst e1
  have hb1 := kitI_is.mp ⟨b1, rfl, hb0⟩
  refine ⟨b1, L, a, c, cap, md, rfl, rfl, off_keep l hb1 (fun _ z => nomatch z), ha, hL, fun t H' _ s ht n => ?_⟩
  exact q _ _ (same_on l ft.nd s n) (kitI_is.mpr (on_keep n ht))
def spCounting (T : List (Addr × Str)) (cD : Addr) : Sp := fun vs H Q _ => ∃ (L : W) (cap md : Int) (B : Nat), vs = [.str (tx L), .int cap, .int md] ∧ L.length ≤ 3 ∧ Tabs T H ∧ (∀ j, (exAll (cntF L cap md) L (zeros L) j).1.length ≤ B) ∧ B ≤ 400 ∧
  ∀ g H', H g = none → Grows T H H' → MadeAt cD H' g (exAll (cntF L cap md) L (zeros L) B).2 → Q (.ref g) H'
abbrev NCo : List Str := ["letters", "cap", "modulus", "step", "_"]
theorem scCn : FnScope NCo ["letters", "cap", "modulus"] (defScope sCount) := ⟨rfl, rfl, rfl, by decide +kernel, rfl, by decide +kernel, by decide +kernel⟩
theorem capS : ∀ y ∈ (C8.fnScope sStep).names, y.2 = .free → (defScope sCount).names.lookup y.1 = some .cell ∨ (defScope sCount).names.lookup y.1 = some .free := by decide +kernel
theorem ok_counting {f cN PN fG fO : Addr} {dG dO : FuncData} {C cD : Addr} {T : List (Addr × Str)} {oc kV dc pm ct dV : Value} {an od : Option Addr} {sl : Array (Option Value)} (lk : K.lookup f = some ⟨oc, od, .func (PySem.W.fnOf "_counting" "_counting" (defArgs sCount) (defBody sCount) (defScope sCount) dV kV dc pm an (.ref cN) ct), sl⟩) (hcd : PySem.W.codeIn K (.ref cN) "_counting" = true)
    (TB : TabB base mg cN PN) (mem : (PN, qStep) ∈ T) (uniq : ∀ p ∈ T, p.1 = PN → p.2 = qStep) (TT : TN mg) (AO : Fn K mg "_one_more" sOneM ["number", "cap", "modulus"] fO dO) (GO : FnOk P w K mg base CX0 1 fO dO ["number", "cap", "modulus"] spOneM)
    (AG : Fn K mg "_grown" sGrown ["letters", "start", "step"] fG dG) (GG : FnOk P w K mg base CX0 5 fG dG ["letters", "start", "step"] (spGrown P w K mg base kitI 2 cD)) :
    FnOk P w K mg base CX0 6 f (PySem.W.fnOf "_counting" "_counting" (defArgs sCount) (defBody sCount) (defScope sCount) dV kV dc pm an (.ref cN) ct) ["letters", "cap", "modulus"] (spCounting T cD) := by
  refine fn_of lk hcd scCn (fun vs H Q E h => ?_) (fun A outer s H vs Q E hr h => ?_)
  · obtain ⟨L, cap, md, B, rfl, _⟩ := h
    rfl
  · obtain ⟨L, cap, md, B, rfl, hL, tabs, hB, hB4, q⟩ := h
    refine ⟨_, pss_cons (ps_ndefMS (T := nTabs T) (nm := fun _ _ => qStep) (i := 3) rfl TB rfl (List.mem_map.mpr ⟨_, mem, rfl⟩) rfl (fun p hp e => by
          obtain ⟨q, hq, rfl⟩ := List.mem_map.mp hp
          show (fun _ _ => q.2) = _
          rw [uniq q hq e]) capS rfl rfl rfl scCn.nd rfl (Or.inl rfl) (Or.inl rfl))
      (pss_one (ps_ret (pe_callC (fr := ["letters", "cap", "modulus"]) (js := [0, 1, 2]) GG hr rfl AG.g AG.F.kp AG.b (fun ok => Caps.made (scope := C8.fnScope sStep) ok capS (by decide +kernel) rfl)
          (fun y c h => by
            rcases clo_only h with z | z
            · have : ∀ p ∈ (C8.fnScope sStep).names, p.2 = .free → p.1 ∈ (["letters", "cap", "modulus"] : List Str) := by decide +kernel
              exact this _ z rfl
            · cases z) (by decide +kernel) (fun _ _ => rfl)
          (pa_cons (pv 0) (pa_cons (pe_callTy call_tuple_of (by rfl) TT.tuple (by decide +kernel) (pa_cons (pe_lc (own := [("_", 4)]) (g := gName 4) (tt := tYes) (te := tC (.int 0)) rfl scCn.nd (pi_str (pv 0))
            (blkOk_by (own := [("_", 4)]) (N := NCo) (sc := defScope sCount) (by decide +kernel)) (fun _ _ _ _ _ => pg_name (i := 4) scCn.nd rfl (Or.inl rfl)) (fun _ _ _ _ _ => pts_nil) (fun _ _ _ _ _ => pe_int)) pa_nil)) (pa_cons (pv 3) pa_nil)))))), ?_⟩
    refine ⟨tabsN_of tabs, fun f c' H1 e1 back t1 nf hf hc => ?_⟩
    have g1 : Grows T H H1 := ⟨e1, tabs_ofN t1, back⟩
    refine ⟨_, rfl, _, rfl, tx L, rfl, fun D hD => ?_⟩
    refine lc_it walk_str (fun i H3 => Same H1 H3 ∧ H3 D = some (.lst ((zeros (L.take i)).map V.int))) ⟨same_upd hD, upd_same⟩ (fun _ _ _ _ => trivial) ?_ ?_
    · rintro i x H3 H4 hi ⟨s3, hd⟩ ⟨rfl, y, hy, rfl⟩
      have hy' : L[i]? = some y := by
        rw [← Array.getElem?_toList, tx_list] at hy
        exact hy
      refine ⟨rfl, _, hd, ?_, same_at s3 hD, ?_⟩
      · rw [List.length_map, List.length_map, List.length_take, sizeLine_eq]
        omega
      · rw [upd_same, List.take_add_one, hy']
        show _ = some (HO.lst (((L.take i ++ [y]).map fun _ => (0 : Int)).map V.int))
        rw [List.map_append, List.map_append] <;> rfl
    · rintro H3 ⟨s3, hd⟩
      rw [size_tx, List.take_length] at hd
      refine ⟨D, _, rfl, .inl ⟨SqL.of hd, fun t ht => ?_⟩⟩
      have s4 := same_upd (o := .tup ((zeros L).map V.int)) ht
      have g4 : Grows T H (upd H3 t (.tup ((zeros L).map V.int))) := grows_same (grows_same g1 s3) s4
      have a4 : (upd H3 t (.tup ((zeros L).map V.int))) t = some (.tup ((zeros L).map V.int)) := upd_same
      have hf4 := s4 _ _ (s3 _ _ hf)
      have hc4 := s4 _ _ (s3 _ _ hc)
      generalize upd H3 t (.tup ((zeros L).map V.int)) = H4 at g4 a4 hf4 hc4 ⊢
      refine ⟨_, rfl, [.str (tx L), .int cap, .int md], rfl, fun cs ft none_ => ?_⟩
      refine ⟨L, .ref t, zeros L, f, cntF L cap md, B, rfl, hL, steps_cnt (nok_step rfl rfl rfl TT AO GO) ft (on_keep none_ hf4) (on_keep none_ hc4) (onn_lay ft.nd) (on_keep none_ a4) hL hB hB4, fun g H5 ng s5 mk => ⟨lay_same ft.nd s5, ?_⟩⟩
      have l5 := lay_same ft.nd s5
      have s6 := same_off none_ s5
      have mk6 := madeAt_off l5 mk
      have ng4 : H4 g = none := by
        by_cases z : g ∈ cs.map (·.1)
        · obtain ⟨p, hp, rfl⟩ := List.mem_map.mp z
          exact none_ p hp
        · rw [onn_out z] at ng
          exact ng
      exact q g _ (g4.2.2 g ng4) (grows_same g4 s6) mk6
abbrev sClerk : Stmt := inClass (top 66) 6
/-- what the makers of boxes that count ask and give -/
def CntBox (T : List (Addr × Str)) (C : Addr) (L : W) (cap md : Int) (H : Hp) (Q : VK) : Prop := Let L ∧ Tabs T H ∧ ∃ B, (∀ j, (exAll (cntF L cap md) L (zeros L) j).1.length ≤ B) ∧ B ≤ 400 ∧ ∀ o H', H o = none → Grows T H H' → BoxAt C H' o L (exAll (cntF L cap md) L (zeros L) B).2 → Q (.ref o) H'
def spClerk (T : List (Addr × Str)) (C : Addr) : Sp := fun vs H Q _ => ∃ (L : W) (n m : Int), vs = [.ref C, .str (tx L), .int n, .int m] ∧ 0 ≤ n ∧ n ≤ 9 ∧ 1 ≤ m ∧ m ≤ 12 ∧ CntBox T C L n m H Q
section
variable {C cD fNL fNN fG fB : Addr} {dNL dNN dG dB : FuncData} {T : List (Addr × Str)}
/-- rows were made, a box of them is made -/
theorem box_made {H H1 : Hp} {L : W} {tb : List (List Int)} {g : Addr} {Q : VK} (hL : Let L) (gr : Grows T H H1) (mk : MadeAt cD H1 g tb) (q : ∀ o H', H o = none → Grows T H H' → BoxAt C H' o L tb → Q (.ref o) H') :
    ∀ x dx, H1 x = none → H1 dx = none → dx ≠ x → spBoxI C cD [.ref x, .str (tx L), .ref g] (upd (upd H1 dx (.own x)) x (.ins C dx [])) (fun v H' => v = .non ∧ Q (.ref x) H') E0 := by
  intro x dx hx hdx ne
  have s5 : Same H1 (upd (upd H1 dx (.own x)) x (.ins C dx [])) := fun b o z => by rw [upd_ne (ne_of_none z hx), upd_ne (ne_of_none z hdx)]; exact z
  refine ⟨x, dx, L, g, _, rfl, hL, upd_same, fun z => ?_, mk.same s5, fun r H6 h6 k6 rows => ⟨rfl, ?_⟩⟩
  · obtain ⟨gx, r, e, _⟩ := mk
    rw [z, hx] at e
    cases e
  · have s6 : Same H1 H6 := fun b o z => k6 b o (s5 _ _ z) (ne_of_none z hx)
    exact q x H6 (gr.2.2 x hx) (grows_same gr s6) ⟨dx, r, h6, rows⟩
theorem scCl : FnScope ["cls", "letters", "cap", "modulus"] ["cls", "letters", "cap", "modulus"] (defScope sClerk) := ⟨rfl, rfl, rfl, by decide +kernel, rfl, by decide +kernel, by decide +kernel⟩
theorem ok_clerk {f : Addr} {oc kV dc pm ct cd dV : Value} {an od : Option Addr} {sl : Array (Option Value)} (lk : K.lookup f = some ⟨oc, od, .func (PySem.W.fnOf "clerk" "Box.clerk" (defArgs sClerk) (defBody sClerk) (defScope sClerk) dV kV dc pm an cd ct), sl⟩) (hcd : PySem.W.codeIn K cd "Box.clerk" = true)
    (m9 : ∃ t, mg "_MAX_CAP" = some (.int 9 t)) (m12 : ∃ t, mg "_MAX_MODULUS" = some (.int 12 t)) (AL : Fn K mg "need_letters" sNeedLet ["letters"] fNL dNL) (GL : FnOk P w K mg base CX0 3 fNL dNL ["letters"] spNeedLet) (AN : Fn K mg "need_number" sNeedNum ["value", "least", "most"] fNN dNN) (GN : FnOk P w K mg base CX0 3 fNN dNN ["value", "least", "most"] spNeedNum)
    (AG : Fn K mg "_counting" sCount ["letters", "cap", "modulus"] fG dG) (GG : FnOk P w K mg base CX0 6 fG dG ["letters", "cap", "modulus"] (spCounting T cD)) (MI : Mk K C fB) (GI : FnOk P w K mg base CX0 3 fB dB ["self", "letters", "table"] (spBoxI C cD)) (bI : Binds K dB ["self", "letters", "table"] []) :
    FnOk P w K mg base CX0 7 f (PySem.W.fnOf "clerk" "Box.clerk" (defArgs sClerk) (defBody sClerk) (defScope sClerk) dV kV dc pm an cd ct) ["cls", "letters", "cap", "modulus"] (spClerk T C) := by
  obtain ⟨tm, most⟩ := m9
  obtain ⟨tm2, most2⟩ := m12
  refine fn_of lk hcd scCl (fun vs H Q E h => ?_) (fun A outer s H vs Q E hr h => ?_)
  · obtain ⟨L, n, m, rfl, _⟩ := h
    rfl
  · obtain ⟨L, n, m, rfl, n0, n9, m1, m12, hL, tabs, B, hB, hB4, q⟩ := h
    have hr3 : Room 3 _ := hr.mono (by decide)
    have hr4 : Room 4 _ := hr.mono (by decide)
    refine ⟨_, pss_cons (ps_expr (pe_call GL hr3 rfl AL.g AL.F.kp AL.b .nil pass0 (pa_cons (pv 1) pa_nil)))
      (pss_cons (ps_expr (pe_call GN hr3 rfl AN.g AN.F.kp AN.b .nil pass0 (pa_cons (pv 2) (pa_cons pe_int (pa_cons (pe_glob rfl most (show RelV (.int 9) (.int 9 tm) from ⟨tm, rfl⟩)) pa_nil)))))
      (pss_cons (ps_expr (pe_call GN hr3 rfl AN.g AN.F.kp AN.b .nil pass0 (pa_cons (pv 3) (pa_cons pe_int (pa_cons (pe_glob rfl most2 (show RelV (.int 12) (.int 12 tm2) from ⟨tm2, rfl⟩)) pa_nil)))))
      (pss_one (ps_ret (pe_makeV (i := 0) (E := E0) MI GI hr4 rfl (.inl rfl) bI .nil pass0 (pa_cons (pv 1) (pa_cons
        (pe_call GG hr rfl AG.g AG.F.kp AG.b .nil pass0 (pa_cons (pv 1) (pa_cons (pv 2) (pa_cons (pv 3) pa_nil)))) pa_nil))))))), ?_⟩
    refine ⟨_, rfl, L, rfl, hL, fun H1 s1 => ⟨_, rfl, n, 0, 9, rfl, n0, n9, _, rfl, m, 1, 12, rfl, m1, m12, ?_⟩⟩
    refine ⟨rfl, _, rfl, _, rfl, _, rfl, _, rfl, L, n, m, B, rfl, hL.few, tabs.ext s1, hB, hB4, fun g H2 ng gr mk => ?_⟩
    have gr2 : Grows T H H2 := by
      have := grows_same (Grows.refl tabs) s1
      exact ⟨fun b o e n => gr.1 b o (this.1 b o e n) n, gr.2.1, fun d z => this.2.2 d (gr.2.2 d z)⟩
    exact box_made hL gr2 mk q
end
end
end WK
set_option Elab.async false
set_option linter.all false
set_option maxRecDepth 100000
set_option maxHeartbeats 8000000
namespace WK
open PySem L2 PyProof.Rows LCX
open PySem.W (Frag kitOne)
abbrev sIsAsc : Stmt := top 27
abbrev sIsTab : Stmt := top 28
abbrev sIsRow : Stmt := top 29
/-- a whole number, True or False -/
def isNum (v : V) : Prop := (∃ i, v = .int i) ∨ ∃ b, v = .bl b
def numB (v : V) (a b : Int) : Bool := match v with
  | .int i => decide (a ≤ i) && decide (i ≤ b)
  | _ => false
def intOf (v : V) : Int := match v with
  | .int i => i
  | _ => 0
def ascI (is : List Int) : Bool := decide (is.Pairwise (· < ·))
/-- an ascending tuple of numbers below m -/
def ascV (xs : List V) (m : Int) : Bool := (xs.map fun x => numB x 0 (m - 1)).all id && ascI (xs.map intOf)
def rowB (xs : List V) (wd m : Int) : Bool := decide ((xs.length : Int) = wd) && (xs.map fun x => numB x 0 (m - 1)).all id
/-- a table by its rows; none is a row that is no tuple -/
def tabB (rs : List (Option (List V))) (wd most : Int) : Bool := decide (1 ≤ (rs.length : Int)) && decide ((rs.length : Int) ≤ most) && (rs.map fun r => match r with
  | some xs => rowB xs wd rs.length
  | none => false).all id
/-- no tuple, as long as old things stay -/
def NT (H : Hp) (v : V) : Prop := (∃ x, v = .str x) ∨ v = .non ∨ (∃ i, v = .int i) ∨ (∃ b, v = .bl b) ∨ ∃ a xs, v = .ref a ∧ H a = some (.lst xs)
theorem NT.ext {H H' : Hp} {v : V} (h : NT H v) (s : Same H H') : NT H' v := by
  rcases h with h | h | h | h | ⟨a, xs, h, q⟩
  · exact .inl h
  · exact .inr (.inl h)
  · exact .inr (.inr (.inl h))
  · exact .inr (.inr (.inr (.inl h)))
  · exact .inr (.inr (.inr (.inr ⟨a, xs, h, s _ _ q⟩)))
theorem NT.ty {K : Frag} {H : Hp} {v : V} (h : NT H v) : ∃ t, TyX K H v (.type t) ∧ kitOne K (.type t) (.type "tuple") = some false := by
  rcases h with ⟨x, rfl⟩ | rfl | ⟨i, rfl⟩ | ⟨b, rfl⟩ | ⟨a, xs, rfl, q⟩
  · exact ⟨_, .base (.str _), kit_ty (by decide +kernel)⟩
  · exact ⟨_, .base .non, kit_ty (by decide +kernel)⟩
  · exact ⟨_, .base (.int _), kit_ty (by decide +kernel)⟩
  · exact ⟨_, .base (.bl _), kit_ty (by decide +kernel)⟩
  · exact ⟨_, .base (.lst q), kit_ty (by decide +kernel)⟩
theorem tyT {K : Frag} {H : Hp} {a : Addr} {xs : List V} (h : SqT K H a xs) : TyX K H (.ref a) (.type "tuple") := by
  rcases h with (h | ⟨o, h⟩) | ⟨o, its, n, h1, h2, _⟩
  · exact .base (.tup h)
  · exact .fTuple h
  · exact .kTuple h1 h2
/-- a row of a table -/
def RowV (K : Frag) (H : Hp) (v : V) : Option (List V) → Prop
  | some xs => ∃ a, v = .ref a ∧ SqT K H a xs ∧ xs.length ≤ 100 ∧ ∀ x ∈ xs, isNum x
  | none => NT H v
theorem RowV.ext {K : Frag} {H H' : Hp} {v : V} {r : Option (List V)} (h : RowV K H v r) (s : Same H H') : RowV K H' v r := by
  cases r with
  | none => exact NT.ext h s
  | some xs =>
    obtain ⟨a, e, t, l, q⟩ := h
    exact ⟨a, e, seqT s t, l, q⟩
def spInt2 : Sp := fun vs H Q _ => ∃ v, vs = [v] ∧ ((∃ i, v = .int i ∧ Q (.bl true) H) ∨ ∃ b, v = .bl b ∧ Q (.bl false) H)
def spNum2 : Sp := fun vs H Q _ => ∃ v a b, vs = [v, .int a, .int b] ∧ isNum v ∧ Q (.bl (numB v a b)) H
def spAscT (K : Frag) : Sp := fun vs H Q _ => ∃ (a : Addr) (is : List Int), vs = [.ref a] ∧ SqT K H a (is.map V.int) ∧ is.length ≤ 100 ∧ ∀ H', Same H H' → Q (.bl (ascI is)) H'
def spIsAsc (K : Frag) : Sp := fun vs H Q _ => ∃ v m, vs = [v, .int m] ∧ ((∃ a xs, v = .ref a ∧ SqT K H a xs ∧ xs.length ≤ 100 ∧ (∀ x ∈ xs, isNum x) ∧ ∀ H', Same H H' → Q (.bl (ascV xs m)) H') ∨ (NT H v ∧ Q (.bl false) H))
def spRow (K : Frag) : Sp := fun vs H Q _ => ∃ v wd m r, vs = [v, .int wd, .int m] ∧ RowV K H v r ∧ ∀ H', Same H H' → Q (.bl (match r with
  | some xs => rowB xs wd m
  | none => false)) H'
/-- its rows are these -/
def Rows (K : Frag) (H : Hp) : List V → List (Option (List V)) → Prop
  | [], [] => True
  | x :: xs, r :: rs => RowV K H x r ∧ Rows K H xs rs
  | _, _ => False
def spTab (K : Frag) : Sp := fun vs H Q _ => ∃ v wd most, vs = [v, .int wd, .int most] ∧ ((∃ a xs rs, v = .ref a ∧ SqT K H a xs ∧ xs.length ≤ 100 ∧ Rows K H xs rs ∧ ∀ H', Same H H' → Q (.bl (tabB rs wd most)) H') ∨ (NT H v ∧ Q (.bl false) H))
section
variable {P : Program} {w : World} {K : PySem.W.Frag} {mg : Str → Option Value} {base : Heap}
theorem ok_int2 {f : Addr} {fd : FuncData} (F : Fun K "is_integer" "is_integer" sIsInt f fd) (T : TN mg) : FnOk P w K mg base CX0 1 f fd ["value"] spInt2 := by
  refine F.ok scII (fun vs H Q E h => ?_) (fun cdv A outer s H vs Q E hr h => ?_)
  · obtain ⟨v, rfl, _⟩ := h
    rfl
  · obtain ⟨v, rfl, h⟩ := h
    refine ⟨_, pss_one (ps_ret (pe_and (pe_callB call_isi (by rfl) T.isi (by decide +kernel) (pa_cons (pv 0) (pa_cons (pe_ty "int" T.int (by decide +kernel)) pa_nil)))
      (pe_one (pe_not (pe_callB call_isi (by rfl) T.isi (by decide +kernel) (pa_cons (pv 0) (pa_cons (pe_ty "bool" T.bool (by decide +kernel)) pa_nil))))))), ?_⟩
    rcases h with ⟨i, rfl, q⟩ | ⟨b, rfl, q⟩
    · refine ⟨_, rfl, _, _, _, _, true, rfl, .ty "int", .base (.int _), kit_ty (by decide +kernel), true, rfl, ?_⟩
      exact ⟨_, rfl, _, _, _, _, false, rfl, .ty "bool", .base (.int _), kit_ty (by decide +kernel), false, rfl, q⟩
    · refine ⟨_, rfl, _, _, _, _, true, rfl, .ty "int", .base (.bl _), kit_ty (by decide +kernel), true, rfl, ?_⟩
      exact ⟨_, rfl, _, _, _, _, true, rfl, .ty "bool", .base (.bl _), kit_ty (by decide +kernel), true, rfl, q⟩
theorem ok_num2 {f g : Addr} {fd gd : FuncData} (F : Fun K "is_number" "is_number" sIsNum f fd) (T : TN mg) (A0 : Fn K mg "is_integer" sIsInt ["value"] g gd) : FnOk P w K mg base CX0 2 f fd ["value", "least", "most"] spNum2 := by
  have G0 : FnOk P w K mg base CX0 1 g gd ["value"] spInt2 := ok_int2 A0.F T
  refine F.ok scIN (fun vs H Q E h => ?_) (fun cdv A outer s H vs Q E hr h => ?_)
  · obtain ⟨v, a, b, rfl, _⟩ := h
    rfl
  · obtain ⟨v, a, b, rfl, hn, q⟩ := h
    refine ⟨_, pss_one (ps_ret (pe_and (pe_call G0 hr rfl A0.g A0.F.kp A0.b .nil pass0 (pa_cons (pv 0) pa_nil)) (pe_one (pe_chain op_le op_le (pv 1) (pv 0) (pv 2))))), ?_⟩
    rcases hn with ⟨i, rfl⟩ | ⟨c, rfl⟩
    · refine ⟨_, rfl, _, rfl, .inl ⟨i, rfl, true, rfl, ?_⟩⟩
      refine ⟨_, rfl, _, rfl, _, _, rfl, rfl, _, rfl, ?_⟩
      have q : Q (.bl (decide (a ≤ i) && decide (i ≤ b))) H := q
      by_cases h1 : a ≤ i
      · rw [decide_eq_true h1] at q ⊢
        exact ⟨_, rfl, _, _, rfl, rfl, q⟩
      · rw [decide_eq_false h1] at q ⊢
        exact q
    · exact ⟨_, rfl, _, rfl, .inr ⟨c, rfl, false, rfl, q⟩⟩
theorem scIA : FnScope ["value", "many", "part"] ["value", "many"] (defScope sIsAsc) := ⟨rfl, rfl, rfl, by decide +kernel, rfl, by decide +kernel, by decide +kernel⟩
theorem scRw : FnScope ["value", "width", "many", "after"] ["value", "width", "many"] (defScope sIsRow) := ⟨rfl, rfl, rfl, by decide +kernel, rfl, by decide +kernel, by decide +kernel⟩
theorem scTb : FnScope ["value", "width", "most", "row"] ["value", "width", "most"] (defScope sIsTab) := ⟨rfl, rfl, rfl, by decide +kernel, rfl, by decide +kernel, by decide +kernel⟩
/-- a row's numbers -/
theorem ok_row {f g : Addr} {fd gd : FuncData} (F : Fun K "_is_row" "_is_row" sIsRow f fd) (T : TN mg) (A1 : Fn K mg "is_number" sIsNum ["value", "least", "most"] g gd) (G1 : FnOk P w K mg base CX0 2 g gd ["value", "least", "most"] spNum2) : FnOk P w K mg base CX0 3 f fd ["value", "width", "many"] (spRow K) := by
  refine F.ok scRw (fun vs H Q E h => ?_) (fun cdv A outer s H vs Q E hr h => ?_)
  · obtain ⟨v, wd, m, r, rfl, _⟩ := h
    rfl
  · obtain ⟨v, wd, m, r, rfl, hv, q⟩ := h
    refine ⟨_, pss_cons (ps_if (PW.pt (pw_or (pt_not (pt_val (pe_callB call_isi (by rfl) T.isi (by decide +kernel) (pa_cons (pv 0) (pa_cons (pe_ty "tuple" T.tuple (by decide +kernel)) pa_nil)))))
        (pw_or1 (pt_cmpR op_ne (pe_callB call_len_seq (by rfl) T.len PySem.boot_len (pa_cons (pv 0) pa_nil)) (pv 1) (nomark _))))) (pss_one (ps_ret pe_bl)) pss_nil)
      (pss_one (ps_ret (pe_callB (cr_all rfl) (by rfl) T.all (by decide +kernel) (pa_cons (pe_lc (own := [("after", 3)]) (g := gName 3) (tt := tYes) rfl scRw.nd (pi_tup (pv 0))
        (blkOk_by (own := [("after", 3)]) (N := ["value", "width", "many", "after"]) (sc := defScope sIsRow) (by decide +kernel)) (fun _ _ _ _ _ => pg_name (i := 3) scRw.nd rfl (Or.inl rfl)) (fun _ _ _ _ _ => pts_nil)
        (fun _ _ _ _ _ => pe_call G1 hr rfl A1.g A1.F.kp A1.b .nil pass0 (pa_cons (pv 3) (pa_cons pe_int (pa_cons (pe_op op_sub (pv 2) pe_int) pa_nil))))) pa_nil)))), ?_⟩
    cases r with
    | none =>
      obtain ⟨t, ty, hk⟩ := NT.ty (K := K) hv
      exact ⟨_, rfl, _, _, _, _, false, rfl, .ty "tuple", ty, hk, false, rfl, q _ (Same.refl H)⟩
    | some xs =>
      obtain ⟨a, rfl, hT, hl, hx⟩ := hv
      refine ⟨_, rfl, _, _, _, _, true, rfl, .ty "tuple", tyT hT, kit_ty (by decide +kernel), true, rfl, ?_⟩
      refine ⟨_, rfl, a, xs, rfl, .inr hT, _, rfl, rfl, _, rfl, ?_⟩
      have q : ∀ H', Same H H' → Q (.bl (rowB xs wd m)) H' := q
      by_cases hw : (xs.length : Int) = wd
      · have e1 : (!decide (V.int (xs.length : Int) = V.int wd)) = false := by rw [decide_eq_true (by rw [hw])] <;> rfl
        rw [e1]
        refine ⟨_, rfl, a, rfl, ⟨_, hT⟩, fun D hD => ?_⟩
        have hT' : SqT K H a (xs.map id) := by rw [List.map_id]; exact hT
        refine same_tup (val := id) (r := fun x => [V.bl (numB x 0 (m - 1))]) hD hT' (by rw [sizeLine_eq]; omega) (fun _ => Nat.le_refl _) (fun x hx' H1 acc s1 hacc hlen N hN => ?_) (fun H1 s1 hd => ?_)
        · exact ⟨rfl, _, rfl, _, rfl, _, _, rfl, rfl, x, _, _, rfl, hx x hx', acc, hacc, hlen, hN _ (same_at s1 hD) upd_same⟩
        · have e : xs.flatMap (fun x => [V.bl (numB x 0 (m - 1))]) = (xs.map fun x => numB x 0 (m - 1)).map V.bl := by rw [flat_map, List.map_map] <;> rfl
          rw [e] at hd
          refine ⟨D, _, rfl, SqL.of hd, ?_⟩
          have q2 := q _ s1
          unfold rowB at q2
          rw [decide_eq_true hw] at q2
          exact q2
      · have e1 : (!decide (V.int (xs.length : Int) = V.int wd)) = true := by rw [decide_eq_false (fun z => hw (V.int.inj z))] <;> rfl
        rw [e1]
        have q2 := q _ (Same.refl H)
        unfold rowB at q2
        rw [decide_eq_false hw] at q2
        exact q2
def adjI (w : List Int) (i : Nat) : Bool := decide (w.getD i 0 < w.getD (i + 1) 0)
theorem adjI_asc : ∀ w : List Int, ((List.range (w.length - 1)).map (adjI w)).all id = ascI w
  | [] => by simp [ascI]
  | [a] => by simp [ascI]
  | a :: b :: r => by
    have ih := adjI_asc (b :: r)
    have e : (a :: b :: r).length - 1 = (b :: r).length - 1 + 1 := by simp
    rw [e, List.range_succ_eq_map, List.map_cons, List.all_cons, List.map_map]
    have e2 : (adjI (a :: b :: r) ∘ Nat.succ) = adjI (b :: r) := by
      funext i
      rfl
    rw [e2, ih]
    show (decide (a < b) && ascI (b :: r)) = ascI (a :: b :: r)
    unfold ascI
    rw [← Bool.decide_and]
    refine decide_eq_decide.mpr ⟨fun ⟨h1, h2⟩ => ?_, fun h => ?_⟩
    · refine List.pairwise_cons.mpr ⟨fun y hy => ?_, h2⟩
      rcases List.mem_cons.mp hy with z | z
      · omega
      · have := (List.pairwise_cons.mp h2).1 y z
        omega
    · obtain ⟨h1, h2⟩ := List.pairwise_cons.mp h
      exact ⟨h1 b List.mem_cons_self, h2⟩
theorem ok_ascT {f : Addr} {fd : FuncData} (F : Fun K "ascends" "ascends" sAsc f fd) (T : TN mg) : FnOk P w K mg base CX0 1 f fd ["values"] (spAscT K) := by
  refine F.ok scAs (fun vs H Q E h => ?_) (fun cdv A outer s H vs Q E hr h => ?_)
  · obtain ⟨w, is, rfl, _⟩ := h
    rfl
  · obtain ⟨a, is, rfl, hT, hl, q⟩ := h
    refine ⟨_, pss_one (ps_ret (pe_callB (cr_all rfl) (by rfl) T.all (by decide +kernel) (pa_cons (pe_lc (own := [("at", 1)]) (g := gName 1) (tt := tYes) (te := tOp (rI0 fun i j => .bl (decide (i < j))) (tOp (rIxT K) (tVar 0) (tVar 1)) (tOp (rIxT K) (tVar 0) (tOp (rI0 fun i j => .int (i + j)) (tVar 1) (tC (.int 1))))) rfl scAs.nd
      (pi_range1 rfl T.rng (pa_cons (pe_op op_sub (pe_callB call_len_seq (by rfl) T.len PySem.boot_len (pa_cons (pv 0) pa_nil)) pe_int) pa_nil))
      (blkOk_by (own := [("at", 1)]) (N := ["values", "at"]) (sc := defScope sAsc) (by decide +kernel)) (fun _ _ _ _ _ => pg_name (i := 1) scAs.nd rfl (Or.inl rfl)) (fun _ _ _ _ _ => pts_nil)
      (fun _ _ _ _ _ => pe_cmpR op_lt (pe_ix ix_tup (pv 0) (pv 1) (fun _ _ => rfl)) (pe_ix ix_tup (pv 0) (pe_op op_add (pv 1) pe_int) (fun _ _ => rfl)) (nomark _))) pa_nil))), ?_⟩
    have hl2 : ((is.map V.int).length : Int) ≤ 100 := by rw [List.length_map]; omega
    refine ⟨_, rfl, a, _, rfl, .inr hT, _, _, rfl, rfl, _, rfl, (by omega), (by omega), fun D hD => ?_⟩
    have e1 : (((is.map V.int).length : Int) - 1).toNat = is.length - 1 := by rw [List.length_map]; omega
    rw [e1]
    refine lc_range (lo := 0) (n := is.length - 1) (fun i H1 => Same H H1 ∧ H1 D = some (.lst (((List.range i).map (adjI is)).map V.bl))) ⟨same_upd hD, upd_same⟩ ?_ ?_
    · rintro i H1 hi ⟨s1, hd⟩
      have at1 : ∀ j : Nat, j < is.length → atI (is.map V.int) (j : Int) = some (.int (is.getD j 0)) := fun j hj => by
        refine atI_nat ?_
        rw [List.getElem?_map, List.getD_eq_getElem?_getD, List.getElem?_eq_getElem hj] <;> rfl
      have e2 : (0 + (i : Int)) = ((i : Nat) : Int) := by omega
      have e3 : (0 + (i : Int) + 1) = ((i + 1 : Nat) : Int) := by omega
      refine ⟨rfl, _, rfl, _, rfl, a, _, _, _, rfl, rfl, seqT s1 hT, (by rw [e2]; exact at1 i (by omega)), _, rfl, _, rfl, _, _, rfl, rfl, a, _, _, _, rfl, rfl, seqT s1 hT, (by rw [e3]; exact at1 (i + 1) (by omega)), _, _, rfl, rfl, _, hd, ?_, same_at s1 hD, ?_⟩
      · rw [List.length_map, List.length_map, List.length_range, sizeLine_eq]
        omega
      · rw [upd_same, List.range_succ, List.map_append, List.map_append] <;> rfl
    · rintro H1 ⟨s1, hd⟩
      refine ⟨D, _, rfl, SqL.of hd, ?_⟩
      rw [adjI_asc]
      exact q _ s1
theorem ok_isasc {f g c : Addr} {fd gd cd : FuncData} (F : Fun K "is_ascending" "is_ascending" sIsAsc f fd) (T : TN mg) (A1 : Fn K mg "is_number" sIsNum ["value", "least", "most"] g gd) (G1 : FnOk P w K mg base CX0 2 g gd ["value", "least", "most"] spNum2)
    (A2 : Fn K mg "ascends" sAsc ["values"] c cd) (G2 : FnOk P w K mg base CX0 1 c cd ["values"] (spAscT K)) : FnOk P w K mg base CX0 3 f fd ["value", "many"] (spIsAsc K) := by
  have hX : ∀ {k}, Room 2 k → Room 1 k := fun h => h.mono (by decide)
  refine F.ok scIA (fun vs H Q E h => ?_) (fun cdv A outer s H vs Q E hr h => ?_)
  · obtain ⟨v, m, rfl, _⟩ := h
    rfl
  · obtain ⟨v, m, rfl, h⟩ := h
    refine ⟨_, pss_cons (ps_if (pt_not (pt_val (pe_callB call_isi (by rfl) T.isi (by decide +kernel) (pa_cons (pv 0) (pa_cons (pe_ty "tuple" T.tuple (by decide +kernel)) pa_nil))))) (pss_one (ps_ret pe_bl)) pss_nil)
      (pss_one (ps_ret (pe_and (pe_callB (cr_all rfl) (by rfl) T.all (by decide +kernel) (pa_cons (pe_lc (own := [("part", 2)]) (g := gName 2) (tt := tYes) rfl scIA.nd (pi_tup (pv 0))
        (blkOk_by (own := [("part", 2)]) (N := ["value", "many", "part"]) (sc := defScope sIsAsc) (by decide +kernel)) (fun _ _ _ _ _ => pg_name (i := 2) scIA.nd rfl (Or.inl rfl)) (fun _ _ _ _ _ => pts_nil)
        (fun _ _ _ _ _ => pe_call G1 hr rfl A1.g A1.F.kp A1.b .nil pass0 (pa_cons (pv 2) (pa_cons pe_int (pa_cons (pe_op op_sub (pv 1) pe_int) pa_nil))))) pa_nil))
        (pe_one (pe_call G2 (hX hr) rfl A2.g A2.F.kp A2.b .nil pass0 (pa_cons (pv 0) pa_nil)))))), ?_⟩
    rcases h with ⟨a, xs, rfl, hT, hl, hx, q⟩ | ⟨hn, q⟩
    · refine ⟨_, rfl, _, _, _, _, true, rfl, .ty "tuple", tyT hT, kit_ty (by decide +kernel), true, rfl, ?_⟩
      refine ⟨_, rfl, a, rfl, ⟨_, hT⟩, fun D hD => ?_⟩
      have hT' : SqT K H a (xs.map id) := by rw [List.map_id]; exact hT
      refine same_tup (val := id) (r := fun x => [V.bl (numB x 0 (m - 1))]) hD hT' (by rw [sizeLine_eq]; omega) (fun _ => Nat.le_refl _) (fun x hx' H1 acc s1 hacc hlen N hN => ?_) (fun H1 s1 hd => ?_)
      · exact ⟨rfl, _, rfl, _, rfl, _, _, rfl, rfl, x, _, _, rfl, hx x hx', acc, hacc, hlen, hN _ (same_at s1 hD) upd_same⟩
      · have e : xs.flatMap (fun x => [V.bl (numB x 0 (m - 1))]) = (xs.map fun x => numB x 0 (m - 1)).map V.bl := by rw [flat_map, List.map_map] <;> rfl
        rw [e] at hd
        refine ⟨D, _, rfl, SqL.of hd, ?_⟩
        unfold ascV at q
        cases e2 : (xs.map fun x => numB x 0 (m - 1)).all id with
        | false =>
          rw [e2] at q
          exact ⟨false, rfl, q _ s1⟩
        | true =>
          rw [e2] at q
          have e3 : xs = (xs.map intOf).map V.int := by
            rw [List.map_map]
            refine (List.map_id xs).symm.trans (List.map_congr_left fun x hx' => ?_)
            have h4 := List.all_eq_true.mp e2 _ (List.mem_map.mpr ⟨x, hx', rfl⟩)
            rcases hx x hx' with ⟨i, rfl⟩ | ⟨b, rfl⟩
            · rfl
            · cases h4
          refine ⟨true, rfl, _, rfl, a, xs.map intOf, rfl, by rw [← e3]; exact seqT s1 hT, by rw [List.length_map]; exact hl, fun H2 s2 => ?_⟩
          exact q _ (s1.trans s2)
    · obtain ⟨t, ty, hk⟩ := NT.ty (K := K) hn
      exact ⟨_, rfl, _, _, _, _, false, rfl, .ty "tuple", ty, hk, false, rfl, q⟩
theorem Rows.ext {H H' : Hp} (s : Same H H') : ∀ {xs : List V} {rs : List (Option (List V))}, Rows K H xs rs → Rows K H' xs rs
  | [], [], _ => trivial
  | _ :: _, _ :: _, h => ⟨h.1.ext s, h.2.ext s⟩
  | [], _ :: _, h => h.elim
  | _ :: _, [], h => h.elim
theorem Rows.len {H : Hp} : ∀ {xs : List V} {rs : List (Option (List V))}, Rows K H xs rs → xs.length = rs.length
  | [], [], _ => rfl
  | _ :: _, _ :: _, h => congrArg Nat.succ h.2.len
  | [], _ :: _, h => h.elim
  | _ :: _, [], h => h.elim
theorem Rows.mem {H : Hp} : ∀ {xs : List V} {rs : List (Option (List V))}, Rows K H xs rs → ∀ p ∈ xs.zip rs, RowV K H p.1 p.2
  | [], [], _, _, hp => (List.not_mem_nil hp).elim
  | _ :: _, _ :: _, h, p, hp => (List.mem_cons.mp hp).elim (fun e => e ▸ h.1) fun z => h.2.mem p z
  | [], _ :: _, h, _, _ => h.elim
  | _ :: _, [], h, _, _ => h.elim
abbrev rLn (K : Frag) : List V → Hp → VK → Prop := fun xs H Q => ∃ p ys, xs = [.ref p] ∧ (SqL K H p ys ∨ SqT K H p ys) ∧ Q (.int ys.length) H
def rowOk (wd m : Int) : Option (List V) → Bool
  | some xs => rowB xs wd m
  | none => false
theorem ok_table {f g : Addr} {fd gd : FuncData} (F : Fun K "is_table" "is_table" sIsTab f fd) (T : TN mg) (A1 : Fn K mg "_is_row" sIsRow ["value", "width", "many"] g gd) (G1 : FnOk P w K mg base CX0 3 g gd ["value", "width", "many"] (spRow K)) :
    FnOk P w K mg base CX0 4 f fd ["value", "width", "most"] (spTab K) := by
  refine F.ok scTb (fun vs H Q E h => ?_) (fun cdv A outer s H vs Q E hr h => ?_)
  · obtain ⟨v, wd, m, rfl, _⟩ := h
    rfl
  · obtain ⟨v, wd, m, rfl, h⟩ := h
    refine ⟨_, pss_cons (ps_if (PW.pt (pw_or (pt_not (pt_val (pe_callB call_isi (by rfl) T.isi (by decide +kernel) (pa_cons (pv 0) (pa_cons (pe_ty "tuple" T.tuple (by decide +kernel)) pa_nil)))))
        (pw_or1 (pt_not (pt_chain op_le op_le pe_int (pe_callB call_len_seq (by rfl) T.len PySem.boot_len (pa_cons (pv 0) pa_nil)) (pv 2)))))) (pss_one (ps_ret pe_bl)) pss_nil)
      (pss_one (ps_ret (pe_callB (cr_all rfl) (by rfl) T.all (by decide +kernel) (pa_cons (pe_lc (own := [("row", 3)]) (g := gName 3) (tt := tYes)
        (te := tCall (spRow K) [] E0 (tCons (tVar 3) (tCons (tVar 1) (tCons (tCB (rLn K) (tCons (tVar 0) tNil)) tNil)))) rfl scTb.nd (pi_tup (pv 0))
        (blkOk_by (own := [("row", 3)]) (N := ["value", "width", "most", "row"]) (sc := defScope sIsTab) (by decide +kernel)) (fun _ _ _ _ _ => pg_name (i := 3) scTb.nd rfl (Or.inl rfl)) (fun _ _ _ _ _ => pts_nil)
        (fun _ _ _ _ _ => pe_call G1 hr rfl A1.g A1.F.kp A1.b .nil pass0 (pa_cons (pv 3) (pa_cons (pv 1) (pa_cons (pe_callB call_len_seq (by rfl) T.len PySem.boot_len (pa_cons (pv 0) pa_nil)) pa_nil))))) pa_nil)))), ?_⟩
    rcases h with ⟨a, xs, rs, rfl, hT, hl, hR, q⟩ | ⟨hn, q⟩
    · refine ⟨_, rfl, _, _, _, _, true, rfl, .ty "tuple", tyT hT, kit_ty (by decide +kernel), true, rfl, ?_⟩
      have hlen := hR.len
      have q0 : ∀ H', Same H H' → Q (.bl (decide (1 ≤ (xs.length : Int)) && decide ((xs.length : Int) ≤ m) && (rs.map (rowOk wd xs.length)).all id)) H' := fun H' s => by
        have e : tabB rs wd m = (decide (1 ≤ (xs.length : Int)) && decide ((xs.length : Int) ≤ m) && (rs.map (rowOk wd xs.length)).all id) := by
          unfold tabB
          rw [hlen]
          rfl
        rw [← e]
        exact q H' s
      refine ⟨_, rfl, a, xs, rfl, .inr hT, _, _, rfl, rfl, _, rfl, ?_⟩
      by_cases h1 : 1 ≤ (xs.length : Int)
      · rw [decide_eq_true h1] at q0 ⊢
        refine ⟨_, rfl, _, _, rfl, rfl, _, rfl, ?_⟩
        by_cases h2 : (xs.length : Int) ≤ m
        · rw [decide_eq_true h2] at q0 ⊢
          refine ⟨_, rfl, a, rfl, ⟨_, hT⟩, fun D hD => ?_⟩
          have hT' : SqT K H a ((xs.zip rs).map (·.1)) := by rw [List.map_fst_zip (Nat.le_of_eq hlen)]; exact hT
          have hz : (xs.zip rs).length < sizeLine := by rw [List.length_zip, sizeLine_eq]; omega
          refine same_tup (l := xs.zip rs) (val := (·.1)) (r := fun p => [V.bl (rowOk wd xs.length p.2)]) hD hT' hz (fun _ => Nat.le_refl _) (fun p hp H1 acc s1 hacc hlen1 N hN => ?_) (fun H1 s1 hd => ?_)
          · refine ⟨rfl, _, rfl, _, rfl, _, rfl, a, xs, rfl, .inr (seqT s1 hT), p.1, _, _, p.2, rfl, (hR.mem p hp).ext s1, fun H2 s2 => ?_⟩
            refine ⟨acc, s2 _ _ hacc, hlen1, hN _ (same_at (s1.trans s2) hD) ?_⟩
            rw [upd_same]
            cases p.2 <;> rfl
          · have e : (xs.zip rs).flatMap (fun p => [V.bl (rowOk wd xs.length p.2)]) = (rs.map (rowOk wd xs.length)).map V.bl := by
              rw [flat_map, List.map_map]
              conv => rhs; rw [← List.map_snd_zip (l₁ := xs) (l₂ := rs) (Nat.le_of_eq hlen.symm)]
              rw [List.map_map] <;> rfl
            rw [e] at hd
            exact ⟨D, _, rfl, SqL.of hd, q0 _ s1⟩
        · rw [decide_eq_false h2] at q0 ⊢
          exact q0 _ (Same.refl H)
      · rw [decide_eq_false h1] at q0 ⊢
        exact ⟨false, rfl, q0 _ (Same.refl H)⟩
    · obtain ⟨t, ty, hk⟩ := NT.ty (K := K) hn
      exact ⟨_, rfl, _, _, _, _, false, rfl, .ty "tuple", ty, hk, false, rfl, q⟩
end
end WK
set_option Elab.async false
set_option linter.all false
set_option maxRecDepth 100000
set_option maxHeartbeats 8000000
namespace WK
open PySem L2 PyProof.Rows LCX
open PySem.W (Frag kitOne)
abbrev sAct : Stmt := top 85
abbrev sLTab : Stmt := top 86
abbrev sLMac : Stmt := top 87
theorem noD {H H' : Hp} {p D : Addr} (b : But p H H') (h : H' D = none) (hD : DiceAt H' p) : H D = none := but_free b h (hD.ne h)
/-- a list of drawn numbers: the dice roll at each turn -/
theorem rolls {g : TG} {tt : TT} {te : TE} {vs : List Nat} {σ : L2.St} {p D : Addr} {H : Hp} {n : Nat} {Qd : Hp → Prop} (good : Int → Prop) (hn : n < sizeLine) (hD : DiceAt H p) (hd : H D = none)
    (hs : ∀ i : Nat, i < n → ∀ (H3 : Hp) (ns : List Int), DiceAt H3 p → H3 D = some (.lst (ns.map V.int)) → ns.length = i → ∀ N : Hp → Prop, (∀ (k : Int) (H4 : Hp), good k → DiceAt H4 p → But p H3 H4 → N (upd H4 D (.lst (ns.map V.int ++ [V.int k])))) →
      Turn g tt te vs σ D (.int (0 + i)) H3 N)
    (hq : ∀ (H3 : Hp) (ns : List Int), DiceAt H3 p → But p H H3 → H3 D = some (.lst (ns.map V.int)) → ns.length = n → (∀ k ∈ ns, good k) → Qd H3) : Went (Itr 0 n) g tt te vs σ D H Qd := by
  have Dp := hD.ne hd
  refine lc_range (lo := 0) (n := n) (fun i H3 => DiceAt H3 p ∧ But p H H3 ∧ ∃ ns : List Int, ns.length = i ∧ (∀ k ∈ ns, good k) ∧ H3 D = some (.lst (ns.map V.int))) ⟨hD.new hd, but_two (But.refl p H) hd, [], rfl, fun k hk => (nomatch hk), upd_same⟩ ?_ ?_
  · rintro i H3 hi ⟨hD3, hB3, ns, hl, hg, h3⟩
    refine hs i hi H3 ns hD3 h3 hl _ fun k H4 hk hD4 hB4 => ⟨hD4.keep fun o e => by rw [upd_ne (Ne.symm Dp)]; exact e, but_at (hB3.trans hB4) hd, ns ++ [k], ?_, ?_, ?_⟩
    · rw [List.length_append, hl] <;> rfl
    · intro j hj
      rcases List.mem_append.mp hj with z | z
      · exact hg j z
      · rw [List.mem_singleton.mp z]
        exact hk
    · rw [upd_same, List.map_append] <;> rfl
  · rintro H3 ⟨hD3, hB3, ns, hl, hg, h3⟩
    exact hq H3 ns hD3 hB3 h3 hl hg
theorem rgV_bel {n : Int} (h : 0 ≤ n) : ∃ ns : List Int, rgV 0 n = ns.map V.int ∧ (ns.length : Int) = n ∧ Bel n ns := by
  refine ⟨(List.range (n - 0).toNat).map fun i => 0 + ((i : Nat) : Int), by rw [List.map_map] <;> rfl, by rw [List.length_map, List.length_range]; omega, fun i hi => ?_⟩
  obtain ⟨j, hj, rfl⟩ := List.mem_map.mp hi
  have := List.mem_range.mp hj
  omega
def spAct : Sp := fun vs H Q _ => ∃ (p : Addr) (n s : Int), vs = [.ref p, .int n, .int s] ∧ DiceAt H p ∧ 1 ≤ n ∧ n ≤ 60 ∧ ∀ (l : Addr) (ns : List Int) (H' : Hp), H l = none → l ≠ p → DiceAt H' p → But p H H' → H' l = some (.lst (ns.map V.int)) → (ns.length : Int) = n → Bel n ns → Q (.ref l) H'
abbrev NAc : List Str := ["_law_dice_here", "_law_size", "_law_sort", "_law_spot", "_law_by", "_law_found", "_law_one", "_law_other", "_law_place"]
section
variable {P : Program} {w : World} {K : PySem.W.Frag} {mg : Str → Option Value} {base : Heap} {fR fO fA fT : Addr} {dR dO dA dT : FuncData}
theorem scAc : FnScope NAc ["_law_dice_here", "_law_size", "_law_sort"] (defScope sAct) := ⟨rfl, rfl, rfl, by decide +kernel, rfl, by decide +kernel, by decide +kernel⟩
theorem Bel.set {n b : Int} {ns : List Int} (h : Bel n ns) (hb : 0 ≤ b ∧ b < n) (j : Nat) : Bel n (ns.set j b) := fun i hi => (List.mem_or_eq_of_mem_set hi).elim (h i) fun e => e ▸ hb
theorem ixN_in {n : Nat} {i : Int} (h0 : 0 ≤ i) (h1 : i < n) : ixN n i = some i.toNat := by
  unfold ixN
  rw [if_pos h0, if_pos h1]
theorem ok_act {f : Addr} {fd : FuncData} (F : Fun K "_law_action" "_law_action" sAct f fd) (T : TN mg) (AR : Fn K mg "_law_roll" sRoll ["_law_dice_here", "_law_total"] fR dR) :
    FnOk P w K mg base CX0 2 f fd ["_law_dice_here", "_law_size", "_law_sort"] spAct := by
  have GR : FnOk P w K mg base CX0 1 fR dR ["_law_dice_here", "_law_total"] spRoll := ok_roll AR.F T.dice
  refine F.ok scAc (fun vs H Q E h => ?_) (fun cdv A outer s H vs Q E hr h => ?_)
  · obtain ⟨p, n, s, rfl, _⟩ := h
    rfl
  · obtain ⟨p, n, s, rfl, hD, h1, h60, q⟩ := h
    refine ⟨_, pss_cons (ps_if (pt_cmpR op_eq (pv 2) pe_int (nomark _)) (pss_one (ps_ret (pe_lc (own := [("_law_place", 8)]) (g := gName 8) (tt := tYes) rfl scAc.nd (pi_range1 rfl T.rng (pa_cons (pv 1) pa_nil))
        (blkOk_by (own := [("_law_place", 8)]) (N := NAc) (sc := defScope sAct) (by decide +kernel)) (fun _ _ _ _ _ => pg_name (i := 8) scAc.nd rfl (Or.inl rfl)) (fun _ _ _ _ _ => pts_nil)
        (fun _ _ _ _ _ => pe_op op_add (pv 8) (pe_call GR hr rfl AR.g AR.F.kp AR.b .nil pass0 (pa_cons (pv 0) (pa_cons (pe_op op_sub (pv 1) (pv 8)) pa_nil))))))) pss_nil)
      (pss_cons (ps_if (pt_cmpR op_eq (pv 2) pe_int (nomark _)) (pss_cons (ps_set (i := 3) scAc.nd rfl (Or.inr rfl) (pe_call GR hr rfl AR.g AR.F.kp AR.b .nil pass0 (pa_cons (pv 0) (pa_cons (pv 1) pa_nil))))
        (pss_one (ps_ret (pe_lc (own := [("_law_place", 8)]) (g := gName 8) (tt := tYes) rfl scAc.nd (pi_range1 rfl T.rng (pa_cons (pv 1) pa_nil))
        (blkOk_by (own := [("_law_place", 8)]) (N := NAc) (sc := defScope sAct) (by decide +kernel)) (fun _ _ _ _ _ => pg_name (i := 8) scAc.nd rfl (Or.inl rfl)) (fun _ _ _ _ _ => pts_nil)
        (fun _ _ _ _ _ => pv 3))))) pss_nil)
      (pss_cons (ps_if (pt_cmpR op_eq (pv 2) pe_int (nomark _)) (pss_cons (ps_set (i := 4) scAc.nd rfl (Or.inr rfl) (pe_call GR hr rfl AR.g AR.F.kp AR.b .nil pass0 (pa_cons (pv 0) (pa_cons (pv 1) pa_nil))))
        (pss_one (ps_ret (pe_lc (own := [("_law_place", 8)]) (g := gName 8) (tt := tYes) rfl scAc.nd (pi_range1 rfl T.rng (pa_cons (pv 1) pa_nil))
        (blkOk_by (own := [("_law_place", 8)]) (N := NAc) (sc := defScope sAct) (by decide +kernel)) (fun _ _ _ _ _ => pg_name (i := 8) scAc.nd rfl (Or.inl rfl)) (fun _ _ _ _ _ => pts_nil)
        (fun _ _ _ _ _ => pe_op op_mod (pe_callTy call_int1 (by rfl) T.int (by decide +kernel) (pa_cons (pe_op op_add (pv 8) (pv 4)) pa_nil)) (pv 1)))))) pss_nil)
      (pss_cons (ps_if (pt_cmpR op_eq (pv 2) pe_int (nomark _)) (pss_one (ps_ret (pe_listRg rfl rfl T.list (prg_1 rfl T.rng (pv 1))))) pss_nil)
      (pss_cons (ps_if (pt_cmpR op_eq (pv 2) pe_int (nomark _)) (pss_one (ps_ret (pe_callB cr_sorted (by rfl) T.sorted (by decide +kernel) (pa_cons (pe_lc (own := [("_law_place", 8)]) (g := gName 8) (tt := tYes) rfl scAc.nd (pi_range1 rfl T.rng (pa_cons (pv 1) pa_nil))
        (blkOk_by (own := [("_law_place", 8)]) (N := NAc) (sc := defScope sAct) (by decide +kernel)) (fun _ _ _ _ _ => pg_name (i := 8) scAc.nd rfl (Or.inl rfl)) (fun _ _ _ _ _ => pts_nil)
        (fun _ _ _ _ _ => pe_call GR hr rfl AR.g AR.F.kp AR.b .nil pass0 (pa_cons (pv 0) (pa_cons (pv 1) pa_nil)))) pa_nil)))) pss_nil)
      (pss_cons (ps_set (i := 5) scAc.nd rfl (Or.inl rfl) (pe_ifExp (pt_cmpR op_eq (pv 2) pe_int (nomark _)) (pe_lc (own := [("_law_place", 8)]) (g := gName 8) (tt := tYes) rfl scAc.nd (pi_range1 rfl T.rng (pa_cons (pv 1) pa_nil))
        (blkOk_by (own := [("_law_place", 8)]) (N := NAc) (sc := defScope sAct) (by decide +kernel)) (fun _ _ _ _ _ => pg_name (i := 8) scAc.nd rfl (Or.inl rfl)) (fun _ _ _ _ _ => pts_nil)
        (fun _ _ _ _ _ => pe_call GR hr rfl AR.g AR.F.kp AR.b .nil pass0 (pa_cons (pv 0) (pa_cons (pv 1) pa_nil)))) (pe_listRg rfl rfl T.list (prg_1 rfl T.rng (pv 1)))))
      (pss_cons (ps_if (pt_cmpR op_eq (pv 2) pe_int (nomark _)) (pss_cons (ps_par rfl scAc.nd (i := 6) (j := 7) rfl rfl (by decide) rfl rfl (pa_cons (pe_call GR hr rfl AR.g AR.F.kp AR.b .nil pass0 (pa_cons (pv 0) (pa_cons (pv 1) pa_nil))) (pa_cons (pe_call GR hr rfl AR.g AR.F.kp AR.b .nil pass0 (pa_cons (pv 0) (pa_cons (pv 1) pa_nil))) pa_nil)) (by rfl))
        (pss_one (ps_asg (pe_tup (pa_cons (pv 7) (pa_cons (pv 6) pa_nil))) (pg_tup (by rfl) (pgs_cons (pg_sub (pv 5) (pv 6) set_list (fun _ => rfl)) (pgs_cons (pg_sub (pv 5) (pv 7) set_list (fun _ => rfl)) pgs_nil)))))) pss_nil)
      (pss_one (ps_ret (pv 5))))))))), ?_⟩
    have hn : n.toNat < sizeLine := by rw [sizeLine_eq]; omega
    have hln : ∀ ns : List Int, ns.length = n.toNat → (ns.length : Int) = n := fun ns e => by omega
    have hsz : ∀ (i : Nat) (ns : List Int), ns.length = i → i < n.toNat → (ns.map V.int).length < sizeLine := fun i ns e hi => by rw [List.length_map, sizeLine_eq]; omega
    have hrg : RgOk 0 n := RgOk.of_le (by decide) (by omega) (by decide) (by omega)
    -- 1: up
    refine ⟨_, rfl, rfl, _, rfl, ite2 (fun _ => ?_) (fun _ => ?_)⟩
    · refine ⟨_, rfl, _, rfl, by omega, by omega, fun D hD2 => ?_⟩
      refine rolls (fun k => 0 ≤ k ∧ k < n) hn hD hD2 (fun i hi H3 ns hD3 h3 hli N hN => ?_) fun H3 ns hD3 hB3 h3 hl hg => q D ns H3 hD2 (hD.ne hD2) hD3 hB3 h3 (hln ns hl) hg
      refine ⟨rfl, _, rfl, _, rfl, _, rfl, _, rfl, _, _, rfl, rfl, p, _, rfl, hD3, by omega, by omega, fun r H4 r0 r1 hD4 hB4 => ⟨_, _, rfl, rfl, _, hB4 _ _ h3 (hD.ne hD2), hsz i ns hli hi, hN _ H4 ⟨by omega, by omega⟩ hD4 hB4⟩⟩
    -- 2: to one place
    refine ⟨_, rfl, rfl, _, rfl, ite2 (fun _ => ?_) (fun _ => ?_)⟩
    · refine ⟨_, rfl, _, rfl, p, _, rfl, hD, by omega, by omega, fun r H1 r0 r1 hD1 hB1 => ?_⟩
      refine ⟨_, rfl, _, rfl, by omega, by omega, fun D hD2 => ?_⟩
      refine rolls (fun k => 0 ≤ k ∧ k < n) hn hD1 hD2 (fun i hi H3 ns hD3 h3 hli N hN => ?_) fun H3 ns hD3 hB3 h3 hl hg => q D ns H3 (noD hB1 hD2 hD1) (hD1.ne hD2) hD3 (hB1.trans hB3) h3 (hln ns hl) hg
      refine ⟨rfl, _, rfl, _, h3, hsz i ns hli hi, hN _ H3 ⟨r0, r1⟩ hD3 (But.refl _ _)⟩
    -- 3: round
    refine ⟨_, rfl, rfl, _, rfl, ite2 (fun _ => ?_) (fun _ => ?_)⟩
    · refine ⟨_, rfl, _, rfl, p, _, rfl, hD, by omega, by omega, fun r H1 r0 r1 hD1 hB1 => ?_⟩
      refine ⟨_, rfl, _, rfl, by omega, by omega, fun D hD2 => ?_⟩
      refine rolls (fun k => 0 ≤ k ∧ k < n) hn hD1 hD2 (fun i hi H3 ns hD3 h3 hli N hN => ?_) fun H3 ns hD3 hB3 h3 hl hg => q D ns H3 (noD hB1 hD2 hD1) (hD1.ne hD2) hD3 (hB1.trans hB3) h3 (hln ns hl) hg
      refine ⟨rfl, _, rfl, _, rfl, _, _, rfl, rfl, .inl ⟨_, rfl, _, rfl, _, _, rfl, rfl, by omega, _, h3, hsz i ns hli hi, hN _ H3 ⟨?_, ?_⟩ hD3 (But.refl _ _)⟩⟩
      · exact Int.emod_nonneg _ (by omega)
      · exact Int.emod_lt_of_pos _ (by omega)
    -- 4: nowhere
    refine ⟨_, rfl, rfl, _, rfl, ite2 (fun _ => ?_) (fun _ => ?_)⟩
    · refine ⟨_, rfl, n, rfl, hrg, fun l hl => ?_⟩
      obtain ⟨ns, e, hl1, hb⟩ := rgV_bel (n := n) (by omega)
      exact q l ns _ hl (hD.ne hl) (hD.new hl) (but_two (But.refl _ _) hl) (by rw [upd_same, e]) hl1 hb
    -- 5: in order
    refine ⟨_, rfl, rfl, _, rfl, ite2 (fun _ => ?_) (fun _ => ?_)⟩
    · refine ⟨_, rfl, _, rfl, by omega, by omega, fun D hD2 => ?_⟩
      refine rolls (fun k => 0 ≤ k ∧ k < n) hn hD hD2 (fun i hi H3 ns hD3 h3 hli N hN => ?_) fun H3 ns hD3 hB3 h3 hl hg => ?_
      · refine ⟨rfl, _, rfl, _, rfl, p, _, rfl, hD3, by omega, by omega, fun r H4 r0 r1 hD4 hB4 => ⟨_, hB4 _ _ h3 (hD.ne hD2), hsz i ns hli hi, hN _ H4 ⟨r0, r1⟩ hD4 hB4⟩⟩
      · refine ⟨D, ns, rfl, SqL.of h3, by omega, fun ns' t hp _ ht => ?_⟩
        exact q t ns' _ (noD hB3 ht hD3) (hD3.ne ht) (hD3.new ht) (but_two hB3 ht) upd_same (by rw [hp.length_eq]; exact hln ns hl) fun k hk => hg k (hp.mem_iff.mp hk)
    -- anyhow, or in order; then perhaps two exchanged
    refine ⟨_, rfl, rfl, _, rfl, ite2 (fun _ => ?_) (fun _ => ?_)⟩
    · refine ⟨_, rfl, _, rfl, by omega, by omega, fun l hl0 => ?_⟩
      refine rolls (fun k => 0 ≤ k ∧ k < n) hn hD hl0 (fun i hi H3 ns hD3 h3 hli N hN => ?_) fun H3 ns hD3 hB3 h3 hl hg => ?_
      · exact ⟨rfl, _, rfl, _, rfl, p, _, rfl, hD3, by omega, by omega, fun r H4 r0 r1 hD4 hB4 => ⟨_, hB4 _ _ h3 (hD.ne hl0), hsz i ns hli hi, hN _ H4 ⟨r0, r1⟩ hD4 hB4⟩⟩
      have lp := hD.ne hl0
      have hlen := hln ns hl
      have hb : Bel n ns := hg
      clear hl hg
      refine ⟨_, rfl, rfl, _, rfl, ite2 (fun _ => ?_) (fun _ => ?_)⟩
      refine ⟨_, rfl, _, rfl, p, _, rfl, hD3, by omega, by omega, fun a H4 a0 a1 hD4 hB4 => ?_⟩
      refine ⟨_, rfl, _, rfl, p, _, rfl, hD4, by omega, by omega, fun b H5 b0 b1 hD5 hB5 => ?_⟩
      refine ⟨_, _, rfl, ?_⟩
      refine ⟨_, rfl, _, rfl, (by rw [sizeLine_eq]; show 2 ≤ 16777216; decide), fun t ht => ?_⟩
      have h5 : H5 l = some (.lst (ns.map V.int)) := hB5 _ _ (hB4 _ _ h3 lp) lp
      have h6 : (upd H5 t (.tup [V.int b, V.int a])) l = some (.lst (ns.map V.int)) := same_upd ht _ _ h5
      refine ⟨t, _, rfl, SqT.of upd_same, rfl, ?_⟩
      refine ⟨_, _, rfl, _, rfl, _, rfl, l, _, a, a.toNat, rfl, rfl, h6, ixN_in a0 (by rw [List.length_map]; omega), ?_⟩
      refine ⟨_, _, rfl, _, rfl, _, rfl, l, _, b, b.toNat, rfl, rfl, upd_same, ixN_in b0 (by rw [List.length_set, List.length_map]; omega), ?_⟩
      have kp : ∀ (G : Hp) (o : HO), DiceAt G p → DiceAt (upd G l o) p := fun G o hG => hG.keep fun _ e => by rw [upd_ne (Ne.symm lp)]; exact e
      refine ⟨rfl, _, rfl, q l ((ns.set a.toNat b).set b.toNat a) _ hl0 lp (kp _ _ (kp _ _ (hD5.new ht))) (but_at (but_at (but_two ((hB3.trans hB4).trans hB5) ht) hl0) hl0) (by rw [upd_same, List.map_set, List.map_set]) (by rw [List.length_set, List.length_set]; exact hlen) ((hb.set ⟨b0, b1⟩ _).set ⟨a0, a1⟩ _)⟩
      exact ⟨_, rfl, q l ns H3 hl0 lp hD3 hB3 h3 hlen hb⟩
    · refine ⟨_, rfl, n, rfl, hrg, fun l hl0 => ?_⟩
      obtain ⟨ns, e, hl1, hb⟩ := rgV_bel (n := n) (by omega)
      have lp := hD.ne hl0
      have hlen := hl1
      have hD3 : DiceAt (upd H l (.lst (rgV 0 n))) p := hD.new hl0
      have hB3 : But p H (upd H l (.lst (rgV 0 n))) := but_two (But.refl _ _) hl0
      have h3 : (upd H l (.lst (rgV 0 n))) l = some (.lst (ns.map V.int)) := by rw [upd_same, e]
      clear hl1 e
      generalize upd H l (.lst (rgV 0 n)) = H3 at hD3 hB3 h3 ⊢
      refine ⟨_, rfl, rfl, _, rfl, ite2 (fun _ => ?_) (fun _ => ?_)⟩
      refine ⟨_, rfl, _, rfl, p, _, rfl, hD3, by omega, by omega, fun a H4 a0 a1 hD4 hB4 => ?_⟩
      refine ⟨_, rfl, _, rfl, p, _, rfl, hD4, by omega, by omega, fun b H5 b0 b1 hD5 hB5 => ?_⟩
      refine ⟨_, _, rfl, ?_⟩
      refine ⟨_, rfl, _, rfl, (by rw [sizeLine_eq]; show 2 ≤ 16777216; decide), fun t ht => ?_⟩
      have h5 : H5 l = some (.lst (ns.map V.int)) := hB5 _ _ (hB4 _ _ h3 lp) lp
      have h6 : (upd H5 t (.tup [V.int b, V.int a])) l = some (.lst (ns.map V.int)) := same_upd ht _ _ h5
      refine ⟨t, _, rfl, SqT.of upd_same, rfl, ?_⟩
      refine ⟨_, _, rfl, _, rfl, _, rfl, l, _, a, a.toNat, rfl, rfl, h6, ixN_in a0 (by rw [List.length_map]; omega), ?_⟩
      refine ⟨_, _, rfl, _, rfl, _, rfl, l, _, b, b.toNat, rfl, rfl, upd_same, ixN_in b0 (by rw [List.length_set, List.length_map]; omega), ?_⟩
      have kp : ∀ (G : Hp) (o : HO), DiceAt G p → DiceAt (upd G l o) p := fun G o hG => hG.keep fun _ e => by rw [upd_ne (Ne.symm lp)]; exact e
      refine ⟨rfl, _, rfl, q l ((ns.set a.toNat b).set b.toNat a) _ hl0 lp (kp _ _ (kp _ _ (hD5.new ht))) (but_at (but_at (but_two ((hB3.trans hB4).trans hB5) ht) hl0) hl0) (by rw [upd_same, List.map_set, List.map_set]) (by rw [List.length_set, List.length_set]; exact hlen) ((hb.set ⟨b0, b1⟩ _).set ⟨a0, a1⟩ _)⟩
      exact ⟨_, rfl, q l ns H3 hl0 lp hD3 hB3 h3 hlen hb⟩
end
end WK
set_option Elab.async false
set_option linter.all false
set_option maxRecDepth 100000
set_option maxHeartbeats 8000000
namespace WK
open PySem L2 PyProof.Rows LCX K1
open TX (sg sigs)
open PySem.W (Frag kitOne)
abbrev oLst (r : List Int) : HO := .lst (r.map V.int)
/-- a plain table at l: a list of tuples -/
def PTab (H : Hp) (l : Addr) (tb : List (List Int)) : Prop := ∃ as, H l = some (.lst (as.map V.ref)) ∧ Objs oTup H as tb
/-- a table of n rows, each of wd numbers below n -/
structure TabOk (tb : List (List Int)) (wd : Nat) (n : Int) : Prop where
  len : (tb.length : Int) = n
  row : ∀ r ∈ tb, r.length = wd ∧ Bel n r
theorem DiceAt.tup {H : Hp} {p a : Addr} {xs : List V} (h : DiceAt H p) (e : H a = some (.tup xs)) : a ≠ p := fun z => by
  obtain ⟨x, y, w, k, _⟩ := h
  rw [z, k] at e
  cases e
theorem PTab.but {H H' : Hp} {p l : Addr} {tb : List (List Int)} (h : PTab H l tb) (lp : l ≠ p) (hD : DiceAt H p) (b : But p H H') : PTab H' l tb := by
  obtain ⟨as, h1, h2⟩ := h
  exact ⟨as, b _ _ h1 lp, h2.to fun a _ r e => b _ _ e (hD.tup e)⟩
def spLTab : Sp := fun vs H Q _ => ∃ (p q : Addr) (L : W) (n : Int) (ss : List Int), vs = [.ref p, .str (tx L), .int n, .ref q] ∧ DiceAt H p ∧ L ≠ [] ∧ L.length ≤ 26 ∧ 1 ≤ n ∧ n ≤ 60 ∧ q ≠ p ∧ H q = some (.lst (ss.map V.int)) ∧ ss ≠ [] ∧ ss.length ≤ 100 ∧
  ∀ (l : Addr) (tb : List (List Int)) (H' : Hp), H l = none → l ≠ p → DiceAt H' p → But p H H' → PTab H' l tb → TabOk tb L.length n → Q (.ref l) H'
abbrev NTb : List Str := ["_law_dice_here", "_law_letters_here", "_law_size", "_law_sorts", "_law_rows", "_law_letter", "_law_place", "_law_row"]
abbrev scT2 : Scope := { kind := .function, names := [(".0", .local), ("_law_place", .cell), ("tuple", .globalImplicit), ("_law_rows", .cell)], isGenerator := false, isCoroutine := false }
abbrev rTupL (K : Frag) : List V → Hp → VK → Prop := fun xs H Q => ∃ p ys, xs = [.ref p] ∧ ((SqL K H p ys ∧ ∀ l, H l = none → Q (.ref l) (upd H l (.tup ys))) ∨ (SqT K H p ys ∧ Q (.ref p) H))
section
variable {P : Program} {w : World} {K : PySem.W.Frag} {mg : Str → Option Value} {base : Heap} {fR fO fA fT : Addr} {dR dO dA dT : FuncData}
theorem scTa : FnScope NTb ["_law_dice_here", "_law_letters_here", "_law_size", "_law_sorts"] (defScope sLTab) := ⟨rfl, rfl, rfl, by decide +kernel, rfl, by decide +kernel, by decide +kernel⟩
theorem ok_ltab {f : Addr} {fd : FuncData} (F : Fun K "_law_table" "_law_table" sLTab f fd) (T : TN mg) (AR : Fn K mg "_law_roll" sRoll ["_law_dice_here", "_law_total"] fR dR) (AO : Fn K mg "_law_one_of" sOne ["_law_dice_here", "_law_items"] fO dO)
    (AA : Fn K mg "_law_action" sAct ["_law_dice_here", "_law_size", "_law_sort"] fA dA) : FnOk P w K mg base CX0 3 f fd ["_law_dice_here", "_law_letters_here", "_law_size", "_law_sorts"] spLTab := by
  have GO : FnOk P w K mg base CX0 2 fO dO ["_law_dice_here", "_law_items"] spOne := ok_one AO.F T.dice AR.g AR.F AR.b
  have GA : FnOk P w K mg base CX0 2 fA dA ["_law_dice_here", "_law_size", "_law_sort"] spAct := ok_act AA.F T AR
  refine F.ok scTa (fun vs H Q E h => ?_) (fun cdv A outer s H vs Q E hr h => ?_)
  · obtain ⟨p, q, L, n, ss, rfl, _⟩ := h
    rfl
  · obtain ⟨p, q, L, n, ss, rfl, hD, hL, hL2, h1, h60, qp, hq, hs0, hs1, k⟩ := h
    refine ⟨_, pss_cons (ps_set (i := 4) scTa.nd rfl (Or.inr rfl) (pe_lc (own := [("_law_letter", 5)]) (g := gName 5) (tt := tYes) rfl scTa.nd (pi_str (pv 1))
        (blkOk_by (own := [("_law_letter", 5)]) (N := NTb) (sc := defScope sLTab) (by decide +kernel)) (fun _ _ _ _ _ => pg_name (i := 5) scTa.nd rfl (Or.inl rfl)) (fun _ _ _ _ _ => pts_nil)
        (fun _ _ _ _ _ => pe_call GA hr rfl AA.g AA.F.kp AA.b .nil pass0 (pa_cons (pv 0) (pa_cons (pv 2) (pa_cons (pe_call GO hr rfl AO.g AO.F.kp AO.b .nil pass0 (pa_cons (pv 0) (pa_cons (pv 3) pa_nil))) pa_nil))))))
      (pss_one (ps_ret (pe_lc (own := [("_law_place", 6)]) (g := gName 6) (tt := tYes) (te := tCB (rTupL K) (tCons (tLc (iList K (tVar 4)) (gName 7) tYes (tOp (rIxL K) (tVar 7) (tVar 6)) [7]) tNil)) rfl scTa.nd (pi_range1 rfl T.rng (pa_cons (pv 2) pa_nil))
        (blkOk_by (own := [("_law_place", 6)]) (N := NTb) (sc := defScope sLTab) (by decide +kernel)) (fun _ _ _ _ _ => pg_name (i := 6) scTa.nd rfl (Or.inr rfl)) (fun _ _ _ _ _ => pts_nil)
        (fun _ _ _ _ _ => pe_callTy call_tuple_of (by rfl) T.tuple (by decide +kernel) (pa_cons (pe_lc (own := [("_law_row", 7)]) (g := gName 7) (tt := tYes) (te := tOp (rIxL K) (tVar 7) (tVar 6)) rfl scTa.nd (pi_list (pv 4))
          (blkOk_by (own := [("_law_row", 7)]) (N := NTb) (sc := scT2) (by decide +kernel)) (fun _ _ _ _ _ => pg_name (i := 7) scTa.nd rfl (Or.inl rfl)) (fun _ _ _ _ _ => pts_nil)
          (fun _ _ _ _ _ => pe_ix ix_list (pv 7) (pv 6) (fun _ _ => rfl))) pa_nil))))), ?_⟩
    have ssp : 0 < (ss.map V.int).length := by rw [List.length_map]; exact List.length_pos_iff.mpr hs0
    have ss1 : (ss.map V.int).length < 1000000 := by rw [List.length_map]; omega
    refine ⟨_, rfl, tx L, rfl, fun D hD2 => ?_⟩
    have Dp := hD.ne hD2
    have qD : q ≠ D := ne_of_none hq hD2
    refine lc_it walk_str (fun i H3 => DiceAt H3 p ∧ But p H H3 ∧ ∃ (as : List Addr) (rs : List (List Int)), as.length = i ∧ H3 D = some (.lst (as.map V.ref)) ∧ Objs oLst H3 as rs ∧ (∀ r ∈ rs, (r.length : Int) = n ∧ Bel n r) ∧ ∀ a ∈ as, a ≠ D ∧ a ≠ p)
      ⟨hD.new hD2, but_two (But.refl p H) hD2, [], [], rfl, upd_same, trivial, fun r hr => (nomatch hr), fun r hr => (nomatch hr)⟩ (fun _ _ _ _ => trivial) ?_ ?_
    · rintro i x H3 H4 hi ⟨hD4, hB4, as, rs, hl, hd, ho, hr2, hn⟩ ⟨rfl, c, hx, rfl⟩
      have hx' : L[i]? = some c := by
        rw [← Array.getElem?_toList, tx_list] at hx
        exact hx
      have hiL := (List.getElem?_eq_some_iff.mp hx').1
      refine ⟨rfl, _, rfl, _, rfl, _, rfl, _, rfl, p, q, _, rfl, hD4, qp, hB4 _ _ hq qp, ssp, ss1, fun v H5 hv hD5 hB5 => ?_⟩
      obtain ⟨s0, _, rfl⟩ := List.mem_map.mp hv
      refine ⟨p, n, s0, rfl, hD5, h1, h60, fun l ns H6 hl6 lp hD6 hB6 h6 hlen hb => ?_⟩
      have hd6 : H6 D = some (.lst (as.map V.ref)) := hB6 _ _ (hB5 _ _ hd Dp) Dp
      have lD : l ≠ D := fun z => by rw [z, hB5 _ _ hd Dp] at hl6; cases hl6
      have ho6 : Objs oLst H6 as rs := ho.to fun a ha r e => hB6 _ _ (hB5 _ _ e (hn a ha).2) (hn a ha).2
      refine ⟨_, hd6, by rw [List.length_map, sizeLine_eq]; omega, hD6.keep fun o e => by rw [upd_ne (Ne.symm Dp)]; exact e, but_at ((hB4.trans hB5).trans hB6) hD2, as ++ [l], rs ++ [ns], by rw [List.length_append, hl] <;> rfl, by rw [upd_same, List.map_append] <;> rfl, ?_, ?_, ?_⟩
      · refine Objs.snoc (ho6.to fun a ha r e => by rw [upd_ne (hn a ha).1]; exact e) (by rw [upd_ne lD]; exact h6)
      · intro r hr
        rcases List.mem_append.mp hr with z | z
        · exact hr2 r z
        · rw [List.mem_singleton.mp z]
          exact ⟨hlen, hb⟩
      · intro a ha
        rcases List.mem_append.mp ha with z | z
        · exact hn a z
        · rw [List.mem_singleton.mp z]
          exact ⟨lD, lp⟩
    · rintro H3 ⟨hD3, hB3, as, rs, hl, hd, ho, hr2, hn⟩
      have hl : as.length = L.length := by rw [hl, size_tx]
      have hrl : rs.length = L.length := ho.len.symm.trans hl
      refine ⟨_, rfl, _, rfl, by omega, by omega, fun D2 hD4 => ?_⟩
      have D2p := hD3.ne hD4
      have nD2 : H D2 = none := but_free hB3 hD4 D2p
      refine lc_range (lo := 0) (n := n.toNat) (fun i H4 => DiceAt H4 p ∧ But p H3 H4 ∧ ∃ (ts : List Addr) (tb : List (List Int)), ts.length = i ∧ H4 D2 = some (.lst (ts.map V.ref)) ∧ Objs oTup H4 ts tb ∧ ∀ r ∈ tb, r.length = L.length ∧ Bel n r)
        ⟨hD3.new hD4, but_two (But.refl p H3) hD4, [], [], rfl, upd_same, trivial, fun r hr => (nomatch hr)⟩ ?_ ?_
      · rintro i H4 hi ⟨hD4', hB4, ts, tb, hlt, hd2, ho2, hr3⟩
        have hd4 : H4 D = some (.lst (as.map V.ref)) := hB4 _ _ hd Dp
        have ho4 : Objs oLst H4 as rs := ho.to fun a ha r e => hB4 _ _ e (hn a ha).2
        refine ⟨rfl, _, rfl, D, rfl, ⟨_, SqL.of hd4⟩, fun D3 hD3' => ?_⟩
        have hz : (as.zip rs).length < sizeLine := by rw [List.length_zip, sizeLine_eq]; omega
        have eas : as.map V.ref = (as.zip rs).map fun z => V.ref z.1 := by
          rw [show (fun z : Addr × List Int => V.ref z.1) = V.ref ∘ Prod.fst from rfl, ← List.map_map, List.map_fst_zip (Nat.le_of_eq ho.len)]
        refine same_list (l := as.zip rs) (val := fun z => V.ref z.1) (r := fun z => [V.int (z.2.getD i 0)]) hD3' (SqL.of (by rw [← eas]; exact hd4)) hz (fun _ => Nat.le_refl _) (fun z hz H5 acc s5 hacc hlen N hN => ?_) (fun H5 s5 hd5 => ?_)
        · obtain ⟨e1, e2⟩ := hr2 z.2 (List.of_mem_zip hz).2
          have hii : i < z.2.length := by omega
          have at1 : atI (z.2.map V.int) (0 + (i : Int)) = some (.int (z.2.getD i 0)) := by
            rw [Int.zero_add]
            refine atI_nat ?_
            rw [List.getElem?_map, List.getD_eq_getElem?_getD, List.getElem?_eq_getElem hii] <;> rfl
          exact ⟨rfl, _, rfl, _, rfl, z.1, _, _, _, rfl, rfl, SqL.of (s5 _ _ (ho4.at_ z hz)), at1, acc, hacc, hlen, hN _ (same_at s5 hD3') upd_same⟩
        · have e : (as.zip rs).flatMap (fun z => [V.int (z.2.getD i 0)]) = (rs.map fun r => r.getD i 0).map V.int := by
            rw [flat_map, List.map_map]
            conv => rhs; rw [← List.map_snd_zip (l₁ := as) (l₂ := rs) (Nat.le_of_eq ho.len.symm)]
            rw [List.map_map] <;> rfl
          rw [e] at hd5
          refine ⟨D3, _, rfl, .inl ⟨SqL.of hd5, fun t ht => ?_⟩⟩
          have s6 : Same H4 (upd H5 t (.tup ((rs.map fun r => r.getD i 0).map V.int))) := same_two s5 ht
          have hd6 := s6 _ _ hd2
          have D2t : ∀ a ∈ ts, a ≠ D2 := fun a ha z => by
            obtain ⟨r, _, e⟩ := ho2.mem a ha
            rw [z, hd2] at e
            cases e
          have tD2 : t ≠ D2 := fun z => by rw [z] at ht; rw [s5 _ _ hd2] at ht; cases ht
          refine ⟨_, hd6, by rw [List.length_map, sizeLine_eq]; omega, ?_, ?_, ts ++ [t], tb ++ [rs.map fun r => r.getD i 0], by rw [List.length_append, hlt] <;> rfl, by rw [upd_same, List.map_append] <;> rfl, ?_, ?_⟩
          · exact (hD4'.keep fun o e => s6 _ _ e).keep fun o e => by rw [upd_ne (Ne.symm D2p)]; exact e
          · exact but_at (hB4.trans (But.ofSame s6)) hD4
          · refine Objs.snoc (ho2.to fun a ha r e => by rw [upd_ne (D2t a ha)]; exact s6 _ _ e) (by rw [upd_ne tD2, upd_same])
          · intro r hr
            rcases List.mem_append.mp hr with z | z
            · exact hr3 r z
            · rw [List.mem_singleton.mp z]
              refine ⟨by rw [List.length_map, hrl], fun j hj => ?_⟩
              obtain ⟨r', hr', rfl⟩ := List.mem_map.mp hj
              obtain ⟨e1, e2⟩ := hr2 r' hr'
              have hii : i < r'.length := by omega
              rw [List.getD_eq_getElem?_getD, List.getElem?_eq_getElem hii]
              exact e2 _ (List.getElem_mem hii)
      · rintro H4 ⟨hD4', hB4, ts, tb, hlt, hd2, ho2, hr3⟩
        exact k D2 tb H4 nD2 D2p hD4' (hB3.trans hB4) ⟨ts, hd2, ho2⟩ ⟨by rw [← ho2.len, hlt]; omega, hr3⟩
end
end WK
set_option Elab.async false
set_option linter.all false
set_option maxRecDepth 100000
set_option maxHeartbeats 8000000
namespace ENU
open PySem PySem.Spec PyProof.Rows L2
/-- the walk over a text: each sign in a new pair -/
def EnS (x : Str) : It := ⟨fun i _ => i < x.cps.size, fun i H v H' => ∃ T c, v = .ref T ∧ H T = none ∧ H' = upd H T (.tup [.int (i : Nat), .str ⟨#[c]⟩]) ∧ x.cps[i]? = some c, fun i _ => i = x.cps.size⟩
/-- .. over the tuple at a -/
def EnT (K : PySem.W.Frag) (a : Addr) (xs : List V) : It :=
  ⟨fun i H => SqT K H a xs ∧ i < xs.length, fun i H v H' => ∃ T y, v = .ref T ∧ H T = none ∧ H' = upd H T (.tup [.int (i : Nat), y]) ∧ xs[i]? = some y, fun i H => SqT K H a xs ∧ i = xs.length⟩
section
variable {X : Cx} {s : Shared} {σ : L2.St} {H : Hp} {pins : List (Addr × Obj)}
/-- one turn, by what the inner walk draws -/
theorem en_item {e it : Addr} {fp : List Addr} {n i kk : Nat} {Pv : Nat → Value → Prop} {St : Nat → Heap → Prop} {E : Value → Shared → Prop} {elts : List Expr} {tpos : Pos} {old : Value} {R : V → Hp → Heap → Prop} (I : Inv X pins σ H s) (D : Draws X.prog X.w X.A.in1 it fp n Pv St)
    (he : IsEnum s.heap e it ((i : Nat) : Int) old) (hst : St i s.heap) (hlt : i < n) (hne : e ≠ it) (hef : e ∉ fp) (hit : it < s.heap.objs.size) (hf : ∀ b ∈ [e, it], FpOk X pins H b)
    (hR : ∀ u, Pv i u → ∃ y, RelV y u ∧ ∀ (T : Addr) (h2 : Heap), H T = none → St (i + 1) h2 → (∃ old, IsEnum h2 e it ((i + 1 : Nat) : Int) old) → R (.ref T) (upd H T (.tup [.int (i : Nat), y])) h2) :
    wpAny (model X.prog X.w) X.A (pyNext (.ref e)) (fun r s1 => ∃ u, r = some u ∧
      wpAny (model X.prog X.w) X.A (letOwnedTupleGo (.Tuple elts kk tpos) (.ref e) u) (fun _ s2 => ∃ x H', Inv X pins σ H' s2 ∧ RelV x u ∧ R x H' s2.heap ∧ ∀ b ∈ [e, it], H' b = none) E s1) E s := by
  have elt : e < s.heap.objs.size := Heap.lt_size he
  refine wpAny_pyNext_enum_itemD D he hst hlt hne hef fun u h1 tk hP ho hst1 hT hsz kp => ⟨_, rfl, wpAny_letOwnedTupleGo_enum (s := { s with heap := h1, toks := tk + 1 }) ho fun h2 he2 sb => ?_⟩
  obtain ⟨y, ry, q⟩ := hR u hP
  have fresh : H s.heap.objs.size = none := I.hok.fresh (Nat.le_refl _)
  have stay : ∀ b o, b ∉ [e, it] → s.heap.get? b = some o → h2.get? b = some o := fun b o hb z => (sb.2 b fun w => hb (by simp [w])).trans (kp b o (fun w => hb (by simp [w])) (fun w => hb (by simp [w])) z)
  have pair : h2.get? s.heap.objs.size = some { cls := .type "tuple", data := .seq #[.int i tk, u] } := (sb.2 _ (Nat.ne_of_gt elt)).trans hT
  have new : ObjOk X.prog X.w (upd H s.heap.objs.size (.tup [.int (i : Nat), y])) h2 s.heap.objs.size (.tup [.int (i : Nat), y]) := ⟨by show 2 ≤ sizeLine; decide, [.int i tk, u], .cons ⟨_, rfl⟩ (.cons ry .nil), _, pair, rfl, _, rfl⟩
  refine ⟨.ref s.heap.objs.size, _, I.turnedNew (ch := [e, it]) stay hf (Nat.le_refl _) new, rfl, q _ _ fresh (D.frame _ _ _ hst1 fun b hb o z => (sb.2 b fun w => hef (w ▸ hb)).trans z) ⟨u, ?_⟩, fun b hb => ?_⟩
  · rw [show ((i + 1 : Nat) : Int) = (i : Int) + 1 from Int.natCast_add i 1]
    exact he2
  · have hlt : b < s.heap.objs.size := by
      obtain z | z := List.mem_cons.mp hb
      · rw [z]
        exact elt
      · rw [List.mem_singleton.mp z]
        exact hit
    rw [upd_ne (Nat.ne_of_lt hlt)]
    exact (hf b hb).1
end
theorem DQT {h : Heap} {a : Addr} {its : Array Value} (p : IsTup h a its) : h.IsTuple a its := let ⟨o, e, c, n, d⟩ := p; ⟨o, e, c, n, d⟩
theorem turn_enS {P : Program} {w : World} {K : PySem.W.Frag} {elts : List Expr} {kk : Nat} {tpos : Pos} (x : Str) (t : Tok) (e it : Addr) :
    Turn P w K (.Tuple elts kk tpos) (EnS x) [e, it] e (fun i h => (∃ old, IsEnum h e it ((i : Nat) : Int) old) ∧ h.IsStrIter it (strIterType x) x t i ∧ e ≠ it) where
  mem := .head _
  obj := fun i h st b hb => by
    obtain ⟨⟨old, he⟩, ⟨o, ho, _, hd⟩, _⟩ := st
    obtain z | z := List.mem_cons.mp hb
    · exact ⟨_, z ▸ he, fun v q => by cases q⟩
    · exact ⟨o, List.mem_singleton.mp z ▸ ho, fun v q => by cases hd.symm.trans q⟩
  keep := fun i h h' st k => let ⟨⟨old, he⟩, ⟨o, ho, r⟩, hne⟩ := st; ⟨⟨old, k e (.head _) _ he⟩, ⟨o, k it (.tail _ (.head _)) _ ho, r⟩, hne⟩
  item := by
    intro X hP hw hK hc i pins s σ H E I hf ⟨⟨old, he⟩, hit, hne⟩ hg
    subst hP hw hK
    obtain ⟨o, ho, _⟩ := id hit
    have D := Draws.text (prog := X.prog) (w := X.w) (A := X.A.in1) (I.ok.hd hc) it x t
    refine wpAny_mono (en_item (elts := elts) (kk := kk) (tpos := tpos) (R := fun v H' h2 => (EnS x).yld i H v H' ∧ (∃ old, IsEnum h2 e it ((i + 1 : Nat) : Int) old) ∧ h2.IsStrIter it (strIterType x) x t (i + 1)) I D he hit hg hne (fun z => hne (List.mem_singleton.mp z)) (Heap.lt_size ho) hf (fun u hu => ?_)) (fun r s1 q => ?_) fun _ _ z => z
    · obtain ⟨c, tk, hx, eu⟩ := hu
      exact ⟨.str ⟨#[c]⟩, ⟨tk, eu⟩, fun T h2 hT st z => ⟨⟨T, c, rfl, hT, rfl, hx⟩, z, st⟩⟩
    obtain ⟨u, rfl, q⟩ := q
    exact ⟨u, rfl, wpAny_mono q (fun _ s2 ⟨v, H', I', rv, ⟨a, b, c⟩, d⟩ => ⟨v, H', I', rv, a, ⟨b, c, hne⟩, d⟩) fun _ _ z => z⟩
  done := by
    intro X hP hw hK hc i pins s σ H E I hf ⟨⟨old, he⟩, hit, hne⟩ hg
    subst hP hw hK
    obtain ⟨f0, f1, f2, f3, f4, f5⟩ := hf it (.tail _ (.head _))
    have D := Draws.text (prog := X.prog) (w := X.w) (A := X.A.in1) (I.ok.hd hc) it x t
    exact wpAny_pyNext_enum_endD D he (show s.heap.IsStrIter it (strIterType x) x t x.cps.size from hg ▸ hit) fun h1 eb => ⟨rfl, I.turned (t' := s.toks) (fun b o hb q => eb b o hb q) f0 f1 f3 f4 f5⟩
  self := fun _ _ _ _ _ st q => wpAny_pyIter_enum st.1.choose_spec q
theorem turn_enT {P : Program} {w : World} {K : PySem.W.Frag} {elts : List Expr} {kk : Nat} {tpos : Pos} (a : Addr) (xs : List V) (e it : Addr) :
    Turn P w K (.Tuple elts kk tpos) (EnT K a xs) [e, it] e (fun i h => (∃ old, IsEnum h e it ((i : Nat) : Int) old) ∧ h.IsTupleIter it a i ∧ e ≠ it ∧ e ≠ a ∧ a ≠ it) where
  mem := .head _
  obj := fun i h st b hb => by
    obtain ⟨⟨old, he⟩, ⟨o, ho, _, hd⟩, _⟩ := st
    obtain z | z := List.mem_cons.mp hb
    · exact ⟨_, z ▸ he, fun v q => by cases q⟩
    · exact ⟨o, List.mem_singleton.mp z ▸ ho, fun v q => by cases hd.symm.trans q⟩
  keep := fun i h h' st k => let ⟨⟨old, he⟩, ⟨o, ho, r⟩, hne⟩ := st; ⟨⟨old, k e (.head _) _ he⟩, ⟨o, k it (.tail _ (.head _)) _ ho, r⟩, hne⟩
  item := by
    intro X hP hw hK hc i pins s σ H E I hf ⟨⟨old, he⟩, hit, hne, hea, hai⟩ ⟨hT, hi⟩
    subst hP hw hK
    obtain ⟨o, ho, _⟩ := id hit
    obtain ⟨its, rv, pt, _⟩ := I.tuple hT
    have D := Draws.tuple (prog := X.prog) (w := X.w) (A := X.A.in1) (I.ok.hd hc) it a hai its.toArray
    have hl : i < its.toArray.size := by
      have := rv.length
      simp only [List.size_toArray]
      omega
    refine wpAny_mono (en_item (elts := elts) (kk := kk) (tpos := tpos) (R := fun v H' h2 => (EnT X.K a xs).yld i H v H' ∧ (∃ old, IsEnum h2 e it ((i + 1 : Nat) : Int) old) ∧ h2.IsTupleIter it a (i + 1)) I D he ⟨hit, DQT pt⟩ hl hne (fun z => ?_) (Heap.lt_size ho) hf (fun u hu => ?_)) (fun r s1 q => ?_) fun _ _ z => z
    · obtain z | z := List.mem_cons.mp z
      · exact hne z
      · exact hea (List.mem_singleton.mp z)
    · obtain ⟨y, hy⟩ : ∃ y, xs[i]? = some y := ⟨xs[i], List.getElem?_eq_getElem hi⟩
      obtain ⟨u2, h1, h2⟩ := rv.get hy
      have e1 : u2 = u := Option.some.inj (h1.symm.trans (by rw [← List.getElem?_toArray]; exact hu))
      exact ⟨y, e1 ▸ h2, fun T h2 hT st z => ⟨⟨T, y, rfl, hT, rfl, hy⟩, z, st.1⟩⟩
    obtain ⟨u, rfl, q⟩ := q
    exact ⟨u, rfl, wpAny_mono q (fun _ s2 ⟨v, H', I', rv, ⟨a, b, c⟩, d⟩ => ⟨v, H', I', rv, a, ⟨b, c, hne, hea, hai⟩, d⟩) fun _ _ z => z⟩
  done := by
    intro X hP hw hK hc i pins s σ H E I hf ⟨⟨old, he⟩, hit, hne, hea, hai⟩ ⟨hT, hi⟩
    subst hP hw hK
    obtain ⟨f0, f1, f2, f3, f4, f5⟩ := hf it (.tail _ (.head _))
    obtain ⟨its, rv, pt, _⟩ := I.tuple hT
    have D := Draws.tuple (prog := X.prog) (w := X.w) (A := X.A.in1) (I.ok.hd hc) it a hai its.toArray
    have hl : i = its.toArray.size := by
      have := rv.length
      simp only [List.size_toArray]
      omega
    exact wpAny_pyNext_enum_endD D he ⟨hl ▸ hit, DQT pt⟩ fun h1 eb => ⟨rfl, I.turned (t' := s.toks) (fun b o hb q => eb b o hb q) f0 f1 f3 f4 f5⟩
  self := fun _ _ _ _ _ st q => wpAny_pyIter_enum st.1.choose_spec q
/-- enumerate(v) of anything whose iterator is one new object -/
theorem meets_one {v : Value} {o : Obj} {G : Heap → Prop} (B : PySem.Begins v o G) : Meets (Builtin.«enumerate.__new__» ⟨[.type "enumerate", v], []⟩) (fun _ R s => G s.heap ∧
    R (.ok (.ret (.ref (s.heap.push o).objs.size))) { s with heap := (s.heap.push o).push { cls := .type "enumerate", data := .fields #[.none, .bool false, .ref s.heap.objs.size, rawInt 0, .none, .none] } }) :=
  .of_wp fun prog w _ _ ⟨hp, g, d, tk, os⟩ ⟨h1, h2⟩ => by
    have f1 := sub_enumerate
    have f2 : ∀ {A1 : Around} {E : Value → Shared → Prop} {Q : Value → Shared → Prop}, Q (.ref hp.objs.size) ⟨hp.push o, g, d, tk, os⟩ → wpAny (model prog w) A1 (pyIter v) Q E ⟨hp, g, d, tk, os⟩ := fun q => B.iter prog w _ _ _ _ h1 q
    wp_walk using f2
    refine wpAny_stack_any fun _ => wpAny_pure ?_
    split
    · rename_i c _ _ _ _ _
      cases (c == Value.type "enumerate") <;> (wp_walk using f2; exact ⟨_, rfl, h2⟩)
    · wp_walk using f2
      exact ⟨_, rfl, h2⟩
theorem call_one {prog : Program} {w : World} {A : Around} {E : Value → Shared → Prop} {s : Shared} {v : Value} {o : Obj} {G : Heap → Prop} {Q : Value → Shared → Prop} (B : PySem.Begins v o G) (h1 : G s.heap)
    (k : ∀ h1, IsEnum h1 (s.heap.objs.size + 1) s.heap.objs.size 0 .none → h1.get? s.heap.objs.size = some o → (∀ b u, s.heap.get? b = some u → h1.get? b = some u) → Q (.ref (s.heap.objs.size + 1)) { s with heap := h1 }) :
    wpAny (model prog w) A (call (.type "enumerate") [v]) Q E s := by
  have sz : (s.heap.push o).objs.size = s.heap.objs.size + 1 := Heap.size_push ..
  have at_ : IsEnum ((s.heap.push o).push { cls := .type "enumerate", data := .fields #[.none, .bool false, .ref s.heap.objs.size, rawInt 0, .none, .none] }) (s.heap.objs.size + 1) s.heap.objs.size 0 .none := by
    have z := Heap.get?_push_size (s.heap.push o) (o := { cls := .type "enumerate", data := .fields #[.none, .bool false, .ref s.heap.objs.size, rawInt 0, .none, .none] }) rfl
    rw [sz] at z
    exact z
  refine callType_new F.called_enumerate (by decide) (F.typeCall_enumerate_1 _) (F.newCall_enumerate_1 _) (fun obj => F.args_object_init_2 obj _) F.entry_enumerate_new (meets_one B) ⟨h1, ?_⟩
  rw [sz]
  exact ⟨⟨_, at_, rfl⟩, k _ at_ (Heap.get?_push_of_some _ (Heap.get?_push_size _ B.free)) fun b u x => Heap.get?_push_of_some _ (Heap.get?_push_of_some _ x)⟩
def iEnS (ta : TA) : TI := fun σ H R => ta σ H fun vs H1 => ∃ x, vs = [.str x] ∧ R (EnS x) H1
def iEnT (K : PySem.W.Frag) (ta : TA) : TI := fun σ H R => ta σ H fun vs H1 => ∃ a xs, vs = [.ref a] ∧ SqT K H1 a xs ∧ R (EnT K a xs) H1
section
variable {X : Cx} {e : Expr} {ta : TA} {p pos tpos : Pos} {elts : List Expr} {kk : Nat}
theorem two_new {pins : List (Addr × Obj)} {σ : L2.St} {H : Hp} {s : Shared} (I : Inv X pins σ H s) : ∀ b ∈ [s.heap.objs.size + 1, s.heap.objs.size], FpOk X pins H b := fun b hb => by
  have le : s.heap.objs.size ≤ b := by
    obtain z | z := List.mem_cons.mp hb
    · rw [z]
      exact Nat.le_succ _
    · rw [List.mem_singleton.mp z]
      exact Nat.le_refl _
  exact I.fpOk le (I.hok.fresh le)
theorem pi_enS (hg : Gl X "enumerate") (hm : X.mg "enumerate" = none) (ha : PA X [e] ta) (hs : starEach [e] X.env = [(false, eval e X.env)] := by rfl) : PI X (.Tuple elts kk tpos) (.Call (.Name "enumerate" p) [e] [] pos) (iEnS ta) := by
  refine ⟨fun pins s σ H R I h => Call_ (ld_blt I hg hm boot_enumerate (PyProof.Rows.callWith_type1 (thn (ha.run pos pins s σ H _ I h) fun us s1 ⟨vs, H1, I1, r1, x, ex, q⟩ => ?_) hs rfl))⟩
  subst ex
  obtain ⟨u, rfl, t, rfl⟩ := r1.one
  refine call_one (PySem.begins_text x t) trivial fun h1 he hi kp => wpAny_pyIter_enum he ?_
  exact ⟨s1.heap.objs.size + 1, _, _, _, H1, rfl, I1.kept (t' := s1.toks) kp, turn_enS x t _ s1.heap.objs.size, ⟨⟨.none, he⟩, ⟨_, hi, rfl, rfl⟩, Nat.succ_ne_self _⟩, two_new I1, q⟩
theorem pi_enT (hg : Gl X "enumerate") (hm : X.mg "enumerate" = none) (ha : PA X [e] ta) (hs : starEach [e] X.env = [(false, eval e X.env)] := by rfl) : PI X (.Tuple elts kk tpos) (.Call (.Name "enumerate" p) [e] [] pos) (iEnT X.K ta) := by
  refine ⟨fun pins s σ H R I h => Call_ (ld_blt I hg hm boot_enumerate (PyProof.Rows.callWith_type1 (thn (ha.run pos pins s σ H _ I h) fun us s1 ⟨vs, H1, I1, r1, a, xs, ex, hT, q⟩ => ?_) hs rfl))⟩
  subst ex
  obtain ⟨u, rfl, rfl⟩ := r1.one
  obtain ⟨its, rv, pt, _⟩ := I1.tuple hT
  obtain ⟨o, ho, _⟩ := id pt
  have lt := Heap.lt_size ho
  refine call_one (PySem.begins_tuple a its.toArray) (DQT pt) fun h1 he hi kp => wpAny_pyIter_enum he ?_
  exact ⟨s1.heap.objs.size + 1, _, _, _, H1, rfl, I1.kept (t' := s1.toks) kp, turn_enT a xs _ s1.heap.objs.size, ⟨⟨.none, he⟩, ⟨_, hi, rfl, rfl⟩, Nat.succ_ne_self _, Nat.ne_of_gt (Nat.lt_succ_of_lt lt), Nat.ne_of_lt lt⟩, two_new I1, q⟩
end
theorem walk_enS {z : Str} : Walk (EnS z) z.cps.size (fun _ => True) (fun i H v H' => ∃ T c, v = .ref T ∧ H T = none ∧ H' = upd H T (.tup [.int (i : Nat), .str ⟨#[c]⟩]) ∧ z.cps[i]? = some c) := ⟨fun _ _ hi _ => hi, fun _ _ => rfl, fun _ _ _ _ _ _ y => y⟩
theorem walk_enT {K : PySem.W.Frag} {a : Addr} {xs : List V} : Walk (EnT K a xs) xs.length (fun H => SqT K H a xs) (fun i H v H' => ∃ T y, v = .ref T ∧ H T = none ∧ H' = upd H T (.tup [.int (i : Nat), y]) ∧ xs[i]? = some y) := ⟨fun _ _ hi q => ⟨q, hi⟩, fun _ q => ⟨q, rfl⟩, fun _ _ _ _ _ _ y => y⟩
end ENU
set_option Elab.async false
set_option linter.all false
set_option maxRecDepth 100000
set_option maxHeartbeats 8000000
namespace L2
open PySem PySem.Spec PyProof.Rows
section
variable {X : Cx}
/-- y = {k: v for .. in ..} -/
theorem ps_setDc {i : Nat} {y : Str} {py pos spos : Pos} {kx vx tg iter : Expr} {ifs : List Expr} {scope : Scope} {own : List (Str × Nat)} {wi : TI} {g : TG} {tt : TT} {tk tv : TE} (hc : X.calm = true) (hN : X.N.Nodup) (hy : X.N[i]? = some y) (hyl : X.env.scope.names.lookup y = some .local)
    (hsw : swapsWith (.DictComp kx vx [⟨tg, iter, ifs, 0⟩] scope pos) (some (.Name y py)) spos.line X.env = pure true) (hi : PI X tg iter wi) (ok : BlkOk X.N X.env.scope scope own)
    (hg : ∀ s H C cl fp, PG (X.blk s H scope (compEnvC scope cl C X.env) fp) tg g) (ht : ∀ s H C cl fp, PTs (X.blk s H scope (compEnvC scope cl C X.env) fp) ifs tt) (hk : ∀ s H C cl fp, PE (X.blk s H scope (compEnvC scope cl C X.env) fp) kx tk) (he : ∀ s H C cl fp, PE (X.blk s H scope (compEnvC scope cl C X.env) fp) vx tv)
    (hs : ∀ x, foldedSetIterable iter X.env x = pure x := by intro _; rfl) : PS X (.Assign [.Name y py] (.DictComp kx vx [⟨tg, iter, ifs, 0⟩] scope pos) spos) (tAsg (tDc wi g tt tk tv (own.map (·.2))) (gName i)) := by
  refine ⟨fun pins s σ H D I h => ?_⟩
  have made : wpAny (model X.prog X.w) X.A (comprehension (.DictComp kx vx [⟨tg, iter, ifs, 0⟩] scope pos) scope X.env (firstIterPos [⟨tg, iter, ifs, 0⟩] pos) newDict false (eval iter X.env) (some (assign (.Name y py) X.env))) (fun _ s' => SP X pins D .next s') X.xe s := by
    refine dc_core hc hN I hi ok hg ht hk he hs (Q := fun x H1 => gName i x σ H1 D.nx) h fun L C s' m H' I' q hn f => ?_
    obtain ⟨g0, g1, _, g3, g4, g5⟩ := f
    show wpAny (model X.prog X.w) X.A (assign (.Name y py) X.env (.ref L)) _ X.xe _
    refine wpAny_assign_Name (store_ok2 (v := .ref L) I' hN hy (.inl hyl) rfl (fun s2 I2 z => ?_) (.inr hyl))
    obtain ⟨a, sb, at_⟩ := z
    exact ⟨m, hn.sameBut sb (at_.elim (fun z => z ▸ g1) fun z w => g4 y a z w.symm), fun h3 sb3 => ⟨_, H', I2.turned (t' := s2.toks) (fun b o hb e => (sb3.2 b hb).trans e) g0 g1 g3 g4 g5, q⟩⟩
  rw [exec_Assign_Name_used (hs := hsw)]
  refine wpAny_bind (wpAny_standAt ?_)
  refine wpAny_bind ?_
  show wpAny _ X.A (do let _ ← comprehension (.DictComp kx vx [⟨tg, iter, ifs, 0⟩] scope pos) scope X.env (firstIterPos [⟨tg, iter, ifs, 0⟩] pos) newDict false (eval iter X.env) (some (assign (.Name y py) X.env))) _ _ s
  exact wpAny_bind (thn made fun _ _ z => wpAny_pure (wpAny_pure z))
end
end L2
namespace LCX
open PySem L2 PyProof.Rows WK
/-- one turn of a dict's comprehension -/
abbrev DTurn (g : TG) (tt : TT) (tk tv : TE) (vs : List Nat) (σ : L2.St) (D : Addr) (x : V) (H : Hp) (N : Hp → Prop) : Prop := g x (wipe σ vs) H fun σ2 H2 => wipe σ2 vs = wipe σ vs ∧ tt σ2 H2 fun b H3 =>
  if b = true then tk σ2 H3 fun y H4 => tv σ2 H4 fun z H5 => ∃ kvs k, y = kV k ∧ H5 D = some (.dK kvs) ∧ kvs.length < sizeLine ∧ N (upd H5 D (.dK (putK kvs k z))) else N H3
abbrev DWent (J : It) (g : TG) (tt : TT) (tk tv : TE) (vs : List Nat) (σ : L2.St) (D : Addr) (H1 : Hp) (Qd : Hp → Prop) : Prop :=
  ∃ W : Nat → Nat → Hp → Prop, (∃ m, W 0 m (upd H1 D (.dK []))) ∧ ∀ j n G, W j n G → (J.stop j G ∧ Qd G) ∨ (J.go j G ∧ ∃ N : Hp → Prop, (∀ G', N G' → ∃ n', n' < n ∧ W (j + 1) n' G') ∧ ∀ v G', J.yld j G v G' → DTurn g tt tk tv vs σ D v G' N)
theorem dc_it {J : It} {n : Nat} {G : Hp → Prop} {Y : Nat → Hp → V → Hp → Prop} (wk : Walk J n G Y) {g : TG} {tt : TT} {tk tv : TE} {vs : List Nat} {σ : L2.St} {H1 : Hp} {D : Addr} {Qd : Hp → Prop} (Pv : Nat → Hp → Prop) (h0 : Pv 0 (upd H1 D (.dK []))) (hG : ∀ i H, i ≤ n → Pv i H → G H)
    (hs : ∀ i x H H', i < n → Pv i H → Y i H x H' → DTurn g tt tk tv vs σ D x H' (Pv (i + 1))) (hd : ∀ H, Pv n H → Qd H) : DWent J g tt tk tv vs σ D H1 Qd := by
  refine ⟨fun i m H => m + i = n ∧ Pv i H, ⟨n, rfl, h0⟩, fun i m H ⟨e, p⟩ => ?_⟩
  have gd := hG i H (by omega) p
  rcases Nat.lt_or_ge i n with lt | ge
  · exact .inr ⟨wk.goes i H lt gd, Pv (i + 1), fun H' p' => ⟨m - 1, by omega, by omega, p'⟩, fun x H' y => hs i x H H' lt p (wk.yields i H x H' lt gd y)⟩
  · obtain rfl : i = n := by omega
    exact .inl ⟨wk.stops H gd, hd H p⟩
end LCX
namespace WK
open PySem L2 PyProof.Rows LCX K1
open TX (sg sigs)
open PySem.W (Frag kitOne)
abbrev sLed : Stmt := top 11
/-- one step, and the way of a word -/
def stepL (L : W) (tb : List (List Int)) (r : Int) (c : Nat) : Int := (tb.getD r.toNat []).getD (L.idxOf c) 0
def ledL (L : W) (tb : List (List Int)) (u : W) (st : Int) : Int := u.foldl (stepL L tb) st
theorem stepL_in {L : W} {tb : List (List Int)} {n r : Int} {c : Nat} (ok : TabOk tb L.length n) (hr : 0 ≤ r ∧ r < n) (hc : c ∈ L) : 0 ≤ stepL L tb r c ∧ stepL L tb r c < n := by
  have hl := ok.len
  have h1 : r.toNat < tb.length := by omega
  have e1 : tb.getD r.toNat [] = tb[r.toNat] := by rw [List.getD_eq_getElem?_getD, List.getElem?_eq_getElem h1] <;> rfl
  obtain ⟨a, b⟩ := ok.row _ (List.getElem_mem h1)
  have h2 : L.idxOf c < tb[r.toNat].length := by rw [a]; exact List.idxOf_lt_length_of_mem hc
  unfold stepL
  rw [e1, List.getD_eq_getElem?_getD, List.getElem?_eq_getElem h2]
  exact b _ (List.getElem_mem h2)
theorem Objs.get {mk : List Int → HO} {H : Hp} : ∀ {as : List Addr} {rs : List (List Int)} {i : Nat}, Objs mk H as rs → i < rs.length → ∃ a, as[i]? = some a ∧ H a = some (mk (rs.getD i []))
  | _ :: _, _ :: _, 0, h, _ => ⟨_, rfl, h.1⟩
  | _ :: _, _ :: _, _ + 1, h, hi => h.2.get (Nat.lt_of_succ_lt_succ hi)
  | [], _ :: _, _, h, _ => h.elim
  | _, [], _, _, hi => absurd hi (Nat.not_lt_zero _)
theorem ledL_snoc (L : W) (tb : List (List Int)) (u : W) (c : Nat) (st : Int) : ledL L tb (u ++ [c]) st = stepL L tb (ledL L tb u st) c := by
  unfold ledL
  rw [List.foldl_append] <;> rfl
theorem ledL_in {L : W} {tb : List (List Int)} {n : Int} (ok : TabOk tb L.length n) : ∀ {u : W} {st : Int}, 0 ≤ st ∧ st < n → (∀ c ∈ u, c ∈ L) → 0 ≤ ledL L tb u st ∧ ledL L tb u st < n
  | [], _, h, _ => h
  | c :: u, st, h, hc => ledL_in ok (u := u) (stepL_in ok h (hc c (.head _))) fun d hd => hc d (.tail _ hd)
theorem nodup_of {L : W} (h : Let L) : L.Nodup := h.asc.imp fun z => Nat.ne_of_lt z
theorem idx_of {L : W} (h : L.Nodup) {i c : Nat} (e : L[i]? = some c) : L.idxOf c = i := by
  obtain ⟨hi, rfl⟩ := List.getElem?_eq_some_iff.mp e
  exact List.Nodup.idxOf_getElem h i hi
/-- a table in tuples at t -/
def TTab (K : Frag) (H : Hp) (t : Addr) (tb : List (List Int)) : Prop := ∃ ts : List Addr, SqT K H t (ts.map V.ref) ∧ Objs oTup H ts tb
theorem TTab.same {K : Frag} {H H' : Hp} {t : Addr} {tb : List (List Int)} (h : TTab K H t tb) (s : Same H H') : TTab K H' t tb := let ⟨ts, a, b⟩ := h; ⟨ts, seqT s a, b.to fun _ _ _ z => s _ _ z⟩
def spLed (K : Frag) : Sp := fun vs H Q _ => ∃ (t : Addr) (L u : W) (tb : List (List Int)) (n st : Int), vs = [.str (tx L), .ref t, .str (tx u), .int st] ∧ TTab K H t tb ∧ Let L ∧ TabOk tb L.length n ∧ n ≤ 1000 ∧ 0 ≤ st ∧ st < n ∧ u.length ≤ 1000 ∧ (∀ c ∈ u, c ∈ L) ∧
  ∀ H', Same H H' → Q (.int (ledL L tb u st)) H'
abbrev NLd : List Str := ["letters", "table", "word", "start", "columns", "row", "letter", "at"]
section
variable {P : Program} {w : World} {K : PySem.W.Frag} {mg : Str → Option Value} {base : Heap}
theorem scLd : FnScope NLd ["letters", "table", "word", "start"] (defScope sLed) := ⟨rfl, rfl, rfl, by decide +kernel, rfl, by decide +kernel, by decide +kernel⟩
theorem ok_led {f : Addr} {fd : FuncData} (F : Fun K "led" "led" sLed f fd) (en : mg "enumerate" = none) : FnOk P w K mg base CX0 1 f fd ["letters", "table", "word", "start"] (spLed K) := by
  refine F.ok scLd (fun vs H Q E h => ?_) (fun cdv A outer s H vs Q E hr h => ?_)
  · obtain ⟨t, L, u, tb, n, st, rfl, _⟩ := h
    rfl
  · obtain ⟨t, L, u, tb, n, st, rfl, hT, hL, ok, hn, s0, s1, hu, hc, q⟩ := h
    have hub := hu_of hr
    refine ⟨_, pss_cons (ps_setDc (i := 4) (own := [("at", 7), ("letter", 6)]) (g := gTup K 2 (gCons (gName 7) (gCons (gName 6) gNil))) (tt := tYes) (tk := tVar 6) (tv := tVar 7) rfl scLd.nd rfl rfl (by rfl) (ENU.pi_enS rfl en (pa_cons (pv 0) pa_nil))
        (blkOk_by (own := [("at", 7), ("letter", 6)]) (N := NLd) (sc := defScope sLed) (by decide +kernel)) (fun _ _ _ _ _ => pg_tup (by rfl) (pgs_cons (pg_name (i := 7) scLd.nd rfl (Or.inl rfl)) (pgs_cons (pg_name (i := 6) scLd.nd rfl (Or.inl rfl)) pgs_nil))) (fun _ _ _ _ _ => pts_nil)
        (fun _ _ _ _ _ => pv 6) (fun _ _ _ _ _ => pv 7))
      (pss_cons (ps_set (i := 5) scLd.nd rfl (Or.inl rfl) (pv 3))
      (pss_cons (ps_for PassesOwn.never rfl (pi_str (pv 2)) (pg_name (i := 6) scLd.nd rfl (Or.inl rfl))
        (pss_one (ps_set (i := 5) scLd.nd rfl (Or.inl rfl) (pe_ix ix_tup (pe_ix ix_tup (pv 1) (pv 5) (fun _ _ => rfl)) (pe_dget hub (pv 4) (pv 6) (fun _ _ => rfl)) (fun _ _ => rfl)))))
      (pss_one (ps_ret (pv 5))))), ?_⟩
    have hnd := nodup_of hL
    refine ⟨_, rfl, tx L, rfl, fun D hD => ?_⟩
    refine dc_it ENU.walk_enS (fun i H3 => Same H H3 ∧ ∃ kvs : List (Key × V), H3 D = some (.dK kvs) ∧ kvs.length ≤ i ∧ ∀ c ∈ L.take i, valV kvs (Sum.inr (sg c) : Key) = some (.int ((L.idxOf c : Nat) : Int))) ⟨same_upd hD, [], upd_same, Nat.le_refl _, fun c hc => by simp at hc⟩ (fun _ _ _ _ => trivial) ?_ ?_
    · rintro i x H3 H4 hi ⟨s3, kvs, hd, hl, hv⟩ ⟨T, c, rfl, hT2, rfl, hx⟩
      have hx' : L[i]? = some c := by
        rw [← Array.getElem?_toList, tx_list] at hx
        exact hx
      have hi' : i < L.length := (List.getElem?_eq_some_iff.mp hx').1
      have s4 : Same H3 (upd H3 T (.tup [.int (i : Nat), .str ⟨#[c]⟩])) := same_upd hT2
      refine ⟨T, _, rfl, SqT.of upd_same, rfl, _, _, rfl, _, _, rfl, rfl, rfl, _, rfl, _, rfl, kvs, Sum.inr (sg c), rfl, s4 _ _ hd, by have := hL.few; rw [sizeLine_eq]; omega, same_at (s3.trans s4) hD, _, upd_same, ?_, fun d hd2 => ?_⟩
      · have := length_putK kvs (Sum.inr (sg c) : Key) (.int (i : Nat))
        omega
      · rw [valV_put]
        by_cases e : d = c
        · rw [if_pos (by rw [e]), e, idx_of hnd hx']
        · rw [if_neg fun z => e (TX.sg_inj (Sum.inr.inj z))]
          refine hv d ?_
          rw [List.take_add_one, hx'] at hd2
          rcases List.mem_append.mp hd2 with z | z
          · exact z
          · exact absurd (by simpa using z) e
    · rintro H3 ⟨s3, kvs, hd, hl, hv⟩
      rw [size_tx, List.take_length] at hv
      refine ⟨_, rfl, _, rfl, tx u, rfl, ?_⟩
      refine for_it walk_str (fun i σ H1 => H1 = H3 ∧ ∃ l : Option V, σ = [some (.str (tx L)), some (.ref t), some (.str (tx u)), some (.int st), some (.ref D), some (.int (ledL L tb (u.take i) st)), l, none]) ⟨rfl, none, rfl⟩ (fun _ _ _ _ _ => trivial) ?_ ?_
      · rintro i x σ H1 H2 hi ⟨rfl, l, rfl⟩ ⟨rfl, c, hx, rfl⟩
        have hx' : u[i]? = some c := by
          rw [← Array.getElem?_toList, tx_list] at hx
          exact hx
        have hcL : c ∈ L := hc c (List.mem_of_getElem? hx')
        have hin := ledL_in ok (u := u.take i) (st := st) ⟨s0, s1⟩ fun d hd => hc d (List.mem_of_mem_take hd)
        obtain ⟨ts, h1, h2⟩ := hT.same s3
        have hrl : (ledL L tb (u.take i) st).toNat < tb.length := by have := ok.len; omega
        obtain ⟨a, e1, e2⟩ := h2.get hrl
        have at1 : atI (ts.map V.ref) (ledL L tb (u.take i) st) = some (.ref a) := by
          have e3 : ledL L tb (u.take i) st = (((ledL L tb (u.take i) st).toNat : Nat) : Int) := by omega
          rw [e3]
          exact atI_nat (by rw [List.getElem?_map, e1] <;> rfl)
        have e4 : tb.getD (ledL L tb (u.take i) st).toNat [] = tb[(ledL L tb (u.take i) st).toNat] := by rw [List.getD_eq_getElem?_getD, List.getElem?_eq_getElem hrl] <;> rfl
        have hil : L.idxOf c < (tb.getD (ledL L tb (u.take i) st).toNat []).length := by rw [e4, (ok.row _ (List.getElem_mem hrl)).1]; exact List.idxOf_lt_length_of_mem hcL
        have at2 : atI ((tb.getD (ledL L tb (u.take i) st).toNat []).map V.int) ((L.idxOf c : Nat) : Int) = some (.int (stepL L tb (ledL L tb (u.take i) st) c)) := by
          refine atI_nat ?_
          unfold stepL
          rw [List.getElem?_map, List.getD_eq_getElem?_getD (l := tb.getD _ _), List.getElem?_eq_getElem hil] <;> rfl
        refine ⟨_, rfl, _, rfl, t, _, _, _, rfl, rfl, h1, at1, _, rfl, _, rfl, D, _, rfl, (hv c hcL) ▸ DGet.k (k := Sum.inr (sg c)) hd, a, _, _, _, rfl, rfl, SqT.of e2, at2, rfl, some (.str (sg c)), ?_⟩
        rw [List.take_add_one, hx']
        show _ = [_, _, _, _, _, some (V.int (ledL L tb (u.take i ++ [c]) st)), _, _]
        rw [ledL_snoc] <;> rfl
      · rintro σ H1 ⟨rfl, l, rfl⟩
        rw [size_tx, List.take_length]
        exact ⟨_, rfl, q _ s3⟩
end
end WK
set_option Elab.async false
set_option linter.all false
set_option maxRecDepth 100000
set_option maxHeartbeats 8000000
namespace WK
open PySem L2 PyProof.Rows LCX K1 FV DP
open TX (sg sigs)
open PySem.W (Frag kitOne)
abbrev sWays : Stmt := top 13
def addN (o : List Int) (a : Int) : List Int := if a ∈ o then o else o ++ [a]
/-- what is met when j rows are done -/
def wyA (tb : List (List Int)) (st : Int) : Nat → List Int
  | 0 => [st]
  | j + 1 => match (wyA tb st j)[j]? with
    | some r => (tb.getD r.toNat []).foldl addN (wyA tb st j)
    | none => wyA tb st j
abbrev rngI (n : Nat) : List Int := (List.range n).map fun i => ((i : Nat) : Int)
theorem addN_grows (o : List Int) (a : Int) : o <+: addN o a := by
  unfold addN
  split
  · exact List.prefix_refl _
  · exact List.prefix_append _ _
theorem addF_grows : ∀ (l o : List Int), o <+: l.foldl addN o
  | [], _ => List.prefix_refl _
  | a :: l, o => (addN_grows o a).trans (addF_grows l _)
theorem wyA_at {tb : List (List Int)} {st r : Int} {j : Nat} (h : (wyA tb st j)[j]? = some r) : wyA tb st (j + 1) = (tb.getD r.toNat []).foldl addN (wyA tb st j) := by
  show (match (wyA tb st j)[j]? with | some r => _ | none => _) = _
  rw [h]
theorem wyA_stop {tb : List (List Int)} {st : Int} {j : Nat} (h : (wyA tb st j).length ≤ j) : ∀ m, wyA tb st (j + m) = wyA tb st j
  | 0 => rfl
  | m + 1 => by
    have ih := wyA_stop h m
    show (match (wyA tb st (j + m))[j + m]? with | some r => _ | none => _) = _
    rw [List.getElem?_eq_none (by rw [ih]; omega)]
    exact ih
/-- numbers below n, each once -/
structure Few (n : Int) (o : List Int) : Prop where
  nd : o.Nodup
  in_ : ∀ a ∈ o, 0 ≤ a ∧ a < n
theorem Few.add {n a : Int} {o : List Int} (h : Few n o) (ha : 0 ≤ a ∧ a < n) : Few n (addN o a) := by
  unfold addN
  by_cases e : a ∈ o
  · rw [if_pos e]
    exact h
  · rw [if_neg e]
    refine ⟨List.nodup_append.mpr ⟨h.nd, List.nodup_cons.mpr ⟨List.not_mem_nil, List.nodup_nil⟩, fun x hx y hy z => ?_⟩, fun x hx => ?_⟩
    · rw [List.mem_singleton.mp hy] at z
      exact e (z ▸ hx)
    · rcases List.mem_append.mp hx with z | z
      · exact h.in_ x z
      · rw [List.mem_singleton.mp z]
        exact ha
theorem Few.len {n : Int} {o : List Int} (h : Few n o) : (o.length : Int) ≤ n ∨ o = [] := by
  cases o with
  | nil => exact .inr rfl
  | cons a o =>
    refine .inl ?_
    have h0 := h.in_ a (.head _)
    have sub : (a :: o) ⊆ rngI n.toNat := fun x hx => by
      have := h.in_ x hx
      exact List.mem_map.mpr ⟨x.toNat, List.mem_range.mpr (by omega), by omega⟩
    have := h.nd.length_le_of_subset sub
    rw [List.length_map, List.length_range] at this
    omega
def Keys (kvs : List (Key × V)) (o : List Int) : Prop := kvs.map (·.1) = o.map (Sum.inl : Int → Key)
theorem Keys.len {kvs : List (Key × V)} {o : List Int} (h : Keys kvs o) : kvs.length = o.length := by
  have := congrArg List.length h
  rw [List.length_map, List.length_map] at this
  exact this
theorem Keys.val {kvs : List (Key × V)} {o : List Int} (h : Keys kvs o) (a : Int) : valV kvs (Sum.inl a : Key) ≠ none ↔ a ∈ o := by
  have e1 : (Sum.inl a : Key) ∈ kvs.map (·.1) ↔ a ∈ o := by
    rw [show kvs.map (·.1) = _ from h, List.mem_map]
    exact ⟨fun ⟨b, hb, e⟩ => Sum.inl.inj e ▸ hb, fun hb => ⟨a, hb, rfl⟩⟩
  rw [← e1]
  unfold valV
  rw [List.mem_map, ne_eq, Option.map_eq_none_iff, List.find?_eq_none]
  constructor
  · intro z
    rcases Classical.em (∃ p, p ∈ kvs ∧ p.1 = (Sum.inl a : Key)) with y | y
    · exact y
    · exact absurd (fun p hp q => y ⟨p, hp, of_decide_eq_true q⟩) z
  · rintro ⟨p, hp, e⟩ z
    exact z p hp (decide_eq_true e)
theorem Keys.put {kvs : List (Key × V)} {o : List Int} (h : Keys kvs o) {a : Int} (ha : a ∉ o) (v : V) : Keys (putK kvs (Sum.inl a : Key) v) (o ++ [a]) := by
  have : valV kvs (Sum.inl a : Key) = none := Classical.byContradiction fun z => ha ((h.val a).mp z)
  rw [putK_new v this]
  unfold Keys
  rw [List.map_append, List.map_append, show kvs.map (·.1) = _ from h] <;> rfl
def doneOf (σ : L2.St) : Nat := match σ[4]? with
  | some (some (V.int j)) => j.toNat
  | _ => 0
abbrev NWy : List Str := ["table", "start", "found", "queue", "done", "row", "column", "after"]
section
variable {P : Program} {w : World} {K : PySem.W.Frag} {mg : Str → Option Value} {base : Heap}
theorem scWy : FnScope NWy ["table", "start"] (defScope sWays) := ⟨rfl, rfl, rfl, by decide +kernel, rfl, by decide +kernel, by decide +kernel⟩
/-- all rows are met, each as its number tells -/
structure LeanT (tb : List (List Int)) : Prop where
  all : wyA tb 0 tb.length = rngI tb.length
end
end WK
set_option Elab.async false
set_option linter.all false
set_option maxRecDepth 100000
set_option maxHeartbeats 8000000
namespace OWN
open PySem PySem.Spec L2 PyProof.Rows
/-- an instance that stands in H -/
theorem inst_at {X : Cx} {pins : List (Addr × Obj)} {σ : L2.St} {H : Hp} {s : Shared} {a C dx : Addr} {fs : List (Str × V)} (I : Inv X pins σ H s) (at_ : H a = some (.ins C dx fs)) : ∃ od : Obj, PySem.W.InstAt s.heap a (PySem.W.instObj C dx) C (some od) :=
  let ⟨_, j, _⟩ := ins_get I.hok at_
  let ⟨od, k, _⟩ := j.look
  ⟨od, k⟩
section
variable {X : Cx} {C g : Addr} {n : Nat} {sp : Sp}
def rLenO (C : Addr) (sp : Sp) : List V → Hp → VK → Prop := fun xs H Q => ∃ a dx fs, xs = [.ref a] ∧ H a = some (.ins C dx fs) ∧ sp [.ref a] H (fun z H' => ∃ k : Nat, z = .int k ∧ (k : Int) < 2 ^ 62 ∧ Q z H') E0
theorem call_lenO (hs : PySem.W.findIn X.K (.ref C) "__len__" = some (some (.ref g))) (hf : PySem.W.isFn X.K (.ref g) = true) (F : FnR X.prog X.w X.K X.mg X.base CX0 n g sp) (hr : Room (n + 1) X.A) : CallR X (.builtin "len") (rLenO C sp) := by
  intro _ s _ _ _ _ _ I r ⟨a, dx, fs, ex, ha, q⟩
  subst ex
  obtain ⟨u, rfl, ru⟩ := r.one
  obtain rfl : u = .ref a := ru
  obtain ⟨od, J⟩ := inst_at I ha
  obtain ⟨m, hF⟩ := I.fr
  refine PySem.W.len_K hF I.ok.mod.kin J hs hf (wpAny_mono (wpAny_call (SlX.run_at (us := [.ref a]) (ws := [.ref a]) F (Room.in1 hr) I.env0.in1 pass0 I (.cons rfl .nil) q)) (fun w s' z => ?_) fun _ _ x => x)
  obtain ⟨z', H', I', rz, k, ez, hk, qz⟩ := z
  subst ez
  obtain ⟨t, e⟩ := (show ∃ t, w = Value.int k t from rz)
  cases e
  exact ⟨⟨by omega, by omega⟩, .int k, H', I'.tok _, ⟨_, rfl⟩, qz⟩
end
end OWN
set_option Elab.async false
set_option linter.all false
set_option maxRecDepth 100000
set_option maxHeartbeats 8000000
namespace WK
open PySem L2 PyProof.Rows LCX K1 FV DP LamX NdefX NCX
open TX (sg sigs)
open PySem.W (Frag kitOne)
abbrev sBGet : Stmt := inClass (top 66) 7
abbrev sBTab : Stmt := inClass (top 66) 8
abbrev sBCall : Stmt := inClass (top 66) 9
abbrev id_ (r : List Int) : List PyData := r.map PyData.int
abbrev td_ (tb : List (List Int)) : List PyData := tb.map fun r => PyData.tuple (id_ r)
theorem dp_int {K : Frag} {H : Hp} : ∀ r : List Int, DpAll K H (r.map V.int) (id_ r)
  | [] => .nil
  | i :: r => .cons (.int i) (dp_int r)
theorem dp_tab {K : Frag} {H : Hp} : ∀ {ts : List Addr} {tb : List (List Int)}, Objs oTup H ts tb → DpAll K H (ts.map V.ref) (td_ tb)
  | [], [], _ => .nil
  | _ :: _, r :: _, h => .cons (.tup (SqT.of h.1) (dp_int r)) (dp_tab h.2)
  | [], _ :: _, h => h.elim
  | _ :: _, [], h => h.elim
theorem eqv_ints : ∀ a b : List Int, PyData.eqvAll (id_ a) (id_ b) = decide (a = b)
  | [], [] => rfl
  | [], _ :: _ => rfl
  | _ :: _, [] => rfl
  | i :: a, j :: b => by
    show ((i == j) && PyData.eqvAll (id_ a) (id_ b)) = _
    rw [eqv_ints a b, show (i == j) = decide (i = j) from rfl, ← Bool.decide_and]
    exact decide_eq_decide.mpr (List.cons.injEq .. ▸ Iff.rfl)
theorem eqv_tabs : ∀ a b : List (List Int), PyData.eqvAll (td_ a) (td_ b) = decide (a = b)
  | [], [] => rfl
  | [], _ :: _ => rfl
  | _ :: _, [] => rfl
  | r :: a, q :: b => by
    show (PyData.eqvAll (id_ r) (id_ q) && PyData.eqvAll (td_ a) (td_ b)) = _
    rw [eqv_tabs a b, eqv_ints r q, ← Bool.decide_and]
    exact decide_eq_decide.mpr (List.cons.injEq .. ▸ Iff.rfl)
theorem lay_ints : ∀ r : List Int, PyData.canLayAll0 (id_ r) = true
  | [] => rfl
  | i :: r => by
    show (PyData.canLay0 (.int i) && PyData.canLayAll0 (id_ r)) = true
    rw [lay_ints r] <;> rfl
theorem dep_ints : ∀ r : List Int, PyData.depthAll (id_ r) = 0
  | [] => rfl
  | i :: r => by
    show max (PyData.depth (.int i)) (PyData.depthAll (id_ r)) = 0
    rw [dep_ints r] <;> rfl
theorem bfl_L {l t : V} : (bfl l t).lookup ("_letters" : Str) = some l := by
  show (match (("_letters" : Str) == ("_table" : Str)) with | true => some t | false => (([(("_letters" : Str), l)] : List (Str × V)).lookup ("_letters" : Str))) = some l
  rw [show (("_letters" : Str) == ("_table" : Str)) = false from by decide +kernel]
  rfl
theorem bfl_T {l t : V} : (bfl l t).lookup ("_table" : Str) = some t := rfl
/-- what is known of the class Box beside its makers -/
structure TBy (K : Frag) (C : Addr) : Prop where
  is : SlX.SIsi K C
  kC : kitOne K (.ref C) (.ref C) = some true
def spBCall (C : Addr) : Sp := fun vs H Q _ => ∃ (o : Addr) (L u : W) (tb : List (List Int)) (n : Int), vs = [.ref o, .str (tx u)] ∧ BoxAt C H o L tb ∧ Let L ∧ TabOk tb L.length n ∧ 1 ≤ n ∧ n ≤ 1000 ∧ u.length < 64 ∧ (∀ c ∈ u, c ∈ L) ∧ ∀ H', Same H H' → Q (.int (ledL L tb u 0)) H'
theorem rows_tt {K : Frag} {H : Hp} {r : Addr} {tb : List (List Int)} (h : RowsAt H r tb) : TTab K H r tb := let ⟨ts, a, b⟩ := h; ⟨ts, SqT.of a, b⟩
section
variable {P : Program} {w : World} {K : PySem.W.Frag} {mg : Str → Option Value} {base : Heap} {C cD fNW fNO fL fB fD fT : Addr} {dNW dNO dL dB dD dT : FuncData}
theorem scBC : FnScope ["self", "word"] ["self", "word"] (defScope sBCall) := ⟨rfl, rfl, rfl, by decide +kernel, rfl, by decide +kernel, by decide +kernel⟩
theorem ok_bcall {f : Addr} {fd : FuncData} (F : Fun K "__call__" "Box.__call__" sBCall f fd) (M : TBx K mg C cD) (AW : Fn K mg "need_word" sNeedWord ["word"] fNW dNW) (GW : FnOk P w K mg base CX0 3 fNW dNW ["word"] spNeedWord) (AO : Fn K mg "need_over" sNeedOver ["letters", "word"] fNO dNO) (GO : FnOk P w K mg base CX0 3 fNO dNO ["letters", "word"] spNeedOver)
    (AL : Fn K mg "led" sLed ["letters", "table", "word", "start"] fL dL) (GL : FnOk P w K mg base CX0 1 fL dL ["letters", "table", "word", "start"] (spLed K)) : FnOk P w K mg base CX0 4 f fd ["self", "word"] (spBCall C) := by
  refine F.ok scBC (fun vs H Q E h => ?_) (fun cdv A outer s H vs Q E hr h => ?_)
  · obtain ⟨o, L, u, tb, n, rfl, _⟩ := h
    rfl
  · obtain ⟨o, L, u, tb, n, rfl, ⟨dx, r, h1, rows⟩, hL, ok, n1, n2, hu, hc, q⟩ := h
    have hr1 : Room 1 _ := hr.mono (by decide)
    refine ⟨_, pss_cons (ps_expr (pe_call GW hr rfl AW.g AW.F.kp AW.b .nil pass0 (pa_cons (pv 1) pa_nil)))
      (pss_cons (ps_expr (pe_call GO hr rfl AO.g AO.F.kp AO.b .nil pass0 (pa_cons (pe_fld (pv 0) rfl) (pa_cons (pv 1) pa_nil))))
      (pss_one (ps_ret (pe_call GL hr1 rfl AL.g AL.F.kp AL.b .nil pass0 (pa_cons (pe_fld (pv 0) rfl) (pa_cons (pe_fld (pv 0) rfl) (pa_cons (pv 1) (pa_cons pe_int pa_nil)))))))), ?_⟩
    refine ⟨_, rfl, u, rfl, fun c hc' => hL.low c (hc c hc'), _, rfl, o, C, dx, _, _, rfl, h1, M.cl, M.nL, bfl_L, _, rfl, L, u, rfl, hu, hc, fun H1 s1 => ?_⟩
    have g1 := s1 _ _ h1
    refine ⟨_, rfl, o, C, dx, _, _, rfl, g1, M.cl, M.nL, bfl_L, _, rfl, o, C, dx, _, _, rfl, g1, M.cl, M.nT, bfl_T, _, rfl, r, L, u, tb, n, 0, rfl, (rows_tt rows).same s1, hL, ok, n2, Int.le_refl _, by omega, by omega, hc, fun H2 s2 => q H2 (s1.trans s2)⟩
end
end WK
set_option Elab.async false
set_option linter.all false
set_option maxRecDepth 100000
set_option maxHeartbeats 4000000
namespace RZ
open PySem
open PySem.Sem (wp)
section
variable {prog : Program} {w : World} {A : Around} {E : Value → Shared → Prop} {s : Shared}
/-- a zip of two tuples that holds the pair that it gave before, asked once more: the next pair while the first tuple has an item, its end after that -/
theorem held_asked {z TI TO T i1 i2 l1 l2 : Addr} {f : Bool} {old : Obj} {m n : Nat} {us vs : Array Value} {Q : Fin → Shared → Prop} (D : ZipApart z TI TO i1 i2 l1 l2)
    (isZ : IsZipHeld s.heap z TI TO T f) (oldAt : s.heap.get? T = some old) (its : IsPair s.heap TI (.ref i1) (.ref i2)) (w1 : s.heap.IsTupleIter i1 l1 m) (w2 : s.heap.IsTupleIter i2 l2 n)
    (t1 : s.heap.IsTuple l1 us) (t2 : s.heap.IsTuple l2 vs) (both : ∀ u, us[m]? = some u → ∃ v, vs[n]? = some v)
    (pair : ∀ u v, us[m]? = some u → vs[n]? = some v → ∀ g, IsZipHeld g z TI TO T true → g.IsTupleIter i1 l1 (m + 1) → g.IsTupleIter i2 l2 (n + 1) → IsPair g s.heap.objs.size u v → g.objs.size = s.heap.objs.size + 1 →
      (∀ b q, b ≠ z → b ≠ i1 → b ≠ i2 → s.heap.get? b = some q → g.get? b = some q) → Q (.done (.ret (.ref s.heap.objs.size))) { s with heap := g })
    (over : us[m]? = none → A.handled = none ∧ ∀ g err, (∀ b q, b ≠ z → b ≠ i1 → b ≠ i2 → s.heap.get? b = some q → g.get? b = some q) → (∃ q, g.get? err = some q ∧ q.cls = .type "StopIteration") → E (.ref err) { s with heap := g }) :
    wpAny (model prog w) A (Builtin.«zip.__next__» ⟨[.ref z], []⟩) Q E s := by
  refine wpAny_bind (m := field (.ref z) 2) (wpAny_field isZ rfl (x := .bool false) rfl ?_)
  refine wpAny_bind (m := field (.ref z) 3) (wpAny_field isZ rfl (x := .ref TI) rfl (wpAny_bind (wpAny_seqItems its rfl ?_)))
  refine wpAny_bind (m := Builtin.SmallTypes.ownedTupleIsFree (.ref z)) (wpAny_tupleHeld_zip isZ oldAt fun g1 z1 same1 => ?_)
  simp only [← Array.forIn_toList, List.forIn_cons, List.forIn_nil, Bool.false_eq_true, if_false]
  have v1 := w1.extBut same1.extBut D.i1z
  have y1 := t1.extBut same1.extBut D.l1z
  refine wpAny_bind (wpAny_bind (wpAny_bind (wpAny_holding (wpAny_bind (m := Builtin.SmallTypes.nextOf (.ref i1)) ?_))))
  cases look : us[m]? with
  | none =>
    obtain ⟨calm, over⟩ := over look
    exact nextOf_tuple_end (s := { s with heap := g1 }) calm v1 y1 look fun g err keep isStop => over g err (fun b q bz b1 _ at_b => keep _ _ b1 (same1.extBut _ _ bz at_b)) isStop
  | some u =>
    obtain ⟨v, look2⟩ := both u look
    refine nextOf_tuple_item (s := { s with heap := g1 }) v1 y1 look fun g2 v1' same2 => wpAny_pure (wpAny_pure ?_)
    refine wpAny_bind (wpAny_bind (wpAny_holding (wpAny_bind (m := Builtin.SmallTypes.nextOf (.ref i2)) ?_)))
    refine nextOf_tuple_item (s := { s with heap := g2 }) ((w2.extBut same1.extBut D.i2z).extBut same2.extBut D.i12.symm) ((t2.extBut same1.extBut D.l2z).extBut same2.extBut D.l2i1) look2 fun g3 v2' same3 => ?_
    refine wpAny_pure (wpAny_pure (wpAny_pure (wpAny_bind (m := newTuple [u, v]) (wpAny_newTuple ?_))))
    have size3 : g3.objs.size = s.heap.objs.size := same3.1.trans (same2.1.trans same1.1)
    refine wpAny_pure ?_
    show Q (.done (.ret (.ref g3.objs.size))) _
    have made : IsPair (g3.push { cls := .type "tuple", data := .seq #[u, v] }) g3.objs.size u v := Heap.get?_push_size _ rfl
    have grown : (g3.push { cls := .type "tuple", data := .seq #[u, v] }).objs.size = g3.objs.size + 1 := Heap.size_push ..
    rw [size3] at made grown ⊢
    refine pair u v look look2 _ (Heap.get?_push_of_some _ (same3.extBut _ _ D.i2z.symm (same2.extBut _ _ D.i1z.symm z1))) ((v1'.extBut same3.extBut D.i12).at fun o at_b => Heap.get?_push_of_some _ at_b)
      (v2'.at fun o at_b => Heap.get?_push_of_some _ at_b) made grown fun b q bz b1 b2 at_b => ?_
    exact Heap.get?_push_of_some _ (same3.extBut _ _ b2 (same2.extBut _ _ b1 (same1.extBut _ _ bz at_b)))
/-- where zip stands, i pairs out -/
def ZS (h : Heap) (z TI TO i1 i2 l1 l2 : Addr) (i : Nat) : Prop := IsPair h TI (.ref i1) (.ref i2) ∧ h.IsTupleIter i1 l1 i ∧ h.IsTupleIter i2 l2 i ∧
  ((IsZip h z TI TO .none ∧ ∃ a b, IsPair h TO a b) ∨ ∃ T f oT, IsZipHeld h z TI TO T f ∧ h.get? T = some oT)
theorem ZS.typeIs {z TI TO i1 i2 l1 l2 : Addr} {i : Nat} (h : ZS s.heap z TI TO i1 i2 l1 l2 i) : s.TypeIs (.ref z) "zip" := by
  obtain ⟨_, _, _, ⟨h, _⟩ | ⟨T, f, oT, h, _⟩⟩ := h
  · exact ⟨_, h, rfl⟩
  · exact ⟨_, h, rfl⟩
theorem ZS.keep {h h' : Heap} {z TI TO i1 i2 l1 l2 S : Addr} {i : Nat} (x : ZS h z TI TO i1 i2 l1 l2 i) (hS : ∃ acc c, h.get? S = some { cls := .type "list", dict := none, data := .seq acc c, slots := #[] })
    (k : ∀ b o, b ≠ S → h.get? b = some o → h'.get? b = some o) (kS : ∃ o, h'.get? S = some o) : ZS h' z TI TO i1 i2 l1 l2 i := by
  obtain ⟨acc, c, hS⟩ := hS
  obtain ⟨h1, ⟨o2, h2, c2, r2⟩, ⟨o3, h3, c3, r3⟩, h4⟩ := x
  have ne : ∀ b o, h.get? b = some o → o.cls ≠ .type "list" → b ≠ S := fun b o e q z => by
    rw [z, hS] at e
    cases e
    exact q rfl
  refine ⟨k _ _ (ne _ _ h1 (fun z => by simp at z)) h1, ⟨o2, k _ _ (ne _ _ h2 (by rw [c2]; simp)) h2, c2, r2⟩, ⟨o3, k _ _ (ne _ _ h3 (by rw [c3]; simp)) h3, c3, r3⟩, ?_⟩
  rcases h4 with ⟨h4, a, b, h5⟩ | ⟨T, f, oT, h4, h5⟩
  · exact .inl ⟨k _ _ (ne _ _ h4 (fun z => by simp at z)) h4, a, b, k _ _ (ne _ _ h5 (fun z => by simp at z)) h5⟩
  · by_cases hT : T = S
    · obtain ⟨o, kS⟩ := kS
      exact .inr ⟨T, f, o, k _ _ (ne _ _ h4 (fun z => by simp at z)) h4, by rw [hT]; exact kS⟩
    · exact .inr ⟨T, f, oT, k _ _ (ne _ _ h4 (fun z => by simp at z)) h4, k _ _ hT h5⟩
end
end RZ
set_option Elab.async false
set_option linter.all false
set_option maxRecDepth 100000
set_option maxHeartbeats 8000000
namespace ZQT
open PySem PySem.Spec PyProof.Rows L2 RZ
section
variable {prog : Program} {w : World} {A : Around} {E : Value → Shared → Prop} {s : Shared}
/-- where it stands, i pairs out, the first of them l -/
structure At (a b z TI TO i1 i2 : Addr) (i : Nat) (l : Option Addr) (h : Heap) : Prop where
  ti : IsPair h TI (.ref i1) (.ref i2)
  to : ∃ p q, IsPair h TO p q
  it1 : h.IsTupleIter i1 a i
  it2 : h.IsTupleIter i2 b i
  none_ : l = none → IsZip h z TI TO .none
  some_ : ∀ T, l = some T → ∃ f, IsZipHeld h z TI TO T f
theorem At.obj {a b z TI TO i1 i2 : Addr} {i : Nat} {l : Option Addr} {h : Heap} (x : At a b z TI TO i1 i2 i l h) : ∀ c ∈ [z, TI, TO, i1, i2], ∃ o, h.get? c = some o ∧ ∀ v, o.data ≠ .cell v := by
  obtain ⟨h1, ⟨p, q, h2⟩, ⟨o3, e3, _, d3⟩, ⟨o4, e4, _, d4⟩, h5, h6⟩ := x
  intro c hc
  have hc' : c = z ∨ c = TI ∨ c = TO ∨ c = i1 ∨ c = i2 := by simpa using hc
  rcases hc' with y | y | y | y | y
  · rw [y]
    cases l with
    | none => exact ⟨_, h5 rfl, fun v q => nomatch q⟩
    | some T =>
      obtain ⟨f, q⟩ := h6 T rfl
      exact ⟨_, q, fun v q => nomatch q⟩
  · rw [y]
    exact ⟨_, h1, fun v q => nomatch q⟩
  · rw [y]
    exact ⟨_, h2, fun v q => nomatch q⟩
  · rw [y]
    exact ⟨o3, e3, fun v q => nomatch d3.symm.trans q⟩
  · rw [y]
    exact ⟨o4, e4, fun v q => nomatch d4.symm.trans q⟩
theorem At.keep {a b z TI TO i1 i2 : Addr} {i : Nat} {l : Option Addr} {h h' : Heap} (x : At a b z TI TO i1 i2 i l h) (k : ∀ c ∈ [z, TI, TO, i1, i2], ∀ o, h.get? c = some o → h'.get? c = some o) : At a b z TI TO i1 i2 i l h' :=
  ⟨k TI (by simp) _ x.ti, let ⟨p, q, e⟩ := x.to; ⟨p, q, k TO (by simp) _ e⟩, x.it1.at fun o e => k i1 (by simp) o e, x.it2.at fun o e => k i2 (by simp) o e, fun e => k z (by simp) _ (x.none_ e), fun T e => let ⟨f, q⟩ := x.some_ T e; ⟨f, k z (by simp) _ q⟩⟩
theorem At.typeIs {a b z TI TO i1 i2 : Addr} {i : Nat} {l : Option Addr} (x : At a b z TI TO i1 i2 i l s.heap) : s.TypeIs (.ref z) "zip" := by
  cases l with
  | none => exact ⟨_, x.none_ rfl, rfl⟩
  | some T =>
    obtain ⟨f, q⟩ := x.some_ T rfl
    exact ⟨_, q, rfl⟩
theorem item {a b z TI TO i1 i2 : Addr} {i : Nat} {l : Option Addr} {xs ys : Array Value} {x y : Value} {Q : Option Value → Shared → Prop} (D : ZipApart z TI TO i1 i2 a b) (st : At a b z TI TO i1 i2 i l s.heap) (old : ∀ T, l = some T → ∃ o, s.heap.get? T = some o ∧ T ∉ [z, TI, TO, i1, i2])
    (ha : s.heap.IsTuple a xs) (hb : s.heap.IsTuple b ys) (hx : xs[i]? = some x) (hy : ys[i]? = some y)
    (hQ : ∀ g, At a b z TI TO i1 i2 (i + 1) (some (l.getD s.heap.objs.size)) g → IsPair g s.heap.objs.size x y → (∀ c o, c ≠ z → c ≠ TO → c ≠ i1 → c ≠ i2 → s.heap.get? c = some o → g.get? c = some o) → Q (some (.ref s.heap.objs.size)) { s with heap := g }) :
    wpAny (model prog w) A (pyNext (.ref z)) Q E s := by
  have isTy := st.typeIs
  obtain ⟨h1, ⟨p, q, h2⟩, h3, h4, h5, h6⟩ := st
  cases l with
  | none =>
    refine pyNext_zipT_item D (h5 rfl) h1 h2 h3 h4 ha hb hx hy fun g z' TO' w1 w2 made _ keep => hQ g ⟨keep _ _ D.TIz D.TITO D.TIi1 D.TIi2 h1, ⟨_, _, TO'⟩, w1, w2, (fun e => nomatch e), fun T e => ?_⟩ made keep
    cases e
    exact ⟨false, z'⟩
  | some T =>
    obtain ⟨f, held⟩ := h6 T rfl
    obtain ⟨oT, atT, nT⟩ := old T rfl
    unfold pyNext
    refine wpAny_bind (wpAny_attempt (wpAny_callSpecial?_slot (name := Str.ofString "__next__") isTy F.slot_zip_next (wpAny_call_entry F.slot_zip_next isTy F.entry_zip_next ?_ (F.args_zip_next_1 _))))
    refine held_asked D held atT h1 h3 h4 ha hb (fun _ _ => ⟨y, hy⟩) (fun u v hu hv g z' w1 w2 made _ keep => ?_) (fun no => nomatch hx.symm.trans no)
    cases hx.symm.trans hu
    cases hy.symm.trans hv
    refine ⟨_, rfl, wpAny_pure (hQ g ⟨keep _ _ D.TIz D.TIi1 D.TIi2 h1, ⟨p, q, keep _ _ D.TOz D.TOi1 D.TOi2 h2⟩, w1, w2, (fun e => nomatch e), fun T' e => ?_⟩ made fun c o cz _ c1 c2 e => keep c o cz c1 c2 e)⟩
    cases e
    exact ⟨true, z'⟩
theorem over {a b z TI TO i1 i2 : Addr} {i : Nat} {l : Option Addr} {xs ys : Array Value} {Q : Option Value → Shared → Prop} (hh : A.handled = none) (D : ZipApart z TI TO i1 i2 a b) (st : At a b z TI TO i1 i2 i l s.heap) (old : ∀ T, l = some T → ∃ o, s.heap.get? T = some o)
    (ha : s.heap.IsTuple a xs) (hb : s.heap.IsTuple b ys) (hx : xs[i]? = none) (hQ : ∀ g, (∀ c o, c ≠ z → c ≠ TO → c ≠ i1 → c ≠ i2 → s.heap.get? c = some o → g.get? c = some o) → Q none { s with heap := g }) : wpAny (model prog w) A (pyNext (.ref z)) Q E s := by
  have isTy := st.typeIs
  obtain ⟨h1, ⟨p, q, h2⟩, h3, h4, h5, h6⟩ := st
  cases l with
  | none => exact pyNext_zipT_end hh D (h5 rfl) h1 h2 h3 h4 ha hb (.inl hx) hQ
  | some T =>
    obtain ⟨f, held⟩ := h6 T rfl
    obtain ⟨oT, atT⟩ := old T rfl
    unfold pyNext
    refine wpAny_bind (wpAny_attempt (wpAny_callSpecial?_slot (name := Str.ofString "__next__") isTy F.slot_zip_next (wpAny_call_entry F.slot_zip_next isTy F.entry_zip_next ?_ (F.args_zip_next_1 _))))
    refine held_asked D held atT h1 h3 h4 ha hb (fun u hu => nomatch hx.symm.trans hu) (fun u v hu => nomatch hx.symm.trans hu) fun _ => ⟨hh, fun g err keep isStop => ?_⟩
    obtain ⟨o, at_o, cls_o⟩ := isStop
    exact wpAny_bind (wpAny_isInstance (T := "StopIteration") (b := true) ⟨o, at_o, cls_o⟩ isSubtype_stop (wpAny_pure (hQ g fun c o cz _ c1 c2 e => keep c o cz c1 c2 e)))
end
/-- the loop: l is the pair that the zip still has -/
def tForZ (K : PySem.W.Frag) (ta : TA) (g : TG) (tb : TS) : TS := fun D σ H => ta σ H fun vs H1 => ∃ (a b : Addr) (xs ys : List V) (Pv : Nat → Option Addr → L2.St → Hp → Prop), vs = [.ref a, .ref b] ∧ xs.length = ys.length ∧ Pv 0 none σ H1 ∧
  (∀ i l σ H, i ≤ xs.length → Pv i l σ H → SqT K H a xs ∧ SqT K H b ys ∧ ∀ T, l = some T → ∃ zs, H T = some (.tup zs)) ∧
  (∀ i l σ H x y T, xs[i]? = some x → ys[i]? = some y → Pv i l σ H → H T = none → g (.ref T) σ (upd H T (.tup [x, y])) fun σ2 H2 => tb { D with nx := Pv (i + 1) (some (l.getD T)), ct := Pv (i + 1) (some (l.getD T)), bk := D.nx } σ2 H2) ∧ ∀ l σ H, Pv xs.length l σ H → D.nx σ H
theorem forZ_it {K : PySem.W.Frag} {g : TG} {tb : TS} {D : Ends} {σ : L2.St} {H1 : Hp} {a b : Addr} {xs ys : List V} (Pv : Nat → Option Addr → L2.St → Hp → Prop) (hl : xs.length = ys.length) (h0 : Pv 0 none σ H1)
    (hq : ∀ i l σ H, i ≤ xs.length → Pv i l σ H → SqT K H a xs ∧ SqT K H b ys ∧ ∀ T, l = some T → ∃ zs, H T = some (.tup zs))
    (hs : ∀ i l σ H x y T, xs[i]? = some x → ys[i]? = some y → Pv i l σ H → H T = none → g (.ref T) σ (upd H T (.tup [x, y])) fun σ2 H2 => tb { D with nx := Pv (i + 1) (some (l.getD T)), ct := Pv (i + 1) (some (l.getD T)), bk := D.nx } σ2 H2) (hd : ∀ l σ H, Pv xs.length l σ H → D.nx σ H) :
    ∃ (a' b' : Addr) (xs ys : List V) (Pv : Nat → Option Addr → L2.St → Hp → Prop), [V.ref a, V.ref b] = [.ref a', .ref b'] ∧ xs.length = ys.length ∧ Pv 0 none σ H1 ∧
      (∀ i l σ H, i ≤ xs.length → Pv i l σ H → SqT K H a' xs ∧ SqT K H b' ys ∧ ∀ T, l = some T → ∃ zs, H T = some (.tup zs)) ∧
      (∀ i l σ H x y T, xs[i]? = some x → ys[i]? = some y → Pv i l σ H → H T = none → g (.ref T) σ (upd H T (.tup [x, y])) fun σ2 H2 => tb { D with nx := Pv (i + 1) (some (l.getD T)), ct := Pv (i + 1) (some (l.getD T)), bk := D.nx } σ2 H2) ∧ ∀ l σ H, Pv xs.length l σ H → D.nx σ H :=
  ⟨a, b, xs, ys, Pv, rfl, hl, h0, hq, hs, hd⟩
theorem ps_forZ {X : Cx} {e e2 : Expr} {body : List Stmt} {ta : TA} {g : TG} {tb : TS} {x : Str} {px p cpos pos : Pos} (hp : PassesOwn (model X.prog X.w) X.A X.env X.xe) (hc : X.calm = true) (hg : Gl X "zip") (hm : X.mg "zip" = none) (ha : PA X [e, e2] ta) (ht : PG X (.Name x px) g) (hb : PSs X body tb)
    (hs : starEach [e, e2] X.env = (false, eval e X.env) :: starEach [e2] X.env := by rfl) (hpl : (backTo cpos (starEach [e2] X.env)).any (·.1) = false := by rfl)
    (hf : ∀ y, foldedSetIterable (.Call (.Name "zip" p) [e, e2] [] cpos) X.env y = pure y := by intro _; rfl) : PS X (.For (.Name x px) (.Call (.Name "zip" p) [e, e2] [] cpos) body [] pos) (tForZ X.K ta g tb) := by
  refine ⟨fun pins s σ H D I h => ?_⟩
  refine wpAny_For (Call_ (ld_blt I hg hm PyProof.Rows.boot_zip (PyProof.Rows.callWith_type1 (thn (ha.run cpos pins s σ H _ I h) fun us s1 ⟨vs, H1, I1, r1, a, b, xs, ys, Pv, ex, hl, p0, seqs, step, done⟩ => ?_) hs hpl))) hf
  subst ex
  cases r1 with
  | cons r rr =>
   cases rr with
   | cons r' rr =>
    cases rr
    cases r
    cases r'
    obtain ⟨q1, q2, _⟩ := seqs 0 none σ H1 (Nat.zero_le _) p0
    obtain ⟨its, rv, t1, _⟩ := I1.tuple q1
    obtain ⟨its2, rv2, t2, _⟩ := I1.tuple q2
    obtain ⟨o1, ho1, _⟩ := id t1
    obtain ⟨o2, ho2, _⟩ := id t2
    refine call_zipT (ZPT.tup_is t1) (ZPT.tup_is t2) fun h' hz hTI hTO h1 h2 hsz hk => wpAny_pyIter_zip hz ?_
    have fresh5 : ∀ c ∈ [s1.heap.objs.size + 4, s1.heap.objs.size + 2, s1.heap.objs.size + 3, s1.heap.objs.size, s1.heap.objs.size + 1], FpOk X pins H1 c := fun c hcm => by
      have above : s1.heap.objs.size ≤ c := by
        simp only [List.mem_cons, List.not_mem_nil, or_false] at hcm
        rcases hcm with rfl | rfl | rfl | rfl | rfl <;> first | exact Nat.le_refl _ | exact Nat.le_add_right _ _
      exact I1.fpOk above (I1.hok.fresh above)
    have Dz := PySem.W.ktu_apart s1.heap.objs.size a b (Heap.lt_size ho1) (Heap.lt_size ho2)
    have I2 := I1.kept (t' := s1.toks) hk
    have st0 : At a b (s1.heap.objs.size + 4) (s1.heap.objs.size + 2) (s1.heap.objs.size + 3) s1.heap.objs.size (s1.heap.objs.size + 1) 0 none h' := ⟨hTI, ⟨_, _, hTO⟩, h1, h2, fun _ => hz, fun T e => nomatch e⟩
    generalize s1.heap.objs.size + 4 = z at *
    generalize s1.heap.objs.size + 2 = TI at *
    generalize s1.heap.objs.size + 3 = TO at *
    generalize s1.heap.objs.size + 1 = i2 at *
    generalize s1.heap.objs.size = i1 at *
    clear hz hTI hTO h1 h2 hsz
    have stat : ∀ {H' : Hp}, (∀ c ∈ [z, TI, TO, i1, i2], H' c = none) → ∀ c ∈ [z, TI, TO, i1, i2], FpOk X pins H' c := fun hn c hc => ⟨hn c hc, (fresh5 c hc).2⟩
    refine codeAny_forLoop_any (fun n s' => ∃ i l σ' H', n = xs.length - i ∧ i ≤ xs.length ∧ Inv X pins σ' H' s' ∧ At a b z TI TO i1 i2 i l s'.heap ∧ (∀ c ∈ [z, TI, TO, i1, i2], H' c = none) ∧ Pv i l σ' H') ?_ xs.length ⟨0, none, σ, H1, rfl, Nat.zero_le _, I2, st0, fun c hc => (fresh5 c hc).1, p0⟩
    rintro n s3 ⟨i, l, σ3, H3, rfl, hi, I3, st3, fr3, p3⟩
    obtain ⟨e1, e2, e3⟩ := seqs i l σ3 H3 hi p3
    obtain ⟨jts, sv, u1, _⟩ := I3.tuple e1
    obtain ⟨jts2, sv2, u2, _⟩ := I3.tuple e2
    have l1 := sv.length
    have l2 := sv2.length
    have oldT : ∀ T, l = some T → ∃ o, s3.heap.get? T = some o ∧ T ∉ [z, TI, TO, i1, i2] := fun T e => by
      obtain ⟨zs, hT⟩ := e3 T e
      obtain ⟨_, _, tt, _⟩ := I3.tuple (SqT.of (K := X.K) hT)
      obtain ⟨o, ho, _⟩ := id tt
      refine ⟨o, ho, fun c => ?_⟩
      have := fr3 T c
      rw [hT] at this
      cases this
    by_cases lt : i < xs.length
    · obtain ⟨x1, hx⟩ : ∃ x1, xs[i]? = some x1 := ⟨_, List.getElem?_eq_getElem lt⟩
      obtain ⟨y1, hy⟩ : ∃ y1, ys[i]? = some y1 := ⟨_, List.getElem?_eq_getElem (by omega)⟩
      obtain ⟨u, hu, ru⟩ := sv.get hx
      obtain ⟨v, hv, rw2⟩ := sv2.get hy
      refine wpAny_passesOwn hp (item Dz st3 oldT (ZPT.tup_is u1) (ZPT.tup_is u2) (x := u) (y := v) (by simpa using hu) (by simpa using hv) fun g st4 made keep => ?_)
      have free : H3 s3.heap.objs.size = none := I3.hok.fresh (Nat.le_refl _)
      have new : ObjOk X.prog X.w (upd H3 s3.heap.objs.size (.tup [x1, y1])) g s3.heap.objs.size (.tup [x1, y1]) := ⟨by show 2 ≤ sizeLine; decide, [u, v], .cons ru (.cons rw2 .nil), _, made, rfl, _, rfl⟩
      have I4 : Inv X pins σ3 (upd H3 s3.heap.objs.size (.tup [x1, y1])) { s3 with heap := g } := I3.turnedNew (t' := s3.toks) (ch := [z, TI, TO, i1, i2]) (fun c o hc e => keep c o (fun w => hc (by simp [w])) (fun w => hc (by simp [w])) (fun w => hc (by simp [w])) (fun w => hc (by simp [w])) e) (stat fr3) (Nat.le_refl _) new
      have fr4 : ∀ c ∈ [z, TI, TO, i1, i2], upd H3 s3.heap.objs.size (.tup [x1, y1]) c = none := fun c hc => by
        obtain ⟨o, ho, _⟩ := st3.obj c hc
        exact (upd_ne (Nat.ne_of_lt (Heap.lt_size ho))).trans (fr3 c hc)
      have I5 := I4.pinned (stat fr4) st4.obj
      refine wpAny_passesOwn hp (wpAny_pure ?_)
      refine wpAny_passesOwn hp (thn (ht.run _ _ σ3 _ (.ref s3.heap.objs.size) (.ref s3.heap.objs.size) _ I5 rfl (step i l σ3 H3 x1 y1 _ hx hy p3 free)) fun _ s6 ⟨σ6, H6, I6, q6⟩ => ?_)
      refine wpAny_passesOwn hp (thn (hb.run _ s6 σ6 H6 _ I6 q6) fun fl s7 went => ?_)
      have again : ∀ {σ7 : L2.St} {H7 : Hp}, Inv X (pins ++ pinsAt [z, TI, TO, i1, i2] g) σ7 H7 s7 → Pv (i + 1) (some (l.getD s3.heap.objs.size)) σ7 H7 → ∃ m, m < xs.length - i ∧ ∃ i l σ' H', m = xs.length - i ∧ i ≤ xs.length ∧ Inv X pins σ' H' s7 ∧ At a b z TI TO i1 i2 i l s7.heap ∧ (∀ c ∈ [z, TI, TO, i1, i2], H' c = none) ∧ Pv i l σ' H' := fun {σ7 H7} I7 p7 => by
        refine ⟨xs.length - (i + 1), by omega, i + 1, _, σ7, H7, rfl, lt, I7.unpinned, st4.keep fun c hc o e => (I7.pin (c, o) (List.mem_append_right _ (List.mem_append_right _ (mem_pinsAt hc e)))).1, fun c hc => ?_, p7⟩
        obtain ⟨o, e, d⟩ := st4.obj c hc
        exact (I7.pin (c, o) (List.mem_append_right _ (List.mem_append_right _ (mem_pinsAt hc e)))).2.1
      cases fl with
      | next => exact went.elim fun _ z => z.elim fun _ z => again z.1 z.2
      | cont => exact went.elim fun _ z => z.elim fun _ z => again z.1 z.2
      | brk => exact went.elim fun σ7 z => z.elim fun H7 z => ⟨σ7, H7, z.1.unpinned, z.2⟩
      | ret v => exact let ⟨x7, σ7, H7, I7, r7, q7⟩ := went; ⟨x7, σ7, H7, I7.unpinned, r7, q7⟩
    · obtain rfl : i = xs.length := by omega
      refine wpAny_passesOwn hp (over (I3.ok.hd hc) Dz st3 (fun T e => let ⟨o, ho, _⟩ := oldT T e; ⟨o, ho⟩) (ZPT.tup_is u1) (ZPT.tup_is u2) (by simp; omega) fun g keep => ?_)
      refine wpAny_execs_nil ⟨σ3, H3, ?_, done l σ3 H3 p3⟩
      exact I3.turnedL (t' := s3.toks) (ch := [z, TI, TO, i1, i2]) (fun c o hc e => keep c o (fun w => hc (by simp [w])) (fun w => hc (by simp [w])) (fun w => hc (by simp [w])) (fun w => hc (by simp [w])) e) (stat fr3)
end ZQT
set_option Elab.async false
set_option linter.all false
set_option maxRecDepth 100000
set_option maxHeartbeats 8000000
namespace WK
open PySem L2 PyProof.Rows LCX K1 FV DP
open TX (sg sigs)
open PySem.W (Frag kitOne)
abbrev sPaired : Stmt := top 16
abbrev NPd : List Str := ["one", "other", "start", "most", "pairs", "numbers", "rows", "left", "right", "row", "after"]
/-- the pair of rows behind a column -/
def pairF (A B : List (List Int)) (k : List Int) (c : Nat) : List Int := [(A.getD (k.getD 0 0).toNat []).getD c 0, (B.getD (k.getD 1 0).toNat []).getD c 0]
section
variable {P : Program} {w : World} {K : PySem.W.Frag} {mg : Str → Option Value} {base : Heap}
theorem scPd : FnScope NPd ["one", "other", "start", "most"] (defScope sPaired) := ⟨rfl, rfl, rfl, by decide +kernel, rfl, by decide +kernel, by decide +kernel⟩
end
end WK
set_option Elab.async false
set_option linter.all false
set_option maxRecDepth 100000
set_option maxHeartbeats 4000000
namespace WK
open PySem PySem.Spec L2 PyProof.Rows K1
section
variable {α : Type} [DecidableEq α] {f : α → Nat → α} {L : W} {start : α}
theorem exSign_nd {key : α} {st : List α × List Int} {c : Nat} (h : st.1.Nodup) : (exSign f key st c).1.Nodup := by
  unfold exSign
  split
  · exact h
  · rename_i hn
    refine List.nodup_append.mpr ⟨h, List.nodup_cons.mpr ⟨List.not_mem_nil, List.nodup_nil⟩, fun x hx y hy z => ?_⟩
    rw [List.mem_singleton.mp hy] at z
    exact hn (z ▸ hx)
theorem exFold_nd {key : α} : ∀ {l : W} {st : List α × List Int}, st.1.Nodup → (l.foldl (exSign f key) st).1.Nodup
  | [], _, h => h
  | c :: l, _, h => exFold_nd (l := l) (exSign_nd h)
theorem exAll_cases (j : Nat) : (∃ key, (exAll f L start j).1[j]? = some key ∧ exAll f L start (j + 1) = ((L.foldl (exSign f key) ((exAll f L start j).1, [])).1, (exAll f L start j).2 ++ [(L.foldl (exSign f key) ((exAll f L start j).1, [])).2])) ∨
    ((exAll f L start j).1.length ≤ j ∧ exAll f L start (j + 1) = exAll f L start j) := by
  cases e : (exAll f L start j).1[j]? with
  | some key => exact .inl ⟨key, rfl, exAll_at e⟩
  | none =>
    have h := List.getElem?_eq_none_iff.mp e
    exact .inr ⟨h, exAll_stop h 1⟩
theorem exAll_nd : ∀ j, (exAll f L start j).1.Nodup
  | 0 => List.nodup_cons.mpr ⟨List.not_mem_nil, List.nodup_nil⟩
  | j + 1 => by
    rcases exAll_cases (f := f) (L := L) (start := start) j with ⟨key, _, e⟩ | ⟨_, e⟩
    · rw [e]
      exact exFold_nd (exAll_nd j)
    · rw [e]
      exact exAll_nd j
theorem exAll_grow (j : Nat) : (exAll f L start j).1 <+: (exAll f L start (j + 1)).1 ∧ (exAll f L start j).2 <+: (exAll f L start (j + 1)).2 := by
  rcases exAll_cases (f := f) (L := L) (start := start) j with ⟨key, _, e⟩ | ⟨_, e⟩
  · rw [e]
    exact ⟨exFold_grows f key L ((exAll f L start j).1, []), List.prefix_append _ _⟩
  · rw [e]
    exact ⟨List.prefix_refl _, List.prefix_refl _⟩
theorem exAll_pre (j : Nat) : ∀ m, (exAll f L start j).1 <+: (exAll f L start (j + m)).1 ∧ (exAll f L start j).2 <+: (exAll f L start (j + m)).2
  | 0 => ⟨List.prefix_refl _, List.prefix_refl _⟩
  | m + 1 => ⟨(exAll_pre j m).1.trans (exAll_grow (j + m)).1, (exAll_pre j m).2.trans (exAll_grow (j + m)).2⟩
theorem exAll_most {N : Nat} (h : (exAll f L start N).1.length ≤ N) (j : Nat) : (exAll f L start j).1.length ≤ N := by
  rcases Nat.le_total j N with a | a
  · have := (exAll_pre (f := f) (L := L) (start := start) j (N - j)).1.length_le
    rw [show j + (N - j) = N by omega] at this
    exact Nat.le_trans this h
  · have := exAll_stop h (j - N)
    rw [show N + (j - N) = j by omega] at this
    rw [this]
    exact h
theorem exAll_rows : ∀ j, (exAll f L start j).2.length = min j (exAll f L start j).1.length
  | 0 => by
    show 0 = min 0 1
    rfl
  | j + 1 => by
    have ih := exAll_rows j
    rcases exAll_cases (f := f) (L := L) (start := start) j with ⟨key, hk, e⟩ | ⟨h, e⟩
    · have hj := (List.getElem?_eq_some_iff.mp hk).1
      have hg := (exAll_grow (f := f) (L := L) (start := start) j).1.length_le
      have h2 : (exAll f L start (j + 1)).2.length = (exAll f L start j).2.length + 1 := by rw [e, List.length_append] <;> rfl
      rw [h2, ih]
      omega
    · rw [e, ih]
      omega
theorem idx_pre {a : α} {l m : List α} (h : a ∈ l) (p : l <+: m) : m.idxOf a = l.idxOf a := by
  obtain ⟨t, rfl⟩ := p
  rw [List.idxOf_append, if_pos h]
theorem fold_row (key : α) : ∀ (l : W) (st : List α × List Int), (l.foldl (exSign f key) st).2 = st.2 ++ l.map (fun c => (((l.foldl (exSign f key) st).1.idxOf (f key c) : Nat) : Int)) ∧ ∀ c ∈ l, f key c ∈ (l.foldl (exSign f key) st).1
  | [], st => ⟨(List.append_nil _).symm, fun c hc => (List.not_mem_nil hc).elim⟩
  | c :: l, st => by
    have one : f key c ∈ (exSign f key st c).1 ∧ (exSign f key st c).2 = st.2 ++ [(((exSign f key st c).1.idxOf (f key c) : Nat) : Int)] := by
      unfold exSign
      by_cases h : f key c ∈ st.1
      · rw [if_pos h]
        exact ⟨h, rfl⟩
      · rw [if_neg h]
        refine ⟨List.mem_append_right _ (List.mem_singleton.mpr rfl), ?_⟩
        show _ = st.2 ++ [(((st.1 ++ [f key c]).idxOf (f key c) : Nat) : Int)]
        rw [idx_end h]
    obtain ⟨ih1, ih2⟩ := fold_row key l (exSign f key st c)
    have pre := exFold_grows f key l (exSign f key st c)
    rw [List.foldl_cons]
    refine ⟨?_, fun d hd => ?_⟩
    · rw [ih1, one.2, List.append_assoc, List.map_cons, idx_pre one.1 pre] <;> rfl
    · rcases List.mem_cons.mp hd with rfl | z
      · exact pre.subset one.1
      · exact ih2 d z
/-- each row tells where the letters lead -/
theorem exAll_row : ∀ (j i : Nat) (r : List Int), (exAll f L start j).2[i]? = some r → ∃ key, (exAll f L start j).1[i]? = some key ∧ r = L.map (fun c => (((exAll f L start j).1.idxOf (f key c) : Nat) : Int)) ∧ ∀ c ∈ L, f key c ∈ (exAll f L start j).1
  | 0, i, r, h => by
    have : (exAll f L start 0).2 = [] := rfl
    rw [this] at h
    cases h
  | j + 1, i, r, h => by
    rcases exAll_cases (f := f) (L := L) (start := start) j with ⟨key, hk, e⟩ | ⟨_, e⟩
    · have pre := (exAll_grow (f := f) (L := L) (start := start) j).1
      have hj := (List.getElem?_eq_some_iff.mp hk).1
      have hl := exAll_rows (f := f) (L := L) (start := start) j
      rw [e] at h pre ⊢
      by_cases hi : i < (exAll f L start j).2.length
      · rw [List.getElem?_append_left hi] at h
        obtain ⟨k, k1, k2, k3⟩ := exAll_row j i r h
        refine ⟨k, ?_, ?_, fun c hc => pre.subset (k3 c hc)⟩
        · obtain ⟨t, ht⟩ := pre
          show (L.foldl (exSign f key) ((exAll f L start j).1, [])).1[i]? = _
          rw [← ht, List.getElem?_append_left (List.getElem?_eq_some_iff.mp k1).1]
          exact k1
        · rw [k2]
          refine List.map_congr_left fun c hc => ?_
          rw [idx_pre (k3 c hc) pre]
      · have hi2 : i = j := by
          have := (List.getElem?_eq_some_iff.mp h).1
          rw [List.length_append] at this
          have : i < (exAll f L start j).2.length + 1 := this
          omega
        rw [List.getElem?_append_right (by omega), hi2, hl, show j - min j (exAll f L start j).1.length = 0 by omega] at h
        obtain rfl := Option.some.inj h
        obtain ⟨f1, f2⟩ := fold_row (f := f) key L ((exAll f L start j).1, [])
        refine ⟨key, ?_, by rw [f1, List.nil_append], f2⟩
        obtain ⟨t, ht⟩ := pre
        show (L.foldl (exSign f key) ((exAll f L start j).1, [])).1[i]? = _
        rw [← ht, hi2, List.getElem?_append_left hj]
        exact hk
    · rw [e] at h ⊢
      exact exAll_row j i r h
theorem fold_add (key : α) : ∀ (l : W) (st : List α × List Int), ∃ es, (l.foldl (exSign f key) st).2 = st.2 ++ es ∧ es.foldl addN (rngI st.1.length) = rngI (l.foldl (exSign f key) st).1.length
  | [], st => ⟨[], (List.append_nil _).symm, rfl⟩
  | c :: l, st => by
    have one : ∃ e, (exSign f key st c).2 = st.2 ++ [e] ∧ addN (rngI st.1.length) e = rngI (exSign f key st c).1.length := by
      unfold exSign
      by_cases h : f key c ∈ st.1
      · rw [if_pos h]
        refine ⟨_, rfl, ?_⟩
        unfold addN
        rw [if_pos]
        exact List.mem_map.mpr ⟨_, List.mem_range.mpr (List.idxOf_lt_length_of_mem h), rfl⟩
      · rw [if_neg h]
        refine ⟨_, rfl, ?_⟩
        unfold addN
        rw [if_neg]
        · show _ = rngI (st.1 ++ [f key c]).length
          unfold rngI
          rw [List.length_append, show st.1.length + [f key c].length = st.1.length + 1 from rfl, List.range_succ, List.map_append] <;> rfl
        · intro z
          obtain ⟨i, hi, e⟩ := List.mem_map.mp z
          have := List.mem_range.mp hi
          omega
    obtain ⟨e, h1, h2⟩ := one
    obtain ⟨es, h3, h4⟩ := fold_add key l (exSign f key st c)
    rw [List.foldl_cons]
    refine ⟨e :: es, by rw [h3, h1, List.append_assoc] <;> rfl, ?_⟩
    rw [List.foldl_cons, h2]
    exact h4
theorem rng_at {n j : Nat} : (rngI n)[j]? = if j < n then some ((j : Nat) : Int) else none := by
  unfold rngI
  rw [List.getElem?_map]
  by_cases h : j < n
  · rw [if_pos h, List.getElem?_range h] <;> rfl
  · rw [if_neg h, List.getElem?_eq_none (by rw [List.length_range]; omega)] <;> rfl
theorem ex_way {N : Nat} : ∀ j ≤ N, wyA (exAll f L start N).2 0 j = rngI (exAll f L start j).1.length
  | 0, _ => rfl
  | j + 1, hj => by
    have ih := ex_way j (Nat.le_of_succ_le hj)
    have hl := exAll_rows (f := f) (L := L) (start := start) j
    rcases exAll_cases (f := f) (L := L) (start := start) j with ⟨key, hk, e⟩ | ⟨h, e⟩
    · have hlt := (List.getElem?_eq_some_iff.mp hk).1
      have h1 : (wyA (exAll f L start N).2 0 j)[j]? = some ((j : Nat) : Int) := by rw [ih, rng_at, if_pos hlt]
      rw [wyA_at h1, ih, e]
      obtain ⟨es, a1, a2⟩ := fold_add (f := f) key L ((exAll f L start j).1, [])
      have row : (exAll f L start N).2.getD ((j : Nat) : Int).toNat [] = es := by
        have pre := (exAll_pre (f := f) (L := L) (start := start) (j + 1) (N - (j + 1))).2
        rw [show j + 1 + (N - (j + 1)) = N by omega, e] at pre
        obtain ⟨t, ht⟩ := pre
        rw [← ht, List.getD_eq_getElem?_getD, Int.toNat_natCast, List.append_assoc, List.getElem?_append_right (by omega), hl, show j - min j (exAll f L start j).1.length = 0 by omega]
        show (L.foldl (exSign f key) ((exAll f L start j).1, [])).2 = es
        rw [a1] <;> rfl
      rw [row]
      exact a2
    · rw [e, ← ih]
      have h1 : (wyA (exAll f L start N).2 0 j).length ≤ j := by rw [ih]; unfold rngI; rw [List.length_map, List.length_range]; exact h
      exact wyA_stop h1 1
/-- all is explored in N steps -/
structure Done (f : α → Nat → α) (L : W) (start : α) (N : Nat) : Prop where
  len : (exAll f L start N).1.length = N
  pos : 1 ≤ N
theorem Done.lean {N : Nat} (d : Done f L start N) : LeanT (exAll f L start N).2 := by
  have hl := exAll_rows (f := f) (L := L) (start := start) N
  rw [d.len, Nat.min_self] at hl
  refine ⟨?_⟩
  rw [hl, ex_way N (Nat.le_refl _), d.len]
theorem Done.tab {N : Nat} (d : Done f L start N) : TabOk (exAll f L start N).2 L.length (N : Int) := by
  have hl := exAll_rows (f := f) (L := L) (start := start) N
  rw [d.len, Nat.min_self] at hl
  refine ⟨by rw [hl], fun r hr => ?_⟩
  obtain ⟨i, hi⟩ := List.mem_iff_getElem?.mp hr
  obtain ⟨key, _, h2, h3⟩ := exAll_row N i r hi
  refine ⟨by rw [h2, List.length_map], fun x hx => ?_⟩
  rw [h2] at hx
  obtain ⟨c, hc, rfl⟩ := List.mem_map.mp hx
  have := List.idxOf_lt_length_of_mem (h3 c hc)
  rw [d.len] at this
  omega
theorem Done.led {N : Nat} (d : Done f L start N) : ∀ (u : W) (key : α), key ∈ (exAll f L start N).1 → (∀ c ∈ u, c ∈ L) → u.foldl f key ∈ (exAll f L start N).1 ∧ ledL L (exAll f L start N).2 u (((exAll f L start N).1.idxOf key : Nat) : Int) = (((exAll f L start N).1.idxOf (u.foldl f key) : Nat) : Int)
  | [], key, hk, _ => ⟨hk, rfl⟩
  | c :: u, key, hk, hu => by
    have hl := exAll_rows (f := f) (L := L) (start := start) N
    rw [d.len, Nat.min_self] at hl
    have hi := List.idxOf_lt_length_of_mem hk
    have hi2 : (exAll f L start N).1.idxOf key < (exAll f L start N).2.length := Nat.lt_of_lt_of_eq hi (d.len.trans hl.symm)
    obtain ⟨key2, k1, k2, k3⟩ := exAll_row N _ _ (List.getElem?_eq_getElem hi2)
    have ek : key2 = key := by
      rw [List.getElem?_eq_getElem hi] at k1
      rw [← Option.some.inj k1]
      exact List.getElem_idxOf hi
    subst ek
    have hc := hu c (.head _)
    obtain ⟨a, b⟩ := Done.led d u (f key2 c) (k3 c hc) fun x hx => hu x (.tail _ hx)
    refine ⟨a, ?_⟩
    rw [List.foldl_cons, ← b]
    show ledL L _ u (stepL L _ _ c) = _
    congr 1
    unfold stepL
    have e1 : (exAll f L start N).2.getD (((exAll f L start N).1.idxOf key2 : Nat) : Int).toNat [] = (exAll f L start N).2[(exAll f L start N).1.idxOf key2] := by
      rw [Int.toNat_natCast, List.getD_eq_getElem?_getD, List.getElem?_eq_getElem hi2] <;> rfl
    rw [e1, k2, List.getD_eq_getElem?_getD, List.getElem?_map, List.getElem?_eq_getElem (List.idxOf_lt_length_of_mem hc)]
    show (((exAll f L start N).1.idxOf (f key2 (L[L.idxOf c]'(List.idxOf_lt_length_of_mem hc))) : Nat) : Int) = _
    rw [List.getElem_idxOf (List.idxOf_lt_length_of_mem hc)]
theorem Done.zero {N : Nat} (d : Done f L start N) : start ∈ (exAll f L start N).1 ∧ (exAll f L start N).1.idxOf start = 0 := by
  have pre := (exAll_pre (f := f) (L := L) (start := start) 0 N).1
  rw [Nat.zero_add] at pre
  obtain ⟨t, ht⟩ := pre
  have : (exAll f L start N).1 = start :: t := by rw [← ht] <;> rfl
  rw [this]
  exact ⟨List.mem_cons_self, List.idxOf_cons_self⟩
/-- two words lead to one place just if they make one key -/
theorem Done.same {N : Nat} (d : Done f L start N) {u v : W} (hu : ∀ c ∈ u, c ∈ L) (hv : ∀ c ∈ v, c ∈ L) : ledL L (exAll f L start N).2 u 0 = ledL L (exAll f L start N).2 v 0 ↔ u.foldl f start = v.foldl f start := by
  obtain ⟨z1, z2⟩ := d.zero
  obtain ⟨a1, a2⟩ := d.led u start z1 hu
  obtain ⟨b1, b2⟩ := d.led v start z1 hv
  rw [z2] at a2 b2
  have a2' : ledL L (exAll f L start N).2 u 0 = _ := a2
  have b2' : ledL L (exAll f L start N).2 v 0 = _ := b2
  rw [a2', b2']
  constructor
  · intro e
    have h1 := List.idxOf_lt_length_of_mem a1
    have h2 := List.idxOf_lt_length_of_mem b1
    have e : (exAll f L start N).1.idxOf (u.foldl f start) = (exAll f L start N).1.idxOf (v.foldl f start) := by omega
    rw [← List.getElem_idxOf h1, ← List.getElem_idxOf h2]
    congr 1
  · intro e
    rw [e]
theorem Done.most {N : Nat} (d : Done f L start N) (hN : N ≤ 400) : (∀ j, (exAll f L start j).1.length ≤ 400) ∧ exAll f L start 400 = exAll f L start N := by
  refine ⟨fun j => Nat.le_trans (exAll_most (Nat.le_of_eq d.len) j) hN, ?_⟩
  have := exAll_stop (Nat.le_of_eq d.len) (400 - N)
  rw [show N + (400 - N) = 400 by omega] at this
  exact this
end
end WK
set_option Elab.async false
set_option linter.all false
set_option maxRecDepth 100000
set_option maxHeartbeats 4000000
namespace WK
open PySem L2 PyProof.Rows K1
section
variable {α : Type} [DecidableEq α] {f : α → Nat → α} {L : W} {start : α}
theorem fold_in {S : List α} {key : α} (hk : ∀ c ∈ L, f key c ∈ S) : ∀ {l : W} {st : List α × List Int}, (∀ c ∈ l, c ∈ L) → (∀ a ∈ st.1, a ∈ S) → ∀ a ∈ (l.foldl (exSign f key) st).1, a ∈ S
  | [], _, _, h => h
  | c :: l, st, hl, h => fold_in hk (l := l) (st := exSign f key st c) (fun d hd => hl d (.tail _ hd)) fun a ha => by
    unfold exSign at ha
    split at ha
    · exact h a ha
    · rcases List.mem_append.mp ha with z | z
      · exact h a z
      · rw [List.mem_singleton.mp z]
        exact hk c (hl c (.head _))
/-- what is explored stays in what the step keeps -/
theorem keys_in {S : List α} (h0 : start ∈ S) (hs : ∀ a ∈ S, ∀ c ∈ L, f a c ∈ S) : ∀ j, ∀ a ∈ (exAll f L start j).1, a ∈ S
  | 0, a, ha => by
    rw [List.mem_singleton.mp ha]
    exact h0
  | j + 1, a, ha => by
    rcases exAll_cases (f := f) (L := L) (start := start) j with ⟨key, hk, e⟩ | ⟨_, e⟩
    · rw [e] at ha
      exact fold_in (hs key (keys_in h0 hs j key (List.mem_of_getElem? hk))) (fun _ h => h) (keys_in h0 hs j) a ha
    · rw [e] at ha
      exact keys_in h0 hs j a ha
/-- over finitely many keys exploring ends -/
theorem done_in {S : List α} (h0 : start ∈ S) (hs : ∀ a ∈ S, ∀ c ∈ L, f a c ∈ S) : ∃ N, Done f L start N ∧ N ≤ S.length := by
  have few : ∀ j, (exAll f L start j).1.length ≤ S.length := fun j => (exAll_nd (f := f) (L := L) (start := start) j).length_le_of_subset (keys_in h0 hs j)
  have at0 : 1 ≤ (exAll f L start S.length).1.length := by
    have := (exAll_pre (f := f) (L := L) (start := start) 0 S.length).1.length_le
    rw [Nat.zero_add] at this
    exact this
  refine ⟨(exAll f L start S.length).1.length, ⟨?_, at0⟩, few _⟩
  generalize hN : (exAll f L start S.length).1.length = N
  have le : N ≤ S.length := hN ▸ few _
  have up := (exAll_pre (f := f) (L := L) (start := start) N (S.length - N)).1.length_le
  rw [show N + (S.length - N) = S.length by omega, hN] at up
  have st := exAll_stop up (S.length - N)
  rw [show N + (S.length - N) = S.length by omega] at st
  rw [← st]
  exact hN
/-- the keys are those to which words lead -/
theorem Done.reach {N : Nat} (d : Done f L start N) (a : α) : a ∈ (exAll f L start N).1 ↔ ∃ u : W, (∀ c ∈ u, c ∈ L) ∧ u.foldl f start = a := by
  constructor
  · intro h
    have all : ∀ j, ∀ a ∈ (exAll f L start j).1, ∃ u : W, (∀ c ∈ u, c ∈ L) ∧ u.foldl f start = a := by
      intro j
      induction j with
      | zero =>
        intro a ha
        exact ⟨[], fun _ z => absurd z List.not_mem_nil, (List.mem_singleton.mp ha).symm⟩
      | succ j ih =>
        intro a ha
        rcases exAll_cases (f := f) (L := L) (start := start) j with ⟨key, hk, e⟩ | ⟨_, e⟩
        · rw [e] at ha
          obtain ⟨u, hu, eu⟩ := ih key (List.mem_of_getElem? hk)
          have : ∀ (l : W) (st : List α × List Int), (∀ c ∈ l, c ∈ L) → (∀ b ∈ st.1, ∃ u : W, (∀ c ∈ u, c ∈ L) ∧ u.foldl f start = b) → ∀ b ∈ (l.foldl (exSign f key) st).1, ∃ u : W, (∀ c ∈ u, c ∈ L) ∧ u.foldl f start = b := by
            intro l
            induction l with
            | nil => exact fun _ _ h => h
            | cons c l ihl =>
              intro st hl hst
              refine ihl (exSign f key st c) (fun d hd => hl d (.tail _ hd)) fun b hb => ?_
              unfold exSign at hb
              split at hb
              · exact hst b hb
              · rcases List.mem_append.mp hb with z | z
                · exact hst b z
                · refine ⟨u ++ [c], fun d hd => ?_, ?_⟩
                  · rcases List.mem_append.mp hd with y | y
                    · exact hu d y
                    · rw [List.mem_singleton.mp y]
                      exact hl c (.head _)
                  · rw [List.foldl_append, eu, List.mem_singleton.mp z]
                    rfl
          exact this L _ (fun _ h => h) ih a ha
        · rw [e] at ha
          exact ih a ha
    exact all N a h
  · rintro ⟨u, hu, rfl⟩
    exact (d.led u start d.zero.1 hu).1
end
/-- the step of a table -/
def rowF (U : List (List Int)) (k : Int) (c : Nat) : Int := (U.getD k.toNat []).getD c 0
theorem rowF_in {U : List (List Int)} {wd : Nat} {n : Int} (ok : TabOk U wd n) {k : Int} (hk : 0 ≤ k ∧ k < n) {c : Nat} (hc : c < wd) : 0 ≤ rowF U k c ∧ rowF U k c < n := by
  have hl := ok.len
  have hi : k.toNat < U.length := by omega
  obtain ⟨w, b⟩ := ok.row _ (List.getElem_mem hi)
  unfold rowF
  rw [show U.getD k.toNat [] = U[k.toNat] by rw [List.getD_eq_getElem?_getD, List.getElem?_eq_getElem hi] <;> rfl]
  rw [show U[k.toNat].getD c 0 = U[k.toNat][c]'(by omega) by rw [List.getD_eq_getElem?_getD, List.getElem?_eq_getElem (by omega)] <;> rfl]
  exact b _ (List.getElem_mem _)
abbrev numsTo (n : Int) : List Int := (List.range n.toNat).map fun i => ((i : Nat) : Int)
theorem mem_nums {n k : Int} : k ∈ numsTo n ↔ 0 ≤ k ∧ k < n := by
  rw [List.mem_map]
  constructor
  · rintro ⟨i, hi, rfl⟩
    have := List.mem_range.mp hi
    omega
  · rintro ⟨a, b⟩
    exact ⟨k.toNat, List.mem_range.mpr (by omega), by omega⟩
/-- .. and the pairs of two, in as many as their product -/
theorem done_pair {U Z : List (List Int)} {wd : Nat} {n m : Int} (okU : TabOk U wd n) (okZ : TabOk Z wd m) (h1 : 1 ≤ n) (h2 : 1 ≤ m) : ∃ N, Done (pairF U Z) (List.range wd) [0, 0] N ∧ N ≤ n.toNat * m.toNat := by
  let S : List (List Int) := (numsTo n).flatMap fun a => (numsTo m).map fun b => [a, b]
  have inS : ∀ a b : Int, 0 ≤ a ∧ a < n → 0 ≤ b ∧ b < m → [a, b] ∈ S := fun a b ha hb => List.mem_flatMap.mpr ⟨a, mem_nums.mpr ha, List.mem_map.mpr ⟨b, mem_nums.mpr hb, rfl⟩⟩
  have size : S.length = n.toNat * m.toNat := by
    show ((numsTo n).flatMap fun a => (numsTo m).map fun b => [a, b]).length = _
    rw [List.length_flatMap]
    have : ∀ l : List Int, (l.map fun a => ((numsTo m).map fun b => [a, b]).length).sum = l.length * m.toNat := by
      intro l
      induction l with
      | nil => rw [List.map_nil, List.sum_nil, List.length_nil, Nat.zero_mul]
      | cons a l ih => rw [List.map_cons, List.sum_cons, ih, List.length_map, List.length_map, List.length_range, List.length_cons, Nat.succ_mul, Nat.add_comm]
    rw [this, List.length_map, List.length_range]
  obtain ⟨N, d, le⟩ := done_in (f := pairF U Z) (L := List.range wd) (start := ([0, 0] : List Int)) (S := S) (inS 0 0 ⟨Int.le_refl _, by omega⟩ ⟨Int.le_refl _, by omega⟩) fun k hk c hc => by
    obtain ⟨a, ha, hk⟩ := List.mem_flatMap.mp hk
    obtain ⟨b, hb, rfl⟩ := List.mem_map.mp hk
    exact inS _ _ (rowF_in okU (mem_nums.mp ha) (List.mem_range.mp hc)) (rowF_in okZ (mem_nums.mp hb) (List.mem_range.mp hc))
  exact ⟨N, d, size ▸ le⟩
/-- two words lead to one place of both just when they do of each -/
theorem pair_fold (U Z : List (List Int)) : ∀ (u : W) (a b : Int), u.foldl (pairF U Z) [a, b] = [u.foldl (rowF U) a, u.foldl (rowF Z) b]
  | [], _, _ => rfl
  | c :: u, a, b => pair_fold U Z u (rowF U a c) (rowF Z b c)
end WK
set_option Elab.async false
set_option linter.all false
set_option maxRecDepth 100000
set_option maxHeartbeats 4000000
namespace WK
open PySem L2 PyProof.Rows LCX K1 FV DP
/-- a count, seen -/
def seenN (cap md m : Int) : Int := if m < cap + md then m else cap + (m - cap) % md
/-- a word's counts, seen -/
def vecW (L : W) (cap md : Int) (u : W) : List Int := L.map fun c => seenN cap md (u.count c : Nat)
theorem seen_in {cap md m : Int} (hc : 0 ≤ cap) (hm : 1 ≤ md) (h : 0 ≤ m) : 0 ≤ seenN cap md m ∧ seenN cap md m < cap + md := by
  unfold seenN
  split
  · omega
  · have h1 := Int.emod_nonneg (m - cap) (b := md) (by omega)
    have h2 := Int.emod_lt_of_pos (m - cap) (b := md) (by omega)
    omega
theorem seen_succ {cap md m : Int} (hm : 1 ≤ md) : oneM cap md (seenN cap md m) = seenN cap md (m + 1) := by
  unfold oneM seenN
  by_cases h : m < cap + md
  · rw [if_pos h]
    by_cases h2 : m + 1 < cap + md
    · rw [if_pos h2, if_pos h2]
    · rw [if_neg h2, if_neg h2]
      have e : m + 1 - cap = md := by omega
      rw [e, Int.emod_self, Int.add_zero]
  · rw [if_neg h, if_neg (show ¬ m + 1 < cap + md by omega)]
    have e : m + 1 - cap = (m - cap) + 1 := by omega
    have h1 := Int.emod_nonneg (m - cap) (b := md) (by omega)
    have h2 := Int.emod_lt_of_pos (m - cap) (b := md) (by omega)
    have e2 := Int.add_emod (m - cap) 1 md
    rw [e]
    by_cases h3 : cap + (m - cap) % md + 1 < cap + md
    · rw [if_pos h3]
      have h4 : (1 : Int) % md = 1 := Int.emod_eq_of_lt (by omega) (by omega)
      rw [h4] at e2
      have h5 : ((m - cap) % md + 1) % md = (m - cap) % md + 1 := Int.emod_eq_of_lt (by omega) (by omega)
      rw [h5] at e2
      omega
    · rw [if_neg h3]
      have e3 : (m - cap) % md + 1 = md := by omega
      have : ((m - cap) + 1) % md = 0 := by
        rw [← Int.emod_add_emod, e3, Int.emod_self]
      omega
theorem zip_map_self {α β γ : Type} (f : α → β) (g : α × β → γ) : ∀ l : List α, (l.zip (l.map f)).map g = l.map fun a => g (a, f a)
  | [] => rfl
  | a :: l => by
    rw [List.map_cons, List.zip_cons_cons, List.map_cons, zip_map_self f g l, List.map_cons]
theorem vec_snoc {L : W} {cap md : Int} (hm : 1 ≤ md) (u : W) (c : Nat) : cntF L cap md (vecW L cap md u) c = vecW L cap md (u ++ [c]) := by
  unfold cntF vecW
  rw [zip_map_self]
  refine List.map_congr_left fun d _ => ?_
  show (if d = c then oneM cap md (seenN cap md (u.count d : Nat)) else seenN cap md (u.count d : Nat)) = _
  rw [List.count_append]
  by_cases e : d = c
  · subst e
    rw [if_pos rfl, seen_succ hm, List.count_singleton_self] <;> rfl
  · rw [if_neg e, List.count_singleton]
    rw [if_neg (by simpa using fun z : c = d => e z.symm)] <;> rfl
theorem vec_nil {L : W} {cap md : Int} (hc : 0 ≤ cap) (hm : 1 ≤ md) : vecW L cap md [] = zeros L := by
  unfold vecW
  refine List.map_congr_left fun d _ => ?_
  show seenN cap md 0 = 0
  unfold seenN
  rw [if_pos (by omega)]
theorem vec_fold {L : W} {cap md : Int} (hc : 0 ≤ cap) (hm : 1 ≤ md) (u : W) : u.foldl (cntF L cap md) (zeros L) = vecW L cap md u := by
  have h : ∀ (v u : W), v.foldl (cntF L cap md) (vecW L cap md u) = vecW L cap md (u ++ v) := by
    intro v
    induction v with
    | nil =>
      intro u
      rw [List.append_nil] <;> rfl
    | cons c v ih =>
      intro u
      rw [List.foldl_cons, vec_snoc hm, ih, List.append_assoc] <;> rfl
  rw [← vec_nil hc hm]
  exact h u []
theorem vec_bd {L : W} {cap md : Int} (hc : 0 ≤ cap) (hm : 1 ≤ md) (u : W) : TS.Bd (cap + md) (vecW L cap md u) := fun x hx => by
  obtain ⟨c, _, rfl⟩ := List.mem_map.mp hx
  exact seen_in hc hm (by omega)
theorem vec_len (L : W) (cap md : Int) (u : W) : (vecW L cap md u).length = L.length := List.length_map _
/-- the key of counts and a state -/
def keyN (s n : Int) (v : List Int) (st : Int) : Int := TS.code s v * n + st
def unitsN (s n : Int) (k : Nat) : List Int := ([n, s * n, s * s * n].take k).reverse
def placesN (s : Int) (k : Nat) : List Int := [s * s, s, 1].drop (3 - k)
/-- a letter more: where the key goes -/
def nextN (s n md key unit after : Int) : Int := key - key % n + (if key / unit % s + 1 < s then unit else (1 - md) * unit) + after
theorem code1 (s x : Int) : TS.code s [x] = x := by
  show x * s ^ 0 + 0 = x
  rw [Int.pow_zero, Int.mul_one, Int.add_zero]
theorem code2 (s x y : Int) : TS.code s [x, y] = x * s + y := by
  show x * s ^ 1 + TS.code s [y] = _
  rw [code1, Int.pow_succ, Int.pow_zero, Int.one_mul]
theorem div_of {a q n r : Int} (h : a = q * n + r) (r0 : 0 ≤ r) (r1 : r < n) : a / n = q ∧ a % n = r := by
  subst h
  have hn : n ≠ 0 := by omega
  constructor
  · rw [Int.add_comm, Int.add_mul_ediv_right _ _ hn, Int.ediv_eq_zero_of_lt r0 r1, Int.zero_add]
  · rw [Int.add_comm, Int.add_mul_emod_self_right, Int.emod_eq_of_lt r0 r1]
theorem two_cases {v : List Int} {k : Nat} (hl : v.length = k) (h1 : 1 ≤ k) (h2 : k ≤ 2) : (k = 1 ∧ ∃ x, v = [x]) ∨ (k = 2 ∧ ∃ x y, v = [x, y]) := by
  match v, hl with
  | [], e => exact absurd e (by simp; omega)
  | [x], e => exact .inl ⟨e.symm, x, rfl⟩
  | [x, y], e => exact .inr ⟨e.symm, x, y, rfl⟩
  | x :: y :: z :: r, e =>
    have : r.length + 3 = k := e
    omega
section
variable {s n md cap : Int} {k : Nat} {v : List Int} {st : Int}
theorem key_div (b : TS.Bd s v) (h0 : 0 ≤ st) (h1 : st < n) : keyN s n v st / n = TS.code s v ∧ keyN s n v st % n = st := div_of rfl h0 h1
theorem code_in (b : TS.Bd s v) (hl : v.length = k) (k1 : 1 ≤ k) (k2 : k ≤ 2) : 0 ≤ TS.code s v ∧ TS.code s v < s * (if k = 1 then 1 else s) := by
  rcases two_cases hl k1 k2 with ⟨rfl, x, rfl⟩ | ⟨rfl, x, y, rfl⟩
  · have := b x (.head _)
    rw [code1, if_pos rfl]
    omega
  · have hx := b x (.head _)
    have hy := b y (.tail _ (.head _))
    rw [code2, if_neg (by decide)]
    have h1 : x * s + s ≤ s * s := by
      have : (x + 1) * s ≤ s * s := Int.mul_le_mul_of_nonneg_right (by omega) (by omega)
      rw [Int.add_mul, Int.one_mul] at this
      exact this
    have h2 : 0 ≤ x * s := Int.mul_nonneg (by omega) (by omega)
    omega
theorem head_units (s n : Int) (k1 : 1 ≤ k) (k2 : k ≤ 2) : ∃ r, unitsN s n k = (if k = 1 then n else s * n) :: r ∧ (unitsN s n k).length = k := by
  rcases (show k = 1 ∨ k = 2 by omega) with rfl | rfl
  · exact ⟨_, rfl, rfl⟩
  · exact ⟨_, rfl, rfl⟩
theorem key_in (b : TS.Bd s v) (hl : v.length = k) (k1 : 1 ≤ k) (k2 : k ≤ 2) (h0 : 0 ≤ st) (h1 : st < n) : 0 ≤ keyN s n v st ∧ keyN s n v st < s * (if k = 1 then n else s * n) := by
  obtain ⟨c0, c1⟩ := code_in b hl k1 k2
  have a1 : 0 ≤ TS.code s v * n := Int.mul_nonneg c0 (by omega)
  have a2 : TS.code s v * n + n ≤ s * (if k = 1 then 1 else s) * n := by
    have : (TS.code s v + 1) * n ≤ s * (if k = 1 then 1 else s) * n := Int.mul_le_mul_of_nonneg_right (by omega) (by omega)
    rw [Int.add_mul, Int.one_mul] at this
    exact this
  have a3 : s * (if k = 1 then n else s * n) = s * (if k = 1 then 1 else s) * n := by
    split
    · rw [Int.mul_one]
    · rw [Int.mul_assoc]
  unfold keyN
  rw [a3]
  omega
theorem next_key (b : TS.Bd s v) (hl : v.length = k) (k1 : 1 ≤ k) (k2 : k ≤ 2) (h0 : 0 ≤ st) (h1 : st < n) (hs : s = cap + md) (hc : 0 ≤ cap) (hm : 1 ≤ md) {i : Nat} (hi : i < k) {unit after : Int} (hu : (unitsN s n k)[i]? = some unit) :
    nextN s n md (keyN s n v st) unit after = keyN s n (v.set i (oneM cap md (v.getD i 0))) after := by
  have hmod := (key_div b h0 h1).2
  unfold nextN
  rw [hmod]
  have fin : ∀ (x : Int), 0 ≤ x → x < s → (if x + 1 < s then (1 : Int) else 1 - md) = oneM cap md x - x := fun x x0 x1 => by
    unfold oneM
    subst hs
    split
    · omega
    · omega
  have fac : ∀ (p : Prop) [Decidable p] (u : Int), (if p then u else (1 - md) * u) = (if p then 1 else 1 - md) * u := fun p _ u => by
    split
    · rw [Int.one_mul]
    · rfl
  rcases two_cases hl k1 k2 with ⟨rfl, x, rfl⟩ | ⟨rfl, x, y, rfl⟩
  · obtain rfl : i = 0 := by omega
    obtain rfl : n = unit := Option.some.inj hu
    have hx := b x (.head _)
    have e1 : keyN s n [x] st = x * n + st := by unfold keyN; rw [code1]
    have e2 := (div_of e1 h0 h1).1
    rw [e2, Int.emod_eq_of_lt hx.1 hx.2, fac, fin x hx.1 hx.2, e1]
    show _ = keyN s n [oneM cap md x] after
    unfold keyN
    rw [code1, Int.sub_mul]
    omega
  · have hx := b x (.head _)
    have hy := b y (.tail _ (.head _))
    have e1 : keyN s n [x, y] st = (x * s + y) * n + st := by unfold keyN; rw [code2]
    have e0 : (x * s + y) * n + st = x * (s * n) + (y * n + st) := by rw [Int.add_mul, Int.mul_assoc, Int.add_assoc]
    have lo : 0 ≤ y * n + st := by
      have : 0 ≤ y * n := Int.mul_nonneg hy.1 (by omega)
      omega
    have hi3 : y * n + st < s * n := by
      have : (y + 1) * n ≤ s * n := Int.mul_le_mul_of_nonneg_right (by omega) (by omega)
      rw [Int.add_mul, Int.one_mul] at this
      omega
    rcases (show i = 0 ∨ i = 1 by omega) with rfl | rfl
    · obtain rfl : s * n = unit := Option.some.inj hu
      have e2 := (div_of (e1.trans e0) lo hi3).1
      rw [e2, Int.emod_eq_of_lt hx.1 hx.2, fac, fin x hx.1 hx.2, e1]
      show _ = keyN s n [oneM cap md x, y] after
      unfold keyN
      rw [code2, Int.sub_mul, Int.add_mul, Int.add_mul, ← Int.mul_assoc, ← Int.mul_assoc]
      omega
    · obtain rfl : n = unit := Option.some.inj hu
      have e2 := (div_of e1 h0 h1).1
      have e3 : (x * s + y) % s = y := (div_of (a := x * s + y) rfl hy.1 hy.2).2
      rw [e2, e3, fac, fin y hy.1 hy.2, e1]
      show _ = keyN s n [x, oneM cap md y] after
      unfold keyN
      rw [code2, Int.sub_mul, Int.add_mul, Int.add_mul]
      omega
theorem places_back (b : TS.Bd s v) (hl : v.length = k) (k1 : 1 ≤ k) (k2 : k ≤ 2) : (placesN s k).map (fun p => TS.code s v / p % s) = v := by
  rcases two_cases hl k1 k2 with ⟨rfl, x, rfl⟩ | ⟨rfl, x, y, rfl⟩
  · have hx := b x (.head _)
    show [TS.code s [x] / 1 % s] = [x]
    rw [code1, Int.ediv_one, Int.emod_eq_of_lt hx.1 hx.2]
  · have hx := b x (.head _)
    have hy := b y (.tail _ (.head _))
    show [TS.code s [x, y] / s % s, TS.code s [x, y] / 1 % s] = [x, y]
    obtain ⟨d1, d2⟩ := div_of (code2 s x y) hy.1 hy.2
    rw [d1, Int.ediv_one, d2, Int.emod_eq_of_lt hx.1 hx.2]
theorem code_eq {v2 : List Int} (b : TS.Bd s v) (hl : v.length = k) (b2 : TS.Bd s v2) (hl2 : v2.length = k) (k1 : 1 ≤ k) (k2 : k ≤ 2) (e : TS.code s v = TS.code s v2) : v = v2 := by
  rw [← places_back b hl k1 k2, ← places_back b2 hl2 k1 k2, e]
end
/-- one letter more, as the box counts it -/
theorem cnt_set {L : W} {cap md : Int} (nd : L.Nodup) (v : List Int) (hv : v.length = L.length) {i : Nat} (hi : i < L.length) : cntF L cap md v L[i] = v.set i (oneM cap md (v.getD i 0)) := by
  refine List.ext_getElem? fun j => ?_
  unfold cntF
  rw [List.getElem?_map, List.getElem?_set]
  by_cases hj : j < L.length
  · have hz : (L.zip v)[j]? = some (L[j], v[j]'(by omega)) := by
      rw [List.getElem?_eq_getElem (by rw [List.length_zip]; omega), List.getElem_zip]
    rw [hz]
    show some (if L[j] = L[i] then oneM cap md (v[j]'(by omega)) else v[j]'(by omega)) = _
    by_cases e : i = j
    · subst e
      rw [if_pos rfl, if_pos rfl, if_pos (by omega), List.getD_eq_getElem?_getD, List.getElem?_eq_getElem (by omega)] <;> rfl
    · rw [if_neg e, if_neg fun z => e ((List.getElem_inj nd).mp z).symm, List.getElem?_eq_getElem (by omega)]
  · rw [List.getElem?_eq_none (by rw [List.length_zip]; omega)]
    by_cases e : i = j
    · omega
    · rw [if_neg e, List.getElem?_eq_none (by omega)] <;> rfl
end WK
set_option Elab.async false
set_option linter.all false
set_option maxRecDepth 100000
set_option maxHeartbeats 8000000
namespace WK
open PySem L2 PyProof.Rows LCX
open PySem.W (Frag kitOne)
abbrev sMInit : Stmt := inClass (top 43) 0
def plainTys : List String := ["tuple", "list", "str", "NoneType", "int", "bool"]
theorem NT.ty2 {K : Frag} {H : Hp} {v : V} (h : NT H v) : ∃ t, t ∈ plainTys ∧ TyX K H v (.type t) ∧ kitOne K (.type t) (.type "tuple") = some false := by
  rcases h with ⟨x, rfl⟩ | rfl | ⟨i, rfl⟩ | ⟨b, rfl⟩ | ⟨a, xs, rfl, q⟩
  · exact ⟨_, by decide, .base (.str _), kit_ty (by decide +kernel)⟩
  · exact ⟨_, by decide, .base .non, kit_ty (by decide +kernel)⟩
  · exact ⟨_, by decide, .base (.int _), kit_ty (by decide +kernel)⟩
  · exact ⟨_, by decide, .base (.bl _), kit_ty (by decide +kernel)⟩
  · exact ⟨_, by decide, .base (.lst q), kit_ty (by decide +kernel)⟩
/-- the class Machine at C, the class Made at cD, the error at cM -/
structure TMc (K : Frag) (mg : Str → Option Value) (C cD cM : Addr) : Prop where
  cl : Cls K C
  nT : NoAttr K C "_table"
  nL : NoAttr K C "_letters"
  nE : NoAttr K C "_ends"
  gC : mg "Machine" = some (.ref C)
  gD : mg "Made" = some (.ref cD)
  iD : ∀ t ∈ plainTys, kitOne K (.type t) (.ref cD) = some false
  gM : mg "InvalidMachine" = some (.ref cM)
  xM : PySem.W.excIn K cM [.type "ValueError", .type "Exception", .type "BaseException", .type "object"] "ValueError.__new__" = true
  kM : PySem.W.keepIn K (.ref cM) = true
  bM : PySem.W.subIn K (.ref cM) (.type "BaseException") = some true
  tM : PySem.W.typeIn K (.ref cM) = some (.type "type")
  most : ∃ t, mg "MAX_STATES" = some (.int 4 t)
/-- its fields -/
def mfl (lt tb en : V) : List (Str × V) := [("_table", tb), ("_letters", lt), ("_ends", en)]
/-- what is handed in: letters (none: no text), a table (none: no tuple), ends (none: no tuple) -/
def LetV (v : V) : Option Str → Prop
  | some x => v = .str x ∧ x.length ≤ 1000
  | none => v = .non
def TabV (K : Frag) (H : Hp) (v : V) : Option (List (Option (List V))) → Prop
  | some rs => ∃ a xs, v = .ref a ∧ SqT K H a xs ∧ xs.length ≤ 100 ∧ Rows K H xs rs
  | none => NT H v
def letO : Option Str → Bool
  | some x => letB x
  | none => false
def tabO (wd : Int) : Option (List (Option (List V))) → Bool
  | some rs => tabB rs wd 4
  | none => false
def ascO (m : Int) : Option (List V) → Bool
  | some xs => ascV xs m
  | none => false
def lenO {α : Type} : Option (List α) → Int
  | some l => l.length
  | none => 0
def lenX : Option Str → Int
  | some x => x.length
  | none => 0
def madeB (lt : Option Str) (tb : Option (List (Option (List V)))) (en : Option (List V)) : Bool := letO lt && tabO (lenX lt) tb && ascO (lenO tb) en
def spMInit (K : Frag) (C cM : Addr) : Sp := fun vs H Q E => ∃ p dx l t e lt tb en, vs = [.ref p, l, t, e] ∧ H p = some (.ins C dx []) ∧ LetV l lt ∧ TabV K H t tb ∧ RowV K H e en ∧
  ((madeB lt tb en = true ∧ ∀ H', H' p = some (.ins C dx (mfl l t e)) → (∀ b o, H b = some o → b ≠ p → H' b = some o) → Q .non H') ∨ (madeB lt tb en = false ∧ ∀ H', (∀ b o, H b = some o → b ≠ p → H' b = some o) → E (.ref cM) none H'))
theorem put2 (l t : V) : putF "_letters" l (putF "_table" t []) = ([("_table", t), ("_letters", l)] : List (Str × V)) := by
  show (if ("_table" : Str) = "_letters" then [(("_table" : Str), l)] else (("_table" : Str), t) :: putF "_letters" l []) = ([("_table", t), ("_letters", l)] : List (Str × V))
  rw [if_neg (by decide +kernel)]
  all_goals rfl
theorem put3 (l t e : V) : putF "_ends" e ([("_table", t), ("_letters", l)] : List (Str × V)) = mfl l t e := by
  show (if ("_table" : Str) = "_ends" then [(("_table" : Str), e), ("_letters", l)] else (("_table" : Str), t) :: (if ("_letters" : Str) = "_ends" then [(("_letters" : Str), e)] else (("_letters" : Str), l) :: putF "_ends" e [])) = mfl l t e
  rw [if_neg (by decide +kernel), if_neg (by decide +kernel)]
  all_goals rfl
theorem made_s (x : Str) (tb : Option (List (Option (List V)))) (en : Option (List V)) : madeB (some x) tb en = (letB x && tabO x.length tb && ascO (lenO tb) en) := rfl
theorem made_t (x : Str) (rs : List (Option (List V))) (en : Option (List V)) : madeB (some x) (some rs) en = (letB x && tabB rs x.length 4 && ascO rs.length en) := rfl
theorem sq_ins {K : Frag} {H : Hp} {a p C dx : Addr} {xs : List V} {fs : List (Str × V)} {o : HO} (h : SqT K H a xs) (hp : H p = some (.ins C dx fs)) : SqT K (upd H p o) a xs := by
  rcases h with h | h
  · rcases h with h | ⟨ob, h⟩
    · exact .inl (.inl (by rw [upd_ne (ne_of h hp (fun z => nomatch z))]; exact h))
    · exact .inl (.inr ⟨ob, by rw [upd_ne (ne_of h hp (fun z => nomatch z))]; exact h⟩)
  · exact .inr h
theorem NT.ins {H : Hp} {v : V} {p C dx : Addr} {fs : List (Str × V)} {o : HO} (h : NT H v) (hp : H p = some (.ins C dx fs)) : NT (upd H p o) v := by
  rcases h with h | h | h | h | ⟨a, xs, h, q⟩
  · exact .inl h
  · exact .inr (.inl h)
  · exact .inr (.inr (.inl h))
  · exact .inr (.inr (.inr (.inl h)))
  · exact .inr (.inr (.inr (.inr ⟨a, xs, h, by rw [upd_ne (ne_of q hp (fun z => nomatch z))]; exact q⟩)))
theorem RowV.ins {K : Frag} {H : Hp} {v : V} {r : Option (List V)} {p C dx : Addr} {fs : List (Str × V)} {o : HO} (h : RowV K H v r) (hp : H p = some (.ins C dx fs)) : RowV K (upd H p o) v r := by
  cases r with
  | none => exact NT.ins h hp
  | some xs =>
    obtain ⟨a, e, t, l, q⟩ := h
    exact ⟨a, e, sq_ins t hp, l, q⟩
section
variable {P : Program} {w : World} {K : PySem.W.Frag} {mg : Str → Option Value} {base : Heap} {C cD cM fL fT fA : Addr} {dL dT dA : FuncData}
theorem scMI : FnScope ["self", "letters", "table", "ends"] ["self", "letters", "table", "ends"] (defScope sMInit) := ⟨rfl, rfl, rfl, by decide +kernel, rfl, by decide +kernel, by decide +kernel⟩
theorem ok_minit {f : Addr} {oc kV dc pm ct cd dV : Value} {an od : Option Addr} {sl : Array (Option Value)} (lk : K.lookup f = some ⟨oc, od, .func (PySem.W.fnOf "__init__" "Machine.__init__" (defArgs sMInit) (defBody sMInit) (defScope sMInit) dV kV dc pm an cd ct), sl⟩) (hcd : PySem.W.codeIn K cd "Machine.__init__" = true)
    (T : TN mg) (M : TMc K mg C cD cM) (AL : Fn K mg "is_letters" sIsLet ["value"] fL dL) (GL : FnOk P w K mg base CX0 2 fL dL ["value"] (spIsLet K)) (AT : Fn K mg "is_table" sIsTab ["value", "width", "most"] fT dT) (GT : FnOk P w K mg base CX0 4 fT dT ["value", "width", "most"] (spTab K))
    (AA : Fn K mg "is_ascending" sIsAsc ["value", "many"] fA dA) (GA : FnOk P w K mg base CX0 3 fA dA ["value", "many"] (spIsAsc K)) :
    FnOk P w K mg base (L2.CX P w) 5 f (PySem.W.fnOf "__init__" "Machine.__init__" (defArgs sMInit) (defBody sMInit) (defScope sMInit) dV kV dc pm an cd ct) ["self", "letters", "table", "ends"] (spMInit K C cM) := by
  obtain ⟨tm, most⟩ := M.most
  refine fn_of lk hcd scMI (fun vs H Q E h => ?_) (fun A outer s H vs Q E hr h => ?_)
  · obtain ⟨p, dx, l, t, e, _, _, _, rfl, _⟩ := h
    rfl
  · obtain ⟨p, dx, l, t, e, lt, tb, en, rfl, hp, hl, ht, he, q⟩ := h
    have hr3 : Room 3 _ := hr.mono (by decide)
    have hr2 : Room 2 _ := hr.mono (by decide)
    refine ⟨_, pss_cons (ps_if (pt_not (pt_val (pe_call GL hr2 rfl AL.g AL.F.kp AL.b .nil pass0 (pa_cons (pv 1) pa_nil)))) (pss_one (ps_raise rfl (takes_of rfl rfl rfl rfl) (pmk_own PySem.F.excBase_ValueError M.xM M.gM M.kM (raises_own M.bM M.tM) rfl))) pss_nil)
      (pss_cons (ps_if (pt_val (pe_callB call_isi (by rfl) T.isi (by decide +kernel) (pa_cons (pv 2) (pa_cons (pe_glob rfl M.gD (show RelV (.ref cD) (.ref cD) from rfl)) pa_nil)))) (pss_one (ps_fld (pv 0) (pe_fld (pv 2) rfl) rfl))
        (pss_one (ps_if (pt_val (pe_call GT hr rfl AT.g AT.F.kp AT.b .nil pass0 (pa_cons (pv 2) (pa_cons (pe_callB call_len_str (by rfl) T.len PySem.boot_len (pa_cons (pv 1) pa_nil)) (pa_cons (pe_glob rfl most (show RelV (.int 4) (.int 4 tm) from ⟨tm, rfl⟩)) pa_nil)))))
          (pss_one (ps_fld (pv 0) (pv 2) rfl)) (pss_one (ps_raise rfl (takes_of rfl rfl rfl rfl) (pmk_own PySem.F.excBase_ValueError M.xM M.gM M.kM (raises_own M.bM M.tM) rfl))))))
      (pss_cons (ps_if (pt_not (pt_val (pe_call GA hr3 rfl AA.g AA.F.kp AA.b .nil pass0 (pa_cons (pv 3) (pa_cons (pe_callB call_len_seq (by rfl) T.len PySem.boot_len (pa_cons (pe_fld (pv 0) rfl) pa_nil)) pa_nil))))) (pss_one (ps_raise rfl (takes_of rfl rfl rfl rfl) (pmk_own PySem.F.excBase_ValueError M.xM M.gM M.kM (raises_own M.bM M.tM) rfl))) pss_nil)
      (pss_cons (ps_fld (pv 0) (pv 1) rfl) (pss_one (ps_fld (pv 0) (pv 3) rfl))))), ?_⟩
    have qT : madeB lt tb en = true → ∀ H', H' p = some (.ins C dx (mfl l t e)) → (∀ b o, H b = some o → b ≠ p → H' b = some o) → Q .non H' := fun h => q.elim (·.2) fun z => absurd (h.symm.trans z.1) (fun y => nomatch y)
    have qF : madeB lt tb en = false → ∀ H', (∀ b o, H b = some o → b ≠ p → H' b = some o) → E (.ref cM) none H' := fun h => q.elim (fun z => absurd (z.1.symm.trans h) (fun y => nomatch y)) (·.2)
    clear q
    cases lt with
    | none =>
      obtain rfl : l = .non := hl
      exact ⟨_, rfl, _, rfl, .inr ⟨⟨"NoneType", .base .non, kit_ty (by decide +kernel)⟩, _, rfl, qF rfl _ fun b o z _ => z⟩⟩
    | some x =>
      obtain ⟨rfl, hx⟩ := hl
      refine ⟨_, rfl, _, rfl, .inl ⟨x, rfl, hx, fun H1 s1 => ⟨_, rfl, ?_⟩⟩⟩
      cases e1 : letB x with
      | false => exact qF (by rw [made_s, e1] <;> rfl) _ fun b o z _ => s1 _ _ z
      | true =>
        have hz : x.length ≤ sizeLine := by rw [sizeLine_eq]; omega
        cases tb with
        | none =>
          obtain ⟨ty, ht1, ht2, ht3⟩ := NT.ty2 (K := K) (NT.ext (show NT H t from ht) s1)
          refine ⟨_, rfl, _, _, _, _, false, rfl, .own cD, ht2, M.iD ty ht1, false, rfl, ?_⟩
          refine ⟨_, rfl, _, rfl, _, rfl, hz, t, _, _, rfl, .inr ⟨NT.ext (show NT H t from ht) s1, _, rfl, ?_⟩⟩
          exact qF (by rw [made_s, show tabO x.length none = false from rfl, Bool.and_false] <;> rfl) _ fun b o z _ => s1 _ _ z
        | some rs =>
          obtain ⟨a, xs, rfl, hT, hxl, hR⟩ := ht
          refine ⟨_, rfl, _, _, _, _, false, rfl, .own cD, tyT (seqT s1 hT), M.iD _ (by decide), false, rfl, ?_⟩
          refine ⟨_, rfl, _, rfl, _, rfl, hz, .ref a, _, _, rfl, .inl ⟨a, xs, rs, rfl, seqT s1 hT, hxl, hR.ext s1, fun H2 s2 => ⟨_, rfl, ?_⟩⟩⟩
          have s02 : Same H H2 := s1.trans s2
          cases e2 : tabB rs x.length 4 with
          | false => exact qF (by rw [made_t, e2, Bool.and_false] <;> rfl) _ fun b o z _ => s02 _ _ z
          | true =>
            have hp2 : H2 p = some (.ins C dx []) := s02 _ _ hp
            refine ⟨_, rfl, _, rfl, p, C, dx, [], rfl, hp2, M.cl, M.nT, (by decide), ?_⟩
            refine ⟨_, rfl, _, rfl, p, C, dx, _, _, rfl, upd_same, M.cl, M.nT, rfl, a, xs, rfl, .inr (sq_ins (seqT s02 hT) hp2), ?_⟩
            have hN : ∀ H3, Same (upd H2 p (.ins C dx (putF "_table" (V.ref a) []))) H3 → ∀ b o, H b = some o → b ≠ p → H3 b = some o := fun H3 s3 b o z n => s3 _ _ (by rw [upd_ne n]; exact s02 _ _ z)
            have he2 : RowV K (upd H2 p (.ins C dx (putF "_table" (V.ref a) []))) e en := (RowV.ext he s02).ins hp2
            have hlen : xs.length = rs.length := hR.len
            have hp3 : (upd H2 p (.ins C dx (putF "_table" (V.ref a) []))) p = some (.ins C dx (putF "_table" (V.ref a) [])) := upd_same
            cases en with
            | none => exact ⟨e, _, rfl, .inr ⟨he2, _, rfl, qF (by rw [made_t, show ascO rs.length none = false from rfl, Bool.and_false]) _ (hN _ (Same.refl _))⟩⟩
            | some ys =>
              obtain ⟨b, rfl, hE, hyl, hyn⟩ := he2
              refine ⟨_, _, rfl, .inl ⟨b, ys, rfl, hE, hyl, hyn, fun H3 s3 => ⟨_, rfl, ?_⟩⟩⟩
              rw [hlen]
              cases e3 : ascV ys (rs.length : Int) with
              | false => exact qF (by rw [made_t, show ascO rs.length (some ys) = ascV ys rs.length from rfl, e3, Bool.and_false]) _ (hN _ s3)
              | true =>
                refine ⟨_, rfl, _, rfl, p, C, dx, _, rfl, s3 _ _ hp3, M.cl, M.nL, (by show 1 < 1000; decide), ?_⟩
                refine ⟨_, rfl, _, rfl, p, C, dx, _, rfl, upd_same, M.cl, M.nE, (by rw [put2]; show 2 < 1000; decide), ?_⟩
                refine qT (by rw [made_t, show ascO rs.length (some ys) = ascV ys rs.length from rfl, e1, e2, e3] <;> rfl) _ (by rw [upd_same, put2, put3]) fun c o z n => ?_
                rw [upd_ne n, upd_ne n]
                exact hN _ s3 c o z n
end
end WK
set_option Elab.async false
set_option linter.all false
set_option maxRecDepth 100000
set_option maxHeartbeats 8000000
namespace WK
open PySem L2 PyProof.Rows LCX K1
open TX (sg sigs)
open PySem.W (Frag kitOne)
abbrev kL : Key := Sum.inr "letters"
abbrev kTb : Key := Sum.inr "table"
abbrev kE : Key := Sum.inr "ends"
/-- a plain machine's dict -/
def pkv (L : W) (lt le : Addr) : List (Key × V) := [(kL, .str (tx L)), (kTb, .ref lt), (kE, .ref le)]
/-- ascending numbers from 0 to n -/
def Asc (n : Int) (es : List Int) : Prop := Bel n es ∧ es.Pairwise (· < ·)
structure PlainM (H : Hp) (m : Addr) (L : W) (tb : List (List Int)) (es : List Int) : Prop where
  ex : ∃ lt le, H m = some (.dK (pkv L lt le)) ∧ PTab H lt tb ∧ H le = some (.lst (es.map V.int))
structure MacOk (L : W) (tb : List (List Int)) (es : List Int) (n : Int) : Prop where
  tab : TabOk tb L.length n
  asc : Asc n es
  one : 1 ≤ n
/-- a plain machine's lists are not at p -/
def OffP (H : Hp) (m p : Addr) (L : W) : Prop := ∀ lt l, H m = some (.dK (pkv L lt l)) → lt ≠ p ∧ l ≠ p
theorem pkv_inj {L : W} {a b c d : Addr} (h : pkv L a b = pkv L c d) : a = c ∧ b = d := by
  injection h with _ h
  injection h with h1 h
  injection h with h2 _
  injection h1 with _ h1
  injection h2 with _ h2
  injection h1 with h1
  injection h2 with h2
  exact ⟨h1, h2⟩
def spLMac : Sp := fun vs H Q _ => ∃ (p : Addr) (L : W) (n : Int), vs = [.ref p, .str (tx L), .int n] ∧ DiceAt H p ∧ L ≠ [] ∧ L.length ≤ 26 ∧ 1 ≤ n ∧ n ≤ 50 ∧
  ∀ (m : Addr) (tb : List (List Int)) (es : List Int) (z : Int) (H' : Hp), H m = none → m ≠ p → DiceAt H' p → But p H H' → PlainM H' m L tb es → OffP H' m p L → MacOk L tb es z → z ≤ n → Q (.ref m) H'
abbrev NMa : List Str := ["_law_dice_here", "_law_letters_here", "_law_states", "_law_size", "_law_table_here", "_law_ends", "_law_state"]
theorem PTab.same {H H' : Hp} {l : Addr} {tb : List (List Int)} (h : PTab H l tb) (s : Same H H') : PTab H' l tb := by
  obtain ⟨as, h1, h2⟩ := h
  exact ⟨as, s _ _ h1, h2.to fun a _ r e => s _ _ e⟩
theorem merge3 (a b c : V) : mergeK [] ([(kL, a), (kTb, b), (kE, c)] : List (Key × V)) = [(kL, a), (kTb, b), (kE, c)] := by
  have h1 : decide ((kL : Key) = kTb) = false := by decide +kernel
  have h2 : decide ((kL : Key) = kE) = false := by decide +kernel
  have h3 : decide ((kTb : Key) = kE) = false := by decide +kernel
  show putK (putK (putK [] kL a) kTb b) kE c = _
  have e1 : putK ([] : List (Key × V)) kL a = [(kL, a)] := rfl
  have e2 : putK [(kL, a)] kTb b = [(kL, a), (kTb, b)] := by
    unfold putK
    rw [List.any_cons, h1]
    rfl
  have e3 : putK [(kL, a), (kTb, b)] kE c = [(kL, a), (kTb, b), (kE, c)] := by
    unfold putK
    rw [List.any_cons, List.any_cons, h2, h3]
    rfl
  rw [e1, e2, e3]
section
variable {P : Program} {w : World} {K : PySem.W.Frag} {mg : Str → Option Value} {base : Heap} {fR fO fA fT : Addr} {dR dO dA dT : FuncData}
theorem scMa : FnScope NMa ["_law_dice_here", "_law_letters_here", "_law_states"] (defScope sLMac) := ⟨rfl, rfl, rfl, by decide +kernel, rfl, by decide +kernel, by decide +kernel⟩
theorem ok_lmac {f : Addr} {fd : FuncData} (F : Fun K "_law_machine" "_law_machine" sLMac f fd) (T : TN mg) (AR : Fn K mg "_law_roll" sRoll ["_law_dice_here", "_law_total"] fR dR) (AT : Fn K mg "_law_table" sLTab ["_law_dice_here", "_law_letters_here", "_law_size", "_law_sorts"] fT dT)
    (GT : FnOk P w K mg base CX0 3 fT dT ["_law_dice_here", "_law_letters_here", "_law_size", "_law_sorts"] spLTab) : FnOk P w K mg base CX0 4 f fd ["_law_dice_here", "_law_letters_here", "_law_states"] spLMac := by
  have GR : FnOk P w K mg base CX0 1 fR dR ["_law_dice_here", "_law_total"] spRoll := ok_roll AR.F T.dice
  refine F.ok scMa (fun vs H Q E h => ?_) (fun cdv A outer s H vs Q E hr h => ?_)
  · obtain ⟨p, L, n, rfl, _⟩ := h
    rfl
  · obtain ⟨p, L, n, rfl, hD, hL, hL2, h1, h50, k⟩ := h
    have hr1 : Room 1 _ := hr.mono (by decide)
    refine ⟨_, pss_cons (ps_set (i := 3) scMa.nd rfl (Or.inl rfl) (pe_op op_add pe_int (pe_call GR hr1 rfl AR.g AR.F.kp AR.b .nil pass0 (pa_cons (pv 0) (pa_cons (pv 2) pa_nil)))))
      (pss_cons (ps_set (i := 4) scMa.nd rfl (Or.inl rfl) (pe_call GT hr rfl AT.g AT.F.kp AT.b .nil pass0 (pa_cons (pv 0) (pa_cons (pv 1) (pa_cons (pv 3) (pa_cons (pe_lst (pa_cons pe_int (pa_cons pe_int (pa_cons pe_int (pa_cons pe_int (pa_cons pe_int (pa_cons pe_int (pa_cons pe_int (pa_cons pe_int pa_nil))))))))) pa_nil))))))
      (pss_cons (ps_setLc (i := 5) (own := [("_law_state", 6)]) (g := gName 6) (tt := tTest (tOp rEq (tCall spRoll [] E0 (tCons (tVar 0) (tCons (tC (.int 2)) tNil))) (tC (.int 0)))) rfl scMa.nd rfl rfl (sw_true rfl rfl rfl (by decide +kernel)) (pi_range1 rfl T.rng (pa_cons (pv 3) pa_nil))
        (blkOk_by (own := [("_law_state", 6)]) (N := NMa) (sc := defScope sLMac) (by decide +kernel)) (fun _ _ _ _ _ => pg_name (i := 6) scMa.nd rfl (Or.inl rfl))
        (fun _ _ _ _ _ => pts_one (pt_cmpR op_eq (pe_call GR hr1 rfl AR.g AR.F.kp AR.b .nil pass0 (pa_cons (pv 0) (pa_cons pe_int pa_nil))) pe_int (nomark _))) (fun _ _ _ _ _ => pv 6))
      (pss_one (ps_ret (pe_disp (pps_cons pe_str (pv 1) (pps_cons pe_str (pv 4) (pps_cons pe_str (pv 5) pps_nil))) (by rfl) (by rfl) (fun z => by cases z) (by decide)))))), ?_⟩
    refine ⟨_, rfl, _, rfl, p, _, rfl, hD, by omega, by omega, fun r H1 r0 r1 hD1 hB1 => ⟨_, _, rfl, rfl, ?_⟩⟩
    refine ⟨_, rfl, _, rfl, _, rfl, by decide, fun q hq => ?_⟩
    refine ⟨p, q, L, 1 + r, [0, 1, 2, 3, 3, 4, 5, 6], rfl, hD1.new hq, hL, hL2, by omega, by omega, hD1.ne hq, upd_same, by decide, by decide, fun lt tb H3 hl lp hD3 hB3 ht tok => ?_⟩
    refine ⟨_, rfl, _, rfl, by omega, by omega, fun D hD4 => ?_⟩
    have Dp := hD3.ne hD4
    refine lc_range (lo := 0) (n := (1 + r).toNat) (fun i H4 => DiceAt H4 p ∧ But p H3 H4 ∧ ∃ es : List Int, es.length ≤ i ∧ H4 D = some (.lst (es.map V.int)) ∧ Asc i es) ⟨hD3.new hD4, but_two (But.refl p H3) hD4, [], Nat.le_refl _, upd_same, fun e he => (nomatch he), List.Pairwise.nil⟩ ?_ ?_
    · rintro i H4 hi ⟨hD4', hB4, es, hl4, hd, ha⟩
      refine ⟨rfl, _, rfl, p, _, rfl, hD4', by decide, by decide, fun c H5 c0 c1 hD5 hB5 => ⟨rfl, _, rfl, ?_⟩⟩
      have hd5 := hB5 _ _ hd Dp
      refine ite2 (fun _ => ?_) (fun _ => ?_)
      · refine ⟨_, rfl, _, hd5, by rw [List.length_map, sizeLine_eq]; omega, hD5.keep fun o e => by rw [upd_ne (Ne.symm Dp)]; exact e, but_at (hB4.trans hB5) hD4, es ++ [0 + (i : Int)], by rw [List.length_append, List.length_singleton]; omega, by rw [upd_same, List.map_append] <;> rfl, fun e he => ?_, ?_⟩
        · rcases List.mem_append.mp he with z | z
          · have := ha.1 e z
            omega
          · rw [List.mem_singleton.mp z]
            omega
        · refine List.pairwise_append.mpr ⟨ha.2, List.pairwise_singleton _ _, fun x hx y hy => ?_⟩
          rw [List.mem_singleton.mp hy]
          have := ha.1 x hx
          omega
      · exact ⟨hD5, hB4.trans hB5, es, by omega, hd5, fun e he => by have := ha.1 e he; omega, ha.2⟩
    · rintro H4 ⟨hD4', hB4, es, hl4, hd, ha⟩
      refine fun m hm => ⟨_, rfl, _, rfl, _, rfl, upd_same, pkv L lt D, rfl, (by show 3 ≤ 15; decide), ?_⟩
      have Dm : D ≠ m := ne_of_none hd hm
      have ht4 : PTab H4 lt tb := ht.but lp hD3 hB4
      have hBm : But p H (upd (upd H4 m (.dK [])) m (.dK (mergeK [] (pkv L lt D)))) := by
        rw [upd_upd]
        exact but_two (((hB1.trans (but_two (But.refl _ _) hq)).trans hB3).trans hB4) hm
      have nm : H m = none := but_free (((hB1.trans (but_two (But.refl _ _) hq)).trans hB3).trans hB4) hm (hD4'.ne hm)
      refine k m tb es (1 + r) _ nm (hD4'.ne hm) (by rw [upd_upd]; exact hD4'.new hm) hBm ⟨lt, D, ?_, ?_, ?_⟩ (fun a b e => ?_) ⟨tok, ⟨fun e he => by have := ha.1 e he; omega, ha.2⟩, by omega⟩ (by omega)
      · rw [upd_same, pkv, merge3]
      · rw [upd_upd]
        exact ht4.same (same_upd hm)
      · rw [upd_upd, upd_ne Dm]
        exact hd
      · rw [upd_same, pkv, merge3] at e
        injection e with e
        injection e with e
        obtain ⟨rfl, rfl⟩ := pkv_inj (L := L) e
        exact ⟨lp, Dp⟩
end
end WK
set_option Elab.async false
set_option linter.all false
set_option maxRecDepth 100000
set_option maxHeartbeats 8000000
namespace WK
open PySem L2 PyProof.Rows LCX K1
open TX (sg sigs)
open PySem.W (Frag kitOne)
abbrev sMade : Stmt := top 88
theorem no_pass {P : Program} {w : World} {X : Cx} : Passes (L2.CX P w) X (fun _ _ _ => False) := fun _ _ _ _ _ _ _ hc => by
  obtain ⟨a, B, H', cls, d, z1, fl, z2, ub, z3, z4, z5, z6⟩ := hc
  exact z6.elim
theorem numB_in {i m : Int} (h : 0 ≤ i ∧ i < m) : numB (.int i) 0 (m - 1) = true := by
  show (decide (0 ≤ i) && decide (i ≤ m - 1)) = true
  rw [decide_eq_true h.1, decide_eq_true (by omega)]
  rfl
theorem nums_in {is : List Int} {m : Int} (h : Bel m is) : ((is.map V.int).map fun x => numB x 0 (m - 1)).all id = true := by
  rw [List.map_map, List.all_eq_true]
  intro b hb
  obtain ⟨i, hi, rfl⟩ := List.mem_map.mp hb
  exact numB_in (h i hi)
theorem int_of (is : List Int) : (is.map V.int).map intOf = is := by
  rw [List.map_map]
  exact (List.map_congr_left fun _ _ => rfl).trans (List.map_id is)
theorem ascV_in {es : List Int} {n : Int} (h : Asc n es) : ascV (es.map V.int) n = true := by
  unfold ascV
  rw [nums_in h.1, int_of]
  exact decide_eq_true h.2
theorem rowB_in {r : List Int} {wd : Nat} {m : Int} (h1 : r.length = wd) (h2 : Bel m r) : rowB (r.map V.int) wd m = true := by
  unfold rowB
  rw [nums_in h2, decide_eq_true (by rw [List.length_map, h1])]
  rfl
abbrev rsOf (tb : List (List Int)) : List (Option (List V)) := tb.map fun r => some (r.map V.int)
theorem tabB_in {tb : List (List Int)} {wd : Nat} {n most : Int} (h : TabOk tb wd n) (h1 : 1 ≤ n) (h2 : n ≤ most) : tabB (rsOf tb) wd most = true := by
  have e : ((rsOf tb).length : Int) = n := by rw [List.length_map]; exact h.len
  unfold tabB
  rw [e, decide_eq_true h1, decide_eq_true h2]
  show ((rsOf tb).map _).all id = true
  rw [List.map_map, List.all_eq_true]
  intro b hb
  obtain ⟨r, hr, rfl⟩ := List.mem_map.mp hb
  exact rowB_in (h.row r hr).1 (h.row r hr).2
theorem rows_of {K : Frag} {H : Hp} {wd : Nat} (hw : wd ≤ 100) : ∀ {ts : List Addr} {tb : List (List Int)}, Objs oTup H ts tb → (∀ r ∈ tb, r.length = wd) → Rows K H (ts.map V.ref) (rsOf tb)
  | [], [], _, _ => trivial
  | t :: ts, r :: tb, h, k => ⟨⟨t, rfl, SqT.of h.1, by rw [List.length_map, k r (.head _)]; exact hw, fun x hx => by obtain ⟨i, _, rfl⟩ := List.mem_map.mp hx; exact .inl ⟨i, rfl⟩⟩, rows_of hw h.2 fun r hr => k r (.tail _ hr)⟩
  | [], _ :: _, h, _ => h.elim
  | _ :: _, [], h, _ => h.elim
theorem asc_from {n : Int} : ∀ (es : List Int) (a : Int), a ≤ n → (∀ i ∈ es, a ≤ i ∧ i < n) → es.Pairwise (· < ·) → (es.length : Int) ≤ n - a
  | [], _, h, _, _ => by
    show (0 : Int) ≤ _
    omega
  | e :: es, a, _, hb, hp => by
    obtain ⟨h1, h2⟩ := List.pairwise_cons.mp hp
    have he := hb e (.head _)
    have := asc_from es (e + 1) (by omega) (fun i hi => ⟨h1 i hi, (hb i (.tail _ hi)).2⟩) h2
    rw [List.length_cons]
    omega
theorem asc_len {n : Int} {es : List Int} (h : Asc n es) (h0 : 0 ≤ n) : (es.length : Int) ≤ n := by
  have := asc_from es 0 h0 h.1 h.2
  omega
/-- a machine stands at o -/
structure MacAt (C : Addr) (H : Hp) (o : Addr) (L : W) (tb : List (List Int)) (es : List Int) : Prop where
  ex : ∃ (dx t e : Addr) (ts : List Addr), H o = some (.ins C dx (mfl (.str (tx L)) (.ref t) (.ref e))) ∧ H t = some (.tup (ts.map V.ref)) ∧ Objs oTup H ts tb ∧ H e = some (.tup (es.map V.int))
theorem MacAt.same {C : Addr} {H H' : Hp} {o : Addr} {L : W} {tb : List (List Int)} {es : List Int} (h : MacAt C H o L tb es) (s : Same H H') : MacAt C H' o L tb es := by
  obtain ⟨dx, t, e, ts, h1, h2, h3, h4⟩ := h.ex
  exact ⟨dx, t, e, ts, s _ _ h1, s _ _ h2, h3.to fun a _ r z => s _ _ z, s _ _ h4⟩
def spMade (C : Addr) : Sp := fun vs H Q _ => ∃ (m : Addr) (L : W) (tb : List (List Int)) (es : List Int) (n : Int), vs = [.ref m] ∧ PlainM H m L tb es ∧ MacOk L tb es n ∧ n ≤ 4 ∧ Let L ∧ ∀ (o : Addr) (H' : Hp), H o = none → Same H H' → MacAt C H' o L tb es → Q (.ref o) H'
theorem pkv_L (L : W) (lt le : Addr) : valV (pkv L lt le) kL = some (.str (tx L)) := rfl
theorem val_skip {k1 k : Key} {v : V} {r : List (Key × V)} (h : decide (k1 = k) = false) : valV ((k1, v) :: r) k = valV r k := by
  unfold valV
  rw [List.find?_cons, show decide ((k1, v).1 = k) = false from h]
theorem pkv_T (L : W) (lt le : Addr) : valV (pkv L lt le) kTb = some (.ref lt) := (val_skip (by decide +kernel)).trans rfl
theorem pkv_E (L : W) (lt le : Addr) : valV (pkv L lt le) kE = some (.ref le) := (val_skip (by decide +kernel)).trans ((val_skip (by decide +kernel)).trans rfl)
section
variable {P : Program} {w : World} {K : PySem.W.Frag} {mg : Str → Option Value} {base : Heap} {C cD cM fI : Addr} {dI : FuncData}
theorem scMd : FnScope ["_law_plain"] ["_law_plain"] (defScope sMade) := ⟨rfl, rfl, rfl, by decide +kernel, rfl, by decide +kernel, by decide +kernel⟩
theorem ok_made {f : Addr} {fd : FuncData} (F : Fun K "_law_made_machine" "_law_made_machine" sMade f fd) (T : TN mg) (M : TMc K mg C cD cM) (MI : Mk K C fI) (GI : FnOk P w K mg base (L2.CX P w) 5 fI dI ["self", "letters", "table", "ends"] (spMInit K C cM)) (bI : Binds K dI ["self", "letters", "table", "ends"] []) :
    FnOk P w K mg base CX0 7 f fd ["_law_plain"] (spMade C) := by
  refine F.ok scMd (fun vs H Q E h => ?_) (fun cdv A outer s H vs Q E hr h => ?_)
  · obtain ⟨m, L, tb, es, n, rfl, _⟩ := h
    rfl
  · obtain ⟨m, L, tb, es, n, rfl, hp, ok, h4, hL, k⟩ := h
    have hu := hu_of hr
    refine ⟨_, pss_one (ps_ret (pe_make (E := fun _ _ _ => False) MI GI hr rfl M.gC bI .nil no_pass (pa_cons (pe_dget hu (pv 0) pe_str (fun _ _ => rfl))
      (pa_cons (pe_callTy call_tuple_of (by rfl) T.tuple (by decide +kernel) (pa_cons (pe_dget hu (pv 0) pe_str (fun _ _ => rfl)) pa_nil))
      (pa_cons (pe_callTy call_tuple_of (by rfl) T.tuple (by decide +kernel) (pa_cons (pe_dget hu (pv 0) pe_str (fun _ _ => rfl)) pa_nil)) pa_nil))))), ?_⟩
    obtain ⟨lt, le, h1, ⟨ts, h2, h3⟩, h5⟩ := hp.ex
    have g : ∀ (H' : Hp) (kk : Key) (v : V), Same H H' → valV (pkv L lt le) kk = some v → DGet H' m (kV kk) (some v) := fun H' kk v s e => e ▸ DGet.k (s _ _ h1)
    refine ⟨_, rfl, m, _, rfl, g H kL _ (Same.refl H) (pkv_L L lt le), ?_⟩
    refine ⟨_, rfl, m, _, rfl, g H kTb _ (Same.refl H) (pkv_T L lt le), lt, _, rfl, .inl ⟨SqL.of h2, fun t ht => ?_⟩⟩
    have s1 : Same H (upd H t (.tup (ts.map V.ref))) := same_upd ht
    refine ⟨_, rfl, m, _, rfl, g _ kE _ s1 (pkv_E L lt le), le, _, rfl, .inl ⟨SqL.of (s1 _ _ h5), fun e he => ?_⟩⟩
    have s2 : Same H (upd (upd H t (.tup (ts.map V.ref))) e (.tup (es.map V.int))) := same_two s1 he
    have ht2 : (upd (upd H t (.tup (ts.map V.ref))) e (.tup (es.map V.int))) t = some (.tup (ts.map V.ref)) := same_upd he _ _ upd_same
    have he2 : (upd (upd H t (.tup (ts.map V.ref))) e (.tup (es.map V.int))) e = some (.tup (es.map V.int)) := upd_same
    generalize upd (upd H t (.tup (ts.map V.ref))) e (.tup (es.map V.int)) = H2 at s2 ht2 he2 ⊢
    intro x dx hx hdx ne
    have s3 : Same H2 (upd (upd H2 dx (.own x)) x (.ins C dx [])) := fun b o z => by rw [upd_ne (ne_of_none z hx), upd_ne (ne_of_none z hdx)]; exact z
    have o3 : Objs oTup (upd (upd H2 dx (.own x)) x (.ins C dx [])) ts tb := h3.to fun a _ r z => s3 _ _ (s2 _ _ z)
    have hlen := h3.len
    have htl := ok.tab.len
    refine ⟨x, dx, .str (tx L), .ref t, .ref e, some (tx L), some (rsOf tb), some (es.map V.int), rfl, upd_same, ⟨rfl, by rw [tx_len]; have := hL.few; omega⟩, ⟨t, _, rfl, SqT.of (s3 _ _ ht2), by rw [List.length_map]; omega, rows_of (by have := hL.few; omega) o3 fun r hr => (ok.tab.row r hr).1⟩, ⟨e, rfl, SqT.of (s3 _ _ he2), ?_, ?_⟩, .inl ⟨?_, fun H4 h4' k4 => ⟨rfl, ?_⟩⟩⟩
    · have := asc_len ok.asc (by have := ok.one; omega)
      rw [List.length_map]
      omega
    · intro y hy
      obtain ⟨i, _, rfl⟩ := List.mem_map.mp hy
      exact .inl ⟨i, rfl⟩
    · have e1 : ((rsOf tb).length : Int) = n := by rw [List.length_map]; exact htl
      rw [made_t, letB_let hL, tx_len, tabB_in ok.tab ok.one h4, e1]
      exact ascV_in ok.asc
    · have s4 : Same H2 H4 := fun b o z => k4 b o (s3 _ _ z) (ne_of_none z hx)
      exact k x H4 (s2.free hx) (s2.trans s4) ⟨dx, t, e, ts, h4', s4 _ _ ht2, h3.to fun a _ r z => s4 _ _ (s2 _ _ z), s4 _ _ he2⟩
end
end WK
set_option Elab.async false
set_option linter.all false
set_option maxRecDepth 100000
set_option maxHeartbeats 8000000
namespace WK
open PySem L2 PyProof.Rows LCX K1 FV DP
open TX (sg sigs)
open PySem.W (Frag kitOne)
abbrev sNeedBox : Stmt := top 67
abbrev sSame : Stmt := top 46
def spNeedBox (C : Addr) : Sp := fun vs H Q _ => ∃ (o : Addr) (L : W) (tb : List (List Int)), vs = [.ref o] ∧ BoxAt C H o L tb ∧ Q .non H
def spSame : Sp := fun vs H Q _ => ∃ L : W, vs = [.str (tx L), .str (tx L)] ∧ Q .non H
/-- the properties letters and table -/
structure TPr (K : Frag) (C : Addr) (pL gL pT gT : Addr) : Prop where
  l : PropOf K C "letters" pL gL
  t : PropOf K C "table" pT gT
section
variable {P : Program} {w : World} {K : PySem.W.Frag} {mg : Str → Option Value} {base : Heap} {C cD : Addr}
theorem scNB : FnScope ["box"] ["box"] (defScope sNeedBox) := ⟨rfl, rfl, rfl, by decide +kernel, rfl, by decide +kernel, by decide +kernel⟩
theorem ok_needbox {f : Addr} {fd : FuncData} (F : Fun K "need_box" "need_box" sNeedBox f fd) (T : TN mg) (M : TBx K mg C cD) (Y : TBy K C) : FnOk P w K mg base CX0 1 f fd ["box"] (spNeedBox C) := by
  refine F.ok scNB (fun vs H Q E h => ?_) (fun cdv A outer s H vs Q E hr h => ?_)
  · obtain ⟨o, L, tb, rfl, _⟩ := h
    rfl
  · obtain ⟨o, L, tb, rfl, ⟨dx, r, h1, rows⟩, q⟩ := h
    refine ⟨_, pss_one (ps_if (pt_not (pt_val (pe_callB call_isi (by rfl) T.isi (by decide +kernel) (pa_cons (pv 0) (pa_cons (pe_glob rfl M.gC (show RelV (.ref C) (.ref C) from rfl)) pa_nil))))) (pss_one ps_never) pss_nil), ?_⟩
    exact ⟨_, rfl, _, _, _, _, true, rfl, .own C, .base (.ins h1 M.cl Y.is.ca Y.is.cn Y.is.ct Y.is.cm), Y.kC, _, rfl, q⟩
theorem scSm : FnScope ["one", "other"] ["one", "other"] (defScope sSame) := ⟨rfl, rfl, rfl, by decide +kernel, rfl, by decide +kernel, by decide +kernel⟩
theorem ok_same {f : Addr} {fd : FuncData} (F : Fun K "need_same_letters" "need_same_letters" sSame f fd) : FnOk P w K mg base CX0 1 f fd ["one", "other"] spSame := by
  refine F.ok scSm (fun vs H Q E h => ?_) (fun cdv A outer s H vs Q E hr h => ?_)
  · obtain ⟨L, rfl, _⟩ := h
    rfl
  · obtain ⟨L, rfl, q⟩ := h
    refine ⟨_, pss_one (ps_if (pt_cmpR op_ne (pv 0) (pv 1) (nomark _)) (pss_one ps_never) pss_nil), ?_⟩
    refine ⟨_, rfl, _, rfl, rfl, _, rfl, ?_⟩
    rw [decide_eq_true rfl]
    exact q
end
end WK
set_option Elab.async false
set_option linter.all false
set_option maxRecDepth 100000
set_option maxHeartbeats 8000000
namespace WK
open PySem L2 PyProof.Rows LCX K1 FV DP
open TX (sg sigs)
open PySem.W (Frag kitOne)
def spPairedN (K : Frag) : Sp := fun vs H Q _ => ∃ (t1 t2 p0 : Addr) (U Z : List (List Int)) (wd : Nat) (n m : Int) (B : Nat), vs = [.ref t1, .ref t2,   .ref p0, .non] ∧ TTab K H t1 U ∧ TTab K H t2 Z ∧ TabOk U wd n ∧ TabOk Z wd m ∧ 1 ≤ n ∧ 1 ≤ m ∧ n ≤ 1000 ∧ m ≤ 1000 ∧ wd ≤ 3 ∧ H p0 = some (.tup [.int 0, .int 0]) ∧
  (∀ j, (exAll (pairF U Z) (List.range wd) [0, 0] j).1.length ≤ B) ∧ B ≤ 400 ∧ ∀ (t k r : Addr) (ks : List V) (H' : Hp), Same H H' → H' t = some (.tup [.ref k, .ref r]) → RowsAt H' r (exAll (pairF U Z) (List.range wd) [0, 0] B).2 → H' k = some (.lst ks) → Are kitI H' ks (exAll (pairF U Z) (List.range wd) [0, 0] B).1 → Q (.ref t) H'
section
variable {P : Program} {w : World} {K : PySem.W.Frag} {mg : Str → Option Value} {base : Heap}
theorem ok_pairedN {f : Addr} {oc kV dc pm ct cd dV : Value} {an od : Option Addr} {sl : Array (Option Value)} (lk : K.lookup f = some ⟨oc, od, .func (PySem.W.fnOf "paired" "paired" (defArgs sPaired) (defBody sPaired) (defScope sPaired) dV kV dc pm an cd ct), sl⟩) (hcd : PySem.W.codeIn K cd "paired" = true) (T : TN mg) : FnOk P w K mg base CX0 1 f (PySem.W.fnOf "paired" "paired" (defArgs sPaired) (defBody sPaired) (defScope sPaired) dV kV dc pm an cd ct) ["one", "other", "start", "most"] (spPairedN K) := by
  refine fn_ofN lk hcd scPd (fun vs H Q E h => ?_) (fun A outer s H vs Q E hr h => ?_)
  · obtain ⟨t1, t2, p0, U, Z, wd, n, m, B, rfl, _⟩ := h
    rfl
  · obtain ⟨t1, t2, p0, U, Z, wd, n, m, B, rfl, hT1, hT2, okA, okB, n1, m1, n2, m2, hw, hs0, hB, hB4, q⟩ := h
    have hub := hu_of hr
    refine ⟨_, pss_cons (ps_set (i := 4) scPd.nd rfl (Or.inl rfl) (pe_lst (pa_cons (pv 2) pa_nil)))
      (pss_cons (ps_set (i := 5) scPd.nd rfl (Or.inl rfl) (pe_disp1 (Nat.lt_of_succ_lt hub) (pv 2) pe_int))
      (pss_cons (ps_set (i := 6) scPd.nd rfl (Or.inl rfl) (pe_lst pa_nil))
      (pss_cons (ps_while PassesOwn.never (pt_cmpR op_lt (pe_callB call_len_seq (by rfl) T.len PySem.boot_len (pa_cons (pv 6) pa_nil)) (pe_callB call_len_seq (by rfl) T.len PySem.boot_len (pa_cons (pv 4) pa_nil)) (nomark _))
        (pss_cons (ps_asg (pe_ix ix_list (pv 4) (pe_callB call_len_seq (by rfl) T.len PySem.boot_len (pa_cons (pv 6) pa_nil)) (fun _ _ => rfl)) (pg_tup (n := 2) (by rfl) (pgs_cons (pg_name (i := 7) scPd.nd rfl (Or.inl rfl)) (pgs_cons (pg_name (i := 8) scPd.nd rfl (Or.inl rfl)) pgs_nil))))
        (pss_cons (ps_set (i := 9) scPd.nd rfl (Or.inl rfl) (pe_lst pa_nil))
        (pss_cons (ZQT.ps_forZ PassesOwn.never rfl rfl T.zip (pa_cons (pe_ix ix_tup (pv 0) (pv 7) (fun _ _ => rfl)) (pa_cons (pe_ix ix_tup (pv 1) (pv 8) (fun _ _ => rfl)) pa_nil)) (pg_name (i := 10) scPd.nd rfl (Or.inl rfl))
          (pss_cons (ps_if (pt_cmp (pc_dnotin hub (pv 10) (pv 5)))
              (pss_cons (ps_if (pt_cmpR op_eq (pe_callB call_len_seq (by rfl) T.len PySem.boot_len (pa_cons (pv 4) pa_nil)) (pv 3) (nomark _)) (pss_one ps_never) pss_nil)
              (pss_cons (ps_dput hub (pv 5) (pv 10) (pe_callB call_len_seq (by rfl) T.len PySem.boot_len (pa_cons (pv 4) pa_nil)) rfl)
              (pss_one (ps_expr (pe_bm PySem.F.plainAttrs_list PySem.F.slot_list_append PySem.F.type_list_append mt_append (pv 4) (pa_cons (pv 10) pa_nil)))))) pss_nil)
          (pss_one (ps_expr (pe_bm PySem.F.plainAttrs_list PySem.F.slot_list_append PySem.F.type_list_append mt_append (pv 9) (pa_cons (pe_dget hub (pv 5) (pv 10) (fun _ _ => rfl)) pa_nil))))))
        (pss_one (ps_expr (pe_bm PySem.F.plainAttrs_list PySem.F.slot_list_append PySem.F.type_list_append mt_append (pv 6) (pa_cons (pe_callTy call_tuple_of (by rfl) T.tuple (by decide +kernel) (pa_cons (pv 9) pa_nil)) pa_nil))))))))
      (pss_one (ps_ret (pe_tup (pa_cons (pv 4) (pa_cons (pe_callTy call_tuple_of (by rfl) T.tuple (by decide +kernel) (pa_cons (pv 6) pa_nil)) pa_nil)))))))), ?_⟩
    obtain ⟨fn, hfn⟩ : ∃ fn, fn = pairF U Z := ⟨_, rfl⟩
    obtain ⟨L, hLr⟩ : ∃ L : W, L = List.range wd := ⟨_, rfl⟩
    rw [← hfn, ← hLr] at hB q
    obtain ⟨ok, hok⟩ : ∃ ok : List Int → Prop, ok = fun k => ∃ l r : Int, k = [l, r] ∧ 0 ≤ l ∧ l < n ∧ 0 ≤ r ∧ r < m := ⟨_, rfl⟩
    have ok0 : ok [0, 0] := by
      rw [hok]
      exact ⟨0, 0, rfl, by omega, by omega, by omega, by omega⟩
    have hrow : ∀ {tb : List (List Int)} {n r : Int}, TabOk tb wd n → 0 ≤ r → r < n → (tb.getD r.toNat []) ∈ tb := fun {tb n r} o h0 h1 => by
      have hl := o.len
      have : r.toNat < tb.length := by omega
      rw [List.getD_eq_getElem?_getD, List.getElem?_eq_getElem this]
      exact List.getElem_mem this
    have hent : ∀ {tb : List (List Int)} {n r : Int} {c : Nat}, TabOk tb wd n → 0 ≤ r → r < n → c < wd → 0 ≤ (tb.getD r.toNat []).getD c 0 ∧ (tb.getD r.toNat []).getD c 0 < n := fun {tb n r c} o h0 h1 hc => by
      obtain ⟨a, b⟩ := o.row _ (hrow o h0 h1)
      have : c < (tb.getD r.toNat []).length := by omega
      rw [List.getD_eq_getElem?_getD (l := tb.getD r.toNat []), List.getElem?_eq_getElem this]
      exact b _ (List.getElem_mem this)
    have okc : ∀ a c, ok a → c ∈ L → ok (fn a c) := by
      rw [hok, hfn, hLr]
      rintro a c ⟨l, r, rfl, h1, h2, h3, h4⟩ hc
      have hc := List.mem_range.mp hc
      obtain ⟨a1, a2⟩ := hent okA h1 h2 hc
      obtain ⟨b1, b2⟩ := hent okB h3 h4 hc
      exact ⟨_, _, rfl, a1, a2, b1, b2⟩
    have is0 : kitI.is H (.ref p0) [0, 0] := kitI_is.mpr hs0
    generalize hst : exAll fn L [0, 0] = st at hB q
    have hz : st 0 = ([[0, 0]], []) := by rw [← hst] <;> rfl
    have hnx : ∀ (j : Nat) (key : List Int), (st j).1[j]? = some key → st (j + 1) = ((L.foldl (exSign fn key) ((st j).1, [])).1, (st j).2 ++ [(L.foldl (exSign fn key) ((st j).1, [])).2]) := by
      intro j key e
      have e2 := exAll_at (f := fn) (L := L) (start := [0, 0]) (j := j) (by rw [hst]; exact e)
      rw [hst] at e2
      exact e2
    have hsp : ∀ (j m : Nat), (st j).1.length ≤ j → st (j + m) = st j := by
      intro j m h
      rw [← hst] at h ⊢
      exact exAll_stop h m
    have hgr : ∀ (j i : Nat) (key : List Int), (st j).1[j]? = some key → ((L.take i).foldl (exSign fn key) ((st j).1, [])).1.length ≤ B := by
      intro j i key e
      have h2 := hB (j + 1)
      rw [hnx j key e] at h2
      have h3 := exFold_grows fn key (L.drop i) ((L.take i).foldl (exSign fn key) ((st j).1, []))
      rw [← List.foldl_append, List.take_append_drop] at h3
      exact Nat.le_trans h3.length_le h2
    have B1 : 1 ≤ B := by have := hB 0; rw [hz] at this; exact this
    refine ⟨_, rfl, (by show 1 ≤ sizeLine; decide), fun M hM => ?_⟩
    refine ⟨kitI.ho [], kitI.emp, fun D hD => ⟨_, rfl, _, kitI.put (l := []) upd_same (kitI.keep is0 (fun b xs e => (same_two (same_upd hM) hD) _ _ e)) List.not_mem_nil (by show 0 < sizeLine; decide), ?_⟩⟩
    rw [upd_upd]
    have nD : H D = none := (same_upd hM).free hD
    have nMD : M ≠ D := fun z => by rw [← z, upd_same] at hD; cases hD
    refine ⟨by show 0 ≤ sizeLine; decide, fun R hR => ?_⟩
    have s0 : Same H (upd (upd (upd H M (.lst [.ref p0])) D (kitI.ho [[0, 0]])) R (.lst [])) := same_two (same_two (same_upd hM) hD) hR
    have nMR : M ≠ R := fun z => by rw [← z, upd_ne nMD, upd_same] at hR; cases hR
    have nDR : D ≠ R := fun z => by rw [← z, upd_same] at hR; cases hR
    have nR : H R = none := (same_two (same_upd hM) hD).free hR
    refine while_by (fun σ H2 => ∃ (j : Nat) (vs : List V) (ts : List Addr) (x7 x8 x9 x10 : Option V), Same H H2 ∧ H2 M = some (.lst vs) ∧ Are kitI H2 vs (st j).1 ∧ H2 D = some (kitI.ho (st j).1) ∧ H2 R = some (.lst (ts.map V.ref)) ∧ Objs oTup H2 ts (st j).2 ∧ ts.length = j ∧ j ≤ (st j).1.length ∧ (∀ a ∈ (st j).1, ok a) ∧
      σ = [some (.ref t1), some (.ref t2), some (.ref p0), some V.non, some (.ref M), some (.ref D), some (.ref R), x7, x8, x9, x10]) (fun _ H2 => B - (match H2 R with | some (.lst xs) => xs.length | _ => 0)) ?_ ?_ ?_
    · refine ⟨0, [.ref p0], [], none, none, none, none, s0, ?_, ?_, ?_, upd_same, ?_, rfl, Nat.zero_le _, ?_, rfl⟩
      · rw [upd_ne nMR, upd_ne nMD, upd_same]
      · rw [hz]
        exact ⟨kitI.keep is0 fun b xs e => s0 _ _ e, trivial⟩
      · rw [upd_ne nDR, upd_same, hz] <;> rfl
      · rw [hz]
        exact trivial
      · rw [hz]
        intro a ha
        rw [List.mem_singleton.mp ha]
        exact ok0
    · rintro σ H2 ⟨j, vs, ts, x7, x8, x9, x10, s2, hm, are, hd, hr2, objs, hts, hle, oks, rfl⟩
      have hvl := are.len
      refine ⟨_, rfl, R, _, rfl, .inl (SqL.of hr2), _, rfl, M, _, rfl, .inl (SqL.of hm), _, _, rfl, rfl, _, rfl, ?_⟩
      rw [List.length_map, hts, hvl]
      refine ite2 (fun hlt => ?_) (fun hge => ?_)
      · have hlt : ((j : Nat) : Int) < (((st j).1.length : Nat) : Int) := of_decide_eq_true hlt
        have hlt : j < (st j).1.length := by omega
        obtain ⟨key, hkey⟩ : ∃ key, (st j).1[j]? = some key := ⟨_, List.getElem?_eq_getElem hlt⟩
        obtain ⟨v, hv, isv⟩ := are.get hkey
        have okk : ok key := oks _ (List.mem_of_getElem? hkey)
        have hstep1 := hnx j key hkey
        have hg := fun i => hgr j i key hkey
        have hlenB := hB j
        refine ⟨_, rfl, _, rfl, R, _, rfl, .inl (SqL.of hr2), M, _, _, _, rfl, rfl, SqL.of hm, by rw [List.length_map, hts]; exact atI_nat hv, ?_⟩
        obtain ⟨b1, ev1, hb1⟩ := isv
        subst ev1
        have hb1 := kitI_is.mp ⟨b1, rfl, hb1⟩
        have okk2 := okk
        rw [hok] at okk2
        obtain ⟨l1, r1, rfl, l0, l2, r0, r2⟩ := okk2
        refine ⟨b1, _, rfl, SqT.of hb1, rfl, _, _, rfl, _, _, rfl, rfl, ?_⟩
        refine ⟨by show 0 ≤ sizeLine; decide, fun RW hRW => ?_⟩
        have nRW : H RW = none := s2.free hRW
        have nMW : M ≠ RW := fun z => by rw [← z, hm] at hRW; cases hRW
        have nDW : D ≠ RW := fun z => by rw [← z, hd] at hRW; cases hRW
        have nRR : R ≠ RW := fun z => by rw [← z, hr2] at hRW; cases hRW
        generalize hks : (st j).1 = ks at hkey hlenB hg hstep1 hlt hle are hd oks hvl
        generalize hrs : (st j).2 = rs at objs hstep1
        have kt0 : KeepsTup H2 (upd H2 RW (.lst [])) := Same.tup' (same_upd hRW)
        obtain ⟨us1, u1, u2⟩ := hT1.same (s2.trans (same_upd (o := .lst []) hRW))
        obtain ⟨us2, w1, w2⟩ := hT2.same (s2.trans (same_upd (o := .lst []) hRW))
        have hl1 : l1.toNat < U.length := by have := okA.len; omega
        have hl2 : r1.toNat < Z.length := by have := okB.len; omega
        obtain ⟨a1, f1, f2⟩ := u2.get hl1
        obtain ⟨a2, f3, f4⟩ := w2.get hl2
        have at1 : atI (us1.map V.ref) l1 = some (.ref a1) := by
          rw [show l1 = ((l1.toNat : Nat) : Int) by omega]
          exact atI_nat (by rw [List.getElem?_map, f1] <;> rfl)
        have at2 : atI (us2.map V.ref) r1 = some (.ref a2) := by
          rw [show r1 = ((r1.toNat : Nat) : Int) by omega]
          exact atI_nat (by rw [List.getElem?_map, f3] <;> rfl)
        obtain ⟨rA, rbA⟩ := okA.row _ (hrow okA l0 l2)
        obtain ⟨rB, rbB⟩ := okB.row _ (hrow okB r0 r2)
        have hkey3 : ∀ c, fn [l1, r1] c = [(U.getD l1.toNat []).getD c 0, (Z.getD r1.toNat []).getD c 0] := fun c => by rw [hfn] <;> rfl
        generalize U.getD l1.toNat [] = rowA at f2 rA rbA hkey3
        generalize Z.getD r1.toNat [] = rowB at f4 rB rbB hkey3
        have hlL : L.length = wd := by rw [hLr, List.length_range]
        obtain ⟨key, hkk⟩ : ∃ key : List Int, key = [l1, r1] := ⟨_, rfl⟩
        rw [← hkk] at hkey3 hkey hstep1 hg okk
        refine ⟨_, rfl, _, rfl, t1, _, _, _, rfl, rfl, u1, at1, _, rfl, _, rfl, t2, _, _, _, rfl, rfl, w1, at2, ?_⟩
        refine ZQT.forZ_it (a := a1) (b := a2) (xs := rowA.map V.int) (ys := rowB.map V.int) (fun i l σ H3 => ∃ (vs : List V) (x10 : Option V), Same H H3 ∧ H3 M = some (.lst vs) ∧ Are kitI H3 vs ((L.take i).foldl (exSign fn key) (ks, [])).1 ∧ H3 D = some (kitI.ho ((L.take i).foldl (exSign fn key) (ks, [])).1) ∧ H3 R = some (.lst (ts.map V.ref)) ∧ Objs oTup H3 ts rs ∧ H3 a1 = some (oTup rowA) ∧ H3 a2 = some (oTup rowB) ∧ (∀ T, l = some T → ∃ zs, H3 T = some (.tup zs)) ∧
            H3 RW = some (.lst (((L.take i).foldl (exSign fn key) (ks, [])).2.map V.int)) ∧ ((L.take i).foldl (exSign fn key) (ks, [])).2.length = i ∧ (∀ a ∈ ((L.take i).foldl (exSign fn key) (ks, [])).1, ok a) ∧
            σ = [some (.ref t1), some (.ref t2), some (.ref p0), some V.non, some (.ref M), some (.ref D), some (.ref R), some (.int l1), some (.int r1), some (.ref RW), x10]) (by rw [List.length_map, List.length_map, rA, rB]) ?_ ?_ ?_ ?_
        · exact ⟨vs, x10, s2.trans (same_upd hRW), same_upd hRW _ _ hm, are.keep kt0, same_upd hRW _ _ hd, same_upd hRW _ _ hr2, objs_tup objs kt0, f2, f4, (fun T e => nomatch e), upd_same, rfl, oks, rfl⟩
        · rintro i l σ H3 _ ⟨vs, x10, _, _, _, _, _, _, h1, h2, h3, _⟩
          exact ⟨SqT.of h1, SqT.of h2, h3⟩
        · rintro i l σ H3 x y T2 hx hy ⟨vs, x10, s3, hm3, are3, hd3, hr3, objs3, ha1, ha2, hT3, hw3, hw3l, oks3, rfl⟩ hT2
          have hiw : i < wd := by
            have := (List.getElem?_eq_some_iff.mp hx).1
            rw [List.length_map] at this
            omega
          obtain rfl : V.int (rowA.getD i 0) = x := by
            have hi1 : i < rowA.length := by omega
            rw [List.getElem?_map, List.getElem?_eq_getElem hi1] at hx
            rw [List.getD_eq_getElem?_getD, List.getElem?_eq_getElem hi1]
            exact Option.some.inj hx
          obtain rfl : V.int (rowB.getD i 0) = y := by
            have hi1 : i < rowB.length := by omega
            rw [List.getElem?_map, List.getElem?_eq_getElem hi1] at hy
            rw [List.getD_eq_getElem?_getD, List.getElem?_eq_getElem hi1]
            exact Option.some.inj hy
          have hx' : L[i]? = some i := by rw [hLr, List.getElem?_range hiw]
          obtain ⟨c, hc⟩ : ∃ c : Nat, c = i := ⟨_, rfl⟩
          have hx' : L[i]? = some c := by rw [hc]; exact hx'
          have hcL : c ∈ L := List.mem_of_getElem? hx'
          have hiL : i < L.length := (List.getElem?_eq_some_iff.mp hx').1
          have hgi1 := hg (i + 1)
          have e1 : (L.take (i + 1)).foldl (exSign fn key) (ks, []) = exSign fn key ((L.take i).foldl (exSign fn key) (ks, [])) c := by
            rw [List.take_add_one, hx', List.foldl_append] <;> rfl
          rw [e1] at hgi1
          rw [e1]
          generalize (L.take i).foldl (exSign fn key) (ks, []) = fo at are3 hd3 hw3 hw3l oks3 hgi1 ⊢
          have s5 : Same H3 (upd H3 T2 (.tup [.int (rowA.getD i 0), .int (rowB.getD i 0)])) := same_upd hT2
          have is5 : kitI.is (upd H3 T2 (.tup [.int (rowA.getD i 0), .int (rowB.getD i 0)])) (.ref T2) (fn key c) := by
            rw [hkey3 c, hc]
            exact kitI_is.mpr upd_same
          have tT : ∀ T, some (l.getD T2) = some T → ∃ zs, (upd H3 T2 (.tup [.int (rowA.getD i 0), .int (rowB.getD i 0)])) T = some (.tup zs) := fun T e => by
            cases l with
            | none =>
              cases e
              exact ⟨_, upd_same⟩
            | some T0 =>
              cases e
              obtain ⟨zs, hz⟩ := hT3 T0 rfl
              exact ⟨zs, s5 _ _ hz⟩
          generalize upd H3 T2 (.tup [.int (rowA.getD i 0), .int (rowB.getD i 0)]) = H5 at s5 is5 tT ⊢
          have oka : ok (fn key c) := okc _ _ okk hcL
          replace hm3 := s5 _ _ hm3
          replace are3 := are3.keep (Same.tup' s5)
          replace hd3 := s5 _ _ hd3
          replace hr3 := s5 _ _ hr3
          replace objs3 := objs_tup objs3 (Same.tup' s5)
          replace ha1 := s5 _ _ ha1
          replace ha2 := s5 _ _ ha2
          replace hw3 := s5 _ _ hw3
          replace s3 := s3.trans s5
          have vl3 := are3.len
          refine ⟨_, rfl, _, rfl, D, _, rfl, kitI.get hd3 is5, _, rfl, ?_⟩
          unfold exSign at hgi1 ⊢
          by_cases hin : fn key c ∈ fo.1
          · rw [if_pos hin] at hgi1 ⊢
            rw [if_pos hin]
            refine iteF ?_
            refine ⟨_, rfl, .inl ⟨rfl, _, SqL.of hw3⟩, _, rfl, _, rfl, D, _, rfl, (if_pos hin) ▸ kitI.get hd3 is5, RW, _, _, rfl, rfl, hw3, by rw [List.length_map, hw3l, sizeLine_eq]; omega, ?_⟩
            have kt : ∀ o, KeepsTup H5 (upd H5 RW o) := fun o => tup_upd hw3 (fun _ z => nomatch z)
            refine ⟨vs, _, same_at s3 nRW, ?_, are3.keep (kt _), ?_, ?_, objs_tup objs3 (kt _), kt _ _ _ ha1, kt _ _ _ ha2, (fun T e => let ⟨zs, z⟩ := tT T e; ⟨zs, kt _ _ _ z⟩), ?_, ?_, oks3, rfl⟩
            · rw [upd_ne nMW]
              exact hm3
            · rw [upd_ne nDW]
              exact hd3
            · rw [upd_ne nRR]
              exact hr3
            · rw [upd_same]
              show _ = some (HO.lst ((fo.2 ++ [_]).map V.int))
              rw [List.map_append] <;> rfl
            · show (fo.2 ++ [_]).length = _
              rw [List.length_append, hw3l] <;> rfl
          · rw [if_neg hin] at hgi1 ⊢
            rw [if_neg hin]
            have hlen1 : fo.1.length + 1 ≤ B := by rw [List.length_append] at hgi1; exact hgi1
            refine iteT ?_
            refine ⟨_, rfl, M, _, rfl, .inl (SqL.of hm3), _, rfl, rfl, _, rfl, iteF' ?_ ?_⟩
            · exact decide_eq_false fun z => nomatch z
            refine ⟨_, rfl, M, _, rfl, .inl (SqL.of hm3), _, rfl, _, rfl, D, _, rfl, by rw [vl3]; exact kitI.put hd3 is5 hin (by rw [sizeLine_eq]; omega), ?_⟩
            have k1 := tup_upd (o := kitI.ho (fo.1 ++ [fn key c])) hd3 (kitI.not_tup _)
            have m1q : upd H5 D (kitI.ho (fo.1 ++ [fn key c])) M = some (.lst vs) := by rw [upd_ne nMD]; exact hm3
            have d1q : upd H5 D (kitI.ho (fo.1 ++ [fn key c])) D = some (kitI.ho (fo.1 ++ [fn key c])) := upd_same
            have r1q : upd H5 D (kitI.ho (fo.1 ++ [fn key c])) R = some (.lst (ts.map V.ref)) := by rw [upd_ne (Ne.symm nDR)]; exact hr3
            have w1q : upd H5 D (kitI.ho (fo.1 ++ [fn key c])) RW = some (.lst (fo.2.map V.int)) := by rw [upd_ne (Ne.symm nDW)]; exact hw3
            have s1q : Same H (upd H5 D (kitI.ho (fo.1 ++ [fn key c]))) := same_at s3 nD
            have a1q := are3.keep k1
            have o1q := objs_tup objs3 k1
            have b1q := k1 _ _ ha1
            have c1q := k1 _ _ ha2
            have t1q : ∀ T, some (l.getD T2) = some T → ∃ zs, (upd H5 D (kitI.ho (fo.1 ++ [fn key c]))) T = some (.tup zs) := fun T e => let ⟨zs, z⟩ := tT T e; ⟨zs, k1 _ _ z⟩
            have is1 := kitI.keep is5 k1
            generalize upd H5 D (kitI.ho (fo.1 ++ [fn key c])) = H6 at m1q d1q r1q w1q s1q a1q o1q b1q c1q t1q is1 ⊢
            refine ⟨_, rfl, .inl ⟨rfl, _, SqL.of m1q⟩, _, rfl, M, _, _, rfl, rfl, m1q, by rw [vl3, sizeLine_eq]; omega, ?_⟩
            have k2 := tup_upd (o := .lst (vs ++ [.ref T2])) m1q (fun _ z => nomatch z)
            have m2q : upd H6 M (.lst (vs ++ [.ref T2])) M = some (.lst (vs ++ [.ref T2])) := upd_same
            have d2q : upd H6 M (.lst (vs ++ [.ref T2])) D = some (kitI.ho (fo.1 ++ [fn key c])) := by rw [upd_ne (Ne.symm nMD)]; exact d1q
            have r2q : upd H6 M (.lst (vs ++ [.ref T2])) R = some (.lst (ts.map V.ref)) := by rw [upd_ne (Ne.symm nMR)]; exact r1q
            have w2q : upd H6 M (.lst (vs ++ [.ref T2])) RW = some (.lst (fo.2.map V.int)) := by rw [upd_ne (Ne.symm nMW)]; exact w1q
            have s2q' : Same H (upd H6 M (.lst (vs ++ [.ref T2]))) := same_at s1q hM
            have a2q := (a1q.snoc is1).keep k2
            have o2q := objs_tup o1q k2
            have b2q := k2 _ _ b1q
            have c2q := k2 _ _ c1q
            have t2q : ∀ T, some (l.getD T2) = some T → ∃ zs, (upd H6 M (.lst (vs ++ [.ref T2]))) T = some (.tup zs) := fun T e => let ⟨zs, z⟩ := t1q T e; ⟨zs, k2 _ _ z⟩
            have is2 := kitI.keep is1 k2
            generalize upd H6 M (.lst (vs ++ [.ref T2])) = H7 at m2q d2q r2q w2q s2q' a2q o2q b2q c2q t2q is2 ⊢
            have gg := kitI.get d2q is2
            rw [if_pos (List.mem_append_right _ (List.mem_singleton.mpr rfl)), idx_end hin] at gg
            refine ⟨_, rfl, .inl ⟨rfl, _, SqL.of w2q⟩, _, rfl, _, rfl, D, _, rfl, gg, RW, _, _, rfl, rfl, w2q, by rw [List.length_map, hw3l, sizeLine_eq]; omega, ?_⟩
            have k3 := tup_upd (o := .lst (fo.2.map V.int ++ [.int ((fo.1.length : Nat) : Int)])) w2q (fun _ z => nomatch z)
            refine ⟨vs ++ [.ref T2], _, same_at s2q' nRW, ?_, a2q.keep k3, ?_, ?_, objs_tup o2q k3, k3 _ _ b2q, k3 _ _ c2q, (fun T e => let ⟨zs, z⟩ := t2q T e; ⟨zs, k3 _ _ z⟩), ?_, ?_, ?_, rfl⟩
            · rw [upd_ne nMW]
              exact m2q
            · rw [upd_ne nDW]
              exact d2q
            · rw [upd_ne nRR]
              exact r2q
            · rw [upd_same]
              show _ = some (HO.lst ((fo.2 ++ [_]).map V.int))
              rw [List.map_append] <;> rfl
            · show (fo.2 ++ [_]).length = _
              rw [List.length_append, hw3l] <;> rfl
            · intro a ha
              rcases List.mem_append.mp ha with h | h
              · exact oks3 a h
              · rw [List.mem_singleton.mp h]
                exact oka
        · rintro l σ H3 ⟨vs, x10, s3, hm3, are3, hd3, hr3, objs3, _, _, _, hw3, hw3l, oks3, rfl⟩
          rw [List.length_map, rA, ← hlL, List.take_length] at are3 hd3 hw3 hw3l oks3
          have fB := hB (j + 1)
          rw [hstep1] at fB
          generalize hfo : L.foldl (exSign fn key) (ks, []) = fo at are3 hd3 hw3 hw3l oks3 fB hstep1
          have grows : ks.length ≤ fo.1.length := by rw [← hfo]; exact (exFold_grows fn key L (ks, [])).length_le
          refine ⟨_, rfl, .inl ⟨rfl, _, SqL.of hr3⟩, _, rfl, RW, _, rfl, .inl ⟨SqL.of hw3, fun t ht => ?_⟩⟩
          have s4 := same_upd (o := .tup (fo.2.map V.int)) ht
          have nt : R ≠ t := fun z => by rw [← z, hr3] at ht; cases ht
          refine ⟨R, _, _, rfl, rfl, s4 _ _ hr3, by rw [List.length_map, hts, sizeLine_eq]; omega, ?_⟩
          have hr4 := s4 _ _ hr3
          have hm4 := s4 _ _ hm3
          have hd4 := s4 _ _ hd3
          have ho4 := objs_tup objs3 (Same.tup' s4)
          have ha4 := are3.keep (Same.tup' s4)
          have ht4 : upd H3 t (.tup (fo.2.map V.int)) t = some (oTup fo.2) := upd_same
          have s5 := s3.trans s4
          generalize upd H3 t (.tup (fo.2.map V.int)) = H4 at hr4 hm4 hd4 ho4 ha4 ht4 s5 ⊢
          have k3 := tup_upd (o := .lst (ts.map V.ref ++ [.ref t])) hr4 (fun _ z => nomatch z)
          refine ⟨⟨j + 1, vs, ts ++ [t], _, _, _, _, same_at s5 nR, ?_, ?_, ?_, ?_, ?_, ?_, ?_, ?_, rfl⟩, ?_⟩
          · rw [upd_ne nMR]
            exact hm4
          · rw [hstep1]
            exact ha4.keep k3
          · rw [upd_ne nDR, hstep1]
            exact hd4
          · rw [upd_same, List.map_append] <;> rfl
          · rw [hstep1]
            exact objs_tup (ho4.snoc ht4) k3
          · rw [List.length_append, hts] <;> rfl
          · rw [hstep1]
            show j + 1 ≤ fo.1.length
            omega
          · rw [hstep1]
            exact oks3
          · show B - (match (upd _ R _) R with | some (.lst xs) => xs.length | _ => 0) < B - (match H2 R with | some (.lst xs) => xs.length | _ => 0)
            rw [upd_same, hr2]
            show _ - (ts.map V.ref ++ [_]).length < _ - (ts.map V.ref).length
            rw [List.length_append, List.length_map, hts]
            show _ - (j + 1) < _
            omega
      · have hge : ¬ (((j : Nat) : Int) < (((st j).1.length : Nat) : Int)) := fun z => hge (decide_eq_true z)
        have e1 : (st j).1.length = j := by omega
        have e2 : st B = st j := by
          have h3 := hB j
          have h4 := hsp j (B - j) (by omega)
          rw [show j + (B - j) = B by omega] at h4
          exact h4
        refine ⟨_, rfl, _, rfl, R, _, rfl, .inl ⟨SqL.of hr2, fun r hr => ?_⟩⟩
        refine ⟨by show 2 ≤ sizeLine; decide, fun t ht => ?_⟩
        have s3 := same_upd (o := .tup (ts.map V.ref)) hr
        have s4 := same_upd (o := .tup [.ref M, .ref r]) ht
        refine q t M r vs _ (s2.trans (s3.trans s4)) upd_same ⟨ts, s4 _ _ upd_same, ?_⟩ (s4 _ _ (s3 _ _ hm)) ?_
        · rw [e2]
          exact objs_tup objs (Same.tup' (s3.trans s4))
        · rw [e2]
          exact are.keep (Same.tup' (s3.trans s4))
    · exact fun σ H Q Q' hm ⟨v, hv, M', ys, e, hs, w', hw, M2, ys2, e2, hs2, i, j, a, b, k, hk, q⟩ => ⟨v, hv, M', ys, e, hs, w', hw, M2, ys2, e2, hs2, i, j, a, b, k, hk, hm _ _ q⟩
end
end WK
set_option Elab.async false
set_option linter.all false
set_option maxRecDepth 100000
set_option maxHeartbeats 8000000
namespace WK
open PySem L2 PyProof.Rows LCX K1 FV DP
open TX (sg sigs)
open PySem.W (Frag kitOne)
abbrev sNeedMs : Stmt := top 45
abbrev sNeedAll : Stmt := top 75
abbrev sNeedLs : Stmt := top 77
/-- a thing of class C is at a -/
def InsAt (C : Addr) (H : Hp) (a : Addr) : Prop := ∃ dx fs, H a = some (.ins C dx fs)
def spNeedMs (K : Frag) (C : Addr) : Sp := fun vs H Q _ => ∃ (t a b : Addr), vs = [.ref t] ∧ SqT K H t [.ref a, .ref b] ∧ InsAt C H a ∧ InsAt C H b ∧ Q .non H
def spNeedAll (K : Frag) (C CB : Addr) : Sp := fun vs H Q _ => ∃ (t a b o : Addr) (L : W) (tb : List (List Int)), vs = [.ref t, .ref o] ∧ SqT K H t [.ref a, .ref b] ∧ InsAt C H a ∧ InsAt C H b ∧ BoxAt CB H o L tb ∧ Q .non H
section
variable {P : Program} {w : World} {K : PySem.W.Frag} {mg : Str → Option Value} {base : Heap} {C cD cM CB cDB fNM fNB : Addr} {dNM dNB : FuncData}
theorem scNM : FnScope ["machines", "machine"] ["machines"] (defScope sNeedMs) := ⟨rfl, rfl, rfl, by decide +kernel, rfl, by decide +kernel, by decide +kernel⟩
theorem ok_needms {f : Addr} {fd : FuncData} (F : Fun K "need_machines" "need_machines" sNeedMs f fd) (T : TN mg) (M : TMc K mg C cD cM) (Y : TBy K C) : FnOk P w K mg base CX0 1 f fd ["machines"] (spNeedMs K C) := by
  refine F.ok scNM (fun vs H Q E h => ?_) (fun cdv A outer s H vs Q E hr h => ?_)
  · obtain ⟨t, _, _, rfl, _⟩ := h
    rfl
  · obtain ⟨t, a, b, rfl, hT, ha, hb, q⟩ := h
    refine ⟨_, pss_one (ps_for PassesOwn.never rfl (pi_tup (pv 0)) (pg_name (i := 1) scNM.nd rfl (Or.inl rfl))
      (pss_one (ps_if (pt_not (pt_val (pe_callB call_isi (by rfl) T.isi (by decide +kernel) (pa_cons (pv 1) (pa_cons (pe_glob rfl M.gC (show RelV (.ref C) (.ref C) from rfl)) pa_nil))))) (pss_one ps_never) pss_nil))), ?_⟩
    refine ⟨_, rfl, t, rfl, ⟨_, hT⟩, ?_⟩
    refine for_tup (xs := [.ref a, .ref b]) (fun i σ H' => (∃ x, σ = [some (.ref t), x]) ∧ H' = H) ⟨⟨_, rfl⟩, rfl⟩ (fun _ _ H' _ h => by rw [h.2]; exact hT) ?_ ?_
    · rintro i x σ H2 hx ⟨⟨y, rfl⟩, rfl⟩
      obtain ⟨z, rfl, dx, fs, hz⟩ : ∃ z, x = .ref z ∧ InsAt C H2 z := by
        rcases i with _ | _ | i
        · exact ⟨a, (Option.some.inj hx).symm, ha⟩
        · exact ⟨b, (Option.some.inj hx).symm, hb⟩
        · cases hx
      exact ⟨_, rfl, _, _, _, _, true, rfl, .own C, .base (.ins hz M.cl Y.is.ca Y.is.cn Y.is.ct Y.is.cm), Y.kC, _, rfl, ⟨_, rfl⟩, rfl⟩
    · rintro σ H2 ⟨⟨y, rfl⟩, rfl⟩
      exact q
theorem scNA : FnScope ["machines", "box"] ["machines", "box"] (defScope sNeedAll) := ⟨rfl, rfl, rfl, by decide +kernel, rfl, by decide +kernel, by decide +kernel⟩
theorem ok_needall {f : Addr} {fd : FuncData} (F : Fun K "_need" "_need" sNeedAll f fd) (AM : Fn K mg "need_machines" sNeedMs ["machines"] fNM dNM) (GM : FnOk P w K mg base CX0 1 fNM dNM ["machines"] (spNeedMs K C)) (AB : Fn K mg "need_box" sNeedBox ["box"] fNB dNB) (GB : FnOk P w K mg base CX0 1 fNB dNB ["box"] (spNeedBox CB)) :
    FnOk P w K mg base CX0 2 f fd ["machines", "box"] (spNeedAll K C CB) := by
  refine F.ok scNA (fun vs H Q E h => ?_) (fun cdv A outer s H vs Q E hr h => ?_)
  · obtain ⟨t, _, _, o, _, _, rfl, _⟩ := h
    rfl
  · obtain ⟨t, a, b, o, L, tb, rfl, hT, ha, hb, bx, q⟩ := h
    refine ⟨_, pss_cons (ps_expr (pe_call GM hr rfl AM.g AM.F.kp AM.b .nil pass0 (pa_cons (pv 0) pa_nil))) (pss_one (ps_expr (pe_call GB hr rfl AB.g AB.F.kp AB.b .nil pass0 (pa_cons (pv 1) pa_nil)))), ?_⟩
    exact ⟨_, rfl, t, a, b, rfl, hT, ha, hb, _, rfl, o, L, tb, rfl, bx, q⟩
theorem mfl_L {l t e : V} : (mfl l t e).lookup ("_letters" : Str) = some l := by
  have e1 : (("_letters" : Str) == "_table") = false := by decide +kernel
  show (match (("_letters" : Str) == "_table") with | true => some t | false => List.lookup ("_letters" : Str) [("_letters", l), ("_ends", e)]) = _
  rw [e1] <;> rfl
theorem mfl_T {l t e : V} : (mfl l t e).lookup ("_table" : Str) = some t := rfl
theorem mfl_E {l t e : V} : (mfl l t e).lookup ("_ends" : Str) = some e := by
  have e1 : (("_ends" : Str) == "_table") = false := by decide +kernel
  have e2 : (("_ends" : Str) == "_letters") = false := by decide +kernel
  show (match (("_ends" : Str) == "_table") with | true => some t | false => List.lookup ("_ends" : Str) [("_letters", l), ("_ends", e)]) = _
  rw [e1]
  show (match (("_ends" : Str) == "_letters") with | true => some l | false => List.lookup ("_ends" : Str) [("_ends", e)]) = _
  rw [e2] <;> rfl
def spNeedLs (K : Frag) (C CB : Addr) : Sp := fun vs H Q _ => ∃ (t a b o : Addr) (L : W) (tb tb1 tb2 : List (List Int)) (es1 es2 : List Int), vs = [.ref t, .ref o] ∧ SqT K H t [.ref a, .ref b] ∧ MacAt C H a L tb1 es1 ∧ MacAt C H b L tb2 es2 ∧ BoxAt CB H o L tb ∧ Q .non H
theorem scNS : FnScope ["machines", "box", "machine"] ["machines", "box"] (defScope sNeedLs) := ⟨rfl, rfl, rfl, by decide +kernel, rfl, by decide +kernel, by decide +kernel⟩
theorem ok_needls {f fS pL gL pM gM : Addr} {fd dS dL dM : FuncData} (F : Fun K "_need_letters" "_need_letters" sNeedLs f fd) (M : TMc K mg C cD cM) (MB : TBx K mg CB cDB) (RB : PropOf K CB "letters" pL gL) (GB : FnOk P w K mg base CX0 1 gL dL ["self"] (getSp CB "_letters")) (bB : Binds K dL ["self"] [])
    (RM : PropOf K C "letters" pM gM) (GM : FnOk P w K mg base CX0 1 gM dM ["self"] (getSp C "_letters")) (bM : Binds K dM ["self"] []) (AS : Fn K mg "need_same_letters" sSame ["one", "other"] fS dS) (GS : FnOk P w K mg base CX0 1 fS dS ["one", "other"] spSame) :
    FnOk P w K mg base CX0 3 f fd ["machines", "box"] (spNeedLs K C CB) := by
  refine F.ok scNS (fun vs H Q E h => ?_) (fun cdv A outer s H vs Q E hr h => ?_)
  · obtain ⟨t, _, _, o, _, _, _, _, _, _, rfl, _⟩ := h
    rfl
  · obtain ⟨t, a, b, o, L, tb, tb1, tb2, es1, es2, rfl, hT, ha, hb, ⟨dxb, rb, hbx, _⟩, q⟩ := h
    have hr1 : Room 1 _ := hr.mono (by decide)
    refine ⟨_, pss_one (ps_for PassesOwn.never rfl (pi_tup (pv 0)) (pg_name (i := 2) scNS.nd rfl (Or.inl rfl))
      (pss_one (ps_expr (pe_call GS hr1 rfl AS.g AS.F.kp AS.b .nil pass0 (pa_cons (pe_prop (E := E0) (pv 2) M.cl RM GM hr bM .nil pass0 rfl) (pa_cons (pe_prop (E := E0) (pv 1) MB.cl RB GB hr bB .nil pass0 rfl) pa_nil)))))), ?_⟩
    refine ⟨_, rfl, t, rfl, ⟨_, hT⟩, ?_⟩
    refine for_tup (xs := [.ref a, .ref b]) (fun i σ H' => (∃ x, σ = [some (.ref t), some (.ref o), x]) ∧ H' = H) ⟨⟨_, rfl⟩, rfl⟩ (fun _ _ H' _ h => by rw [h.2]; exact hT) ?_ ?_
    · rintro i x σ H2 hx ⟨⟨y, rfl⟩, rfl⟩
      obtain ⟨z, rfl, dx, u, v, hz⟩ : ∃ z, x = .ref z ∧ ∃ (dx u v : Addr), H2 z = some (.ins C dx (mfl (.str (tx L)) (.ref u) (.ref v))) := by
        rcases i with _ | _ | i
        · obtain ⟨dx, u, v, _, e, _⟩ := ha.ex
          exact ⟨a, (Option.some.inj hx).symm, dx, u, v, e⟩
        · obtain ⟨dx, u, v, _, e, _⟩ := hb.ex
          exact ⟨b, (Option.some.inj hx).symm, dx, u, v, e⟩
        · cases hx
      exact ⟨_, rfl, z, dx, _, rfl, hz, z, dx, _, _, rfl, hz, mfl_L, _, rfl, o, dxb, _, rfl, hbx, o, dxb, _, _, rfl, hbx, bfl_L, L, rfl, ⟨_, rfl⟩, rfl⟩
    · rintro σ H2 ⟨⟨y, rfl⟩, rfl⟩
      exact q
end
end WK
set_option Elab.async false
set_option linter.all false
set_option maxRecDepth 100000
set_option maxHeartbeats 8000000
namespace WK
open PySem L2 PyProof.Rows LCX K1 FV DP
open TX (sg sigs)
open PySem.W (Frag kitOne)
/-- the rows met, each with the columns of its first way -/
abbrev Wy := List (Int × List Nat)
def addP (u : List Nat) (o : Wy) (p : Int × Nat) : Wy := if p.1 ∈ o.map (·.1) then o else o ++ [(p.1, u ++ [p.2])]
def wyP (tb : List (List Int)) (st : Int) : Nat → Wy
  | 0 => [(st, [])]
  | j + 1 => match (wyP tb st j)[j]? with
    | some (r, u) => ((tb.getD r.toNat []).zipIdx).foldl (addP u) (wyP tb st j)
    | none => wyP tb st j
theorem addP_fst (u : List Nat) (o : Wy) (p : Int × Nat) : (addP u o p).map (·.1) = addN (o.map (·.1)) p.1 := by
  unfold addP addN
  split
  · rfl
  · rw [List.map_append] <;> rfl
theorem foldP_fst (u : List Nat) : ∀ (l : List (Int × Nat)) (o : Wy), (l.foldl (addP u) o).map (·.1) = (l.map (·.1)).foldl addN (o.map (·.1))
  | [], _ => rfl
  | p :: l, o => by
    rw [List.foldl_cons, foldP_fst u l, addP_fst] <;> rfl
theorem wyP_fst {tb : List (List Int)} {st : Int} : ∀ j, (wyP tb st j).map (·.1) = wyA tb st j
  | 0 => rfl
  | j + 1 => by
    have ih := wyP_fst (tb := tb) (st := st) j
    have e : (wyA tb st j)[j]? = ((wyP tb st j)[j]?).map (·.1) := by rw [← ih, List.getElem?_map]
    show (match (wyP tb st j)[j]? with | some (r, u) => _ | none => _ : Wy).map (·.1) = (match (wyA tb st j)[j]? with | some r => _ | none => _)
    rw [e]
    cases hq : (wyP tb st j)[j]? with
    | none => exact ih
    | some p =>
      obtain ⟨r, u⟩ := p
      show (((tb.getD r.toNat []).zipIdx).foldl (addP u) (wyP tb st j)).map (·.1) = (tb.getD r.toNat []).foldl addN (wyA tb st j)
      rw [foldP_fst, List.zipIdx_map_fst, ih]
theorem wyP_at {tb : List (List Int)} {st r : Int} {u : List Nat} {j : Nat} (h : (wyP tb st j)[j]? = some (r, u)) : wyP tb st (j + 1) = ((tb.getD r.toNat []).zipIdx).foldl (addP u) (wyP tb st j) := by
  show (match (wyP tb st j)[j]? with | some (r, u) => _ | none => _) = _
  rw [h]
theorem wyP_stop {tb : List (List Int)} {st : Int} {j : Nat} (h : (wyP tb st j).length ≤ j) : ∀ m, wyP tb st (j + m) = wyP tb st j
  | 0 => rfl
  | m + 1 => by
    have ih := wyP_stop h m
    show (match (wyP tb st (j + m))[j + m]? with | some (r, u) => _ | none => _) = _
    rw [List.getElem?_eq_none (by rw [ih]; omega)]
    exact ih
/-- each reached row but the first has the row ahead of it, met before, and the column -/
def WOk (H : Hp) (wd : Nat) (kvs : List (Key × V)) (o : Wy) : Prop := ∀ (i : Nat) (a : Int) (u : List Nat), o[i]? = some (a, u) → (u = [] ∧ valV kvs (Sum.inl a : Key) = some .non) ∨ ∃ (T : Addr) (j c : Nat) (b : Int) (v : List Nat), j < i ∧ o[j]? = some (b, v) ∧ u = v ++ [c] ∧ c < wd ∧ valV kvs (Sum.inl a : Key) = some (.ref T) ∧ H T = some (.tup [.int b, .int (c : Int)])
theorem WOk.keep {H H' : Hp} {wd : Nat} {kvs : List (Key × V)} {o : Wy} (h : WOk H wd kvs o) (k : KeepsTup H H') : WOk H' wd kvs o := fun i a u e => (h i a u e).imp id fun ⟨T, j, c, b, v, h1, h2, h3, h4, h5, h6⟩ => ⟨T, j, c, b, v, h1, h2, h3, h4, h5, k _ _ h6⟩
theorem WOk.one (H : Hp) (wd : Nat) (st : Int) : WOk H wd (putK [] (Sum.inl st : Key) .non) [(st, [])] := fun i a u e => by
  have e2 : (a, u) = (st, []) := List.mem_singleton.mp (List.mem_of_getElem? e)
  cases e2
  exact .inl ⟨rfl, by rw [valV_put, if_pos rfl]⟩
theorem WOk.put {H : Hp} {wd c j0 : Nat} {kvs : List (Key × V)} {o : Wy} {y r : Int} {v : List Nat} {T : Addr} (h : WOk H wd kvs o) (hy : y ∉ o.map (·.1)) (hT : H T = some (.tup [.int r, .int (c : Int)])) (hr : o[j0]? = some (r, v)) (hc : c < wd) : WOk H wd (putK kvs (Sum.inl y : Key) (.ref T)) (o ++ [(y, v ++ [c])]) := fun i a u e => by
  rw [valV_put]
  rcases Nat.lt_or_ge i o.length with lt | ge
  · rw [List.getElem?_append_left lt] at e
    have ne : a ≠ y := fun z => hy (z ▸ List.mem_map_of_mem (f := (·.1)) (List.mem_of_getElem? e))
    rw [if_neg fun z => ne (Sum.inl.inj z)]
    refine (h i a u e).imp id fun ⟨T, j, c, b, v, h1, h2, h3⟩ => ⟨T, j, c, b, v, h1, ?_, h3⟩
    rw [List.getElem?_append_left (by omega)]
    exact h2
  · rw [List.getElem?_append_right ge] at e
    have e2 : (a, u) = (y, v ++ [c]) := List.mem_singleton.mp (List.mem_of_getElem? e)
    cases e2
    rw [if_pos rfl]
    have lt := (List.getElem?_eq_some_iff.mp hr).1
    exact .inr ⟨T, j0, c, r, v, by omega, by rw [List.getElem?_append_left lt]; exact hr, rfl, hc, rfl, hT⟩
theorem foldP_grows (u : List Nat) : ∀ (l : List (Int × Nat)) (o : Wy), o <+: l.foldl (addP u) o
  | [], _ => List.prefix_refl _
  | p :: l, o => by
    refine List.IsPrefix.trans ?_ (foldP_grows u l _)
    unfold addP
    split
    · exact List.prefix_refl _
    · exact List.prefix_append _ _
def spWaysV (K : Frag) : Sp := fun vs H Q _ => ∃ (t : Addr) (tb : List (List Int)) (wd : Nat) (n st : Int), vs = [.ref t, .int st] ∧ TTab K H t tb ∧ TabOk tb wd n ∧ n ≤ 1000 ∧ wd ≤ 1000 ∧ 0 ≤ st ∧ st < n ∧
  ∀ D kvs H', H D = none → Same H H' → H' D = some (.dK kvs) → Keys kvs (wyA tb st tb.length) → Few n (wyA tb st tb.length) → WOk H' wd kvs (wyP tb st tb.length) → Q (.ref D) H'
section
variable {P : Program} {w : World} {K : PySem.W.Frag} {mg : Str → Option Value} {base : Heap}
theorem ok_waysV {f : Addr} {fd : FuncData} (F : Fun K "ways" "ways" sWays f fd) (T : TN mg) (en : mg "enumerate" = none) : FnOk P w K mg base CX0 1 f fd ["table", "start"] (spWaysV K) := by
  refine F.ok scWy (fun vs H Q E h => ?_) (fun cdv A outer s H vs Q E hr h => ?_)
  · obtain ⟨t, tb, wd, n, st, rfl, _⟩ := h
    rfl
  · obtain ⟨t, tb, wd, n, st, rfl, hT, ok, hn, hw, s0, s1, q⟩ := h
    have hub := hu_of hr
    refine ⟨_, pss_cons (ps_set (i := 2) scWy.nd rfl (Or.inl rfl) (pe_disp1 (Nat.lt_of_succ_lt hub) (pv 1) pe_non))
      (pss_cons (ps_set (i := 3) scWy.nd rfl (Or.inl rfl) (pe_lst (pa_cons (pv 1) pa_nil)))
      (pss_cons (ps_set (i := 4) scWy.nd rfl (Or.inl rfl) pe_int)
      (pss_cons (ps_while PassesOwn.never (pt_cmpR op_lt (pv 4) (pe_callB call_len_seq (by rfl) T.len PySem.boot_len (pa_cons (pv 3) pa_nil)) (nomark _))
        (pss_cons (ps_set (i := 5) scWy.nd rfl (Or.inl rfl) (pe_ix ix_list (pv 3) (pv 4) (fun _ _ => rfl)))
        (pss_cons (ps_aug (i := 4) scWy.nd rfl (Or.inl rfl) pe_int ip_add)
        (pss_one (ps_for PassesOwn.never rfl (ENU.pi_enT rfl en (pa_cons (pe_ix ix_tup (pv 0) (pv 5) (fun _ _ => rfl)) pa_nil)) (pg_tup (by rfl) (pgs_cons (pg_name (i := 6) scWy.nd rfl (Or.inl rfl)) (pgs_cons (pg_name (i := 7) scWy.nd rfl (Or.inl rfl)) pgs_nil)))
          (pss_one (ps_if (pt_cmp (pc_dnotin hub (pv 7) (pv 2)))
            (pss_cons (ps_dput hub (pv 2) (pv 7) (pe_tup (pa_cons (pv 5) (pa_cons (pv 6) pa_nil))) rfl)
            (pss_one (ps_expr (pe_bm PySem.F.plainAttrs_list PySem.F.slot_list_append PySem.F.type_list_append mt_append (pv 3) (pa_cons (pv 7) pa_nil))))) pss_nil)))))))
      (pss_one (ps_ret (pv 2)))))), ?_⟩
    refine ⟨.dK [], .inl rfl, fun D hD => ⟨_, rfl, _, DPut.k (kvs := []) (k := (Sum.inl st : Key)) upd_same (by show 0 < sizeLine; decide), ?_⟩⟩
    rw [upd_upd]
    refine ⟨_, rfl, by show 1 ≤ sizeLine; decide, fun M hM => ?_⟩
    have nD : H D = none := hD
    have nDM : D ≠ M := fun z => by rw [← z, upd_same] at hM; cases hM
    have nM : H M = none := (same_upd hD).free hM
    have hrow : ∀ r : Int, 0 ≤ r → r < n → (tb.getD r.toNat []) ∈ tb := fun r h0 h1 => by
      have hl := ok.len
      have : r.toNat < tb.length := by omega
      rw [List.getD_eq_getElem?_getD, List.getElem?_eq_getElem this]
      exact List.getElem_mem this
    refine while_by (fun σ H2 => ∃ (j : Nat) (kvs : List (Key × V)) (x5 x6 x7 : Option V), Same H H2 ∧ H2 D = some (.dK kvs) ∧ Keys kvs (wyA tb st j) ∧ H2 M = some (.lst ((wyA tb st j).map V.int)) ∧ Few n (wyA tb st j) ∧ WOk H2 wd kvs (wyP tb st j) ∧ j ≤ (wyA tb st j).length ∧
      σ = [some (.ref t), some (.int st), some (.ref D), some (.ref M), some (.int (j : Nat)), x5, x6, x7]) (fun σ _ => n.toNat - doneOf σ) ?_ ?_ ?_
    · refine ⟨0, _, none, none, none, same_two (same_upd hD) hM, same_upd hM _ _ upd_same, rfl, ?_, ⟨List.nodup_cons.mpr ⟨List.not_mem_nil, List.nodup_nil⟩, fun a ha => ?_⟩, WOk.one _ _ _, Nat.zero_le _, rfl⟩
      · exact upd_same
      · rw [List.mem_singleton.mp ha]
        exact ⟨s0, s1⟩
    · rintro σ H2 ⟨j, kvs, x5, x6, x7, s2, hd, keys, hm, few, wo, hle, rfl⟩
      have hlen : ((wyA tb st j).length : Int) ≤ n := few.len.elim id fun z => by rw [z]; show (0 : Int) ≤ n; omega
      refine ⟨_, rfl, _, rfl, M, _, rfl, .inl (SqL.of hm), _, _, rfl, rfl, _, rfl, ?_⟩
      rw [List.length_map]
      refine ite2 (fun hlt => ?_) (fun hge => ?_)
      · have hlt : ((j : Nat) : Int) < (((wyA tb st j).length : Nat) : Int) := of_decide_eq_true hlt
        have hlt : j < (wyA tb st j).length := by omega
        obtain ⟨r, hr2⟩ : ∃ r, (wyA tb st j)[j]? = some r := ⟨_, List.getElem?_eq_getElem hlt⟩
        have hrin := few.in_ r (List.mem_of_getElem? hr2)
        have hstep := wyA_at hr2
        obtain ⟨u0, hu0⟩ : ∃ u0, (wyP tb st j)[j]? = some (r, u0) := by
          rw [← wyP_fst, List.getElem?_map] at hr2
          cases hq : (wyP tb st j)[j]? with
          | none => rw [hq] at hr2; cases hr2
          | some p =>
            rw [hq] at hr2
            obtain ⟨x, u⟩ := p
            cases hr2
            exact ⟨u, rfl⟩
        have hstepP := wyP_at hu0
        have pm := wyP_fst (tb := tb) (st := st) j
        obtain ⟨ts, h1, h2⟩ := hT.same s2
        have hrl : r.toNat < tb.length := by have := ok.len; omega
        obtain ⟨a, e1, e2⟩ := h2.get hrl
        have at1 : atI (ts.map V.ref) r = some (.ref a) := by
          have e3 : r = ((r.toNat : Nat) : Int) := by omega
          rw [e3]
          exact atI_nat (by rw [List.getElem?_map, e1] <;> rfl)
        obtain ⟨rl, rb⟩ := ok.row _ (hrow r hrin.1 hrin.2)
        generalize tb.getD r.toNat [] = row at hstep hstepP e2 rl rb
        generalize hks : wyA tb st j = o at hr2 hstep hlen hlt hle hm keys few pm
        generalize wyP tb st j = ps at hu0 hstepP pm wo
        refine ⟨_, rfl, _, rfl, M, _, _, _, rfl, rfl, SqL.of hm, atI_nat (by rw [List.getElem?_map, hr2] <;> rfl), ?_⟩
        refine ⟨_, rfl, _, _, rfl, rfl, ?_⟩
        refine ⟨_, rfl, _, rfl, t, _, _, _, rfl, rfl, h1, at1, a, _, rfl, SqT.of e2, ?_⟩
        have naD : a ≠ D := fun z => by rw [z, hd] at e2; cases e2
        have naM : a ≠ M := fun z => by rw [z, hm] at e2; cases e2
        refine for_it ENU.walk_enT (fun i σ H3 => ∃ (kvs : List (Key × V)) (x6 x7 : Option V), Same H H3 ∧ H3 a = some (oTup row) ∧ H3 D = some (.dK kvs) ∧ Keys kvs ((row.take i).foldl addN o) ∧ H3 M = some (.lst (((row.take i).foldl addN o).map V.int)) ∧ Few n ((row.take i).foldl addN o) ∧ WOk H3 wd kvs (((row.take i).zipIdx).foldl (addP u0) ps) ∧
          σ = [some (.ref t), some (.int st), some (.ref D), some (.ref M), some (.int ((j : Int) + 1)), some (.int r), x6, x7]) ?_ (fun i σ H3 _ ⟨_, _, _, _, h, _⟩ => SqT.of h) ?_ ?_
        · exact ⟨kvs, x6, x7, s2, e2, hd, keys, hm, few, wo, rfl⟩
        · rintro i x σ H3 H4 hi ⟨kvs, x6, x7, s3, ha3, hd3, keys3, hm3, few3, wo3, rfl⟩ ⟨T2, y, rfl, hT2, rfl, hy⟩
          rw [List.getElem?_map] at hy
          cases hc : row[i]? with
          | none => rw [hc] at hy; cases hy
          | some y2 =>
            rw [hc] at hy
            obtain rfl : V.int y2 = y := Option.some.inj hy
            have yin := rb y2 (List.mem_of_getElem? hc)
            have tk : (row.take (i + 1)).foldl addN o = addN ((row.take i).foldl addN o) y2 := by
              rw [List.take_add_one, hc, List.foldl_append] <;> rfl
            have hcw : i < wd := rl ▸ (List.getElem?_eq_some_iff.mp hc).1
            have tkP : ((row.take (i + 1)).zipIdx).foldl (addP u0) ps = addP u0 (((row.take i).zipIdx).foldl (addP u0) ps) (y2, i) := by
              have il : (row.take i).length = i := by rw [List.length_take]; have := (List.getElem?_eq_some_iff.mp hc).1; omega
              rw [List.take_add_one, hc]
              show ((row.take i ++ [y2]).zipIdx).foldl (addP u0) ps = _
              rw [List.zipIdx_append, List.foldl_append, il, Nat.zero_add] <;> rfl
            have rin3 : (((row.take i).zipIdx).foldl (addP u0) ps)[j]? = some (r, u0) := by
              obtain ⟨t, ht⟩ := foldP_grows u0 ((row.take i).zipIdx) ps
              rw [← ht, List.getElem?_append_left (List.getElem?_eq_some_iff.mp hu0).1]
              exact hu0
            have pm3 : (((row.take i).zipIdx).foldl (addP u0) ps).map (·.1) = (row.take i).foldl addN o := by rw [foldP_fst, List.zipIdx_map_fst, pm]
            rw [tk, tkP]
            generalize (row.take i).foldl addN o = o3 at keys3 hm3 few3 pm3 ⊢
            generalize ((row.take i).zipIdx).foldl (addP u0) ps = p3 at wo3 rin3 pm3 ⊢
            have hlen3 : (o3.length : Int) ≤ n := few3.len.elim id fun z => by rw [z]; show (0 : Int) ≤ n; omega
            have s4 : Same H3 (upd H3 T2 (.tup [.int (i : Nat), .int y2])) := same_upd hT2
            have ha4 := s4 _ _ ha3
            have hd4 := s4 _ _ hd3
            have hm4 := s4 _ _ hm3
            have tu : (upd H3 T2 (.tup [.int (i : Nat), .int y2])) T2 = some (.tup [.int (i : Nat), .int y2]) := upd_same
            have s04 := s3.trans s4
            have wo4 := wo3.keep (Same.tup' s4)
            generalize upd H3 T2 (.tup [.int (i : Nat), .int y2]) = H4 at ha4 hd4 hm4 tu s04 wo4 ⊢
            refine ⟨T2, _, rfl, SqT.of tu, rfl, _, _, rfl, _, _, rfl, rfl, ?_⟩
            refine ⟨_, rfl, _, rfl, D, _, rfl, DGet.k (k := (Sum.inl y2 : Key)) hd4, _, rfl, ?_⟩
            by_cases hin : y2 ∈ o3
            · obtain ⟨v, hv⟩ := Option.ne_none_iff_exists'.mp ((keys3.val y2).mpr hin)
              rw [hv]
              refine iteF ?_
              refine ⟨kvs, _, _, s04, ha4, hd4, ?_, ?_, ?_, ?_, rfl⟩
              · unfold addN
                rw [if_pos hin]
                exact keys3
              · unfold addN
                rw [if_pos hin]
                exact hm4
              · unfold addN
                rw [if_pos hin]
                exact few3
              · unfold addP
                rw [if_pos (by rw [pm3]; exact hin)]
                exact wo4
            · have hv : valV kvs (Sum.inl y2 : Key) = none := Classical.byContradiction fun z => hin ((keys3.val y2).mp z)
              rw [hv]
              refine iteT ?_
              refine ⟨_, rfl, _, rfl, by show 2 ≤ sizeLine; decide, fun T3 hT3 => ?_⟩
              have s5 : Same H4 (upd H4 T3 (.tup [.int r, .int (i : Nat)])) := same_upd hT3
              refine ⟨_, rfl, _, rfl, D, _, rfl, DPut.k (k := (Sum.inl y2 : Key)) (s5 _ _ hd4) (by rw [keys3.len, sizeLine_eq]; omega), ?_⟩
              have hd5 := s5 _ _ hd4
              have hm5 := s5 _ _ hm4
              have ha5 := s5 _ _ ha4
              have s05 := s04.trans s5
              have wo5 := wo4.keep (Same.tup' s5)
              have t5 : upd H4 T3 (.tup [.int r, .int (i : Nat)]) T3 = some (.tup [.int r, .int (i : Nat)]) := upd_same
              generalize upd H4 T3 (.tup [.int r, .int (i : Nat)]) = H5 at hd5 hm5 ha5 s05 wo5 t5 ⊢
              have hm6 : upd H5 D (.dK (putK kvs (Sum.inl y2) (.ref T3))) M = some (.lst (o3.map V.int)) := by
                rw [upd_ne (Ne.symm nDM)]
                exact hm5
              refine ⟨_, rfl, .inl ⟨rfl, _, SqL.of hm6⟩, _, rfl, M, _, _, rfl, rfl, hm6, by rw [List.length_map, sizeLine_eq]; omega, ?_⟩
              refine ⟨putK kvs (Sum.inl y2) (.ref T3), _, _, same_at (same_at s05 nD) nM, ?_, ?_, ?_, ?_, few3.add yin, ?_, rfl⟩
              · rw [upd_ne naM, upd_ne naD]
                exact ha5
              · rw [upd_ne nDM, upd_same]
              · unfold addN
                rw [if_neg hin]
                exact keys3.put hin _
              · rw [upd_same]
                unfold addN
                rw [if_neg hin, List.map_append] <;> rfl
              · have kt := (tup_upd (o := .dK (putK kvs (Sum.inl y2) (.ref T3))) hd5 (fun _ z => nomatch z)).trans (tup_upd (o := .lst (o3.map V.int ++ [.int y2])) hm6 (fun _ z => nomatch z))
                unfold addP
                rw [if_neg (by rw [pm3]; exact hin)]
                exact (wo5.put (by rw [pm3]; exact hin) t5 rin3 hcw).keep kt
        · rintro σ H3 ⟨kvs, x6, x7, s3, ha3, hd3, keys3, hm3, few3, wo3, rfl⟩
          rw [List.length_map, List.take_length, ← hstep] at keys3 hm3 few3
          rw [List.length_map, List.take_length, ← hstepP] at wo3
          refine ⟨⟨j + 1, kvs, _, _, _, s3, hd3, keys3, hm3, few3, wo3, ?_, rfl⟩, ?_⟩
          · have : o.length ≤ (wyA tb st (j + 1)).length := by rw [hstep]; exact (addF_grows row o).length_le
            omega
          · show n.toNat - ((j : Int) + 1).toNat < n.toNat - ((j : Int)).toNat
            omega
      · have hge : ¬ (((j : Nat) : Int) < (((wyA tb st j).length : Nat) : Int)) := fun z => hge (decide_eq_true z)
        have e1 : wyA tb st tb.length = wyA tb st j := by
          have h4 := wyA_stop (tb := tb) (st := st) (j := j) (by omega) (tb.length - j)
          have := ok.len
          rw [show j + (tb.length - j) = tb.length by omega] at h4
          exact h4
        refine ⟨_, rfl, q D kvs H2 hD s2 hd ?_ ?_ ?_⟩
        · rw [e1]
          exact keys
        · rw [e1]
          exact few
        · have lp : (wyP tb st j).length = (wyA tb st j).length := by rw [← wyP_fst, List.length_map]
          have h4 := wyP_stop (tb := tb) (st := st) (j := j) (by omega) (tb.length - j)
          have := ok.len
          rw [show j + (tb.length - j) = tb.length by omega] at h4
          rw [h4]
          exact wo
    · exact fun σ H Q Q' hm ⟨v, hv, w', hw, M2, ys2, e2, hs2, i, j, a, b, k, hk, q⟩ => ⟨v, hv, w', hw, M2, ys2, e2, hs2, i, j, a, b, k, hk, hm _ _ q⟩
end
end WK
set_option Elab.async false
set_option linter.all false
set_option maxRecDepth 100000
set_option maxHeartbeats 8000000
namespace WK
open PySem L2 PyProof.Rows LCX K1 FV DP
open TX (sg sigs)
open PySem.W (Frag kitOne)
abbrev sAlong : Stmt := top 14
abbrev NAl : List Str := ["letters", "found", "row", "taken", "step"]
/-- a way's word -/
def wordL (L : W) (u : List Nat) : W := u.map fun c => L.getD c 0
def spAlong : Sp := fun vs H Q _ => ∃ (L : W) (D : Addr) (a : Int) (kvs : List (Key × V)) (o : Wy) (w0 : List Nat), vs = [.str (tx L), .ref D, .int a] ∧ L.length ≤ 3 ∧ H D = some (.dK kvs) ∧ WOk H L.length kvs o ∧ (a, w0) ∈ o ∧ o.length ≤ 1000 ∧ ∀ (H' : Hp), Same H H' → Q (.str (tx (wordL L w0))) H'
theorem val_key {D : Addr} {kvs : List (Key × V)} {H : Hp} {a : Int} (h : H D = some (.dK kvs)) : DGet H D (.int a) (valV kvs (Sum.inl a : Key)) := DGet.k (k := (Sum.inl a : Key)) h
section
variable {P : Program} {w : World} {K : PySem.W.Frag} {mg : Str → Option Value} {base : Heap}
theorem scAl : FnScope NAl ["letters", "found", "row"] (defScope sAlong) := ⟨rfl, rfl, rfl, by decide +kernel, rfl, by decide +kernel, by decide +kernel⟩
theorem ok_along {f : Addr} {fd : FuncData} (F : Fun K "word_along" "word_along" sAlong f fd) : FnOk P w K mg base CX0 1 f fd ["letters", "found", "row"] spAlong := by
  refine F.ok scAl (fun vs H Q E h => ?_) (fun cdv A outer s H vs Q E hr h => ?_)
  · obtain ⟨L, D, a, _, _, _, rfl, _⟩ := h
    rfl
  · obtain ⟨L, D, a, kvs, o, w0, rfl, hL, hd, wo, ha, hol, q⟩ := h
    have hub := hu_of hr
    refine ⟨_, pss_cons (ps_set (i := 3) scAl.nd rfl (Or.inl rfl) (pe_lst pa_nil))
      (pss_cons (ps_set (i := 4) scAl.nd rfl (Or.inl rfl) (pe_dget hub (pv 1) (pv 2) (fun _ _ => rfl)))
      (pss_cons (ps_while PassesOwn.never (pt_cmp (pc_notN (pv 4)))
        (pss_cons (ps_expr (pe_bm PySem.F.plainAttrs_list PySem.F.slot_list_append PySem.F.type_list_append mt_append (pv 3) (pa_cons (pe_ix ix_str (pv 0) (pe_ix ix_tup (pv 4) pe_int (fun _ _ => rfl)) (fun _ _ => rfl)) pa_nil)))
        (pss_one (ps_set (i := 4) scAl.nd rfl (Or.inl rfl) (pe_dget hub (pv 1) (pe_ix ix_tup (pv 4) pe_int (fun _ _ => rfl)) (fun _ _ => rfl))))))
      (pss_one (ps_ret (pe_join pe_str (pe_revL (pv 3))))))), ?_⟩
    obtain ⟨i0, hi0⟩ := List.mem_iff_getElem?.mp ha
    have lt0 := (List.getElem?_eq_some_iff.mp hi0).1
    obtain ⟨x0, hx0⟩ : ∃ x, valV kvs (Sum.inl a : Key) = some x := by
      rcases wo i0 a w0 hi0 with ⟨_, h⟩ | ⟨T, _, _, _, _, _, _, _, _, h, _⟩
      · exact ⟨_, h⟩
      · exact ⟨_, h⟩
    refine ⟨by show 0 ≤ sizeLine; decide, fun M hM => ?_⟩
    have s1 := same_upd (o := .lst []) hM
    have nDM : D ≠ M := fun z => by rw [← z, hd] at hM; cases hM
    refine ⟨_, rfl, _, rfl, D, x0, rfl, hx0 ▸ val_key (s1 _ _ hd), ?_⟩
    refine while_by (fun σ H2 => ∃ (us : W) (i : Nat) (b : Int) (v : List Nat) (x : V), Same H H2 ∧ H2 M = some (.lst ((us.map sg).map V.str)) ∧ wordL L w0 = wordL L v ++ us.reverse ∧ us.length + i ≤ i0 ∧ o[i]? = some (b, v) ∧ valV kvs (Sum.inl b : Key) = some x ∧ σ = [some (.str (tx L)), some (.ref D), some (.int a), some (.ref M), some x]) (fun _ H2 => i0 + 1 - (match H2 M with | some (.lst xs) => xs.length | _ => 0)) ?_ ?_ ?_
    · exact ⟨[], i0, a, w0, x0, s1, upd_same, (List.append_nil _).symm, Nat.le_of_eq (Nat.zero_add _), hi0, hx0, rfl⟩
    · rintro σ H2 ⟨us, i, b, v, x, s2, hm, hus, le, hb, hx, rfl⟩
      refine ⟨_, rfl, _, rfl, ?_⟩
      rcases wo i b v hb with ⟨ev, h⟩ | ⟨T, j, c, b2, v2, h1, h2, ev, h3, h4, h5⟩
      · obtain rfl : x = .non := Option.some.inj (hx.symm.trans h)
        refine iteF ?_
        refine ⟨⟨_, rfl⟩, _, rfl, M, _, rfl, SqL.of hm, fun p hp => ?_⟩
        have s3 := same_upd (o := .lst ((us.map sg).map V.str).reverse) hp
        refine ⟨_, p, us.reverse.map sg, rfl, rfl, .inl (SqL.of ?_), ?_, ?_⟩
        · rw [upd_same, ← List.map_reverse, ← List.map_reverse]
        · rw [sum_sg]
          show us.reverse.length + _ * 0 ≤ _
          rw [List.length_reverse]
          omega
        · rw [show Txt.join (Str.ofString "") (us.reverse.map sg) = tx us.reverse from join_sg us.reverse]
          have e : us.reverse = wordL L w0 := by rw [hus, ev]; rfl
          rw [e]
          exact q _ (s2.trans s3)
      · obtain rfl : x = .ref T := Option.some.inj (hx.symm.trans h4)
        refine iteT ?_
        have hT := s2 _ _ h5
        obtain ⟨y, hy⟩ : ∃ y, L[c]? = some y := ⟨_, List.getElem?_eq_getElem h3⟩
        have at1 : atI (tx L).cps.toList ((c : Nat) : Int) = some y := by rw [tx_list]; exact atI_nat hy
        have at2 : atI [V.int b2, V.int (c : Int)] 1 = some (.int (c : Int)) := rfl
        have at3 : atI [V.int b2, V.int (c : Int)] 0 = some (.int b2) := rfl
        have hz : (tx L).length ≤ sizeLine := by rw [tx_len, sizeLine_eq]; omega
        have yin : y ∈ L := List.mem_of_getElem? hy
        obtain ⟨x2, hx2⟩ : ∃ x2, valV kvs (Sum.inl b2 : Key) = some x2 := by
          rcases wo j b2 v2 h2 with ⟨_, h⟩ | ⟨T, _, _, _, _, _, _, _, _, h, _⟩
          · exact ⟨_, h⟩
          · exact ⟨_, h⟩
        refine ⟨_, rfl, .inl ⟨rfl, _, SqL.of hm⟩, _, rfl, _, rfl, T, _, _, _, rfl, rfl, SqT.of hT, at2, tx L, _, y, rfl, rfl, hz, at1, M, _, _, rfl, rfl, hm, by rw [List.length_map, List.length_map, sizeLine_eq]; omega, ?_⟩
        have s3 : Same H (upd H2 M (.lst ((us.map sg).map V.str ++ [V.str (sg y)]))) := same_at s2 hM
        have kt := tup_upd (o := .lst ((us.map sg).map V.str ++ [V.str (sg y)])) hm (fun _ z => nomatch z)
        have hd3 : upd H2 M (.lst ((us.map sg).map V.str ++ [V.str (sg y)])) D = some (.dK kvs) := s3 _ _ hd
        refine ⟨_, rfl, _, rfl, T, _, _, _, rfl, rfl, SqT.of (kt _ _ hT), at3, D, x2, rfl, hx2 ▸ val_key hd3, ?_⟩
        refine ⟨⟨us ++ [y], j, b2, v2, x2, s3, ?_, ?_, by rw [List.length_append, List.length_singleton]; omega, h2, hx2, rfl⟩, ?_⟩
        · rw [upd_same, List.map_append, List.map_append] <;> rfl
        · rw [hus, ev, List.reverse_append]
          unfold wordL
          rw [List.map_append, List.append_assoc]
          show _ ++ ([L.getD c 0] ++ us.reverse) = _ ++ ([y] ++ us.reverse)
          rw [List.getD_eq_getElem?_getD, hy] <;> rfl
        · show i0 + 1 - (match (upd H2 M _) M with | some (.lst xs) => xs.length | _ => 0) < i0 + 1 - (match H2 M with | some (.lst xs) => xs.length | _ => 0)
          rw [upd_same, hm]
          show i0 + 1 - ((us.map sg).map V.str ++ [_]).length < i0 + 1 - ((us.map sg).map V.str).length
          rw [List.length_append, List.length_map, List.length_map]
          show i0 + 1 - (us.length + 1) < _
          omega
    · exact fun σ H Q Q' hm ⟨v, hv, k, hk, q⟩ => ⟨v, hv, k, hk, hm _ _ q⟩
end
end WK
set_option Elab.async false
set_option linter.all false
set_option maxRecDepth 100000
set_option maxHeartbeats 8000000
namespace WK
open PySem L2 PyProof.Rows LCX K1 FV DP
open TX (sg sigs)
open PySem.W (Frag kitOne)
abbrev sFirsts : Stmt := top 78
abbrev NFi : List Str := ["machine", "box", "pairs", "rows", "found", "firsts", "at", "state", "place"]
abbrev pairT (tm tb : List (List Int)) (wd B : Nat) : List (List Int) × List (List Int) := exAll (pairF tm tb) (List.range wd) [0, 0] B
def spFirsts (C CB : Addr) : Sp := fun vs H Q _ => ∃ (m o : Addr) (L : W) (tm tb : List (List Int)) (es : List Int) (n k : Int) (B : Nat), vs = [.ref m, .ref o] ∧ Let L ∧ MacAt C H m L tm es ∧ BoxAt CB H o L tb ∧ TabOk tm L.length n ∧ TabOk tb L.length k ∧ 1 ≤ n ∧ 1 ≤ k ∧ n ≤ 1000 ∧ k ≤ 1000 ∧ es.length ≤ 1000 ∧
  Done (pairF tm tb) (List.range L.length) [0, 0] B ∧ B ≤ 400 ∧
  ∀ D kvs ps H', H D = none → Same H H' → H' D = some (.dK kvs) → Keys kvs ps → ps.Nodup → (∀ b : Int, b ∈ ps ↔ ∃ a ∈ es, [a, b] ∈ (pairT tm tb L.length B).1) → (∀ p ∈ kvs, ∃ u : W, p.2 = .str (tx u)) → Q (.ref D) H'
theorem eqV_int (a b : Int) : eqV (.int a) (.int b) = decide (a = b) := by
  show (a == b) = decide (a = b)
  rfl
theorem inV_int (r : Int) (es : List Int) : inV (.int r) (es.map V.int) = decide (r ∈ es) := by
  unfold inV
  rw [Bool.eq_iff_iff, decide_eq_true_eq, List.any_map, List.any_eq_true]
  constructor
  · rintro ⟨e, he, h⟩
    have h2 : eqV (.int e) (.int r) = true := h
    rw [eqV_int] at h2
    rw [← of_decide_eq_true h2]
    exact he
  · exact fun h => ⟨r, h, (eqV_int r r).trans (decide_eq_true rfl)⟩
theorem flat_ints (es : List Int) : (es.map V.int).all flatV = true := by
  rw [List.all_eq_true]
  intro v hv
  obtain ⟨i, _, rfl⟩ := List.mem_map.mp hv
  rfl
section
variable {P : Program} {w : World} {K : PySem.W.Frag} {mg : Str → Option Value} {base : Heap} {C cD cM CB cDB fP fW fA pT gT pE gE pB gB pL gL : Addr} {dP dW dA dT dE dB dL : FuncData}
theorem scFi : FnScope NFi ["machine", "box"] (defScope sFirsts) := ⟨rfl, rfl, rfl, by decide +kernel, rfl, by decide +kernel, by decide +kernel⟩
theorem ok_firsts {f : Addr} {fd : FuncData} (F : Fun K "_first_words" "_first_words" sFirsts f fd) (T : TN mg) (en : mg "enumerate" = none) (M : TMc K mg C cD cM) (MB : TBx K mg CB cDB)
    (RT : PropOf K C "table" pT gT) (GT : FnOk P w K mg base CX0 1 gT dT ["self"] (getSp C "_table")) (bT : Binds K dT ["self"] []) (RE : PropOf K C "ends" pE gE) (GE : FnOk P w K mg base CX0 1 gE dE ["self"] (getSp C "_ends")) (bE : Binds K dE ["self"] [])
    (RB : PropOf K CB "table" pB gB) (GB : FnOk P w K mg base CX0 1 gB dB ["self"] (getSp CB "_table")) (bB : Binds K dB ["self"] []) (RL : PropOf K CB "letters" pL gL) (GL : FnOk P w K mg base CX0 1 gL dL ["self"] (getSp CB "_letters")) (bL : Binds K dL ["self"] [])
    (gP : mg "paired" = some (.ref fP)) (kP : PySem.W.keepIn K (.ref fP) = true) (GP : FnOk P w K mg base CX0 1 fP dP ["one", "other", "start", "most"] (spPairedN K)) (bP : Binds K dP ["one", "other", "start", "most"] [Value.none])
    (AW : Fn K mg "ways" sWays ["table", "start"] fW dW) (GW : FnOk P w K mg base CX0 1 fW dW ["table", "start"] (spWaysV K)) (AA : Fn K mg "word_along" sAlong ["letters", "found", "row"] fA dA) (GA : FnOk P w K mg base CX0 1 fA dA ["letters", "found", "row"] spAlong) :
    FnOk P w K mg base CX0 3 f fd ["machine", "box"] (spFirsts C CB) := by
  refine F.ok scFi (fun vs H Q E h => ?_) (fun cdv A outer s H vs Q E hr h => ?_)
  · obtain ⟨m, o, _, _, _, _, _, _, _, rfl, _⟩ := h
    rfl
  · obtain ⟨m, o, L, tm, tb, es, n, k, B, rfl, hL, mac, bx, okM, okB, n1, k1, n2, k2, he, dn, hB, q⟩ := h
    have hub := hu_of hr
    have hr1 : Room 1 _ := hr.mono (by decide)
    refine ⟨_, pss_cons (ps_asg (pe_call (E := E0) GP hr1 rfl gP kP bP (.cons (show RelV V.non Value.none from rfl) .nil) pass0 (pa_cons (pe_prop (E := E0) (pv 0) M.cl RT GT hr bT .nil pass0 rfl) (pa_cons (pe_prop (E := E0) (pv 1) MB.cl RB GB hr bB .nil pass0 rfl) (pa_cons (pe_tup (pa_cons pe_int (pa_cons pe_int pa_nil))) pa_nil))))
        (pg_tup (by rfl) (pgs_cons (pg_name (i := 2) scFi.nd rfl (Or.inl rfl)) (pgs_cons (pg_name (i := 3) scFi.nd rfl (Or.inl rfl)) pgs_nil))))
      (pss_cons (ps_set (i := 4) scFi.nd rfl (Or.inl rfl) (pe_call GW hr1 rfl AW.g AW.F.kp AW.b .nil pass0 (pa_cons (pv 3) (pa_cons pe_int pa_nil))))
      (pss_cons (ps_set (i := 5) scFi.nd rfl (Or.inl rfl) pe_dnewK)
      (pss_cons (ps_for PassesOwn.never rfl (pi_enum rfl en (pa_cons (pv 2) pa_nil)) (pg_tup (by rfl) (pgs_cons (pg_name (i := 6) scFi.nd rfl (Or.inl rfl)) (pgs_cons (pg_tup (by rfl) (pgs_cons (pg_name (i := 7) scFi.nd rfl (Or.inl rfl)) (pgs_cons (pg_name (i := 8) scFi.nd rfl (Or.inl rfl)) pgs_nil))) pgs_nil)))
        (pss_one (ps_if (PW.pt (pw_and (pt_cmpR op_in_seq (pv 7) (pe_prop (E := E0) (pv 0) M.cl RE GE hr bE .nil pass0 rfl) (by rfl)) (pw_and1 (pt_cmp (pc_dnotin hub (pv 8) (pv 5))))))
          (pss_one (ps_dput hub (pv 5) (pv 8) (pe_call GA hr1 rfl AA.g AA.F.kp AA.b .nil pass0 (pa_cons (pe_prop (E := E0) (pv 1) MB.cl RL GL hr bL .nil pass0 rfl) (pa_cons (pv 4) (pa_cons (pv 6) pa_nil)))) rfl)) pss_nil)))
      (pss_one (ps_ret (pv 5)))))), ?_⟩
    obtain ⟨dxm, t, e, ts, hm, htt, hto, hte⟩ := mac.ex
    obtain ⟨dxb, r, hb, rows⟩ := id bx
    obtain ⟨tr, hr_, hro⟩ := id rows
    refine ⟨_, rfl, m, dxm, _, rfl, hm, m, dxm, _, _, rfl, hm, mfl_T, ?_⟩
    refine ⟨_, rfl, o, dxb, _, rfl, hb, o, dxb, _, _, rfl, hb, bfl_T, ?_⟩
    refine ⟨by show 2 ≤ sizeLine; decide, fun p0 hp0 => ?_⟩
    have s1 := same_upd (o := .tup [.int 0, .int 0]) hp0
    have a1 : upd H p0 (.tup [.int 0, .int 0]) p0 = some (.tup [.int 0, .int 0]) := upd_same
    refine ⟨t, r, p0, tm, tb, L.length, n, k, B, rfl, ⟨ts, SqT.of (s1 _ _ htt), hto.to fun _ _ _ z => s1 _ _ z⟩, ⟨tr, SqT.of (s1 _ _ hr_), hro.to fun _ _ _ z => s1 _ _ z⟩, okM, okB, n1, k1, n2, k2, hL.few, a1, exAll_most (Nat.le_of_eq dn.len), hB, fun t2 kk r2 ks H2 s2 ht2 rows2 hks are => ?_⟩
    have okP : TabOk (pairT tm tb L.length B).2 L.length ((B : Nat) : Int) := by
      have := dn.tab
      rw [List.length_range] at this
      exact this
    have bp := dn.pos
    have form : ∀ key ∈ (pairT tm tb L.length B).1, ∃ a b : Int, key = [a, b] := fun key hk => by
      obtain ⟨u, _, rfl⟩ := (dn.reach key).mp hk
      exact ⟨_, _, pair_fold tm tb u 0 0⟩
    have s02 := s1.trans s2
    refine ⟨t2, _, rfl, SqT.of ht2, rfl, _, _, rfl, _, _, rfl, rfl, ?_⟩
    refine ⟨_, rfl, r2, (pairT tm tb L.length B).2, L.length, (B : Nat), 0, rfl, rows_tt rows2, okP, by omega, by have := hL.few; omega, by omega, by omega, fun D kvs H3 nD s3 hd keys few wo => ?_⟩
    have s03 := s02.trans s3
    have hks3 := s3 _ _ hks
    have are3 := are.keep (Same.tup' s3)
    have alen := are3.len
    intro d hdn
    have nd := s03.free hdn
    refine ⟨_, rfl, kk, ks, rfl, SqL.of (same_upd hdn _ _ hks3), ?_⟩
    refine for_it walk_enum (fun i σ H5 => ∃ (kv : List (Key × V)) (ps : List Int) (x6 x7 x8 : Option V), Same H3 H5 ∧ H5 d = some (.dK kv) ∧ Keys kv ps ∧ ps.Nodup ∧ (∀ b : Int, b ∈ ps ↔ ∃ a ∈ es, [a, b] ∈ (pairT tm tb L.length B).1.take i) ∧ (∀ p ∈ kv, ∃ u : W, p.2 = .str (tx u)) ∧
      σ = [some (.ref m), some (.ref o), some (.ref kk), some (.ref r2), some (.ref D), some (.ref d), x6, x7, x8]) ?_ (fun i σ H5 _ ⟨_, _, _, _, _, s5, _⟩ => SqL.of (s5 _ _ hks3)) ?_ ?_
    · refine ⟨[], [], none, none, none, same_upd hdn, upd_same, rfl, List.nodup_nil, fun b => ⟨fun z => absurd z List.not_mem_nil, fun ⟨_, _, z⟩ => absurd z List.not_mem_nil⟩, fun _ z => absurd z List.not_mem_nil, rfl⟩
    · rintro i x σ H5 H6 hi ⟨kv, ps, x6, x7, x8, s5, hd5, keys5, nd5, in5, val5, rfl⟩ ⟨T2, y, z, rfl, hT2, rfl, hy, hz⟩
      have hi2 : i < (pairT tm tb L.length B).1.length := by rw [← alen]; exact hi
      obtain ⟨key, hkey⟩ : ∃ key, (pairT tm tb L.length B).1[i]? = some key := ⟨_, List.getElem?_eq_getElem hi2⟩
      obtain ⟨v, hv, isv⟩ := (are3.keep (Same.tup' s5)).get hkey
      obtain rfl : v = z := Option.some.inj (hv.symm.trans hz)
      obtain ⟨b1, rfl, hb1⟩ := isv
      have hb1 := kitI_is.mp ⟨b1, rfl, hb1⟩
      obtain ⟨a, b, rfl⟩ := form key (List.mem_of_getElem? hkey)
      obtain rfl : V.int ((i : Nat) : Int) = y := Option.some.inj hy
      have s6 : Same H5 (upd H5 T2 (.tup [.int ((i : Nat) : Int), .ref b1])) := same_upd hT2
      have tu : (upd H5 T2 (.tup [.int ((i : Nat) : Int), .ref b1])) T2 = some (.tup [.int ((i : Nat) : Int), .ref b1]) := upd_same
      have hb6 := s6 _ _ hb1
      have hd6 := s6 _ _ hd5
      have s36 := s5.trans s6
      have s06 := s03.trans s36
      have hm6 := s06 _ _ hm
      have hbx6 := s06 _ _ hb
      have hte6 := s06 _ _ hte
      have hD6 := s36 _ _ hd
      have wo6 := wo.keep (Same.tup' s36)
      generalize upd H5 T2 (.tup [.int ((i : Nat) : Int), .ref b1]) = H6 at tu hb6 hd6 s36 s06 hm6 hbx6 hte6 hD6 wo6 ⊢
      have tk : (pairT tm tb L.length B).1.take (i + 1) = (pairT tm tb L.length B).1.take i ++ [[a, b]] := by rw [List.take_add_one, hkey] <;> rfl
      refine ⟨T2, _, rfl, SqT.of tu, rfl, _, _, rfl, _, _, rfl, ⟨b1, _, rfl, SqT.of hb6, rfl, _, _, rfl, _, _, rfl, rfl, rfl, ?_⟩⟩
      refine ⟨_, rfl, _, rfl, m, dxm, _, rfl, hm6, m, dxm, _, _, rfl, hm6, mfl_E, e, _, rfl, .inr (SqT.of hte6), rfl, flat_ints es, _, rfl, ?_⟩
      rw [inV_int]
      by_cases ina : a ∈ es
      · rw [decide_eq_true ina]
        refine iteT ?_
        refine ⟨_, rfl, _, rfl, d, _, rfl, DGet.k (k := (Sum.inl b : Key)) hd6, _, rfl, ?_⟩
        by_cases inb : b ∈ ps
        · obtain ⟨v, hv⟩ := Option.ne_none_iff_exists'.mp ((keys5.val b).mpr inb)
          rw [hv]
          refine iteF ?_
          refine ⟨kv, ps, _, _, _, s36, hd6, keys5, nd5, fun c => ?_, val5, rfl⟩
          rw [in5 c, tk]
          refine ⟨fun ⟨x, hx, z⟩ => ⟨x, hx, List.mem_append_left _ z⟩, fun ⟨x, hx, z⟩ => (List.mem_append.mp z).elim (fun z => ⟨x, hx, z⟩) fun z => ?_⟩
          have z := List.mem_singleton.mp z
          injection z with z1 z2
          injection z2 with z2 _
          rw [z2]
          exact (in5 b).mp inb
        · have hv : valV kv (Sum.inl b : Key) = none := Classical.byContradiction fun z => inb ((keys5.val b).mp z)
          rw [hv]
          refine iteT ?_
          have lean := dn.lean.all
          have inw : ((i : Nat) : Int) ∈ wyA (pairT tm tb L.length B).2 0 (pairT tm tb L.length B).2.length := by
            rw [lean]
            have hl2 : ((exAll (pairF tm tb) (List.range L.length) [0, 0] B).2.length : Int) = ((B : Nat) : Int) := okP.len
            have hi3 : i < (exAll (pairF tm tb) (List.range L.length) [0, 0] B).1.length := hi2
            rw [dn.len] at hi3
            exact List.mem_map.mpr ⟨i, List.mem_range.mpr (by omega), rfl⟩
          have lenw : (wyA (pairT tm tb L.length B).2 0 (pairT tm tb L.length B).2.length).length ≤ 1000 := by
            rw [lean, List.length_map, List.length_range]
            have hl2 : ((exAll (pairF tm tb) (List.range L.length) [0, 0] B).2.length : Int) = ((B : Nat) : Int) := okP.len
            omega
          have kl := keys5.len
          have pl : ps.length ≤ 1000 := by
            have sub : ∀ x ∈ ps, x ∈ numsTo k := fun x hx => by
              obtain ⟨y, _, hy⟩ := (in5 x).mp hx
              obtain ⟨u, hu, eu⟩ := (dn.reach _).mp (List.mem_of_mem_take hy)
              rw [pair_fold] at eu
              injection eu with _ e2
              injection e2 with e2 _
              rw [← e2]
              have : ∀ (u : W) (c : Int), 0 ≤ c ∧ c < k → (∀ d ∈ u, d ∈ List.range L.length) → 0 ≤ u.foldl (rowF tb) c ∧ u.foldl (rowF tb) c < k := by
                intro u
                induction u with
                | nil => exact fun _ h _ => h
                | cons d u ih => exact fun c h hd => ih _ (rowF_in okB h (List.mem_range.mp (hd d (.head _)))) fun x hx => hd x (.tail _ hx)
              exact mem_nums.mpr (this u 0 ⟨Int.le_refl _, by omega⟩ hu)
            have := nd5.length_le_of_subset sub
            rw [List.length_map, List.length_range] at this
            omega
          obtain ⟨⟨i2, w0⟩, hw0, ei⟩ : ∃ p ∈ wyP (pairT tm tb L.length B).2 0 (pairT tm tb L.length B).2.length, p.1 = ((i : Nat) : Int) := by
            rw [← wyP_fst] at inw
            exact List.mem_map.mp inw
          have ei : i2 = ((i : Nat) : Int) := ei
          subst ei
          have lenp : (wyP (pairT tm tb L.length B).2 0 (pairT tm tb L.length B).2.length).length ≤ 1000 := by
            rw [← wyP_fst, List.length_map] at lenw
            exact lenw
          refine ⟨_, rfl, o, dxb, _, rfl, hbx6, o, dxb, _, _, rfl, hbx6, bfl_L, _, rfl, _, rfl, L, D, (i : Nat), kvs, _, w0, rfl, hL.few, hD6, wo6, hw0, lenp, fun H7 s7 => ?_⟩
          refine ⟨_, rfl, _, rfl, d, _, rfl, DPut.k (k := (Sum.inl b : Key)) (s7 _ _ hd6) (by rw [kl, sizeLine_eq]; omega), ?_⟩
          refine ⟨putK kv (Sum.inl b) (.str (tx (wordL L w0))), ps ++ [b], _, _, _, same_at (s36.trans s7) hdn, upd_same, keys5.put inb _, List.nodup_append.mpr ⟨nd5, List.nodup_cons.mpr ⟨List.not_mem_nil, List.nodup_nil⟩, fun x hx y hy z => inb ?_⟩, fun c => ?_, fun p hp => ?_, rfl⟩
          · rw [List.mem_singleton.mp hy] at z
            exact z ▸ hx
          · rw [tk, List.mem_append, in5 c]
            constructor
            · rintro (⟨x, hx, z⟩ | z)
              · exact ⟨x, hx, List.mem_append_left _ z⟩
              · rw [List.mem_singleton.mp z]
                exact ⟨a, ina, List.mem_append_right _ (List.mem_singleton.mpr rfl)⟩
            · rintro ⟨x, hx, z⟩
              rcases List.mem_append.mp z with z | z
              · exact .inl ⟨x, hx, z⟩
              · have z := List.mem_singleton.mp z
                injection z with z1 z2
                injection z2 with z2 _
                exact .inr (List.mem_singleton.mpr z2)
          · rw [putK_new _ hv] at hp
            rcases List.mem_append.mp hp with z | z
            · exact val5 p z
            · rw [List.mem_singleton.mp z]
              exact ⟨_, rfl⟩
      · rw [decide_eq_false ina]
        refine iteF ?_
        refine ⟨kv, ps, _, _, _, s36, hd6, keys5, nd5, fun c => ?_, val5, rfl⟩
        rw [in5 c, tk]
        refine ⟨fun ⟨x, hx, z⟩ => ⟨x, hx, List.mem_append_left _ z⟩, fun ⟨x, hx, z⟩ => (List.mem_append.mp z).elim (fun z => ⟨x, hx, z⟩) fun z => ?_⟩
        have z := List.mem_singleton.mp z
        injection z with z1 z2
        exact absurd (z1 ▸ hx) ina
    · rintro σ H5 ⟨kv, ps, x6, x7, x8, s5, hd5, keys5, nd5, in5, val5, rfl⟩
      rw [alen, List.take_length] at in5
      exact ⟨_, rfl, q d kv ps H5 nd (s03.trans s5) hd5 keys5 nd5 in5 val5⟩
end
end WK
set_option Elab.async false
set_option linter.all false
set_option maxRecDepth 100000
set_option maxHeartbeats 8000000
namespace WK
open PySem L2 PyProof.Rows LCX K1 FV DP
open TX (sg sigs)
open PySem.W (Frag kitOne)
abbrev sAlike : Stmt := top 74
abbrev sApart : Stmt := top 73
abbrev NAk : List Str := ["one", "other", "box", "left", "right", "place", "word"]
/-- the places of a machine's words -/
def placesOf (tm tb : List (List Int)) (es : List Int) (wd B : Nat) (b : Int) : Prop := ∃ a ∈ es, [a, b] ∈ (pairT tm tb wd B).1
/-- a machine and a box that are asked of together -/
structure Seen2 (C CB : Addr) (H : Hp) (m o : Addr) (L : W) (tm tb : List (List Int)) (es : List Int) (n k : Int) (B : Nat) : Prop where
  mac : MacAt C H m L tm es
  okM : TabOk tm L.length n
  n1 : 1 ≤ n
  n2 : n ≤ 1000
  few : es.length ≤ 1000
  dn : Done (pairF tm tb) (List.range L.length) [0, 0] B
  B4 : B ≤ 400
def spAlike (C CB : Addr) : Sp := fun vs H Q _ => ∃ (m1 m2 o : Addr) (L : W) (t1 t2 tb : List (List Int)) (e1 e2 : List Int) (n1 n2 k : Int) (B1 B2 : Nat), vs = [.ref m1, .ref m2, .ref o] ∧ Let L ∧ BoxAt CB H o L tb ∧ TabOk tb L.length k ∧ 1 ≤ k ∧ k ≤ 1000 ∧ Seen2 C CB H m1 o L t1 tb e1 n1 k B1 ∧ Seen2 C CB H m2 o L t2 tb e2 n2 k B2 ∧
  ∀ v H', ((v = .non ∧ ∀ b : Int, placesOf t1 tb e1 L.length B1 b → ¬ placesOf t2 tb e2 L.length B2 b) ∨ ((∃ r, v = .ref r) ∧ ∃ b : Int, placesOf t1 tb e1 L.length B1 b ∧ placesOf t2 tb e2 L.length B2 b)) → (∀ b ob, H b = some ob → H' b = some ob) → Q v H'
section
variable {P : Program} {w : World} {K : PySem.W.Frag} {mg : Str → Option Value} {base : Heap} {C CB fN fL fF : Addr} {dN dL dF : FuncData}
theorem scAk : FnScope NAk ["one", "other", "box"] (defScope sAlike) := ⟨rfl, rfl, rfl, by decide +kernel, rfl, by decide +kernel, by decide +kernel⟩
theorem ok_alike {f : Addr} {fd : FuncData} (F : Fun K "alike_pair" "alike_pair" sAlike f fd) (gN : mg "need_sights" = some (.ref fN)) (kN : PySem.W.keepIn K (.ref fN) = true) (bN : Binds K dN ["machines", "box"] []) (GN : FnOk P w K mg base CX0 2 fN dN ["machines", "box"] (spNeedAll K C CB)) (AL : Fn K mg "_need_letters" sNeedLs ["machines", "box"] fL dL) (GL : FnOk P w K mg base CX0 3 fL dL ["machines", "box"] (spNeedLs K C CB))
    (AF : Fn K mg "_first_words" sFirsts ["machine", "box"] fF dF) (GF : FnOk P w K mg base CX0 3 fF dF ["machine", "box"] (spFirsts C CB)) : FnOk P w K mg base CX0 4 f fd ["one", "other", "box"] (spAlike C CB) := by
  refine F.ok scAk (fun vs H Q E h => ?_) (fun cdv A outer s H vs Q E hr h => ?_)
  · obtain ⟨m1, m2, o, _, _, _, _, _, _, _, _, _, _, _, rfl, _⟩ := h
    rfl
  · obtain ⟨m1, m2, o, L, t1, t2, tb, e1, e2, n1, n2, k, B1, B2, rfl, hL, bx, okB, k1, k2, S1, S2, q⟩ := h
    have hub := hu_of hr
    have hr2 : Room 2 _ := hr.mono (by decide)
    refine ⟨_, pss_cons (ps_expr (pe_call GN hr2 rfl gN kN bN .nil pass0 (pa_cons (pe_tup (pa_cons (pv 0) (pa_cons (pv 1) pa_nil))) (pa_cons (pv 2) pa_nil))))
      (pss_cons (ps_expr (pe_call GL hr rfl AL.g AL.F.kp AL.b .nil pass0 (pa_cons (pe_tup (pa_cons (pv 0) (pa_cons (pv 1) pa_nil))) (pa_cons (pv 2) pa_nil))))
      (pss_cons (ps_set (i := 3) scAk.nd rfl (Or.inl rfl) (pe_call GF hr rfl AF.g AF.F.kp AF.b .nil pass0 (pa_cons (pv 0) (pa_cons (pv 2) pa_nil))))
      (pss_cons (ps_set (i := 4) scAk.nd rfl (Or.inl rfl) (pe_call GF hr rfl AF.g AF.F.kp AF.b .nil pass0 (pa_cons (pv 1) (pa_cons (pv 2) pa_nil))))
      (pss_cons (ps_lock (ps_for PassesOwn.never rfl (pi_items (pv 3)) (pg_tup (by rfl) (pgs_cons (pg_name (i := 5) scAk.nd rfl (Or.inl rfl)) (pgs_cons (pg_name (i := 6) scAk.nd rfl (Or.inl rfl)) pgs_nil)))
        (pss_one (ps_if (pt_cmp (pc_din hub (pv 5) (pv 4))) (pss_one (ps_ret (pe_tup (pa_cons (pv 6) (pa_cons (pe_dget hub (pv 4) (pv 5) (fun _ _ => rfl)) pa_nil))))) pss_nil))))
      (pss_one (ps_ret pe_non)))))), ?_⟩
    refine ⟨_, rfl, _, rfl, by show 2 ≤ sizeLine; decide, fun p1 hp1 => ⟨_, rfl, p1, m1, m2, o, L, tb, rfl, SqT.of upd_same, ?_, ?_, bx.same (same_upd hp1), ?_⟩⟩
    · obtain ⟨dx, t, e, _, h, _⟩ := S1.mac.ex
      exact ⟨dx, _, same_upd hp1 _ _ h⟩
    · obtain ⟨dx, t, e, _, h, _⟩ := S2.mac.ex
      exact ⟨dx, _, same_upd hp1 _ _ h⟩
    have s1 := same_upd (o := .tup [.ref m1, .ref m2]) hp1
    generalize upd H p1 (.tup [.ref m1, .ref m2]) = H1 at s1 ⊢
    refine ⟨_, rfl, _, rfl, by show 2 ≤ sizeLine; decide, fun p2 hp2 => ?_⟩
    have s2 := s1.trans (same_upd (o := .tup [.ref m1, .ref m2]) hp2)
    refine ⟨_, rfl, p2, m1, m2, o, L, tb, t1, t2, e1, e2, rfl, SqT.of upd_same, S1.mac.same s2, S2.mac.same s2, bx.same s2, ?_⟩
    generalize upd H1 p2 (.tup [.ref m1, .ref m2]) = H2 at s2 ⊢
    refine ⟨_, rfl, _, rfl, m1, o, L, t1, tb, e1, n1, k, B1, rfl, hL, S1.mac.same s2, bx.same s2, S1.okM, okB, S1.n1, k1, S1.n2, k2, S1.few, S1.dn, S1.B4, fun d1 kv1 ps1 H3 nd1 s3 hd1 keys1 nod1 in1 val1 => ?_⟩
    have s03 := s2.trans s3
    refine ⟨_, rfl, _, rfl, m2, o, L, t2, tb, e2, n2, k, B2, rfl, hL, S2.mac.same s03, bx.same s03, S2.okM, okB, S2.n1, k1, S2.n2, k2, S2.few, S2.dn, S2.B4, fun d2 kv2 ps2 H4 nd2 s4 hd2 keys2 nod2 in2 val2 => ?_⟩
    have s04 := s03.trans s4
    have hd14 := s4 _ _ hd1
    have nd1H : H d1 = none := s2.free nd1
    have d12 : d1 ≠ d2 := ne_of_none hd1 nd2
    refine ⟨d1, _, hd14, trivial, fun od => ?_⟩
    refine ⟨_, rfl, d1, od, kv1, rfl, upd_same, ?_⟩
    have kl := keys1.len
    have keepU : ∀ {H5 : Hp} {u : HO}, (∀ b ob, H b = some ob → H5 b = some ob) → ∀ b ob, H b = some ob → upd H5 d1 u b = some ob := fun {H5 u} h b ob e => by
      rw [upd_ne (ne_of_none e nd1H)]
      exact h b ob e
    refine for_it walk_items (fun i σ H5 => (∃ x5 x6, σ = [some (.ref m1), some (.ref m2), some (.ref o), some (.ref d1), some (.ref d2), x5, x6]) ∧ H5 d1 = some (.frz od (.dK kv1)) ∧ H5 d2 = some (.dK kv2) ∧ (∀ b ob, H b = some ob → H5 b = some ob) ∧ ∀ (j : Nat) (b : Int), j < i → ps1[j]? = some b → b ∉ ps2) ?_ (fun _ _ _ _ h => h.2.1) ?_ ?_
    · exact ⟨⟨_, _, rfl⟩, upd_same, by rw [upd_ne (Ne.symm d12)]; exact hd2, keepU fun b ob e => s04 _ _ e, fun j b z => absurd z (Nat.not_lt_zero _)⟩
    · rintro i x σ H5 H6 hi ⟨⟨x5, x6, rfl⟩, hf, hd25, kp, no⟩ ⟨T, y, z, rfl, hT, rfl, hy, hz⟩
      have hi2 : i < ps1.length := by omega
      have ek : kv1[i].1 = Sum.inl ps1[i] := by
        have := congrArg (fun l : List Key => l[i]?) (show kv1.map (·.1) = ps1.map Sum.inl from keys1)
        simp only [List.getElem?_map, List.getElem?_eq_getElem hi, List.getElem?_eq_getElem hi2] at this
        exact Option.some.inj this
      obtain rfl : V.int ps1[i] = y := by
        have hy : (kv1[i]?.map fun kv => kV kv.1) = some y := hy
        rw [List.getElem?_eq_getElem hi] at hy
        have hk : kV kv1[i].1 = y := Option.some.inj hy
        rw [ek] at hk
        exact hk
      have hb : ps1[i]? = some ps1[i] := List.getElem?_eq_getElem hi2
      have s6 : Same H5 (upd H5 T (.tup [.int ps1[i], z])) := same_upd hT
      have tu : (upd H5 T (.tup [.int ps1[i], z])) T = some (.tup [.int ps1[i], z]) := upd_same
      have hf6 := s6 _ _ hf
      have hd26 := s6 _ _ hd25
      have kp6 : ∀ b ob, H b = some ob → upd H5 T (.tup [.int ps1[i], z]) b = some ob := fun b ob e => s6 _ _ (kp b ob e)
      generalize upd H5 T (.tup [.int ps1[i], z]) = H6 at tu hf6 hd26 kp6 ⊢
      refine ⟨T, _, rfl, SqT.of tu, rfl, _, _, rfl, _, _, rfl, rfl, ?_⟩
      refine ⟨_, rfl, _, rfl, d2, _, rfl, DGet.k (k := (Sum.inl ps1[i] : Key)) hd26, _, rfl, ?_⟩
      by_cases inb : ps1[i] ∈ ps2
      · obtain ⟨v, hv⟩ := Option.ne_none_iff_exists'.mp ((keys2.val ps1[i]).mpr inb)
        rw [hv]
        refine iteT ?_
        refine ⟨_, rfl, _, rfl, _, rfl, d2, v, rfl, hv ▸ DGet.k (k := (Sum.inl ps1[i] : Key)) hd26, by show 2 ≤ sizeLine; decide, fun r hr => ?_⟩
        have s7 := same_upd (o := .tup [z, v]) hr
        exact ⟨s7 _ _ hf6, q (.ref r) _ (.inr ⟨⟨r, rfl⟩, ps1[i], (in1 _).mp (List.getElem_mem hi2), (in2 _).mp inb⟩) (keepU fun b ob e => s7 _ _ (kp6 b ob e))⟩
      · have hv : valV kv2 (Sum.inl ps1[i] : Key) = none := Classical.byContradiction fun z => inb ((keys2.val _).mp z)
        rw [hv]
        refine iteF ?_
        refine ⟨⟨_, _, rfl⟩, hf6, hd26, kp6, fun j b hj e => ?_⟩
        rcases Nat.lt_or_ge j i with lt | ge
        · exact no j b lt e
        · obtain rfl : j = i := by omega
          rw [hb] at e
          exact Option.some.inj e ▸ inb
    · rintro σ H5 ⟨⟨x5, x6, rfl⟩, hf, hd25, kp, no⟩
      refine ⟨hf, q .non _ (.inl ⟨rfl, fun b h1 h2 => ?_⟩) (keepU kp)⟩
      obtain ⟨j, hj⟩ := List.mem_iff_getElem?.mp ((in1 b).mpr h1)
      have lt := (List.getElem?_eq_some_iff.mp hj).1
      exact no j b (by omega) hj ((in2 b).mpr h2)
def spApart (C CB : Addr) : Sp := fun vs H Q _ => ∃ (m1 m2 o : Addr) (L : W) (t1 t2 tb : List (List Int)) (e1 e2 : List Int) (n1 n2 k : Int) (B1 B2 : Nat), vs = [.ref m1, .ref m2, .ref o] ∧ Let L ∧ BoxAt CB H o L tb ∧ TabOk tb L.length k ∧ 1 ≤ k ∧ k ≤ 1000 ∧ Seen2 C CB H m1 o L t1 tb e1 n1 k B1 ∧ Seen2 C CB H m2 o L t2 tb e2 n2 k B2 ∧
  ∀ (x : Bool) H', (x = true ↔ ∀ b : Int, placesOf t1 tb e1 L.length B1 b → ¬ placesOf t2 tb e2 L.length B2 b) → (∀ b ob, H b = some ob → H' b = some ob) → Q (.bl x) H'
theorem scAp : FnScope ["one", "other", "box"] ["one", "other", "box"] (defScope sApart) := ⟨rfl, rfl, rfl, by decide +kernel, rfl, by decide +kernel, by decide +kernel⟩
theorem ok_apart {f fA : Addr} {fd dA : FuncData} (F : Fun K "tells_apart" "tells_apart" sApart f fd) (AA : Fn K mg "alike_pair" sAlike ["one", "other", "box"] fA dA) (GA : FnOk P w K mg base CX0 4 fA dA ["one", "other", "box"] (spAlike C CB)) :
    FnOk P w K mg base CX0 5 f fd ["one", "other", "box"] (spApart C CB) := by
  refine F.ok scAp (fun vs H Q E h => ?_) (fun cdv A outer s H vs Q E hr h => ?_)
  · obtain ⟨m1, m2, o, _, _, _, _, _, _, _, _, _, _, _, rfl, _⟩ := h
    rfl
  · obtain ⟨m1, m2, o, L, t1, t2, tb, e1, e2, n1, n2, k, B1, B2, rfl, hL, bx, okB, k1, k2, S1, S2, q⟩ := h
    refine ⟨_, pss_one (ps_ret (pe_cmp (pc_isN (pe_call GA hr rfl AA.g AA.F.kp AA.b .nil pass0 (pa_cons (pv 0) (pa_cons (pv 1) (pa_cons (pv 2) pa_nil))))))), ?_⟩
    refine ⟨_, rfl, _, rfl, _, rfl, m1, m2, o, L, t1, t2, tb, e1, e2, n1, n2, k, B1, B2, rfl, hL, bx, okB, k1, k2, S1, S2, fun v H' h kp => ?_⟩
    rcases h with ⟨rfl, h⟩ | ⟨⟨r, rfl⟩, b, h1, h2⟩
    · exact q true H' (Iff.intro (fun _ => h) fun _ => rfl) kp
    · exact q false H' (Iff.intro (fun z => nomatch z) fun z => absurd h2 (z b h1)) kp
end
end WK
set_option Elab.async false
set_option linter.all false
set_option maxRecDepth 100000
set_option maxHeartbeats 4000000
namespace WK
open PySem L2 PyProof.Rows LCX K1 FV DP
/-- over which letters, how it counts, which machine -/
structure Sch (L : W) (cap md n : Int) (tb : List (List Int)) : Prop where
  nd : L.Nodup
  k1 : 1 ≤ L.length
  k2 : L.length ≤ 2
  c0 : 0 ≤ cap
  c1 : cap ≤ 12
  m0 : 1 ≤ md
  m1 : md ≤ 12
  n0 : 1 ≤ n
  n1 : n ≤ 4
  ok : TabOk tb L.length n
section
variable {L : W} {cap md n : Int} {tb : List (List Int)}
def stW (L : W) (tb : List (List Int)) (u : W) : Int := ledL L tb u 0
def keyW (L : W) (cap md n : Int) (tb : List (List Int)) (u : W) : Int := keyN (cap + md) n (vecW L cap md u) (stW L tb u)
/-- how many keys there are -/
def allK (L : W) (cap md n : Int) : Int := (cap + md) * (if L.length = 1 then n else (cap + md) * n)
def unitAt (L : W) (cap md n : Int) (i : Nat) : Int := (unitsN (cap + md) n L.length).getD i 0
def afterAt (tb : List (List Int)) (n x : Int) (i : Nat) : Int := (tb.getD (x % n).toNat []).getD i 0
def nxt (L : W) (cap md n : Int) (tb : List (List Int)) (x : Int) (i : Nat) : Int := nextN (cap + md) n md x (unitAt L cap md n i) (afterAt tb n x i)
variable (S : Sch L cap md n tb)
include S
theorem Sch.st_in {u : W} (hu : ∀ c ∈ u, c ∈ L) : 0 ≤ stW L tb u ∧ stW L tb u < n := by
  have h : ∀ (u : W) (r : Int), (∀ c ∈ u, c ∈ L) → 0 ≤ r ∧ r < n → 0 ≤ ledL L tb u r ∧ ledL L tb u r < n := by
    intro u
    induction u with
    | nil => exact fun _ _ h => h
    | cons c u ih => exact fun r hu hr => ih _ (fun d hd => hu d (.tail _ hd)) (stepL_in S.ok hr (hu c (.head _)))
  exact h u 0 hu ⟨Int.le_refl _, by have := S.n0; omega⟩
theorem Sch.bd (u : W) : TS.Bd (cap + md) (vecW L cap md u) := vec_bd S.c0 S.m0 u
theorem Sch.div {u : W} (hu : ∀ c ∈ u, c ∈ L) : keyW L cap md n tb u / n = TS.code (cap + md) (vecW L cap md u) ∧ keyW L cap md n tb u % n = stW L tb u := key_div (S.bd u) (S.st_in hu).1 (S.st_in hu).2
theorem Sch.inN {u : W} (hu : ∀ c ∈ u, c ∈ L) : 0 ≤ keyW L cap md n tb u ∧ keyW L cap md n tb u < allK L cap md n := key_in (S.bd u) (vec_len L cap md u) S.k1 S.k2 (S.st_in hu).1 (S.st_in hu).2
theorem Sch.units : (unitsN (cap + md) n L.length).length = L.length := (head_units (cap + md) n S.k1 S.k2).choose_spec.2
theorem Sch.unit_at {i : Nat} (hi : i < L.length) : (unitsN (cap + md) n L.length)[i]? = some (unitAt L cap md n i) := by
  unfold unitAt
  rw [List.getD_eq_getElem?_getD, List.getElem?_eq_getElem (by rw [S.units]; exact hi)] <;> rfl
theorem Sch.small : 1 ≤ (cap + md) * n ∧ (cap + md) * n ≤ 96 ∧ 1 ≤ cap + md ∧ cap + md ≤ 24 := by
  have := S.c0
  have := S.c1
  have := S.m0
  have := S.m1
  have := S.n0
  have := S.n1
  rcases (show n = 1 ∨ n = 2 ∨ n = 3 ∨ n = 4 by omega) with rfl | rfl | rfl | rfl <;> omega
theorem Sch.unit_in {i : Nat} (hi : i < L.length) : 1 ≤ unitAt L cap md n i ∧ unitAt L cap md n i ≤ 96 := by
  have h1 := S.small
  have h2 := S.n0
  have h3 := S.n1
  have h := S.unit_at hi
  rcases (show L.length = 1 ∨ L.length = 2 by have := S.k1; have := S.k2; omega) with e | e
  · rw [e] at h hi
    obtain rfl : i = 0 := by omega
    obtain e2 : n = unitAt L cap md n 0 := Option.some.inj h
    omega
  · rw [e] at h hi
    rcases (show i = 0 ∨ i = 1 by omega) with rfl | rfl
    · obtain e2 : (cap + md) * n = unitAt L cap md n 0 := Option.some.inj h
      omega
    · obtain e2 : n = unitAt L cap md n 1 := Option.some.inj h
      omega
theorem Sch.all_in : 1 ≤ allK L cap md n ∧ allK L cap md n ≤ 2304 := by
  have h1 := S.small
  have h2 := S.n0
  have h3 := S.n1
  unfold allK
  split
  · omega
  · generalize (cap + md) * n = y at h1 ⊢
    generalize cap + md = s at h1 ⊢
    have a : s * 1 ≤ s * y := Int.mul_le_mul_of_nonneg_left (by omega) (by omega)
    have b : s * y ≤ 24 * y := Int.mul_le_mul_of_nonneg_right (by omega) (by omega)
    omega
theorem Sch.step {u : W} (hu : ∀ c ∈ u, c ∈ L) {i : Nat} (hi : i < L.length) : nxt L cap md n tb (keyW L cap md n tb u) i = keyW L cap md n tb (u ++ [L[i]]) := by
  have hst := S.st_in hu
  unfold nxt
  show nextN (cap + md) n md (keyN (cap + md) n (vecW L cap md u) (stW L tb u)) _ _ = _
  rw [next_key (S.bd u) (vec_len L cap md u) S.k1 S.k2 hst.1 hst.2 rfl S.c0 S.m0 hi (S.unit_at hi), ← cnt_set S.nd _ (vec_len L cap md u) hi, vec_snoc S.m0]
  unfold keyW
  congr 1
  unfold afterAt
  show (tb.getD (keyW L cap md n tb u % n).toNat []).getD i 0 = _
  rw [(S.div hu).2]
  unfold stW ledL
  rw [List.foldl_append]
  show _ = (tb.getD (stW L tb u).toNat []).getD (L.idxOf L[i]) 0
  rw [S.nd.idxOf_getElem] <;> rfl
theorem Sch.nil : keyW L cap md n tb [] = 0 := by
  unfold keyW
  rw [vec_nil S.c0 S.m0]
  have e : ∀ l : W, TS.code (cap + md) (zeros l) = 0 := by
    intro l
    induction l with
    | nil => rfl
    | cons c l ih =>
      show 0 * _ + TS.code (cap + md) (zeros l) = 0
      rw [ih, Int.zero_mul, Int.add_zero]
  unfold keyN
  rw [e, Int.zero_mul, Int.zero_add] <;> rfl
end
def isT (bs : List Bool) (x : Int) : Prop := bs[x.toNat]? = some true
/-- the search at a turn's begin: what is met, what waits -/
structure Met (L : W) (cap md n : Int) (tb : List (List Int)) (bs : List Bool) (qs : List Int) : Prop where
  len : (bs.length : Int) = allK L cap md n
  sound : ∀ i : Nat, bs[i]? = some true → ∃ u : W, (∀ c ∈ u, c ∈ L) ∧ keyW L cap md n tb u = (i : Int)
  zero : isT bs 0
  wait : ∀ x ∈ qs, 0 ≤ x ∧ isT bs x
  done : ∀ i : Nat, bs[i]? = some true → (i : Int) ∉ qs → ∀ j < L.length, isT bs (nxt L cap md n tb (i : Int) j)
/-- .. amid a turn: x is taken, the letters ahead of j gone through -/
structure Mid (L : W) (cap md n : Int) (tb : List (List Int)) (x : Int) (j : Nat) (bs : List Bool) (qs : List Int) : Prop where
  len : (bs.length : Int) = allK L cap md n
  sound : ∀ i : Nat, bs[i]? = some true → ∃ u : W, (∀ c ∈ u, c ∈ L) ∧ keyW L cap md n tb u = (i : Int)
  zero : isT bs 0
  at_ : 0 ≤ x ∧ isT bs x
  wait : ∀ x ∈ qs, 0 ≤ x ∧ isT bs x
  done : ∀ i : Nat, bs[i]? = some true → (i : Int) ∉ qs → (i : Int) ≠ x → ∀ j < L.length, isT bs (nxt L cap md n tb (i : Int) j)
  mine : ∀ i < j, isT bs (nxt L cap md n tb x i)
def left (bs : List Bool) : Nat := bs.count false
section
variable {L : W} {cap md n : Int} {tb : List (List Int)} {bs : List Bool} {qs : List Int} {x : Int} {j : Nat}
theorem Met.pop (M : Met L cap md n tb bs qs) (h : qs[qs.length - 1]? = some x) : Mid L cap md n tb x 0 bs qs.dropLast := by
  have hx : x ∈ qs := List.mem_of_getElem? h
  refine ⟨M.len, M.sound, M.zero, M.wait x hx, fun y hy => M.wait y (List.dropLast_subset _ hy), fun i hi hq hn => M.done i hi fun z => ?_, fun i hi => absurd hi (Nat.not_lt_zero _)⟩
  obtain ⟨q, hq2⟩ : ∃ q, qs = q ++ [x] := by
    have ne : qs ≠ [] := List.ne_nil_of_mem hx
    refine ⟨qs.dropLast, ?_⟩
    have e := List.dropLast_concat_getLast ne
    rw [List.getLast_eq_getElem] at e
    rw [List.getElem?_eq_getElem (by have := List.length_pos_iff.mpr ne; omega)] at h
    rw [← Option.some.inj h]
    exact e.symm
  rw [hq2, List.dropLast_concat] at hq
  rw [hq2] at z
  rcases List.mem_append.mp z with z | z
  · exact hq z
  · exact hn (List.mem_singleton.mp z)
theorem Mid.word (S : Sch L cap md n tb) (M : Mid L cap md n tb x j bs qs) : ∃ u : W, (∀ c ∈ u, c ∈ L) ∧ keyW L cap md n tb u = x := by
  obtain ⟨u, hu, e⟩ := M.sound _ M.at_.2
  exact ⟨u, hu, by rw [e]; have := M.at_.1; omega⟩
theorem Mid.next (S : Sch L cap md n tb) (M : Mid L cap md n tb x j bs qs) (hj : j < L.length) : 0 ≤ nxt L cap md n tb x j ∧ nxt L cap md n tb x j < allK L cap md n := by
  obtain ⟨u, hu, rfl⟩ := M.word S
  rw [S.step hu hj]
  refine S.inN fun c hc => ?_
  rcases List.mem_append.mp hc with z | z
  · exact hu c z
  · rw [List.mem_singleton.mp z]
    exact List.getElem_mem _
theorem Mid.old (M : Mid L cap md n tb x j bs qs) (h : isT bs (nxt L cap md n tb x j)) : Mid L cap md n tb x (j + 1) bs qs :=
  ⟨M.len, M.sound, M.zero, M.at_, M.wait, M.done, fun i hi => by
    rcases Nat.lt_succ_iff_lt_or_eq.mp hi with z | rfl
    · exact M.mine i z
    · exact h⟩
theorem set_true {bs : List Bool} {k i : Nat} (h : (bs.set k true)[i]? = some true) : bs[i]? = some true ∨ i = k := by
  rw [List.getElem?_set] at h
  by_cases e : k = i
  · exact .inr e.symm
  · rw [if_neg e] at h
    exact .inl h
theorem true_set {bs : List Bool} {k i : Nat} (h : bs[i]? = some true) : (bs.set k true)[i]? = some true := by
  rw [List.getElem?_set]
  by_cases e : k = i
  · rw [if_pos e, if_pos (by have := (List.getElem?_eq_some_iff.mp h).1; omega)]
  · rw [if_neg e]
    exact h
theorem Mid.new (S : Sch L cap md n tb) (M : Mid L cap md n tb x j bs qs) (hj : j < L.length) : Mid L cap md n tb x (j + 1) (bs.set (nxt L cap md n tb x j).toNat true) (qs ++ [nxt L cap md n tb x j]) := by
  obtain ⟨n0, n1⟩ := M.next S hj
  have hl := M.len
  have lt : (nxt L cap md n tb x j).toNat < bs.length := by omega
  have self : isT (bs.set (nxt L cap md n tb x j).toNat true) (nxt L cap md n tb x j) := by
    unfold isT
    rw [List.getElem?_set_self lt]
  refine ⟨by rw [List.length_set]; exact M.len, fun i hi => ?_, true_set M.zero, ⟨M.at_.1, true_set M.at_.2⟩, fun y hy => ?_, fun i hi hq hn j' hj' => ?_, fun i hi => ?_⟩
  · rcases set_true hi with z | rfl
    · exact M.sound i z
    · obtain ⟨u, hu, e⟩ := M.word S
      refine ⟨u ++ [L[j]], fun c hc => ?_, ?_⟩
      · rcases List.mem_append.mp hc with z | z
        · exact hu c z
        · rw [List.mem_singleton.mp z]
          exact List.getElem_mem _
      · rw [← S.step hu hj, e]
        omega
  · rcases List.mem_append.mp hy with z | z
    · exact ⟨(M.wait y z).1, true_set (M.wait y z).2⟩
    · rw [List.mem_singleton.mp z]
      exact ⟨n0, self⟩
  · have hq2 : (i : Int) ∉ qs := fun z => hq (List.mem_append_left _ z)
    rcases set_true hi with z | z
    · exact true_set (M.done i z hq2 hn j' hj')
    · exact absurd (List.mem_append_right _ (List.mem_singleton.mpr (by omega))) hq
  · rcases Nat.lt_succ_iff_lt_or_eq.mp hi with z | rfl
    · exact true_set (M.mine i z)
    · exact self
theorem left_set {bs : List Bool} : ∀ {k : Nat}, bs[k]? = some false → left (bs.set k true) + 1 = left bs := by
  induction bs with
  | nil => exact fun h => by cases h
  | cons b bs ih =>
    intro k h
    cases k with
    | zero =>
      obtain rfl : b = false := Option.some.inj h
      show List.count false (true :: bs) + 1 = List.count false (false :: bs)
      rw [List.count_cons_self, List.count_cons_of_ne (by decide)]
    | succ k =>
      have h2 := ih (k := k) h
      unfold left at h2 ⊢
      show List.count false (b :: bs.set k true) + 1 = List.count false (b :: bs)
      rw [List.count_cons, List.count_cons]
      omega
theorem Mid.end_ (M : Mid L cap md n tb x L.length bs qs) : Met L cap md n tb bs qs :=
  ⟨M.len, M.sound, M.zero, M.wait, fun i hi hq j hj => by
    by_cases e : (i : Int) = x
    · rw [e]
      exact M.mine j hj
    · exact M.done i hi hq e j hj⟩
/-- nothing waits: all words' keys are met, and no other -/
theorem Met.all (S : Sch L cap md n tb) (M : Met L cap md n tb bs []) (i : Nat) : bs[i]? = some true ↔ ∃ u : W, (∀ c ∈ u, c ∈ L) ∧ keyW L cap md n tb u = (i : Int) := by
  refine ⟨M.sound i, fun ⟨u, hu, e⟩ => ?_⟩
  have key : ∀ (m : Nat) (u : W), u.length = m → (∀ c ∈ u, c ∈ L) → isT bs (keyW L cap md n tb u) := by
    intro m
    induction m with
    | zero =>
      intro u hm _
      obtain rfl := List.eq_nil_of_length_eq_zero hm
      rw [S.nil]
      exact M.zero
    | succ m ih =>
      intro u hm hu
      obtain ⟨v, c, rfl⟩ : ∃ v c, u = v ++ [c] := by
        have ne : u ≠ [] := fun z => by rw [z] at hm; cases hm
        exact ⟨u.dropLast, u.getLast ne, (List.dropLast_concat_getLast ne).symm⟩
      rw [List.length_append] at hm
      have hv : ∀ d ∈ v, d ∈ L := fun d hd => hu d (List.mem_append_left _ hd)
      have hc : c ∈ L := hu c (List.mem_append_right _ (List.mem_singleton.mpr rfl))
      have ih2 := ih v (by have : v.length + 1 = m + 1 := hm; omega) hv
      have i0 := (S.inN hv).1
      have hd := M.done (keyW L cap md n tb v).toNat ih2 List.not_mem_nil (L.idxOf c) (List.idxOf_lt_length_of_mem hc)
      rw [show ((keyW L cap md n tb v).toNat : Int) = keyW L cap md n tb v by omega, S.step hv (List.idxOf_lt_length_of_mem hc), List.getElem_idxOf] at hd
      exact hd
  have h := key u.length u rfl hu
  unfold isT at h
  rw [e, Int.toNat_natCast] at h
  exact h
end
/-- the first state: one key is met, it waits -/
theorem met_start {L : W} {cap md n : Int} {tb : List (List Int)} (S : Sch L cap md n tb) : Met L cap md n tb ((List.replicate (allK L cap md n).toNat false).set 0 true) [0] := by
  have ha := S.all_in
  have lt : 0 < (List.replicate (allK L cap md n).toNat false).length := by rw [List.length_replicate]; omega
  have one : ∀ i : Nat, ((List.replicate (allK L cap md n).toNat false).set 0 true)[i]? = some true → i = 0 := fun i hi => by
    rcases set_true hi with z | z
    · have := List.eq_of_mem_replicate (List.mem_of_getElem? z)
      cases this
    · exact z
  have z0 : isT ((List.replicate (allK L cap md n).toNat false).set 0 true) 0 := by
    unfold isT
    show ((List.replicate (allK L cap md n).toNat false).set 0 true)[0]? = some true
    rw [List.getElem?_set_self lt]
  refine ⟨by rw [List.length_set, List.length_replicate]; omega, fun i hi => ⟨[], fun _ h => absurd h List.not_mem_nil, ?_⟩, z0, fun x hx => ?_, fun i hi hq => ?_⟩
  · rw [one i hi, S.nil] <;> rfl
  · rw [List.mem_singleton.mp hx]
    exact ⟨Int.le_refl _, z0⟩
  · rw [one i hi] at hq
    exact absurd (List.mem_singleton.mpr rfl) hq
end WK
set_option Elab.async false
set_option linter.all false
set_option maxRecDepth 100000
set_option maxHeartbeats 8000000
namespace ZLT
open PySem PySem.Spec PyProof.Rows L2
open ZPT (tup_is)
/-- each of the list with the tuple's item, in a new pair -/
def ZiLT (K : PySem.W.Frag) (x : Addr) (xs : List V) (a : Addr) (ys : List V) : It :=
  ⟨fun i H => (SqL K H x xs ∧ SqT K H a ys) ∧ i < xs.length ∧ i < ys.length, fun i H v H' => ∃ T c y, v = .ref T ∧ H T = none ∧ H' = upd H T (.tup [c, y]) ∧ xs[i]? = some c ∧ ys[i]? = some y, fun i H => (SqL K H x xs ∧ SqT K H a ys) ∧ i = xs.length ∧ i ≤ ys.length⟩
/-- where it stands, i pairs out -/
def At (x a z TI TO i1 i2 : Addr) (i : Nat) (h : Heap) : Prop :=
  IsZip h z TI TO .none ∧ IsTupOf2 h TI (.ref i1) (.ref i2) ∧ (∃ p q, IsTupOf2 h TO p q) ∧ h.IsListIter i1 x i ∧ h.IsTupleIter i2 a i
theorem turn_lt {P : Program} {w : World} {K : PySem.W.Frag} {elts : List Expr} {kk : Nat} {tpos : Pos} (x : Addr) (xs : List V) (a : Addr) (ys : List V) {z TI TO i1 i2 : Addr} (S : ZipSep2 z TI TO i1 i2 [i1, x] [i2, a]) (hxi : x ≠ i1) (hai : a ≠ i2) :
    Turn P w K (.Tuple elts kk tpos) (ZiLT K x xs a ys) [z, TI, TO, i1, i2] z (At x a z TI TO i1 i2) where
  mem := .head _
  obj := fun i h ⟨hz, h1, ⟨p, q, h2⟩, ⟨o3, h3, _, d3⟩, ⟨o4, h4, _, d4⟩⟩ b hb => by
    simp only [List.mem_cons, List.not_mem_nil, or_false] at hb
    rcases hb with rfl | rfl | rfl | rfl | rfl
    · exact ⟨_, hz, fun v q => nomatch q⟩
    · exact ⟨_, h1, fun v q => nomatch q⟩
    · exact ⟨_, h2, fun v q => nomatch q⟩
    · exact ⟨o3, h3, fun v q => nomatch d3.symm.trans q⟩
    · exact ⟨o4, h4, fun v q => nomatch d4.symm.trans q⟩
  keep := fun i h h' ⟨hz, h1, ⟨p, q, h2⟩, ⟨o3, e3, r3⟩, h4⟩ k => ⟨k z (by simp) _ hz, k TI (by simp) _ h1, ⟨p, q, k TO (by simp) _ h2⟩, ⟨o3, k i1 (by simp) _ e3, r3⟩, h4.at fun o e => k i2 (by simp) o e⟩
  item := by
    intro X hP hw hK hc i pins s σ H E I hf ⟨hz, h1, ⟨p, q, h2⟩, h3, h4⟩ ⟨⟨hL, hT⟩, hi1, hi2⟩
    subst hP hw hK
    obtain ⟨its, rv, pt, _⟩ := I.tuple hT
    have hl : its.toArray.size = ys.length := by rw [List.size_toArray, rv.length]
    obtain ⟨jts, rw_, pl, _⟩ := I.list hL
    have hj : jts.toArray.size = xs.length := by rw [List.size_toArray, rw_.length]
    have D1 := Draws.list (prog := X.prog) (w := X.w) (A := X.A.in1) (I.ok.hd hc) i1 x hxi jts.toArray
    have D2 := Draws.tuple (prog := X.prog) (w := X.w) (A := X.A.in1) (I.ok.hd hc) i2 a hai its.toArray
    have zlt : z < s.heap.objs.size := Heap.lt_size hz
    have old : ∀ b ∈ [z, TI, TO, i1, i2], b < s.heap.objs.size := fun b hb => by
      simp only [List.mem_cons, List.not_mem_nil, or_false] at hb
      rcases hb with rfl | rfl | rfl | rfl | rfl
      · exact zlt
      · exact Heap.lt_size h1
      · exact Heap.lt_size h2
      · obtain ⟨o, e, _⟩ := h3
        exact Heap.lt_size e
      · obtain ⟨o, e, _⟩ := h4
        exact Heap.lt_size e
    refine wpAny_pyNext_zipD2_item S D1 D2 hz h1 h2 ⟨h3, pl.isList⟩ ⟨h4, tup_is pt⟩ (by rw [hj]; exact hi1) (by rw [hl]; exact hi2) fun u v h' tk hu hv z1 TO1 n1 n2 made size kp => ?_
    obtain ⟨c, hc'⟩ : ∃ c, xs[i]? = some c := ⟨_, List.getElem?_eq_getElem hi1⟩
    obtain ⟨u2, f2, rc⟩ := rw_.get hc'
    have eu : u2 = u := Option.some.inj (f2.symm.trans (by rw [← List.getElem?_toArray]; exact hu))
    subst eu
    obtain ⟨y, hy⟩ : ∃ y, ys[i]? = some y := ⟨_, List.getElem?_eq_getElem hi2⟩
    obtain ⟨v2, e2, ry⟩ := rv.get hy
    have ev : v2 = v := Option.some.inj (e2.symm.trans (by rw [← List.getElem?_toArray]; exact hv))
    subst ev
    refine ⟨_, rfl, wpAny_letOwnedTupleGo_zip (s := { s with heap := h', toks := tk }) z1 fun h'' z2 sb => ?_⟩
    have free : H s.heap.objs.size = none := I.hok.fresh (Nat.le_refl _)
    have pair : h''.get? s.heap.objs.size = some { cls := .type "tuple", data := .seq #[u2, v2] } := (sb.2 _ (Nat.ne_of_gt zlt)).trans made
    have new : ObjOk X.prog X.w (upd H s.heap.objs.size (.tup [c, y])) h'' s.heap.objs.size (.tup [c, y]) := ⟨by show 2 ≤ sizeLine; decide, [u2, v2], .cons rc (.cons ry .nil), _, pair, rfl, _, rfl⟩
    have stay : ∀ b o, b ∉ [z, TI, TO, i1, i2] → s.heap.get? b = some o → h''.get? b = some o := fun b o hb e => (sb.2 b fun w => hb (by simp [w])).trans (kp b o (fun w => hb (by simp [w])) (fun w => hb (by simp [w])) (fun w => hb (by simp [w])) (fun w => hb (by simp [w])) e)
    refine ⟨.ref s.heap.objs.size, _, I.turnedNew (ch := [z, TI, TO, i1, i2]) stay hf (Nat.le_refl _) new, rfl, ⟨_, c, y, rfl, free, rfl, hc', hy⟩, ⟨z2, ?_, ⟨_, _, (sb.2 _ S.TOz).trans TO1⟩, ?_, ?_⟩, fun b hb => ?_⟩
    · exact (sb.2 _ S.TIz).trans (kp _ _ S.TIz S.TITO S.TIi1 S.TIi2 h1)
    · exact n1.1.at fun o e => (sb.2 _ S.zi1.symm).trans e
    · exact n2.1.at fun o e => (sb.2 _ S.zi2.symm).trans e
    · rw [upd_ne (Nat.ne_of_lt (old b hb))]
      exact (hf b hb).1
  done := by
    intro X hP hw hK hc i pins s σ H E I hf ⟨hz, h1, ⟨p, q, h2⟩, h3, h4⟩ ⟨⟨hL, hT⟩, hi1, hi2⟩
    subst hP hw hK
    obtain ⟨its, rv, pt, _⟩ := I.tuple hT
    have hl : its.toArray.size = ys.length := by rw [List.size_toArray, rv.length]
    obtain ⟨jts, rw_, pl, _⟩ := I.list hL
    have hj : jts.toArray.size = xs.length := by rw [List.size_toArray, rw_.length]
    have D1 := Draws.list (prog := X.prog) (w := X.w) (A := X.A.in1) (I.ok.hd hc) i1 x hxi jts.toArray
    have D2 := Draws.tuple (prog := X.prog) (w := X.w) (A := X.A.in1) (I.ok.hd hc) i2 a hai its.toArray
    exact wpAny_pyNext_zipD2_end S D1 D2 hz h1 h2 ⟨h3, pl.isList⟩ ⟨h4, tup_is pt⟩ (by rw [hj]; exact Nat.le_of_eq hi1) (by rw [hl]; exact hi2) (.inl (by rw [hj]; exact hi1)) fun h' tk kp => ⟨rfl, I.turnedL (t' := tk) (ch := [z, TI, TO, i1, i2]) (fun b o hb e =>
      kp b o (fun w => hb (by simp [w])) (fun w => hb (by simp [w])) (fun w => hb (by simp [w])) (fun w => hb (by simp [w])) e) hf⟩
  self := fun _ _ _ _ _ st q => wpAny_pyIter_zip st.1 q
def iZipLT (K : PySem.W.Frag) (ta : TA) : TI := fun σ H R => ta σ H fun vs H1 => ∃ x xs a ys, vs = [.ref x, .ref a] ∧ SqL K H1 x xs ∧ SqT K H1 a ys ∧ R (ZiLT K x xs a ys) H1
theorem pi_zipLT {X : Cx} {e e2 : Expr} {ta : TA} {p pos tpos : Pos} {elts : List Expr} {kk : Nat} (hg : Gl X "zip") (hm : X.mg "zip" = none) (ha : PA X [e, e2] ta)
    (hs : starEach [e, e2] X.env = (false, eval e X.env) :: starEach [e2] X.env := by rfl) (hpl : (backTo pos (starEach [e2] X.env)).any (·.1) = false := by rfl) :
    PI X (.Tuple elts kk tpos) (.Call (.Name "zip" p) [e, e2] [] pos) (iZipLT X.K ta) := by
  refine ⟨fun pins s σ H R I h => Call_ (ld_blt I hg hm PyProof.Rows.boot_zip (PyProof.Rows.callWith_type1 (thn (ha.run pos pins s σ H _ I h) fun us s1 ⟨vs, H1, I1, r1, x, xs, a, ys, ex, hL, hT, q⟩ => ?_) hs hpl))⟩
  subst ex
  cases r1 with
  | cons r rr =>
   cases rr with
   | cons r' rr =>
    cases rr
    cases r
    cases r'
    obtain ⟨its, rv, pt, _⟩ := I1.tuple hT
    obtain ⟨jts, rw_, pl, _⟩ := I1.list hL
    obtain ⟨o, ho, _⟩ := id pt
    have lt := Heap.lt_size ho
    obtain ⟨o2, ho2, _⟩ := id pl.isList
    have lt2 := Heap.lt_size ho2
    refine zip_begins2 (begins_list x jts.toArray) (begins_tuple a its.toArray) pl.isList (tup_is pt) fun h' hz hTI hTO g1 g2 size kp => wpAny_pyIter_zip hz ?_
    have fresh : ∀ b ∈ [s1.heap.objs.size + 4, s1.heap.objs.size + 2, s1.heap.objs.size + 3, s1.heap.objs.size, s1.heap.objs.size + 1], FpOk X pins H1 b := fun b hb => by
      have le : s1.heap.objs.size ≤ b := by
        have hb' : b = s1.heap.objs.size + 4 ∨ b = s1.heap.objs.size + 2 ∨ b = s1.heap.objs.size + 3 ∨ b = s1.heap.objs.size ∨ b = s1.heap.objs.size + 1 := by simpa using hb
        rcases hb' with z | z | z | z | z <;> rw [z] <;> first | exact Nat.le_refl _ | exact Nat.le_add_right _ _
      exact I1.fpOk le (I1.hok.fresh le)
    have S := zip_sep2 (N := s1.heap.objs.size) (fp1 := [x]) (fp2 := [a]) (fun b hb => by rw [List.mem_singleton.mp hb]; exact lt2) fun b hb => by rw [List.mem_singleton.mp hb]; exact lt
    exact ⟨s1.heap.objs.size + 4, [s1.heap.objs.size + 4, s1.heap.objs.size + 2, s1.heap.objs.size + 3, s1.heap.objs.size, s1.heap.objs.size + 1], _, _, H1, rfl, I1.kept (t' := s1.toks) kp, turn_lt x xs a ys S (Nat.ne_of_lt lt2) (Nat.ne_of_lt (Nat.lt_succ_of_lt lt)), ⟨hz, hTI, ⟨_, _, hTO⟩, ⟨_, g1, rfl, rfl⟩, ⟨_, g2, rfl, rfl⟩⟩, fresh, q⟩
theorem walk_lt {K : PySem.W.Frag} {x : Addr} {xs : List V} {a : Addr} {ys : List V} (hl : xs.length = ys.length) : Walk (ZiLT K x xs a ys) xs.length (fun H => SqL K H x xs ∧ SqT K H a ys) (YPair (fun i => xs[i]?) (fun i => ys[i]?)) :=
  ⟨fun i H hi q => ⟨q, hi, by omega⟩, fun H q => ⟨q, rfl, by omega⟩, fun i H v H' _ _ ⟨T, c, y, e1, e2, e3, e4, e5⟩ => ⟨T, c, y, e1, e2, e3, e4, e5⟩⟩
end ZLT
set_option Elab.async false
set_option linter.all false
set_option maxRecDepth 100000
set_option maxHeartbeats 8000000
namespace WK
open PySem L2 PyProof.Rows LCX K1 FV DP
open TX (sg sigs)
open PySem.W (Frag kitOne)
abbrev sMLen : Stmt := inClass (top 43) 15
abbrev sSeenM : Stmt := top 60
def spMLen (C : Addr) : Sp := fun vs H Q _ => ∃ (o : Addr) (L : W) (tb : List (List Int)) (es : List Int), vs = [.ref o] ∧ MacAt C H o L tb es ∧ Q (.int (tb.length : Int)) H
def nthS (s : Stmt) (k : Nat) : Stmt := (defBody s).getD k (.Pass ⟨0, 0, 0, 0⟩)
theorem pe_of {X : Cx} {e : Expr} {t t' : TE} (h : PE X e t) (k : ∀ σ H Q, t' σ H Q → t σ H Q) : PE X e t' := ⟨fun pins s σ H Q I z => h.run pins s σ H Q I (k σ H Q z)⟩
/-- the step, told at once -/
def tStep : TE := fun σ H Q => ∃ f u s m : Int, σ[11]? = some (some (.int f)) ∧ σ[9]? = some (some (.int u)) ∧ σ[4]? = some (some (.int s)) ∧ σ[2]? = some (some (.int m)) ∧ CMul (1 - m) u ∧ Q (.int (if f + 1 < s then u else (1 - m) * u)) H
def boolsAt (H : Hp) (a : Addr) : List Bool := match H a with
  | some (.lst xs) => xs.map fun v => match v with
    | .bl b => b
    | _ => true
  | _ => []
theorem boolsAt_eq {H : Hp} {a : Addr} {bs : List Bool} (h : H a = some (.lst (bs.map V.bl))) : boolsAt H a = bs := by
  unfold boolsAt
  rw [h]
  show (bs.map V.bl).map _ = bs
  rw [List.map_map]
  exact List.map_id bs
def lenAt (H : Hp) (a : Addr) : Nat := match H a with
  | some (.lst xs) => xs.length
  | _ => 0
theorem lenAt_eq {H : Hp} {a : Addr} {xs : List V} (h : H a = some (.lst xs)) : lenAt H a = xs.length := by
  unfold lenAt
  rw [h]
theorem ixN_zero {n : Nat} (h : 0 < n) : ixN n 0 = some 0 := by
  unfold ixN
  rw [if_pos (Int.le_refl 0), if_pos (by omega)] <;> rfl
theorem ne_of_none' {H : Hp} {a b : Addr} {o : HO} (h : H a = some o) (n : H b = none) : a ≠ b := fun z => by
  rw [z, n] at h
  cases h
theorem same_at' {H H1 : Hp} {a : Addr} {o : HO} (s : Same H H1) (h : H1 a = none) : Same H (upd H1 a o) := s.trans (same_upd h)
theorem keys_old {kvs : List (Key × V)} {ks : List Int} {x : Int} (h : Keys kvs ks) (hx : x ∈ ks) (v : V) : Keys (putK kvs (Sum.inl x) v) ks := by
  have h2 : kvs.map (·.1) = ks.map Sum.inl := h
  show (putK kvs (Sum.inl x) v).map (·.1) = ks.map Sum.inl
  rw [← h2]
  unfold putK
  have any : (kvs.any fun kv => decide (kv.1 = Sum.inl x)) = true := by
    have : (Sum.inl x : Key) ∈ kvs.map (·.1) := by
      rw [h2]
      exact List.mem_map_of_mem hx
    obtain ⟨p, hp, e⟩ := List.mem_map.mp this
    exact List.any_eq_true.mpr ⟨p, hp, decide_eq_true e⟩
  rw [if_pos any, List.map_map]
  refine List.map_congr_left fun p _ => ?_
  show (if p.1 = Sum.inl x then (p.1, v) else p).1 = p.1
  split <;> rfl
abbrev NSn : List Str := ["machine", "cap", "modulus", "many", "size", "units", "met", "queue", "key", "unit", "after", "figure", "step", "longer", "_", "held"]
/-- the codes of what a machine's words come to -/
def SeenIs (L : W) (cap md : Int) (tb : List (List Int)) (es : List Int) (x : Int) : Prop := ∃ u : W, (∀ c ∈ u, c ∈ L) ∧ stW L tb u ∈ es ∧ x = TS.code (cap + md) (vecW L cap md u)
def spSeenM (C : Addr) : Sp := fun vs H Q _ => ∃ (m : Addr) (L : W) (tb : List (List Int)) (es : List Int) (n cap md : Int), vs = [.ref m, .int cap, .int md] ∧ Let L ∧ MacAt C H m L tb es ∧ Sch L cap md n tb ∧ es.length ≤ 1000 ∧
  ∀ D kvs ks H', H D = none → Same H H' → H' D = some (.dK kvs) → Keys kvs ks → ks.Nodup → (∀ x : Int, x ∈ ks ↔ SeenIs L cap md tb es x) → ks.length ≤ 2304 → Q (.ref D) H'
section
variable {P : Program} {w : World} {K : PySem.W.Frag} {mg : Str → Option Value} {base : Heap} {C cD cM pT gT pE gE pL gL gN : Addr} {dT dE dL dN : FuncData}
theorem scML : FnScope ["self"] ["self"] (defScope sMLen) := ⟨rfl, rfl, rfl, by decide +kernel, rfl, by decide +kernel, by decide +kernel⟩
theorem scSn : FnScope NSn ["machine", "cap", "modulus"] (defScope sSeenM) := ⟨rfl, rfl, rfl, by decide +kernel, rfl, by decide +kernel, by decide +kernel⟩
theorem ok_mlen {f : Addr} {fd : FuncData} (F : Fun K "__len__" "Machine.__len__" sMLen f fd) (T : TN mg) (M : TMc K mg C cD cM) : FnOk P w K mg base CX0 1 f fd ["self"] (spMLen C) := by
  refine F.ok scML (fun vs H Q E h => ?_) (fun cdv A outer s H vs Q E hr h => ?_)
  · obtain ⟨o, _, _, _, rfl, _⟩ := h
    rfl
  · obtain ⟨o, L, tb, es, rfl, ⟨dx, t, e, ts, h1, h2, h3, h4⟩, q⟩ := h
    refine ⟨_, pss_one (ps_ret (pe_callB call_len_seq (by rfl) T.len PySem.boot_len (pa_cons (pe_fld (pv 0) rfl) pa_nil))), ?_⟩
    refine ⟨_, rfl, o, C, dx, _, _, rfl, h1, M.cl, M.nT, mfl_T, t, _, rfl, .inr (SqT.of h2), ?_⟩
    rw [List.length_map, h3.len]
    exact q
theorem ok_seen {f : Addr} {fd : FuncData} (F : Fun K "_seen" "_seen" sSeenM f fd) (T : TN mg) (en : mg "enumerate" = none) (M : TMc K mg C cD cM)
    (hN : PySem.W.findIn K (.ref C) "__len__" = some (some (.ref gN))) (iN : PySem.W.isFn K (.ref gN) = true) (GN : FnR P w K mg base CX0 1 gN (spMLen C))
    (RT : PropOf K C "table" pT gT) (GT : FnOk P w K mg base CX0 1 gT dT ["self"] (getSp C "_table")) (bT : Binds K dT ["self"] []) (RE : PropOf K C "ends" pE gE) (GE : FnOk P w K mg base CX0 1 gE dE ["self"] (getSp C "_ends")) (bE : Binds K dE ["self"] [])
    (RL : PropOf K C "letters" pL gL) (GL : FnOk P w K mg base CX0 1 gL dL ["self"] (getSp C "_letters")) (bL : Binds K dL ["self"] []) :
    FnOk P w K mg base CX0 3 f fd ["machine", "cap", "modulus"] (spSeenM C) := by
  refine F.ok scSn (fun vs H Q E h => ?_) (fun cdv A outer s H vs Q E hr h => ?_)
  · obtain ⟨m, _, _, _, _, cap, md, rfl, _⟩ := h
    rfl
  · obtain ⟨m, L, tb, es, n, cap, md, rfl, hL, mac, S, he, q⟩ := h
    have hub := hu_of hr
    have hr1 : Room 1 _ := hr.mono (by decide)
    have z0 : PS (cxOf CX0 P w K mg base NSn "_seen" (defScope sSeenM) f cdv A outer s H E).nox (nthS sSeenM 0) _ := ps_set (i := 3) scSn.nd rfl (Or.inr rfl) (pe_callB (OWN.call_lenO hN iN GN hr) (by rfl) T.len PySem.boot_len (pa_cons (pv 0) pa_nil))
    have z1 : PS (cxOf CX0 P w K mg base NSn "_seen" (defScope sSeenM) f cdv A outer s H E).nox (nthS sSeenM 1) _ := ps_set (i := 4) scSn.nd rfl (Or.inl rfl) (pe_op op_add (pv 1) (pv 2))
    have z2 : PS (cxOf CX0 P w K mg base NSn "_seen" (defScope sSeenM) f cdv A outer s H E).nox (nthS sSeenM 2) _ := ps_set (i := 5) scSn.nd rfl (Or.inl rfl) (pe_revL (pe_slice sl_list (pe_lst (pa_cons (pv 3) (pa_cons (pe_op op_mul (pv 4) (pv 3)) (pa_cons (pe_op op_mul (pe_op op_mul (pv 4) (pv 4)) (pv 3)) pa_nil)))) po_none (po_some (pe_callB call_len_str (by rfl) T.len PySem.boot_len (pa_cons (pe_prop (E := E0) (pv 0) M.cl RL GL hr bL .nil pass0 rfl) pa_nil)))))
    have z3 : PS (cxOf CX0 P w K mg base NSn "_seen" (defScope sSeenM) f cdv A outer s H E).nox (nthS sSeenM 3) _ := ps_setLc (i := 6) (own := [("_", 14)]) (g := gName 14) (tt := tYes) (te := tC (.bl false)) rfl scSn.nd rfl rfl (sw_true rfl rfl rfl (by decide +kernel)) (pi_range1 rfl T.rng (pa_cons (pe_op op_mul (pv 4) (pe_ix ix_list (pv 5) pe_int (fun _ _ => rfl))) pa_nil))
      (blkOk_by (own := [("_", 14)]) (N := NSn) (sc := defScope sSeenM) (by decide +kernel)) (fun _ _ _ _ _ => pg_name (i := 14) scSn.nd rfl (Or.inl rfl)) (fun _ _ _ _ _ => pts_nil) (fun _ _ _ _ _ => pe_bl)
    have z4 : PS (cxOf CX0 P w K mg base NSn "_seen" (defScope sSeenM) f cdv A outer s H E).nox (nthS sSeenM 4) _ := ps_asg pe_bl (pg_sub (pv 6) pe_int set_list)
    have z5 : PS (cxOf CX0 P w K mg base NSn "_seen" (defScope sSeenM) f cdv A outer s H E).nox (nthS sSeenM 5) _ := ps_set (i := 7) scSn.nd rfl (Or.inl rfl) (pe_lst (pa_cons pe_int pa_nil))
    have z6 : PS (cxOf CX0 P w K mg base NSn "_seen" (defScope sSeenM) f cdv A outer s H E).nox (nthS sSeenM 6) _ := ps_while PassesOwn.never (pt_truth (pv 7) (fun _ => rfl))
      (pss_cons (ps_set (i := 8) scSn.nd rfl (Or.inl rfl) (pe_bm0 PySem.F.plainAttrs_list PySem.F.slot_list_pop PySem.F.type_list_pop mt_pop (pv 7)))
      (pss_one (ps_for PassesOwn.never rfl (ZLT.pi_zipLT rfl T.zip (pa_cons (pv 5) (pa_cons (pe_ix ix_tup (pe_prop (E := E0) (pv 0) M.cl RT GT hr bT .nil pass0 rfl) (pe_op op_mod (pv 8) (pv 3)) (fun _ _ => rfl)) pa_nil))) (pg_tup (by rfl) (pgs_cons (pg_name (i := 9) scSn.nd rfl (Or.inl rfl)) (pgs_cons (pg_name (i := 10) scSn.nd rfl (Or.inl rfl)) pgs_nil)))
        (pss_cons (ps_set (i := 11) scSn.nd rfl (Or.inl rfl) (pe_op op_mod (pe_op op_fdiv (pv 8) (pv 9)) (pv 4)))
        (pss_cons (ps_set (i := 12) scSn.nd rfl (Or.inl rfl) (pe_of (t' := tStep) (pe_ifExp (pt_cmpR op_lt (pe_op op_add (pv 11) pe_int) (pv 4) (nomark _)) (pv 9) (pe_op op_mul (pe_op op_sub pe_int (pv 2)) (pv 9))) (fun σ H Q ⟨f, u, s, m, e1, e2, e3, e4, c, q⟩ => by
          refine ⟨_, e1, _, _, rfl, rfl, _, e3, _, _, rfl, rfl, _, rfl, ?_⟩
          by_cases h : f + 1 < s
          · rw [if_pos h] at q
            rw [if_pos (decide_eq_true h)]
            exact ⟨_, e2, q⟩
          · rw [if_neg h] at q
            rw [if_neg fun z => h (of_decide_eq_true z)]
            exact ⟨_, e4, _, _, rfl, rfl, _, e2, _, _, rfl, rfl, c, q⟩)))
        (pss_cons (ps_set (i := 13) scSn.nd rfl (Or.inl rfl) (pe_op op_add (pe_op op_add (pe_op op_sub (pv 8) (pe_op op_mod (pv 8) (pv 3))) (pv 12)) (pv 10)))
        (pss_one (ps_if (pt_not (pt_val (pe_ix ix_list (pv 6) (pv 13) (fun _ _ => rfl))))
          (pss_cons (ps_asg pe_bl (pg_sub (pv 6) (pv 13) set_list))
          (pss_one (ps_expr (pe_bm PySem.F.plainAttrs_list PySem.F.slot_list_append PySem.F.type_list_append mt_append (pv 7) (pa_cons (pv 13) pa_nil))))) pss_nil))))))))
    have z7 : PS (cxOf CX0 P w K mg base NSn "_seen" (defScope sSeenM) f cdv A outer s H E).nox (nthS sSeenM 7) _ := ps_ret (pe_dc (own := [("key", 8), ("held", 15)]) (g := gTup K 2 (gCons (gName 8) (gCons (gName 15) gNil))) (tt := tAnd (tB (tVar 15)) (tTest (tOp (rIn K false) (tOp (rI (fun _ j => 0 < j) fun i j => .int (i % j)) (tVar 8) (tVar 3)) _))) (tk := tOp (rI CDiv fun i j => .int (i / j)) (tVar 8) (tVar 3)) (tv := tC (.bl true)) rfl scSn.nd (pi_enum rfl en (pa_cons (pv 6) pa_nil))
        (blkOk_by (own := [("key", 8), ("held", 15)]) (N := NSn) (sc := defScope sSeenM) (by decide +kernel)) (fun _ _ _ _ _ => pg_tup (by rfl) (pgs_cons (pg_name (i := 8) scSn.nd rfl (Or.inl rfl)) (pgs_cons (pg_name (i := 15) scSn.nd rfl (Or.inl rfl)) pgs_nil)))
        (fun _ _ _ _ _ => pts_one (PW.pt (pw_and (pt_val (pv 15)) (pw_and1 (pt_cmpR op_in_seq (pe_op op_mod (pv 8) (pv 3)) (pe_prop (E := E0) (pv 0) M.cl RE GE hr bE .nil pass0 rfl) (by rfl))))))
        (fun _ _ _ _ _ => pe_op op_fdiv (pv 8) (pv 3)) (fun _ _ _ _ _ => pe_bl))
    refine ⟨_, pss_cons z0 (pss_cons z1 (pss_cons z2 (pss_cons z3 (pss_cons z4 (pss_cons z5 (pss_cons z6 (pss_one z7))))))), ?_⟩
    clear z0 z1 z2 z3 z4 z5 z6 z7
    obtain ⟨dx, t, e, ts, hm, htt, hto, hte⟩ := mac.ex
    have hlen : (tb.length : Int) = n := S.ok.len
    have sm := S.small
    have k12 : L.length = 1 ∨ L.length = 2 := by have := S.k1; have := S.k2; omega
    have n0 := S.n0
    have n1 := S.n1
    have c0 := S.c0
    have c1 := S.c1
    have m0 := S.m0
    have m1 := S.m1
    obtain ⟨all1, all2⟩ := S.all_in
    refine ⟨_, rfl, m, dx, _, rfl, hm, m, L, tb, es, rfl, mac, tb.length, rfl, by omega, ?_⟩
    rw [hlen]
    refine ⟨_, rfl, _, rfl, _, _, rfl, rfl, ?_⟩
    have ul : (unitsN (cap + md) n L.length).length = L.length := S.units
    -- the units
    refine ⟨_, rfl, _, rfl, _, rfl, _, _, rfl, rfl, .inr ⟨by omega, by omega⟩, _, rfl, _, rfl, _, _, rfl, rfl, .inr ⟨by omega, by omega⟩, _, rfl, _, _, rfl, rfl, .inr ⟨by omega, by omega⟩, (by show 3 ≤ sizeLine; rw [sizeLine_eq]; decide), fun p1 hp1 => ?_⟩
    have s1 := same_upd (o := .lst [.int n, .int ((cap + md) * n), .int ((cap + md) * (cap + md) * n)]) hp1
    refine ⟨_, rfl, m, dx, _, rfl, s1 _ _ hm, m, dx, _, _, rfl, s1 _ _ hm, mfl_L, tx L, rfl, (by rw [tx_len]; have := hL.few; rw [sizeLine_eq]; omega), _, rfl, p1, [n, (cap + md) * n, (cap + md) * (cap + md) * n].map V.int, rfl, SqL.of upd_same, fun p2 hp2 => ?_⟩
    rw [tx_len, cut_take]
    have s2 := s1.trans (same_upd (o := .lst (([n, (cap + md) * n, (cap + md) * (cap + md) * n].take L.length).map V.int)) hp2)
    refine ⟨p2, _, rfl, SqL.of upd_same, fun un hun => ?_⟩
    have s3 := s2.trans (same_upd (o := .lst ((([n, (cap + md) * n, (cap + md) * (cap + md) * n].take L.length).map V.int).reverse)) hun)
    rw [← List.map_reverse]
    rw [← List.map_reverse] at s3
    have hu3 : (upd (upd (upd H p1 (.lst [.int n, .int ((cap + md) * n), .int ((cap + md) * (cap + md) * n)])) p2 (.lst (([n, (cap + md) * n, (cap + md) * (cap + md) * n].take L.length).map V.int))) un (.lst ((unitsN (cap + md) n L.length).map V.int))) un = some (.lst ((unitsN (cap + md) n L.length).map V.int)) := upd_same
    have s3 : Same H (upd (upd (upd H p1 (.lst [.int n, .int ((cap + md) * n), .int ((cap + md) * (cap + md) * n)])) p2 (.lst (([n, (cap + md) * n, (cap + md) * (cap + md) * n].take L.length).map V.int))) un (.lst ((unitsN (cap + md) n L.length).map V.int))) := s3
    change tSeq _ _ _ _ (upd (upd (upd H p1 (.lst [.int n, .int ((cap + md) * n), .int ((cap + md) * (cap + md) * n)])) p2 (.lst (([n, (cap + md) * n, (cap + md) * (cap + md) * n].take L.length).map V.int))) un (.lst ((unitsN (cap + md) n L.length).map V.int)))
    generalize upd (upd (upd H p1 (.lst [.int n, .int ((cap + md) * n), .int ((cap + md) * (cap + md) * n)])) p2 (.lst (([n, (cap + md) * n, (cap + md) * (cap + md) * n].take L.length).map V.int))) un (.lst ((unitsN (cap + md) n L.length).map V.int)) = H3 at s3 hu3 ⊢
    obtain ⟨ur, eu, _⟩ := head_units (cap + md) n S.k1 S.k2
    refine ⟨_, rfl, _, rfl, un, _, _, _, rfl, rfl, SqL.of hu3, atI_nat (j := 0) (by rw [eu] <;> rfl), _, _, rfl, rfl, .inl ⟨by omega, by omega⟩, ?_⟩
    refine ⟨allK L cap md n, rfl, by omega, by omega, fun mt hmt => ?_⟩
    refine lc_range (lo := 0) (n := (allK L cap md n).toNat) (fun i H4 => Same H3 H4 ∧ H4 mt = some (.lst ((List.replicate i false).map V.bl))) ⟨same_upd hmt, upd_same⟩ ?_ ?_
    · rintro i H4 hi ⟨s4, hd⟩
      refine ⟨rfl, _, hd, ?_, same_at s4 hmt, ?_⟩
      · rw [List.length_map, List.length_replicate, sizeLine_eq]
        omega
      · rw [upd_same, List.replicate_succ', List.map_append] <;> rfl
    rintro H4 ⟨s4, hd4⟩
    have lt0 : 0 < (List.replicate (allK L cap md n).toNat false).length := by rw [List.length_replicate]; omega
    refine ⟨_, rfl, mt, (List.replicate (allK L cap md n).toNat false).map V.bl, 0, 0, rfl, rfl, hd4, ?_, ?_⟩
    · rw [List.length_map, ixN_zero lt0]
    have s5 : Same H3 (upd H4 mt (.lst (((List.replicate (allK L cap md n).toNat false).map V.bl).set 0 (.bl true)))) := same_at s4 hmt
    have hd5 : (upd H4 mt (.lst (((List.replicate (allK L cap md n).toNat false).map V.bl).set 0 (.bl true)))) mt = some (.lst ((((List.replicate (allK L cap md n).toNat false).set 0 true)).map V.bl)) := by
      rw [upd_same, List.map_set]
    generalize upd H4 mt (.lst (((List.replicate (allK L cap md n).toNat false).map V.bl).set 0 (.bl true))) = H5 at s5 hd5 ⊢
    refine ⟨by decide, fun qu hqu => ?_⟩
    have mq : mt ≠ qu := ne_of_none' hd5 hqu
    have s6 : Same H3 (upd H5 qu (.lst [.int 0])) := same_at' s5 hqu
    have hd6 : (upd H5 qu (.lst [.int 0])) mt = some (.lst ((((List.replicate (allK L cap md n).toNat false).set 0 true)).map V.bl)) := by rw [upd_ne mq]; exact hd5
    have hq6 : (upd H5 qu (.lst [.int 0])) qu = some (.lst (([0] : List Int).map V.int)) := upd_same
    have nmt : H3 mt = none := hmt
    have nqu : H3 qu = none := s5.free hqu
    generalize upd H5 qu (.lst [.int 0]) = H6 at s6 hd6 hq6 ⊢
    dsimp only [gName]
    show tWhile _ _ _ _ H6
    refine while_by (fun σ H7 => ∃ (bs : List Bool) (qs : List Int) (x8 x9 x10 x11 x12 x13 : Option V), Met L cap md n tb bs qs ∧ 2 * left bs + qs.length ≤ 4609 ∧ Same H3 H7 ∧ H7 mt = some (.lst (bs.map V.bl)) ∧ H7 qu = some (.lst (qs.map V.int)) ∧
      σ = [some (.ref m), some (.int cap), some (.int md), some (.int n), some (.int (cap + md)), some (.ref un), some (.ref mt), some (.ref qu), x8, x9, x10, x11, x12, x13, none, none]) (fun _ H7 => 2 * left (boolsAt H7 mt) + lenAt H7 qu) ?_ ?_ ?_
    · refine ⟨_, _, none, none, none, none, none, none, met_start S, ?_, s6, hd6, hq6, rfl⟩
      have l1 : left ((List.replicate (allK L cap md n).toNat false).set 0 true) ≤ ((List.replicate (allK L cap md n).toNat false).set 0 true).length := List.count_le_length
      rw [List.length_set, List.length_replicate] at l1
      show _ + 1 ≤ 4609
      omega
    · rintro σ H7 ⟨bs, qs, x8, x9, x10, x11, x12, x13, me, mle, s7, hb7, hq7, rfl⟩
      refine ⟨_, rfl, !(qs.map V.int).isEmpty, .inl ⟨_, SqL.of hq7, rfl⟩, ?_⟩
      have mu0 : 2 * left (boolsAt H7 mt) + lenAt H7 qu = 2 * left bs + qs.length := by rw [boolsAt_eq hb7, lenAt_eq hq7, List.length_map]
      cases hqs : qs with
      | nil =>
        subst hqs
        refine iteF ?_
        have s07 := s3.trans s7
        have hm7 := s07 _ _ hm
        have hte7 := s07 _ _ hte
        have bl : (bs.map V.bl).length = bs.length := List.length_map _
        have lenb := me.len
        refine ⟨_, rfl, mt, _, rfl, SqL.of hb7, fun D hD => ?_⟩
        have nD : H D = none := s07.free hD
        refine dc_it walk_enum (fun i H8 => Same H7 H8 ∧ ∃ (kvs : List (Key × V)) (ks : List Int), H8 D = some (.dK kvs) ∧ Keys kvs ks ∧ ks.Nodup ∧ ks.length ≤ i ∧ ∀ x : Int, x ∈ ks ↔ ∃ i' < i, bs[i']? = some true ∧ ((i' : Nat) : Int) % n ∈ es ∧ ((i' : Nat) : Int) / n = x)
          ⟨same_upd hD, [], [], upd_same, rfl, List.nodup_nil, Nat.le_refl _, fun x => ⟨fun z => absurd z List.not_mem_nil, fun ⟨_, z, _⟩ => absurd z (Nat.not_lt_zero _)⟩⟩ (fun i H8 _ ⟨s8, _⟩ => SqL.of (s8 _ _ hb7)) ?_ ?_
        · rintro i x H8 H9 hi ⟨s8, kvs, ks, hd8, keys, nod, few, inn⟩ ⟨T2, y, z, rfl, hT2, rfl, hy, hz⟩
          rw [bl] at hi
          obtain rfl : V.int ((i : Nat) : Int) = y := Option.some.inj hy
          obtain rfl : V.bl bs[i] = z := by
            have hz : (bs.map V.bl)[i]? = some z := hz
            rw [List.getElem?_map, List.getElem?_eq_getElem hi] at hz
            exact Option.some.inj hz
          have s9 : Same H8 (upd H8 T2 (.tup [.int ((i : Nat) : Int), .bl bs[i]])) := same_upd hT2
          have s79 := s8.trans s9
          have hd9 := s9 _ _ hd8
          refine ⟨T2, _, rfl, SqT.of upd_same, rfl, _, _, rfl, _, _, rfl, rfl, rfl, _, rfl, bs[i], rfl, ?_⟩
          generalize upd H8 T2 (.tup [.int ((i : Nat) : Int), .bl bs[i]]) = H9 at s9 s79 hd9 ⊢
          have same : (¬ (bs[i] = true ∧ ((i : Nat) : Int) % n ∈ es)) → Same H7 H9 ∧ ∃ (kvs : List (Key × V)) (ks : List Int), H9 D = some (.dK kvs) ∧ Keys kvs ks ∧ ks.Nodup ∧ ks.length ≤ i + 1 ∧ ∀ x : Int, x ∈ ks ↔ ∃ i' < i + 1, bs[i']? = some true ∧ ((i' : Nat) : Int) % n ∈ es ∧ ((i' : Nat) : Int) / n = x := fun no => by
            refine ⟨s79, kvs, ks, hd9, keys, nod, by omega, fun x => (inn x).trans ⟨fun ⟨i', a, b⟩ => ⟨i', by omega, b⟩, fun ⟨i', a, b, c, d⟩ => ?_⟩⟩
            rcases Nat.lt_succ_iff_lt_or_eq.mp a with z | rfl
            · exact ⟨i', z, b, c, d⟩
            · rw [List.getElem?_eq_getElem hi] at b
              exact absurd ⟨Option.some.inj b, c⟩ no
          by_cases hb : bs[i] = true
          · rw [hb]
            refine iteT ?_
            refine ⟨_, rfl, _, rfl, _, _, rfl, rfl, (show (0 : Int) < n by omega), _, rfl, m, dx, _, rfl, s79 _ _ hm7, m, dx, _, _, rfl, s79 _ _ hm7, mfl_E, e, _, rfl, .inr (SqT.of (s79 _ _ hte7)), rfl, flat_ints es, _, rfl, ?_⟩
            rw [inV_int]
            by_cases ine : ((i : Nat) : Int) % n ∈ es
            · rw [decide_eq_true ine]
              refine iteT ?_
              have kl := keys.len
              refine ⟨_, rfl, _, rfl, _, _, rfl, rfl, ⟨by omega, by omega⟩, kvs, Sum.inl (((i : Nat) : Int) / n), rfl, hd9, by rw [sizeLine_eq]; omega, same_at s79 hD, ?_⟩
              by_cases old : ((i : Nat) : Int) / n ∈ ks
              · refine ⟨_, ks, upd_same, keys_old keys old _, nod, by omega, fun x => (inn x).trans ⟨fun ⟨i', a, b⟩ => ⟨i', by omega, b⟩, fun ⟨i', a, b, c, d⟩ => ?_⟩⟩
                rcases Nat.lt_succ_iff_lt_or_eq.mp a with z | rfl
                · exact ⟨i', z, b, c, d⟩
                · rw [← d]
                  exact (inn _).mp old
              · refine ⟨_, ks ++ [((i : Nat) : Int) / n], upd_same, keys.put old _, List.nodup_append.mpr ⟨nod, List.nodup_cons.mpr ⟨List.not_mem_nil, List.nodup_nil⟩, fun a ha b hb2 ab => ?_⟩, by rw [List.length_append]; show _ + 1 ≤ _; omega, fun x => ?_⟩
                · rw [List.mem_singleton.mp hb2] at ab
                  exact old (ab ▸ ha)
                · rw [List.mem_append, inn x]
                  constructor
                  · rintro (⟨i', a, b⟩ | z)
                    · exact ⟨i', by omega, b⟩
                    · exact ⟨i, by omega, by rw [List.getElem?_eq_getElem hi, hb], ine, (List.mem_singleton.mp z).symm⟩
                  · rintro ⟨i', a, b, c, d⟩
                    rcases Nat.lt_succ_iff_lt_or_eq.mp a with z | rfl
                    · exact .inl ⟨i', z, b, c, d⟩
                    · exact .inr (List.mem_singleton.mpr d.symm)
            · rw [decide_eq_false ine]
              exact iteF (same fun z => ine z.2)
          · have hb2 : bs[i] = false := by simpa using hb
            rw [hb2]
            exact iteF (same fun z => hb z.1)
        · rintro H8 ⟨s8, kvs, ks, hd8, keys, nod, few, inn⟩
          rw [bl] at inn few
          refine q D kvs ks H8 nD (s07.trans s8) hd8 keys nod (fun x => (inn x).trans ?_) (by omega)
          constructor
          · rintro ⟨i', a, b, c, d⟩
            obtain ⟨u, hu, eu⟩ := (me.all S i').mp b
            obtain ⟨d1, d2⟩ := S.div hu
            rw [eu] at d1 d2
            exact ⟨u, hu, by rw [← d2]; exact c, by rw [← d, d1]⟩
          · rintro ⟨u, hu, c, rfl⟩
            obtain ⟨k0, k1⟩ := S.inN hu
            obtain ⟨d1, d2⟩ := S.div hu
            have ek : (((keyW L cap md n tb u).toNat : Nat) : Int) = keyW L cap md n tb u := by omega
            exact ⟨(keyW L cap md n tb u).toNat, by omega, (me.all S _).mpr ⟨u, hu, ek.symm⟩, by rw [ek, d2]; exact c, by rw [ek, d1]⟩
      | cons y0 ys0 =>
        rw [← hqs]
        refine (if_pos (show (!(qs.map V.int).isEmpty) = true by rw [hqs] <;> rfl)).mpr ?_
        have ne : qs ≠ [] := by rw [hqs]; exact List.cons_ne_nil _ _
        clear hqs
        have lq : 1 ≤ qs.length := by have := List.length_pos_iff.mpr ne; omega
        obtain ⟨x, hx⟩ : ∃ x, qs[qs.length - 1]? = some x := ⟨_, List.getElem?_eq_getElem (by omega)⟩
        have mid := me.pop hx
        refine ⟨_, rfl, .inl ⟨rfl, _, SqL.of hq7⟩, qu, qs.map V.int, .int x, rfl, rfl, hq7, by rw [List.length_map, List.getElem?_map, hx] <;> rfl, ?_⟩
        have s8 : Same H3 (upd H7 qu (.lst (qs.map V.int).dropLast)) := same_at s7 nqu
        have hb8 : (upd H7 qu (.lst (qs.map V.int).dropLast)) mt = some (.lst (bs.map V.bl)) := by rw [upd_ne mq]; exact hb7
        have hq8 : (upd H7 qu (.lst (qs.map V.int).dropLast)) qu = some (.lst (qs.dropLast.map V.int)) := by rw [upd_same, List.map_dropLast]
        generalize upd H7 qu (.lst (qs.map V.int).dropLast) = H8 at s8 hb8 hq8 ⊢
        dsimp only [gName]
        have s08 := s3.trans s8
        have hm8 := s08 _ _ hm
        have htt8 := s08 _ _ htt
        have hto3 : Objs oTup H3 ts tb := hto.to fun _ _ _ z => s3 _ _ z
        obtain ⟨w0, hw0, ew0⟩ := mid.word S
        have st0 := S.st_in hw0
        have xn : 0 ≤ x % n ∧ x % n < n := by rw [← ew0, (S.div hw0).2]; exact st0
        have i0 : (x % n).toNat < tb.length := by omega
        obtain ⟨ra, er1, er2⟩ := hto3.get i0
        have exn : x % n = (((x % n).toNat : Nat) : Int) := by omega
        have at1 : atI (ts.map V.ref) (x % n) = some (.ref ra) := by
          rw [exn]
          exact atI_nat (by rw [List.getElem?_map, er1] <;> rfl)
        obtain ⟨rl, rb⟩ := S.ok.row _ (List.getElem_mem i0)
        have rgd : tb.getD (x % n).toNat [] = tb[(x % n).toNat] := by rw [List.getD_eq_getElem?_getD, List.getElem?_eq_getElem i0] <;> rfl
        rw [rgd] at er2
        have hl : ((unitsN (cap + md) n L.length).map V.int).length = (tb[(x % n).toNat].map V.int).length := by rw [List.length_map, List.length_map, ul, rl]
        have hl2 : ((unitsN (cap + md) n L.length).map V.int).length = L.length := by rw [List.length_map, ul]
        refine ⟨_, rfl, _, rfl, m, dx, _, rfl, hm8, m, dx, _, _, rfl, hm8, mfl_T, _, rfl, _, rfl, _, _, rfl, rfl, (show (0 : Int) < n by omega), t, ts.map V.ref, x % n, .ref ra, rfl, rfl, SqT.of htt8, at1, un, (unitsN (cap + md) n L.length).map V.int, ra, tb[(x % n).toNat].map V.int, rfl, SqL.of (s8 _ _ hu3), SqT.of (s8 _ _ er2), ?_⟩
        refine for_it (ZLT.walk_lt hl) (fun j σ H9 => ∃ (bs2 : List Bool) (qs2 : List Int) (x9 x10 x11 x12 x13 : Option V), Mid L cap md n tb x j bs2 qs2 ∧ Same H3 H9 ∧ H9 mt = some (.lst (bs2.map V.bl)) ∧ H9 qu = some (.lst (qs2.map V.int)) ∧ 2 * left bs2 + qs2.length < 2 * left bs + qs.length ∧
          σ = [some (.ref m), some (.int cap), some (.int md), some (.int n), some (.int (cap + md)), some (.ref un), some (.ref mt), some (.ref qu), some (.int x), x9, x10, x11, x12, x13, none, none]) ?_ (fun j σ H9 _ ⟨_, _, _, _, _, _, _, _, s9, _⟩ => ⟨SqL.of (s9 _ _ hu3), SqT.of (s9 _ _ er2)⟩) ?_ ?_
        · refine ⟨bs, qs.dropLast, x9, x10, x11, x12, x13, mid, s8, hb8, hq8, ?_, rfl⟩
          rw [List.length_dropLast]
          omega
        · rintro j v σ H9 H10 hj ⟨bs9, qs9, y9, y10, y11, y12, y13, md9, s9, hb9, hq9, lt9, rfl⟩ ⟨T2, a, b, rfl, hT2, rfl, ha, hb⟩
          rw [hl2] at hj
          obtain rfl : V.int (unitAt L cap md n j) = a := by
            have ha : ((unitsN (cap + md) n L.length).map V.int)[j]? = some a := ha
            rw [List.getElem?_map, S.unit_at hj] at ha
            exact Option.some.inj ha
          obtain rfl : V.int (afterAt tb n x j) = b := by
            have hb : (tb[(x % n).toNat].map V.int)[j]? = some b := hb
            have jr : j < tb[(x % n).toNat].length := by rw [rl]; exact hj
            unfold afterAt
            rw [List.getElem?_map, List.getElem?_eq_getElem jr] at hb
            rw [rgd, List.getD_eq_getElem?_getD, List.getElem?_eq_getElem jr]
            exact Option.some.inj hb
          obtain ⟨u1, u2⟩ := S.unit_in hj
          obtain ⟨nx0, nx1⟩ := md9.next S hj
          obtain ⟨k, hk⟩ : ∃ k : Nat, nxt L cap md n tb x j = (k : Int) := ⟨(nxt L cap md n tb x j).toNat, by omega⟩
          have lenb := md9.len
          have kl : k < bs9.length := by omega
          have s10 : Same H9 (upd H9 T2 (.tup [.int (unitAt L cap md n j), .int (afterAt tb n x j)])) := same_upd hT2
          have tu : (upd H9 T2 (.tup [.int (unitAt L cap md n j), .int (afterAt tb n x j)])) T2 = some (.tup [.int (unitAt L cap md n j), .int (afterAt tb n x j)]) := upd_same
          have hb10 := s10 _ _ hb9
          have hq10 := s10 _ _ hq9
          have s310 := s9.trans s10
          generalize upd H9 T2 (.tup [.int (unitAt L cap md n j), .int (afterAt tb n x j)]) = H10 at s10 tu hb10 hq10 s310 ⊢
          refine ⟨T2, _, rfl, SqT.of tu, rfl, _, _, rfl, _, _, rfl, rfl, ?_⟩
          refine ⟨_, rfl, _, rfl, _, _, rfl, rfl, ⟨by omega, by omega⟩, _, rfl, _, _, rfl, rfl, (show (0 : Int) < cap + md by omega), ?_⟩
          refine ⟨x / unitAt L cap md n j % (cap + md), unitAt L cap md n j, cap + md, md, rfl, rfl, rfl, rfl, .inl ⟨by omega, by omega⟩, ?_⟩
          refine ⟨_, rfl, _, rfl, _, rfl, _, _, rfl, rfl, (show (0 : Int) < n by omega), _, _, rfl, rfl, _, rfl, _, _, rfl, rfl, _, rfl, _, _, rfl, rfl, ?_⟩
          have ev : x - x % n + (if x / unitAt L cap md n j % (cap + md) + 1 < cap + md then unitAt L cap md n j else (1 - md) * unitAt L cap md n j) + afterAt tb n x j = (k : Int) := hk
          have kat : (bs9.map V.bl)[k]? = some (.bl bs9[k]) := by rw [List.getElem?_map, List.getElem?_eq_getElem kl] <;> rfl
          refine ⟨_, rfl, _, rfl, mt, bs9.map V.bl, (k : Int), .bl bs9[k], rfl, congrArg V.int ev, SqL.of hb10, atI_nat kat, _, rfl, ?_⟩
          by_cases hbk : bs9[k] = true
          · rw [hbk]
            refine iteF ?_
            have is : isT bs9 (nxt L cap md n tb x j) := by
              unfold isT
              rw [hk, Int.toNat_natCast, List.getElem?_eq_getElem kl, hbk]
            exact ⟨bs9, qs9, _, _, _, _, _, md9.old is, s310, hb10, hq10, lt9, rfl⟩
          · have hbk : bs9[k] = false := by simpa using hbk
            rw [hbk]
            refine iteT ?_
            have new := md9.new S hj
            rw [hk, Int.toNat_natCast] at new
            have nmt10 := s310
            have hb11 : (upd H10 mt (.lst ((bs9.map V.bl).set k (.bl true)))) mt = some (.lst ((bs9.set k true).map V.bl)) := by rw [upd_same, List.map_set]
            have hq11 : (upd H10 mt (.lst ((bs9.map V.bl).set k (.bl true)))) qu = some (.lst (qs9.map V.int)) := by rw [upd_ne (Ne.symm mq)]; exact hq10
            have s11 : Same H3 (upd H10 mt (.lst ((bs9.map V.bl).set k (.bl true)))) := same_at s310 nmt
            refine ⟨_, rfl, _, rfl, mt, bs9.map V.bl, (k : Int), k, rfl, congrArg V.int ev, hb10, ixN_in (by omega) (by rw [List.length_map]; omega), ?_⟩
            generalize upd H10 mt (.lst ((bs9.map V.bl).set k (.bl true))) = H11 at hb11 hq11 s11 ⊢
            refine ⟨_, rfl, .inl ⟨rfl, _, SqL.of hq11⟩, _, rfl, qu, qs9.map V.int, _, rfl, rfl, hq11, ?_, ?_⟩
            · have l0 := left_set (bs := bs9) (k := k) (by rw [List.getElem?_eq_getElem kl, hbk])
              rw [List.length_map, sizeLine_eq]
              omega
            · refine ⟨bs9.set k true, qs9 ++ [(k : Int)], _, _, _, _, _, new, same_at s11 nqu, by rw [upd_ne mq]; exact hb11, ?_, ?_, rfl⟩
              · rw [upd_same, List.map_append]
                show some (HO.lst (_ ++ [V.int _])) = some (HO.lst (_ ++ [V.int (k : Int)]))
                rw [ev]
              · have l0 := left_set (bs := bs9) (k := k) (by rw [List.getElem?_eq_getElem kl, hbk])
                rw [List.length_append]
                show 2 * left (bs9.set k true) + (qs9.length + 1) < _
                omega
        · rintro σ H9 ⟨bs9, qs9, y9, y10, y11, y12, y13, md9, s9, hb9, hq9, lt9, rfl⟩
          rw [hl2] at md9
          refine ⟨⟨bs9, qs9, some (.int x), y9, y10, y11, y12, y13, md9.end_, by omega, s9, hb9, hq9, rfl⟩, ?_⟩
          show 2 * left (boolsAt H9 mt) + lenAt H9 qu < 2 * left (boolsAt H7 mt) + lenAt H7 qu
          rw [mu0, boolsAt_eq hb9, lenAt_eq hq9, List.length_map]
          exact lt9
    · exact fun σ H Q Q' k ⟨v, e, b, t, q⟩ => ⟨v, e, b, t, k _ _ q⟩
end
end WK
set_option Elab.async false
set_option linter.all false
set_option maxRecDepth 100000
set_option maxHeartbeats 8000000
namespace WK
open PySem L2 PyProof.Rows LCX K1 FV DP
open TX (sg sigs)
open PySem.W (Frag kitOne)
/-- a new dict, from here on as it stands -/
theorem pe_frz {X : Cx} {e : Expr} {td : TE} (h : PE X e td) : PE X e (fun σ H Q => td σ H fun x H1 => ∃ d u, x = .ref d ∧ H1 d = some u ∧ Mut (some u) ∧ ∀ od, Q x (upd H1 d (.frz od u))) := by
  refine ⟨fun pins s σ H Q I z => ?_⟩
  refine thn (h.run pins s σ H _ I z) fun v s1 ⟨x, H1, I1, rx, d, u, ex, hd, mu, q⟩ => ?_
  obtain ⟨od, I2⟩ := I1.lock hd mu
  exact ⟨x, _, I2, rx, q od⟩
theorem cut_places (s : Int) {k : Nat} (h : k = 1 ∨ k = 2) : cutV ([s * s, s, 1].map V.int) (some ((3 : Int) - ((k : Nat) : Int))) none = (placesN s k).map V.int := by
  rcases h with rfl | rfl <;> rfl
/-- the counts of a code -/
def decN (s : Int) (k : Nat) (x : Int) : List Int := (placesN s k).map fun p => x / p % s
abbrev sNeedCS : Stmt := top 50
abbrev sSight : Stmt := top 54
abbrev sSights : Stmt := top 55
abbrev sIsClerk : Stmt := top 56
abbrev sNeedF : Stmt := top 57
abbrev sTells : Stmt := top 59
def spNeedM1 (K : Frag) (C : Addr) : Sp := fun vs H Q _ => ∃ (t a : Addr), vs = [.ref t] ∧ SqT K H t [.ref a] ∧ InsAt C H a ∧ Q .non H
def spNeedCS : Sp := fun vs H Q _ => ∃ x : Str, vs = [.str x] ∧ (x = "caps" ∨ x = "sums" ∨ x = "clerks") ∧ Q .non H
def spNeedF (K : Frag) (C : Addr) : Sp := fun vs H Q _ => ∃ (a b : Addr) (x : Str), vs = [.ref a, .ref b, .str x] ∧ InsAt C H a ∧ InsAt C H b ∧ (x = "caps" ∨ x = "sums" ∨ x = "clerks") ∧ ∀ H', Same H H' → Q .non H'
def spSight (K : Frag) : Sp := fun vs H Q _ => ∃ (L u : W) (cap md : Int), vs = [.str (tx L), .int cap, .int md, .str (tx u)] ∧ Let L ∧ Low u ∧ u.length < 64 ∧ (∀ c ∈ u, c ∈ L) ∧ 0 ≤ cap ∧ cap ≤ 40 ∧ 1 ≤ md ∧ md ≤ 40 ∧ ∀ t H', H t = none → Same H H' → H' t = some (oTup (vecW L cap md u)) → Q (.ref t) H'
/-- what a machine's words come to: the counts in order of their codes -/
structure Told (L : W) (cap md : Int) (tb : List (List Int)) (es : List Int) (vs : List (List Int)) : Prop where
  asc : (vs.map (TS.code (cap + md))).Pairwise (· < ·)
  all : ∀ v, v ∈ vs ↔ ∃ u : W, (∀ c ∈ u, c ∈ L) ∧ stW L tb u ∈ es ∧ v = vecW L cap md u
def spSights (C : Addr) : Sp := fun vs H Q _ => ∃ (m : Addr) (L : W) (tb : List (List Int)) (es : List Int) (n cap md : Int), vs = [.ref m, .int cap, .int md] ∧ Let L ∧ MacAt C H m L tb es ∧ Sch L cap md n tb ∧ es.length ≤ 1000 ∧
  ∀ p ns H', H p = none → Same H H' → RowsAt H' p ns → Told L cap md tb es ns → ns.length ≤ 2304 → Q (.ref p) H'
def spTells (C : Addr) : Sp := fun vs H Q _ => ∃ (m1 m2 : Addr) (L : W) (t1 t2 : List (List Int)) (e1 e2 : List Int) (n1 n2 cap md : Int), vs = [.ref m1, .ref m2, .int cap, .int md] ∧ Let L ∧ MacAt C H m1 L t1 e1 ∧ MacAt C H m2 L t2 e2 ∧ Sch L cap md n1 t1 ∧ Sch L cap md n2 t2 ∧ e1.length ≤ 1000 ∧ e2.length ≤ 1000 ∧
  ∀ (b : Bool) H', Same H H' → (b = true ↔ ∀ x : Int, SeenIs L cap md t1 e1 x → ¬ SeenIs L cap md t2 e2 x) → Q (.bl b) H'
abbrev NSs : List Str := ["machine", "cap", "modulus", "size", "found", "places", "number", "place"]
abbrev scSI : Scope := { kind := .function, names := [(".0", .local), ("number", .cell), ("tuple", .globalImplicit), ("places", .cell), ("size", .cell)], isGenerator := false, isCoroutine := false }
section
variable {P : Program} {w : World} {K : PySem.W.Frag} {mg : Str → Option Value} {base : Heap} {C cD cM pL gL fNM fNC fNN fS fCt fNL fNW fNO aCS : Addr} {dNM dNC dNN dL dS dCt dNL dNW dNO : FuncData}
theorem scNC : FnScope ["sort"] ["sort"] (defScope sNeedCS) := ⟨rfl, rfl, rfl, by decide +kernel, rfl, by decide +kernel, by decide +kernel⟩
theorem scNF : FnScope ["one", "other", "sort"] ["one", "other", "sort"] (defScope sNeedF) := ⟨rfl, rfl, rfl, by decide +kernel, rfl, by decide +kernel, by decide +kernel⟩
theorem scSt1 : FnScope ["letters", "cap", "modulus", "word", "many"] ["letters", "cap", "modulus", "word"] (defScope sSight) := ⟨rfl, rfl, rfl, by decide +kernel, rfl, by decide +kernel, by decide +kernel⟩
theorem scSs : FnScope NSs ["machine", "cap", "modulus"] (defScope sSights) := ⟨rfl, rfl, rfl, by decide +kernel, rfl, by decide +kernel, by decide +kernel⟩
theorem scTl : FnScope ["one", "other", "cap", "modulus", "left", "number"] ["one", "other", "cap", "modulus"] (defScope sTells) := ⟨rfl, rfl, rfl, by decide +kernel, rfl, by decide +kernel, by decide +kernel⟩
theorem ok_needm1 {f : Addr} {fd : FuncData} (F : Fun K "need_machines" "need_machines" sNeedMs f fd) (T : TN mg) (M : TMc K mg C cD cM) (Y : TBy K C) : FnOk P w K mg base CX0 1 f fd ["machines"] (spNeedM1 K C) := by
  refine F.ok scNM (fun vs H Q E h => ?_) (fun cdv A outer s H vs Q E hr h => ?_)
  · obtain ⟨t, _, rfl, _⟩ := h
    rfl
  · obtain ⟨t, a, rfl, hT, ha, q⟩ := h
    refine ⟨_, pss_one (ps_for PassesOwn.never rfl (pi_tup (pv 0)) (pg_name (i := 1) scNM.nd rfl (Or.inl rfl))
      (pss_one (ps_if (pt_not (pt_val (pe_callB call_isi (by rfl) T.isi (by decide +kernel) (pa_cons (pv 1) (pa_cons (pe_glob rfl M.gC (show RelV (.ref C) (.ref C) from rfl)) pa_nil))))) (pss_one ps_never) pss_nil))), ?_⟩
    refine ⟨_, rfl, t, rfl, ⟨_, hT⟩, ?_⟩
    refine for_tup (xs := [.ref a]) (fun i σ H' => (∃ x, σ = [some (.ref t), x]) ∧ H' = H) ⟨⟨_, rfl⟩, rfl⟩ (fun _ _ H' _ h => by rw [h.2]; exact hT) ?_ ?_
    · rintro i x σ H2 hx ⟨⟨y, rfl⟩, rfl⟩
      obtain ⟨dx, fs, hz⟩ := ha
      obtain rfl : x = .ref a := by
        rcases i with _ | i
        · exact (Option.some.inj hx).symm
        · cases hx
      exact ⟨_, rfl, _, _, _, _, true, rfl, .own C, .base (.ins hz M.cl Y.is.ca Y.is.cn Y.is.ct Y.is.cm), Y.kC, _, rfl, ⟨_, rfl⟩, rfl⟩
    · rintro σ H2 ⟨⟨y, rfl⟩, rfl⟩
      exact q
theorem ok_needcs {f : Addr} {fd : FuncData} {tCS : Value} (F : Fun K "need_count_sort" "need_count_sort" sNeedCS f fd) (T : TN mg) (g : mg "COUNT_SORTS" = some (.ref aCS)) (hc : ∀ H : Hp, SqT K H aCS [.str "caps", .str "sums", .str "clerks"]) : FnOk P w K mg base CX0 1 f fd ["sort"] spNeedCS := by
  refine F.ok scNC (fun vs H Q E h => ?_) (fun cdv A outer s H vs Q E hr h => ?_)
  · obtain ⟨x, rfl, _⟩ := h
    rfl
  · obtain ⟨x, rfl, hx, q⟩ := h
    refine ⟨_, pss_one (ps_if (PW.pt (pw_or (pt_not (pt_val (pe_callB call_isi (by rfl) T.isi (by decide +kernel) (pa_cons (pv 0) (pa_cons (pe_ty "str" T.str (by decide +kernel)) pa_nil))))) (pw_or1 (pt_cmpR op_notIn_seq (pv 0) (pe_glob rfl g (show RelV (.ref aCS) (.ref aCS) from rfl)) (by rfl))))) (pss_one ps_never) pss_nil), ?_⟩
    have hx2 : inV (.str x) [.str "caps", .str "sums", .str "clerks"] = true := by
      rcases hx with rfl | rfl | rfl <;> decide +kernel
    refine ⟨_, rfl, _, _, _, _, true, rfl, .ty "str", .base (.str _), kit_ty (by decide +kernel), true, rfl, ?_⟩
    refine ⟨_, rfl, aCS, _, rfl, .inr (hc H), rfl, rfl, _, rfl, ?_⟩
    rw [hx2]
    exact q
theorem ok_needf {f : Addr} {fd : FuncData} (F : Fun K "_need" "_need" sNeedF f fd) (AM : Fn K mg "need_machines" sNeedMs ["machines"] fNM dNM) (GM : FnOk P w K mg base CX0 1 fNM dNM ["machines"] (spNeedMs K C)) (AC : Fn K mg "need_count_sort" sNeedCS ["sort"] fNC dNC) (GC : FnOk P w K mg base CX0 1 fNC dNC ["sort"] spNeedCS) :
    FnOk P w K mg base CX0 2 f fd ["one", "other", "sort"] (spNeedF K C) := by
  refine F.ok scNF (fun vs H Q E h => ?_) (fun cdv A outer s H vs Q E hr h => ?_)
  · obtain ⟨a, b, x, rfl, _⟩ := h
    rfl
  · obtain ⟨a, b, x, rfl, ha, hb, hx, q⟩ := h
    refine ⟨_, pss_cons (ps_expr (pe_call GM hr rfl AM.g AM.F.kp AM.b .nil pass0 (pa_cons (pe_tup (pa_cons (pv 0) (pa_cons (pv 1) pa_nil))) pa_nil))) (pss_one (ps_expr (pe_call GC hr rfl AC.g AC.F.kp AC.b .nil pass0 (pa_cons (pv 2) pa_nil)))), ?_⟩
    refine ⟨_, rfl, _, rfl, by show 2 ≤ sizeLine; decide, fun p hp => ?_⟩
    have s1 := same_upd (o := .tup [.ref a, .ref b]) hp
    obtain ⟨d1, f1, h1⟩ := ha
    obtain ⟨d2, f2, h2⟩ := hb
    exact ⟨p, a, b, rfl, SqT.of upd_same, ⟨d1, f1, s1 _ _ h1⟩, ⟨d2, f2, s1 _ _ h2⟩, _, rfl, x, rfl, hx, q _ s1⟩
theorem ok_sight {f : Addr} {fd : FuncData} (F : Fun K "sight" "sight" sSight f fd) (T : TN mg) (most : ∃ t, mg "_MAX_SEEN" = some (.int 40 t)) (AL : Fn K mg "need_letters" sNeedLet ["letters"] fNL dNL) (GL : FnOk P w K mg base CX0 3 fNL dNL ["letters"] spNeedLet) (AN : Fn K mg "need_number" sNeedNum ["value", "least", "most"] fNN dNN) (GN : FnOk P w K mg base CX0 3 fNN dNN ["value", "least", "most"] spNeedNum)
    (AW : Fn K mg "need_word" sNeedWord ["word"] fNW dNW) (GW : FnOk P w K mg base CX0 2 fNW dNW ["word"] spNeedWord) (AO : Fn K mg "need_over" sNeedOver ["letters", "word"] fNO dNO) (GO : FnOk P w K mg base CX0 2 fNO dNO ["letters", "word"] spNeedOver)
    (AC : Fn K mg "counts" sCounts ["letters", "word"] fCt dCt) (GC : FnOk P w K mg base CX0 4 fCt dCt ["letters", "word"] spCounts) :
    FnOk P w K mg base CX0 5 f fd ["letters", "cap", "modulus", "word"] (spSight K) := by
  obtain ⟨tm, most⟩ := most
  refine F.ok scSt1 (fun vs H Q E h => ?_) (fun cdv A outer s H vs Q E hr h => ?_)
  · obtain ⟨L, u, cap, md, rfl, _⟩ := h
    rfl
  · obtain ⟨L, u, cap, md, rfl, hL, hu, hul, huL, c0, c1, m0, m1, q⟩ := h
    have hr3 : Room 3 _ := hr.mono (by decide)
    have hr2 : Room 2 _ := hr.mono (by decide)
    refine ⟨_, pss_cons (ps_expr (pe_call GL hr3 rfl AL.g AL.F.kp AL.b .nil pass0 (pa_cons (pv 0) pa_nil)))
      (pss_cons (ps_expr (pe_call GN hr3 rfl AN.g AN.F.kp AN.b .nil pass0 (pa_cons (pv 1) (pa_cons pe_int (pa_cons (pe_glob rfl most (show RelV (.int 40) (.int 40 tm) from ⟨tm, rfl⟩)) pa_nil)))))
      (pss_cons (ps_expr (pe_call GN hr3 rfl AN.g AN.F.kp AN.b .nil pass0 (pa_cons (pv 2) (pa_cons pe_int (pa_cons (pe_glob rfl most (show RelV (.int 40) (.int 40 tm) from ⟨tm, rfl⟩)) pa_nil)))))
      (pss_cons (ps_expr (pe_call GW hr2 rfl AW.g AW.F.kp AW.b .nil pass0 (pa_cons (pv 3) pa_nil)))
      (pss_cons (ps_expr (pe_call GO hr2 rfl AO.g AO.F.kp AO.b .nil pass0 (pa_cons (pv 0) (pa_cons (pv 3) pa_nil))))
      (pss_one (ps_ret (pe_callTy call_tuple_of (by rfl) T.tuple (by decide +kernel) (pa_cons (pe_lc (own := [("many", 4)]) (g := gName 4) (tt := tYes)
        (te := tIf (tTest (tOp (rI0 fun i j => .bl (decide (i < j))) (tVar 4) (tOp (rI0 fun i j => .int (i + j)) (tVar 1) (tVar 2)))) (tVar 4) (tOp (rI0 fun i j => .int (i + j)) (tVar 1) (tOp (rI (fun _ j => 0 < j) fun i j => .int (i % j)) (tOp (rI0 fun i j => .int (i - j)) (tVar 4) (tVar 1)) (tVar 2)))) rfl scSt1.nd (pi_tup (pe_call GC hr rfl AC.g AC.F.kp AC.b .nil pass0 (pa_cons (pv 0) (pa_cons (pv 3) pa_nil))))
        (blkOk_by (own := [("many", 4)]) (N := ["letters", "cap", "modulus", "word", "many"]) (sc := defScope sSight) (by decide +kernel)) (fun _ _ _ _ _ => pg_name (i := 4) scSt1.nd rfl (Or.inl rfl)) (fun _ _ _ _ _ => pts_nil)
        (fun _ _ _ _ _ => pe_ifExp (pt_cmpR op_lt (pv 4) (pe_op op_add (pv 1) (pv 2)) (nomark _)) (pv 4) (pe_op op_add (pv 1) (pe_op op_mod (pe_op op_sub (pv 4) (pv 1)) (pv 2))))) pa_nil)))))))), ?_⟩
    refine ⟨_, rfl, L, rfl, hL, fun H1 s1 => ?_⟩
    refine ⟨_, rfl, cap, 0, 40, rfl, by omega, by omega, ?_⟩
    refine ⟨_, rfl, md, 1, 40, rfl, by omega, by omega, ?_⟩
    refine ⟨_, rfl, u, rfl, hu, ?_⟩
    refine ⟨_, rfl, _, rfl, L, u, rfl, hul, huL, fun H2 s2 => ?_⟩
    have s02 := s1.trans s2
    refine ⟨_, rfl, _, rfl, L, u, rfl, hL, hu, hul, huL, fun t3 H3 n3 s3 h3 => ?_⟩
    refine ⟨t3, rfl, ⟨_, SqT.of h3⟩, fun D hD => ?_⟩
    have nD : H D = none := (s02.trans s3).free hD
    have few := hL.few
    refine lc_it walk_tup (fun i H4 => Same H3 H4 ∧ H4 D = some (.lst (((vecW L cap md u).take i).map V.int))) ⟨same_upd hD, upd_same⟩ (fun i H4 _ ⟨s4, _⟩ => SqT.of (s4 _ _ h3)) ?_ ?_
    · rintro i x H4 H5 hi ⟨s4, hd⟩ ⟨rfl, hx⟩
      have hi2 : i < L.length := by simpa using hi
      obtain rfl : x = .int ((u.count L[i] : Nat) : Int) := by
        simp only [List.getElem?_map, List.getElem?_eq_getElem hi2, Option.map_some, Option.some.injEq] at hx
        exact hx.symm
      have at_ : (vecW L cap md u).take (i + 1) = (vecW L cap md u).take i ++ [seenN cap md ((u.count L[i] : Nat) : Int)] := by
        rw [List.take_add_one]
        unfold vecW
        rw [List.getElem?_map, List.getElem?_eq_getElem hi2] <;> rfl
      have fin : ∀ y : Int, y = seenN cap md ((u.count L[i] : Nat) : Int) → ∃ acc, H5 D = some (.lst acc) ∧ acc.length < sizeLine ∧ Same H3 (upd H5 D (.lst (acc ++ [V.int y]))) ∧ (upd H5 D (.lst (acc ++ [V.int y]))) D = some (.lst (((vecW L cap md u).take (i + 1)).map V.int)) := fun y e => by
        refine ⟨_, hd, ?_, same_at s4 hD, ?_⟩
        · rw [List.length_map, List.length_take, sizeLine_eq]
          omega
        · rw [upd_same, at_, List.map_append, e] <;> rfl
      refine ⟨rfl, _, rfl, _, rfl, _, rfl, _, _, rfl, rfl, _, _, rfl, rfl, _, rfl, ?_⟩
      refine ite2 (fun h => ?_) (fun h => ?_)
      · refine ⟨_, rfl, fin _ ?_⟩
        unfold seenN
        rw [if_pos (of_decide_eq_true h)]
      · have h : ¬ ((u.count L[i] : Nat) : Int) < cap + md := fun z => by
          rw [decide_eq_true z] at h
          exact absurd rfl h
        refine ⟨_, rfl, _, rfl, _, rfl, _, _, rfl, rfl, _, rfl, _, _, rfl, rfl, (show (0 : Int) < md by omega), _, _, rfl, rfl, fin _ ?_⟩
        unfold seenN
        rw [if_neg h]
    · rintro H4 ⟨s4, hd⟩
      have hd : H4 D = some (.lst ((vecW L cap md u).map V.int)) := by
        rw [hd]
        congr 3
        refine List.take_of_length_le (Nat.le_of_eq ?_)
        rw [vec_len]
        simp
      refine ⟨D, _, rfl, .inl ⟨SqL.of hd, fun t ht => ?_⟩⟩
      have s04 := (s02.trans s3).trans s4
      exact q t _ (s04.free ht) (s04.trans (same_upd ht)) upd_same
theorem ok_sights {f : Addr} {fd : FuncData} (F : Fun K "sights" "sights" sSights f fd) (T : TN mg) (M : TMc K mg C cD cM) (most : ∃ t, mg "MAX_CLERK" = some (.int 12 t)) (AM : Fn K mg "need_machines" sNeedMs ["machines"] fNM dNM) (GM : FnOk P w K mg base CX0 1 fNM dNM ["machines"] (spNeedM1 K C)) (AN : Fn K mg "need_number" sNeedNum ["value", "least", "most"] fNN dNN) (GN : FnOk P w K mg base CX0 3 fNN dNN ["value", "least", "most"] spNeedNum)
    (AS : Fn K mg "_seen" sSeenM ["machine", "cap", "modulus"] fS dS) (GS : FnOk P w K mg base CX0 3 fS dS ["machine", "cap", "modulus"] (spSeenM C)) (RL : PropOf K C "letters" pL gL) (GL : FnOk P w K mg base CX0 1 gL dL ["self"] (getSp C "_letters")) (bL : Binds K dL ["self"] []) :
    FnOk P w K mg base CX0 4 f fd ["machine", "cap", "modulus"] (spSights C) := by
  obtain ⟨tm, most⟩ := most
  refine F.ok scSs (fun vs H Q E h => ?_) (fun cdv A outer s H vs Q E hr h => ?_)
  · obtain ⟨m, _, _, _, _, cap, md, rfl, _⟩ := h
    rfl
  · obtain ⟨m, L, tb, es, n, cap, md, rfl, hL, mac, S, he, q⟩ := h
    have hr1 : Room 1 _ := hr.mono (by decide)
    have hr2 : Room 2 _ := hr.mono (by decide)
    refine ⟨_, pss_cons (ps_expr (pe_call GM hr1 rfl AM.g AM.F.kp AM.b .nil pass0 (pa_cons (pe_tup (pa_cons (pv 0) pa_nil)) pa_nil)))
      (pss_cons (ps_expr (pe_call GN hr rfl AN.g AN.F.kp AN.b .nil pass0 (pa_cons (pv 1) (pa_cons pe_int (pa_cons (pe_glob rfl most (show RelV (.int 12) (.int 12 tm) from ⟨tm, rfl⟩)) pa_nil)))))
      (pss_cons (ps_expr (pe_call GN hr rfl AN.g AN.F.kp AN.b .nil pass0 (pa_cons (pv 2) (pa_cons pe_int (pa_cons (pe_glob rfl most (show RelV (.int 12) (.int 12 tm) from ⟨tm, rfl⟩)) pa_nil)))))
      (pss_cons (ps_set (i := 3) scSs.nd rfl (Or.inr rfl) (pe_op op_add (pv 1) (pv 2)))
      (pss_cons (ps_set (i := 4) scSs.nd rfl (Or.inl rfl) (pe_call GS hr rfl AS.g AS.F.kp AS.b .nil pass0 (pa_cons (pv 0) (pa_cons (pv 1) (pa_cons (pv 2) pa_nil)))))
      (pss_cons (ps_set (i := 5) scSs.nd rfl (Or.inr rfl) (pe_slice sl_list (pe_lst (pa_cons (pe_op op_mul (pv 3) (pv 3)) (pa_cons (pv 3) (pa_cons pe_int pa_nil)))) (po_some (pe_op op_sub pe_int (pe_callB call_len_str (by rfl) T.len PySem.boot_len (pa_cons (pe_prop (E := E0) (pv 0) M.cl RL GL hr2 bL .nil pass0 rfl) pa_nil)))) po_none))
      (pss_one (ps_ret (pe_callTy call_tuple_of (by rfl) T.tuple (by decide +kernel) (pa_cons (pe_lc (own := [("number", 6)]) (g := gName 6) (tt := tYes)
        (te := tCB (fun xs H Q => ∃ p ys, xs = [V.ref p] ∧ ((SqL K H p ys ∧ ∀ l, H l = none → Q (V.ref l) (upd H l (.tup ys))) ∨ (SqT K H p ys ∧ Q (V.ref p) H))) (tCons (tLc (iList K (tVar 5)) (gName 7) tYes (tOp (rI (fun _ j => 0 < j) fun i j => .int (i % j)) (tOp (rI CDiv fun i j => .int (i / j)) (tVar 6) (tVar 7)) (tVar 3)) [7]) tNil)) rfl scSs.nd
        (pi_list (pe_callB cr_sortedI (by rfl) T.sorted (by decide +kernel) (pa_cons (pe_callTy (call_listD rfl) (by rfl) T.list (by decide +kernel) (pa_cons (pv 4) pa_nil)) pa_nil)))
        (blkOk_by (own := [("number", 6)]) (N := NSs) (sc := defScope sSights) (by decide +kernel)) (fun _ _ _ _ _ => pg_name (i := 6) scSs.nd rfl (Or.inr rfl)) (fun _ _ _ _ _ => pts_nil)
        (fun _ _ _ _ _ => pe_callTy call_tuple_of (by rfl) T.tuple (by decide +kernel) (pa_cons (pe_lc (own := [("place", 7)]) (g := gName 7) (tt := tYes) (te := tOp (rI (fun _ j => 0 < j) fun i j => .int (i % j)) (tOp (rI CDiv fun i j => .int (i / j)) (tVar 6) (tVar 7)) (tVar 3)) rfl scSs.nd (pi_list (pv 5))
          (blkOk_by (own := [("place", 7)]) (N := NSs) (sc := scSI) (by decide +kernel)) (fun _ _ _ _ _ => pg_name (i := 7) scSs.nd rfl (Or.inl rfl)) (fun _ _ _ _ _ => pts_nil) (fun _ _ _ _ _ => pe_op op_mod (pe_op op_fdiv (pv 6) (pv 7)) (pv 3))) pa_nil))) pa_nil))))))))), ?_⟩
    obtain ⟨dx, t, e, ts, hm, _⟩ := mac.ex
    have k12 : L.length = 1 ∨ L.length = 2 := by have := S.k1; have := S.k2; omega
    have c0 := S.c0
    have c1 := S.c1
    have m0 := S.m0
    have m1 := S.m1
    refine ⟨_, rfl, (by show 1 ≤ sizeLine; decide), fun p1 hp1 => ⟨p1, m, rfl, SqT.of upd_same, ⟨dx, _, same_upd hp1 _ _ hm⟩, ?_⟩⟩
    have s1 := same_upd (o := .tup [.ref m]) hp1
    generalize upd H p1 (.tup [.ref m]) = H1 at s1 ⊢
    refine ⟨_, rfl, cap, 0, 12, rfl, by omega, by omega, ?_⟩
    refine ⟨_, rfl, md, 1, 12, rfl, by omega, by omega, ?_⟩
    refine ⟨_, rfl, _, rfl, _, _, rfl, rfl, ?_⟩
    refine ⟨_, rfl, _, rfl, _, rfl, m, L, tb, es, n, cap, md, rfl, hL, mac.same s1, S, he, fun D kvs ks H2 nD s2 hd keys nod inn few => ?_⟩
    have s02 := s1.trans s2
    refine ⟨_, rfl, _, rfl, _, _, rfl, rfl, .inl ⟨by omega, by omega⟩, _, rfl, (by show 3 ≤ sizeLine; rw [sizeLine_eq]; decide), fun p3 hp3 => ?_⟩
    have s03 := s02.trans (same_upd (o := .lst [.int ((cap + md) * (cap + md)), .int (cap + md), .int 1]) hp3)
    have hd3 := same_upd (o := .lst [.int ((cap + md) * (cap + md)), .int (cap + md), .int 1]) hp3 _ _ hd
    refine ⟨_, rfl, m, dx, _, rfl, s03 _ _ hm, m, dx, _, _, rfl, s03 _ _ hm, mfl_L, tx L, rfl, (by rw [tx_len]; have := hL.few; rw [sizeLine_eq]; omega), _, _, rfl, rfl, _, rfl, p3, [(cap + md) * (cap + md), cap + md, 1].map V.int, rfl, SqL.of upd_same, fun pl hpl => ?_⟩
    rw [tx_len, cut_places _ k12]
    have s04 := s03.trans (same_upd (o := .lst ((placesN (cap + md) L.length).map V.int)) hpl)
    have hd4 := same_upd (o := .lst ((placesN (cap + md) L.length).map V.int)) hpl _ _ hd3
    have hpl4 : (upd (upd H2 p3 (.lst [.int ((cap + md) * (cap + md)), .int (cap + md), .int 1])) pl (.lst ((placesN (cap + md) L.length).map V.int))) pl = some (.lst ((placesN (cap + md) L.length).map V.int)) := upd_same
    dsimp only [gName]
    generalize upd (upd H2 p3 (.lst [.int ((cap + md) * (cap + md)), .int (cap + md), .int 1])) pl (.lst ((placesN (cap + md) L.length).map V.int)) = H4 at s04 hd4 hpl4 ⊢
    refine ⟨_, rfl, D, kvs, rfl, .inl hd4, fun p5 hp5 => ?_⟩
    have e1 : (kvs.map fun kv => kV kv.1) = ks.map V.int := by
      have : (kvs.map fun kv => kV kv.1) = (kvs.map (·.1)).map kV := by rw [List.map_map] <;> rfl
      rw [this, show kvs.map (·.1) = _ from keys, List.map_map] <;> rfl
    rw [e1]
    have s05 := s04.trans (same_upd (o := .lst (ks.map V.int)) hp5)
    have hpl5 := same_upd (o := .lst (ks.map V.int)) hp5 _ _ hpl4
    refine ⟨p5, ks, rfl, SqL.of upd_same, ?_⟩
    intro ns p6 perm asc np6
    have s06 := s05.trans (same_upd (o := .lst (ns.map V.int)) np6)
    have hpl6 := same_upd (o := .lst (ns.map V.int)) np6 _ _ hpl5
    have hp66 : (upd (upd H4 p5 (.lst (ks.map V.int))) p6 (.lst (ns.map V.int))) p6 = some (.lst (ns.map V.int)) := upd_same
    refine ⟨p6, rfl, ⟨_, SqL.of hp66⟩, fun D6 hD6 => ?_⟩
    generalize upd (upd H4 p5 (.lst (ks.map V.int))) p6 (.lst (ns.map V.int)) = H6 at s06 hpl6 hp66 hD6 ⊢
    have nlen : ns.length = ks.length := perm.length_eq
    have isp : ∀ p ∈ placesN (cap + md) L.length, 1 ≤ p ∧ p ≤ 24 := fun p hp => by
      have sm := S.small
      rcases k12 with e | e
      · rw [e] at hp
        obtain rfl : p = 1 := List.mem_singleton.mp hp
        omega
      · rw [e] at hp
        rcases List.mem_cons.mp hp with z | z
        · omega
        · obtain rfl : p = 1 := List.mem_singleton.mp z
          omega
    have plen : (placesN (cap + md) L.length).length ≤ 3 := by
      unfold placesN
      rw [List.length_drop]
      show 3 - _ ≤ 3
      omega
    refine lc_it walk_list (fun i H7 => Same H6 H7 ∧ ∃ ts : List Addr, H7 D6 = some (.lst (ts.map V.ref)) ∧ Objs oTup H7 ts ((ns.map (decN (cap + md) L.length)).take i) ∧ ts.length = i) ⟨same_upd hD6, [], upd_same, trivial, rfl⟩ (fun i H7 _ ⟨s7, _⟩ => SqL.of (s7 _ _ hp66)) ?_ ?_
    · rintro i x H7 H8 hi ⟨s7, ts, hd7, ho7, hts⟩ ⟨rfl, hx⟩
      rw [List.length_map] at hi
      obtain rfl : x = .int ns[i] := by
        rw [List.getElem?_map, List.getElem?_eq_getElem hi] at hx
        exact (Option.some.inj hx).symm
      refine ⟨rfl, _, rfl, pl, rfl, ⟨_, SqL.of (s7 _ _ hpl6)⟩, fun D8 hD8 => ?_⟩
      refine lc_it walk_list (fun j H9 => Same H8 H9 ∧ H9 D8 = some (.lst (((decN (cap + md) L.length ns[i]).take j).map V.int))) ⟨same_upd hD8, upd_same⟩ (fun j H9 _ ⟨s9, _⟩ => SqL.of (s9 _ _ (s7 _ _ hpl6))) ?_ ?_
      · rintro j y H9 H10 hj ⟨s9, hd9⟩ ⟨rfl, hy⟩
        rw [List.length_map] at hj
        obtain rfl : y = .int (placesN (cap + md) L.length)[j] := by
          rw [List.getElem?_map, List.getElem?_eq_getElem hj] at hy
          exact (Option.some.inj hy).symm
        obtain ⟨q0, q1⟩ := isp _ (List.getElem_mem hj)
        refine ⟨rfl, _, rfl, _, rfl, _, _, rfl, rfl, ⟨by omega, by omega⟩, _, rfl, _, _, rfl, rfl, (show (0 : Int) < cap + md by omega), _, hd9, ?_, same_at s9 hD8, ?_⟩
        · rw [List.length_map, List.length_take, sizeLine_eq]
          unfold decN
          rw [List.length_map]
          omega
        · rw [upd_same, List.take_add_one]
          unfold decN
          rw [List.getElem?_map, List.getElem?_eq_getElem hj, List.map_append] <;> rfl
      · rintro H9 ⟨s9, hd9⟩
        have hd9 : H9 D8 = some (.lst ((decN (cap + md) L.length ns[i]).map V.int)) := by
          rw [hd9]
          congr 3
          refine List.take_of_length_le (Nat.le_of_eq ?_)
          unfold decN
          rw [List.length_map, List.length_map]
        refine ⟨D8, _, rfl, .inl ⟨SqL.of hd9, fun r hr => ?_⟩⟩
        have s10 := same_upd (o := .tup ((decN (cap + md) L.length ns[i]).map V.int)) hr
        have s810 := s9.trans s10
        refine ⟨_, s810 _ _ hd7, by rw [List.length_map, hts, sizeLine_eq]; omega, same_at (s7.trans s810) hD6, ts ++ [r], ?_, ?_, ?_⟩
        · rw [upd_same, List.map_append] <;> rfl
        · have kt := tup_upd (o := .lst (ts.map V.ref ++ [.ref r])) (s810 _ _ hd7) (fun _ z => nomatch z)
          have hr1 : (upd H9 r (.tup ((decN (cap + md) L.length ns[i]).map V.int))) r = some (oTup (decN (cap + md) L.length ns[i])) := upd_same
          rw [List.take_add_one, List.getElem?_map, List.getElem?_eq_getElem hi]
          exact objs_tup ((objs_tup ho7 (Same.tup' s810)).snoc hr1) kt
        · rw [List.length_append, hts] <;> rfl
    · rintro H7 ⟨s7, ts, hd7, ho7, hts⟩
      have ho7 : Objs oTup H7 ts (ns.map (decN (cap + md) L.length)) := by
        rw [List.length_map, List.take_of_length_le (by rw [List.length_map] <;> exact Nat.le_refl _)] at ho7
        exact ho7
      refine ⟨D6, _, rfl, .inl ⟨SqL.of hd7, fun v hv => ?_⟩⟩
      have s07 := s06.trans s7
      have s8 := same_upd (o := .tup (ts.map V.ref)) hv
      have back : ∀ x ∈ ns, ∃ u : W, (∀ c ∈ u, c ∈ L) ∧ stW L tb u ∈ es ∧ x = TS.code (cap + md) (vecW L cap md u) ∧ decN (cap + md) L.length x = vecW L cap md u := fun x hx => by
        obtain ⟨u, hu, h1, h2⟩ := (inn x).mp (perm.mem_iff.mp hx)
        refine ⟨u, hu, h1, h2, ?_⟩
        rw [h2]
        exact places_back (S.bd u) (vec_len L cap md u) S.k1 S.k2
      refine q v (ns.map (decN (cap + md) L.length)) _ (s07.free hv) (s07.trans s8) ⟨ts, upd_same, objs_tup ho7 (Same.tup' s8)⟩ ⟨?_, fun y => ?_⟩ (by rw [List.length_map]; omega)
      · have e : (ns.map (decN (cap + md) L.length)).map (TS.code (cap + md)) = ns := by
          rw [List.map_map]
          refine (List.map_congr_left fun x hx => ?_).trans (List.map_id ns)
          obtain ⟨u, _, _, h2, h3⟩ := back x hx
          show TS.code (cap + md) (decN (cap + md) L.length x) = x
          rw [h3, h2]
        rw [e]
        have nd2 : ns.Nodup := perm.nodup_iff.mpr nod
        exact (List.pairwise_and_iff.mpr ⟨asc, nd2⟩).imp fun ⟨h1, h2⟩ => by omega
      · constructor
        · intro hy
          obtain ⟨x, hx, rfl⟩ := List.mem_map.mp hy
          obtain ⟨u, hu, h1, _, h3⟩ := back x hx
          exact ⟨u, hu, h1, h3⟩
        · rintro ⟨u, hu, h1, rfl⟩
          refine List.mem_map.mpr ⟨TS.code (cap + md) (vecW L cap md u), perm.mem_iff.mpr ((inn _).mpr ⟨u, hu, h1, rfl⟩), ?_⟩
          exact places_back (S.bd u) (vec_len L cap md u) S.k1 S.k2
theorem ok_tells {f : Addr} {fd : FuncData} (F : Fun K "_tells" "_tells" sTells f fd) (T : TN mg) (ay : mg "any" = none) (AS : Fn K mg "_seen" sSeenM ["machine", "cap", "modulus"] fS dS) (GS : FnOk P w K mg base CX0 3 fS dS ["machine", "cap", "modulus"] (spSeenM C)) :
    FnOk P w K mg base CX0 4 f fd ["one", "other", "cap", "modulus"] (spTells C) := by
  refine F.ok scTl (fun vs H Q E h => ?_) (fun cdv A outer s H vs Q E hr h => ?_)
  · obtain ⟨m1, m2, _, _, _, _, _, _, _, cap, md, rfl, _⟩ := h
    rfl
  · obtain ⟨m1, m2, L, t1, t2, e1, e2, n1, n2, cap, md, rfl, hL, mac1, mac2, S1, S2, he1, he2, q⟩ := h
    have hub := hu_of hr
    refine ⟨_, pss_cons (ps_set (i := 4) scTl.nd rfl (Or.inr rfl) (pe_call GS hr rfl AS.g AS.F.kp AS.b .nil pass0 (pa_cons (pv 0) (pa_cons (pv 2) (pa_cons (pv 3) pa_nil)))))
      (pss_one (ps_ret (pe_not (pe_callB (cr_any rfl) (by rfl) ay (by decide +kernel) (pa_cons (pe_lc (own := [("number", 5)]) (g := gName 5) (tt := tYes) rfl scTl.nd (pi_keys (pe_frz (pe_call GS hr rfl AS.g AS.F.kp AS.b .nil pass0 (pa_cons (pv 1) (pa_cons (pv 2) (pa_cons (pv 3) pa_nil))))))
        (blkOk_by (own := [("number", 5)]) (N := ["one", "other", "cap", "modulus", "left", "number"]) (sc := defScope sTells) (by decide +kernel)) (fun _ _ _ _ _ => pg_name (i := 5) scTl.nd rfl (Or.inl rfl)) (fun _ _ _ _ _ => pts_nil)
        (fun _ _ _ _ _ => pe_cmp (pc_din hub (pv 5) (pv 4)))) pa_nil))))), ?_⟩
    refine ⟨_, rfl, _, rfl, _, rfl, m1, L, t1, e1, n1, cap, md, rfl, hL, mac1, S1, he1, fun D1 kvs1 ks1 H1 nD1 s1 hd1 keys1 nod1 in1 _ => ?_⟩
    refine ⟨_, rfl, _, rfl, _, rfl, m2, L, t2, e2, n2, cap, md, rfl, hL, mac2.same s1, S2, he2, fun D2 kvs2 ks2 H2 nD2 s2 hd2 keys2 nod2 in2 few2 => ?_⟩
    refine ⟨D2, _, rfl, hd2, trivial, fun od => ⟨D2, od, rfl, .inl ⟨kvs2, upd_same, fun D hD => ?_⟩⟩⟩
    have d12 : D1 ≠ D2 := ne_of_none hd1 nD2
    have hd1G : (upd H2 D2 (.frz od (.dK kvs2))) D1 = some (.dK kvs1) := by rw [upd_ne d12]; exact s2 _ _ hd1
    have hd2G : (upd H2 D2 (.frz od (.dK kvs2))) D2 = some (.frz od (.dK kvs2)) := upd_same
    have sG : Same H (upd H2 D2 (.frz od (.dK kvs2))) := fun b o hb => by
      rw [upd_ne (ne_of_none (s1 _ _ hb) nD2)]
      exact s2 _ _ (s1 _ _ hb)
    generalize upd H2 D2 (.frz od (.dK kvs2)) = G at hd1G hd2G sG hD ⊢
    have kl2 := keys2.len
    refine lc_it walk_keys (fun i H3 => Same G H3 ∧ H3 D = some (.lst (((ks2.take i).map fun x => decide (x ∈ ks1)).map V.bl))) ⟨same_upd hD, upd_same⟩ (fun i H3 _ ⟨s3, _⟩ => s3 _ _ hd2G) ?_ ?_
    · rintro i x H3 H4 hi ⟨s3, hd3⟩ ⟨rfl, k, v, hk, rfl⟩
      have hi2 : i < ks2.length := by omega
      obtain rfl : k = Sum.inl ks2[i] := by
        have := congrArg (fun l : List Key => l[i]?) (show kvs2.map (·.1) = ks2.map Sum.inl from keys2)
        simp only [List.getElem?_map, hk, List.getElem?_eq_getElem hi2] at this
        exact Option.some.inj this
      have val : (valV kvs1 (Sum.inl ks2[i] : Key)).isSome = decide (ks2[i] ∈ ks1) := by
        rw [Bool.eq_iff_iff, decide_eq_true_eq, ← keys1.val ks2[i]]
        cases valV kvs1 (Sum.inl ks2[i] : Key) <;> simp
      refine ⟨rfl, _, rfl, _, rfl, D1, _, rfl, DGet.k (k := (Sum.inl ks2[i] : Key)) (s3 _ _ hd1G), _, hd3, ?_, same_at s3 hD, ?_⟩
      · rw [List.length_map, List.length_map, List.length_take, sizeLine_eq]
        omega
      · rw [upd_same, List.take_add_one, List.getElem?_eq_getElem hi2, List.map_append, List.map_append, val] <;> rfl
    · rintro H3 ⟨s3, hd3⟩
      rw [kl2, List.take_length] at hd3
      have sH3 := sG.trans s3
      refine ⟨D, _, rfl, SqL.of hd3, _, rfl, ?_⟩
      refine q _ H3 sH3 ?_
      rw [Bool.not_eq_true', ← Bool.not_eq_true, List.any_eq_true]
      constructor
      · intro no x h1 h2
        refine no ⟨true, List.mem_map.mpr ⟨x, (in2 x).mpr h2, decide_eq_true ((in1 x).mpr h1)⟩, rfl⟩
      · rintro no ⟨y, hy, ey⟩
        obtain ⟨x, hx, rfl⟩ := List.mem_map.mp hy
        exact no x ((in1 x).mp (of_decide_eq_true ey)) ((in2 x).mp hx)
end
end WK
set_option Elab.async false
set_option linter.all false
set_option maxRecDepth 100000
set_option maxHeartbeats 8000000
namespace WK
open PySem L2 PyProof.Rows LCX K1 FV DP
open TX (sg sigs)
open PySem.W (Frag kitOne)
abbrev sIsPair : Stmt := top 25
abbrev sPlaces : Stmt := top 72
def spIsPair (K : Frag) : Sp := fun vs H Q _ => ∃ (v : Addr) (x y : V), vs = [.ref v] ∧ SqT K H v [x, y] ∧ Q (.bl true) H
def spIsClerk (K : Frag) (C : Addr) : Sp := fun vs H Q _ => ∃ (m1 m2 v : Addr) (x : Str) (L : W) (t1 t2 : List (List Int)) (e1 e2 : List Int) (n1 n2 cap md : Int), vs = [.ref m1, .ref m2, .str x, .ref v] ∧ (x = "caps" ∨ x = "sums" ∨ x = "clerks") ∧ H v = some (.tup [.int cap, .int md]) ∧ Let L ∧ MacAt C H m1 L t1 e1 ∧ MacAt C H m2 L t2 e2 ∧ Sch L cap md n1 t1 ∧ Sch L cap md n2 t2 ∧ e1.length ≤ 1000 ∧ e2.length ≤ 1000 ∧
  ∀ (b : Bool) H', Same H H' → (b = true ↔ ¬ ((x = "caps" ∧ md ≠ 1) ∨ (x = "sums" ∧ cap ≠ 0)) ∧ ∀ x : Int, SeenIs L cap md t1 e1 x → ¬ SeenIs L cap md t2 e2 x) → Q (.bl b) H'
def spNeedAll1 (K : Frag) (C CB : Addr) : Sp := fun vs H Q _ => ∃ (t a o : Addr) (L : W) (tb : List (List Int)), vs = [.ref t, .ref o] ∧ SqT K H t [.ref a] ∧ InsAt C H a ∧ BoxAt CB H o L tb ∧ Q .non H
def spNeedLs1 (K : Frag) (C CB : Addr) : Sp := fun vs H Q _ => ∃ (t a o : Addr) (L : W) (tb tb1 : List (List Int)) (es1 : List Int), vs = [.ref t, .ref o] ∧ SqT K H t [.ref a] ∧ MacAt C H a L tb1 es1 ∧ BoxAt CB H o L tb ∧ Q .non H
def spPlaces (C CB : Addr) : Sp := fun vs H Q _ => ∃ (m o : Addr) (L : W) (tm tb : List (List Int)) (es : List Int) (n k : Int) (B : Nat), vs = [.ref m, .ref o] ∧ Let L ∧ BoxAt CB H o L tb ∧ TabOk tb L.length k ∧ 1 ≤ k ∧ k ≤ 1000 ∧ Seen2 C CB H m o L tm tb es n k B ∧
  ∀ p ps H', H p = none → Same H H' → H' p = some (oTup ps) → ps.Nodup → (∀ b : Int, b ∈ ps ↔ placesOf tm tb es L.length B b) → Q (.ref p) H'
theorem pt_of {X : Cx} {e : Expr} {t t' : TT} (h : PT X e t) (k : ∀ σ H Q, t' σ H Q → t σ H Q) : PT X e t' := ⟨fun pins s σ H Q I z => h.run pins s σ H Q I (k σ H Q z)⟩
/-- the sorts that want one number alone -/
def sortB (x : Str) (cap md : Int) : Bool := decide ((x = "caps" ∧ md ≠ 1) ∨ (x = "sums" ∧ cap ≠ 0))
def tSort : TT := fun σ H Q => ∃ (x : Str) (cap md : Int), σ[2]? = some (some (.str x)) ∧ σ[4]? = some (some (.int cap)) ∧ σ[5]? = some (some (.int md)) ∧ Q (sortB x cap md) H
abbrev NIc : List Str := ["one", "other", "sort", "value", "cap", "modulus"]
section
variable {P : Program} {w : World} {K : PySem.W.Frag} {mg : Str → Option Value} {base : Heap} {C cD cM CB cDB pL gL pLB gLB fNF fS fIP fN fT fNM fNB fNd fNL fF : Addr} {dNF dS dIP dN dT dNM dNB dNd dNL dL dLB dF : FuncData}
theorem scIP : FnScope ["value"] ["value"] (defScope sIsPair) := ⟨rfl, rfl, rfl, by decide +kernel, rfl, by decide +kernel, by decide +kernel⟩
theorem scIc : FnScope NIc ["one", "other", "sort", "value"] (defScope sIsClerk) := ⟨rfl, rfl, rfl, by decide +kernel, rfl, by decide +kernel, by decide +kernel⟩
theorem scPl : FnScope ["machine", "box"] ["machine", "box"] (defScope sPlaces) := ⟨rfl, rfl, rfl, by decide +kernel, rfl, by decide +kernel, by decide +kernel⟩
theorem ok_ispair {f : Addr} {fd : FuncData} (F : Fun K "is_pair" "is_pair" sIsPair f fd) (T : TN mg) : FnOk P w K mg base CX0 1 f fd ["value"] (spIsPair K) := by
  refine F.ok scIP (fun vs H Q E h => ?_) (fun cdv A outer s H vs Q E hr h => ?_)
  · obtain ⟨v, _, _, rfl, _⟩ := h
    rfl
  · obtain ⟨v, x, y, rfl, hT, q⟩ := h
    refine ⟨_, pss_one (ps_ret (pe_and (pe_callB call_isi (by rfl) T.isi (by decide +kernel) (pa_cons (pv 0) (pa_cons (pe_ty "tuple" T.tuple (by decide +kernel)) pa_nil))) (pe_one (pe_cmpR op_eq (pe_callB call_len_seq (by rfl) T.len PySem.boot_len (pa_cons (pv 0) pa_nil)) pe_int (nomark _))))), ?_⟩
    refine ⟨_, rfl, _, _, _, _, true, rfl, .ty "tuple", tyT hT, kit_ty (by decide +kernel), true, rfl, ?_⟩
    refine ⟨_, rfl, v, _, rfl, .inr hT, ?_⟩
    refine ⟨rfl, ?_⟩
    rw [decide_eq_true (show V.int (([x, y].length : Nat) : Int) = V.int 2 from rfl)]
    exact q
theorem ok_isclerk {f : Addr} {fd : FuncData} (F : Fun K "is_clerk_for" "is_clerk_for" sIsClerk f fd) (M : TMc K mg C cD cM) (most : ∃ t, mg "MAX_CLERK" = some (.int 12 t)) (gF : mg "need_finding" = some (.ref fNF)) (kF : PySem.W.keepIn K (.ref fNF) = true) (bF : Binds K dNF ["one", "other", "sort"] []) (GF : FnOk P w K mg base CX0 2 fNF dNF ["one", "other", "sort"] (spNeedF K C))
    (AS : Fn K mg "need_same_letters" sSame ["one", "other"] fS dS) (GS : FnOk P w K mg base CX0 1 fS dS ["one", "other"] spSame) (RL : PropOf K C "letters" pL gL) (GL : FnOk P w K mg base CX0 1 gL dL ["self"] (getSp C "_letters")) (bL : Binds K dL ["self"] [])
    (AP : Fn K mg "is_pair" sIsPair ["value"] fIP dIP) (GP : FnOk P w K mg base CX0 1 fIP dIP ["value"] (spIsPair K)) (AN : Fn K mg "is_number" sIsNum ["value", "least", "most"] fN dN) (GN : FnOk P w K mg base CX0 2 fN dN ["value", "least", "most"] spNum2) (AT : Fn K mg "_tells" sTells ["one", "other", "cap", "modulus"] fT dT) (GT : FnOk P w K mg base CX0 4 fT dT ["one", "other", "cap", "modulus"] (spTells C)) :
    FnOk P w K mg base CX0 5 f fd ["one", "other", "sort", "value"] (spIsClerk K C) := by
  obtain ⟨tm, most⟩ := most
  refine F.ok scIc (fun vs H Q E h => ?_) (fun cdv A outer s H vs Q E hr h => ?_)
  · obtain ⟨m1, m2, v, x, _, _, _, _, _, _, _, _, _, rfl, _⟩ := h
    rfl
  · obtain ⟨m1, m2, v, x, L, t1, t2, e1, e2, n1, n2, cap, md, rfl, hx, hv, hL, mac1, mac2, S1, S2, he1, he2, q⟩ := h
    have hr1 : Room 1 _ := hr.mono (by decide)
    have hr2 : Room 2 _ := hr.mono (by decide)
    refine ⟨_, pss_cons (ps_expr (pe_call GF hr2 rfl gF kF bF .nil pass0 (pa_cons (pv 0) (pa_cons (pv 1) (pa_cons (pv 2) pa_nil)))))
      (pss_cons (ps_expr (pe_call GS hr1 rfl AS.g AS.F.kp AS.b .nil pass0 (pa_cons (pe_prop (E := E0) (pv 0) M.cl RL GL hr2 bL .nil pass0 rfl) (pa_cons (pe_prop (E := E0) (pv 1) M.cl RL GL hr2 bL .nil pass0 rfl) pa_nil))))
      (pss_cons (ps_if (PW.pt (pw_or (pt_not (pt_val (pe_call GP hr1 rfl AP.g AP.F.kp AP.b .nil pass0 (pa_cons (pv 3) pa_nil)))) (pw_or (pt_not (pt_val (pe_call GN hr2 rfl AN.g AN.F.kp AN.b .nil pass0 (pa_cons (pe_ix ix_tup (pv 3) pe_int (fun _ _ => rfl)) (pa_cons pe_int (pa_cons (pe_glob rfl most (show RelV (.int 12) (.int 12 tm) from ⟨tm, rfl⟩)) pa_nil))))))
          (pw_or1 (pt_not (pt_val (pe_call GN hr2 rfl AN.g AN.F.kp AN.b .nil pass0 (pa_cons (pe_ix ix_tup (pv 3) pe_int (fun _ _ => rfl)) (pa_cons pe_int (pa_cons (pe_glob rfl most (show RelV (.int 12) (.int 12 tm) from ⟨tm, rfl⟩)) pa_nil)))))))))) (pss_one (ps_ret pe_bl)) pss_nil)
      (pss_cons (ps_asg (pv 3) (pg_tup (n := 2) (by rfl) (pgs_cons (pg_name (i := 4) scIc.nd rfl (Or.inl rfl)) (pgs_cons (pg_name (i := 5) scIc.nd rfl (Or.inl rfl)) pgs_nil))))
      (pss_cons (ps_if (pt_of (t' := tSort) (PW.pt (pw_or (PW.pt (pw_and (pt_cmpR op_eq (pv 2) pe_str (nomark _)) (pw_and1 (pt_cmpR op_ne (pv 5) pe_int (nomark _))))) (pw_or1 (PW.pt (pw_and (pt_cmpR op_eq (pv 2) pe_str (nomark _)) (pw_and1 (pt_cmpR op_ne (pv 4) pe_int (nomark _)))))))) (fun σ H Q ⟨x, cap, md, g1, g2, g3, q⟩ => by
          have str : ∀ {y : Str}, decide (V.str x = V.str y) = true ↔ x = y := fun {y} => by simp
          have int : ∀ {i j : Int}, (!decide (V.int i = V.int j)) = true ↔ i ≠ j := fun {i j} => by simp
          have second : (x = "caps" → md = 1) → tAnd (tTest (tOp rEq (tVar 2) (tC (V.str "sums")))) (tTest (tOp rNe (tVar 4) (tC (V.int 0)))) σ H Q := fun no => by
            refine ⟨_, g1, rfl, _, rfl, ?_⟩
            refine ite2 (fun h => ?_) (fun h => ?_)
            · refine ⟨_, g2, rfl, _, rfl, ?_⟩
              have e : sortB x cap md = !decide (V.int cap = V.int 0) := by
                rw [Bool.eq_iff_iff, int]
                unfold sortB
                rw [decide_eq_true_eq]
                exact ⟨fun z => z.elim (fun z => absurd (no z.1) z.2) (fun z => z.2), fun z => .inr ⟨str.mp h, z⟩⟩
              rw [← e]
              exact q
            · have e : sortB x cap md = false := by
                unfold sortB
                exact decide_eq_false fun z => z.elim (fun z => z.2 (no z.1)) (fun z => h (str.mpr z.1))
              rw [e] at q
              exact q
          refine ⟨_, g1, rfl, _, rfl, ?_⟩
          refine ite2 (fun h => ?_) (fun h => ?_)
          · refine ⟨_, g3, rfl, _, rfl, ?_⟩
            refine ite2 (fun h2 => ?_) (fun h2 => ?_)
            · have e : sortB x cap md = true := by
                unfold sortB
                exact decide_eq_true (.inl ⟨str.mp h, int.mp h2⟩)
              rw [e] at q
              exact q
            · exact second fun _ => Classical.byContradiction fun z => h2 (int.mpr z)
          · exact second fun z => absurd (str.mpr z) h)) (pss_one (ps_ret pe_bl)) pss_nil)
      (pss_one (ps_ret (pe_call GT hr rfl AT.g AT.F.kp AT.b .nil pass0 (pa_cons (pv 0) (pa_cons (pv 1) (pa_cons (pv 4) (pa_cons (pv 5) pa_nil))))))))))), ?_⟩
    obtain ⟨d1, ta1, ea1, tss1, hm1, _⟩ := id mac1.ex
    obtain ⟨d2, ta2, ea2, tss2, hm2, _⟩ := id mac2.ex
    have c0 := S1.c0
    have c1 := S1.c1
    have m0 := S1.m0
    have m1' := S1.m1
    refine ⟨_, rfl, _, rfl, _, rfl, m1, m2, x, rfl, ⟨d1, _, hm1⟩, ⟨d2, _, hm2⟩, hx, fun H1 s1 => ?_⟩
    have hv1 : SqT K H1 v [.int cap, .int md] := SqT.of (s1 _ _ hv)
    refine ⟨_, rfl, m1, d1, _, rfl, s1 _ _ hm1, m1, d1, _, _, rfl, s1 _ _ hm1, mfl_L, _, rfl, m2, d2, _, rfl, s1 _ _ hm2, m2, d2, _, _, rfl, s1 _ _ hm2, mfl_L, L, rfl, ?_⟩
    have b1 : numB (.int cap) 0 12 = true := by
      show (decide _ && decide _) = true
      rw [decide_eq_true (by omega), decide_eq_true (by omega)] <;> rfl
    have b2 : numB (.int md) 1 12 = true := by
      show (decide _ && decide _) = true
      rw [decide_eq_true (by omega), decide_eq_true (by omega)] <;> rfl
    refine ⟨_, rfl, v, .int cap, .int md, rfl, hv1, true, rfl, ?_⟩
    refine ⟨_, rfl, v, _, 0, .int cap, rfl, rfl, hv1, rfl, .int cap, 0, 12, rfl, .inl ⟨_, rfl⟩, _, rfl, ?_⟩
    rw [b1]
    refine ⟨_, rfl, v, _, 1, .int md, rfl, rfl, hv1, rfl, .int md, 1, 12, rfl, .inl ⟨_, rfl⟩, _, rfl, ?_⟩
    rw [b2]
    refine ⟨_, rfl, v, _, rfl, hv1, rfl, _, _, rfl, _, _, rfl, rfl, ?_⟩
    refine ⟨x, cap, md, rfl, rfl, rfl, ?_⟩
    refine ite2 (fun h => ?_) (fun h => ?_)
    · exact q false H1 s1 ⟨fun z => (nomatch z), fun z => absurd (of_decide_eq_true h) z.1⟩
    · refine ⟨_, rfl, _, rfl, _, rfl, _, rfl, m1, m2, L, t1, t2, e1, e2, n1, n2, cap, md, rfl, hL, mac1.same s1, mac2.same s1, S1, S2, he1, he2, fun b H2 s2 hb => ?_⟩
      exact q b H2 (s1.trans s2) (hb.trans ⟨fun z => ⟨fun y => h (decide_eq_true y), z⟩, fun z => z.2⟩)
theorem ok_needall1 {f : Addr} {fd : FuncData} (F : Fun K "_need" "_need" sNeedAll f fd) (AM : Fn K mg "need_machines" sNeedMs ["machines"] fNM dNM) (GM : FnOk P w K mg base CX0 1 fNM dNM ["machines"] (spNeedM1 K C)) (AB : Fn K mg "need_box" sNeedBox ["box"] fNB dNB) (GB : FnOk P w K mg base CX0 1 fNB dNB ["box"] (spNeedBox CB)) :
    FnOk P w K mg base CX0 2 f fd ["machines", "box"] (spNeedAll1 K C CB) := by
  refine F.ok scNA (fun vs H Q E h => ?_) (fun cdv A outer s H vs Q E hr h => ?_)
  · obtain ⟨t, _, o, _, _, rfl, _⟩ := h
    rfl
  · obtain ⟨t, a, o, L, tb, rfl, hT, ha, bx, q⟩ := h
    refine ⟨_, pss_cons (ps_expr (pe_call GM hr rfl AM.g AM.F.kp AM.b .nil pass0 (pa_cons (pv 0) pa_nil))) (pss_one (ps_expr (pe_call GB hr rfl AB.g AB.F.kp AB.b .nil pass0 (pa_cons (pv 1) pa_nil)))), ?_⟩
    exact ⟨_, rfl, t, a, rfl, hT, ha, _, rfl, o, L, tb, rfl, bx, q⟩
theorem ok_needls1 {f : Addr} {fd : FuncData} (F : Fun K "_need_letters" "_need_letters" sNeedLs f fd) (M : TMc K mg C cD cM) (MB : TBx K mg CB cDB) (RB : PropOf K CB "letters" pLB gLB) (GB : FnOk P w K mg base CX0 1 gLB dLB ["self"] (getSp CB "_letters")) (bB : Binds K dLB ["self"] [])
    (RM : PropOf K C "letters" pL gL) (GM : FnOk P w K mg base CX0 1 gL dL ["self"] (getSp C "_letters")) (bM : Binds K dL ["self"] []) (AS : Fn K mg "need_same_letters" sSame ["one", "other"] fS dS) (GS : FnOk P w K mg base CX0 1 fS dS ["one", "other"] spSame) :
    FnOk P w K mg base CX0 3 f fd ["machines", "box"] (spNeedLs1 K C CB) := by
  refine F.ok scNS (fun vs H Q E h => ?_) (fun cdv A outer s H vs Q E hr h => ?_)
  · obtain ⟨t, _, o, _, _, _, _, rfl, _⟩ := h
    rfl
  · obtain ⟨t, a, o, L, tb, tb1, es1, rfl, hT, ⟨dx, t1, e1, ts1, hm, _⟩, ⟨dxb, rb, hbx, _⟩, q⟩ := h
    have hr1 : Room 1 _ := hr.mono (by decide)
    refine ⟨_, pss_one (ps_for PassesOwn.never rfl (pi_tup (pv 0)) (pg_name (i := 2) scNS.nd rfl (Or.inl rfl))
      (pss_one (ps_expr (pe_call GS hr1 rfl AS.g AS.F.kp AS.b .nil pass0 (pa_cons (pe_prop (E := E0) (pv 2) M.cl RM GM hr bM .nil pass0 rfl) (pa_cons (pe_prop (E := E0) (pv 1) MB.cl RB GB hr bB .nil pass0 rfl) pa_nil)))))), ?_⟩
    refine ⟨_, rfl, t, rfl, ⟨_, hT⟩, ?_⟩
    refine for_tup (xs := [.ref a]) (fun i σ H' => (∃ x, σ = [some (.ref t), some (.ref o), x]) ∧ H' = H) ⟨⟨_, rfl⟩, rfl⟩ (fun _ _ H' _ h => by rw [h.2]; exact hT) ?_ ?_
    · rintro i x σ H2 hx ⟨⟨y, rfl⟩, rfl⟩
      obtain rfl : x = .ref a := by
        rcases i with _ | i
        · exact (Option.some.inj hx).symm
        · cases hx
      exact ⟨_, rfl, a, dx, _, rfl, hm, a, dx, _, _, rfl, hm, mfl_L, _, rfl, o, dxb, _, rfl, hbx, o, dxb, _, _, rfl, hbx, bfl_L, L, rfl, ⟨_, rfl⟩, rfl⟩
    · rintro σ H2 ⟨⟨y, rfl⟩, rfl⟩
      exact q
theorem ok_places {f : Addr} {fd : FuncData} (F : Fun K "places" "places" sPlaces f fd) (T : TN mg) (gN : mg "need_sights" = some (.ref fNd)) (kN : PySem.W.keepIn K (.ref fNd) = true) (bN : Binds K dNd ["machines", "box"] []) (GN : FnOk P w K mg base CX0 2 fNd dNd ["machines", "box"] (spNeedAll1 K C CB)) (AL : Fn K mg "_need_letters" sNeedLs ["machines", "box"] fNL dNL) (GL : FnOk P w K mg base CX0 3 fNL dNL ["machines", "box"] (spNeedLs1 K C CB))
    (AF : Fn K mg "_first_words" sFirsts ["machine", "box"] fF dF) (GF : FnOk P w K mg base CX0 3 fF dF ["machine", "box"] (spFirsts C CB)) : FnOk P w K mg base CX0 4 f fd ["machine", "box"] (spPlaces C CB) := by
  refine F.ok scPl (fun vs H Q E h => ?_) (fun cdv A outer s H vs Q E hr h => ?_)
  · obtain ⟨m, o, _, _, _, _, _, _, _, rfl, _⟩ := h
    rfl
  · obtain ⟨m, o, L, tm, tb, es, n, k, B, rfl, hL, bx, okB, k1, k2, S, q⟩ := h
    have hr2 : Room 2 _ := hr.mono (by decide)
    refine ⟨_, pss_cons (ps_expr (pe_call GN hr2 rfl gN kN bN .nil pass0 (pa_cons (pe_tup (pa_cons (pv 0) pa_nil)) (pa_cons (pv 1) pa_nil))))
      (pss_cons (ps_expr (pe_call GL hr rfl AL.g AL.F.kp AL.b .nil pass0 (pa_cons (pe_tup (pa_cons (pv 0) pa_nil)) (pa_cons (pv 1) pa_nil))))
      (pss_one (ps_ret (pe_callTy call_tuple_of (by rfl) T.tuple (by decide +kernel) (pa_cons (pe_callB cr_sortedI (by rfl) T.sorted (by decide +kernel) (pa_cons (pe_callTy (call_listD rfl) (by rfl) T.list (by decide +kernel) (pa_cons (pe_call GF hr rfl AF.g AF.F.kp AF.b .nil pass0 (pa_cons (pv 0) (pa_cons (pv 1) pa_nil))) pa_nil)) pa_nil)) pa_nil))))), ?_⟩
    obtain ⟨dx, t, e, ts, hm, _⟩ := id S.mac.ex
    refine ⟨_, rfl, (by show 1 ≤ sizeLine; decide), fun p1 hp1 => ⟨_, rfl, p1, m, o, L, tb, rfl, SqT.of upd_same, ⟨dx, _, same_upd hp1 _ _ hm⟩, bx.same (same_upd hp1), ?_⟩⟩
    have s1 := same_upd (o := .tup [.ref m]) hp1
    generalize upd H p1 (.tup [.ref m]) = H1 at s1 ⊢
    refine ⟨_, rfl, (by show 1 ≤ sizeLine; decide), fun p2 hp2 => ⟨_, rfl, p2, m, o, L, tb, tm, es, rfl, SqT.of upd_same, (S.mac.same s1).same (same_upd hp2), (bx.same s1).same (same_upd hp2), ?_⟩⟩
    have s2 := s1.trans (same_upd (o := .tup [.ref m]) hp2)
    generalize upd H1 p2 (.tup [.ref m]) = H2 at s2 ⊢
    refine ⟨_, rfl, _, rfl, m, o, L, tm, tb, es, n, k, B, rfl, hL, S.mac.same s2, bx.same s2, S.okM, okB, S.n1, k1, S.n2, k2, S.few, S.dn, S.B4, fun d1 kv1 ps1 H3 nd1 s3 hd1 keys1 nod1 in1 val1 => ?_⟩
    have s03 := s2.trans s3
    refine ⟨d1, kv1, rfl, .inl hd1, fun p5 hp5 => ?_⟩
    have e1 : (kv1.map fun kv => kV kv.1) = ps1.map V.int := by
      have : (kv1.map fun kv => kV kv.1) = (kv1.map (·.1)).map kV := by rw [List.map_map] <;> rfl
      rw [this, show kv1.map (·.1) = _ from keys1, List.map_map] <;> rfl
    rw [e1]
    have s05 := s03.trans (same_upd (o := .lst (ps1.map V.int)) hp5)
    refine ⟨p5, ps1, rfl, SqL.of upd_same, fun ns p6 perm asc np6 => ?_⟩
    have s06 := s05.trans (same_upd (o := .lst (ns.map V.int)) np6)
    refine ⟨p6, _, rfl, .inl ⟨SqL.of upd_same, fun v hv => ?_⟩⟩
    exact q v ns _ (s06.free hv) (s06.trans (same_upd hv)) upd_same (perm.nodup_iff.mpr nod1) (fun b => perm.mem_iff.trans (in1 b))
end
end WK
set_option Elab.async false
set_option linter.all false
set_option maxRecDepth 100000
set_option maxHeartbeats 8000000
namespace WK
open PySem L2 PyProof.Rows K1
open TX (sg sigs)
open PySem.W (Frag kitOne)
abbrev scIn : Scope := { kind := .function, names := [(".0", .local), ("_law_letter", .cell), ("len", .globalImplicit), ("_law_word", .cell)], isGenerator := false, isCoroutine := false }
abbrev rLen (K : Frag) : List V → Hp → VK → Prop := fun xs H Q => ∃ p ys, xs = [V.ref p] ∧ (SqL K H p ys ∨ SqT K H p ys) ∧ Q (V.int (ys.length : Int)) H
def spLCounts : Sp := fun vs H Q _ => ∃ L u : W, vs = [.str (tx L), .str (tx u)] ∧ L.length ≤ 3 ∧ u.length ≤ 1000 ∧ ∀ t H', H t = none → Same H H' → H' t = some (.lst (L.map fun c => .int (u.count c : Int))) → Q (.ref t) H'
def spLAll : Sp := fun vs H Q _ => ∃ (L : W) (m : Nat), vs = [.str (tx L), .int (m : Int)] ∧ L.length ≤ 3 ∧ m ≤ 5 ∧ ∀ t H', H t = none → Same H H' → H' t = some (.lst ((allW L m).map fun u => V.str (tx u))) → Q (.ref t) H'
theorem count_filter (u : W) (c : Nat) : (u.filter fun d => decide (d = c)).length = u.count c := by
  rw [List.count_eq_countP, List.countP_eq_length_filter]
  congr 1
section
variable {P : Program} {w : World} {K : PySem.W.Frag} {mg : Str → Option Value} {base : Heap}
theorem scLC : FnScope ["_law_letters_here", "_law_word", "_law_letter", "_law_sign"] ["_law_letters_here", "_law_word"] (defScope sLCounts) := ⟨rfl, rfl, rfl, by decide +kernel, rfl, by decide +kernel, by decide +kernel⟩
theorem ok_lcounts {f : Addr} {fd : FuncData} (F : Fun K "_law_counts" "_law_counts" sLCounts f fd) (T : TN mg) : FnOk P w K mg base CX0 1 f fd ["_law_letters_here", "_law_word"] spLCounts := by
  refine F.ok scLC (fun vs H Q E h => ?_) (fun cdv A outer s H vs Q E hr h => ?_)
  · obtain ⟨u, n, rfl, _⟩ := h
    rfl
  · obtain ⟨L, u, rfl, hL, hu, q⟩ := h
    refine ⟨_, pss_one (ps_ret (pe_lc (own := [("_law_letter", 2)]) (g := gName 2) (tt := tYes) (te := tCB (rLen K) (tCons (tLc (iStr (tVar 1)) (gName 3) (tTest (tOp rEq (tVar 3) (tVar 2))) (tC (.int 1)) [3]) tNil)) rfl scLC.nd (pi_str (pv 0))
      (blkOk_by (own := [("_law_letter", 2)]) (N := ["_law_letters_here", "_law_word", "_law_letter", "_law_sign"]) (sc := defScope sLCounts) (by decide +kernel)) (fun _ _ _ _ _ => pg_name (i := 2) scLC.nd rfl (Or.inr rfl)) (fun _ _ _ _ _ => pts_nil)
      (fun _ _ _ _ _ => pe_callB call_len_seq (by rfl) T.len PySem.boot_len (pa_cons (pe_lc (own := [("_law_sign", 3)]) (g := gName 3) (tt := tTest (tOp rEq (tVar 3) (tVar 2))) (te := tC (.int 1)) rfl scLC.nd (pi_str (pv 1))
        (blkOk_by (own := [("_law_sign", 3)]) (N := ["_law_letters_here", "_law_word", "_law_letter", "_law_sign"]) (sc := scIn) (by decide +kernel)) (fun _ _ _ _ _ => pg_name (i := 3) scLC.nd rfl (Or.inl rfl)) (fun _ _ _ _ _ => pts_one (pt_cmpR op_eq (pv 3) (pv 2) (nomark _)))
        (fun _ _ _ _ _ => pe_int)) pa_nil)))), ?_⟩
    refine ⟨_, rfl, tx L, rfl, fun D hD => ?_⟩
    refine lc_it walk_str (fun i H3 => Same H H3 ∧ H3 D = some (.lst ((L.take i).map fun c => .int (u.count c : Int)))) ⟨same_upd hD, upd_same⟩ (fun _ _ _ _ => trivial) ?_ ?_
    · rintro i x H3 H4 hi ⟨s3, hd⟩ ⟨rfl, c, hx, rfl⟩
      have hx' : L[i]? = some c := by
        rw [← Array.getElem?_toList, tx_list] at hx
        exact hx
      refine ⟨rfl, _, rfl, tx u, rfl, fun D2 hD2 => ?_⟩
      refine lc_it walk_str (fun j H5 => Same H4 H5 ∧ H5 D2 = some (.lst (((u.take j).filter fun d => decide (d = c)).map fun _ => .int 1))) ⟨same_upd hD2, upd_same⟩ (fun _ _ _ _ => trivial) ?_ ?_
      · rintro j y H5 H6 hj ⟨s5, hd5⟩ ⟨rfl, d, hy, rfl⟩
        have hy' : u[j]? = some d := by
          rw [← Array.getElem?_toList, tx_list] at hy
          exact hy
        have hju : j < u.length := (List.getElem?_eq_some_iff.mp hy').1
        refine ⟨rfl, _, rfl, _, rfl, rfl, ?_⟩
        by_cases hdc : d = c
        · subst hdc
          refine ⟨true, congrArg V.bl (decide_eq_true rfl), ?_⟩
          refine ⟨_, hd5, ?_, same_at s5 hD2, ?_⟩
          · rw [List.length_map, sizeLine_eq]
            have h1 := List.length_filter_le (fun e => decide (e = d)) (u.take j)
            rw [List.length_take] at h1
            omega
          · rw [upd_same, List.take_add_one, hy', List.filter_append, List.map_append]
            simp
        · refine ⟨false, congrArg V.bl (decide_eq_false fun z => hdc (TX.sg_inj (V.str.inj z))), ?_⟩
          refine ⟨s5, ?_⟩
          rw [List.take_add_one, hy', List.filter_append, hd5]
          simp [hdc]
      · rintro H5 ⟨s5, hd5⟩
        rw [size_tx, List.take_length] at hd5
        refine ⟨D2, _, rfl, .inl (SqL.of hd5), _, s5 _ _ hd, ?_, same_at (s3.trans s5) hD, ?_⟩
        · rw [List.length_map, List.length_take, sizeLine_eq]
          omega
        · rw [List.length_map, count_filter, upd_same, List.take_add_one, hx', List.map_append] <;> rfl
    · rintro H3 ⟨s3, hd⟩
      rw [size_tx, List.take_length] at hd
      exact q D H3 hD s3 hd
end
end WK
set_option Elab.async false
set_option linter.all false
set_option maxRecDepth 100000
set_option maxHeartbeats 8000000
namespace WK
open PySem L2 PyProof.Rows K1
open TX (sg sigs)
open PySem.W (Frag kitOne)
theorem lay_len (L : W) (hL : L.length ≤ 3) : ∀ k, (lay L k).length ≤ 3 ^ k
  | 0 => Nat.le_refl _
  | k + 1 => by
    have ih := lay_len L hL k
    have h : ∀ l : List W, (l.flatMap fun u => L.map fun c => u ++ [c]).length ≤ l.length * 3 := by
      intro l
      induction l with
      | nil => exact Nat.le_refl _
      | cons u l ih =>
        rw [List.flatMap_cons, List.length_append, List.length_cons, List.length_map]
        omega
    have h1 := h (lay L k)
    exact Nat.le_trans h1 (by rw [Nat.pow_succ]; omega)
theorem lay_243 (L : W) (hL : L.length ≤ 3) {k : Nat} (hk : k ≤ 5) : (lay L k).length ≤ 243 := by
  have h1 := lay_len L hL k
  have h2 : (3 : Nat) ^ k ≤ 3 ^ 5 := Nat.pow_le_pow_right (by decide) hk
  have h3 : (3 : Nat) ^ 5 = 243 := by decide
  omega
theorem allW_len (L : W) (hL : L.length ≤ 3) : ∀ k, k ≤ 5 → (allW L k).length ≤ (k + 1) * 243
  | 0, _ => by show 1 ≤ 243; decide
  | k + 1, h => by
    have ih := allW_len L hL k (by omega)
    have h1 := lay_243 L hL h
    show (allW L k ++ lay L (k + 1)).length ≤ _
    rw [List.length_append]
    omega
abbrev txV : W → V := fun u => V.str (tx u)
section
variable {P : Program} {w : World} {K : PySem.W.Frag} {mg : Str → Option Value} {base : Heap}
abbrev NA : List Str := ["_law_letters_here", "_law_most", "_law_found", "_law_layer", "_law_size", "_law_longer", "_law_word", "_law_letter"]
theorem scLA : FnScope NA ["_law_letters_here", "_law_most"] (defScope sLAll) := ⟨rfl, rfl, rfl, by decide +kernel, rfl, by decide +kernel, by decide +kernel⟩
theorem ok_lall {f : Addr} {fd : FuncData} (F : Fun K "_law_all_words" "_law_all_words" sLAll f fd) (T : TN mg) : FnOk P w K mg base CX0 1 f fd ["_law_letters_here", "_law_most"] spLAll := by
  refine F.ok scLA (fun vs H Q E h => ?_) (fun cdv A outer s H vs Q E hr h => ?_)
  · obtain ⟨u, n, rfl, _⟩ := h
    rfl
  · obtain ⟨L, m, rfl, hL, hm, q⟩ := h
    refine ⟨_, pss_cons (ps_par (i := 2) (j := 3) (by rfl) scLA.nd rfl rfl (by decide) rfl rfl (pa_cons (pe_lst (pa_cons pe_str pa_nil)) (pa_cons (pe_lst (pa_cons pe_str pa_nil)) pa_nil)) (by rfl))
      (pss_cons (ps_for PassesOwn.never rfl (pi_range1 rfl T.rng (pa_cons (pv 1) pa_nil)) (pg_name (i := 4) scLA.nd rfl (Or.inl rfl))
        (pss_cons (ps_set (i := 5) scLA.nd rfl (Or.inl rfl) (pe_lst pa_nil))
        (pss_cons (ps_for PassesOwn.never rfl (pi_list (pe_callTy call_list_of (by rfl) T.list (by decide +kernel) (pa_cons (pv 3) pa_nil))) (pg_name (i := 6) scLA.nd rfl (Or.inr rfl))
          (pss_one (ps_expr (pe_bm PySem.F.plainAttrs_list PySem.F.slot_list_extend PySem.F.type_list_extend mt_extend (pv 5) (pa_cons (pe_lc (own := [("_law_letter", 7)]) (g := gName 7) (tt := tYes) rfl scLA.nd (pi_str (pv 0))
            (blkOk_by (own := [("_law_letter", 7)]) (N := NA) (sc := defScope sLAll) (by decide +kernel)) (fun _ _ _ _ _ => pg_name (i := 7) scLA.nd rfl (Or.inl rfl)) (fun _ _ _ _ _ => pts_nil)
            (fun _ _ _ _ _ => pe_op op_add_str (pv 6) (pv 7))) pa_nil)))))
        (pss_cons (ps_set (i := 3) scLA.nd rfl (Or.inl rfl) (pv 5))
        (pss_one (ps_set (i := 2) scLA.nd rfl (Or.inl rfl) (pe_op op_cat (pv 2) (pv 3))))))))
      (pss_one (ps_ret (pv 2)))), ?_⟩
    refine ⟨(by show 1 ≤ sizeLine; decide), fun fo hfo => ⟨(by show 1 ≤ sizeLine; decide), fun la hla => ⟨_, _, rfl, ?_⟩⟩⟩
    refine ⟨_, rfl, (m : Int), rfl, by omega, by omega, ?_⟩
    refine for_range (lo := 0) (n := m) (fun k σ H1 => ∃ fo la a4 a5 a6, σ = [some (.str (tx L)), some (.int m), some (.ref fo), some (.ref la), a4, a5, a6, none] ∧ H fo = none ∧ Same H H1 ∧ H1 fo = some (.lst ((allW L k).map txV)) ∧ H1 la = some (.lst ((lay L k).map txV))) ?_ ?_ ?_
    · exact ⟨fo, la, none, none, none, rfl, hfo, same_two (same_upd hfo) hla, same_upd hla _ _ upd_same, upd_same⟩
    · rintro k σ H1 hk ⟨fo, la, a4, a5, a6, rfl, hfo, s1, hfo1, hla1⟩
      refine ⟨(by show 0 ≤ sizeLine; decide), fun lo hlo => ?_⟩
      refine ⟨_, rfl, la, _, rfl, .inl (SqL.of (same_upd hlo _ _ hla1)), fun cl hcl => ?_⟩
      refine ⟨cl, rfl, ⟨_, SqL.of upd_same⟩, ?_⟩
      have g1 : Same H1 (upd (upd H1 lo (.lst [])) cl (.lst ((lay L k).map txV))) := same_two (same_upd hlo) hcl
      have g2 : (upd (upd H1 lo (.lst [])) cl (.lst ((lay L k).map txV))) cl = some (.lst ((lay L k).map txV)) := upd_same
      have g3 : (upd (upd H1 lo (.lst [])) cl (.lst ((lay L k).map txV))) lo = some (.lst []) := same_upd hcl _ _ upd_same
      generalize upd (upd H1 lo (.lst [])) cl (.lst ((lay L k).map txV)) = G at g1 g2 g3 ⊢
      have cllo : cl ≠ lo := fun z => by rw [z, upd_same] at hcl; cases hcl
      have lk := lay_243 L hL (show k ≤ 5 by omega)
      have lk1 := lay_243 L hL (show k + 1 ≤ 5 by omega)
      have ak := allW_len L hL k (by omega)
      refine for_it walk_list (fun i σ H2 => ∃ a4 a6, σ = [some (.str (tx L)), some (.int m), some (.ref fo), some (.ref la), a4, some (.ref lo), a6, none] ∧ Same H1 H2 ∧ H2 cl = some (.lst ((lay L k).map txV)) ∧ H2 lo = some (.lst ((((lay L k).take i).flatMap fun u => L.map fun c => u ++ [c]).map txV)))
        ⟨_, a6, rfl, g1, g2, by rw [g3] <;> rfl⟩ (fun i σ H2 _ ⟨_, _, _, _, h, _⟩ => SqL.of h) ?_ ?_
      · rintro i x σ H2 H3 hi ⟨a4, a6, rfl, s2, hcl2, hlo2⟩ ⟨rfl, hx⟩
        rw [List.getElem?_map] at hx
        cases hc : (lay L k)[i]? with
        | none => rw [hc] at hx; cases hx
        | some u =>
          rw [hc] at hx
          obtain rfl : txV u = x := Option.some.inj hx
          have hul : u.length = k := ((mem_lay L k u).mp (List.mem_of_getElem? hc)).1
          refine ⟨_, rfl, .inl ⟨rfl, _, SqL.of hlo2⟩, _, rfl, tx L, rfl, fun D hD => ?_⟩
          refine lc_it walk_str (fun j H5 => Same H3 H5 ∧ H5 D = some (.lst (((L.take j).map fun c => u ++ [c]).map txV))) ⟨same_upd hD, upd_same⟩ (fun _ _ _ _ => trivial) ?_ ?_
          · rintro j y H5 H6 hj ⟨s5, hd5⟩ ⟨rfl, d, hy, rfl⟩
            have hy' : L[j]? = some d := by
              rw [← Array.getElem?_toList, tx_list] at hy
              exact hy
            refine ⟨rfl, _, rfl, _, rfl, _, _, rfl, rfl, ?_, _, hd5, ?_, same_at s5 hD, ?_⟩
            · rw [tx_len, sizeLine_eq, hul]
              show k + 1 ≤ _
              omega
            · rw [List.length_map, List.length_map, List.length_take, sizeLine_eq]
              omega
            · rw [upd_same, List.take_add_one, hy', List.map_append, List.map_append]
              show _ = some (HO.lst (_ ++ [V.str (tx (u ++ [d]))]))
              rw [← tx_app] <;> rfl
          · rintro H5 ⟨s5, hd5⟩
            rw [size_tx, List.take_length] at hd5
            refine ⟨lo, D, _, _, rfl, rfl, s5 _ _ hlo2, hd5, ?_, a4, some (txV u), rfl, ?_, ?_, ?_⟩
            · have h1 : (((lay L k).take i).flatMap fun u => L.map fun c => u ++ [c]).length ≤ ((lay L k).take i).length * 3 := by
                generalize (lay L k).take i = l
                induction l with
                | nil => exact Nat.le_refl _
                | cons u l ih =>
                  rw [List.flatMap_cons, List.length_append, List.length_cons, List.length_map]
                  omega
              rw [List.length_take] at h1
              rw [List.length_map, List.length_map, List.length_map, sizeLine_eq]
              omega
            · exact same_at (s2.trans s5) hlo
            · rw [upd_ne cllo]
              exact s5 _ _ hcl2
            · rw [upd_same, List.take_add_one, hc, List.flatMap_append, List.map_append]
              show _ = some (HO.lst (_ ++ List.map txV (List.flatMap _ [u])))
              rw [List.flatMap_cons, List.flatMap_nil, List.append_nil] <;> rfl
      · rintro σ H2 ⟨a4, a6, rfl, s2, hcl2, hlo2⟩
        rw [List.length_map, List.take_length] at hlo2
        have hlo3 : H2 lo = some (.lst ((lay L (k + 1)).map txV)) := hlo2
        refine ⟨_, rfl, _, rfl, _, rfl, fo, lo, _, _, rfl, rfl, s2 _ _ hfo1, hlo3, ?_, fun nf hnf => ?_⟩
        · rw [List.length_map, List.length_map, sizeLine_eq]
          omega
        · refine ⟨nf, lo, a4, some (.ref lo), a6, rfl, (s1.trans s2).free hnf, same_two (s1.trans s2) hnf, ?_, same_upd hnf _ _ hlo3⟩
          rw [upd_same, ← List.map_append] <;> rfl
    · rintro σ H1 ⟨fo, la, a4, a5, a6, rfl, hfo, s1, hfo1, hla1⟩
      exact ⟨_, rfl, q fo H1 hfo s1 hfo1⟩
end
end WK
set_option Elab.async false
set_option linter.all false
set_option maxRecDepth 100000
set_option maxHeartbeats 8000000
namespace OWN
open PySem PySem.Spec L2 PyProof.Rows
section
variable {X : Cx}
def rInTu (K : PySem.W.Frag) (neg : Bool) : R2 := fun x y H Q => ∃ d ds, Dp K H x d ∧ Dp K H y (.tuple ds) ∧ d.canLay0 = true ∧ d.depth ≤ 64 ∧ PyData.canLayAll0 ds = true ∧ Q (.bl (if neg = true then !(ds.any fun z => PyData.eqv z d) else ds.any fun z => PyData.eqv z d)) H
theorem op_inTu (hu : X.A.units + 65 < cLine) : OpR X (compareOp .In) (rInTu X.K false) := by
  intro pins s σ H x y v u Q I rx ry ⟨d, ds, hd, he, ld, dd, le, q⟩
  obtain ⟨as, r1⟩ := Dp.reads I d x v hd rx
  obtain ⟨bs, r2⟩ := Dp.reads I (.tuple ds) y u he ry
  exact SeqAt.in_tuple_reads r2 r1 le ld (by have := Nat.min_le_right (PyData.depthAll ds) d.depth; omega) ⟨.bl _, H, I, rfl, q⟩
theorem op_notInTu (hu : X.A.units + 65 < cLine) : OpR X (compareOp .NotIn) (rInTu X.K true) := by
  intro pins s σ H x y v u Q I rx ry ⟨d, ds, hd, he, ld, dd, le, q⟩
  obtain ⟨as, r1⟩ := Dp.reads I d x v hd rx
  obtain ⟨bs, r2⟩ := Dp.reads I (.tuple ds) y u he ry
  exact SeqAt.notIn_tuple_reads r2 r1 le ld (by have := Nat.min_le_right (PyData.depthAll ds) d.depth; omega) ⟨.bl _, H, I, rfl, q⟩
end
end OWN
namespace WK
open PySem L2 PyProof.Rows LCX K1 FV DP
open TX (sg sigs)
open PySem.W (Frag kitOne)
abbrev sLSight : Stmt := top 93
theorem any_td (vs : List (List Int)) (v : List Int) : ((td_ vs).any fun z => PyData.eqv z (.tuple (id_ v))) = decide (v ∈ vs) := by
  rw [Bool.eq_iff_iff, decide_eq_true_eq, List.any_map, List.any_eq_true]
  have e : ∀ a b : List Int, PyData.eqv (.tuple (id_ a)) (.tuple (id_ b)) = decide (a = b) := fun a b => eqv_ints a b
  constructor
  · rintro ⟨z, hz, h⟩
    have h : PyData.eqv (.tuple (id_ z)) (.tuple (id_ v)) = true := h
    rw [e] at h
    rw [← of_decide_eq_true h]
    exact hz
  · intro h
    refine ⟨v, h, ?_⟩
    show PyData.eqv (.tuple (id_ v)) (.tuple (id_ v)) = true
    rw [e]
    exact decide_eq_true rfl
theorem lay_td : ∀ vs : List (List Int), PyData.canLayAll0 (td_ vs) = true
  | [] => rfl
  | v :: vs => by
    show (PyData.canLay0 (.tuple (id_ v)) && PyData.canLayAll0 (td_ vs)) = true
    rw [lay_td vs, Bool.and_true]
    exact lay_ints v
theorem dep_td : ∀ vs : List (List Int), PyData.depthAll (td_ vs) ≤ 1
  | [] => Nat.zero_le _
  | v :: vs => by
    have h1 := dep_td vs
    have h2 := dep_ints v
    show max (PyData.depth (.tuple (id_ v))) (PyData.depthAll (td_ vs)) ≤ 1
    have h3 : PyData.depth (.tuple (id_ v)) = 1 + PyData.depthAll (id_ v) := by simp only [PyData.depth]; omega
    omega
theorem shaped_tds (vs : List (List Int)) : SeqAt.shaped (.list (td_ vs)) = true := by
  have h := dep_td vs
  have e : PyData.canLay0 (.list (td_ vs)) = true := lay_td vs
  show (PyData.canLay0 (.list (td_ vs)) && decide (PyData.depth (.list (td_ vs)) ≤ 64)) = true
  rw [e, Bool.true_and]
  refine decide_eq_true ?_
  simp only [PyData.depth]
  omega
def spLSight (K : Frag) : Sp := fun vs H Q _ => ∃ (L u : W) (cap md : Int), vs = [.str (tx L), .int cap, .int md, .str (tx u)] ∧ L.length ≤ 3 ∧ u.length ≤ 1000 ∧ 1 ≤ md ∧ ∀ t H', H t = none → Same H H' → H' t = some (oTup (vecW L cap md u)) → Q (.ref t) H'
abbrev NLs : List Str := ["_law_letters_here", "_law_cap", "_law_modulus", "_law_word", "_law_found", "_law_number"]
section
variable {P : Program} {w : World} {K : PySem.W.Frag} {mg : Str → Option Value} {base : Heap} {fC : Addr} {dC : FuncData}
theorem scLS : FnScope NLs ["_law_letters_here", "_law_cap", "_law_modulus", "_law_word"] (defScope sLSight) := ⟨rfl, rfl, rfl, by decide +kernel, rfl, by decide +kernel, by decide +kernel⟩
theorem ok_lsight {f : Addr} {fd : FuncData} (F : Fun K "_law_sight" "_law_sight" sLSight f fd) (T : TN mg) (AC : Fn K mg "_law_counts" sLCounts ["_law_letters_here", "_law_word"] fC dC) (GC : FnOk P w K mg base CX0 1 fC dC ["_law_letters_here", "_law_word"] spLCounts) :
    FnOk P w K mg base CX0 2 f fd ["_law_letters_here", "_law_cap", "_law_modulus", "_law_word"] (spLSight K) := by
  refine F.ok scLS (fun vs H Q E h => ?_) (fun cdv A outer s H vs Q E hr h => ?_)
  · obtain ⟨L, u, cap, md, rfl, _⟩ := h
    rfl
  · obtain ⟨L, u, cap, md, rfl, hL, hu, m0, q⟩ := h
    refine ⟨_, pss_cons (ps_set (i := 4) scLS.nd rfl (Or.inl rfl) (pe_lst pa_nil))
      (pss_cons (ps_for PassesOwn.never rfl (pi_list (pe_call GC hr rfl AC.g AC.F.kp AC.b .nil pass0 (pa_cons (pv 0) (pa_cons (pv 3) pa_nil)))) (pg_name (i := 5) scLS.nd rfl (Or.inl rfl))
        (pss_one (ps_expr (pe_bm PySem.F.plainAttrs_list PySem.F.slot_list_append PySem.F.type_list_append mt_append (pv 4) (pa_cons (pe_ifExp (pt_cmpR op_lt (pv 5) (pe_op op_add (pv 1) (pv 2)) (nomark _)) (pv 5) (pe_op op_add (pv 1) (pe_op op_mod (pe_callTy call_int1 (by rfl) T.int (by decide +kernel) (pa_cons (pe_op op_sub (pv 5) (pv 1)) pa_nil)) (pv 2)))) pa_nil)))))
      (pss_one (ps_ret (pe_callTy call_tuple_of (by rfl) T.tuple (by decide +kernel) (pa_cons (pv 4) pa_nil))))), ?_⟩
    refine ⟨by decide, fun fo hfo => ?_⟩
    have s0 := same_upd (o := .lst []) hfo
    have f0 : (upd H fo (.lst [])) fo = some (.lst []) := upd_same
    generalize upd H fo (.lst []) = H0 at s0 f0 ⊢
    dsimp only [gName]
    refine ⟨_, rfl, _, rfl, L, u, rfl, hL, hu, fun l H1 nl s1 hl => ?_⟩
    have fl : fo ≠ l := ne_of_none f0 nl
    refine ⟨l, rfl, ⟨_, SqL.of hl⟩, ?_⟩
    have s01 := s0.trans s1
    refine for_it walk_list (fun i σ H2 => ∃ x, σ = [some (.str (tx L)), some (.int cap), some (.int md), some (.str (tx u)), some (.ref fo), x] ∧ Same H H2 ∧ H2 l = H1 l ∧ H2 fo = some (.lst (((vecW L cap md u).take i).map V.int))) ?_ (fun i σ H2 _ ⟨_, _, _, e, _⟩ => SqL.of (e.trans hl)) ?_ ?_
    · exact ⟨none, rfl, s01, rfl, s1 _ _ f0⟩
    · rintro i x σ H2 H3 hi ⟨y, rfl, s2, e2, f2⟩ ⟨rfl, hx⟩
      have hi2 : i < L.length := by simpa using hi
      obtain rfl : x = .int ((u.count L[i] : Nat) : Int) := by
        simp only [List.getElem?_map, List.getElem?_eq_getElem hi2, Option.map_some, Option.some.injEq] at hx
        exact hx.symm
      have at_ : (vecW L cap md u).take (i + 1) = (vecW L cap md u).take i ++ [seenN cap md ((u.count L[i] : Nat) : Int)] := by
        rw [List.take_add_one]
        unfold vecW
        rw [List.getElem?_map, List.getElem?_eq_getElem hi2] <;> rfl
      refine ⟨_, rfl, .inl ⟨rfl, _, SqL.of f2⟩, _, rfl, _, rfl, _, rfl, _, _, rfl, rfl, _, _, rfl, rfl, _, rfl, ?_⟩
      have fin : ∀ y : Int, y = seenN cap md ((u.count L[i] : Nat) : Int) → ∃ (l2 : Addr) (xs : List V) (y2 : V), V.ref fo = .ref l2 ∧ [V.int y] = [y2] ∧ H3 l2 = some (.lst xs) ∧ xs.length < sizeLine ∧ ∃ x, [some (V.str (tx L)), some (V.int cap), some (V.int md), some (V.str (tx u)), some (V.ref fo), some (V.int ((u.count L[i] : Nat) : Int))] = [some (V.str (tx L)), some (V.int cap), some (V.int md), some (V.str (tx u)), some (V.ref fo), x] ∧ Same H (upd H3 l2 (.lst (xs ++ [y2]))) ∧ (upd H3 l2 (.lst (xs ++ [y2]))) l = H1 l ∧ (upd H3 l2 (.lst (xs ++ [y2]))) fo = some (.lst (((vecW L cap md u).take (i + 1)).map V.int)) := fun y e => by
        refine ⟨fo, _, _, rfl, rfl, f2, ?_, _, rfl, same_at s2 hfo, by rw [upd_ne (Ne.symm fl)]; exact e2, ?_⟩
        · rw [List.length_map, List.length_take, sizeLine_eq]
          omega
        · rw [upd_same, at_, List.map_append, e] <;> rfl
      refine ite2 (fun h => ?_) (fun h => ?_)
      · refine ⟨_, rfl, fin _ ?_⟩
        unfold seenN
        rw [if_pos (of_decide_eq_true h)]
      · have h : ¬ ((u.count L[i] : Nat) : Int) < cap + md := fun z => by
          rw [decide_eq_true z] at h
          exact absurd rfl h
        refine ⟨_, rfl, _, rfl, _, rfl, _, _, rfl, rfl, .inl ⟨_, rfl, _, rfl, _, _, rfl, rfl, (show (0 : Int) < md by omega), _, _, rfl, rfl, fin _ ?_⟩⟩
        unfold seenN
        rw [if_neg h]
    · rintro σ H2 ⟨y, rfl, s2, e2, f2⟩
      have hd : H2 fo = some (.lst ((vecW L cap md u).map V.int)) := by
        rw [f2]
        congr 3
        refine List.take_of_length_le (Nat.le_of_eq ?_)
        rw [vec_len]
        simp
      refine ⟨_, rfl, fo, _, rfl, .inl ⟨SqL.of hd, fun t ht => ?_⟩⟩
      exact q t _ (s2.free ht) (s2.trans (same_upd ht)) upd_same
end
end WK
set_option Elab.async false
set_option linter.all false
set_option maxRecDepth 100000
set_option maxHeartbeats 8000000
namespace WK
open PySem L2 PyProof.Rows LCX K1
open TX (sg sigs)
open PySem.W (Frag kitOne)
abbrev sLLed : Stmt := top 89
abbrev sLHas : Stmt := top 90
theorem index_tx {L : W} {c : Nat} (hnd : L.Nodup) (hc : c ∈ L) : Txt.index0 (tx L) (sg c) = some (L.idxOf c) := by
  unfold Txt.index0
  rcases StrLaws.occ_head_from (tx L) ⟨#[c]⟩ 0 1 (Nat.le_refl 1) with ⟨h0, hn⟩ | ⟨k, r, h0, hlo, hk, hn⟩
  · obtain ⟨j, hj⟩ := List.getElem?_of_mem hc
    refine absurd ((StrLaws.subAt_one (tx L) c j).mpr ?_) (hn j (Nat.zero_le _))
    rw [tx_list]
    exact hj
  · rw [show sg c = ⟨#[c]⟩ from rfl, h0]
    have e := (StrLaws.subAt_one (tx L) c k).mp hk
    rw [tx_list] at e
    rw [idx_of hnd e] <;> rfl
def spLLed : Sp := fun vs H Q _ => ∃ (l : Addr) (L u : W) (tb : List (List Int)) (n st : Int), vs = [.ref l, .str (tx L), .str (tx u), .int st] ∧ PTab H l tb ∧ Let L ∧ TabOk tb L.length n ∧ 0 ≤ st ∧ st < n ∧ (∀ c ∈ u, c ∈ L) ∧ Q (.int (ledL L tb u st)) H
abbrev NLl : List Str := ["_law_table_here", "_law_letters_here", "_law_word", "_law_start", "_law_place", "_law_letter"]
section
variable {P : Program} {w : World} {K : PySem.W.Frag} {mg : Str → Option Value} {base : Heap} {fL : Addr} {dL : FuncData}
theorem scLl : FnScope NLl ["_law_table_here", "_law_letters_here", "_law_word", "_law_start"] (defScope sLLed) := ⟨rfl, rfl, rfl, by decide +kernel, rfl, by decide +kernel, by decide +kernel⟩
theorem ok_lled {f : Addr} {fd : FuncData} (F : Fun K "_law_led" "_law_led" sLLed f fd) : FnOk P w K mg base CX0 1 f fd ["_law_table_here", "_law_letters_here", "_law_word", "_law_start"] spLLed := by
  refine F.ok scLl (fun vs H Q E h => ?_) (fun cdv A outer s H vs Q E hr h => ?_)
  · obtain ⟨l, L, u, tb, n, st, rfl, _⟩ := h
    rfl
  · obtain ⟨l, L, u, tb, n, st, rfl, hT, hL, ok, s0, s1, hc, q⟩ := h
    refine ⟨_, pss_cons (ps_set (i := 4) scLl.nd rfl (Or.inl rfl) (pv 3))
      (pss_cons (ps_for PassesOwn.never rfl (pi_str (pv 2)) (pg_name (i := 5) scLl.nd rfl (Or.inl rfl))
        (pss_one (ps_set (i := 4) scLl.nd rfl (Or.inl rfl) (pe_ix ix_tup (pe_ix ix_list (pv 0) (pv 4) (fun _ _ => rfl)) (pe_bmS PySem.F.plainAttrs_str PySem.F.slot_str_index PySem.F.type_str_index (mt_indexX rfl takes0) (pv 1) (pa_cons (pv 5) pa_nil)) (fun _ _ => rfl)))))
      (pss_one (ps_ret (pv 4)))), ?_⟩
    have hnd := nodup_of hL
    refine ⟨_, rfl, _, rfl, tx u, rfl, ?_⟩
    refine for_it walk_str (fun i σ H1 => H1 = H ∧ ∃ x : Option V, σ = [some (.ref l), some (.str (tx L)), some (.str (tx u)), some (.int st), some (.int (ledL L tb (u.take i) st)), x]) ⟨rfl, none, rfl⟩ (fun _ _ _ _ _ => trivial) ?_ ?_
    · rintro i x σ H1 H2 hi ⟨rfl, x0, rfl⟩ ⟨rfl, c, hx, rfl⟩
      have hx' : u[i]? = some c := by
        rw [← Array.getElem?_toList, tx_list] at hx
        exact hx
      have hcL : c ∈ L := hc c (List.mem_of_getElem? hx')
      have hin := ledL_in ok (u := u.take i) (st := st) ⟨s0, s1⟩ fun d hd => hc d (List.mem_of_mem_take hd)
      obtain ⟨as, h1, h2⟩ := hT
      have hrl : (ledL L tb (u.take i) st).toNat < tb.length := by have := ok.len; omega
      obtain ⟨a, e1, e2⟩ := h2.get hrl
      have at1 : atI (as.map V.ref) (ledL L tb (u.take i) st) = some (.ref a) := by
        have e3 : ledL L tb (u.take i) st = (((ledL L tb (u.take i) st).toNat : Nat) : Int) := by omega
        rw [e3]
        exact atI_nat (by rw [List.getElem?_map, e1] <;> rfl)
      have e4 : tb.getD (ledL L tb (u.take i) st).toNat [] = tb[(ledL L tb (u.take i) st).toNat] := by rw [List.getD_eq_getElem?_getD, List.getElem?_eq_getElem hrl] <;> rfl
      have hil : L.idxOf c < (tb.getD (ledL L tb (u.take i) st).toNat []).length := by rw [e4, (ok.row _ (List.getElem_mem hrl)).1]; exact List.idxOf_lt_length_of_mem hcL
      have at2 : atI ((tb.getD (ledL L tb (u.take i) st).toNat []).map V.int) ((L.idxOf c : Nat) : Int) = some (.int (stepL L tb (ledL L tb (u.take i) st) c)) := by
        refine atI_nat ?_
        unfold stepL
        rw [List.getElem?_map, List.getD_eq_getElem?_getD (l := tb.getD _ _), List.getElem?_eq_getElem hil] <;> rfl
      refine ⟨_, rfl, _, rfl, l, _, _, _, rfl, rfl, SqL.of h1, at1, _, rfl, rfl, _, rfl, tx L, sg c, rfl, rfl, fun k hk => ?_, fun hk => ?_⟩
      · rw [index_tx hnd hcL] at hk
        obtain rfl := Option.some.inj hk
        refine ⟨a, _, _, _, rfl, rfl, SqT.of e2, at2, rfl, some (.str (sg c)), ?_⟩
        rw [List.take_add_one, hx']
        show _ = [_, _, _, _, some (V.int (ledL L tb (u.take i ++ [c]) st)), _]
        rw [ledL_snoc] <;> rfl
      · rw [index_tx hnd hcL] at hk
        cases hk
    · rintro σ H1 ⟨rfl, x0, rfl⟩
      rw [size_tx, List.take_length]
      exact ⟨_, rfl, q⟩
/-- whether a word is one of a plain machine -/
def spLHas : Sp := fun vs H Q _ => ∃ (m : Addr) (L u : W) (tb : List (List Int)) (es : List Int) (n : Int), vs = [.ref m, .str (tx u)] ∧ PlainM H m L tb es ∧ MacOk L tb es n ∧ Let L ∧ (∀ c ∈ u, c ∈ L) ∧ Q (.bl (decide (ledL L tb u 0 ∈ es))) H
theorem scLh : FnScope ["_law_plain", "_law_word"] ["_law_plain", "_law_word"] (defScope sLHas) := ⟨rfl, rfl, rfl, by decide +kernel, rfl, by decide +kernel, by decide +kernel⟩
theorem ok_lhas {f : Addr} {fd : FuncData} (F : Fun K "_law_has" "_law_has" sLHas f fd) (AL : Fn K mg "_law_led" sLLed ["_law_table_here", "_law_letters_here", "_law_word", "_law_start"] fL dL) : FnOk P w K mg base CX0 2 f fd ["_law_plain", "_law_word"] spLHas := by
  have GL : FnOk P w K mg base CX0 1 fL dL ["_law_table_here", "_law_letters_here", "_law_word", "_law_start"] spLLed := ok_lled AL.F
  refine F.ok scLh (fun vs H Q E h => ?_) (fun cdv A outer s H vs Q E hr h => ?_)
  · obtain ⟨m, L, u, tb, es, n, rfl, _⟩ := h
    rfl
  · obtain ⟨m, L, u, tb, es, n, rfl, hp, ok, hL, hc, q⟩ := h
    have hub := hu_of hr
    refine ⟨_, pss_one (ps_ret (pe_cmpR op_in_seq (pe_call GL hr rfl AL.g AL.F.kp AL.b .nil pass0 (pa_cons (pe_dget hub (pv 0) pe_str (fun _ _ => rfl)) (pa_cons (pe_dget hub (pv 0) pe_str (fun _ _ => rfl)) (pa_cons (pv 1) (pa_cons pe_int pa_nil))))) (pe_dget hub (pv 0) pe_str (fun _ _ => rfl)) (by rfl))), ?_⟩
    obtain ⟨lt, le, h1, h2, h3⟩ := hp.ex
    have g : ∀ (kk : Key) (v : V), valV (pkv L lt le) kk = some v → DGet H m (kV kk) (some v) := fun kk v e => e ▸ DGet.k h1
    refine ⟨_, rfl, m, _, rfl, g kTb _ (pkv_T L lt le), _, rfl, m, _, rfl, g kL _ (pkv_L L lt le), _, rfl, lt, L, u, tb, n, 0, rfl, h2, hL, ok.tab, Int.le_refl _, by have := ok.one; omega, hc, ?_⟩
    refine ⟨_, rfl, m, _, rfl, g kE _ (pkv_E L lt le), le, _, rfl, .inl (SqL.of h3), rfl, flat_ints es, ?_⟩
    rw [inV_int]
    exact q
end
end WK
set_option Elab.async false
set_option linter.all false
set_option maxRecDepth 100000
set_option maxHeartbeats 8000000
namespace WK
open PySem L2 PyProof.Rows LCX K1
open TX (sg sigs)
open PySem.W (Frag kitOne)
/-- so often -/
def itL (f : Int → Int) (st : Int) : Nat → Int
  | 0 => st
  | k + 1 => f (itL f st k)
/-- what was met so far: m places, all unlike -/
def metL (f : Int → Int) (st : Int) (m : Nat) : List Int := (List.range m).map (itL f st)
theorem met_snoc (f : Int → Int) (st : Int) (m : Nat) : metL f st (m + 1) = metL f st m ++ [itL f st m] := by
  unfold metL
  rw [List.range_succ, List.map_append] <;> rfl
/-- the dict of what was met -/
structure NumOk (f : Int → Int) (st : Int) (m : Nat) (kvs : List (Key × V)) : Prop where
  len : kvs.length ≤ m
  at_ : ∀ i < m, valV kvs (Sum.inl (itL f st i) : Key) = some (.int ((i : Nat) : Int))
  no : ∀ x, x ∉ metL f st m → valV kvs (Sum.inl x : Key) = none
theorem NumOk.next {f : Int → Int} {st : Int} {m : Nat} {kvs : List (Key × V)} (h : NumOk f st m kvs) (hn : itL f st m ∉ metL f st m) : NumOk f st (m + 1) (putK kvs (Sum.inl (itL f st m) : Key) (.int ((m : Nat) : Int))) where
  len := by
    have h1 := length_putK kvs (Sum.inl (itL f st m) : Key) (.int ((m : Nat) : Int))
    have h2 := h.len
    omega
  at_ := fun i hi => by
    rw [valV_put]
    by_cases e : i = m
    · rw [if_pos (by rw [e]), e]
    · have lt : i < m := by omega
      rw [if_neg fun z => hn (by rw [← Sum.inl.inj z]; exact List.mem_map.mpr ⟨i, List.mem_range.mpr lt, rfl⟩)]
      exact h.at_ i lt
  no := fun x hx => by
    rw [met_snoc] at hx
    rw [valV_put, if_neg fun z => hx (by rw [Sum.inl.inj z]; exact List.mem_append_right _ (List.mem_singleton.mpr rfl))]
    exact h.no x fun z => hx (List.mem_append_left _ z)
end WK
set_option Elab.async false
set_option linter.all false
set_option maxRecDepth 100000
set_option maxHeartbeats 4000000
set_option Elab.async false
set_option linter.all false
set_option maxRecDepth 100000
set_option maxHeartbeats 8000000
namespace RM
open PySem L2 PyProof.Rows LCX K1 FV DP WK
open TX (sg sigs)
open PySem.W (Frag kitOne)
abbrev sBFirst : Stmt := inClass (top 66) 12
def firstV (L : W) (tb : List (List Int)) (p : Int) : V := match (wyP tb 0 tb.length).lookup p with
  | some u => .str (tx (wordL L u))
  | none => .non
def spFirst (C : Addr) : Sp := fun vs H Q _ => ∃ (o : Addr) (L : W) (tb : List (List Int)) (n p : Int), vs = [.ref o, .int p] ∧ BoxAt C H o L tb ∧ Let L ∧ TabOk tb L.length n ∧ n ≤ 1000 ∧ 0 ≤ p ∧ p < n ∧ ∀ H', Same H H' → Q (firstV L tb p) H'
theorem lookup_mem {ps : Wy} {a : Int} : (a ∈ ps.map (·.1) → ∃ u, ps.lookup a = some u ∧ (a, u) ∈ ps) ∧ (a ∉ ps.map (·.1) → ps.lookup a = none) := by
  induction ps with
  | nil => exact ⟨fun h => absurd h List.not_mem_nil, fun _ => rfl⟩
  | cons p ps ih =>
    obtain ⟨b, v⟩ := p
    rw [List.lookup_cons]
    by_cases e : a = b
    · subst e
      rw [show (a == a) = true from beq_self_eq_true a]
      exact ⟨fun _ => ⟨v, rfl, .head _⟩, fun h => absurd (.head _) h⟩
    · rw [show (a == b) = false from beq_eq_false_iff_ne.mpr e]
      refine ⟨fun h => ?_, fun h => ih.2 fun z => h (.tail _ z)⟩
      rcases List.mem_cons.mp h with z | z
      · exact absurd z e
      · obtain ⟨u, h1, h2⟩ := ih.1 z
        exact ⟨u, h1, .tail _ h2⟩
section
variable {P : Program} {w : World} {K : PySem.W.Frag} {mg : Str → Option Value} {base : Heap} {C cD fNW fNN fNO fL fO fW fA : Addr} {dNW dNN dNO dL dO dW dA : FuncData}
theorem scFi : FnScope ["self", "place", "found"] ["self", "place"] (defScope sBFirst) := ⟨rfl, rfl, rfl, by decide +kernel, rfl, by decide +kernel, by decide +kernel⟩
theorem ok_first {f : Addr} {fd : FuncData} (F : Fun K "first_word" "Box.first_word" sBFirst f fd) (T : TN mg) (M : TBx K mg C cD) (AN : Fn K mg "need_number" sNeedNum ["value", "least", "most"] fNN dNN) (GN : FnOk P w K mg base CX0 3 fNN dNN ["value", "least", "most"] spNeedNum)
    (AW : Fn K mg "ways" sWays ["table", "start"] fW dW) (GW : FnOk P w K mg base CX0 1 fW dW ["table", "start"] (spWaysV K)) (AA : Fn K mg "word_along" sAlong ["letters", "found", "row"] fA dA) (GA : FnOk P w K mg base CX0 1 fA dA ["letters", "found", "row"] spAlong) :
    FnOk P w K mg base CX0 4 f fd ["self", "place"] (spFirst C) := by
  refine F.ok scFi (fun vs H Q E h => ?_) (fun cdv A outer s H vs Q E hr h => ?_)
  · obtain ⟨o, L, tb, n, p, rfl, _⟩ := h
    rfl
  · obtain ⟨o, L, tb, n, p, rfl, ⟨dx, r, h1, ts, t1, t2⟩, hL, ok, n2, p0, p1, q⟩ := h
    have hub := hu_of hr
    have hr1 : Room 1 _ := hr.mono (by decide)
    refine ⟨_, pss_cons (ps_expr (pe_call (E := E0) GN hr rfl AN.g AN.F.kp AN.b .nil pass0 (pa_cons (pv 1) (pa_cons pe_int (pa_cons (pe_op op_sub (pe_callB call_len_seq (by rfl) T.len PySem.boot_len (pa_cons (pe_fld (pv 0) rfl) pa_nil)) pe_int) pa_nil)))))
      (pss_cons (ps_set (i := 2) scFi.nd rfl (Or.inl rfl) (pe_call (E := E0) GW hr1 rfl AW.g AW.F.kp AW.b .nil pass0 (pa_cons (pe_fld (pv 0) rfl) (pa_cons pe_int pa_nil))))
      (pss_one (ps_ret (pe_ifExp (pt_cmp (pc_din hub (pv 1) (pv 2))) (pe_call (E := E0) GA hr1 rfl AA.g AA.F.kp AA.b .nil pass0 (pa_cons (pe_fld (pv 0) rfl) (pa_cons (pv 2) (pa_cons (pv 1) pa_nil)))) pe_non)))), ?_⟩
    have tl : (ts.map V.ref).length = tb.length := by rw [List.length_map, t2.len]
    have hln := ok.len
    refine ⟨_, rfl, _, rfl, o, C, dx, _, _, rfl, h1, M.cl, M.nT, bfl_T, r, _, rfl, .inr (SqT.of t1), _, _, rfl, rfl, _, _, _, rfl, p0, by rw [tl]; omega, ?_⟩
    refine ⟨_, rfl, o, C, dx, _, _, rfl, h1, M.cl, M.nT, bfl_T, r, tb, L.length, n, 0, rfl, rows_tt ⟨ts, t1, t2⟩, ok, n2, by have := hL.few; omega, Int.le_refl _, by omega, fun D kvs H1 nD s1 hd keys few wo => ?_⟩
    refine ⟨_, rfl, _, rfl, D, _, rfl, DGet.k (k := (Sum.inl p : Key)) hd, _, rfl, ?_⟩
    have pm := wyP_fst (tb := tb) (st := 0) tb.length
    have q1 := q
    unfold firstV at q1
    by_cases hin : p ∈ wyA tb 0 tb.length
    · obtain ⟨v, hv⟩ := Option.ne_none_iff_exists'.mp ((keys.val p).mpr hin)
      rw [hv]
      refine iteT ?_
      obtain ⟨u, e1, e2⟩ := lookup_mem.1 (show p ∈ (wyP tb 0 tb.length).map (·.1) by rw [pm]; exact hin)
      rw [e1] at q1
      have lf := few.len
      have ll : (wyP tb 0 tb.length).length = (wyA tb 0 tb.length).length := by rw [← pm, List.length_map]
      refine ⟨_, rfl, o, C, dx, _, _, rfl, s1 _ _ h1, M.cl, M.nL, bfl_L, _, rfl, _, rfl, L, D, p, kvs, _, u, rfl, hL.few, hd, wo, e2, ?_, fun H2 s2 => q1 H2 (s1.trans s2)⟩
      rw [ll]
      rcases lf with z | z
      · omega
      · rw [z]
        exact Nat.zero_le _
    · have hv : valV kvs (Sum.inl p : Key) = none := Classical.byContradiction fun z => hin ((keys.val p).mp z)
      rw [hv]
      refine iteF ?_
      rw [lookup_mem.2 (show p ∉ (wyP tb 0 tb.length).map (·.1) by rw [pm]; exact hin)] at q1
      exact q1 H1 s1
end
end RM
set_option Elab.async false
set_option linter.all false
set_option maxRecDepth 100000
set_option maxHeartbeats 4000000
namespace WK
open PySem L2 PyProof.Rows LCX K1 FV DP
def allV (s : Int) : Nat → List (List Int)
  | 0 => [[]]
  | k + 1 => (numsTo s).flatMap fun x => (allV s k).map fun v => x :: v
theorem mem_allV {s : Int} : ∀ (k : Nat) (v : List Int), v ∈ allV s k ↔ v.length = k ∧ TS.Bd s v
  | 0, v => by
    constructor
    · intro h
      rw [List.mem_singleton.mp h]
      exact ⟨rfl, fun _ z => absurd z List.not_mem_nil⟩
    · rintro ⟨h, _⟩
      rw [List.eq_nil_of_length_eq_zero h]
      exact List.mem_singleton.mpr rfl
  | k + 1, v => by
    constructor
    · intro h
      obtain ⟨x, hx, h⟩ := List.mem_flatMap.mp h
      obtain ⟨r, hr, rfl⟩ := List.mem_map.mp h
      obtain ⟨h1, h2⟩ := (mem_allV k r).mp hr
      refine ⟨by rw [List.length_cons, h1], fun y hy => ?_⟩
      rcases List.mem_cons.mp hy with z | z
      · rw [z]
        exact mem_nums.mp hx
      · exact h2 y z
    · rintro ⟨h, b⟩
      match v, h with
      | x :: r, h => exact List.mem_flatMap.mpr ⟨x, mem_nums.mpr (b x (.head _)), List.mem_map.mpr ⟨r, (mem_allV k r).mpr ⟨Nat.succ.inj h, fun y hy => b y (.tail _ hy)⟩, rfl⟩⟩
theorem len_allV (s : Int) : ∀ k, (allV s k).length = s.toNat ^ k
  | 0 => rfl
  | k + 1 => by
    have h : ∀ l : List Int, (l.flatMap fun x => (allV s k).map fun v => x :: v).length = l.length * s.toNat ^ k := by
      intro l
      induction l with
      | nil => simp
      | cons x l ih => rw [List.flatMap_cons, List.length_append, ih, List.length_map, len_allV s k, List.length_cons, Nat.succ_mul, Nat.add_comm]
    show ((numsTo s).flatMap fun x => (allV s k).map fun v => x :: v).length = _
    rw [h, show (numsTo s).length = s.toNat by rw [List.length_map, List.length_range], Nat.pow_succ, Nat.mul_comm]
/-- the box of a clerk -/
abbrev cntT (L : W) (cap md : Int) (N : Nat) : List (List Int) := (exAll (cntF L cap md) L (zeros L) N).2
theorem one_in {cap md x : Int} (hc : 0 ≤ cap) (hm : 1 ≤ md) (h : 0 ≤ x ∧ x < cap + md) : 0 ≤ oneM cap md x ∧ oneM cap md x < cap + md := by
  unfold oneM
  split <;> omega
theorem cnt_in {L : W} {cap md : Int} (hc : 0 ≤ cap) (hm : 1 ≤ md) {v : List Int} (hl : v.length = L.length) (b : TS.Bd (cap + md) v) (c : Nat) : TS.Bd (cap + md) (cntF L cap md v c) := fun y hy => by
  obtain ⟨p, hp, rfl⟩ := List.mem_map.mp hy
  have hb := b p.2 (List.of_mem_zip hp).2
  show 0 ≤ (if p.1 = c then oneM cap md p.2 else p.2) ∧ (if p.1 = c then oneM cap md p.2 else p.2) < cap + md
  split
  · exact one_in hc hm hb
  · exact hb
theorem clerk_done {L : W} {cap md : Int} (k1 : 1 ≤ L.length) (k2 : L.length ≤ 2) (c0 : 0 ≤ cap) (c1 : cap ≤ 3) (m0 : 1 ≤ md) (m1 : md ≤ 3) : ∃ N, Done (cntF L cap md) L (zeros L) N ∧ N ≤ 36 := by
  obtain ⟨N, d, le⟩ := done_in (f := cntF L cap md) (L := L) (start := zeros L) (S := allV (cap + md) L.length) ((mem_allV _ _).mpr ⟨List.length_map _, fun y hy => by
      obtain ⟨_, _, rfl⟩ := List.mem_map.mp hy
      omega⟩) (fun a ha c hc => by
      obtain ⟨h1, h2⟩ := (mem_allV _ _).mp ha
      exact (mem_allV _ _).mpr ⟨cnt_len L cap md a c h1, cnt_in c0 m0 h1 h2 c⟩)
  refine ⟨N, d, Nat.le_trans le ?_⟩
  rw [len_allV]
  have h6 : (cap + md).toNat ≤ 6 := by omega
  rcases (show L.length = 1 ∨ L.length = 2 by omega) with e | e
  · rw [e, Nat.pow_one]
    omega
  · rw [e]
    exact Nat.le_trans (Nat.pow_le_pow_left h6 2) (by decide)
section
variable {L : W} {cap md : Int} {N : Nat}
/-- two words come to one place just if their counts are seen alike -/
theorem place_same (d : Done (cntF L cap md) L (zeros L) N) (c0 : 0 ≤ cap) (m0 : 1 ≤ md) {u v : W} (hu : ∀ c ∈ u, c ∈ L) (hv : ∀ c ∈ v, c ∈ L) : ledL L (cntT L cap md N) u 0 = ledL L (cntT L cap md N) v 0 ↔ vecW L cap md u = vecW L cap md v := by
  have h := d.same hu hv
  rw [vec_fold c0 m0, vec_fold c0 m0] at h
  exact h
end
theorem led_cols {L : W} (nd : L.Nodup) {T : List (List Int)} : ∀ (u : W) (r : Int), (∀ c ∈ u, c ∈ List.range L.length) → ledL L T (u.map fun c => L.getD c 0) r = u.foldl (rowF T) r
  | [], _, _ => rfl
  | c :: u, r, h => by
    have hc := List.mem_range.mp (h c (.head _))
    have e : stepL L T r (L.getD c 0) = rowF T r c := by
      show (T.getD r.toNat []).getD (L.idxOf (L.getD c 0)) 0 = _
      rw [List.getD_eq_getElem?_getD (l := L), List.getElem?_eq_getElem hc]
      show (T.getD r.toNat []).getD (L.idxOf L[c]) 0 = _
      rw [nd.idxOf_getElem] <;> rfl
    show ledL L T (u.map fun c => L.getD c 0) (stepL L T r (L.getD c 0)) = u.foldl (rowF T) (rowF T r c)
    rw [e]
    exact led_cols nd u _ fun x hx => h x (.tail _ hx)
theorem cols_of {L : W} : ∀ (u : W), (∀ c ∈ u, c ∈ L) → ∃ v : W, (∀ c ∈ v, c ∈ List.range L.length) ∧ v.map (fun c => L.getD c 0) = u := fun u hu => by
  refine ⟨u.map fun c => L.idxOf c, fun c hc => ?_, ?_⟩
  · obtain ⟨x, hx, rfl⟩ := List.mem_map.mp hc
    exact List.mem_range.mpr (List.idxOf_lt_length_of_mem (hu x hx))
  · rw [List.map_map]
    refine (List.map_congr_left fun x hx => ?_).trans (List.map_id u)
    show L.getD (L.idxOf x) 0 = x
    have h := List.idxOf_lt_length_of_mem (hu x hx)
    rw [List.getD_eq_getElem?_getD, List.getElem?_eq_getElem h]
    exact List.getElem_idxOf h
theorem cols_in {L : W} {u : W} (h : ∀ c ∈ u, c ∈ List.range L.length) : ∀ c ∈ u.map (fun c => L.getD c 0), c ∈ L := fun c hc => by
  obtain ⟨x, hx, rfl⟩ := List.mem_map.mp hc
  have hx := List.mem_range.mp (h x hx)
  rw [List.getD_eq_getElem?_getD, List.getElem?_eq_getElem hx]
  exact List.getElem_mem hx
/-- the places of a machine's words, by words -/
theorem places_letters {L : W} (nd : L.Nodup) {tm tb : List (List Int)} {es : List Int} {B : Nat} (d : Done (pairF tm tb) (List.range L.length) [0, 0] B) (b : Int) :
    placesOf tm tb es L.length B b ↔ ∃ u : W, (∀ c ∈ u, c ∈ L) ∧ stW L tm u ∈ es ∧ ledL L tb u 0 = b := by
  constructor
  · rintro ⟨a, ha, h⟩
    obtain ⟨u, hu, e⟩ := (d.reach _).mp h
    rw [pair_fold] at e
    injection e with e1 e2
    injection e2 with e2 _
    refine ⟨u.map fun c => L.getD c 0, cols_in hu, ?_, ?_⟩
    · show ledL L tm _ 0 ∈ es
      rw [led_cols nd u 0 hu, e1]
      exact ha
    · rw [led_cols nd u 0 hu, e2]
  · rintro ⟨u, hu, h1, rfl⟩
    obtain ⟨v, hv, rfl⟩ := cols_of u hu
    refine ⟨v.foldl (rowF tm) 0, ?_, (d.reach _).mpr ⟨v, hv, ?_⟩⟩
    · have h1 : ledL L tm _ 0 ∈ es := h1
      rw [led_cols nd v 0 hv] at h1
      exact h1
    · rw [pair_fold, led_cols nd v 0 hv]
theorem add_way {tb : List (List Int)} {wd : Nat} {r : Int} {u : List Nat} {m : Nat} (len : ∀ x ∈ tb, x.length = wd) (hr : u.foldl (rowF tb) 0 = r) (hu : ∀ c ∈ u, c < wd) (hm : u.length < m) : ∀ (l : List (Int × Nat)) (o : Wy), (∀ p ∈ l, p ∈ (tb.getD r.toNat []).zipIdx) → (∀ q ∈ o, q.2.foldl (rowF tb) 0 = q.1 ∧ (∀ c ∈ q.2, c < wd) ∧ q.2.length ≤ m) → ∀ q ∈ l.foldl (addP u) o, q.2.foldl (rowF tb) 0 = q.1 ∧ (∀ c ∈ q.2, c < wd) ∧ q.2.length ≤ m
  | [], _, _, ho => ho
  | p :: l, o, hl, ho => by
    refine add_way len hr hu hm l (addP u o p) (fun x hx => hl x (.tail _ hx)) fun q hq => ?_
    unfold addP at hq
    split at hq
    · exact ho q hq
    · rcases List.mem_append.mp hq with z | z
      · exact ho q z
      · rw [List.mem_singleton.mp z]
        have hp := hl p (.head _)
        obtain ⟨a, i⟩ := p
        obtain ⟨h1, h2⟩ := List.mk_mem_zipIdx_iff_getElem?.mp hp |> fun e => (List.getElem?_eq_some_iff.mp e)
        refine ⟨?_, fun c hc => ?_, ?_⟩
        · show (u ++ [i]).foldl (rowF tb) 0 = a
          rw [List.foldl_append, hr]
          show rowF tb r i = a
          unfold rowF
          rw [List.getD_eq_getElem?_getD, List.getElem?_eq_getElem h1]
          exact h2
        · rcases List.mem_append.mp hc with y | y
          · exact hu c y
          · rw [List.mem_singleton.mp y]
            have hrow : (tb.getD r.toNat []).length = wd ∨ tb.getD r.toNat [] = [] := by
              by_cases hb : r.toNat < tb.length
              · left
                rw [List.getD_eq_getElem?_getD, List.getElem?_eq_getElem hb]
                exact len _ (List.getElem_mem hb)
              · right
                rw [List.getD_eq_getElem?_getD, List.getElem?_eq_none (by omega)] <;> rfl
            rcases hrow with y | y
            · omega
            · rw [y] at h1
              exact absurd h1 (Nat.not_lt_zero _)
        · rw [List.length_append]
          show u.length + 1 ≤ m
          omega
theorem way_led {tb : List (List Int)} {wd : Nat} (len : ∀ x ∈ tb, x.length = wd) : ∀ j, ∀ q ∈ wyP tb 0 j, q.2.foldl (rowF tb) 0 = q.1 ∧ (∀ c ∈ q.2, c < wd) ∧ q.2.length ≤ j
  | 0, q, hq => by
    rw [List.mem_singleton.mp hq]
    exact ⟨rfl, fun _ z => absurd z List.not_mem_nil, Nat.le_refl _⟩
  | j + 1, q, hq => by
    have ih := way_led len j
    cases e : (wyP tb 0 j)[j]? with
    | none =>
      have e2 : wyP tb 0 (j + 1) = wyP tb 0 j := wyP_stop (by
        by_cases h : j < (wyP tb 0 j).length
        · rw [List.getElem?_eq_getElem h] at e
          cases e
        · omega) 1
      rw [e2] at hq
      obtain ⟨h1, h2, h3⟩ := ih q hq
      exact ⟨h1, h2, by omega⟩
    | some p =>
      obtain ⟨r, u⟩ := p
      rw [wyP_at e] at hq
      obtain ⟨h1, h2, h3⟩ := ih (r, u) (List.mem_of_getElem? e)
      have h3 : u.length ≤ j := h3
      exact add_way len h1 h2 (by omega : u.length < j + 1) _ _ (fun _ z => z) (fun q hq => by
        obtain ⟨a, b, c⟩ := ih q hq
        exact ⟨a, b, by omega⟩) q hq
theorem first_led {L : W} (nd : L.Nodup) {tb : List (List Int)} {n : Int} (ok : TabOk tb L.length n) (lean : LeanT tb) {p : Int} (hp : 0 ≤ p ∧ p < n) : ∃ u : W, RM.firstV L tb p = .str (tx u) ∧ (∀ c ∈ u, c ∈ L) ∧ ledL L tb u 0 = p ∧ u.length ≤ tb.length := by
  have hl := ok.len
  have mem : p ∈ (wyP tb 0 tb.length).map (·.1) := by
    rw [wyP_fst, lean.all]
    exact List.mem_map.mpr ⟨p.toNat, List.mem_range.mpr (by omega), by omega⟩
  obtain ⟨u, h1, h2⟩ := RM.lookup_mem.1 mem
  obtain ⟨a, b, c⟩ := way_led (fun x hx => (ok.row x hx).1) tb.length _ h2
  have hu : ∀ c ∈ u, c ∈ List.range L.length := fun c hc => List.mem_range.mpr (b c hc)
  refine ⟨wordL L u, ?_, cols_in hu, ?_, ?_⟩
  · unfold RM.firstV
    rw [h1]
  · exact (led_cols nd u 0 hu).trans a
  · unfold wordL
    rw [List.length_map]
    exact c
theorem asc_same : ∀ {xs ys : List Int}, xs.Pairwise (· < ·) → ys.Pairwise (· < ·) → (∀ a, a ∈ xs ↔ a ∈ ys) → xs = ys
  | [], [], _, _, _ => rfl
  | [], y :: _, _, _, h => absurd ((h y).mpr (.head _)) List.not_mem_nil
  | x :: _, [], _, _, h => absurd ((h x).mp (.head _)) List.not_mem_nil
  | x :: xs, y :: ys, hx, hy, h => by
    have px := List.pairwise_cons.mp hx
    have py := List.pairwise_cons.mp hy
    have e : x = y := by
      rcases List.mem_cons.mp ((h x).mp (.head _)) with z | z
      · exact z
      · rcases List.mem_cons.mp ((h y).mpr (.head _)) with w | w
        · exact w.symm
        · have := py.1 x z
          have := px.1 y w
          omega
    subst e
    congr 1
    refine asc_same px.2 py.2 fun a => ⟨fun ha => ?_, fun ha => ?_⟩
    · rcases List.mem_cons.mp ((h a).mp (.tail _ ha)) with z | z
      · have := px.1 a ha
        omega
      · exact z
    · rcases List.mem_cons.mp ((h a).mpr (.tail _ ha)) with z | z
      · have := py.1 a ha
        omega
      · exact z
/-- the counts of one word for each place, in order, are what is told -/
theorem told_is {L : W} {cap md n : Int} {tm : List (List Int)} {es : List Int} {vs ys : List (List Int)} {ws : List W} (S : Sch L cap md n tm) (t : Told L cap md tm es vs) (perm : ys.Perm (ws.map (vecW L cap md))) (asc : ys.Pairwise fun a b => TS.code (cap + md) a ≤ TS.code (cap + md) b)
    (dist : (ws.map (vecW L cap md)).Nodup) (h1 : ∀ u ∈ ws, ∃ v : W, (∀ c ∈ v, c ∈ L) ∧ stW L tm v ∈ es ∧ vecW L cap md u = vecW L cap md v) (h2 : ∀ u : W, (∀ c ∈ u, c ∈ L) → stW L tm u ∈ es → ∃ v ∈ ws, vecW L cap md u = vecW L cap md v) : ys = vs := by
  have okY : ∀ y ∈ ys, ∃ u : W, y = vecW L cap md u := fun y hy => by
    obtain ⟨u, _, rfl⟩ := List.mem_map.mp (perm.mem_iff.mp hy)
    exact ⟨u, rfl⟩
  have okV : ∀ y ∈ vs, ∃ u : W, y = vecW L cap md u := fun y hy => by
    obtain ⟨u, _, _, e⟩ := (t.all y).mp hy
    exact ⟨u, e⟩
  have inj : ∀ a b : List Int, (∃ u : W, a = vecW L cap md u) → (∃ u : W, b = vecW L cap md u) → TS.code (cap + md) a = TS.code (cap + md) b → a = b := fun a b ⟨u, ha⟩ ⟨v, hb⟩ e => by
    subst ha hb
    exact code_eq (S.bd u) (vec_len L cap md u) (S.bd v) (vec_len L cap md v) S.k1 S.k2 e
  have nd : ys.Nodup := perm.nodup_iff.mpr dist
  have asc2 : (ys.map (TS.code (cap + md))).Pairwise (· < ·) := by
    rw [List.pairwise_map]
    refine (List.pairwise_and_iff.mpr ⟨asc, nd⟩).imp_of_mem fun {a b} ha hb ⟨h1, h2⟩ => ?_
    have : TS.code (cap + md) a ≠ TS.code (cap + md) b := fun e => h2 (inj a b (okY a ha) (okY b hb) e)
    omega
  have memYV : ∀ y, y ∈ ys ↔ y ∈ vs := fun y => by
    constructor
    · intro hy
      obtain ⟨u, hu, rfl⟩ := List.mem_map.mp (perm.mem_iff.mp hy)
      obtain ⟨v, hv, h3, e⟩ := h1 u hu
      exact (t.all _).mpr ⟨v, hv, h3, e⟩
    · intro hy
      obtain ⟨u, hu, h3, rfl⟩ := (t.all _).mp hy
      obtain ⟨v, hv, e⟩ := h2 u hu h3
      rw [e]
      exact perm.mem_iff.mpr (List.mem_map_of_mem hv)
  have em := asc_same asc2 t.asc fun a => by
    constructor
    · intro ha
      obtain ⟨y, hy, rfl⟩ := List.mem_map.mp ha
      exact List.mem_map_of_mem ((memYV y).mp hy)
    · intro ha
      obtain ⟨y, hy, rfl⟩ := List.mem_map.mp ha
      exact List.mem_map_of_mem ((memYV y).mpr hy)
  have gen : ∀ (xs zs : List (List Int)), (∀ y ∈ xs, ∃ u : W, y = vecW L cap md u) → (∀ y ∈ zs, ∃ u : W, y = vecW L cap md u) → xs.map (TS.code (cap + md)) = zs.map (TS.code (cap + md)) → xs = zs := by
    intro xs
    induction xs with
    | nil =>
      intro zs _ _ e
      cases zs with
      | nil => rfl
      | cons z zs => cases e
    | cons x xs ih =>
      intro zs hx hz e
      cases zs with
      | nil => cases e
      | cons z zs =>
        rw [List.map_cons, List.map_cons] at e
        injection e with e1 e2
        rw [inj x z (hx x (.head _)) (hz z (.head _)) e1, ih zs (fun y hy => hx y (.tail _ hy)) (fun y hy => hz y (.tail _ hy)) e2]
  exact gen ys vs okY okV em
end WK
set_option Elab.async false
set_option linter.all false
set_option maxRecDepth 100000
set_option maxHeartbeats 4000000
namespace DL
open PySem PySem.Spec PyProof.Rows L2
/-- an entry as it is handed in: the key, the key's tuple, the value -/
abbrev Ent := List Key × Addr × V
/-- the entry, and how it lies in memory -/
def Lies (H : Hp) (k : Ent) (x : List Key × Addr × Value) : Prop := k.1 = x.1 ∧ k.2.1 = x.2.1 ∧ RelV k.2.2 x.2.2 ∧ H x.2.1 = some (.tup (x.1.map kV))
section
variable {X : Cx}
theorem laid {pins : List (Addr × Obj)} {σ : L2.St} {H : Hp} {s : Shared} (I : Inv X pins σ H s) : ∀ {ps : List Addr} {ks : List Ent}, Paired (fun p (k : Ent) => SqT X.K H p [.ref k.2.1, k.2.2] ∧ H k.2.1 = some (.tup (k.1.map kV))) ps ks →
    ∃ xs : List (List Key × Addr × Value), Paired (Lies H) ks xs ∧ xs.length = ps.length ∧ ∀ (j : Nat) (x : List Key × Addr × Value), xs[j]? = some x → ∃ b, ps[j]? = some b ∧ IsTup s.heap b #[.ref x.2.1, x.2.2]
  | _, _, .nil => ⟨[], .nil, rfl, fun j x e => by simp at e⟩
  | _, _, .cons (a := p) (b := k) h t => by
    obtain ⟨xs, pr, len, at_⟩ := laid I t
    obtain ⟨its, rv, isT, _⟩ := I.tuple h.1
    obtain ⟨u, y, rfl, ru, ry⟩ := vals2 rv
    cases ru
    refine ⟨(k.1, k.2.1, y) :: xs, .cons ⟨rfl, rfl, ry, h.2⟩ pr, congrArg Nat.succ len, fun j x e => ?_⟩
    cases j with
    | zero =>
      obtain rfl := Option.some.inj e
      exact ⟨p, rfl, isT⟩
    | succ j =>
      obtain ⟨b, e1, e2⟩ := at_ j x e
      exact ⟨b, e1, e2⟩
end
end DL
set_option Elab.async false
set_option linter.all false
set_option maxRecDepth 100000
set_option maxHeartbeats 4000000
namespace WK
open PySem L2 PyProof.Rows K1 DL
section
variable {α β : Type} [DecidableEq α] [DecidableEq β]
def addG (o : List α) (a : α) : List α := if a ∈ o then o else o ++ [a]
theorem addG_in {o : List α} {a : α} (h : a ∈ o) : addG o a = o := if_pos h
theorem addG_out {o : List α} {a : α} (h : a ∉ o) : addG o a = o ++ [a] := if_neg h
end
theorem keys_put (acc : List (List Key × V)) (k : List Key) (v : V) : (putK acc k v).map (·.1) = addG (acc.map (·.1)) k := by
  unfold putK
  by_cases h : k ∈ acc.map (·.1)
  · have e : (acc.any fun kv => decide (kv.1 = k)) = true := by
      obtain ⟨kv, h1, h2⟩ := List.mem_map.mp h
      exact List.any_eq_true.mpr ⟨kv, h1, decide_eq_true h2⟩
    rw [if_pos e, addG_in h, List.map_map]
    refine List.map_congr_left fun kv _ => ?_
    show (if kv.1 = k then (kv.1, v) else kv).1 = kv.1
    split <;> rfl
  · have e : ¬ (acc.any fun kv => decide (kv.1 = k)) = true := fun z => by
      obtain ⟨kv, h1, h2⟩ := List.any_eq_true.mp z
      exact h (List.mem_map.mpr ⟨kv, h1, of_decide_eq_true h2⟩)
    rw [if_neg e, addG_out h, List.map_append] <;> rfl
abbrev Spot := Addr × List Int
def Spots (H : Hp) (zs : List Spot) : Prop := ∀ z ∈ zs, H z.1 = some (oTup z.2)
abbrev refs (zs : List Spot) : List V := zs.map fun z => V.ref z.1
abbrev ik (r : List Int) : List Key := r.map Sum.inl
theorem ik_inj (a b : List Int) (h : ik a = ik b) : a = b := List.map_inj_right (fun _ _ e => Sum.inl.inj e) |>.mp h
theorem kV_ik (r : List Int) : (ik r).map kV = r.map V.int := by
  rw [List.map_map] <;> rfl
theorem Spots.to {H H' : Hp} {zs : List Spot} (h : Spots H zs) (k : KeepsTup H H') : Spots H' zs := fun z hz => k _ _ (h z hz)
/-- tuples of numbers, as data -/
def dI (r : List Int) : PyData := .tuple (r.map PyData.int)
theorem dpI {K : PySem.W.Frag} {H : Hp} : ∀ r : List Int, DpAll K H (r.map V.int) (r.map PyData.int)
  | [] => .nil
  | i :: r => .cons (.int i) (dpI r)
theorem dpSpot {K : PySem.W.Frag} {H : Hp} {a : Addr} {r : List Int} (h : H a = some (oTup r)) : Dp K H (.ref a) (dI r) := .tup (SqT.of h) (dpI r)
theorem dpSpots {K : PySem.W.Frag} {H : Hp} : ∀ {zs : List Spot}, Spots H zs → DpAll K H (refs zs) (zs.map fun z => dI z.2)
  | [], _ => .nil
  | z :: zs, h => .cons (dpSpot (h z (.head _))) (dpSpots fun y hy => h y (.tail _ hy))
theorem layI : ∀ r : List Int, PyData.canLayAll0 (r.map PyData.int) = true
  | [] => by simp [PyData.canLayAll0]
  | i :: r => by simp [PyData.canLayAll0, PyData.canLay0, layI r]
theorem depI : ∀ r : List Int, PyData.depthAll (r.map PyData.int) = 0
  | [] => by simp [PyData.depthAll]
  | i :: r => by simp [PyData.depthAll, PyData.depth, depI r]
theorem dI_lay (r : List Int) : (dI r).canLay0 = true := by simp [dI, PyData.canLay0, layI r]
theorem dI_dep (r : List Int) : (dI r).depth ≤ 1 := by simp [dI, PyData.depth, depI r]
theorem dIs_lay : ∀ zs : List Spot, PyData.canLayAll0 (zs.map fun z => dI z.2) = true
  | [] => by simp [PyData.canLayAll0]
  | z :: zs => by simp [PyData.canLayAll0, dI_lay z.2, dIs_lay zs]
theorem dIs_dep : ∀ zs : List Spot, PyData.depthAll (zs.map fun z => dI z.2) ≤ 1
  | [] => by simp [PyData.depthAll]
  | z :: zs => by
    have h1 := dIs_dep zs
    have h2 := dI_dep z.2
    simp only [List.map_cons, PyData.depthAll]
    omega
theorem dI_shaped (r : List Int) : SeqAt.shaped (dI r) = true := by
  have h := dI_dep r
  show ((dI r).canLay0 && decide ((dI r).depth ≤ 64)) = true
  rw [dI_lay, Bool.true_and]
  exact decide_eq_true (by omega)
theorem dIs_shaped (zs : List Spot) : SeqAt.shaped (.list (zs.map fun z => dI z.2)) = true := by
  have h := dIs_dep zs
  show (PyData.canLay0 (.list (zs.map fun z => dI z.2)) && decide (PyData.depth (.list (zs.map fun z => dI z.2)) ≤ 64)) = true
  have e1 : PyData.canLay0 (.list (zs.map fun z => dI z.2)) = true := by
    simp only [PyData.canLay0]
    exact dIs_lay zs
  rw [e1, Bool.true_and]
  refine decide_eq_true ?_
  simp only [PyData.depth]
  omega
theorem eqvI : ∀ a b : List Int, PyData.eqvAll (a.map PyData.int) (b.map PyData.int) = decide (a = b)
  | [], [] => by simp [PyData.eqvAll]
  | [], b :: bs => by simp [PyData.eqvAll]
  | a :: as, [] => by simp [PyData.eqvAll]
  | a :: as, b :: bs => by
    have h := eqvI as bs
    have e : PyData.eqvAll ((a :: as).map PyData.int) ((b :: bs).map PyData.int) = ((a == b) && PyData.eqvAll (as.map PyData.int) (bs.map PyData.int)) := by simp only [List.map_cons, PyData.eqvAll, PyData.eqv]
    rw [e, h]
    by_cases h1 : a = b
    · subst h1
      simp
    · simp [h1]
theorem dI_eqv (a b : List Int) : PyData.eqv (dI a) (dI b) = decide (a = b) := by
  show PyData.eqv (.tuple _) (.tuple _) = _
  simp only [PyData.eqv]
  exact eqvI a b
end WK
set_option Elab.async false
set_option linter.all false
set_option maxRecDepth 100000
set_option maxHeartbeats 8000000
namespace WK
open PySem L2 PyProof.Rows LCX K1 FV DP LamX
open TX (sg sigs)
open PySem.W (Frag kitOne)
/-- sorted, of tuples of numbers, however wide -/
theorem cr_sortX {X : Cx} : CallR X (.builtin "sorted") (fun vs H Q => ∃ (d : Nat) (B : Int), 1 ≤ d ∧ rSortU X.K d B vs H Q) := fun pins s σ H vs us Q I r ⟨_, _, hd, h⟩ => cr_sortT hd pins s σ H vs us Q I r h
abbrev sRt : Stmt := top 94
abbrev NRt : List Str := ["_law_dice_here", "_law_letters_here", "_law_cap", "_law_modulus", "_law_plain", "_law_other", "_law_made", "_law_box", "_law_told", "_law_firsts", "_law_word", "_law_spots", "_law_seen", "_law_second", "_law_apart", "_law_place", "_law_one"]
/-- all but the dice and the tables of code objects stands -/
def ButN (p : Addr) (H H' : Hp) : Prop := ∀ b o, H b = some o → b ≠ p → (∀ us, o ≠ .tbl us) → H' b = some o
def spRt (T : List (Addr × Str)) : Sp := fun vs H Q _ => ∃ p : Addr, vs = [.ref p] ∧ DiceAt H p ∧ Tabs T H ∧ ∀ H', DiceAt H' p → Tabs T H' → ButN p H H' → Q (.bl true) H'
theorem tabs_but {T : List (Addr × Str)} {H H' : Hp} {p : Addr} (t : Tabs T H) (hD : DiceAt H p) (b : But p H H') : Tabs T H' := fun q hq => by
  obtain ⟨x, y, z, e, _⟩ := hD
  obtain ⟨ps, h1, h2, h3⟩ := t q hq
  refine ⟨ps, b _ _ h1 (fun n => by rw [n, e] at h1; cases h1), h2, fun pos cv hc => ?_⟩
  obtain ⟨c, e1, e2⟩ := h3 pos cv hc
  exact ⟨c, e1, b _ _ e2 (fun n => by rw [n, e] at e2; cases e2)⟩
theorem PlainM.but {H H' : Hp} {m p : Addr} {L : W} {tm : List (List Int)} {es : List Int} (h : PlainM H m L tm es) (off : OffP H m p L) (hD : DiceAt H p) (b : But p H H') : PlainM H' m L tm es ∧ OffP H' m p L := by
  obtain ⟨lt, l, h1, h2, h3⟩ := h.ex
  obtain ⟨n1, n2⟩ := off _ _ h1
  have nm : m ≠ p := fun n => by
    obtain ⟨_, _, _, e, _⟩ := hD
    rw [n, e] at h1
    cases h1
  have g1 := b _ _ h1 nm
  refine ⟨⟨lt, l, g1, h2.but n1 hD b, b _ _ h3 n2⟩, fun a c e => ?_⟩
  rw [g1] at e
  injection e with e
  injection e with e
  obtain ⟨rfl, rfl⟩ := pkv_inj e
  exact ⟨n1, n2⟩
theorem Objs.grow {H H' : Hp} (e : ExtN H H') : ∀ {ts : List Addr} {rs : List (List Int)}, Objs oTup H ts rs → Objs oTup H' ts rs
  | [], [], _ => trivial
  | _ :: _, _ :: _, h => ⟨e _ _ h.1 (fun _ z => nomatch z), Objs.grow e h.2⟩
theorem MacAt.grow {C : Addr} {H H' : Hp} {o : Addr} {L : W} {tb : List (List Int)} {es : List Int} (h : MacAt C H o L tb es) (e : ExtN H H') : MacAt C H' o L tb es := by
  obtain ⟨dx, t, a, ts, h1, h2, h3, h4⟩ := h.ex
  exact ⟨dx, t, a, ts, e _ _ h1 (fun _ z => nomatch z), e _ _ h2 (fun _ z => nomatch z), Objs.grow e h3, e _ _ h4 (fun _ z => nomatch z)⟩
theorem PlainM.grow {H H' : Hp} {m : Addr} {L : W} {tb : List (List Int)} {es : List Int} (h : PlainM H m L tb es) (e : ExtN H H') : PlainM H' m L tb es := by
  obtain ⟨lt, l, h1, ⟨as, h2, h3⟩, h4⟩ := h.ex
  exact ⟨lt, l, e _ _ h1 (fun _ z => nomatch z), ⟨as, e _ _ h2 (fun _ z => nomatch z), Objs.grow e h3⟩, e _ _ h4 (fun _ z => nomatch z)⟩
theorem PlainM.same {H H' : Hp} {m : Addr} {L : W} {tb : List (List Int)} {es : List Int} (h : PlainM H m L tb es) (s : Same H H') : PlainM H' m L tb es := h.grow fun b o z _ => s b o z
theorem led_bd {L : W} {T : List (List Int)} {n : Int} (ok : TabOk T L.length n) (h : 1 ≤ n) : ∀ u : W, (∀ c ∈ u, c ∈ L) → 0 ≤ ledL L T u 0 ∧ ledL L T u 0 < n := by
  have go : ∀ (u : W) (r : Int), (∀ c ∈ u, c ∈ L) → 0 ≤ r ∧ r < n → 0 ≤ ledL L T u r ∧ ledL L T u r < n := by
    intro u
    induction u with
    | nil => exact fun _ _ h => h
    | cons c u ih => exact fun r hu hr => ih _ (fun d hd => hu d (.tail _ hd)) (stepL_in ok hr (hu c (.head _)))
  exact fun u hu => go u 0 hu ⟨Int.le_refl _, by omega⟩
theorem bfl_noF {a b : V} : (bfl a b).lookup ("first_word" : Str) = none := by
  have e1 : (("first_word" : Str) == "_letters") = false := by decide +kernel
  have e2 : (("first_word" : Str) == "_table") = false := by decide +kernel
  simp only [bfl, List.lookup, e1, e2]
/-- the class Box, as right asks it -/
structure TB9 (P : Program) (w : World) (K : Frag) (mg : Str → Option Value) (base : Heap) (C : Addr) (mc : Value) (T : List (Addr × Str)) (gC gF pK gK : Addr) (dF : FuncData) : Prop where
  gB : mg "Box" = some (.ref C)
  cl : Cls K C
  rd : ClX.CRead K C mc
  ck : ClX.CMet K C mc "clerk" pK gK
  kR : FnR P w K mg base CX0 7 gK (fun vs H Q E => spClerk T C (vs ++ []) H Q E)
  cC : StX.CallO K C gC
  cR : FnR P w K mg base CX0 4 gC (fun vs H Q E => spBCall C (vs ++ []) H Q E)
  fM : Meth K C "first_word" gF
  fR : FnOk P w K mg base CX0 4 gF dF ["self", "place"] (RM.spFirst C)
  fb : Binds K dF ["self", "place"] []
theorem scRt : FnScope NRt ["_law_dice_here"] (defScope sRt) := ⟨rfl, rfl, rfl, by decide +kernel, rfl, by decide +kernel, by decide +kernel⟩
/-- what right has made, before it asks -/
structure Sc9 (C CM : Addr) (H : Hp) (L : W) (cap md : Int) (N : Nat) (t1 t2 : List (List Int)) (e1 e2 : List Int) (m1 m2 : Int) (a1 o q1 q2 told : Addr) (vs : List (List Int)) : Prop where
  hL : Let L
  S1 : Sch L cap md m1 t1
  S2 : Sch L cap md m2 t2
  m13 : m1 ≤ 3
  m23 : m2 ≤ 3
  f1 : e1.length ≤ 1000
  f2 : e2.length ≤ 1000
  dn : Done (cntF L cap md) L (zeros L) N
  N36 : N ≤ 36
  ok1 : MacOk L t1 e1 m1
  ok2 : MacOk L t2 e2 m2
  mac : MacAt CM H a1 L t1 e1
  bx : BoxAt C H o L (cntT L cap md N)
  pl1 : PlainM H q1 L t1 e1
  pl2 : PlainM H q2 L t2 e2
  rows : RowsAt H told vs
  td : Told L cap md t1 e1 vs
  few : vs.length ≤ 2304
section
variable {C CM : Addr} {H H' : Hp} {L : W} {cap md : Int} {N : Nat} {t1 t2 : List (List Int)} {e1 e2 : List Int} {m1 m2 : Int} {a1 o q1 q2 told : Addr} {vs : List (List Int)}
theorem Sc9.same (S : Sc9 C CM H L cap md N t1 t2 e1 e2 m1 m2 a1 o q1 q2 told vs) (s : Same H H') : Sc9 C CM H' L cap md N t1 t2 e1 e2 m1 m2 a1 o q1 q2 told vs :=
  { S with mac := S.mac.same s, bx := S.bx.same s, pl1 := S.pl1.same s, pl2 := S.pl2.same s, rows := S.rows.keep (Same.tup' s) }
end
/-- a word for each place of the first machine's words -/
structure Firsts (L : W) (cap md : Int) (t1 : List (List Int)) (e1 : List Int) (ws : List W) : Prop where
  len : ws.length ≤ 36
  ok : ∀ u ∈ ws, (∀ c ∈ u, c ∈ L) ∧ u.length ≤ 36
  one : ∀ u ∈ ws, ∃ v : W, (∀ c ∈ v, c ∈ L) ∧ stW L t1 v ∈ e1 ∧ vecW L cap md u = vecW L cap md v
  all : ∀ u : W, (∀ c ∈ u, c ∈ L) → stW L t1 u ∈ e1 → ∃ v ∈ ws, vecW L cap md u = vecW L cap md v
  dist : (ws.map (vecW L cap md)).Nodup
end WK
set_option Elab.async false
set_option linter.all false
set_option maxRecDepth 100000
set_option maxHeartbeats 8000000
namespace WK
open PySem L2 PyProof.Rows LCX K1 FV DP LamX
open TX (sg sigs)
open PySem.W (Frag kitOne)
/-- places by counts: all that was met -/
structure Spot9 (H : Hp) (L : W) (cap md : Int) (N : Nat) (sp : Addr) (kvs : List (List Key × V)) (ks : List (List Int)) : Prop where
  at_ : H sp = some (.dT kvs)
  keys : kvs.map (·.1) = ks.map ik
  nd : ks.Nodup
  val : ∀ v ∈ ks, ∃ u : W, (∀ c ∈ u, c ∈ L) ∧ v = vecW L cap md u ∧ valV kvs (ik v) = some (.int (ledL L (cntT L cap md N) u 0))
section
variable {P : Program} {w : World} {K : PySem.W.Frag} {mg : Str → Option Value} {base : Heap} {C CM gC gF pK gK : Addr} {mc : Value} {T : List (Addr × Str)} {dF : FuncData}
variable {fR fLe fM fMd fSs fPl fLS fAW fSi fH fTA fIC : Addr} {dR dLe dM dMd dSs dPl dLS dAW dSi dH dTA dIC : FuncData}
/-- no word of the one is seen as a word of the other -/
def Apart9 (L : W) (cap md : Int) (t1 t2 : List (List Int)) (e1 e2 : List Int) : Prop := ∀ u v : W, (∀ c ∈ u, c ∈ L) → (∀ c ∈ v, c ∈ L) → stW L t1 u ∈ e1 → stW L t2 v ∈ e2 → vecW L cap md u ≠ vecW L cap md v
theorem apart_seen {L : W} {cap md m1 : Int} {t1 t2 : List (List Int)} {e1 e2 : List Int} (S1 : Sch L cap md m1 t1) : (∀ x : Int, SeenIs L cap md t1 e1 x → ¬ SeenIs L cap md t2 e2 x) ↔ Apart9 L cap md t1 t2 e1 e2 := by
  constructor
  · intro h u v hu hv h1 h2 e
    exact h (TS.code (cap + md) (vecW L cap md u)) ⟨u, hu, h1, rfl⟩ ⟨v, hv, h2, by rw [e]⟩
  · rintro h x ⟨u, hu, h1, rfl⟩ ⟨v, hv, h2, e⟩
    exact h u v hu hv h1 h2 (code_eq (S1.bd u) (vec_len L cap md u) (S1.bd v) (vec_len L cap md v) S1.k1 S1.k2 e)
theorem apart_places {L : W} {cap md m1 : Int} {N B1 B2 : Nat} {t1 t2 : List (List Int)} {e1 e2 : List Int} (S1 : Sch L cap md m1 t1) (dn : Done (cntF L cap md) L (zeros L) N) (d1 : Done (pairF t1 (cntT L cap md N)) (List.range L.length) [0, 0] B1) (d2 : Done (pairF t2 (cntT L cap md N)) (List.range L.length) [0, 0] B2) :
    (∀ b : Int, placesOf t1 (cntT L cap md N) e1 L.length B1 b → ¬ placesOf t2 (cntT L cap md N) e2 L.length B2 b) ↔ Apart9 L cap md t1 t2 e1 e2 := by
  constructor
  · intro h u v hu hv h1 h2 e
    refine h (ledL L (cntT L cap md N) u 0) ((places_letters S1.nd d1 _).mpr ⟨u, hu, h1, rfl⟩) ((places_letters S1.nd d2 _).mpr ⟨v, hv, h2, ?_⟩)
    exact ((place_same dn S1.c0 S1.m0 hu hv).mpr e).symm
  · intro h b p1 p2
    obtain ⟨u, hu, h1, e1'⟩ := (places_letters S1.nd d1 _).mp p1
    obtain ⟨v, hv, h2, e2'⟩ := (places_letters S1.nd d2 _).mp p2
    exact h u v hu hv h1 h2 ((place_same dn S1.c0 S1.m0 hu hv).mp (e1'.trans e2'.symm))
theorem eqv_none (ds : List PyData) : PyData.eqv (.list ds) (.list []) = ds.isEmpty := by
  cases ds <;> rfl
theorem ne_bl {x y : Bool} (h : x = y) : (!decide (V.bl x = V.bl y)) = false := by
  rw [h, decide_eq_true rfl] <;> rfl
theorem ne_int {x y : Int} (h : x = y) : (!decide (V.int x = V.int y)) = false := by
  rw [h, decide_eq_true rfl] <;> rfl
theorem tail9 {f : Addr} {cdv : Value} {A : Around} {outer : List Env} {s : Shared} {H : Hp} {Q : VK} {E : XK} (hr : Room 8 (A.deeper (envOfC "_law_right" (defScope sRt) s.heap.objs.size f cdv))) (TT : TN mg) (B : TB9 P w K mg base C mc T gC gF pK gK dF)
    (AMd : Fn K mg "_law_made_machine" sMade ["_law_plain"] fMd dMd) (GMd : FnOk P w K mg base CX0 7 fMd dMd ["_law_plain"] (spMade CM))
    (ASs : Fn K mg "sights" sSights ["machine", "cap", "modulus"] fSs dSs) (GSs : FnOk P w K mg base CX0 4 fSs dSs ["machine", "cap", "modulus"] (spSights CM))
    (ATA : Fn K mg "tells_apart" sApart ["one", "other", "box"] fTA dTA) (GTA : FnOk P w K mg base CX0 5 fTA dTA ["one", "other", "box"] (spApart CM C))
    (AIC : Fn K mg "is_clerk_for" sIsClerk ["one", "other", "sort", "value"] fIC dIC) (GIC : FnOk P w K mg base CX0 5 fIC dIC ["one", "other", "sort", "value"] (spIsClerk K CM)) :
    ∃ t, PSs (cxOf CX0 P w K mg base NRt "_law_right" (defScope sRt) f cdv A outer s H E).nox ((defBody sRt).drop 9) t ∧ ∀ (p : Addr) (L : W) (cap md : Int) (N : Nat) (t1 t2 : List (List Int)) (e1 e2 : List Int) (m1 m2 : Int) (a1 o q1 q2 told : Addr) (vs : List (List Int)) (sp D : Addr) (x10 x12 : Option V) (kvs : List (List Key × V)) (ks : List (List Int)) (H1 : Hp), Sc9 C CM H1 L cap md N t1 t2 e1 e2 m1 m2 a1 o q1 q2 told vs → Spot9 H1 L cap md N sp kvs ks → (∀ H', (∀ b o, b ≠ sp → H1 b = some o → H' b = some o) → Q (.bl true) H') →
      t { nx := fun _ H' => Q .non H', rt := Q } [some (.ref p), some (.str (tx L)), some (.int cap), some (.int md), some (.ref q1), some (.ref q2), some (.ref a1), some (.ref o), some (.ref told), some (.ref D), x10, some (.ref sp), x12, none, none, none, none] H1 := by
  have hub := hu_of hr
  have hu65 : ∀ {A' : Around}, Room 0 A' → A'.units + 65 < cLine := fun z => by have := z.un; omega
  have hr1 : Room 1 _ := hr.mono (by decide)
  have hr2 : Room 2 _ := hr.mono (by decide)
  have hr3 : Room 3 _ := hr.mono (by decide)
  have hr4 : Room 4 _ := hr.mono (by decide)
  have hr5 : Room 5 _ := hr.mono (by decide)
  have hr7 : Room 7 _ := hr.mono (by decide)
  have hr0 : Room 0 _ := hr.mono (by decide)
  have z9 : PS (cxOf CX0 P w K mg base NRt "_law_right" (defScope sRt) f cdv A outer s H E).nox (nthS sRt 9) _ := ps_if (pt_cmpR op_ne (pe_callB call_len_dT (by rfl) TT.len PySem.boot_len (pa_cons (pv 11) pa_nil)) (pe_lenSetI rfl rfl TT.len rfl TT.set (pe_lock (pe_lc (own := [("_law_seen", 12)]) (g := gName 12) (tt := tYes) (te := tDGet (tVar 11) (tVar 12)) rfl scRt.nd (pi_keys (pv 11))
    (blkOk_by (own := [("_law_seen", 12)]) (N := NRt) (sc := defScope sRt) (by decide +kernel)) (fun _ _ _ _ _ => pg_name (i := 12) scRt.nd rfl (Or.inl rfl)) (fun _ _ _ _ _ => pts_nil) (fun _ _ _ _ _ => pe_dget hub (pv 11) (pv 12) (fun _ _ => rfl))))) (nomark _)) (pss_one ps_never) pss_nil
  have z10 : PS (cxOf CX0 P w K mg base NRt "_law_right" (defScope sRt) f cdv A outer s H E).nox (nthS sRt 10) _ := ps_set (i := 13) scRt.nd rfl (Or.inr rfl) (pe_call (E := E0) GMd hr7 rfl AMd.g AMd.F.kp AMd.b .nil pass0 (pa_cons (pv 5) pa_nil))
  have z11 : PS (cxOf CX0 P w K mg base NRt "_law_right" (defScope sRt) f cdv A outer s H E).nox (nthS sRt 11) _ := ps_set (i := 14) scRt.nd rfl (Or.inl rfl) (pe_cmpR (op_eqD hr.units) (pe_lc (own := [("_law_one", 16)]) (g := gName 16) (tt := tTest (tOp (OWN.rInTu K false) (tVar 16) (tCall (spSights CM) [] E0 (tCons (tVar 13) (tCons (tVar 2) (tCons (tVar 3) tNil)))))) (te := tVar 16) rfl scRt.nd (pi_tup (pv 8))
    (blkOk_by (own := [("_law_one", 16)]) (N := NRt) (sc := defScope sRt) (by decide +kernel)) (fun _ _ _ _ _ => pg_name (i := 16) scRt.nd rfl (Or.inl rfl)) (fun _ _ _ _ _ => pts_one (pt_cmpR (OWN.op_inTu (hu65 hr0)) (pv 16) (pe_call (E := E0) GSs hr4 rfl ASs.g ASs.F.kp ASs.b .nil pass0 (pa_cons (pv 13) (pa_cons (pv 2) (pa_cons (pv 3) pa_nil)))) (by rfl))) (fun _ _ _ _ _ => pv 16)) (pe_lst pa_nil) (nomark _))
  have z12 : PS (cxOf CX0 P w K mg base NRt "_law_right" (defScope sRt) f cdv A outer s H E).nox (nthS sRt 12) _ := ps_if (PW.pt (pw_or (pt_cmpR op_ne (pe_call (E := E0) GTA hr5 rfl ATA.g ATA.F.kp ATA.b .nil pass0 (pa_cons (pv 6) (pa_cons (pv 13) (pa_cons (pv 7) pa_nil)))) (pv 14) (nomark _))
    (pw_or1 (pt_cmpR op_ne (pe_call (E := E0) GIC hr5 rfl AIC.g AIC.F.kp AIC.b .nil pass0 (pa_cons (pv 6) (pa_cons (pv 13) (pa_cons pe_str (pa_cons (pe_tup (pa_cons (pv 2) (pa_cons (pv 3) pa_nil))) pa_nil))))) (pv 14) (nomark _))))) (pss_one ps_never) pss_nil
  have z13 : PS (cxOf CX0 P w K mg base NRt "_law_right" (defScope sRt) f cdv A outer s H E).nox (nthS sRt 13) _ := ps_if (pt_cmpR op_ne (pe_call (E := E0) GIC hr5 rfl AIC.g AIC.F.kp AIC.b .nil pass0 (pa_cons (pv 6) (pa_cons (pv 13) (pa_cons pe_str (pa_cons (pe_tup (pa_cons (pv 2) (pa_cons (pv 3) pa_nil))) pa_nil))))) (pe_and (pv 14) (pe_one (pe_cmpR op_eq (pv 3) pe_int (nomark _)))) (nomark _)) (pss_one ps_never) pss_nil
  have z14 : PS (cxOf CX0 P w K mg base NRt "_law_right" (defScope sRt) f cdv A outer s H E).nox (nthS sRt 14) _ := ps_ret (pe_cmpR op_eq (pe_call (E := E0) GIC hr5 rfl AIC.g AIC.F.kp AIC.b .nil pass0 (pa_cons (pv 6) (pa_cons (pv 13) (pa_cons pe_str (pa_cons (pe_tup (pa_cons (pv 2) (pa_cons (pv 3) pa_nil))) pa_nil))))) (pe_and (pv 14) (pe_one (pe_cmpR op_eq (pv 2) pe_int (nomark _)))) (nomark _))
  refine ⟨_, pss_cons z9 (pss_cons z10 (pss_cons z11 (pss_cons z12 (pss_cons z13 (pss_one z14))))), ?_⟩
  clear z9 z10 z11 z12 z13 z14
  intro p L cap md N t1 t2 e1 e2 m1 m2 a1 o q1 q2 told vs sp D x10 x12 kvs ks H1 S Z q
  have hL := S.hL
  have S1 := S.S1
  have S2 := S.S2
  have dn := S.dn
  have np := dn.pos
  have okT : TabOk (cntT L cap md N) L.length (N : Int) := dn.tab
  have N36 := S.N36
  have c0 := S1.c0
  have m0 := S1.m0
  have lenK : kvs.length = ks.length := by
    have := congrArg List.length Z.keys
    rw [List.length_map, List.length_map] at this
    exact this
  have inK : ∀ v ∈ ks, v ∈ allV (cap + md) L.length := fun v hv => by
    obtain ⟨u, _, rfl, _⟩ := Z.val v hv
    exact (mem_allV _ _).mpr ⟨vec_len L cap md u, S1.bd u⟩
  have fewK : ks.length ≤ 36 := by
    have inD : ∀ v ∈ ks, v ∈ (exAll (cntF L cap md) L (zeros L) N).1 := fun v hv => by
      obtain ⟨u, hu, rfl, _⟩ := Z.val v hv
      exact (dn.reach _).mpr ⟨u, hu, vec_fold c0 m0 u⟩
    have := Z.nd.length_le_of_subset inD
    rw [dn.len] at this
    omega
  obtain ⟨pl, hpl⟩ : ∃ pl : List Int → Int, ∀ v ∈ ks, valV kvs (ik v) = some (.int (pl v)) ∧ ∃ u : W, (∀ c ∈ u, c ∈ L) ∧ v = vecW L cap md u ∧ pl v = ledL L (cntT L cap md N) u 0 := by
    have h : ∀ v : List Int, ∃ i : Int, v ∈ ks → valV kvs (ik v) = some (.int i) ∧ ∃ u : W, (∀ c ∈ u, c ∈ L) ∧ v = vecW L cap md u ∧ i = ledL L (cntT L cap md N) u 0 := fun v => by
      by_cases hv : v ∈ ks
      · obtain ⟨u, hu, e, h⟩ := Z.val v hv
        exact ⟨_, fun _ => ⟨h, u, hu, e, rfl⟩⟩
      · exact ⟨0, fun z => absurd z hv⟩
    obtain ⟨f, hf⟩ := Classical.axiomOfChoice h
    exact ⟨f, hf⟩
  -- as many places as counts
  refine ⟨_, rfl, sp, kvs, rfl, Z.at_, sp, .dT kvs, Z.at_, trivial, fun od => ⟨_, rfl, sp, od, rfl, .inr ⟨kvs, upd_same, fun D2 hD2 => ?_⟩⟩⟩
  have frz : (upd H1 sp (.frz od (.dT kvs))) sp = some (.frz od (.dT kvs)) := upd_same
  have keepG : ∀ b ob, b ≠ sp → H1 b = some ob → (upd H1 sp (.frz od (.dT kvs))) b = some ob := fun b ob n e => by rw [upd_ne n]; exact e
  generalize upd H1 sp (.frz od (.dT kvs)) = G at frz keepG hD2 ⊢
  refine lc_it walk_keysT (fun i H3 => Same G H3 ∧ H3 D2 = some (.lst (((ks.take i).map pl).map V.int))) ⟨same_upd hD2, upd_same⟩ (fun i H3 _ ⟨s3, _⟩ => s3 _ _ frz) ?_ ?_
  · rintro i x H3 H4 hi ⟨s3, hd3⟩ ⟨rfl, k, v, tq, hk, rfl, htq⟩
    have hi2 : i < ks.length := by omega
    obtain rfl : k = ik ks[i] := by
      have := congrArg (fun l : List (List Key) => l[i]?) Z.keys
      simp only [List.getElem?_map, hk, List.getElem?_eq_getElem hi2] at this
      exact Option.some.inj this
    obtain ⟨h1, _⟩ := hpl _ (List.getElem_mem hi2)
    refine ⟨rfl, _, rfl, _, rfl, sp, _, rfl, .inr ⟨kvs, ik ks[i], tq, .inr ⟨od, s3 _ _ frz⟩, rfl, htq, h1.symm⟩, _, hd3, ?_, same_at s3 hD2, ?_⟩
    · rw [List.length_map, List.length_map, List.length_take, sizeLine_eq]
      omega
    · rw [upd_same, List.take_add_one, List.getElem?_eq_getElem hi2, List.map_append, List.map_append] <;> rfl
  rintro H3 ⟨s3, hd3⟩
  rw [lenK, List.take_length] at hd3
  have spD : D2 ≠ sp := fun z => by
    rw [z, frz] at hD2
    cases hD2
  refine ⟨s3 _ _ frz, D2, ks.map pl, rfl, SqL.of (by rw [upd_ne spD]; exact hd3), by rw [List.length_map]; omega, ?_, ?_⟩
  · refine List.pairwise_map.mpr (Z.nd.imp_of_mem fun {a b} ha hb ab e => ?_)
    obtain ⟨_, u, hu, eu, pu⟩ := hpl a ha
    obtain ⟨_, v, hv, ev, pv'⟩ := hpl b hb
    rw [pu, pv'] at e
    exact ab (by rw [eu, ev]; exact (place_same dn c0 m0 hu hv).mp e)
  refine ⟨rfl, _, rfl, ?_⟩
  rw [ne_int (by rw [List.length_map, lenK])]
  have s13 : Same H1 (upd H3 sp (.dT kvs)) := fun b ob e => by
    by_cases n : b = sp
    · subst n
      rw [upd_same, ← Z.at_]
      exact e
    · rw [upd_ne n]
      exact s3 _ _ (keepG b ob n e)
  refine iteF ?_
  generalize upd H3 sp (.dT kvs) = H4 at s13 ⊢
  have S4 := S.same s13
  refine ⟨_, rfl, q2, L, t2, e2, m2, rfl, S4.pl2, S.ok2, by have := S.m23; omega, hL, fun a2 H5 na2 s5 mac2 => ?_⟩
  have s15 := s13.trans s5
  have S5 := S4.same s5
  obtain ⟨ts, htold, obj⟩ := S5.rows
  have lts : ts.length = vs.length := obj.len
  -- what both are told
  refine ⟨_, rfl, told, rfl, ⟨_, SqT.of htold⟩, fun D5 hD5 => ?_⟩
  refine lc_it walk_tup (fun i H6 => Same H5 H6 ∧ ∃ zs : List Spot, H6 D5 = some (.lst (refs zs)) ∧ Spots H6 zs ∧ (zs = [] ↔ ∀ v ∈ vs.take i, ¬ ∃ u : W, (∀ c ∈ u, c ∈ L) ∧ stW L t2 u ∈ e2 ∧ v = vecW L cap md u) ∧ zs.length ≤ i)
    ⟨same_upd hD5, [], upd_same, fun z hz => absurd (hz : z ∈ ([] : List Spot)) List.not_mem_nil, ⟨fun _ v hv => absurd hv List.not_mem_nil, fun _ => rfl⟩, Nat.le_refl _⟩ (fun i H6 _ ⟨s6, _⟩ => SqT.of (s6 _ _ htold)) ?_ ?_
  · rintro i x H6 H7x hi ⟨s6, zs, hd6, sp6, iff6, lz6⟩ ⟨rfl, hx⟩
    rw [List.length_map] at hi
    obtain rfl : x = .ref ts[i] := by
      rw [List.getElem?_map, List.getElem?_eq_getElem hi] at hx
      exact (Option.some.inj hx).symm
    have hiv : i < vs.length := by omega
    obtain ⟨ra, er1, er2⟩ := obj.get hiv
    obtain rfl : ts[i] = ra := by
      rw [List.getElem?_eq_getElem hi] at er1
      exact Option.some.inj er1
    have er2 : H5 ts[i] = some (oTup vs[i]) := by
      rw [er2, List.getD_eq_getElem?_getD, List.getElem?_eq_getElem hiv] <;> rfl
    have s56 := s15.trans s6
    refine ⟨rfl, _, rfl, _, rfl, _, rfl, _, rfl, a2, L, t2, e2, m2, cap, md, rfl, hL, mac2.same s6, S2, S.f2, fun tl vs2 H7 ntl s7 rows7 td7 le7 => ?_⟩
    obtain ⟨ts7, htl7, obj7⟩ := rows7
    have er7 := s7 _ _ (s6 _ _ er2)
    refine ⟨.tuple (id_ vs[i]), td_ vs2, .tup (SqT.of er7) (dp_int _), .tup (SqT.of htl7) (dp_tab obj7), lay_ints _, ?_, lay_td _, ?_⟩
    · have := dep_ints vs[i]
      have h3 : PyData.depth (.tuple (id_ vs[i])) = 1 + PyData.depthAll (id_ vs[i]) := by simp only [PyData.depth]; omega
      omega
    refine ⟨_, rfl, ?_⟩
    rw [if_neg (by decide), any_td]
    have tk : vs.take (i + 1) = vs.take i ++ [vs[i]] := by rw [List.take_add_one, List.getElem?_eq_getElem hiv] <;> rfl
    refine ite2 (fun h => ?_) (fun h => ?_)
    · have hin := (td7.all _).mp (of_decide_eq_true h)
      refine ⟨_, rfl, _, s7 _ _ hd6, by rw [List.length_map, sizeLine_eq]; have := S.few; omega, same_at (s6.trans s7) hD5, zs ++ [(ts[i], vs[i])], ?_, ?_, ?_, by rw [List.length_append]; show _ + 1 ≤ _; omega⟩
      · rw [upd_same]
        show _ = some (HO.lst (refs (zs ++ [_])))
        unfold refs
        rw [List.map_append] <;> rfl
      · have kt := tup_upd (o := .lst (refs zs ++ [.ref ts[i]])) (s7 _ _ hd6) (fun _ z => nomatch z)
        intro z hz
        refine kt _ _ ?_
        rcases List.mem_append.mp hz with y | y
        · exact s7 _ _ (sp6 z y)
        · rw [List.mem_singleton.mp y]
          exact er7
      · refine ⟨fun z => absurd z (by simp), fun z => absurd hin (z vs[i] ?_)⟩
        rw [tk]
        exact List.mem_append_right _ (List.mem_singleton.mpr rfl)
    · refine ⟨s6.trans s7, zs, s7 _ _ hd6, fun z hz => s7 _ _ (sp6 z hz), ?_, by omega⟩
      rw [iff6, tk]
      refine ⟨fun a v hv => ?_, fun a v hv => a v (List.mem_append_left _ hv)⟩
      rcases List.mem_append.mp hv with y | y
      · exact a v y
      · rw [List.mem_singleton.mp y]
        exact fun z => h (decide_eq_true ((td7.all _).mpr z))
  rintro H6 ⟨s6, zs, hd6, sp6, iff6, lz6⟩
  rw [List.length_map, lts, List.take_length] at iff6
  refine ⟨by decide, fun em hem => ?_⟩
  have s7 : Same H6 (upd H6 em (.lst [])) := same_upd hem
  have hem7 : (upd H6 em (.lst [])) em = some (.lst []) := upd_same
  have hd7 := s7 _ _ hd6
  have sp7 : Spots (upd H6 em (.lst [])) zs := fun z hz => s7 _ _ (sp6 z hz)
  generalize upd H6 em (.lst []) = H7 at s7 hem7 hd7 sp7 ⊢
  refine ⟨.list (zs.map fun z => dI z.2), .list [], .lst (SqL.of hd7) (dpSpots sp7), .lst (SqL.of hem7) .nil, dIs_shaped zs, by decide +kernel, ?_⟩
  rw [eqv_none]
  have s17 := (s15.trans s6).trans s7
  have S7 := S.same s17
  have mac27 := mac2.same (s6.trans s7)
  obtain ⟨ap, eap, hap⟩ : ∃ ap : Bool, (zs.map fun z => dI z.2).isEmpty = ap ∧ (ap = true ↔ Apart9 L cap md t1 t2 e1 e2) := by
    refine ⟨_, rfl, ?_⟩
    rw [List.isEmpty_iff, List.map_eq_nil_iff, iff6]
    constructor
    · intro h u v hu hv h1 h2 e
      exact h _ ((S.td.all _).mpr ⟨u, hu, h1, rfl⟩) ⟨v, hv, h2, e⟩
    · rintro h v hv ⟨y, hy, h2, rfl⟩
      obtain ⟨u, hu, h1, e⟩ := (S.td.all _).mp hv
      exact h u y hu hy h1 h2 e.symm
  rw [eap]
  dsimp only [gName]
  have n1 := S1.n0
  have n2 := S2.n0
  have l1 := S.m13
  have l2 := S.m23
  obtain ⟨B1, d1, le1⟩ := done_pair S.ok1.tab okT n1 (by omega)
  obtain ⟨B2, d2, le2⟩ := done_pair S.ok2.tab okT n2 (by omega)
  have B1k : B1 ≤ 400 := by
    have h : m1.toNat * (N : Int).toNat ≤ 3 * 36 := Nat.mul_le_mul (by omega) (by omega)
    omega
  have B2k : B2 ≤ 400 := by
    have h : m2.toNat * (N : Int).toNat ≤ 3 * 36 := Nat.mul_le_mul (by omega) (by omega)
    omega
  have places := apart_places (e1 := e1) (e2 := e2) S1 dn d1 d2
  have seen := apart_seen (t2 := t2) (e1 := e1) (e2 := e2) S1
  -- the box tells them apart just then
  refine ⟨_, rfl, _, rfl, _, rfl, a1, a2, o, L, t1, t2, cntT L cap md N, e1, e2, m1, m2, N, B1, B2, rfl, hL, S7.bx, okT, by omega, by omega, ⟨S7.mac, S.ok1.tab, n1, by omega, S.f1, d1, B1k⟩, ⟨mac27, S.ok2.tab, n2, by omega, S.f2, d2, B2k⟩, fun x H8 hx kp => ?_⟩
  have ex : x = ap := Bool.eq_iff_iff.mpr ((hx.trans places).trans hap.symm)
  refine ⟨_, rfl, rfl, _, rfl, ?_⟩
  rw [ne_bl ex]
  have s18 : Same H1 H8 := fun b ob e => kp b ob (s17 b ob e)
  have mac28 : MacAt CM H8 a2 L t2 e2 := mac27.same kp
  have S8 := S.same s18
  refine iteF ?_
  refine ⟨_, rfl, _, rfl, _, rfl, _, rfl, (by show 2 ≤ sizeLine; decide), fun tv htv => ?_⟩
  have clerk : ∀ (H9 : Hp), Same H8 H9 → ∀ (x : Str) (b : Bool) (z : Bool), (b = true ↔ ¬ ((x = "caps" ∧ md ≠ 1) ∨ (x = "sums" ∧ cap ≠ 0)) ∧ ∀ x : Int, SeenIs L cap md t1 e1 x → ¬ SeenIs L cap md t2 e2 x) → (z = true ↔ ¬ ((x = "caps" ∧ md ≠ 1) ∨ (x = "sums" ∧ cap ≠ 0))) → b = (z && ap) := fun H9 s9 x b z hb hz => by
    rw [Bool.eq_iff_iff, hb, seen, Bool.and_eq_true, hz, hap]
  have s9 := same_upd (o := .tup [.int cap, .int md]) htv
  have at9 : (upd H8 tv (.tup [.int cap, .int md])) tv = some (.tup [.int cap, .int md]) := upd_same
  generalize upd H8 tv (.tup [.int cap, .int md]) = H9 at s9 at9 ⊢
  have S9 := S8.same s9
  refine ⟨a1, a2, tv, "clerks", L, t1, t2, e1, e2, m1, m2, cap, md, rfl, .inr (.inr rfl), at9, hL, S9.mac, mac28.same s9, S1, S2, S.f1, S.f2, fun b10 H10 s10 hb10 => ?_⟩
  have e10 : b10 = ap := by
    have := clerk H9 s9 "clerks" b10 true hb10 (by
      refine ⟨fun _ z => ?_, fun _ => rfl⟩
      rcases z with ⟨z, _⟩ | ⟨z, _⟩
      · exact absurd z (by decide +kernel)
      · exact absurd z (by decide +kernel))
    rw [this, Bool.true_and]
  refine ⟨_, rfl, rfl, _, rfl, ?_⟩
  rw [ne_bl e10]
  refine iteF ?_
  have s810 := s9.trans s10
  -- caps
  refine ⟨_, rfl, _, rfl, _, rfl, _, rfl, (by show 2 ≤ sizeLine; decide), fun tw htw => ?_⟩
  have s11 := s810.trans (same_upd (o := .tup [.int cap, .int md]) htw)
  have at11 : (upd H10 tw (.tup [.int cap, .int md])) tw = some (.tup [.int cap, .int md]) := upd_same
  generalize upd H10 tw (.tup [.int cap, .int md]) = H11 at s11 at11 ⊢
  have S11 := S8.same s11
  refine ⟨a1, a2, tw, "caps", L, t1, t2, e1, e2, m1, m2, cap, md, rfl, .inl rfl, at11, hL, S11.mac, mac28.same s11, S1, S2, S.f1, S.f2, fun b12 H12 s12 hb12 => ?_⟩
  have e12 : b12 = (ap && decide (md = 1)) := by
    have := clerk H11 s11 "caps" b12 (decide (md = 1)) hb12 (by
      rw [decide_eq_true_eq]
      refine ⟨fun h z => ?_, fun h => Classical.byContradiction fun n => h (.inl ⟨rfl, n⟩)⟩
      rcases z with ⟨_, z⟩ | ⟨z, _⟩
      · exact z h
      · exact absurd z (by decide +kernel))
    rw [this, Bool.and_comm]
  have s812 := s11.trans s12
  have sums : ∀ (H13 : Hp), Same H8 H13 → ∀ b14 : Bool, (b14 = true ↔ ¬ ((("sums" : Str) = "caps" ∧ md ≠ 1) ∨ (("sums" : Str) = "sums" ∧ cap ≠ 0)) ∧ ∀ x : Int, SeenIs L cap md t1 e1 x → ¬ SeenIs L cap md t2 e2 x) → b14 = (ap && decide (cap = 0)) := fun H13 s13 b14 hb14 => by
    have := clerk H13 s13 "sums" b14 (decide (cap = 0)) hb14 (by
      rw [decide_eq_true_eq]
      refine ⟨fun h z => ?_, fun h => Classical.byContradiction fun n => h (.inr ⟨rfl, n⟩)⟩
      rcases z with ⟨z, _⟩ | ⟨_, z⟩
      · exact absurd z (by decide +kernel)
      · exact z h)
    rw [this, Bool.and_comm]
  clear clerk hap eap e10
  cases ap with
  | false =>
    refine ⟨_, rfl, false, rfl, rfl, _, rfl, ?_⟩
    rw [ne_bl (show b12 = false from e12)]
    refine iteF ?_
    refine ⟨_, rfl, _, rfl, _, rfl, _, rfl, (by show 2 ≤ sizeLine; decide), fun ty hty => ?_⟩
    have s13' := s812.trans (same_upd (o := .tup [.int cap, .int md]) hty)
    have at13 : (upd H12 ty (.tup [.int cap, .int md])) ty = some (.tup [.int cap, .int md]) := upd_same
    generalize upd H12 ty (.tup [.int cap, .int md]) = H13 at s13' at13 ⊢
    have S13 := S8.same s13'
    refine ⟨a1, a2, ty, "sums", L, t1, t2, e1, e2, m1, m2, cap, md, rfl, .inr (.inl rfl), at13, hL, S13.mac, mac28.same s13', S1, S2, S.f1, S.f2, fun b14 H14 s14 hb14 => ?_⟩
    have e14 := sums H13 s13' b14 hb14
    refine ⟨_, rfl, false, rfl, rfl, ?_⟩
    rw [decide_eq_true (congrArg V.bl (show b14 = false from e14))]
    exact q H14 fun b ob _ e => s14 _ _ (s13' _ _ (s18 b ob e))
  | true =>
    refine ⟨_, rfl, true, rfl, _, rfl, rfl, rfl, _, rfl, ?_⟩
    rw [ne_bl (show b12 = decide (V.int md = V.int 1) by rw [e12, Bool.true_and, Bool.eq_iff_iff, decide_eq_true_eq, decide_eq_true_eq, V.int.injEq])]
    refine iteF ?_
    refine ⟨_, rfl, _, rfl, _, rfl, _, rfl, (by show 2 ≤ sizeLine; decide), fun ty hty => ?_⟩
    have s13' := s812.trans (same_upd (o := .tup [.int cap, .int md]) hty)
    have at13 : (upd H12 ty (.tup [.int cap, .int md])) ty = some (.tup [.int cap, .int md]) := upd_same
    generalize upd H12 ty (.tup [.int cap, .int md]) = H13 at s13' at13 ⊢
    have S13 := S8.same s13'
    refine ⟨a1, a2, ty, "sums", L, t1, t2, e1, e2, m1, m2, cap, md, rfl, .inr (.inl rfl), at13, hL, S13.mac, mac28.same s13', S1, S2, S.f1, S.f2, fun b14 H14 s14 hb14 => ?_⟩
    have e14 := sums H13 s13' b14 hb14
    refine ⟨_, rfl, true, rfl, _, rfl, rfl, rfl, ?_⟩
    rw [decide_eq_true (congrArg V.bl (show b14 = decide (V.int cap = V.int 0) by rw [e14, Bool.true_and, Bool.eq_iff_iff, decide_eq_true_eq, decide_eq_true_eq, V.int.injEq]))]
    exact q H14 fun b ob _ e => s14 _ _ (s13' _ _ (s18 b ob e))
end
end WK
set_option Elab.async false
set_option linter.all false
set_option maxRecDepth 100000
set_option maxHeartbeats 8000000
namespace WK
open PySem L2 PyProof.Rows LCX K1 FV DP LamX
open TX (sg sigs)
open PySem.W (Frag kitOne)
section
variable {P : Program} {w : World} {K : PySem.W.Frag} {mg : Str → Option Value} {base : Heap} {C CM gC gF pK gK : Addr} {mc : Value} {T : List (Addr × Str)} {dF : FuncData}
variable {fR fLe fM fMd fSs fPl fLS fAW fSi fH fTA fIC : Addr} {dR dLe dM dMd dSs dPl dLS dAW dSi dH dTA dIC : FuncData}
theorem perm_lift {α β : Type} (f : α → β) {l1 l2 : List β} (h : l1.Perm l2) : ∀ zs : List α, zs.map f = l2 → ∃ xs : List α, xs.map f = l1 ∧ xs.Perm zs := by
  induction h with
  | nil =>
    intro zs e
    rw [List.map_eq_nil_iff.mp e]
    exact ⟨[], rfl, .nil⟩
  | cons x _ ih =>
    intro zs e
    cases zs with
    | nil => cases e
    | cons z zs =>
      rw [List.map_cons] at e
      injection e with e1 e2
      obtain ⟨xs, h1, h2⟩ := ih zs e2
      exact ⟨z :: xs, by rw [List.map_cons, h1, e1], h2.cons z⟩
  | swap x y l =>
    intro zs e
    match zs, e with
    | a :: b :: zs, e =>
      rw [List.map_cons, List.map_cons] at e
      injection e with e1 e2
      injection e2 with e2 e3
      exact ⟨b :: a :: zs, by rw [List.map_cons, List.map_cons, e1, e2, e3], .swap ..⟩
  | trans _ _ ih1 ih2 =>
    intro zs e
    obtain ⟨ys, h1, h2⟩ := ih2 zs e
    obtain ⟨xs, h3, h4⟩ := ih1 ys h1
    exact ⟨xs, h3, h4.trans h2⟩
theorem valV_some_mem {κ : Type} [DecidableEq κ] {kvs : List (κ × V)} {k : κ} (h : valV kvs k ≠ none) : k ∈ kvs.map (·.1) := by
  unfold valV at h
  cases e : kvs.find? fun kv => decide (kv.1 = k) with
  | none =>
    rw [e] at h
    exact absurd rfl h
  | some p =>
    have h1 := List.mem_of_find?_eq_some e
    have h2 := List.find?_some e
    exact List.mem_map.mpr ⟨p, h1, of_decide_eq_true h2⟩
theorem tail6 {f : Addr} {cdv : Value} {A : Around} {outer : List Env} {s : Shared} {H : Hp} {Q : VK} {E : XK} (hr : Room 8 (A.deeper (envOfC "_law_right" (defScope sRt) s.heap.objs.size f cdv))) (TT : TN mg) (B : TB9 P w K mg base C mc T gC gF pK gK dF)
    (ASs : Fn K mg "sights" sSights ["machine", "cap", "modulus"] fSs dSs) (GSs : FnOk P w K mg base CX0 4 fSs dSs ["machine", "cap", "modulus"] (spSights CM))
    (ALS : Fn K mg "_law_sight" sLSight ["_law_letters_here", "_law_cap", "_law_modulus", "_law_word"] fLS dLS) (GLS : FnOk P w K mg base CX0 2 fLS dLS ["_law_letters_here", "_law_cap", "_law_modulus", "_law_word"] (spLSight K))
    (AAW : Fn K mg "_law_all_words" sLAll ["_law_letters_here", "_law_most"] fAW dAW) (GAW : FnOk P w K mg base CX0 1 fAW dAW ["_law_letters_here", "_law_most"] spLAll)
    (ASi : Fn K mg "sight" sSight ["letters", "cap", "modulus", "word"] fSi dSi) (GSi : FnOk P w K mg base CX0 5 fSi dSi ["letters", "cap", "modulus", "word"] (spSight K))
    (AH : Fn K mg "_law_has" sLHas ["_law_plain", "_law_word"] fH dH) (GH : FnOk P w K mg base CX0 2 fH dH ["_law_plain", "_law_word"] spLHas)
    {tc : TS} (bC : PSs (cxOf CX0 P w K mg base NRt "_law_right" (defScope sRt) f cdv A outer s H E).nox ((defBody sRt).drop 9) tc) (hTC : ∀ (p : Addr) (L : W) (cap md : Int) (N : Nat) (t1 t2 : List (List Int)) (e1 e2 : List Int) (m1 m2 : Int) (a1 o q1 q2 told : Addr) (vs : List (List Int)) (sp D : Addr) (x10 x12 : Option V) (kvs : List (List Key × V)) (ks : List (List Int)) (H1 : Hp), Sc9 C CM H1 L cap md N t1 t2 e1 e2 m1 m2 a1 o q1 q2 told vs → Spot9 H1 L cap md N sp kvs ks → (∀ H', (∀ b o, b ≠ sp → H1 b = some o → H' b = some o) → Q (.bl true) H') →
      tc { nx := fun _ H' => Q .non H', rt := Q } [some (.ref p), some (.str (tx L)), some (.int cap), some (.int md), some (.ref q1), some (.ref q2), some (.ref a1), some (.ref o), some (.ref told), some (.ref D), x10, some (.ref sp), x12, none, none, none, none] H1) :
    ∃ t, PSs (cxOf CX0 P w K mg base NRt "_law_right" (defScope sRt) f cdv A outer s H E).nox ((defBody sRt).drop 6) t ∧ ∀ (p : Addr) (L : W) (cap md : Int) (N : Nat) (t1 t2 : List (List Int)) (e1 e2 : List Int) (m1 m2 : Int) (a1 o q1 q2 told : Addr) (vs : List (List Int)) (D : Addr) (ws : List W) (H1 : Hp), Sc9 C CM H1 L cap md N t1 t2 e1 e2 m1 m2 a1 o q1 q2 told vs → Firsts L cap md t1 e1 ws → H1 D = some (.lst (ws.map fun u => V.str (tx u))) → (∀ H', Same H1 H' → Q (.bl true) H') →
      t { nx := fun _ H' => Q .non H', rt := Q } [some (.ref p), some (.str (tx L)), some (.int cap), some (.int md), some (.ref q1), some (.ref q2), some (.ref a1), some (.ref o), some (.ref told), some (.ref D), none, none, none, none, none, none, none] H1 := by
  have hub := hu_of hr
  have hu65 : ∀ {A' : Around}, Room 0 A' → A'.units + 65 < cLine := fun z => by have := z.un; omega
  have hr1 : Room 1 _ := hr.mono (by decide)
  have hr2 : Room 2 _ := hr.mono (by decide)
  have hr3 : Room 3 _ := hr.mono (by decide)
  have hr4 : Room 4 _ := hr.mono (by decide)
  have hr5 : Room 5 _ := hr.mono (by decide)
  have hr7 : Room 7 _ := hr.mono (by decide)
  have hr0 : Room 0 _ := hr.mono (by decide)
  have z6 : PS (cxOf CX0 P w K mg base NRt "_law_right" (defScope sRt) f cdv A outer s H E).nox (nthS sRt 6) _ := ps_if (pt_cmpR (op_neD hr.units) (pe_callB cr_sortX (by rfl) TT.sorted (by decide +kernel) (pa_cons (pe_lc (own := [("_law_word", 10)]) (g := gName 10) (tt := tYes) (te := tCall (spLSight K) [] E0 (tCons (tVar 1) (tCons (tVar 2) (tCons (tVar 3) (tCons (tVar 10) tNil))))) rfl scRt.nd (pi_list (pv 9))
    (blkOk_by (own := [("_law_word", 10)]) (N := NRt) (sc := defScope sRt) (by decide +kernel)) (fun _ _ _ _ _ => pg_name (i := 10) scRt.nd rfl (Or.inl rfl)) (fun _ _ _ _ _ => pts_nil) (fun _ _ _ _ _ => pe_call (E := E0) GLS hr2 rfl ALS.g ALS.F.kp ALS.b .nil pass0 (pa_cons (pv 1) (pa_cons (pv 2) (pa_cons (pv 3) (pa_cons (pv 10) pa_nil)))))) pa_nil)) (pe_callTy call_list_of (by rfl) TT.list (by decide +kernel) (pa_cons (pv 8) pa_nil)) (nomark _)) (pss_one ps_never) pss_nil
  have z7 : PS (cxOf CX0 P w K mg base NRt "_law_right" (defScope sRt) f cdv A outer s H E).nox (nthS sRt 7) _ := ps_set (i := 11) scRt.nd rfl (Or.inr rfl) pe_dnewT
  have z8 : PS (cxOf CX0 P w K mg base NRt "_law_right" (defScope sRt) f cdv A outer s H E).nox (nthS sRt 8) _ := ps_for PassesOwn.never rfl (pi_list (pe_call (E := E0) GAW hr1 rfl AAW.g AAW.F.kp AAW.b .nil pass0 (pa_cons (pv 1) (pa_cons pe_int pa_nil)))) (pg_name (i := 10) scRt.nd rfl (Or.inl rfl))
    (pss_cons (ps_set (i := 12) scRt.nd rfl (Or.inl rfl) (pe_call (E := E0) GSi hr5 rfl ASi.g ASi.F.kp ASi.b .nil pass0 (pa_cons (pv 1) (pa_cons (pv 2) (pa_cons (pv 3) (pa_cons (pv 10) pa_nil))))))
    (pss_cons (ps_if (PW.pt (pw_or (pt_cmpR (op_neD hr.units) (pv 12) (pe_call (E := E0) GLS hr2 rfl ALS.g ALS.F.kp ALS.b .nil pass0 (pa_cons (pv 1) (pa_cons (pv 2) (pa_cons (pv 3) (pa_cons (pv 10) pa_nil))))) (nomark _))
        (pw_or1 (pt_cmpR op_ne (pe_dget2 hub (pv 11) (pv 12) (StX.pe_callO (E := E0) (pv 7) B.cC B.cR hr4 pass0 (pa_cons (pv 10) pa_nil)) ⟨rfl, rfl, rfl, rfl⟩) (StX.pe_callO (E := E0) (pv 7) B.cC B.cR hr4 pass0 (pa_cons (pv 10) pa_nil)) (nomark _))))) (pss_one ps_never) pss_nil)
    (pss_cons (ps_dput hub (pv 11) (pv 12) (StX.pe_callO (E := E0) (pv 7) B.cC B.cR hr4 pass0 (pa_cons (pv 10) pa_nil)) rfl)
    (pss_one (ps_if (PW.pt (pw_and (pt_val (pe_call (E := E0) GH hr2 rfl AH.g AH.F.kp AH.b .nil pass0 (pa_cons (pv 4) (pa_cons (pv 10) pa_nil)))) (pw_and1 (pt_cmpR (OWN.op_notInTu (hu65 hr0)) (pv 12) (pv 8) (by rfl))))) (pss_one ps_never) pss_nil)))))
  refine ⟨_, pss_cons z6 (pss_cons z7 (pss_cons z8 bC)), ?_⟩
  clear z6 z7 z8
  intro p L cap md N t1 t2 e1 e2 m1 m2 a1 o q1 q2 told vs D ws H13 S F hd13 q
  have hL := S.hL
  have md1 := S.S1.m0
  refine ⟨_, rfl, D, rfl, ⟨_, SqL.of hd13⟩, fun D2 hD2 => ?_⟩
  refine lc_it walk_list (fun i H4 => Same H13 H4 ∧ ∃ zs : List Spot, H4 D2 = some (.lst (refs zs)) ∧ Spots H4 zs ∧ zs.map (·.2) = (ws.take i).map (vecW L cap md)) ⟨same_upd hD2, [], upd_same, fun z hz => absurd (hz : z ∈ ([] : List Spot)) List.not_mem_nil, rfl⟩ (fun i H4 _ ⟨s4, _⟩ => SqL.of (s4 _ _ hd13)) ?_ ?_
  · rintro i x H4 H5x hi ⟨s4, zs, hd4, sp4, e4⟩ ⟨rfl, hx⟩
    rw [List.length_map] at hi
    obtain rfl : x = .str (tx ws[i]) := by
      rw [List.getElem?_map, List.getElem?_eq_getElem hi] at hx
      exact (Option.some.inj hx).symm
    refine ⟨rfl, _, rfl, _, rfl, _, rfl, _, rfl, L, ws[i], cap, md, rfl, hL.few, by have := (F.ok _ (List.getElem_mem hi)).2; omega, by omega, fun tv H6 ntv s6 htv => ?_⟩
    have lz : zs.length = i := by
      have := congrArg List.length e4
      rw [List.length_map, List.length_map, List.length_take] at this
      omega
    refine ⟨_, s6 _ _ hd4, by have := F.len; rw [List.length_map, sizeLine_eq]; omega, same_at (s4.trans s6) hD2, zs ++ [(tv, vecW L cap md ws[i])], ?_, ?_, ?_⟩
    · rw [upd_same]
      show _ = some (HO.lst (refs (zs ++ [_])))
      unfold refs
      rw [List.map_append] <;> rfl
    · have kt := tup_upd (o := .lst (refs zs ++ [.ref tv])) (s6 _ _ hd4) (fun _ z => nomatch z)
      intro z hz
      refine kt _ _ ?_
      rcases List.mem_append.mp hz with y | y
      · exact s6 _ _ (sp4 z y)
      · rw [List.mem_singleton.mp y]
        exact htv
    · rw [List.map_append, e4, List.take_add_one, List.getElem?_eq_getElem hi, List.map_append] <;> rfl
  rintro H14 ⟨s14, zs, hd14, sp14, e14⟩
  rw [List.length_map, List.take_length] at e14
  have S14 := (S.same s14)
  obtain ⟨ts, htold, obj⟩ := S14.rows
  have lz : zs.length = ws.length := by
    have := congrArg List.length e14
    rw [List.length_map, List.length_map] at this
    exact this
  have lw := F.len
  have vecs : ∀ z ∈ zs, ∃ u : W, z.2 = vecW L cap md u := fun z hz => by
    have : z.2 ∈ ws.map (vecW L cap md) := by
      rw [← e14]
      exact List.mem_map_of_mem hz
    obtain ⟨u, _, e⟩ := List.mem_map.mp this
    exact ⟨u, e.symm⟩
  refine ⟨L.length, cap + md, S.S1.k1, D2, refs zs, rfl, SqL.of hd14, by rw [List.length_map]; omega, fun x hx => ?_, fun ys py perm asc npy => ?_⟩
  · obtain ⟨z, hz, rfl⟩ := List.mem_map.mp hx
    obtain ⟨u, e⟩ := vecs z hz
    refine ⟨z.2, ⟨z.1, rfl, SqT.of (sp14 z hz)⟩, ?_, ?_⟩
    · rw [e, vec_len]
    · rw [e]
      exact S.S1.bd u
  obtain ⟨xs, rfl, pxs⟩ := perm_lift (fun z : Spot => V.ref z.1) perm zs rfl
  have told_ : xs.map (·.2) = vs := by
    refine told_is (ws := ws) S.S1 S.td ?_ ?_ F.dist F.one F.all
    · rw [← e14]
      exact pxs.map _
    · have asc := List.pairwise_map.mp asc
      refine List.pairwise_map.mpr (asc.imp_of_mem fun {a b} ha hb h => ?_)
      exact h _ _ ⟨a.1, rfl, SqT.of (sp14 a (pxs.mem_iff.mp ha))⟩ ⟨b.1, rfl, SqT.of (sp14 b (pxs.mem_iff.mp hb))⟩
  have s15 : Same H14 (upd H14 py (.lst (refs xs))) := same_upd npy
  have hpy : (upd H14 py (.lst (refs xs))) py = some (.lst (refs xs)) := upd_same
  have sp15 : Spots (upd H14 py (.lst (refs xs))) xs := fun z hz => s15 _ _ (sp14 z (pxs.mem_iff.mp hz))
  have obj15 : Objs oTup (upd H14 py (.lst (refs xs))) ts vs := obj.to fun _ _ _ z => s15 _ _ z
  have told15 := s15 _ _ htold
  generalize upd H14 py (.lst (refs xs)) = H15 at s15 hpy sp15 obj15 told15 ⊢
  refine ⟨_, rfl, told, ts.map V.ref, rfl, .inr (SqT.of told15), fun pl hpl => ?_⟩
  have s16 : Same H15 (upd H15 pl (.lst (ts.map V.ref))) := same_upd hpl
  have hpl16 : (upd H15 pl (.lst (ts.map V.ref))) pl = some (.lst (ts.map V.ref)) := upd_same
  generalize upd H15 pl (.lst (ts.map V.ref)) = H16 at s16 hpl16 ⊢
  have sp16 : Spots H16 xs := fun z hz => s16 _ _ (sp15 z hz)
  refine ⟨.list (xs.map fun z => dI z.2), .list (td_ vs), .lst (SqL.of (s16 _ _ hpy)) (dpSpots sp16), .lst (SqL.of hpl16) (dp_tab (obj15.to fun _ _ _ z => s16 _ _ z)), dIs_shaped xs, shaped_tds vs, _, rfl, ?_⟩
  have ed : (xs.map fun z => dI z.2) = td_ vs := by
    rw [← told_]
    show _ = (xs.map (·.2)).map fun r => PyData.tuple (id_ r)
    rw [List.map_map] <;> rfl
  have ev : PyData.eqv (.list (xs.map fun z => dI z.2)) (.list (td_ vs)) = true := by
    rw [ed]
    show PyData.eqvAll (td_ vs) (td_ vs) = true
    rw [eqv_tabs]
    exact decide_eq_true rfl
  rw [ev]
  refine iteF ?_
  have s1316 := (s14.trans s15).trans s16
  have S16 := S.same s1316
  refine fun sp hsp => ?_
  have sp0 : (upd H16 sp (.dT [])) sp = some (.dT []) := upd_same
  have s17 : Same H16 (upd H16 sp (.dT [])) := same_upd hsp
  generalize upd H16 sp (.dT []) = H17 at s17 sp0 ⊢
  dsimp only [gName]
  have S1 := S.S1
  have dn := S.dn
  have np := dn.pos
  have N36 := S.N36
  have c0 := S1.c0
  have c1 := S1.c1
  have m0 := S1.m0
  have m1' := S1.m1
  have okT : TabOk (cntT L cap md N) L.length (N : Int) := dn.tab
  refine ⟨_, rfl, L, 5, rfl, hL.few, by decide, fun lw H18 nlw s18 hlw => ⟨lw, rfl, ⟨_, SqL.of hlw⟩, ?_⟩⟩
  have slw : sp ≠ lw := ne_of_none sp0 nlw
  refine for_it walk_list (fun i σ H4 => ∃ (x10 x12 : Option V) (kvs : List (List Key × V)) (ks : List (List Int)), σ = [some (.ref p), some (.str (tx L)), some (.int cap), some (.int md), some (.ref q1), some (.ref q2), some (.ref a1), some (.ref o), some (.ref told), some (.ref D), x10, some (.ref sp), x12, none, none, none, none] ∧ Same H16 H4 ∧ H4 lw = some (.lst ((allW L 5).map txV)) ∧ Spot9 H4 L cap md N sp kvs ks ∧ ks.length ≤ i) ?_ (fun i σ H4 _ ⟨_, _, _, _, _, _, h, _⟩ => SqL.of h) ?_ ?_
  · exact ⟨none, none, [], [], rfl, s17.trans s18, hlw, ⟨s18 _ _ sp0, rfl, List.nodup_nil, fun v hv => absurd hv List.not_mem_nil⟩, Nat.le_refl _⟩
  · rintro i x σ H4 H5x hi ⟨x10, x12, kvs, ks, rfl, s4, hlw4, Z, lk⟩ ⟨rfl, hx⟩
    rw [List.length_map] at hi
    obtain rfl : x = .str (tx (allW L 5)[i]) := by
      rw [List.getElem?_map, List.getElem?_eq_getElem hi] at hx
      exact (Option.some.inj hx).symm
    obtain ⟨ul, uc⟩ := (mem_allW L 5 _).mp (List.getElem_mem hi)
    have lenA := allW_len L hL.few 5 (by decide)
    generalize (allW L 5)[i] = u at ul uc hx ⊢
    have low : Low u := fun c hc => hL.low c (uc c hc)
    refine ⟨_, rfl, _, rfl, _, rfl, _, rfl, L, u, cap, md, rfl, hL, low, by omega, uc, by omega, by omega, by omega, by omega, fun tv H5 ntv s5 htv => ?_⟩
    refine ⟨_, rfl, _, rfl, _, rfl, _, rfl, _, rfl, L, u, cap, md, rfl, hL.few, by omega, by omega, fun tw H6 ntw s6 htw => ?_⟩
    have htv6 := s6 _ _ htv
    refine ⟨dI (vecW L cap md u), dI (vecW L cap md u), dpSpot htv6, dpSpot htw, dI_shaped _, dI_shaped _, _, rfl, ?_⟩
    rw [dI_eqv, decide_eq_true rfl]
    refine iteF ?_
    have s46 := s5.trans s6
    have S6 := S16.same (s4.trans s46)
    obtain ⟨dxb, rb, hob, _⟩ := id S6.bx
    have at6 := s46 _ _ Z.at_
    have key : (vecW L cap md u).map V.int = (ik (vecW L cap md u)).map kV := (kV_ik _).symm
    have htvk : H6 tv = some (.tup ((ik (vecW L cap md u)).map kV)) := by rw [← key]; exact htv6
    refine ⟨_, rfl, sp, rfl, .inr ⟨kvs, .inl at6⟩, _, rfl, _, rfl, o, rfl, _, rfl, .inr ⟨dxb, _, hob⟩, o, L, u, cntT L cap md N, N, rfl, S6.bx, hL, okT, by omega, by omega, by omega, uc, fun H7 s7 => ?_⟩
    have S7 := S6.same s7
    obtain ⟨dxb7, rb7, hob7, _⟩ := id S7.bx
    refine ⟨_, DGet.t (k := ik (vecW L cap md u)) (s7 _ _ at6) (s7 _ _ htvk), _, rfl, o, rfl, _, rfl, .inr ⟨dxb7, _, hob7⟩, o, L, u, cntT L cap md N, N, rfl, S7.bx, hL, okT, by omega, by omega, by omega, uc, fun H8 s8 => ?_⟩
    have eo : (valV kvs (ik (vecW L cap md u))).getD (.int (ledL L (cntT L cap md N) u 0)) = .int (ledL L (cntT L cap md N) u 0) := by
      by_cases hv : vecW L cap md u ∈ ks
      · obtain ⟨u2, hu2, e2', h2⟩ := Z.val _ hv
        rw [h2]
        show V.int _ = V.int _
        rw [(place_same dn c0 m0 hu2 uc).mpr e2'.symm]
      · have : valV kvs (ik (vecW L cap md u)) = none := by
          refine Classical.byContradiction fun z => hv ?_
          have := (valV_some_mem z)
          rw [Z.keys] at this
          obtain ⟨y, hy, e⟩ := List.mem_map.mp this
          rw [← ik_inj _ _ e]
          exact hy
        rw [this] <;> rfl
    rw [eo]
    refine ⟨rfl, _, rfl, ?_⟩
    rw [ne_int rfl]
    refine iteF ?_
    have S8 := S7.same s8
    obtain ⟨dxb8, rb8, hob8, _⟩ := id S8.bx
    have s48 := (s46.trans s7).trans s8
    have at8 := s48 _ _ Z.at_
    have htv8 := s8 _ _ (s7 _ _ htvk)
    refine ⟨_, rfl, o, rfl, _, rfl, .inr ⟨dxb8, _, hob8⟩, o, L, u, cntT L cap md N, N, rfl, S8.bx, hL, okT, by omega, by omega, by omega, uc, fun H9 s9 => ?_⟩
    have lenK : kvs.length = ks.length := by
      have := congrArg List.length Z.keys
      rw [List.length_map, List.length_map] at this
      exact this
    refine ⟨_, rfl, _, rfl, sp, _, rfl, DPut.t (k := ik (vecW L cap md u)) (s9 _ _ at8) (s9 _ _ htv8) (by rw [sizeLine_eq]; omega), ?_⟩
    have s49 := s48.trans s9
    have nsp : H16 sp = none := hsp
    have s10 : Same H16 (upd H9 sp (.dT (putK kvs (ik (vecW L cap md u)) (.int (ledL L (cntT L cap md N) u 0))))) := same_at (s4.trans s49) nsp
    have at10 : (upd H9 sp (.dT (putK kvs (ik (vecW L cap md u)) (.int (ledL L (cntT L cap md N) u 0))))) sp = some (.dT (putK kvs (ik (vecW L cap md u)) (.int (ledL L (cntT L cap md N) u 0)))) := upd_same
    have lw10 : (upd H9 sp (.dT (putK kvs (ik (vecW L cap md u)) (.int (ledL L (cntT L cap md N) u 0))))) lw = some (.lst ((allW L 5).map txV)) := by rw [upd_ne (Ne.symm slw)]; exact s49 _ _ hlw4
    have tvsp : tv ≠ sp := fun z => by
      rw [z, Z.at_] at ntv
      cases ntv
    have tv10 : (upd H9 sp (.dT (putK kvs (ik (vecW L cap md u)) (.int (ledL L (cntT L cap md N) u 0))))) tv = some (oTup (vecW L cap md u)) := by
      rw [upd_ne tvsp]
      exact s9 _ _ (s8 _ _ (s7 _ _ htv6))
    generalize upd H9 sp (.dT (putK kvs (ik (vecW L cap md u)) (.int (ledL L (cntT L cap md N) u 0)))) = H10 at s10 at10 lw10 tv10 ⊢
    have Z10 : Spot9 H10 L cap md N sp (putK kvs (ik (vecW L cap md u)) (.int (ledL L (cntT L cap md N) u 0))) (addG ks (vecW L cap md u)) ∧ (addG ks (vecW L cap md u)).length ≤ i + 1 := by
      have vals : ∀ y ∈ addG ks (vecW L cap md u), ∃ u' : W, (∀ c ∈ u', c ∈ L) ∧ y = vecW L cap md u' ∧ valV (putK kvs (ik (vecW L cap md u)) (.int (ledL L (cntT L cap md N) u 0))) (ik y) = some (.int (ledL L (cntT L cap md N) u' 0)) := fun y hy => by
        rw [valV_put]
        by_cases e : y = vecW L cap md u
        · rw [if_pos (by rw [e])]
          exact ⟨u, uc, e, rfl⟩
        · rw [if_neg fun z => e (ik_inj _ _ z)]
          unfold addG at hy
          split at hy
          · exact Z.val y hy
          · rcases List.mem_append.mp hy with z | z
            · exact Z.val y z
            · exact absurd (List.mem_singleton.mp z) e
      refine ⟨⟨at10, ?_, ?_, vals⟩, ?_⟩
      · rw [keys_put, Z.keys]
        unfold addG
        by_cases hv : vecW L cap md u ∈ ks
        · rw [if_pos hv, if_pos (List.mem_map_of_mem hv)]
        · rw [if_neg hv, if_neg fun z => by
            obtain ⟨y, hy, e⟩ := List.mem_map.mp z
            exact hv (ik_inj _ _ e ▸ hy), List.map_append] <;> rfl
      · unfold addG
        split
        · exact Z.nd
        · rename_i hv
          refine List.nodup_append.mpr ⟨Z.nd, List.nodup_cons.mpr ⟨List.not_mem_nil, List.nodup_nil⟩, fun a ha b hb ab => ?_⟩
          rw [List.mem_singleton.mp hb] at ab
          exact hv (ab ▸ ha)
      · unfold addG
        split
        · omega
        · rw [List.length_append]
          show _ + 1 ≤ _
          omega
    have S10 := S16.same s10
    have done : ∃ (x10 x12 : Option V) (kvs : List (List Key × V)) (ks : List (List Int)), [some (V.ref p), some (V.str (tx L)), some (V.int cap), some (V.int md), some (V.ref q1), some (V.ref q2), some (V.ref a1), some (V.ref o), some (V.ref told), some (V.ref D), some (V.str (tx u)), some (V.ref sp), some (V.ref tv), none, none, none, none] = [some (V.ref p), some (V.str (tx L)), some (V.int cap), some (V.int md), some (V.ref q1), some (V.ref q2), some (V.ref a1), some (V.ref o), some (V.ref told), some (V.ref D), x10, some (V.ref sp), x12, none, none, none, none] ∧ Same H16 H10 ∧ H10 lw = some (.lst ((allW L 5).map txV)) ∧ Spot9 H10 L cap md N sp kvs ks ∧ ks.length ≤ i + 1 := ⟨_, _, _, _, rfl, s10, lw10, Z10.1, Z10.2⟩
    refine ⟨_, rfl, _, rfl, q1, L, u, t1, e1, m1, rfl, S10.pl1, S.ok1, hL, uc, _, rfl, ?_⟩
    by_cases hin : ledL L t1 u 0 ∈ e1
    · rw [decide_eq_true hin]
      refine iteT ?_
      obtain ⟨ts2, told2, obj2⟩ := S10.rows
      refine ⟨_, rfl, _, rfl, .tuple (id_ (vecW L cap md u)), td_ vs, .tup (SqT.of tv10) (dp_int _), .tup (SqT.of told2) (dp_tab obj2), lay_ints _, ?_, lay_td _, _, rfl, ?_⟩
      · have := dep_ints (vecW L cap md u)
        have h3 : PyData.depth (.tuple (id_ (vecW L cap md u))) = 1 + PyData.depthAll (id_ (vecW L cap md u)) := by simp only [PyData.depth]; omega
        omega
      rw [if_pos rfl, any_td, decide_eq_true ((S.td.all _).mpr ⟨u, uc, hin, rfl⟩)]
      exact iteF done
    · rw [decide_eq_false hin]
      exact iteF (iteF done)
  · rintro σ H4 ⟨x10, x12, kvs, ks, rfl, s4, hlw4, Z, lk⟩
    exact hTC p L cap md N t1 t2 e1 e2 m1 m2 a1 o q1 q2 told vs sp D x10 x12 kvs ks H4 (S16.same s4) Z fun H' k => q H' fun b ob e => k b ob (fun n => by
      have := s1316 b ob e
      rw [n, hsp] at this
      cases this) (s4 _ _ (s1316 b ob e))
end
end WK
set_option Elab.async false
set_option linter.all false
set_option maxRecDepth 100000
set_option maxHeartbeats 8000000
namespace WK
open PySem L2 PyProof.Rows LCX K1 FV DP LamX
open TX (sg sigs)
open PySem.W (Frag kitOne)
section
variable {P : Program} {w : World} {K : PySem.W.Frag} {mg : Str → Option Value} {base : Heap} {C CM gC gF pK gK : Addr} {mc : Value} {T : List (Addr × Str)} {dF : FuncData}
variable {fR fLe fM fMd fSs fPl fLS fAW fSi fH fTA fIC : Addr} {dR dLe dM dMd dSs dPl dLS dAW dSi dH dTA dIC : FuncData}
theorem ok_rt {f : Addr} {fd : FuncData} (F : Fun K "_law_right" "_law_right" sRt f fd) (TT : TN mg) (B : TB9 P w K mg base C mc T gC gF pK gK dF)
    (AR : Fn K mg "_law_roll" sRoll ["_law_dice_here", "_law_total"] fR dR)
    (ALe : Fn K mg "_law_letters" sLetters ["_law_dice_here", "_law_total"] fLe dLe) (GLe : FnOk P w K mg base CX0 3 fLe dLe ["_law_dice_here", "_law_total"] spLetters)
    (AM : Fn K mg "_law_machine" sLMac ["_law_dice_here", "_law_letters_here", "_law_states"] fM dM) (GM : FnOk P w K mg base CX0 4 fM dM ["_law_dice_here", "_law_letters_here", "_law_states"] spLMac)
    (AMd : Fn K mg "_law_made_machine" sMade ["_law_plain"] fMd dMd) (GMd : FnOk P w K mg base CX0 7 fMd dMd ["_law_plain"] (spMade CM))
    (ASs : Fn K mg "sights" sSights ["machine", "cap", "modulus"] fSs dSs) (GSs : FnOk P w K mg base CX0 4 fSs dSs ["machine", "cap", "modulus"] (spSights CM))
    (APl : Fn K mg "places" sPlaces ["machine", "box"] fPl dPl) (GPl : FnOk P w K mg base CX0 4 fPl dPl ["machine", "box"] (spPlaces CM C))
    (ALS : Fn K mg "_law_sight" sLSight ["_law_letters_here", "_law_cap", "_law_modulus", "_law_word"] fLS dLS) (GLS : FnOk P w K mg base CX0 2 fLS dLS ["_law_letters_here", "_law_cap", "_law_modulus", "_law_word"] (spLSight K))
    (AAW : Fn K mg "_law_all_words" sLAll ["_law_letters_here", "_law_most"] fAW dAW) (GAW : FnOk P w K mg base CX0 1 fAW dAW ["_law_letters_here", "_law_most"] spLAll)
    (ASi : Fn K mg "sight" sSight ["letters", "cap", "modulus", "word"] fSi dSi) (GSi : FnOk P w K mg base CX0 5 fSi dSi ["letters", "cap", "modulus", "word"] (spSight K))
    (AH : Fn K mg "_law_has" sLHas ["_law_plain", "_law_word"] fH dH) (GH : FnOk P w K mg base CX0 2 fH dH ["_law_plain", "_law_word"] spLHas)
    (ATA : Fn K mg "tells_apart" sApart ["one", "other", "box"] fTA dTA) (GTA : FnOk P w K mg base CX0 5 fTA dTA ["one", "other", "box"] (spApart CM C))
    (AIC : Fn K mg "is_clerk_for" sIsClerk ["one", "other", "sort", "value"] fIC dIC) (GIC : FnOk P w K mg base CX0 5 fIC dIC ["one", "other", "sort", "value"] (spIsClerk K CM)) :
    FnOk P w K mg base CX0 9 f fd ["_law_dice_here"] (spRt T) := by
  have GR : FnOk P w K mg base CX0 1 fR dR ["_law_dice_here", "_law_total"] spRoll := ok_roll AR.F TT.dice
  refine F.ok scRt (fun vs H Q E h => ?_) (fun cdv A outer s H vs Q E hr h => ?_)
  · obtain ⟨p, rfl, _⟩ := h
    rfl
  · obtain ⟨p, rfl, hD, hT, q⟩ := h
    have hub := hu_of hr
    have hu65 : ∀ {A' : Around}, Room 0 A' → A'.units + 65 < cLine := fun z => by have := z.un; omega
    have hr1 : Room 1 _ := hr.mono (by decide)
    have hr2 : Room 2 _ := hr.mono (by decide)
    have hr3 : Room 3 _ := hr.mono (by decide)
    have hr4 : Room 4 _ := hr.mono (by decide)
    have hr5 : Room 5 _ := hr.mono (by decide)
    have hr7 : Room 7 _ := hr.mono (by decide)
    have hr0 : Room 0 _ := hr.mono (by decide)
    have z0 : PS (cxOf CX0 P w K mg base NRt "_law_right" (defScope sRt) f cdv A outer s H E).nox (nthS sRt 0) _ := ps_set (i := 1) scRt.nd rfl (Or.inr rfl) (pe_call (E := E0) GLe hr3 rfl ALe.g ALe.F.kp ALe.b .nil pass0 (pa_cons (pv 0) (pa_cons (pe_op op_add pe_int (pe_call (E := E0) GR hr1 rfl AR.g AR.F.kp AR.b .nil pass0 (pa_cons (pv 0) (pa_cons pe_int pa_nil)))) pa_nil)))
    have z1 : PS (cxOf CX0 P w K mg base NRt "_law_right" (defScope sRt) f cdv A outer s H E).nox (nthS sRt 1) _ := ps_asg (pe_tup (pa_cons (pe_call (E := E0) GR hr1 rfl AR.g AR.F.kp AR.b .nil pass0 (pa_cons (pv 0) (pa_cons pe_int pa_nil))) (pa_cons (pe_op op_add pe_int (pe_call (E := E0) GR hr1 rfl AR.g AR.F.kp AR.b .nil pass0 (pa_cons (pv 0) (pa_cons pe_int pa_nil)))) pa_nil))) (pg_tup (n := 2) (by rfl) (pgs_cons (pg_name (i := 2) scRt.nd rfl (Or.inr rfl)) (pgs_cons (pg_name (i := 3) scRt.nd rfl (Or.inr rfl)) pgs_nil)))
    have z2 : PS (cxOf CX0 P w K mg base NRt "_law_right" (defScope sRt) f cdv A outer s H E).nox (nthS sRt 2) _ := ps_par (i := 4) (j := 5) (by rfl) scRt.nd rfl rfl (by decide) rfl rfl (pa_cons (pe_call (E := E0) GM hr4 rfl AM.g AM.F.kp AM.b .nil pass0 (pa_cons (pv 0) (pa_cons (pv 1) (pa_cons pe_int pa_nil)))) (pa_cons (pe_call (E := E0) GM hr4 rfl AM.g AM.F.kp AM.b .nil pass0 (pa_cons (pv 0) (pa_cons (pv 1) (pa_cons pe_int pa_nil)))) pa_nil)) (by rfl)
    have z3 : PS (cxOf CX0 P w K mg base NRt "_law_right" (defScope sRt) f cdv A outer s H E).nox (nthS sRt 3) _ := ps_asg (pe_tup (pa_cons (pe_call (E := E0) GMd hr7 rfl AMd.g AMd.F.kp AMd.b .nil pass0 (pa_cons (pv 4) pa_nil)) (pa_cons (ClX.pe_cmeth (E := E0) (pe_glob rfl B.gB (show RelV (.ref C) (.ref C) from rfl)) B.rd B.ck B.kR hr7 pass0 (pa_cons (pv 1) (pa_cons (pv 2) (pa_cons (pv 3) pa_nil)))) pa_nil))) (pg_tup (n := 2) (by rfl) (pgs_cons (pg_name (i := 6) scRt.nd rfl (Or.inl rfl)) (pgs_cons (pg_name (i := 7) scRt.nd rfl (Or.inr rfl)) pgs_nil)))
    have z4 : PS (cxOf CX0 P w K mg base NRt "_law_right" (defScope sRt) f cdv A outer s H E).nox (nthS sRt 4) _ := ps_set (i := 8) scRt.nd rfl (Or.inl rfl) (pe_call (E := E0) GSs hr4 rfl ASs.g ASs.F.kp ASs.b .nil pass0 (pa_cons (pv 6) (pa_cons (pv 2) (pa_cons (pv 3) pa_nil))))
    have z5 : PS (cxOf CX0 P w K mg base NRt "_law_right" (defScope sRt) f cdv A outer s H E).nox (nthS sRt 5) _ := ps_setLc (i := 9) (own := [("_law_place", 15)]) (g := gName 15) (tt := tYes) (te := tMeth C "first_word" (RM.spFirst C) [] E0 (tVar 7) (tCons (tVar 15) tNil)) rfl scRt.nd rfl rfl (sw_true rfl rfl rfl (by decide +kernel)) (pi_tup (pe_call (E := E0) GPl hr4 rfl APl.g APl.F.kp APl.b .nil pass0 (pa_cons (pv 6) (pa_cons (pv 7) pa_nil))))
      (blkOk_by (own := [("_law_place", 15)]) (N := NRt) (sc := defScope sRt) (by decide +kernel)) (fun _ _ _ _ _ => pg_name (i := 15) scRt.nd rfl (Or.inl rfl)) (fun _ _ _ _ _ => pts_nil) (fun _ _ _ _ _ => pe_meth (E := E0) (pv 7) B.cl B.fM B.fR hr4 B.fb .nil pass0 (pa_cons (pv 15) pa_nil))
    have hr8 : Room 8 _ := hr.mono (by decide)
    obtain ⟨t9, b9, r9⟩ := tail9 (Q := Q) (E := E) (H := H) hr8 TT B AMd GMd ASs GSs ATA GTA AIC GIC
    obtain ⟨t6, b6, r6⟩ := tail6 (Q := Q) (E := E) (H := H) hr8 TT B ASs GSs ALS GLS AAW GAW ASi GSi AH GH b9 r9
    refine ⟨_, pss_cons z0 (pss_cons z1 (pss_cons z2 (pss_cons z3 (pss_cons z4 (pss_cons z5 b6))))), ?_⟩
    clear z0 z1 z2 z3 z4 z5 b6 b9 r9
    refine ⟨_, rfl, _, rfl, p, 2, rfl, hD, by omega, by omega, fun r1 H1 a0 a1 hD1 hB1 => ⟨_, _, rfl, rfl, p, 1 + r1, rfl, hD1, by omega, by omega, fun L H2 hL lL hD2 hB2 => ?_⟩⟩
    have b2 := hB1.trans hB2
    refine ⟨_, rfl, p, 4, rfl, hD2, by omega, by omega, fun cap H3 c0 c1 hD3 hB3 => ⟨_, rfl, p, 3, rfl, hD3, by omega, by omega, fun m H4 m0 m9 hD4 hB4 => ⟨_, _, rfl, rfl, (by show 2 ≤ sizeLine; decide), fun t ht => ⟨t, _, rfl, SqT.of upd_same, rfl, _, _, rfl, _, _, rfl, rfl, ?_⟩⟩⟩⟩
    have hD5 := hD4.new (o := .tup [.int cap, .int (1 + m)]) ht
    have b5 := but_two (o := .tup [.int cap, .int (1 + m)]) ((b2.trans hB3).trans hB4) ht
    dsimp only [gName]
    obtain ⟨md, hmd⟩ : ∃ md : Int, md = 1 + m := ⟨_, rfl⟩
    rw [← hmd] at hD5 b5 ⊢
    generalize upd H4 t (.tup [.int cap, .int md]) = H5 at hD5 b5 ⊢
    refine ⟨_, rfl, _, rfl, p, L, 3, rfl, hD5, hL.ne, by have := hL.few; omega, by omega, by omega, fun q1 t1 e1 m1 H6 nq1 pq1 hD6 hB6 pl1 off1 ok1 le1 => ⟨_, rfl, _, rfl, p, L, 3, rfl, hD6, hL.ne, by have := hL.few; omega, by omega, by omega, fun q2 t2 e2 m2 H7 nq2 pq2 hD7 hB7 pl2 off2 ok2 le2 => ⟨_, _, rfl, ?_⟩⟩⟩
    have pl1' := (PlainM.but pl1 off1 hD6 hB7).1
    have b7 := (b5.trans hB6).trans hB7
    have tb7 := tabs_but hT hD b7
    refine ⟨_, rfl, q1, L, t1, e1, m1, rfl, pl1', ok1, by omega, hL, fun a1 H8 na1 s8 mac1 => ?_⟩
    have tb8 := tb7.ext s8
    have k1 : 1 ≤ L.length := by have := List.length_pos_iff.mpr hL.ne; omega
    have k2 : L.length ≤ 2 := by omega
    obtain ⟨N, dn, N36⟩ := clerk_done (L := L) (cap := cap) (md := md) k1 k2 (by omega) (by omega) (by omega) (by omega)
    refine ⟨rfl, _, rfl, _, rfl, _, rfl, L, cap, md, rfl, by omega, by omega, by omega, by omega, hL, tb8, N, exAll_most (Nat.le_of_eq dn.len), by omega, fun o H9 no9 gr9 bx9 => ⟨(by show 2 ≤ sizeLine; decide), fun t9 ht9 => ⟨t9, _, rfl, SqT.of upd_same, rfl, _, _, rfl, _, _, rfl, rfl, ?_⟩⟩⟩
    have s10 := same_upd (o := .tup [.ref a1, .ref o]) ht9
    dsimp only [gName]
    have gr10 := grows_same gr9 s10
    have bx10 := bx9.same s10
    have mac10 := (MacAt.grow mac1 gr9.1).same s10
    have pl7' := pl1'.same s8
    have pl10 := (PlainM.grow pl7' gr9.1).same s10
    have po10 := (PlainM.grow (pl2.same s8) gr9.1).same s10
    generalize upd H9 t9 (.tup [.ref a1, .ref o]) = H10 at s10 gr10 bx10 mac10 pl10 po10 ⊢
    have nd : L.Nodup := hL.asc.imp fun h => Nat.ne_of_lt h
    have okT : TabOk (cntT L cap md N) L.length (N : Int) := dn.tab
    have lenT : (cntT L cap md N).length = N := by have := okT.len; omega
    have n1 := ok1.one
    have n2 := ok2.one
    have np := dn.pos
    have S1 : Sch L cap md m1 t1 := ⟨nd, k1, k2, by omega, by omega, by omega, by omega, n1, by omega, ok1.tab⟩
    have S2 : Sch L cap md m2 t2 := ⟨nd, k1, k2, by omega, by omega, by omega, by omega, n2, by omega, ok2.tab⟩
    have few1 : e1.length ≤ 1000 := by have := asc_len ok1.asc (by omega); omega
    have few2 : e2.length ≤ 1000 := by have := asc_len ok2.asc (by omega); omega
    obtain ⟨B1, d1, le1'⟩ := done_pair ok1.tab okT n1 (by omega)
    obtain ⟨B2, d2, le2'⟩ := done_pair ok2.tab okT n2 (by omega)
    have B1k : B1 ≤ 400 := by
      have h : m1.toNat * (N : Int).toNat ≤ 3 * 36 := Nat.mul_le_mul (by omega) (by omega)
      omega
    have B2k : B2 ≤ 400 := by
      have h : m2.toNat * (N : Int).toNat ≤ 3 * 36 := Nat.mul_le_mul (by omega) (by omega)
      omega
    have inT := led_bd okT (by omega : (1 : Int) ≤ N)
    -- what is told of the first machine
    refine ⟨_, rfl, _, rfl, _, rfl, a1, L, t1, e1, _, cap, md, rfl, hL, mac10, S1, few1, fun told vs H11 ntold s11 rows11 td nle => ?_⟩
    have bx11 := bx10.same s11
    have mac11 := mac10.same s11
    refine ⟨_, rfl, _, rfl, a1, o, L, t1, cntT L cap md N, e1, _, N, B1, rfl, hL, bx11, okT, by omega, by omega, ⟨mac11, ok1.tab, n1, by omega, few1, d1, B1k⟩, fun pp ps H12 npp s12 hpp nodp memp => ⟨pp, rfl, ⟨_, SqT.of hpp⟩, fun D hD => ?_⟩⟩
    have leanT := dn.lean
    obtain ⟨fw, hfw⟩ : ∃ fw : Int → W, ∀ b : Int, 0 ≤ b ∧ b < (N : Int) → RM.firstV L (cntT L cap md N) b = .str (tx (fw b)) ∧ (∀ c ∈ fw b, c ∈ L) ∧ ledL L (cntT L cap md N) (fw b) 0 = b ∧ (fw b).length ≤ N := Classical.axiomOfChoice (r := fun (b : Int) (u : W) => 0 ≤ b ∧ b < (N : Int) → RM.firstV L (cntT L cap md N) b = .str (tx u) ∧ (∀ c ∈ u, c ∈ L) ∧ ledL L (cntT L cap md N) u 0 = b ∧ u.length ≤ N) fun b => by
      by_cases h : 0 ≤ b ∧ b < (N : Int)
      · obtain ⟨u, h1, h2, h3, h4⟩ := first_led nd okT leanT h
        exact ⟨u, fun _ => ⟨h1, h2, h3, by rw [lenT] at h4; exact h4⟩⟩
      · exact ⟨[], fun z => absurd z h⟩
    have inP : ∀ b ∈ ps, 0 ≤ b ∧ b < (N : Int) := fun b hb => by
      obtain ⟨u, hu, _, rfl⟩ := (places_letters nd d1 b).mp ((memp b).mp hb)
      exact inT u hu
    have lenP : ps.length ≤ 36 := by
      have := nodp.length_le_of_subset (l₂ := numsTo (N : Int)) fun b hb => mem_nums.mpr (inP b hb)
      rw [List.length_map, List.length_range] at this
      omega
    have s112 := s11.trans s12
    have bx12 := bx11.same s12
    refine lc_it walk_tup (fun i H4 => Same H12 H4 ∧ H4 D = some (.lst ((ps.take i).map fun b => V.str (tx (fw b))))) ⟨same_upd hD, upd_same⟩ (fun i H4 _ ⟨s4, _⟩ => SqT.of (s4 _ _ hpp)) ?_ ?_
    · rintro i x H4 H5x hi ⟨s4, hd4⟩ ⟨rfl, hx⟩
      rw [List.length_map] at hi
      obtain rfl : x = .int ps[i] := by
        rw [List.getElem?_map, List.getElem?_eq_getElem hi] at hx
        exact (Option.some.inj hx).symm
      have hb := inP _ (List.getElem_mem hi)
      obtain ⟨f1, f2, f3, f4⟩ := hfw _ hb
      have bx4 := bx12.same s4
      obtain ⟨dxb, rb, hob, _⟩ := id bx4
      refine ⟨rfl, _, rfl, o, dxb, _, rfl, hob, bfl_noF, _, rfl, o, L, cntT L cap md N, N, ps[i], rfl, bx4, hL, okT, by omega, hb.1, hb.2, fun H6 s6 => ?_⟩
      rw [f1]
      refine ⟨_, s6 _ _ hd4, ?_, same_at (s4.trans s6) hD, ?_⟩
      · rw [List.length_map, List.length_take, sizeLine_eq]
        omega
      · rw [upd_same, List.take_add_one, List.getElem?_eq_getElem hi, List.map_append] <;> rfl
    rintro H13 ⟨s13, hd13⟩
    rw [List.length_map, List.take_length] at hd13
    have s1013 := s112.trans s13
    dsimp only [gName]
    obtain ⟨ws, hws⟩ : ∃ ws : List W, ws = ps.map fw := ⟨_, rfl⟩
    have hd13 : H13 D = some (.lst (ws.map fun u => V.str (tx u))) := by rw [hd13, hws, List.map_map] <;> rfl
    have lenW : ws.length ≤ 36 := by rw [hws, List.length_map]; exact lenP
    have wsin : ∀ u ∈ ws, (∀ c ∈ u, c ∈ L) ∧ u.length ≤ 36 := fun u hu => by
      rw [hws] at hu
      obtain ⟨b, hb, rfl⟩ := List.mem_map.mp hu
      obtain ⟨f1, f2, f3, f4⟩ := hfw _ (inP b hb)
      exact ⟨f2, by omega⟩
    have F9 : Firsts L cap md t1 e1 ws := by
      refine ⟨lenW, wsin, fun u hu => ?_, fun u hu he => ?_, ?_⟩
      · rw [hws] at hu
        obtain ⟨b, hb, rfl⟩ := List.mem_map.mp hu
        obtain ⟨f1, f2, f3, f4⟩ := hfw _ (inP b hb)
        obtain ⟨v, hv, h1, h2⟩ := (places_letters nd d1 b).mp ((memp b).mp hb)
        exact ⟨v, hv, h1, (place_same dn S1.c0 S1.m0 f2 hv).mp (f3.trans h2.symm)⟩
      · have hb : ledL L (cntT L cap md N) u 0 ∈ ps := (memp _).mpr ((places_letters nd d1 _).mpr ⟨u, hu, he, rfl⟩)
        obtain ⟨f1, f2, f3, f4⟩ := hfw _ (inP _ hb)
        exact ⟨fw (ledL L (cntT L cap md N) u 0), by rw [hws]; exact List.mem_map_of_mem hb, (place_same dn S1.c0 S1.m0 hu f2).mp f3.symm⟩
      · rw [hws, List.map_map]
        refine List.pairwise_map.mpr (nodp.imp_of_mem fun {a b} ha hb ab e => ab ?_)
        obtain ⟨f1, f2, f3, f4⟩ := hfw _ (inP a ha)
        obtain ⟨g1, g2, g3, g4⟩ := hfw _ (inP b hb)
        rw [← f3, ← g3]
        exact (place_same dn S1.c0 S1.m0 f2 g2).mpr e
    have S13 : Sc9 C CM H13 L cap md N t1 t2 e1 e2 m1 m2 a1 o q1 q2 told vs := { hL := hL, S1 := S1, S2 := S2, m13 := le1, m23 := le2, f1 := few1, f2 := few2, dn := dn, N36 := N36, ok1 := ok1, ok2 := ok2, mac := mac10.same s1013, bx := bx10.same s1013, pl1 := pl10.same s1013, pl2 := po10.same s1013, rows := rows11.keep (Same.tup' (s12.trans s13)), td := td, few := nle }
    refine r6 p L cap md N t1 t2 e1 e2 m1 m2 a1 o q1 q2 told vs D ws H13 S13 F9 hd13 (fun H' s' => ?_)
    have s' := s1013.trans s'
    refine q H' (hD7.keep fun o e => ?_) (gr10.2.1.ext s') fun b ob e n z => ?_
    · obtain ⟨x, y, w', e', _⟩ := hD7
      rw [e'] at e
      injection e with e
      subst e
      exact s' _ _ (gr10.1 _ _ (s8 _ _ e') (fun _ z => nomatch z))
    · exact s' _ _ (gr10.1 _ _ (s8 _ _ (b7 _ _ e n)) z)
end
end WK
set_option Elab.async false
set_option linter.all false
set_option maxRecDepth 100000
set_option maxHeartbeats 8000000
namespace WK
open PySem L2 PyProof.Rows LCX K1 FV DP LamX
open TX (sg sigs)
open PySem.W (Frag kitOne)
abbrev sLaw9 : Stmt := top 95
abbrev NL9 : List Str := ["_law_script", "_law_spot", "_law_dice_here", "_law_turn"]
def spLaw9 (K : Frag) (T : List (Addr × Str)) : Sp := fun vs H Q _ => ∃ (s : Addr) (ns : List Int), vs = [.ref s] ∧ SqL K H s (ns.map V.int) ∧ ns.length ≤ 63 ∧ Tabs T H ∧ ∀ H', Q (.bl true) H'
theorem seq9 {K : Frag} {H H' : Hp} {a : Addr} {xs : List V} (e : ExtN H H') (h : SqL K H a xs) : SqL K H' a xs := by
  rcases h with (h | ⟨o, h⟩) | h
  · exact .inl (.inl (e _ _ h fun _ z => nomatch z))
  · exact .inl (.inr ⟨o, e _ _ h fun _ z => nomatch z⟩)
  · exact .inr h
section
variable {P : Program} {w : World} {K : PySem.W.Frag} {mg : Str → Option Value} {base : Heap} {T : List (Addr × Str)}
variable {fD fRi : Addr} {dD dRi : FuncData}
theorem scL9 : FnScope NL9 ["_law_script"] (defScope sLaw9) := ⟨rfl, rfl, rfl, by decide +kernel, rfl, by decide +kernel, by decide +kernel⟩
theorem ok_law9 {f : Addr} {fd : FuncData} (F : Fun K "law" "law" sLaw9 f fd) (TT : TN mg)
    (AD : Fn K mg "_law_dice" sDice ["_law_script", "_law_at"] fD dD) (GD : FnOk P w K mg base CX0 1 fD dD ["_law_script", "_law_at"] (spDice K))
    (ARi : Fn K mg "_law_right" sRt ["_law_dice_here"] fRi dRi) (GRi : FnOk P w K mg base CX0 9 fRi dRi ["_law_dice_here"] (spRt T)) : FnOk P w K mg base CX0 10 f fd ["_law_script"] (spLaw9 K T) := by
  refine F.ok scL9 (fun vs H Q E h => ?_) (fun cdv A outer s H vs Q E hr h => ?_)
  · obtain ⟨s, ns, rfl, _⟩ := h
    rfl
  · obtain ⟨sc, ns, rfl, hS, hl, hT, q⟩ := h
    have hr1 : Room 1 _ := hr.mono (by decide)
    refine ⟨_, pss_cons (ps_for PassesOwn.never rfl (pi_range1 rfl TT.rng (pa_cons (pe_callB (call_max2 rfl) (by rfl) TT.max (by decide +kernel) (pa_cons pe_int (pa_cons (pe_callB (call_min2 rfl) (by rfl) TT.min (by decide +kernel) (pa_cons pe_int (pa_cons (pe_callB call_len_seq (by rfl) TT.len PySem.boot_len (pa_cons (pv 0) pa_nil)) pa_nil))) pa_nil))) pa_nil)) (pg_name (i := 1) scL9.nd rfl (Or.inl rfl))
        (pss_cons (ps_set (i := 2) scL9.nd rfl (Or.inl rfl) (pe_call (E := E0) GD hr1 rfl AD.g AD.F.kp AD.b .nil pass0 (pa_cons (pv 0) (pa_cons (pv 1) pa_nil))))
        (pss_one (ps_for PassesOwn.never rfl (pi_range1 rfl TT.rng (pa_cons pe_int pa_nil)) (pg_name (i := 3) scL9.nd rfl (Or.inl rfl))
          (pss_one (ps_if (pt_not (pt_val (pe_call (E := E0) GRi hr rfl ARi.g ARi.F.kp ARi.b .nil pass0 (pa_cons (pv 2) pa_nil)))) (pss_one (ps_ret pe_bl)) pss_nil))))))
      (pss_one (ps_ret pe_bl)), ?_⟩
    have len : ((ns.map V.int).length : Int) ≤ 63 := by
      rw [List.length_map]
      omega
    have len0 : (0 : Int) ≤ ((ns.map V.int).length : Int) := Int.natCast_nonneg _
    refine ⟨_, rfl, sc, _, rfl, .inl hS, _, _, rfl, _, _, rfl, _, rfl, by split <;> split <;> omega, by split <;> split <;> omega, ?_⟩
    refine for_range (lo := 0) (fun i σ H1 => (∃ a b c, σ = [some (.ref sc), a, b, c]) ∧ ExtN H H1 ∧ Tabs T H1) ⟨⟨_, _, _, rfl⟩, ExtN.refl H, hT⟩ ?_ ?_
    · rintro i σ H1 hi ⟨⟨a, b, c, rfl⟩, s1, t1⟩
      refine ⟨_, rfl, _, rfl, sc, ns, _, rfl, seq9 s1 hS, by omega, fun p H2 hp s2 hD => ?_⟩
      refine ⟨2, rfl, by omega, by omega, ?_⟩
      have free : ∀ b o, H b = some o → (∀ ps, o ≠ .tbl ps) → b ≠ p := fun b o e n => ne_of_none (s1 b o e n) hp
      refine for_range (lo := 0) (n := 2) (fun j σ H3 => (∃ a c, σ = [some (.ref sc), a, some (.ref p), c]) ∧ ExtN H H3 ∧ DiceAt H3 p ∧ Tabs T H3) ⟨⟨_, _, rfl⟩, fun b o e n => s2 _ _ (s1 b o e n), hD, t1.ext s2⟩ ?_ ?_
      · rintro j σ H3 hj ⟨⟨a, c, rfl⟩, s3, hD3, t3⟩
        refine ⟨_, rfl, p, rfl, hD3, t3, fun H4 hD4 t4 b4 => ⟨true, rfl, ?_⟩⟩
        exact ⟨⟨_, _, rfl⟩, fun b o e n => b4 _ _ (s3 b o e n) (free b o e n) n, hD4, t4⟩
      · rintro σ H3 ⟨⟨a, c, rfl⟩, s3, hD3, t3⟩
        exact ⟨⟨_, _, _, rfl⟩, s3, t3⟩
    rintro σ H1 ⟨⟨a, b, c, rfl⟩, _, t1⟩
    exact q _
end
end WK
set_option Elab.async false
set_option linter.all false
set_option maxRecDepth 100000
set_option maxHeartbeats 8000000
namespace WK
open PySem L2 PyProof.Rows LCX K1 FV DP LamX
open TX (sg sigs)
open PySem.W (Frag kitOne)
abbrev sMLet : Stmt := inClass (top 43) 1
abbrev sMTab : Stmt := inClass (top 43) 2
abbrev sMEnd : Stmt := inClass (top 43) 3
theorem binds_one {K : Frag} {f T : Addr} {e : Value} {j : Option Addr} {u : Value} {m : Nat} {wv : Array (Option Value)} (lt : K.lookup T = some ⟨e, j, .seq #[u] m, wv⟩) {fd : FuncData} {a b c d : Str} (hd : fd.defaults = .ref T)
    (hb : ∀ x1 x2 x3 x4 : Value, ∃ k, bindArgs fd ⟨[x1, x2, x3, x4], []⟩ = seqItems? fd.defaults >>= k ∧ k (some #[u]) = pure [(a, x1), (b, x2), (c, x3), (d, x4)]) : L2.Binds K fd [a, b, c, d] [] := fun s us hin hl => by
  match us, hl with
  | [x1, x2, x3, x4], _ =>
    obtain ⟨k, h1, h2⟩ := hb x1 x2 x3 x4
    exact PySem.W.binds_K hin hd lt rfl h1 h2
theorem binds_dfl {K : Frag} {f T : Addr} {e : Value} {j : Option Addr} {u : Value} {m : Nat} {wv : Array (Option Value)} (lt : K.lookup T = some ⟨e, j, .seq #[u] m, wv⟩) {fd : FuncData} {a b c d : Str} (hd : fd.defaults = .ref T)
    (hb : ∀ x1 x2 x3 : Value, ∃ k, bindArgs fd ⟨[x1, x2, x3], []⟩ = seqItems? fd.defaults >>= k ∧ k (some #[u]) = pure [(a, x1), (b, x2), (c, x3), (d, u)]) : L2.Binds K fd [a, b, c, d] [u] := fun s us hin hl => by
  have three : us.length = 3 := by
    rw [List.length_append] at hl
    exact Nat.succ.inj hl
  match us, three with
  | [x1, x2, x3], _ =>
    obtain ⟨k, h1, h2⟩ := hb x1 x2 x3
    exact PySem.W.binds_K hin hd lt rfl h1 h2
theorem all_mk {l : PySem.W.OpenLaw} {w : World} {K : Frag} {h : Heap} {mg : Str → Option Value} {C cD CM cI fa aCS cN PN pK pl pt pml pmt pme t4 t5 t57 f0 f1 f2 f3 f4 f5 f6 f7 f8 f9 f10 f11 f12 f13 f14 f15 f16 f17 f18 f19 f20 f21 f22 f23 f24 f25 f26 f27 f28 f29 f30 f31 f32 f33 f34 f35 f36 f37 f38 f39 f40 f41 f42 f43 f44 f45 f46 f47 f48 f49 f50 f51 f52 f53 f54 f55 f56 f57 f58 f59 f60 f61 f62 f63 f64 f65 f66 : Addr} (X : K.In h) (G : h.Ns mainGlobals mg) (hfa : mg "law" = some (.ref fa))
    {rK rl rt rml rmt rme : List Value} {xMAX_MADE x_MAX_CAP x_MAX_MODULUS xMAX_LETTERS xMAX_PLACES xMAX_STATES xMAX_CLERK x_MAX_SEEN : Tok} {e4 e5 u5 e57 u57 : Value} {j4 j5 j57 : Option Addr} {m4 m5 m57 : Nat} {w4 w5 w57 : Array (Option Value)} {od0 an0 od1 an1 od2 an2 od3 an3 od4 an4 od5 an5 od6 an6 od7 an7 od8 an8 od9 an9 od10 an10 od11 an11 od12 an12 od13 an13 od14 an14 od15 an15 od16 an16 od17 an17 od18 an18 od19 an19 od20 an20 od21 an21 od22 an22 od23 an23 od24 an24 od25 an25 od26 an26 od27 an27 od28 an28 od29 an29 od30 an30 od31 an31 od32 an32 od33 an33 od34 an34 od35 an35 od36 an36 od37 an37 od38 an38 od39 an39 od40 an40 od41 an41 od42 an42 od43 an43 od44 an44 od45 an45 od46 an46 od47 an47 od48 an48 od49 an49 od50 an50 od51 an51 od52 an52 od53 an53 od54 an54 od55 an55 od56 an56 od57 an57 od58 an58 od59 an59 od60 an60 od61 an61 od62 an62 od63 an63 od64 an64 od65 an65 od66 an66 : Option Addr} {sl0 sl1 sl2 sl3 sl4 sl5 sl6 sl7 sl8 sl9 sl10 sl11 sl12 sl13 sl14 sl15 sl16 sl17 sl18 sl19 sl20 sl21 sl22 sl23 sl24 sl25 sl26 sl27 sl28 sl29 sl30 sl31 sl32 sl33 sl34 sl35 sl36 sl37 sl38 sl39 sl40 sl41 sl42 sl43 sl44 sl45 sl46 sl47 sl48 sl49 sl50 sl51 sl52 sl53 sl54 sl55 sl56 sl57 sl58 sl59 sl60 sl61 sl62 sl63 sl64 sl65 sl66 : Array (Option Value)} {oc0 kV0 dc0 pm0 ct0 cd0 oc1 kV1 dc1 pm1 ct1 cd1 oc2 kV2 dc2 pm2 ct2 cd2 oc3 kV3 dc3 pm3 ct3 cd3 oc4 kV4 dc4 pm4 ct4 cd4 oc5 kV5 dc5 pm5 ct5 cd5 oc6 kV6 dc6 pm6 ct6 cd6 oc7 kV7 dc7 pm7 ct7 cd7 oc8 kV8 dc8 pm8 ct8 cd8 oc9 kV9 dc9 pm9 ct9 cd9 oc10 kV10 dc10 pm10 ct10 cd10 oc11 kV11 dc11 pm11 ct11 cd11 oc12 kV12 dc12 pm12 ct12 cd12 oc13 kV13 dc13 pm13 ct13 cd13 oc14 kV14 dc14 pm14 ct14 cd14 oc15 kV15 dc15 pm15 ct15 cd15 oc16 kV16 dc16 pm16 ct16 cd16 oc17 kV17 dc17 pm17 ct17 cd17 oc18 kV18 dc18 pm18 ct18 cd18 oc19 kV19 dc19 pm19 ct19 cd19 oc20 kV20 dc20 pm20 ct20 cd20 oc21 kV21 dc21 pm21 ct21 cd21 oc22 kV22 dc22 pm22 ct22 cd22 oc23 kV23 dc23 pm23 ct23 cd23 oc24 kV24 dc24 pm24 ct24 cd24 oc25 kV25 dc25 pm25 ct25 cd25 oc26 kV26 dc26 pm26 ct26 cd26 oc27 kV27 dc27 pm27 ct27 cd27 oc28 kV28 dc28 pm28 ct28 cd28 oc29 kV29 dc29 pm29 ct29 cd29 oc30 kV30 dc30 pm30 ct30 cd30 oc31 kV31 dc31 pm31 ct31 oc32 kV32 dc32 pm32 ct32 cd32 oc33 kV33 dc33 pm33 ct33 cd33 oc34 kV34 dc34 pm34 ct34 cd34 oc35 kV35 dc35 pm35 ct35 cd35 oc36 kV36 dc36 pm36 ct36 cd36 oc37 kV37 dc37 pm37 ct37 cd37 oc38 kV38 dc38 pm38 ct38 cd38 oc39 kV39 dc39 pm39 ct39 cd39 oc40 kV40 dc40 pm40 ct40 cd40 oc41 kV41 dc41 pm41 ct41 cd41 oc42 kV42 dc42 pm42 ct42 cd42 oc43 kV43 dc43 pm43 ct43 cd43 oc44 kV44 dc44 pm44 ct44 cd44 oc45 kV45 dc45 pm45 ct45 cd45 oc46 kV46 dc46 pm46 ct46 cd46 oc47 kV47 dc47 pm47 ct47 cd47 oc48 kV48 dc48 pm48 ct48 cd48 oc49 kV49 dc49 pm49 ct49 cd49 oc50 kV50 dc50 pm50 ct50 cd50 oc51 kV51 dc51 pm51 ct51 cd51 oc52 kV52 dc52 pm52 ct52 cd52 oc53 kV53 dc53 pm53 ct53 cd53 oc54 kV54 dc54 pm54 ct54 cd54 oc55 kV55 dc55 pm55 ct55 cd55 oc56 kV56 dc56 pm56 ct56 cd56 oc57 kV57 dc57 pm57 ct57 cd57 oc58 kV58 dc58 pm58 ct58 cd58 oc59 kV59 dc59 pm59 ct59 cd59 oc60 kV60 dc60 pm60 ct60 cd60 oc61 kV61 dc61 pm61 ct61 cd61 oc62 kV62 dc62 pm62 ct62 cd62 oc63 kV63 dc63 pm63 ct63 cd63 oc64 kV64 dc64 pm64 ct64 cd64 oc65 kV65 dc65 pm65 ct65 cd65 oc66 kV66 dc66 pm66 ct66 cd66 : Value}
    (gb : PySem.W.nsIn K mainGlobals "Box" = some (some (.ref C)))
    (gd : PySem.W.nsIn K mainGlobals "Made" = some (some (.ref cD)))
    (gm : PySem.W.nsIn K mainGlobals "Machine" = some (some (.ref CM)))
    (pgb : PySem.W.plainGet K C Str.empty = true)
    (hdb : PySem.W.hasDictIn K C = true)
    (pob : PySem.W.plainOver K C = true)
    (sab : PySem.W.findIn K (.ref C) "__setattr__" = some (some (.builtin "object.__setattr__")))
    (ccb : PySem.W.findIn K (.ref C) "__class__" = some (some (.builtin "object.__class__")))
    (obb : PySem.W.mroIn K C (.type "object") = some true)
    (mkb : PySem.W.makesIn K C = true)
    (kCb : PySem.W.keepIn K (.ref C) = true)
    (ib : PySem.W.findIn K (.ref C) "__init__" = some (some (.ref f56)))
    (nib : PySem.W.isFn K (.ref f56) = true)
    (pgd : PySem.W.plainGet K cD Str.empty = true)
    (hdd : PySem.W.hasDictIn K cD = true)
    (pod : PySem.W.plainOver K cD = true)
    (sad : PySem.W.findIn K (.ref cD) "__setattr__" = some (some (.builtin "object.__setattr__")))
    (ccd : PySem.W.findIn K (.ref cD) "__class__" = some (some (.builtin "object.__class__")))
    (obd : PySem.W.mroIn K cD (.type "object") = some true)
    (mkd : PySem.W.makesIn K cD = true)
    (kCd : PySem.W.keepIn K (.ref cD) = true)
    (id : PySem.W.findIn K (.ref cD) "__init__" = some (some (.ref f55)))
    (nid : PySem.W.isFn K (.ref f55) = true)
    (pgm : PySem.W.plainGet K CM Str.empty = true)
    (hdm : PySem.W.hasDictIn K CM = true)
    (pom : PySem.W.plainOver K CM = true)
    (sam : PySem.W.findIn K (.ref CM) "__setattr__" = some (some (.builtin "object.__setattr__")))
    (ccm : PySem.W.findIn K (.ref CM) "__class__" = some (some (.builtin "object.__class__")))
    (obm : PySem.W.mroIn K CM (.type "object") = some true)
    (mkm : PySem.W.makesIn K CM = true)
    (kCm : PySem.W.keepIn K (.ref CM) = true)
    (im : PySem.W.findIn K (.ref CM) "__init__" = some (some (.ref f57)))
    (nim : PySem.W.isFn K (.ref f57) = true)
    (cn : PySem.W.specialIn K (.builtin "object.__class__") "__get__" = some (some (.builtin "getset_descriptor.__get__")))
    (ct : PySem.W.takesIn K (.builtin "object.__class__") = some true)
    (nT : PySem.W.findIn K (.ref C) "_table" = some none)
    (nL : PySem.W.findIn K (.ref C) "_letters" = some none)
    (nR : PySem.W.findIn K (.ref cD) "rows" = some none)
    (nMT : PySem.W.findIn K (.ref CM) "_table" = some none)
    (nML : PySem.W.findIn K (.ref CM) "_letters" = some none)
    (nME : PySem.W.findIn K (.ref CM) "_ends" = some none)
    (rd : PySem.W.readsIn K C (.type "type") = true)
    (ga : PySem.W.specialIn K (.ref C) "__getattribute__" = some (some (.builtin "type.__getattribute__")))
    (cmK : PySem.W.findCls K (.ref C) (.type "type") "clerk" = some (PySem.W.CFound.get (.builtin "classmethod.__get__") (.ref pK) .none (.ref C)))
    (crK : PySem.W.recIn K pK "classmethod" = some (.ref f58 :: rK))
    (cfK : PySem.W.fnIn K f58 = true)
    (pal : PySem.W.findIn K (.ref C) "letters" = some (some (.ref pl)))
    (pg_l : PySem.W.specialIn K (.ref pl) "__get__" = some (some (.builtin "property.__get__")))
    (pt_l : PySem.W.takesIn K (.ref pl) = some true)
    (pr_l : PySem.W.recIn K pl "property" = some (.ref f59 :: rl))
    (pat : PySem.W.findIn K (.ref C) "table" = some (some (.ref pt)))
    (pg_t : PySem.W.specialIn K (.ref pt) "__get__" = some (some (.builtin "property.__get__")))
    (pt_t : PySem.W.takesIn K (.ref pt) = some true)
    (pr_t : PySem.W.recIn K pt "property" = some (.ref f60 :: rt))
    (paml : PySem.W.findIn K (.ref CM) "letters" = some (some (.ref pml)))
    (pg_ml : PySem.W.specialIn K (.ref pml) "__get__" = some (some (.builtin "property.__get__")))
    (pt_ml : PySem.W.takesIn K (.ref pml) = some true)
    (pr_ml : PySem.W.recIn K pml "property" = some (.ref f63 :: rml))
    (pamt : PySem.W.findIn K (.ref CM) "table" = some (some (.ref pmt)))
    (pg_mt : PySem.W.specialIn K (.ref pmt) "__get__" = some (some (.builtin "property.__get__")))
    (pt_mt : PySem.W.takesIn K (.ref pmt) = some true)
    (pr_mt : PySem.W.recIn K pmt "property" = some (.ref f64 :: rmt))
    (pame : PySem.W.findIn K (.ref CM) "ends" = some (some (.ref pme)))
    (pg_me : PySem.W.specialIn K (.ref pme) "__get__" = some (some (.builtin "property.__get__")))
    (pt_me : PySem.W.takesIn K (.ref pme) = some true)
    (pr_me : PySem.W.recIn K pme "property" = some (.ref f65 :: rme))
    (a61 : PySem.W.findIn K (.ref C) "__call__" = some (some (.ref f61)))
    (n61 : PySem.W.isFn K (.ref f61) = true)
    (a62 : PySem.W.findIn K (.ref C) "first_word" = some (some (.ref f62)))
    (n62 : PySem.W.isFn K (.ref f62) = true)
    (a66 : PySem.W.findIn K (.ref CM) "__len__" = some (some (.ref f66)))
    (n66 : PySem.W.isFn K (.ref f66) = true)
    (fiC : PySem.W.fnIn K f61 = true)
    (ki : kitOne K (.ref C) (.ref C) = some true)
    (kim : kitOne K (.ref CM) (.ref CM) = some true)
    (kitD : (plainTys.all fun t => kitOne K (.type t) (.ref cD) == some false) = true)
    (kt : kitOne K (.type "tuple") (.ref cD) = some false)
    (gNF : PySem.W.nsIn K mainGlobals "need_finding" = some (some (.ref f0)))
    (gNS : PySem.W.nsIn K mainGlobals "need_sights" = some (some (.ref f36)))
    (gCS : PySem.W.nsIn K mainGlobals "COUNT_SORTS" = some (some (.ref aCS)))
    (tCS : ∀ H : Hp, SqT K H aCS [V.str "caps", V.str "sums", V.str "clerks"])
    (gI : PySem.W.nsIn K mainGlobals "InvalidMachine" = some (some (.ref cI)))
    (xI : PySem.W.excIn K cI [.type "ValueError", .type "Exception", .type "BaseException", .type "object"] "ValueError.__new__" = true)
    (kI : PySem.W.keepIn K (.ref cI) = true)
    (bI : PySem.W.subIn K (.ref cI) (.type "BaseException") = some true)
    (tI : PySem.W.typeIn K (.ref cI) = some (.type "type"))
    (l0 : K.lookup f0 = some ⟨oc0, od0, .func (PySem.W.fnOf "_need" "_need" (defArgs sNeedF) (defBody sNeedF) (defScope sNeedF) .none kV0 dc0 pm0 an0 cd0 ct0), sl0⟩)
    (q0 : PySem.W.codeIn K cd0 "_need" = true)
    (k0 : PySem.W.keepIn K (.ref f0) = true)
    (d1 : PySem.W.nsIn K mainGlobals "led" = some (some (.ref f1)))
    (l1 : K.lookup f1 = some ⟨oc1, od1, .func (PySem.W.fnOf "led" "led" (defArgs sLed) (defBody sLed) (defScope sLed) .none kV1 dc1 pm1 an1 cd1 ct1), sl1⟩)
    (q1 : PySem.W.codeIn K cd1 "led" = true)
    (k1 : PySem.W.keepIn K (.ref f1) = true)
    (d2 : PySem.W.nsIn K mainGlobals "ways" = some (some (.ref f2)))
    (l2 : K.lookup f2 = some ⟨oc2, od2, .func (PySem.W.fnOf "ways" "ways" (defArgs sWays) (defBody sWays) (defScope sWays) .none kV2 dc2 pm2 an2 cd2 ct2), sl2⟩)
    (q2 : PySem.W.codeIn K cd2 "ways" = true)
    (k2 : PySem.W.keepIn K (.ref f2) = true)
    (d3 : PySem.W.nsIn K mainGlobals "word_along" = some (some (.ref f3)))
    (l3 : K.lookup f3 = some ⟨oc3, od3, .func (PySem.W.fnOf "word_along" "word_along" (defArgs sAlong) (defBody sAlong) (defScope sAlong) .none kV3 dc3 pm3 an3 cd3 ct3), sl3⟩)
    (q3 : PySem.W.codeIn K cd3 "word_along" = true)
    (k3 : PySem.W.keepIn K (.ref f3) = true)
    (d4 : PySem.W.nsIn K mainGlobals "paired" = some (some (.ref f4)))
    (l4 : K.lookup f4 = some ⟨oc4, od4, .func (PySem.W.fnOf "paired" "paired" (defArgs sPaired) (defBody sPaired) (defScope sPaired) (.ref t4) kV4 dc4 pm4 an4 cd4 ct4), sl4⟩)
    (q4 : PySem.W.codeIn K cd4 "paired" = true)
    (k4 : PySem.W.keepIn K (.ref f4) = true)
    (d5 : PySem.W.nsIn K mainGlobals "explored" = some (some (.ref f5)))
    (l5 : K.lookup f5 = some ⟨oc5, od5, .func (PySem.W.fnOf "explored" "explored" (defArgs sExpl) (defBody sExpl) (defScope sExpl) (.ref t5) kV5 dc5 pm5 an5 cd5 ct5), sl5⟩)
    (q5 : PySem.W.codeIn K cd5 "explored" = true)
    (k5 : PySem.W.keepIn K (.ref f5) = true)
    (d6 : PySem.W.nsIn K mainGlobals "is_integer" = some (some (.ref f6)))
    (l6 : K.lookup f6 = some ⟨oc6, od6, .func (PySem.W.fnOf "is_integer" "is_integer" (defArgs sIsInt) (defBody sIsInt) (defScope sIsInt) .none kV6 dc6 pm6 an6 cd6 ct6), sl6⟩)
    (q6 : PySem.W.codeIn K cd6 "is_integer" = true)
    (k6 : PySem.W.keepIn K (.ref f6) = true)
    (d7 : PySem.W.nsIn K mainGlobals "is_number" = some (some (.ref f7)))
    (l7 : K.lookup f7 = some ⟨oc7, od7, .func (PySem.W.fnOf "is_number" "is_number" (defArgs sIsNum) (defBody sIsNum) (defScope sIsNum) .none kV7 dc7 pm7 an7 cd7 ct7), sl7⟩)
    (q7 : PySem.W.codeIn K cd7 "is_number" = true)
    (k7 : PySem.W.keepIn K (.ref f7) = true)
    (d8 : PySem.W.nsIn K mainGlobals "need_number" = some (some (.ref f8)))
    (l8 : K.lookup f8 = some ⟨oc8, od8, .func (PySem.W.fnOf "need_number" "need_number" (defArgs sNeedNum) (defBody sNeedNum) (defScope sNeedNum) .none kV8 dc8 pm8 an8 cd8 ct8), sl8⟩)
    (q8 : PySem.W.codeIn K cd8 "need_number" = true)
    (k8 : PySem.W.keepIn K (.ref f8) = true)
    (d9 : PySem.W.nsIn K mainGlobals "is_pair" = some (some (.ref f9)))
    (l9 : K.lookup f9 = some ⟨oc9, od9, .func (PySem.W.fnOf "is_pair" "is_pair" (defArgs sIsPair) (defBody sIsPair) (defScope sIsPair) .none kV9 dc9 pm9 an9 cd9 ct9), sl9⟩)
    (q9 : PySem.W.codeIn K cd9 "is_pair" = true)
    (k9 : PySem.W.keepIn K (.ref f9) = true)
    (d10 : PySem.W.nsIn K mainGlobals "ascends" = some (some (.ref f10)))
    (l10 : K.lookup f10 = some ⟨oc10, od10, .func (PySem.W.fnOf "ascends" "ascends" (defArgs sAsc) (defBody sAsc) (defScope sAsc) .none kV10 dc10 pm10 an10 cd10 ct10), sl10⟩)
    (q10 : PySem.W.codeIn K cd10 "ascends" = true)
    (k10 : PySem.W.keepIn K (.ref f10) = true)
    (d11 : PySem.W.nsIn K mainGlobals "is_ascending" = some (some (.ref f11)))
    (l11 : K.lookup f11 = some ⟨oc11, od11, .func (PySem.W.fnOf "is_ascending" "is_ascending" (defArgs sIsAsc) (defBody sIsAsc) (defScope sIsAsc) .none kV11 dc11 pm11 an11 cd11 ct11), sl11⟩)
    (q11 : PySem.W.codeIn K cd11 "is_ascending" = true)
    (k11 : PySem.W.keepIn K (.ref f11) = true)
    (d12 : PySem.W.nsIn K mainGlobals "is_table" = some (some (.ref f12)))
    (l12 : K.lookup f12 = some ⟨oc12, od12, .func (PySem.W.fnOf "is_table" "is_table" (defArgs sIsTab) (defBody sIsTab) (defScope sIsTab) .none kV12 dc12 pm12 an12 cd12 ct12), sl12⟩)
    (q12 : PySem.W.codeIn K cd12 "is_table" = true)
    (k12 : PySem.W.keepIn K (.ref f12) = true)
    (d13 : PySem.W.nsIn K mainGlobals "_is_row" = some (some (.ref f13)))
    (l13 : K.lookup f13 = some ⟨oc13, od13, .func (PySem.W.fnOf "_is_row" "_is_row" (defArgs sIsRow) (defBody sIsRow) (defScope sIsRow) .none kV13 dc13 pm13 an13 cd13 ct13), sl13⟩)
    (q13 : PySem.W.codeIn K cd13 "_is_row" = true)
    (k13 : PySem.W.keepIn K (.ref f13) = true)
    (d14 : PySem.W.nsIn K mainGlobals "is_letters" = some (some (.ref f14)))
    (l14 : K.lookup f14 = some ⟨oc14, od14, .func (PySem.W.fnOf "is_letters" "is_letters" (defArgs sIsLet) (defBody sIsLet) (defScope sIsLet) .none kV14 dc14 pm14 an14 cd14 ct14), sl14⟩)
    (q14 : PySem.W.codeIn K cd14 "is_letters" = true)
    (k14 : PySem.W.keepIn K (.ref f14) = true)
    (d15 : PySem.W.nsIn K mainGlobals "is_word" = some (some (.ref f15)))
    (l15 : K.lookup f15 = some ⟨oc15, od15, .func (PySem.W.fnOf "is_word" "is_word" (defArgs sIsWord) (defBody sIsWord) (defScope sIsWord) .none kV15 dc15 pm15 an15 cd15 ct15), sl15⟩)
    (q15 : PySem.W.codeIn K cd15 "is_word" = true)
    (k15 : PySem.W.keepIn K (.ref f15) = true)
    (d16 : PySem.W.nsIn K mainGlobals "is_over" = some (some (.ref f16)))
    (l16 : K.lookup f16 = some ⟨oc16, od16, .func (PySem.W.fnOf "is_over" "is_over" (defArgs sIsOver) (defBody sIsOver) (defScope sIsOver) .none kV16 dc16 pm16 an16 cd16 ct16), sl16⟩)
    (q16 : PySem.W.codeIn K cd16 "is_over" = true)
    (k16 : PySem.W.keepIn K (.ref f16) = true)
    (d17 : PySem.W.nsIn K mainGlobals "need_letters" = some (some (.ref f17)))
    (l17 : K.lookup f17 = some ⟨oc17, od17, .func (PySem.W.fnOf "need_letters" "need_letters" (defArgs sNeedLet) (defBody sNeedLet) (defScope sNeedLet) .none kV17 dc17 pm17 an17 cd17 ct17), sl17⟩)
    (q17 : PySem.W.codeIn K cd17 "need_letters" = true)
    (k17 : PySem.W.keepIn K (.ref f17) = true)
    (d18 : PySem.W.nsIn K mainGlobals "need_word" = some (some (.ref f18)))
    (l18 : K.lookup f18 = some ⟨oc18, od18, .func (PySem.W.fnOf "need_word" "need_word" (defArgs sNeedWord) (defBody sNeedWord) (defScope sNeedWord) .none kV18 dc18 pm18 an18 cd18 ct18), sl18⟩)
    (q18 : PySem.W.codeIn K cd18 "need_word" = true)
    (k18 : PySem.W.keepIn K (.ref f18) = true)
    (d19 : PySem.W.nsIn K mainGlobals "need_over" = some (some (.ref f19)))
    (l19 : K.lookup f19 = some ⟨oc19, od19, .func (PySem.W.fnOf "need_over" "need_over" (defArgs sNeedOver) (defBody sNeedOver) (defScope sNeedOver) .none kV19 dc19 pm19 an19 cd19 ct19), sl19⟩)
    (q19 : PySem.W.codeIn K cd19 "need_over" = true)
    (k19 : PySem.W.keepIn K (.ref f19) = true)
    (d20 : PySem.W.nsIn K mainGlobals "counts" = some (some (.ref f20)))
    (l20 : K.lookup f20 = some ⟨oc20, od20, .func (PySem.W.fnOf "counts" "counts" (defArgs sCounts) (defBody sCounts) (defScope sCounts) .none kV20 dc20 pm20 an20 cd20 ct20), sl20⟩)
    (q20 : PySem.W.codeIn K cd20 "counts" = true)
    (k20 : PySem.W.keepIn K (.ref f20) = true)
    (d21 : PySem.W.nsIn K mainGlobals "need_machines" = some (some (.ref f21)))
    (l21 : K.lookup f21 = some ⟨oc21, od21, .func (PySem.W.fnOf "need_machines" "need_machines" (defArgs sNeedMs) (defBody sNeedMs) (defScope sNeedMs) .none kV21 dc21 pm21 an21 cd21 ct21), sl21⟩)
    (q21 : PySem.W.codeIn K cd21 "need_machines" = true)
    (k21 : PySem.W.keepIn K (.ref f21) = true)
    (d22 : PySem.W.nsIn K mainGlobals "need_same_letters" = some (some (.ref f22)))
    (l22 : K.lookup f22 = some ⟨oc22, od22, .func (PySem.W.fnOf "need_same_letters" "need_same_letters" (defArgs sSame) (defBody sSame) (defScope sSame) .none kV22 dc22 pm22 an22 cd22 ct22), sl22⟩)
    (q22 : PySem.W.codeIn K cd22 "need_same_letters" = true)
    (k22 : PySem.W.keepIn K (.ref f22) = true)
    (d23 : PySem.W.nsIn K mainGlobals "need_count_sort" = some (some (.ref f23)))
    (l23 : K.lookup f23 = some ⟨oc23, od23, .func (PySem.W.fnOf "need_count_sort" "need_count_sort" (defArgs sNeedCS) (defBody sNeedCS) (defScope sNeedCS) .none kV23 dc23 pm23 an23 cd23 ct23), sl23⟩)
    (q23 : PySem.W.codeIn K cd23 "need_count_sort" = true)
    (k23 : PySem.W.keepIn K (.ref f23) = true)
    (d24 : PySem.W.nsIn K mainGlobals "sight" = some (some (.ref f24)))
    (l24 : K.lookup f24 = some ⟨oc24, od24, .func (PySem.W.fnOf "sight" "sight" (defArgs sSight) (defBody sSight) (defScope sSight) .none kV24 dc24 pm24 an24 cd24 ct24), sl24⟩)
    (q24 : PySem.W.codeIn K cd24 "sight" = true)
    (k24 : PySem.W.keepIn K (.ref f24) = true)
    (d25 : PySem.W.nsIn K mainGlobals "sights" = some (some (.ref f25)))
    (l25 : K.lookup f25 = some ⟨oc25, od25, .func (PySem.W.fnOf "sights" "sights" (defArgs sSights) (defBody sSights) (defScope sSights) .none kV25 dc25 pm25 an25 cd25 ct25), sl25⟩)
    (q25 : PySem.W.codeIn K cd25 "sights" = true)
    (k25 : PySem.W.keepIn K (.ref f25) = true)
    (d26 : PySem.W.nsIn K mainGlobals "is_clerk_for" = some (some (.ref f26)))
    (l26 : K.lookup f26 = some ⟨oc26, od26, .func (PySem.W.fnOf "is_clerk_for" "is_clerk_for" (defArgs sIsClerk) (defBody sIsClerk) (defScope sIsClerk) .none kV26 dc26 pm26 an26 cd26 ct26), sl26⟩)
    (q26 : PySem.W.codeIn K cd26 "is_clerk_for" = true)
    (k26 : PySem.W.keepIn K (.ref f26) = true)
    (d27 : PySem.W.nsIn K mainGlobals "_tells" = some (some (.ref f27)))
    (l27 : K.lookup f27 = some ⟨oc27, od27, .func (PySem.W.fnOf "_tells" "_tells" (defArgs sTells) (defBody sTells) (defScope sTells) .none kV27 dc27 pm27 an27 cd27 ct27), sl27⟩)
    (q27 : PySem.W.codeIn K cd27 "_tells" = true)
    (k27 : PySem.W.keepIn K (.ref f27) = true)
    (d28 : PySem.W.nsIn K mainGlobals "_seen" = some (some (.ref f28)))
    (l28 : K.lookup f28 = some ⟨oc28, od28, .func (PySem.W.fnOf "_seen" "_seen" (defArgs sSeenM) (defBody sSeenM) (defScope sSeenM) .none kV28 dc28 pm28 an28 cd28 ct28), sl28⟩)
    (q28 : PySem.W.codeIn K cd28 "_seen" = true)
    (k28 : PySem.W.keepIn K (.ref f28) = true)
    (d29 : PySem.W.nsIn K mainGlobals "need_box" = some (some (.ref f29)))
    (l29 : K.lookup f29 = some ⟨oc29, od29, .func (PySem.W.fnOf "need_box" "need_box" (defArgs sNeedBox) (defBody sNeedBox) (defScope sNeedBox) .none kV29 dc29 pm29 an29 cd29 ct29), sl29⟩)
    (q29 : PySem.W.codeIn K cd29 "need_box" = true)
    (k29 : PySem.W.keepIn K (.ref f29) = true)
    (d30 : PySem.W.nsIn K mainGlobals "_grown" = some (some (.ref f30)))
    (l30 : K.lookup f30 = some ⟨oc30, od30, .func (PySem.W.fnOf "_grown" "_grown" (defArgs sGrown) (defBody sGrown) (defScope sGrown) .none kV30 dc30 pm30 an30 cd30 ct30), sl30⟩)
    (q30 : PySem.W.codeIn K cd30 "_grown" = true)
    (k30 : PySem.W.keepIn K (.ref f30) = true)
    (d31 : PySem.W.nsIn K mainGlobals "_counting" = some (some (.ref f31)))
    (l31 : K.lookup f31 = some ⟨oc31, od31, .func (PySem.W.fnOf "_counting" "_counting" (defArgs sCount) (defBody sCount) (defScope sCount) .none kV31 dc31 pm31 an31 (.ref cN) ct31), sl31⟩)
    (q31 : PySem.W.codeIn K (.ref cN) "_counting" = true)
    (k31 : PySem.W.keepIn K (.ref f31) = true)
    (d32 : PySem.W.nsIn K mainGlobals "_one_more" = some (some (.ref f32)))
    (l32 : K.lookup f32 = some ⟨oc32, od32, .func (PySem.W.fnOf "_one_more" "_one_more" (defArgs sOneM) (defBody sOneM) (defScope sOneM) .none kV32 dc32 pm32 an32 cd32 ct32), sl32⟩)
    (q32 : PySem.W.codeIn K cd32 "_one_more" = true)
    (k32 : PySem.W.keepIn K (.ref f32) = true)
    (d33 : PySem.W.nsIn K mainGlobals "places" = some (some (.ref f33)))
    (l33 : K.lookup f33 = some ⟨oc33, od33, .func (PySem.W.fnOf "places" "places" (defArgs sPlaces) (defBody sPlaces) (defScope sPlaces) .none kV33 dc33 pm33 an33 cd33 ct33), sl33⟩)
    (q33 : PySem.W.codeIn K cd33 "places" = true)
    (k33 : PySem.W.keepIn K (.ref f33) = true)
    (d34 : PySem.W.nsIn K mainGlobals "tells_apart" = some (some (.ref f34)))
    (l34 : K.lookup f34 = some ⟨oc34, od34, .func (PySem.W.fnOf "tells_apart" "tells_apart" (defArgs sApart) (defBody sApart) (defScope sApart) .none kV34 dc34 pm34 an34 cd34 ct34), sl34⟩)
    (q34 : PySem.W.codeIn K cd34 "tells_apart" = true)
    (k34 : PySem.W.keepIn K (.ref f34) = true)
    (d35 : PySem.W.nsIn K mainGlobals "alike_pair" = some (some (.ref f35)))
    (l35 : K.lookup f35 = some ⟨oc35, od35, .func (PySem.W.fnOf "alike_pair" "alike_pair" (defArgs sAlike) (defBody sAlike) (defScope sAlike) .none kV35 dc35 pm35 an35 cd35 ct35), sl35⟩)
    (q35 : PySem.W.codeIn K cd35 "alike_pair" = true)
    (k35 : PySem.W.keepIn K (.ref f35) = true)
    (d36 : PySem.W.nsIn K mainGlobals "_need" = some (some (.ref f36)))
    (l36 : K.lookup f36 = some ⟨oc36, od36, .func (PySem.W.fnOf "_need" "_need" (defArgs sNeedAll) (defBody sNeedAll) (defScope sNeedAll) .none kV36 dc36 pm36 an36 cd36 ct36), sl36⟩)
    (q36 : PySem.W.codeIn K cd36 "_need" = true)
    (k36 : PySem.W.keepIn K (.ref f36) = true)
    (d37 : PySem.W.nsIn K mainGlobals "_need_letters" = some (some (.ref f37)))
    (l37 : K.lookup f37 = some ⟨oc37, od37, .func (PySem.W.fnOf "_need_letters" "_need_letters" (defArgs sNeedLs) (defBody sNeedLs) (defScope sNeedLs) .none kV37 dc37 pm37 an37 cd37 ct37), sl37⟩)
    (q37 : PySem.W.codeIn K cd37 "_need_letters" = true)
    (k37 : PySem.W.keepIn K (.ref f37) = true)
    (d38 : PySem.W.nsIn K mainGlobals "_first_words" = some (some (.ref f38)))
    (l38 : K.lookup f38 = some ⟨oc38, od38, .func (PySem.W.fnOf "_first_words" "_first_words" (defArgs sFirsts) (defBody sFirsts) (defScope sFirsts) .none kV38 dc38 pm38 an38 cd38 ct38), sl38⟩)
    (q38 : PySem.W.codeIn K cd38 "_first_words" = true)
    (k38 : PySem.W.keepIn K (.ref f38) = true)
    (d39 : PySem.W.nsIn K mainGlobals "_law_dice" = some (some (.ref f39)))
    (l39 : K.lookup f39 = some ⟨oc39, od39, .func (PySem.W.fnOf "_law_dice" "_law_dice" (defArgs sDice) (defBody sDice) (defScope sDice) .none kV39 dc39 pm39 an39 cd39 ct39), sl39⟩)
    (q39 : PySem.W.codeIn K cd39 "_law_dice" = true)
    (k39 : PySem.W.keepIn K (.ref f39) = true)
    (d40 : PySem.W.nsIn K mainGlobals "_law_roll" = some (some (.ref f40)))
    (l40 : K.lookup f40 = some ⟨oc40, od40, .func (PySem.W.fnOf "_law_roll" "_law_roll" (defArgs sRoll) (defBody sRoll) (defScope sRoll) .none kV40 dc40 pm40 an40 cd40 ct40), sl40⟩)
    (q40 : PySem.W.codeIn K cd40 "_law_roll" = true)
    (k40 : PySem.W.keepIn K (.ref f40) = true)
    (d41 : PySem.W.nsIn K mainGlobals "_law_one_of" = some (some (.ref f41)))
    (l41 : K.lookup f41 = some ⟨oc41, od41, .func (PySem.W.fnOf "_law_one_of" "_law_one_of" (defArgs sOne) (defBody sOne) (defScope sOne) .none kV41 dc41 pm41 an41 cd41 ct41), sl41⟩)
    (q41 : PySem.W.codeIn K cd41 "_law_one_of" = true)
    (k41 : PySem.W.keepIn K (.ref f41) = true)
    (d42 : PySem.W.nsIn K mainGlobals "_law_mixed" = some (some (.ref f42)))
    (l42 : K.lookup f42 = some ⟨oc42, od42, .func (PySem.W.fnOf "_law_mixed" "_law_mixed" (defArgs sMixed) (defBody sMixed) (defScope sMixed) .none kV42 dc42 pm42 an42 cd42 ct42), sl42⟩)
    (q42 : PySem.W.codeIn K cd42 "_law_mixed" = true)
    (k42 : PySem.W.keepIn K (.ref f42) = true)
    (d43 : PySem.W.nsIn K mainGlobals "_law_letters" = some (some (.ref f43)))
    (l43 : K.lookup f43 = some ⟨oc43, od43, .func (PySem.W.fnOf "_law_letters" "_law_letters" (defArgs sLetters) (defBody sLetters) (defScope sLetters) .none kV43 dc43 pm43 an43 cd43 ct43), sl43⟩)
    (q43 : PySem.W.codeIn K cd43 "_law_letters" = true)
    (k43 : PySem.W.keepIn K (.ref f43) = true)
    (d44 : PySem.W.nsIn K mainGlobals "_law_action" = some (some (.ref f44)))
    (l44 : K.lookup f44 = some ⟨oc44, od44, .func (PySem.W.fnOf "_law_action" "_law_action" (defArgs sAct) (defBody sAct) (defScope sAct) .none kV44 dc44 pm44 an44 cd44 ct44), sl44⟩)
    (q44 : PySem.W.codeIn K cd44 "_law_action" = true)
    (k44 : PySem.W.keepIn K (.ref f44) = true)
    (d45 : PySem.W.nsIn K mainGlobals "_law_table" = some (some (.ref f45)))
    (l45 : K.lookup f45 = some ⟨oc45, od45, .func (PySem.W.fnOf "_law_table" "_law_table" (defArgs sLTab) (defBody sLTab) (defScope sLTab) .none kV45 dc45 pm45 an45 cd45 ct45), sl45⟩)
    (q45 : PySem.W.codeIn K cd45 "_law_table" = true)
    (k45 : PySem.W.keepIn K (.ref f45) = true)
    (d46 : PySem.W.nsIn K mainGlobals "_law_machine" = some (some (.ref f46)))
    (l46 : K.lookup f46 = some ⟨oc46, od46, .func (PySem.W.fnOf "_law_machine" "_law_machine" (defArgs sLMac) (defBody sLMac) (defScope sLMac) .none kV46 dc46 pm46 an46 cd46 ct46), sl46⟩)
    (q46 : PySem.W.codeIn K cd46 "_law_machine" = true)
    (k46 : PySem.W.keepIn K (.ref f46) = true)
    (d47 : PySem.W.nsIn K mainGlobals "_law_made_machine" = some (some (.ref f47)))
    (l47 : K.lookup f47 = some ⟨oc47, od47, .func (PySem.W.fnOf "_law_made_machine" "_law_made_machine" (defArgs sMade) (defBody sMade) (defScope sMade) .none kV47 dc47 pm47 an47 cd47 ct47), sl47⟩)
    (q47 : PySem.W.codeIn K cd47 "_law_made_machine" = true)
    (k47 : PySem.W.keepIn K (.ref f47) = true)
    (d48 : PySem.W.nsIn K mainGlobals "_law_led" = some (some (.ref f48)))
    (l48 : K.lookup f48 = some ⟨oc48, od48, .func (PySem.W.fnOf "_law_led" "_law_led" (defArgs sLLed) (defBody sLLed) (defScope sLLed) .none kV48 dc48 pm48 an48 cd48 ct48), sl48⟩)
    (q48 : PySem.W.codeIn K cd48 "_law_led" = true)
    (k48 : PySem.W.keepIn K (.ref f48) = true)
    (d49 : PySem.W.nsIn K mainGlobals "_law_has" = some (some (.ref f49)))
    (l49 : K.lookup f49 = some ⟨oc49, od49, .func (PySem.W.fnOf "_law_has" "_law_has" (defArgs sLHas) (defBody sLHas) (defScope sLHas) .none kV49 dc49 pm49 an49 cd49 ct49), sl49⟩)
    (q49 : PySem.W.codeIn K cd49 "_law_has" = true)
    (k49 : PySem.W.keepIn K (.ref f49) = true)
    (d50 : PySem.W.nsIn K mainGlobals "_law_counts" = some (some (.ref f50)))
    (l50 : K.lookup f50 = some ⟨oc50, od50, .func (PySem.W.fnOf "_law_counts" "_law_counts" (defArgs sLCounts) (defBody sLCounts) (defScope sLCounts) .none kV50 dc50 pm50 an50 cd50 ct50), sl50⟩)
    (q50 : PySem.W.codeIn K cd50 "_law_counts" = true)
    (k50 : PySem.W.keepIn K (.ref f50) = true)
    (d51 : PySem.W.nsIn K mainGlobals "_law_all_words" = some (some (.ref f51)))
    (l51 : K.lookup f51 = some ⟨oc51, od51, .func (PySem.W.fnOf "_law_all_words" "_law_all_words" (defArgs sLAll) (defBody sLAll) (defScope sLAll) .none kV51 dc51 pm51 an51 cd51 ct51), sl51⟩)
    (q51 : PySem.W.codeIn K cd51 "_law_all_words" = true)
    (k51 : PySem.W.keepIn K (.ref f51) = true)
    (d52 : PySem.W.nsIn K mainGlobals "_law_sight" = some (some (.ref f52)))
    (l52 : K.lookup f52 = some ⟨oc52, od52, .func (PySem.W.fnOf "_law_sight" "_law_sight" (defArgs sLSight) (defBody sLSight) (defScope sLSight) .none kV52 dc52 pm52 an52 cd52 ct52), sl52⟩)
    (q52 : PySem.W.codeIn K cd52 "_law_sight" = true)
    (k52 : PySem.W.keepIn K (.ref f52) = true)
    (d53 : PySem.W.nsIn K mainGlobals "_law_right" = some (some (.ref f53)))
    (l53 : K.lookup f53 = some ⟨oc53, od53, .func (PySem.W.fnOf "_law_right" "_law_right" (defArgs sRt) (defBody sRt) (defScope sRt) .none kV53 dc53 pm53 an53 cd53 ct53), sl53⟩)
    (q53 : PySem.W.codeIn K cd53 "_law_right" = true)
    (k53 : PySem.W.keepIn K (.ref f53) = true)
    (d54 : PySem.W.nsIn K mainGlobals "law" = some (some (.ref f54)))
    (l54 : K.lookup f54 = some ⟨oc54, od54, .func (PySem.W.fnOf "law" "law" (defArgs sLaw9) (defBody sLaw9) (defScope sLaw9) .none kV54 dc54 pm54 an54 cd54 ct54), sl54⟩)
    (q54 : PySem.W.codeIn K cd54 "law" = true)
    (k54 : PySem.W.keepIn K (.ref f54) = true)
    (l55 : K.lookup f55 = some ⟨oc55, od55, .func (PySem.W.fnOf "__init__" "Made.__init__" (defArgs sMadeI) (defBody sMadeI) (defScope sMadeI) .none kV55 dc55 pm55 an55 cd55 ct55), sl55⟩)
    (q55 : PySem.W.codeIn K cd55 "Made.__init__" = true)
    (k55 : PySem.W.keepIn K (.ref f55) = true)
    (l56 : K.lookup f56 = some ⟨oc56, od56, .func (PySem.W.fnOf "__init__" "Box.__init__" (defArgs sBoxI) (defBody sBoxI) (defScope sBoxI) .none kV56 dc56 pm56 an56 cd56 ct56), sl56⟩)
    (q56 : PySem.W.codeIn K cd56 "Box.__init__" = true)
    (k56 : PySem.W.keepIn K (.ref f56) = true)
    (l57 : K.lookup f57 = some ⟨oc57, od57, .func (PySem.W.fnOf "__init__" "Machine.__init__" (defArgs sMInit) (defBody sMInit) (defScope sMInit) (.ref t57) kV57 dc57 pm57 an57 cd57 ct57), sl57⟩)
    (q57 : PySem.W.codeIn K cd57 "Machine.__init__" = true)
    (k57 : PySem.W.keepIn K (.ref f57) = true)
    (l58 : K.lookup f58 = some ⟨oc58, od58, .func (PySem.W.fnOf "clerk" "Box.clerk" (defArgs sClerk) (defBody sClerk) (defScope sClerk) .none kV58 dc58 pm58 an58 cd58 ct58), sl58⟩)
    (q58 : PySem.W.codeIn K cd58 "Box.clerk" = true)
    (k58 : PySem.W.keepIn K (.ref f58) = true)
    (l59 : K.lookup f59 = some ⟨oc59, od59, .func (PySem.W.fnOf "letters" "Box.letters" (defArgs sBGet) (defBody sBGet) (defScope sBGet) .none kV59 dc59 pm59 an59 cd59 ct59), sl59⟩)
    (q59 : PySem.W.codeIn K cd59 "Box.letters" = true)
    (k59 : PySem.W.keepIn K (.ref f59) = true)
    (l60 : K.lookup f60 = some ⟨oc60, od60, .func (PySem.W.fnOf "table" "Box.table" (defArgs sBTab) (defBody sBTab) (defScope sBTab) .none kV60 dc60 pm60 an60 cd60 ct60), sl60⟩)
    (q60 : PySem.W.codeIn K cd60 "Box.table" = true)
    (k60 : PySem.W.keepIn K (.ref f60) = true)
    (l61 : K.lookup f61 = some ⟨oc61, od61, .func (PySem.W.fnOf "__call__" "Box.__call__" (defArgs sBCall) (defBody sBCall) (defScope sBCall) .none kV61 dc61 pm61 an61 cd61 ct61), sl61⟩)
    (q61 : PySem.W.codeIn K cd61 "Box.__call__" = true)
    (k61 : PySem.W.keepIn K (.ref f61) = true)
    (l62 : K.lookup f62 = some ⟨oc62, od62, .func (PySem.W.fnOf "first_word" "Box.first_word" (defArgs RM.sBFirst) (defBody RM.sBFirst) (defScope RM.sBFirst) .none kV62 dc62 pm62 an62 cd62 ct62), sl62⟩)
    (q62 : PySem.W.codeIn K cd62 "Box.first_word" = true)
    (k62 : PySem.W.keepIn K (.ref f62) = true)
    (l63 : K.lookup f63 = some ⟨oc63, od63, .func (PySem.W.fnOf "letters" "Machine.letters" (defArgs sMLet) (defBody sMLet) (defScope sMLet) .none kV63 dc63 pm63 an63 cd63 ct63), sl63⟩)
    (q63 : PySem.W.codeIn K cd63 "Machine.letters" = true)
    (k63 : PySem.W.keepIn K (.ref f63) = true)
    (l64 : K.lookup f64 = some ⟨oc64, od64, .func (PySem.W.fnOf "table" "Machine.table" (defArgs sMTab) (defBody sMTab) (defScope sMTab) .none kV64 dc64 pm64 an64 cd64 ct64), sl64⟩)
    (q64 : PySem.W.codeIn K cd64 "Machine.table" = true)
    (k64 : PySem.W.keepIn K (.ref f64) = true)
    (l65 : K.lookup f65 = some ⟨oc65, od65, .func (PySem.W.fnOf "ends" "Machine.ends" (defArgs sMEnd) (defBody sMEnd) (defScope sMEnd) .none kV65 dc65 pm65 an65 cd65 ct65), sl65⟩)
    (q65 : PySem.W.codeIn K cd65 "Machine.ends" = true)
    (k65 : PySem.W.keepIn K (.ref f65) = true)
    (l66 : K.lookup f66 = some ⟨oc66, od66, .func (PySem.W.fnOf "__len__" "Machine.__len__" (defArgs sMLen) (defBody sMLen) (defScope sMLen) .none kV66 dc66 pm66 an66 cd66 ct66), sl66⟩)
    (q66 : PySem.W.codeIn K cd66 "Machine.__len__" = true)
    (k66 : PySem.W.keepIn K (.ref f66) = true)
    (y4 : K.lookup t4 = some ⟨e4, j4, .seq #[Value.none] m4, w4⟩)
    (y5 : K.lookup t5 = some ⟨e5, j5, .seq #[u5] m5, w5⟩)
    (y57 : K.lookup t57 = some ⟨e57, j57, .seq #[u57] m57, w57⟩)
    (hPN : h.get? PN = some (PySem.W.tabObj #[]))
    (nPN : K.lookup PN = none)
    (hCN : PySem.W.codeHdIn K cN PN = true)
    (vMAX_MADE : PySem.W.nsIn K mainGlobals "MAX_MADE" = some (some (.int 400 xMAX_MADE)))
    (v_MAX_CAP : PySem.W.nsIn K mainGlobals "_MAX_CAP" = some (some (.int 9 x_MAX_CAP)))
    (v_MAX_MODULUS : PySem.W.nsIn K mainGlobals "_MAX_MODULUS" = some (some (.int 12 x_MAX_MODULUS)))
    (vMAX_LETTERS : PySem.W.nsIn K mainGlobals "MAX_LETTERS" = some (some (.int 3 xMAX_LETTERS)))
    (vMAX_PLACES : PySem.W.nsIn K mainGlobals "MAX_PLACES" = some (some (.int 6 xMAX_PLACES)))
    (vMAX_STATES : PySem.W.nsIn K mainGlobals "MAX_STATES" = some (some (.int 4 xMAX_STATES)))
    (vMAX_CLERK : PySem.W.nsIn K mainGlobals "MAX_CLERK" = some (some (.int 12 xMAX_CLERK)))
    (v_MAX_SEEN : PySem.W.nsIn K mainGlobals "_MAX_SEEN" = some (some (.int 40 x_MAX_SEEN)))
    (z_len : PySem.W.nsIn K mainGlobals "len" = some none)
    (z_int : PySem.W.nsIn K mainGlobals "int" = some none)
    (z_abs : PySem.W.nsIn K mainGlobals "abs" = some none)
    (z_isinstance : PySem.W.nsIn K mainGlobals "isinstance" = some none)
    (z_bool : PySem.W.nsIn K mainGlobals "bool" = some none)
    (z_str : PySem.W.nsIn K mainGlobals "str" = some none)
    (z_all : PySem.W.nsIn K mainGlobals "all" = some none)
    (z_range : PySem.W.nsIn K mainGlobals "range" = some none)
    (z_sorted : PySem.W.nsIn K mainGlobals "sorted" = some none)
    (z_set : PySem.W.nsIn K mainGlobals "set" = some none)
    (z_tuple : PySem.W.nsIn K mainGlobals "tuple" = some none)
    (z_list : PySem.W.nsIn K mainGlobals "list" = some none)
    (z_max : PySem.W.nsIn K mainGlobals "max" = some none)
    (z_min : PySem.W.nsIn K mainGlobals "min" = some none)
    (z_zip : PySem.W.nsIn K mainGlobals "zip" = some none)
    (z_enumerate : PySem.W.nsIn K mainGlobals "enumerate" = some none)
    (z_any : PySem.W.nsIn K mainGlobals "any" = some none) :
    LamX.LawAtS l w K CX0 10 63 "_law_script" mg fa h := by
  have e := hfa.symm.trans (PySem.W.mg_of X G d54)
  cases e
  have T : TN mg := ⟨PySem.W.mg_none_of X G z_len, PySem.W.mg_none_of X G z_int, PySem.W.mg_none_of X G z_abs, PySem.W.mg_none_of X G z_isinstance, PySem.W.mg_none_of X G z_bool, PySem.W.mg_none_of X G z_str, PySem.W.mg_none_of X G z_all, PySem.W.mg_none_of X G z_range, PySem.W.mg_none_of X G z_sorted, PySem.W.mg_none_of X G z_set, PySem.W.mg_none_of X G z_tuple, PySem.W.mg_none_of X G z_list, PySem.W.mg_none_of X G z_max, PySem.W.mg_none_of X G z_min, PySem.W.mg_none_of X G z_zip, ⟨_, PySem.W.mg_of X G vMAX_LETTERS⟩⟩
  have en := PySem.W.mg_none_of X G z_enumerate
  have cl : Cls K C := ⟨pgb, hdb, pob, sab⟩
  have clD : Cls K cD := ⟨pgd, hdd, pod, sad⟩
  have clM : Cls K CM := ⟨pgm, hdm, pom, sam⟩
  have M : TBx K mg C cD := ⟨cl, nT, nL, clD, nR, PySem.W.mg_of X G gb, PySem.W.mg_of X G gd, fun e => .ins e cl ccb cn ct obb, fun e => .ins e clD ccd cn ct obd, ⟨_, PySem.W.mg_of X G vMAX_MADE⟩⟩
  have Y : TBy K C := ⟨⟨ccb, cn, ct, obb⟩, ki⟩
  have YM : TBy K CM := ⟨⟨ccm, cn, ct, obm⟩, kim⟩
  have MM : TMc K mg CM cD cI := ⟨clM, nMT, nML, nME, PySem.W.mg_of X G gm, PySem.W.mg_of X G gd, fun t ht => by simpa using List.all_eq_true.mp kitD t ht, PySem.W.mg_of X G gI, xI, kI, bI, tI, ⟨_, PySem.W.mg_of X G vMAX_STATES⟩⟩
  have R : TPr K C pl f59 pt f60 := ⟨⟨pal, pg_l, pt_l, _, pr_l⟩, ⟨pat, pg_t, pt_t, _, pr_t⟩⟩
  have Rml : PropOf K CM "letters" pml f63 := ⟨paml, pg_ml, pt_ml, _, pr_ml⟩
  have Rmt : PropOf K CM "table" pmt f64 := ⟨pamt, pg_mt, pt_mt, _, pr_mt⟩
  have Rme : PropOf K CM "ends" pme f65 := ⟨pame, pg_me, pt_me, _, pr_me⟩
  have ay := PySem.W.mg_none_of X G z_any
  have F0 := fun_mk (st := sNeedF) l0 q0 k0
  have b0 := F0.binds (ps := ["one", "other", "sort"]) fun _ _ _ _ _ _ us hl => match us, hl with | [_, _, _], _ => rfl
  have F1 := fun_mk (st := sLed) l1 q1 k1
  have b1 := F1.binds (ps := ["letters", "table", "word", "start"]) fun _ _ _ _ _ _ us hl => match us, hl with | [_, _, _, _], _ => rfl
  have A1 : Fn K mg "led" sLed ["letters", "table", "word", "start"] f1 _ := ⟨PySem.W.mg_of X G d1, F1, b1⟩
  have F2 := fun_mk (st := sWays) l2 q2 k2
  have b2 := F2.binds (ps := ["table", "start"]) fun _ _ _ _ _ _ us hl => match us, hl with | [_, _], _ => rfl
  have A2 : Fn K mg "ways" sWays ["table", "start"] f2 _ := ⟨PySem.W.mg_of X G d2, F2, b2⟩
  have F3 := fun_mk (st := sAlong) l3 q3 k3
  have b3 := F3.binds (ps := ["letters", "found", "row"]) fun _ _ _ _ _ _ us hl => match us, hl with | [_, _, _], _ => rfl
  have A3 : Fn K mg "word_along" sAlong ["letters", "found", "row"] f3 _ := ⟨PySem.W.mg_of X G d3, F3, b3⟩
  have b4 := binds_one (fd := PySem.W.fnOf "paired" "paired" (defArgs sPaired) (defBody sPaired) (defScope sPaired) (.ref t4) kV4 dc4 pm4 an4 cd4 ct4) (f := f4) (a := "one") (b := "other") (c := "start") (d := "most") y4 rfl (fun _ _ _ _ => ⟨_, rfl, rfl⟩)
  have bd4 := binds_dfl (fd := PySem.W.fnOf "paired" "paired" (defArgs sPaired) (defBody sPaired) (defScope sPaired) (.ref t4) kV4 dc4 pm4 an4 cd4 ct4) (f := f4) (a := "one") (b := "other") (c := "start") (d := "most") y4 rfl (fun _ _ _ => ⟨_, rfl, rfl⟩)
  have g4 := PySem.W.mg_of X G d4
  have b5 := binds_one (fd := PySem.W.fnOf "explored" "explored" (defArgs sExpl) (defBody sExpl) (defScope sExpl) (.ref t5) kV5 dc5 pm5 an5 cd5 ct5) (f := f5) (a := "signs") (b := "start") (c := "step") (d := "most") y5 rfl (fun _ _ _ _ => ⟨_, rfl, rfl⟩)
  have g5 := PySem.W.mg_of X G d5
  have F6 := fun_mk (st := sIsInt) l6 q6 k6
  have b6 := F6.binds (ps := ["value"]) fun _ _ _ _ _ _ us hl => match us, hl with | [_], _ => rfl
  have A6 : Fn K mg "is_integer" sIsInt ["value"] f6 _ := ⟨PySem.W.mg_of X G d6, F6, b6⟩
  have F7 := fun_mk (st := sIsNum) l7 q7 k7
  have b7 := F7.binds (ps := ["value", "least", "most"]) fun _ _ _ _ _ _ us hl => match us, hl with | [_, _, _], _ => rfl
  have A7 : Fn K mg "is_number" sIsNum ["value", "least", "most"] f7 _ := ⟨PySem.W.mg_of X G d7, F7, b7⟩
  have F8 := fun_mk (st := sNeedNum) l8 q8 k8
  have b8 := F8.binds (ps := ["value", "least", "most"]) fun _ _ _ _ _ _ us hl => match us, hl with | [_, _, _], _ => rfl
  have A8 : Fn K mg "need_number" sNeedNum ["value", "least", "most"] f8 _ := ⟨PySem.W.mg_of X G d8, F8, b8⟩
  have F9 := fun_mk (st := sIsPair) l9 q9 k9
  have b9 := F9.binds (ps := ["value"]) fun _ _ _ _ _ _ us hl => match us, hl with | [_], _ => rfl
  have A9 : Fn K mg "is_pair" sIsPair ["value"] f9 _ := ⟨PySem.W.mg_of X G d9, F9, b9⟩
  have F10 := fun_mk (st := sAsc) l10 q10 k10
  have b10 := F10.binds (ps := ["values"]) fun _ _ _ _ _ _ us hl => match us, hl with | [_], _ => rfl
  have A10 : Fn K mg "ascends" sAsc ["values"] f10 _ := ⟨PySem.W.mg_of X G d10, F10, b10⟩
  have F11 := fun_mk (st := sIsAsc) l11 q11 k11
  have b11 := F11.binds (ps := ["value", "many"]) fun _ _ _ _ _ _ us hl => match us, hl with | [_, _], _ => rfl
  have A11 : Fn K mg "is_ascending" sIsAsc ["value", "many"] f11 _ := ⟨PySem.W.mg_of X G d11, F11, b11⟩
  have F12 := fun_mk (st := sIsTab) l12 q12 k12
  have b12 := F12.binds (ps := ["value", "width", "most"]) fun _ _ _ _ _ _ us hl => match us, hl with | [_, _, _], _ => rfl
  have A12 : Fn K mg "is_table" sIsTab ["value", "width", "most"] f12 _ := ⟨PySem.W.mg_of X G d12, F12, b12⟩
  have F13 := fun_mk (st := sIsRow) l13 q13 k13
  have b13 := F13.binds (ps := ["value", "width", "many"]) fun _ _ _ _ _ _ us hl => match us, hl with | [_, _, _], _ => rfl
  have A13 : Fn K mg "_is_row" sIsRow ["value", "width", "many"] f13 _ := ⟨PySem.W.mg_of X G d13, F13, b13⟩
  have F14 := fun_mk (st := sIsLet) l14 q14 k14
  have b14 := F14.binds (ps := ["value"]) fun _ _ _ _ _ _ us hl => match us, hl with | [_], _ => rfl
  have A14 : Fn K mg "is_letters" sIsLet ["value"] f14 _ := ⟨PySem.W.mg_of X G d14, F14, b14⟩
  have F15 := fun_mk (st := sIsWord) l15 q15 k15
  have b15 := F15.binds (ps := ["value"]) fun _ _ _ _ _ _ us hl => match us, hl with | [_], _ => rfl
  have A15 : Fn K mg "is_word" sIsWord ["value"] f15 _ := ⟨PySem.W.mg_of X G d15, F15, b15⟩
  have F16 := fun_mk (st := sIsOver) l16 q16 k16
  have b16 := F16.binds (ps := ["letters", "word"]) fun _ _ _ _ _ _ us hl => match us, hl with | [_, _], _ => rfl
  have A16 : Fn K mg "is_over" sIsOver ["letters", "word"] f16 _ := ⟨PySem.W.mg_of X G d16, F16, b16⟩
  have F17 := fun_mk (st := sNeedLet) l17 q17 k17
  have b17 := F17.binds (ps := ["letters"]) fun _ _ _ _ _ _ us hl => match us, hl with | [_], _ => rfl
  have A17 : Fn K mg "need_letters" sNeedLet ["letters"] f17 _ := ⟨PySem.W.mg_of X G d17, F17, b17⟩
  have F18 := fun_mk (st := sNeedWord) l18 q18 k18
  have b18 := F18.binds (ps := ["word"]) fun _ _ _ _ _ _ us hl => match us, hl with | [_], _ => rfl
  have A18 : Fn K mg "need_word" sNeedWord ["word"] f18 _ := ⟨PySem.W.mg_of X G d18, F18, b18⟩
  have F19 := fun_mk (st := sNeedOver) l19 q19 k19
  have b19 := F19.binds (ps := ["letters", "word"]) fun _ _ _ _ _ _ us hl => match us, hl with | [_, _], _ => rfl
  have A19 : Fn K mg "need_over" sNeedOver ["letters", "word"] f19 _ := ⟨PySem.W.mg_of X G d19, F19, b19⟩
  have F20 := fun_mk (st := sCounts) l20 q20 k20
  have b20 := F20.binds (ps := ["letters", "word"]) fun _ _ _ _ _ _ us hl => match us, hl with | [_, _], _ => rfl
  have A20 : Fn K mg "counts" sCounts ["letters", "word"] f20 _ := ⟨PySem.W.mg_of X G d20, F20, b20⟩
  have F21 := fun_mk (st := sNeedMs) l21 q21 k21
  have b21 := F21.binds (ps := ["machines"]) fun _ _ _ _ _ _ us hl => match us, hl with | [_], _ => rfl
  have A21 : Fn K mg "need_machines" sNeedMs ["machines"] f21 _ := ⟨PySem.W.mg_of X G d21, F21, b21⟩
  have F22 := fun_mk (st := sSame) l22 q22 k22
  have b22 := F22.binds (ps := ["one", "other"]) fun _ _ _ _ _ _ us hl => match us, hl with | [_, _], _ => rfl
  have A22 : Fn K mg "need_same_letters" sSame ["one", "other"] f22 _ := ⟨PySem.W.mg_of X G d22, F22, b22⟩
  have F23 := fun_mk (st := sNeedCS) l23 q23 k23
  have b23 := F23.binds (ps := ["sort"]) fun _ _ _ _ _ _ us hl => match us, hl with | [_], _ => rfl
  have A23 : Fn K mg "need_count_sort" sNeedCS ["sort"] f23 _ := ⟨PySem.W.mg_of X G d23, F23, b23⟩
  have F24 := fun_mk (st := sSight) l24 q24 k24
  have b24 := F24.binds (ps := ["letters", "cap", "modulus", "word"]) fun _ _ _ _ _ _ us hl => match us, hl with | [_, _, _, _], _ => rfl
  have A24 : Fn K mg "sight" sSight ["letters", "cap", "modulus", "word"] f24 _ := ⟨PySem.W.mg_of X G d24, F24, b24⟩
  have F25 := fun_mk (st := sSights) l25 q25 k25
  have b25 := F25.binds (ps := ["machine", "cap", "modulus"]) fun _ _ _ _ _ _ us hl => match us, hl with | [_, _, _], _ => rfl
  have A25 : Fn K mg "sights" sSights ["machine", "cap", "modulus"] f25 _ := ⟨PySem.W.mg_of X G d25, F25, b25⟩
  have F26 := fun_mk (st := sIsClerk) l26 q26 k26
  have b26 := F26.binds (ps := ["one", "other", "sort", "value"]) fun _ _ _ _ _ _ us hl => match us, hl with | [_, _, _, _], _ => rfl
  have A26 : Fn K mg "is_clerk_for" sIsClerk ["one", "other", "sort", "value"] f26 _ := ⟨PySem.W.mg_of X G d26, F26, b26⟩
  have F27 := fun_mk (st := sTells) l27 q27 k27
  have b27 := F27.binds (ps := ["one", "other", "cap", "modulus"]) fun _ _ _ _ _ _ us hl => match us, hl with | [_, _, _, _], _ => rfl
  have A27 : Fn K mg "_tells" sTells ["one", "other", "cap", "modulus"] f27 _ := ⟨PySem.W.mg_of X G d27, F27, b27⟩
  have F28 := fun_mk (st := sSeenM) l28 q28 k28
  have b28 := F28.binds (ps := ["machine", "cap", "modulus"]) fun _ _ _ _ _ _ us hl => match us, hl with | [_, _, _], _ => rfl
  have A28 : Fn K mg "_seen" sSeenM ["machine", "cap", "modulus"] f28 _ := ⟨PySem.W.mg_of X G d28, F28, b28⟩
  have F29 := fun_mk (st := sNeedBox) l29 q29 k29
  have b29 := F29.binds (ps := ["box"]) fun _ _ _ _ _ _ us hl => match us, hl with | [_], _ => rfl
  have A29 : Fn K mg "need_box" sNeedBox ["box"] f29 _ := ⟨PySem.W.mg_of X G d29, F29, b29⟩
  have F30 := fun_mk (st := sGrown) l30 q30 k30
  have b30 := F30.binds (ps := ["letters", "start", "step"]) fun _ _ _ _ _ _ us hl => match us, hl with | [_, _, _], _ => rfl
  have A30 : Fn K mg "_grown" sGrown ["letters", "start", "step"] f30 _ := ⟨PySem.W.mg_of X G d30, F30, b30⟩
  have F31 := fun_mk (st := sCount) l31 q31 k31
  have b31 := F31.binds (ps := ["letters", "cap", "modulus"]) fun _ _ _ _ _ _ us hl => match us, hl with | [_, _, _], _ => rfl
  have A31 : Fn K mg "_counting" sCount ["letters", "cap", "modulus"] f31 _ := ⟨PySem.W.mg_of X G d31, F31, b31⟩
  have F32 := fun_mk (st := sOneM) l32 q32 k32
  have b32 := F32.binds (ps := ["number", "cap", "modulus"]) fun _ _ _ _ _ _ us hl => match us, hl with | [_, _, _], _ => rfl
  have A32 : Fn K mg "_one_more" sOneM ["number", "cap", "modulus"] f32 _ := ⟨PySem.W.mg_of X G d32, F32, b32⟩
  have F33 := fun_mk (st := sPlaces) l33 q33 k33
  have b33 := F33.binds (ps := ["machine", "box"]) fun _ _ _ _ _ _ us hl => match us, hl with | [_, _], _ => rfl
  have A33 : Fn K mg "places" sPlaces ["machine", "box"] f33 _ := ⟨PySem.W.mg_of X G d33, F33, b33⟩
  have F34 := fun_mk (st := sApart) l34 q34 k34
  have b34 := F34.binds (ps := ["one", "other", "box"]) fun _ _ _ _ _ _ us hl => match us, hl with | [_, _, _], _ => rfl
  have A34 : Fn K mg "tells_apart" sApart ["one", "other", "box"] f34 _ := ⟨PySem.W.mg_of X G d34, F34, b34⟩
  have F35 := fun_mk (st := sAlike) l35 q35 k35
  have b35 := F35.binds (ps := ["one", "other", "box"]) fun _ _ _ _ _ _ us hl => match us, hl with | [_, _, _], _ => rfl
  have A35 : Fn K mg "alike_pair" sAlike ["one", "other", "box"] f35 _ := ⟨PySem.W.mg_of X G d35, F35, b35⟩
  have F36 := fun_mk (st := sNeedAll) l36 q36 k36
  have b36 := F36.binds (ps := ["machines", "box"]) fun _ _ _ _ _ _ us hl => match us, hl with | [_, _], _ => rfl
  have A36 : Fn K mg "_need" sNeedAll ["machines", "box"] f36 _ := ⟨PySem.W.mg_of X G d36, F36, b36⟩
  have F37 := fun_mk (st := sNeedLs) l37 q37 k37
  have b37 := F37.binds (ps := ["machines", "box"]) fun _ _ _ _ _ _ us hl => match us, hl with | [_, _], _ => rfl
  have A37 : Fn K mg "_need_letters" sNeedLs ["machines", "box"] f37 _ := ⟨PySem.W.mg_of X G d37, F37, b37⟩
  have F38 := fun_mk (st := sFirsts) l38 q38 k38
  have b38 := F38.binds (ps := ["machine", "box"]) fun _ _ _ _ _ _ us hl => match us, hl with | [_, _], _ => rfl
  have A38 : Fn K mg "_first_words" sFirsts ["machine", "box"] f38 _ := ⟨PySem.W.mg_of X G d38, F38, b38⟩
  have F39 := fun_mk (st := sDice) l39 q39 k39
  have b39 := F39.binds (ps := ["_law_script", "_law_at"]) fun _ _ _ _ _ _ us hl => match us, hl with | [_, _], _ => rfl
  have A39 : Fn K mg "_law_dice" sDice ["_law_script", "_law_at"] f39 _ := ⟨PySem.W.mg_of X G d39, F39, b39⟩
  have F40 := fun_mk (st := sRoll) l40 q40 k40
  have b40 := F40.binds (ps := ["_law_dice_here", "_law_total"]) fun _ _ _ _ _ _ us hl => match us, hl with | [_, _], _ => rfl
  have A40 : Fn K mg "_law_roll" sRoll ["_law_dice_here", "_law_total"] f40 _ := ⟨PySem.W.mg_of X G d40, F40, b40⟩
  have F41 := fun_mk (st := sOne) l41 q41 k41
  have b41 := F41.binds (ps := ["_law_dice_here", "_law_items"]) fun _ _ _ _ _ _ us hl => match us, hl with | [_, _], _ => rfl
  have A41 : Fn K mg "_law_one_of" sOne ["_law_dice_here", "_law_items"] f41 _ := ⟨PySem.W.mg_of X G d41, F41, b41⟩
  have F42 := fun_mk (st := sMixed) l42 q42 k42
  have b42 := F42.binds (ps := ["_law_dice_here", "_law_items"]) fun _ _ _ _ _ _ us hl => match us, hl with | [_, _], _ => rfl
  have A42 : Fn K mg "_law_mixed" sMixed ["_law_dice_here", "_law_items"] f42 _ := ⟨PySem.W.mg_of X G d42, F42, b42⟩
  have F43 := fun_mk (st := sLetters) l43 q43 k43
  have b43 := F43.binds (ps := ["_law_dice_here", "_law_total"]) fun _ _ _ _ _ _ us hl => match us, hl with | [_, _], _ => rfl
  have A43 : Fn K mg "_law_letters" sLetters ["_law_dice_here", "_law_total"] f43 _ := ⟨PySem.W.mg_of X G d43, F43, b43⟩
  have F44 := fun_mk (st := sAct) l44 q44 k44
  have b44 := F44.binds (ps := ["_law_dice_here", "_law_size", "_law_sort"]) fun _ _ _ _ _ _ us hl => match us, hl with | [_, _, _], _ => rfl
  have A44 : Fn K mg "_law_action" sAct ["_law_dice_here", "_law_size", "_law_sort"] f44 _ := ⟨PySem.W.mg_of X G d44, F44, b44⟩
  have F45 := fun_mk (st := sLTab) l45 q45 k45
  have b45 := F45.binds (ps := ["_law_dice_here", "_law_letters_here", "_law_size", "_law_sorts"]) fun _ _ _ _ _ _ us hl => match us, hl with | [_, _, _, _], _ => rfl
  have A45 : Fn K mg "_law_table" sLTab ["_law_dice_here", "_law_letters_here", "_law_size", "_law_sorts"] f45 _ := ⟨PySem.W.mg_of X G d45, F45, b45⟩
  have F46 := fun_mk (st := sLMac) l46 q46 k46
  have b46 := F46.binds (ps := ["_law_dice_here", "_law_letters_here", "_law_states"]) fun _ _ _ _ _ _ us hl => match us, hl with | [_, _, _], _ => rfl
  have A46 : Fn K mg "_law_machine" sLMac ["_law_dice_here", "_law_letters_here", "_law_states"] f46 _ := ⟨PySem.W.mg_of X G d46, F46, b46⟩
  have F47 := fun_mk (st := sMade) l47 q47 k47
  have b47 := F47.binds (ps := ["_law_plain"]) fun _ _ _ _ _ _ us hl => match us, hl with | [_], _ => rfl
  have A47 : Fn K mg "_law_made_machine" sMade ["_law_plain"] f47 _ := ⟨PySem.W.mg_of X G d47, F47, b47⟩
  have F48 := fun_mk (st := sLLed) l48 q48 k48
  have b48 := F48.binds (ps := ["_law_table_here", "_law_letters_here", "_law_word", "_law_start"]) fun _ _ _ _ _ _ us hl => match us, hl with | [_, _, _, _], _ => rfl
  have A48 : Fn K mg "_law_led" sLLed ["_law_table_here", "_law_letters_here", "_law_word", "_law_start"] f48 _ := ⟨PySem.W.mg_of X G d48, F48, b48⟩
  have F49 := fun_mk (st := sLHas) l49 q49 k49
  have b49 := F49.binds (ps := ["_law_plain", "_law_word"]) fun _ _ _ _ _ _ us hl => match us, hl with | [_, _], _ => rfl
  have A49 : Fn K mg "_law_has" sLHas ["_law_plain", "_law_word"] f49 _ := ⟨PySem.W.mg_of X G d49, F49, b49⟩
  have F50 := fun_mk (st := sLCounts) l50 q50 k50
  have b50 := F50.binds (ps := ["_law_letters_here", "_law_word"]) fun _ _ _ _ _ _ us hl => match us, hl with | [_, _], _ => rfl
  have A50 : Fn K mg "_law_counts" sLCounts ["_law_letters_here", "_law_word"] f50 _ := ⟨PySem.W.mg_of X G d50, F50, b50⟩
  have F51 := fun_mk (st := sLAll) l51 q51 k51
  have b51 := F51.binds (ps := ["_law_letters_here", "_law_most"]) fun _ _ _ _ _ _ us hl => match us, hl with | [_, _], _ => rfl
  have A51 : Fn K mg "_law_all_words" sLAll ["_law_letters_here", "_law_most"] f51 _ := ⟨PySem.W.mg_of X G d51, F51, b51⟩
  have F52 := fun_mk (st := sLSight) l52 q52 k52
  have b52 := F52.binds (ps := ["_law_letters_here", "_law_cap", "_law_modulus", "_law_word"]) fun _ _ _ _ _ _ us hl => match us, hl with | [_, _, _, _], _ => rfl
  have A52 : Fn K mg "_law_sight" sLSight ["_law_letters_here", "_law_cap", "_law_modulus", "_law_word"] f52 _ := ⟨PySem.W.mg_of X G d52, F52, b52⟩
  have F53 := fun_mk (st := sRt) l53 q53 k53
  have b53 := F53.binds (ps := ["_law_dice_here"]) fun _ _ _ _ _ _ us hl => match us, hl with | [_], _ => rfl
  have A53 : Fn K mg "_law_right" sRt ["_law_dice_here"] f53 _ := ⟨PySem.W.mg_of X G d53, F53, b53⟩
  have F54 := fun_mk (st := sLaw9) l54 q54 k54
  have F55 := fun_mk (st := sMadeI) l55 q55 k55
  have b55 := F55.binds (ps := ["self", "rows"]) fun _ _ _ _ _ _ us hl => match us, hl with | [_, _], _ => rfl
  have F56 := fun_mk (st := sBoxI) l56 q56 k56
  have b56 := F56.binds (ps := ["self", "letters", "table"]) fun _ _ _ _ _ _ us hl => match us, hl with | [_, _, _], _ => rfl
  have b57 := binds_one (fd := PySem.W.fnOf "__init__" "Machine.__init__" (defArgs sMInit) (defBody sMInit) (defScope sMInit) (.ref t57) kV57 dc57 pm57 an57 cd57 ct57) (f := f57) (a := "self") (b := "letters") (c := "table") (d := "ends") y57 rfl (fun _ _ _ _ => ⟨_, rfl, rfl⟩)
  have F58 := fun_mk (st := sClerk) l58 q58 k58
  have b58 := F58.binds (ps := ["cls", "letters", "cap", "modulus"]) fun _ _ _ _ _ _ us hl => match us, hl with | [_, _, _, _], _ => rfl
  have F59 := fun_mk (st := sBGet) l59 q59 k59
  have b59 := F59.binds (ps := ["self"]) fun _ _ _ _ _ _ us hl => match us, hl with | [_], _ => rfl
  have F60 := fun_mk (st := sBTab) l60 q60 k60
  have b60 := F60.binds (ps := ["self"]) fun _ _ _ _ _ _ us hl => match us, hl with | [_], _ => rfl
  have F61 := fun_mk (st := sBCall) l61 q61 k61
  have b61 := F61.binds (ps := ["self", "word"]) fun _ _ _ _ _ _ us hl => match us, hl with | [_, _], _ => rfl
  have F62 := fun_mk (st := RM.sBFirst) l62 q62 k62
  have b62 := F62.binds (ps := ["self", "place"]) fun _ _ _ _ _ _ us hl => match us, hl with | [_, _], _ => rfl
  have F63 := fun_mk (st := sMLet) l63 q63 k63
  have b63 := F63.binds (ps := ["self"]) fun _ _ _ _ _ _ us hl => match us, hl with | [_], _ => rfl
  have F64 := fun_mk (st := sMTab) l64 q64 k64
  have b64 := F64.binds (ps := ["self"]) fun _ _ _ _ _ _ us hl => match us, hl with | [_], _ => rfl
  have F65 := fun_mk (st := sMEnd) l65 q65 k65
  have b65 := F65.binds (ps := ["self"]) fun _ _ _ _ _ _ us hl => match us, hl with | [_], _ => rfl
  have F66 := fun_mk (st := sMLen) l66 q66 k66
  have b66 := F66.binds (ps := ["self"]) fun _ _ _ _ _ _ us hl => match us, hl with | [_], _ => rfl
  refine ⟨PySem.W.fnOf "law" "law" (defArgs sLaw9) (defBody sLaw9) (defScope sLaw9) .none kV54 dc54 pm54 an54 cd54 ct54, [(cN, PN)], spLaw9 K [(PN, qStep)], ?_, ?_, ?_, fun s v => .of_eq rfl, fun H a ns hl _ hT hS => ⟨a, ns, rfl, hS, hl, ?_, fun _ => rfl⟩, fun base _ _ hB => ?_⟩
  · intro p hp
    cases List.mem_singleton.mp hp
    exact hPN
  · intro p hp
    cases List.mem_singleton.mp hp
    exact nPN
  · intro p hp
    cases List.mem_singleton.mp hp
    exact PySem.W.codeHd_of_K X hCN
  · intro p hp
    cases List.mem_singleton.mp hp
    exact LamX.TabS.nil (hT _ (.head _))
  have TBN : LamX.TabB base mg cN PN := hB _ (.head _)
  have UN : ∀ p ∈ ([(PN, qStep)] : List (Addr × Str)), p.1 = PN → p.2 = qStep := by
    intro p hp e
    cases List.mem_singleton.mp hp
    rfl
  have G7 : FnOk l.prog w K mg base CX0 2 f7 (PySem.W.fnOf "is_number" "is_number" (defArgs sIsNum) (defBody sIsNum) (defScope sIsNum) .none kV7 dc7 pm7 an7 cd7 ct7) ["value", "least", "most"] (spNum2) := ok_num2 F7 T A6
  have G8 : FnOk l.prog w K mg base CX0 3 f8 (PySem.W.fnOf "need_number" "need_number" (defArgs sNeedNum) (defBody sNeedNum) (defScope sNeedNum) .none kV8 dc8 pm8 an8 cd8 ct8) ["value", "least", "most"] (spNeedNum) := ok_neednum F8 T A6 A7
  have G10 : FnOk l.prog w K mg base CX0 1 f10 (PySem.W.fnOf "ascends" "ascends" (defArgs sAsc) (defBody sAsc) (defScope sAsc) .none kV10 dc10 pm10 an10 cd10 ct10) ["values"] (spAscT K) := ok_ascT F10 T
  have G11 : FnOk l.prog w K mg base CX0 3 f11 (PySem.W.fnOf "is_ascending" "is_ascending" (defArgs sIsAsc) (defBody sIsAsc) (defScope sIsAsc) .none kV11 dc11 pm11 an11 cd11 ct11) ["value", "many"] (spIsAsc K) := ok_isasc F11 T A7 G7 A10 G10
  have G13 : FnOk l.prog w K mg base CX0 3 f13 (PySem.W.fnOf "_is_row" "_is_row" (defArgs sIsRow) (defBody sIsRow) (defScope sIsRow) .none kV13 dc13 pm13 an13 cd13 ct13) ["value", "width", "many"] (spRow K) := ok_row F13 T A7 G7
  have G12 : FnOk l.prog w K mg base CX0 4 f12 (PySem.W.fnOf "is_table" "is_table" (defArgs sIsTab) (defBody sIsTab) (defScope sIsTab) .none kV12 dc12 pm12 an12 cd12 ct12) ["value", "width", "most"] (spTab K) := ok_table F12 T A13 G13
  have G15 : FnOk l.prog w K mg base CX0 1 f15 (PySem.W.fnOf "is_word" "is_word" (defArgs sIsWord) (defBody sIsWord) (defScope sIsWord) .none kV15 dc15 pm15 an15 cd15 ct15) ["value"] (spIsWord K) := ok_isword F15 T
  have G14 : FnOk l.prog w K mg base CX0 2 f14 (PySem.W.fnOf "is_letters" "is_letters" (defArgs sIsLet) (defBody sIsLet) (defScope sIsLet) .none kV14 dc14 pm14 an14 cd14 ct14) ["value"] (spIsLet K) := ok_islet F14 T A15 A10
  have G16 : FnOk l.prog w K mg base CX0 1 f16 (PySem.W.fnOf "is_over" "is_over" (defArgs sIsOver) (defBody sIsOver) (defScope sIsOver) .none kV16 dc16 pm16 an16 cd16 ct16) ["letters", "word"] (spOver) := ok_over F16 T
  have G17 : FnOk l.prog w K mg base CX0 3 f17 (PySem.W.fnOf "need_letters" "need_letters" (defArgs sNeedLet) (defBody sNeedLet) (defScope sNeedLet) .none kV17 dc17 pm17 an17 cd17 ct17) ["letters"] (spNeedLet) := ok_needlet F17 A14 G14
  have G18 : FnOk l.prog w K mg base CX0 2 f18 (PySem.W.fnOf "need_word" "need_word" (defArgs sNeedWord) (defBody sNeedWord) (defScope sNeedWord) .none kV18 dc18 pm18 an18 cd18 ct18) ["word"] (spNeedWord) := ok_needword F18 A15 G15
  have G19 : FnOk l.prog w K mg base CX0 2 f19 (PySem.W.fnOf "need_over" "need_over" (defArgs sNeedOver) (defBody sNeedOver) (defScope sNeedOver) .none kV19 dc19 pm19 an19 cd19 ct19) ["letters", "word"] (spNeedOver) := ok_needover F19 A16 G16
  have G55 : FnOk l.prog w K mg base CX0 1 f55 (PySem.W.fnOf "__init__" "Made.__init__" (defArgs sMadeI) (defBody sMadeI) (defScope sMadeI) .none kV55 dc55 pm55 an55 cd55 ct55) ["self", "rows"] (spMadeI cD) := ok_madei l55 q55 M
  have G56 : FnOk l.prog w K mg base CX0 3 f56 (PySem.W.fnOf "__init__" "Box.__init__" (defArgs sBoxI) (defBody sBoxI) (defScope sBoxI) .none kV56 dc56 pm56 an56 cd56 ct56) ["self", "letters", "table"] (spBoxI C cD) := ok_boxi l56 q56 T M A14 G14
  have G57 : FnOk l.prog w K mg base (L2.CX l.prog w) 5 f57 (PySem.W.fnOf "__init__" "Machine.__init__" (defArgs sMInit) (defBody sMInit) (defScope sMInit) (.ref t57) kV57 dc57 pm57 an57 cd57 ct57) ["self", "letters", "table", "ends"] (spMInit K CM cI) := ok_minit l57 q57 T MM A14 G14 A12 G12 A11 G11
  have MD : Mk K cD f55 := ⟨mkd, id, nid, kCd⟩
  have MI : Mk K C f56 := ⟨mkb, ib, nib, kCb⟩
  have MIM : Mk K CM f57 := ⟨mkm, im, nim, kCm⟩
  have GEI : FnOk l.prog w K mg base CX0 3 f5 (PySem.W.fnOf "explored" "explored" (defArgs sExpl) (defBody sExpl) (defScope sExpl) (.ref t5) kV5 dc5 pm5 an5 cd5 ct5) ["signs", "start", "step", "most"] (spExpl l.prog w K mg base kitI 2) := ok_expl l5 q5 T
  have GGI : FnOk l.prog w K mg base CX0 5 f30 (PySem.W.fnOf "_grown" "_grown" (defArgs sGrown) (defBody sGrown) (defScope sGrown) .none kV30 dc30 pm30 an30 cd30 ct30) ["letters", "start", "step"] (spGrown l.prog w K mg base kitI 2 cD) := ok_grown F30 M g5 k5 GEI MD G55 b55 b5
  have G32 : FnOk l.prog w K mg base CX0 1 f32 (PySem.W.fnOf "_one_more" "_one_more" (defArgs sOneM) (defBody sOneM) (defScope sOneM) .none kV32 dc32 pm32 an32 cd32 ct32) ["number", "cap", "modulus"] (spOneM) := ok_onem F32
  have G31 : FnOk l.prog w K mg base CX0 6 f31 (PySem.W.fnOf "_counting" "_counting" (defArgs sCount) (defBody sCount) (defScope sCount) .none kV31 dc31 pm31 an31 (.ref cN) ct31) ["letters", "cap", "modulus"] (spCounting [(PN, qStep)] cD) := ok_counting (C := C) l31 q31 TBN (.head _) UN T A32 G32 A30 GGI
  have G58 : FnOk l.prog w K mg base CX0 7 f58 (PySem.W.fnOf "clerk" "Box.clerk" (defArgs sClerk) (defBody sClerk) (defScope sClerk) .none kV58 dc58 pm58 an58 cd58 ct58) ["cls", "letters", "cap", "modulus"] (spClerk [(PN, qStep)] C) := ok_clerk l58 q58 ⟨_, PySem.W.mg_of X G v_MAX_CAP⟩ ⟨_, PySem.W.mg_of X G v_MAX_MODULUS⟩ A17 G17 A8 G8 A31 G31 MI G56 b56
  have G1 : FnOk l.prog w K mg base CX0 1 f1 (PySem.W.fnOf "led" "led" (defArgs sLed) (defBody sLed) (defScope sLed) .none kV1 dc1 pm1 an1 cd1 ct1) ["letters", "table", "word", "start"] (spLed K) := ok_led F1 en
  have GWV : FnOk l.prog w K mg base CX0 1 f2 (PySem.W.fnOf "ways" "ways" (defArgs sWays) (defBody sWays) (defScope sWays) .none kV2 dc2 pm2 an2 cd2 ct2) ["table", "start"] (spWaysV K) := ok_waysV F2 T en
  have G3 : FnOk l.prog w K mg base CX0 1 f3 (PySem.W.fnOf "word_along" "word_along" (defArgs sAlong) (defBody sAlong) (defScope sAlong) .none kV3 dc3 pm3 an3 cd3 ct3) ["letters", "found", "row"] (spAlong) := ok_along F3
  have GPN : FnOk l.prog w K mg base CX0 1 f4 (PySem.W.fnOf "paired" "paired" (defArgs sPaired) (defBody sPaired) (defScope sPaired) (.ref t4) kV4 dc4 pm4 an4 cd4 ct4) ["one", "other", "start", "most"] (spPairedN K) := ok_pairedN l4 q4 T
  have G29 : FnOk l.prog w K mg base CX0 1 f29 (PySem.W.fnOf "need_box" "need_box" (defArgs sNeedBox) (defBody sNeedBox) (defScope sNeedBox) .none kV29 dc29 pm29 an29 cd29 ct29) ["box"] (spNeedBox C) := ok_needbox F29 T M Y
  have G22 : FnOk l.prog w K mg base CX0 1 f22 (PySem.W.fnOf "need_same_letters" "need_same_letters" (defArgs sSame) (defBody sSame) (defScope sSame) .none kV22 dc22 pm22 an22 cd22 ct22) ["one", "other"] (spSame) := ok_same F22
  have G21 : FnOk l.prog w K mg base CX0 1 f21 (PySem.W.fnOf "need_machines" "need_machines" (defArgs sNeedMs) (defBody sNeedMs) (defScope sNeedMs) .none kV21 dc21 pm21 an21 cd21 ct21) ["machines"] (spNeedMs K CM) := ok_needms F21 T MM YM
  have GM1 : FnOk l.prog w K mg base CX0 1 f21 (PySem.W.fnOf "need_machines" "need_machines" (defArgs sNeedMs) (defBody sNeedMs) (defScope sNeedMs) .none kV21 dc21 pm21 an21 cd21 ct21) ["machines"] (spNeedM1 K CM) := ok_needm1 F21 T MM YM
  have G59 : FnOk l.prog w K mg base CX0 1 f59 (PySem.W.fnOf "letters" "Box.letters" (defArgs sBGet) (defBody sBGet) (defScope sBGet) .none kV59 dc59 pm59 an59 cd59 ct59) ["self"] (getSp C "_letters") := fn_getter (N := ["self"]) l59 q59 ⟨rfl, rfl, rfl, by decide +kernel, rfl, by decide +kernel, by decide +kernel⟩ rfl rfl cl nL
  have G60 : FnOk l.prog w K mg base CX0 1 f60 (PySem.W.fnOf "table" "Box.table" (defArgs sBTab) (defBody sBTab) (defScope sBTab) .none kV60 dc60 pm60 an60 cd60 ct60) ["self"] (getSp C "_table") := fn_getter (N := ["self"]) l60 q60 ⟨rfl, rfl, rfl, by decide +kernel, rfl, by decide +kernel, by decide +kernel⟩ rfl rfl cl nT
  have G63 : FnOk l.prog w K mg base CX0 1 f63 (PySem.W.fnOf "letters" "Machine.letters" (defArgs sMLet) (defBody sMLet) (defScope sMLet) .none kV63 dc63 pm63 an63 cd63 ct63) ["self"] (getSp CM "_letters") := fn_getter (N := ["self"]) l63 q63 ⟨rfl, rfl, rfl, by decide +kernel, rfl, by decide +kernel, by decide +kernel⟩ rfl rfl clM nML
  have G64 : FnOk l.prog w K mg base CX0 1 f64 (PySem.W.fnOf "table" "Machine.table" (defArgs sMTab) (defBody sMTab) (defScope sMTab) .none kV64 dc64 pm64 an64 cd64 ct64) ["self"] (getSp CM "_table") := fn_getter (N := ["self"]) l64 q64 ⟨rfl, rfl, rfl, by decide +kernel, rfl, by decide +kernel, by decide +kernel⟩ rfl rfl clM nMT
  have G65 : FnOk l.prog w K mg base CX0 1 f65 (PySem.W.fnOf "ends" "Machine.ends" (defArgs sMEnd) (defBody sMEnd) (defScope sMEnd) .none kV65 dc65 pm65 an65 cd65 ct65) ["self"] (getSp CM "_ends") := fn_getter (N := ["self"]) l65 q65 ⟨rfl, rfl, rfl, by decide +kernel, rfl, by decide +kernel, by decide +kernel⟩ rfl rfl clM nME
  have G61 : FnOk l.prog w K mg base CX0 4 f61 (PySem.W.fnOf "__call__" "Box.__call__" (defArgs sBCall) (defBody sBCall) (defScope sBCall) .none kV61 dc61 pm61 an61 cd61 ct61) ["self", "word"] (spBCall C) := ok_bcall F61 M A18 (G18.mono (by decide)) A19 (G19.mono (by decide)) A1 G1
  have G66 : FnOk l.prog w K mg base CX0 1 f66 (PySem.W.fnOf "__len__" "Machine.__len__" (defArgs sMLen) (defBody sMLen) (defScope sMLen) .none kV66 dc66 pm66 an66 cd66 ct66) ["self"] (spMLen CM) := ok_mlen F66 T MM
  have GLr : FnR l.prog w K mg base CX0 1 f66 (spMLen CM) := by simpa only [List.append_nil] using G66.raw b66 .nil
  have G62 : FnOk l.prog w K mg base CX0 4 f62 (PySem.W.fnOf "first_word" "Box.first_word" (defArgs RM.sBFirst) (defBody RM.sBFirst) (defScope RM.sBFirst) .none kV62 dc62 pm62 an62 cd62 ct62) ["self", "place"] (RM.spFirst C) := RM.ok_first F62 T M A8 G8 A2 GWV A3 G3
  have G36 : FnOk l.prog w K mg base CX0 2 f36 (PySem.W.fnOf "_need" "_need" (defArgs sNeedAll) (defBody sNeedAll) (defScope sNeedAll) .none kV36 dc36 pm36 an36 cd36 ct36) ["machines", "box"] (spNeedAll K CM C) := ok_needall F36 A21 G21 A29 G29
  have GNA1 : FnOk l.prog w K mg base CX0 2 f36 (PySem.W.fnOf "_need" "_need" (defArgs sNeedAll) (defBody sNeedAll) (defScope sNeedAll) .none kV36 dc36 pm36 an36 cd36 ct36) ["machines", "box"] (spNeedAll1 K CM C) := ok_needall1 F36 A21 GM1 A29 G29
  have G37 : FnOk l.prog w K mg base CX0 3 f37 (PySem.W.fnOf "_need_letters" "_need_letters" (defArgs sNeedLs) (defBody sNeedLs) (defScope sNeedLs) .none kV37 dc37 pm37 an37 cd37 ct37) ["machines", "box"] (spNeedLs K CM C) := ok_needls F37 MM M R.l G59 b59 Rml G63 b63 A22 G22
  have GNL1 : FnOk l.prog w K mg base CX0 3 f37 (PySem.W.fnOf "_need_letters" "_need_letters" (defArgs sNeedLs) (defBody sNeedLs) (defScope sNeedLs) .none kV37 dc37 pm37 an37 cd37 ct37) ["machines", "box"] (spNeedLs1 K CM C) := ok_needls1 F37 MM M R.l G59 b59 Rml G63 b63 A22 G22
  have G38 : FnOk l.prog w K mg base CX0 3 f38 (PySem.W.fnOf "_first_words" "_first_words" (defArgs sFirsts) (defBody sFirsts) (defScope sFirsts) .none kV38 dc38 pm38 an38 cd38 ct38) ["machine", "box"] (spFirsts CM C) := ok_firsts F38 T en MM M Rmt G64 b64 Rme G65 b65 R.t G60 b60 R.l G59 b59 g4 k4 GPN bd4 A2 GWV A3 G3
  have G35 : FnOk l.prog w K mg base CX0 4 f35 (PySem.W.fnOf "alike_pair" "alike_pair" (defArgs sAlike) (defBody sAlike) (defScope sAlike) .none kV35 dc35 pm35 an35 cd35 ct35) ["one", "other", "box"] (spAlike CM C) := ok_alike F35 (PySem.W.mg_of X G gNS) k36 b36 G36 A37 G37 A38 G38
  have G33 : FnOk l.prog w K mg base CX0 4 f33 (PySem.W.fnOf "places" "places" (defArgs sPlaces) (defBody sPlaces) (defScope sPlaces) .none kV33 dc33 pm33 an33 cd33 ct33) ["machine", "box"] (spPlaces CM C) := ok_places F33 T (PySem.W.mg_of X G gNS) k36 b36 GNA1 A37 GNL1 A38 G38
  have G34 : FnOk l.prog w K mg base CX0 5 f34 (PySem.W.fnOf "tells_apart" "tells_apart" (defArgs sApart) (defBody sApart) (defScope sApart) .none kV34 dc34 pm34 an34 cd34 ct34) ["one", "other", "box"] (spApart CM C) := ok_apart F34 A35 G35
  have G39 : FnOk l.prog w K mg base CX0 1 f39 (PySem.W.fnOf "_law_dice" "_law_dice" (defArgs sDice) (defBody sDice) (defScope sDice) .none kV39 dc39 pm39 an39 cd39 ct39) ["_law_script", "_law_at"] (spDice K) := ok_dice F39 T.dice
  have G42 : FnOk l.prog w K mg base CX0 2 f42 (PySem.W.fnOf "_law_mixed" "_law_mixed" (defArgs sMixed) (defBody sMixed) (defScope sMixed) .none kV42 dc42 pm42 an42 cd42 ct42) ["_law_dice_here", "_law_items"] (spMixed) := ok_mixed F42 T A40
  have G43 : FnOk l.prog w K mg base CX0 3 f43 (PySem.W.fnOf "_law_letters" "_law_letters" (defArgs sLetters) (defBody sLetters) (defScope sLetters) .none kV43 dc43 pm43 an43 cd43 ct43) ["_law_dice_here", "_law_total"] (spLetters) := ok_letters F43 T A42 G42
  have G45 : FnOk l.prog w K mg base CX0 3 f45 (PySem.W.fnOf "_law_table" "_law_table" (defArgs sLTab) (defBody sLTab) (defScope sLTab) .none kV45 dc45 pm45 an45 cd45 ct45) ["_law_dice_here", "_law_letters_here", "_law_size", "_law_sorts"] (spLTab) := ok_ltab F45 T A40 A41 A44
  have G46 : FnOk l.prog w K mg base CX0 4 f46 (PySem.W.fnOf "_law_machine" "_law_machine" (defArgs sLMac) (defBody sLMac) (defScope sLMac) .none kV46 dc46 pm46 an46 cd46 ct46) ["_law_dice_here", "_law_letters_here", "_law_states"] (spLMac) := ok_lmac F46 T A40 A45 G45
  have G47 : FnOk l.prog w K mg base CX0 7 f47 (PySem.W.fnOf "_law_made_machine" "_law_made_machine" (defArgs sMade) (defBody sMade) (defScope sMade) .none kV47 dc47 pm47 an47 cd47 ct47) ["_law_plain"] (spMade CM) := ok_made F47 T MM MIM G57 b57
  have G20 : FnOk l.prog w K mg base CX0 4 f20 (PySem.W.fnOf "counts" "counts" (defArgs sCounts) (defBody sCounts) (defScope sCounts) .none kV20 dc20 pm20 an20 cd20 ct20) ["letters", "word"] (spCounts) := ok_counts F20 T A17 G17 A18 G18 A19 G19
  have G24 : FnOk l.prog w K mg base CX0 5 f24 (PySem.W.fnOf "sight" "sight" (defArgs sSight) (defBody sSight) (defScope sSight) .none kV24 dc24 pm24 an24 cd24 ct24) ["letters", "cap", "modulus", "word"] (spSight K) := ok_sight F24 T ⟨_, PySem.W.mg_of X G v_MAX_SEEN⟩ A17 G17 A8 G8 A18 G18 A19 G19 A20 G20
  have G28 : FnOk l.prog w K mg base CX0 3 f28 (PySem.W.fnOf "_seen" "_seen" (defArgs sSeenM) (defBody sSeenM) (defScope sSeenM) .none kV28 dc28 pm28 an28 cd28 ct28) ["machine", "cap", "modulus"] (spSeenM CM) := ok_seen F28 T en MM a66 n66 GLr Rmt G64 b64 Rme G65 b65 Rml G63 b63
  have G25 : FnOk l.prog w K mg base CX0 4 f25 (PySem.W.fnOf "sights" "sights" (defArgs sSights) (defBody sSights) (defScope sSights) .none kV25 dc25 pm25 an25 cd25 ct25) ["machine", "cap", "modulus"] (spSights CM) := ok_sights F25 T MM ⟨_, PySem.W.mg_of X G vMAX_CLERK⟩ A21 GM1 A8 G8 A28 G28 Rml G63 b63
  have G27 : FnOk l.prog w K mg base CX0 4 f27 (PySem.W.fnOf "_tells" "_tells" (defArgs sTells) (defBody sTells) (defScope sTells) .none kV27 dc27 pm27 an27 cd27 ct27) ["one", "other", "cap", "modulus"] (spTells CM) := ok_tells F27 T ay A28 G28
  have G23 : FnOk l.prog w K mg base CX0 1 f23 (PySem.W.fnOf "need_count_sort" "need_count_sort" (defArgs sNeedCS) (defBody sNeedCS) (defScope sNeedCS) .none kV23 dc23 pm23 an23 cd23 ct23) ["sort"] (spNeedCS) := ok_needcs (tCS := Value.none) F23 T (PySem.W.mg_of X G gCS) tCS
  have GNF : FnOk l.prog w K mg base CX0 2 f0 (PySem.W.fnOf "_need" "_need" (defArgs sNeedF) (defBody sNeedF) (defScope sNeedF) .none kV0 dc0 pm0 an0 cd0 ct0) ["one", "other", "sort"] (spNeedF K CM) := ok_needf F0 A21 G21 A23 G23
  have G9 : FnOk l.prog w K mg base CX0 1 f9 (PySem.W.fnOf "is_pair" "is_pair" (defArgs sIsPair) (defBody sIsPair) (defScope sIsPair) .none kV9 dc9 pm9 an9 cd9 ct9) ["value"] (spIsPair K) := ok_ispair F9 T
  have G26 : FnOk l.prog w K mg base CX0 5 f26 (PySem.W.fnOf "is_clerk_for" "is_clerk_for" (defArgs sIsClerk) (defBody sIsClerk) (defScope sIsClerk) .none kV26 dc26 pm26 an26 cd26 ct26) ["one", "other", "sort", "value"] (spIsClerk K CM) := ok_isclerk F26 MM ⟨_, PySem.W.mg_of X G vMAX_CLERK⟩ (PySem.W.mg_of X G gNF) k0 b0 GNF A22 G22 Rml G63 b63 A9 G9 A7 G7 A27 G27
  have G49 : FnOk l.prog w K mg base CX0 2 f49 (PySem.W.fnOf "_law_has" "_law_has" (defArgs sLHas) (defBody sLHas) (defScope sLHas) .none kV49 dc49 pm49 an49 cd49 ct49) ["_law_plain", "_law_word"] (spLHas) := ok_lhas F49 A48
  have G50 : FnOk l.prog w K mg base CX0 1 f50 (PySem.W.fnOf "_law_counts" "_law_counts" (defArgs sLCounts) (defBody sLCounts) (defScope sLCounts) .none kV50 dc50 pm50 an50 cd50 ct50) ["_law_letters_here", "_law_word"] (spLCounts) := ok_lcounts F50 T
  have G51 : FnOk l.prog w K mg base CX0 1 f51 (PySem.W.fnOf "_law_all_words" "_law_all_words" (defArgs sLAll) (defBody sLAll) (defScope sLAll) .none kV51 dc51 pm51 an51 cd51 ct51) ["_law_letters_here", "_law_most"] (spLAll) := ok_lall F51 T
  have G52 : FnOk l.prog w K mg base CX0 2 f52 (PySem.W.fnOf "_law_sight" "_law_sight" (defArgs sLSight) (defBody sLSight) (defScope sLSight) .none kV52 dc52 pm52 an52 cd52 ct52) ["_law_letters_here", "_law_cap", "_law_modulus", "_law_word"] (spLSight K) := ok_lsight F52 T A50 G50
  have B9 : TB9 l.prog w K mg base C (.type "type") [(PN, qStep)] f61 f62 pK f58 _ := ⟨PySem.W.mg_of X G gb, cl, ⟨rd, ga⟩, ⟨cmK, ⟨_, crK⟩, cfK⟩, G58.raw b58 .nil, ⟨a61, n61, fiC⟩, G61.raw b61 .nil, ⟨a62, n62, k62⟩, G62, b62⟩
  have G53 : FnOk l.prog w K mg base CX0 9 f53 (PySem.W.fnOf "_law_right" "_law_right" (defArgs sRt) (defBody sRt) (defScope sRt) .none kV53 dc53 pm53 an53 cd53 ct53) ["_law_dice_here"] (spRt [(PN, qStep)]) := ok_rt F53 T B9 A40 A43 G43 A46 G46 A47 G47 A25 G25 A33 G33 A52 G52 A51 G51 A24 G24 A49 G49 A34 G34 A26 G26
  exact ok_law9 F54 T A39 G39 A53 G53
end WK
set_option Elab.async false
set_option linter.all false
set_option maxRecDepth 100000
set_option maxHeartbeats 2000000
namespace HK
open PySem PySem.Spec PyProof.Rows L2
/-- a def as it was written, at an address -/
abbrev FnT : Type := Option (Str × Str × Arguments × FuncBody × Scope × Addr × List (Str × Addr) × Addr)
def fnAt (K : PySem.W.Frag) (f : Addr) : FnT := match K.lookup f with
  | some ⟨_, _, .func d, _⟩ => some (d.name, d.qualname, d.params, d.body, d.scope, d.globals, d.closure, d.builtins)
  | _ => none
def fnIs (nm q : Str) (st : Stmt) : FnT := some (nm, q, defArgs st, .stmts (defBody st), defScope st, mainGlobals, [], builtinsNs)
/-- none: nothing stands there; an address: that -/
def isV (d : Option Addr) (v : Value) : Bool := match d, v with
  | none, .none => true
  | some a, .ref b => Nat.beq a b
  | _, _ => false
def dV : Option Addr → Value
  | none => .none
  | some a => .ref a
theorem isV_ok {d : Option Addr} {v : Value} (h : isV d v = true) : v = dV d := by
  cases d with
  | none => cases v <;> first | rfl | cases h
  | some a =>
    cases v with
    | ref b => exact congrArg Value.ref (Nat.eq_of_beq_eq_true h).symm
    | _ => cases h
/-- an address, where one is asked -/
def anyV (d : Option Addr) (v : Value) : Bool := match d with
  | none => true
  | some _ => isV d v
/-- defaults, keyword defaults, the code object of the def at f -/
def fnB (K : PySem.W.Frag) (f : Addr) (q : Str) (d k o : Option Addr) : Bool := match K.lookup f with
  | some ⟨_, _, .func fd, _⟩ => isV d fd.defaults && (anyV k fd.kwdefaults && (anyV o fd.code && PySem.W.codeIn K fd.code q))
  | _ => false
theorem fn_ok {K : PySem.W.Frag} {f : Addr} {nm q : Str} {st : Stmt} {d k o : Option Addr} (e : fnAt K f = fnIs nm q st) (c : fnB K f q d k o = true) :
    ∃ (oc kV doc pm cd ct : Value) (od an : Option Addr) (sl : Array (Option Value)), K.lookup f = some ⟨oc, od, .func (PySem.W.fnOf nm q (defArgs st) (defBody st) (defScope st) (dV d) kV doc pm an cd ct), sl⟩ ∧ PySem.W.codeIn K cd q = true ∧ (∀ a, k = some a → kV = .ref a) ∧ (∀ a, o = some a → cd = .ref a) := by
  unfold fnAt fnIs at e
  unfold fnB at c
  cases l : K.lookup f with
  | none =>
    rw [l] at c
    cases c
  | some ob =>
    obtain ⟨oc, od, dt, sl⟩ := ob
    rw [l] at c e
    cases dt with
    | func fd =>
      obtain ⟨a1, a2, a3, a4, a5, a6, a7, a8, a9, b1, b2, b3, b4, b5, b6⟩ := fd
      have e2 : (some (a1, a2, a3, a4, a5, a6, a7, b6) : FnT) = some (nm, q, defArgs st, .stmts (defBody st), defScope st, mainGlobals, [], builtinsNs) := e
      simp only [Option.some.injEq, Prod.mk.injEq] at e2
      obtain ⟨rfl, rfl, rfl, rfl, rfl, rfl, rfl, rfl⟩ := e2
      have c2 : (isV d a8 && (anyV k a9 && (anyV o b4 && PySem.W.codeIn K b4 a2))) = true := c
      obtain ⟨c3, c6⟩ := Bool.and_eq_true_iff.mp c2
      obtain ⟨c4, c7⟩ := Bool.and_eq_true_iff.mp c6
      obtain ⟨c5, c8⟩ := Bool.and_eq_true_iff.mp c7
      have e3 := isV_ok c3
      subst e3
      refine ⟨oc, a9, b1, b2, b4, b5, od, b3, sl, rfl, c8, fun a h => ?_, fun a h => ?_⟩
      · subst h
        exact isV_ok c4
      · subst h
        exact isV_ok c5
    | _ => cases c
/-- what K says, as a Bool, and back -/
def intB (K : PySem.W.Frag) (D : Addr) (x : Str) (i : Int) : Bool := match PySem.W.nsIn K D x with
  | some (some (.int j _)) => decide (j = i)
  | _ => false
theorem int_ns {K : PySem.W.Frag} {D : Addr} {x : Str} {i : Int} (h : intB K D x i = true) : ∃ t, PySem.W.nsIn K D x = some (some (.int i t)) := by
  unfold intB at h
  cases l : PySem.W.nsIn K D x with
  | none =>
    rw [l] at h
    cases h
  | some u =>
    rw [l] at h
    cases u with
    | none => cases h
    | some v =>
      cases v with
      | int j t =>
        have e : j = i := of_decide_eq_true h
        exact ⟨t, by rw [e]⟩
      | _ => cases h
def recB (K : PySem.W.Frag) (p : Addr) (s : String) (f : Addr) : Bool := match PySem.W.recIn K p s with
  | some (.ref a :: _) => Nat.beq a f
  | _ => false
theorem rec_ns {K : PySem.W.Frag} {p f : Addr} {s : String} (h : recB K p s f = true) : ∃ r, PySem.W.recIn K p s = some (.ref f :: r) := by
  unfold recB at h
  cases l : PySem.W.recIn K p s with
  | none =>
    rw [l] at h
    cases h
  | some u =>
    rw [l] at h
    cases u with
    | nil => cases h
    | cons v r =>
      cases v with
      | ref a => exact ⟨r, by rw [Nat.eq_of_beq_eq_true h]⟩
      | _ => cases h
def oneB (K : PySem.W.Frag) (t : Addr) : Bool := match K.lookup t with
  | some ⟨_, _, .seq us _, _⟩ => decide (us.size = 1)
  | _ => false
theorem one_ns {K : PySem.W.Frag} {t : Addr} (h : oneB K t = true) : ∃ (e u : Value) (j : Option Addr) (m : Nat) (sl : Array (Option Value)), K.lookup t = some ⟨e, j, .seq #[u] m, sl⟩ := by
  unfold oneB at h
  cases l : K.lookup t with
  | none =>
    rw [l] at h
    cases h
  | some ob =>
    obtain ⟨oc, od, dt, sl⟩ := ob
    rw [l] at h
    cases dt with
    | seq us m =>
      have e : us.size = 1 := of_decide_eq_true h
      obtain ⟨us⟩ := us
      match us, e with
      | [u], _ => exact ⟨_, u, _, m, _, rfl⟩
    | _ => cases h
def clsB (K : PySem.W.Frag) (C : Addr) (x : Str) (p : Addr) : Bool := match PySem.W.findCls K (.ref C) (.type "type") x with
  | some (.get g a .none tp) => decide (g = .builtin "classmethod.__get__") && (decide (a = .ref p) && decide (tp = .ref C))
  | _ => false
theorem cls_ns {K : PySem.W.Frag} {C p : Addr} {x : Str} (h : clsB K C x p = true) : PySem.W.findCls K (.ref C) (.type "type") x = some (PySem.W.CFound.get (.builtin "classmethod.__get__") (.ref p) .none (.ref C)) := by
  unfold clsB at h
  cases l : PySem.W.findCls K (.ref C) (.type "type") x with
  | none =>
    rw [l] at h
    cases h
  | some u =>
    rw [l] at h
    cases u with
    | val v => cases h
    | get g a ob tp =>
      cases ob with
      | none =>
        obtain ⟨h1, h⟩ := Bool.and_eq_true_iff.mp h
        obtain ⟨h2, h3⟩ := Bool.and_eq_true_iff.mp h
        rw [of_decide_eq_true h1, of_decide_eq_true h2, of_decide_eq_true h3]
      | _ => cases h
def tabB (g : Addr → Option Obj) (P : Addr) : Bool := match g P with
  | some ⟨.none, none, .fields ⟨[]⟩, ⟨[]⟩⟩ => true
  | _ => false
theorem tab_ns {g : Addr → Option Obj} {P : Addr} (h : tabB g P = true) : g P = some (PySem.W.tabObj #[]) := by
  unfold tabB at h
  split at h
  · rename_i e
    exact e
  · cases h
/-- the look: the Bool ex of the part at the addresses as, the tables ts empty, the defs fs -/
def look (as ts : List Addr) (ex : PySem.W.Frag → Bool) (fs : List (Addr × FnT)) (g : Addr → Option Obj) : Bool × List FnT := (ex (He.frG g as) && ts.all fun P => tabB g P && ((He.frG g as).lookup P).isNone, fs.map fun p => fnAt (He.frG g as) p.1)
structure Says (ts : List Addr) (ex : PySem.W.Frag → Bool) (fs : List (Addr × FnT)) (h : Heap) (K : PySem.W.Frag) : Prop where
  In : K.In h
  ex : ex K = true
  fns : fs.map (fun p => fnAt K p.1) = fs.map (·.2)
  tab : ∀ P ∈ ts, h.get? P = some (PySem.W.tabObj #[]) ∧ K.lookup P = none
theorem Says.fn {ts : List Addr} {ex : PySem.W.Frag → Bool} {fs : List (Addr × FnT)} {h : Heap} {K : PySem.W.Frag} (c : Says ts ex fs h K) (i : Nat) {f : Addr} {v : FnT} (e : fs[i]? = some (f, v)) : fnAt K f = v := by
  have z := congrArg (fun l : List FnT => l[i]?) c.fns
  simpa only [List.getElem?_map, e, Option.map_some, Option.some.injEq] using z
def hook (as ts : List Addr) (ex : PySem.W.Frag → Bool) (fs : List (Addr × FnT)) : PySem.W.Hook where
  α := Bool × List FnT
  obs := fun s => look as ts ex fs s.heap.get?
  val := fun _ => (true, fs.map (·.2))
  says := fun _ h => ∃ K : PySem.W.Frag, Says ts ex fs h K
  of := fun w s e => by
    have e1 := congrArg Prod.fst e
    have e2 := congrArg Prod.snd e
    obtain ⟨h1, h2⟩ := Bool.and_eq_true_iff.mp e1
    refine ⟨_, He.frG_in, h1, e2, fun P hP => ?_⟩
    obtain ⟨h3, h4⟩ := Bool.and_eq_true_iff.mp (List.all_eq_true.mp h2 P hP)
    exact ⟨tab_ns h3, Option.isNone_iff_eq_none.mp h4⟩
  keeps := fun _ _ _ ⟨K, c⟩ k => ⟨K, PySem.W.Frag.In.keeps c.In k, c.ex, c.fns, fun P hP => ⟨k _ _ (c.tab P hP).1, (c.tab P hP).2⟩⟩
theorem look_eq {as ts : List Addr} {ex : PySem.W.Frag → Bool} {fs : List (Addr × FnT)} (s : PySem.W.SharedT) : look as ts ex fs (HandSHeadRun.getT s) = (hook as ts ex fs).obs s.abs := by
  have e : HandSHeadRun.getT s = s.abs.heap.get? := funext (HandSHeadRun.getT_eq s)
  rw [e] <;> rfl
/-- two runs that looked at two things are one that looked at both -/
theorem run_join {r : PySem.W.OpenRow} {q : Program} {as ts : List Addr} {e1 e2 : PySem.W.Frag → Bool} {fs : List (Addr × FnT)} {M : Nat} {loose : List Str} {w : World}
    (h1 : HandSHeadRun.RunEq r q (hook as ts e1 fs) (fun s => look as ts e1 fs (HandSHeadRun.getT s)) M loose w) (h2 : HandSHeadRun.RunEq r q (hook as [] e2 []) (fun s => look as [] e2 [] (HandSHeadRun.getT s)) M loose w) :
    HandSHeadRun.RunEq r q (hook as ts (fun K => e1 K && e2 K) fs) (fun s => look as ts (fun K => e1 K && e2 K) fs (HandSHeadRun.getT s)) M loose w := by
  intro os
  obtain ⟨s, es, a⟩ := Option.map_eq_some_iff.mp (h1 os)
  obtain ⟨s2, es2, b⟩ := Option.map_eq_some_iff.mp (h2 os)
  obtain rfl : s = s2 := Option.some.inj (es.symm.trans es2)
  rw [es]
  have a1 := congrArg (fun z => z.2.2.1) a
  have a2 := congrArg (fun z => z.2.2.2) a
  have b1 := congrArg (fun z => z.2.2.1) b
  obtain ⟨a3, a4⟩ := Bool.and_eq_true_iff.mp (show (e1 (He.frG (HandSHeadRun.getT s) as) && ts.all fun P => tabB (HandSHeadRun.getT s) P && ((He.frG (HandSHeadRun.getT s) as).lookup P).isNone) = true from a1)
  obtain ⟨b3, _⟩ := Bool.and_eq_true_iff.mp (show (e2 (He.frG (HandSHeadRun.getT s) as) && List.all [] fun P => tabB (HandSHeadRun.getT s) P && ((He.frG (HandSHeadRun.getT s) as).lookup P).isNone) = true from b1)
  have l : look as ts (fun K => e1 K && e2 K) fs (HandSHeadRun.getT s) = (true, fs.map (·.2)) := by
    refine Prod.ext ?_ a2
    show ((e1 _ && e2 _) && List.all _ _) = true
    rw [a3, b3, a4] <;> rfl
  refine congrArg some ?_
  have c1 := congrArg (fun z => z.1) a
  have c2 := congrArg (fun z => z.2.1) a
  exact Prod.ext c1 (Prod.ext c2 l)
end HK
namespace HK
open PySem PySem.Spec PyProof.Rows L2
/-- a tuple of None alone -/
def nonB (K : PySem.W.Frag) (t : Addr) : Bool := match K.lookup t with
  | some ⟨_, _, .seq ⟨[.none]⟩ _, _⟩ => true
  | _ => false
theorem non_ns {K : PySem.W.Frag} {t : Addr} (h : nonB K t = true) : ∃ (e : Value) (j : Option Addr) (m : Nat) (sl : Array (Option Value)), K.lookup t = some ⟨e, j, .seq #[Value.none] m, sl⟩ := by
  unfold nonB at h
  split at h
  · rename_i e
    exact ⟨_, _, _, _, e⟩
  · cases h
/-- the module's name x is a tuple, at a -/
theorem tup_at {K : PySem.W.Frag} {x : Str} {a : Addr} {vs : List He.Dv} (h : He.tupB K x vs = true) (g : PySem.W.nsIn K mainGlobals x = some (some (.ref a))) (H : Hp) : SqT K H a (vs.map (He.Dv.v K)) := by
  have e : He.ga K x = a := by
    unfold He.ga
    rw [g]
  rw [← e]
  exact He.tupB_ok h H
end HK
set_option Elab.async false
set_option linter.all false
set_option maxRecDepth 100000
set_option maxHeartbeats 0
namespace WK
open PySem L2 PyProof.Rows LCX K1 FV DP LamX
open TX (sg sigs)
open PySem.W (Frag kitOne)
def ex0 (K : Frag) : Bool := He.eqO (PySem.W.nsIn K mainGlobals "Box") (some (some (.ref 682))) && (He.eqO (PySem.W.nsIn K mainGlobals "Made") (some (some (.ref 139))) && (He.eqO (PySem.W.nsIn K mainGlobals "Machine") (some (some (.ref 445))) && ((PySem.W.plainGet K 682 Str.empty) && ((PySem.W.hasDictIn K 682) && ((PySem.W.plainOver K 682) && (He.eqO (PySem.W.findIn K (.ref 682) "__setattr__") (some (some (.builtin "object.__setattr__"))) && (He.eqO (PySem.W.findIn K (.ref 682) "__class__") (some (some (.builtin "object.__class__"))) && (decide (PySem.W.mroIn K 682 (.type "object") = some true) && ((PySem.W.makesIn K 682) && ((PySem.W.keepIn K (.ref 682)) && (He.eqO (PySem.W.findIn K (.ref 682) "__init__") (some (some (.ref 532))) && ((PySem.W.isFn K (.ref 532)) && ((PySem.W.plainGet K 139 Str.empty) && ((PySem.W.hasDictIn K 139) && ((PySem.W.plainOver K 139) && (He.eqO (PySem.W.findIn K (.ref 139) "__setattr__") (some (some (.builtin "object.__setattr__"))) && (He.eqO (PySem.W.findIn K (.ref 139) "__class__") (some (some (.builtin "object.__class__"))) && (decide (PySem.W.mroIn K 139 (.type "object") = some true) && ((PySem.W.makesIn K 139) && ((PySem.W.keepIn K (.ref 139)) && (He.eqO (PySem.W.findIn K (.ref 139) "__init__") (some (some (.ref 136))) && ((PySem.W.isFn K (.ref 136)) && ((PySem.W.plainGet K 445 Str.empty) && ((PySem.W.hasDictIn K 445) && ((PySem.W.plainOver K 445) && (He.eqO (PySem.W.findIn K (.ref 445) "__setattr__") (some (some (.builtin "object.__setattr__"))) && (He.eqO (PySem.W.findIn K (.ref 445) "__class__") (some (some (.builtin "object.__class__"))) && (decide (PySem.W.mroIn K 445 (.type "object") = some true) && ((PySem.W.makesIn K 445) && true)))))))))))))))))))))))))))))
def ex1 (K : Frag) : Bool := (PySem.W.keepIn K (.ref 445)) && (He.eqO (PySem.W.findIn K (.ref 445) "__init__") (some (some (.ref 319))) && ((PySem.W.isFn K (.ref 319)) && (He.eqO (PySem.W.specialIn K (.builtin "object.__class__") "__get__") (some (some (.builtin "getset_descriptor.__get__"))) && (decide (PySem.W.takesIn K (.builtin "object.__class__") = some true) && (He.eqO (PySem.W.findIn K (.ref 682) "_table") (some none) && (He.eqO (PySem.W.findIn K (.ref 682) "_letters") (some none) && (He.eqO (PySem.W.findIn K (.ref 139) "rows") (some none) && (He.eqO (PySem.W.findIn K (.ref 445) "_table") (some none) && (He.eqO (PySem.W.findIn K (.ref 445) "_letters") (some none) && (He.eqO (PySem.W.findIn K (.ref 445) "_ends") (some none) && ((PySem.W.readsIn K 682 (.type "type")) && (He.eqO (PySem.W.specialIn K (.ref 682) "__getattribute__") (some (some (.builtin "type.__getattribute__"))) && (HK.clsB K 682 "clerk" 591 && (HK.recB K 591 "classmethod" 589 && ((PySem.W.fnIn K 589) && (He.eqO (PySem.W.findIn K (.ref 682) "letters") (some (some (.ref 600))) && (He.eqO (PySem.W.specialIn K (.ref 600) "__get__") (some (some (.builtin "property.__get__"))) && (decide (PySem.W.takesIn K (.ref 600) = some true) && (HK.recB K 600 "property" 599 && (He.eqO (PySem.W.findIn K (.ref 682) "table") (some (some (.ref 608))) && (He.eqO (PySem.W.specialIn K (.ref 608) "__get__") (some (some (.builtin "property.__get__"))) && (decide (PySem.W.takesIn K (.ref 608) = some true) && (HK.recB K 608 "property" 607 && (He.eqO (PySem.W.findIn K (.ref 445) "letters") (some (some (.ref 327))) && (He.eqO (PySem.W.specialIn K (.ref 327) "__get__") (some (some (.builtin "property.__get__"))) && (decide (PySem.W.takesIn K (.ref 327) = some true) && (HK.recB K 327 "property" 326 && (He.eqO (PySem.W.findIn K (.ref 445) "table") (some (some (.ref 335))) && (He.eqO (PySem.W.specialIn K (.ref 335) "__get__") (some (some (.builtin "property.__get__"))) && true)))))))))))))))))))))))))))))
def ex2 (K : Frag) : Bool := decide (PySem.W.takesIn K (.ref 335) = some true) && (HK.recB K 335 "property" 334 && (He.eqO (PySem.W.findIn K (.ref 445) "ends") (some (some (.ref 343))) && (He.eqO (PySem.W.specialIn K (.ref 343) "__get__") (some (some (.builtin "property.__get__"))) && (decide (PySem.W.takesIn K (.ref 343) = some true) && (HK.recB K 343 "property" 342 && (He.eqO (PySem.W.findIn K (.ref 682) "__call__") (some (some (.ref 615))) && ((PySem.W.isFn K (.ref 615)) && (He.eqO (PySem.W.findIn K (.ref 682) "first_word") (some (some (.ref 637))) && ((PySem.W.isFn K (.ref 637)) && (He.eqO (PySem.W.findIn K (.ref 445) "__len__") (some (some (.ref 428))) && ((PySem.W.isFn K (.ref 428)) && ((PySem.W.fnIn K 615) && (decide (kitOne K (.ref 682) (.ref 682) = some true) && (decide (kitOne K (.ref 445) (.ref 445) = some true) && (((plainTys.all fun t => kitOne K (.type t) (.ref 139) == some false)) && (decide (kitOne K (.type "tuple") (.ref 139) = some false) && (He.eqO (PySem.W.nsIn K mainGlobals "need_finding") (some (some (.ref 508))) && (He.eqO (PySem.W.nsIn K mainGlobals "need_sights") (some (some (.ref 740))) && (He.eqO (PySem.W.nsIn K mainGlobals "COUNT_SORTS") (some (some (.ref 477))) && (He.tupB K "COUNT_SORTS" [.str "caps", .str "sums", .str "clerks"] && (He.eqO (PySem.W.nsIn K mainGlobals "InvalidMachine") (some (some (.ref 56))) && ((PySem.W.excIn K 56 [.type "ValueError", .type "Exception", .type "BaseException", .type "object"] "ValueError.__new__") && ((PySem.W.keepIn K (.ref 56)) && (decide (PySem.W.subIn K (.ref 56) (.type "BaseException") = some true) && (decide (PySem.W.typeIn K (.ref 56) = some (.type "type")) && (HK.fnB K 508 "_need" none none none && ((PySem.W.keepIn K (.ref 508)) && (He.eqO (PySem.W.nsIn K mainGlobals "led") (some (some (.ref 148))) && (HK.fnB K 148 "led" none none none && true)))))))))))))))))))))))))))))
def ex3 (K : Frag) : Bool := (PySem.W.keepIn K (.ref 148)) && (He.eqO (PySem.W.nsIn K mainGlobals "ways") (some (some (.ref 162))) && (HK.fnB K 162 "ways" none none none && ((PySem.W.keepIn K (.ref 162)) && (He.eqO (PySem.W.nsIn K mainGlobals "word_along") (some (some (.ref 169))) && (HK.fnB K 169 "word_along" none none none && ((PySem.W.keepIn K (.ref 169)) && (He.eqO (PySem.W.nsIn K mainGlobals "paired") (some (some (.ref 182))) && (HK.fnB K 182 "paired" (some 175) none none && ((PySem.W.keepIn K (.ref 182)) && (He.eqO (PySem.W.nsIn K mainGlobals "explored") (some (some (.ref 190))) && (HK.fnB K 190 "explored" (some 183) none none && ((PySem.W.keepIn K (.ref 190)) && (He.eqO (PySem.W.nsIn K mainGlobals "is_integer") (some (some (.ref 212))) && (HK.fnB K 212 "is_integer" none none none && ((PySem.W.keepIn K (.ref 212)) && (He.eqO (PySem.W.nsIn K mainGlobals "is_number") (some (some (.ref 219))) && (HK.fnB K 219 "is_number" none none none && ((PySem.W.keepIn K (.ref 219)) && (He.eqO (PySem.W.nsIn K mainGlobals "need_number") (some (some (.ref 226))) && (HK.fnB K 226 "need_number" none none none && ((PySem.W.keepIn K (.ref 226)) && (He.eqO (PySem.W.nsIn K mainGlobals "is_pair") (some (some (.ref 233))) && (HK.fnB K 233 "is_pair" none none none && ((PySem.W.keepIn K (.ref 233)) && (He.eqO (PySem.W.nsIn K mainGlobals "ascends") (some (some (.ref 238))) && (HK.fnB K 238 "ascends" none none none && ((PySem.W.keepIn K (.ref 238)) && (He.eqO (PySem.W.nsIn K mainGlobals "is_ascending") (some (some (.ref 243))) && (HK.fnB K 243 "is_ascending" none none none && true)))))))))))))))))))))))))))))
def ex4 (K : Frag) : Bool := (PySem.W.keepIn K (.ref 243)) && (He.eqO (PySem.W.nsIn K mainGlobals "is_table") (some (some (.ref 248))) && (HK.fnB K 248 "is_table" none none none && ((PySem.W.keepIn K (.ref 248)) && (He.eqO (PySem.W.nsIn K mainGlobals "_is_row") (some (some (.ref 253))) && (HK.fnB K 253 "_is_row" none none none && ((PySem.W.keepIn K (.ref 253)) && (He.eqO (PySem.W.nsIn K mainGlobals "is_letters") (some (some (.ref 260))) && (HK.fnB K 260 "is_letters" none none none && ((PySem.W.keepIn K (.ref 260)) && (He.eqO (PySem.W.nsIn K mainGlobals "is_word") (some (some (.ref 267))) && (HK.fnB K 267 "is_word" none none none && ((PySem.W.keepIn K (.ref 267)) && (He.eqO (PySem.W.nsIn K mainGlobals "is_over") (some (some (.ref 272))) && (HK.fnB K 272 "is_over" none none none && ((PySem.W.keepIn K (.ref 272)) && (He.eqO (PySem.W.nsIn K mainGlobals "need_letters") (some (some (.ref 279))) && (HK.fnB K 279 "need_letters" none none none && ((PySem.W.keepIn K (.ref 279)) && (He.eqO (PySem.W.nsIn K mainGlobals "need_word") (some (some (.ref 286))) && (HK.fnB K 286 "need_word" none none none && ((PySem.W.keepIn K (.ref 286)) && (He.eqO (PySem.W.nsIn K mainGlobals "need_over") (some (some (.ref 293))) && (HK.fnB K 293 "need_over" none none none && ((PySem.W.keepIn K (.ref 293)) && (He.eqO (PySem.W.nsIn K mainGlobals "counts") (some (some (.ref 303))) && (HK.fnB K 303 "counts" none none none && ((PySem.W.keepIn K (.ref 303)) && (He.eqO (PySem.W.nsIn K mainGlobals "need_machines") (some (some (.ref 464))) && (HK.fnB K 464 "need_machines" none none none && true)))))))))))))))))))))))))))))
def ex5 (K : Frag) : Bool := (PySem.W.keepIn K (.ref 464)) && (He.eqO (PySem.W.nsIn K mainGlobals "need_same_letters") (some (some (.ref 471))) && (HK.fnB K 471 "need_same_letters" none none none && ((PySem.W.keepIn K (.ref 471)) && (He.eqO (PySem.W.nsIn K mainGlobals "need_count_sort") (some (some (.ref 484))) && (HK.fnB K 484 "need_count_sort" none none none && ((PySem.W.keepIn K (.ref 484)) && (He.eqO (PySem.W.nsIn K mainGlobals "sight") (some (some (.ref 489))) && (HK.fnB K 489 "sight" none none none && ((PySem.W.keepIn K (.ref 489)) && (He.eqO (PySem.W.nsIn K mainGlobals "sights") (some (some (.ref 494))) && (HK.fnB K 494 "sights" none none none && ((PySem.W.keepIn K (.ref 494)) && (He.eqO (PySem.W.nsIn K mainGlobals "is_clerk_for") (some (some (.ref 501))) && (HK.fnB K 501 "is_clerk_for" none none none && ((PySem.W.keepIn K (.ref 501)) && (He.eqO (PySem.W.nsIn K mainGlobals "_tells") (some (some (.ref 513))) && (HK.fnB K 513 "_tells" none none none && ((PySem.W.keepIn K (.ref 513)) && (He.eqO (PySem.W.nsIn K mainGlobals "_seen") (some (some (.ref 518))) && (HK.fnB K 518 "_seen" none none none && ((PySem.W.keepIn K (.ref 518)) && (He.eqO (PySem.W.nsIn K mainGlobals "need_box") (some (some (.ref 693))) && (HK.fnB K 693 "need_box" none none none && ((PySem.W.keepIn K (.ref 693)) && (He.eqO (PySem.W.nsIn K mainGlobals "_grown") (some (some (.ref 700))) && (HK.fnB K 700 "_grown" none none none && ((PySem.W.keepIn K (.ref 700)) && (He.eqO (PySem.W.nsIn K mainGlobals "_counting") (some (some (.ref 705))) && (HK.fnB K 705 "_counting" none none (some 704) && true)))))))))))))))))))))))))))))
def ex6 (K : Frag) : Bool := (PySem.W.keepIn K (.ref 705)) && (He.eqO (PySem.W.nsIn K mainGlobals "_one_more") (some (some (.ref 712))) && (HK.fnB K 712 "_one_more" none none none && ((PySem.W.keepIn K (.ref 712)) && (He.eqO (PySem.W.nsIn K mainGlobals "places") (some (some (.ref 719))) && (HK.fnB K 719 "places" none none none && ((PySem.W.keepIn K (.ref 719)) && (He.eqO (PySem.W.nsIn K mainGlobals "tells_apart") (some (some (.ref 726))) && (HK.fnB K 726 "tells_apart" none none none && ((PySem.W.keepIn K (.ref 726)) && (He.eqO (PySem.W.nsIn K mainGlobals "alike_pair") (some (some (.ref 733))) && (HK.fnB K 733 "alike_pair" none none none && ((PySem.W.keepIn K (.ref 733)) && (He.eqO (PySem.W.nsIn K mainGlobals "_need") (some (some (.ref 740))) && (HK.fnB K 740 "_need" none none none && ((PySem.W.keepIn K (.ref 740)) && (He.eqO (PySem.W.nsIn K mainGlobals "_need_letters") (some (some (.ref 747))) && (HK.fnB K 747 "_need_letters" none none none && ((PySem.W.keepIn K (.ref 747)) && (He.eqO (PySem.W.nsIn K mainGlobals "_first_words") (some (some (.ref 754))) && (HK.fnB K 754 "_first_words" none none none && ((PySem.W.keepIn K (.ref 754)) && (He.eqO (PySem.W.nsIn K mainGlobals "_law_dice") (some (some (.ref 761))) && (HK.fnB K 761 "_law_dice" none none none && ((PySem.W.keepIn K (.ref 761)) && (He.eqO (PySem.W.nsIn K mainGlobals "_law_roll") (some (some (.ref 768))) && (HK.fnB K 768 "_law_roll" none none none && ((PySem.W.keepIn K (.ref 768)) && (He.eqO (PySem.W.nsIn K mainGlobals "_law_one_of") (some (some (.ref 775))) && (HK.fnB K 775 "_law_one_of" none none none && true)))))))))))))))))))))))))))))
def ex7 (K : Frag) : Bool := (PySem.W.keepIn K (.ref 775)) && (He.eqO (PySem.W.nsIn K mainGlobals "_law_mixed") (some (some (.ref 782))) && (HK.fnB K 782 "_law_mixed" none none none && ((PySem.W.keepIn K (.ref 782)) && (He.eqO (PySem.W.nsIn K mainGlobals "_law_letters") (some (some (.ref 789))) && (HK.fnB K 789 "_law_letters" none none none && ((PySem.W.keepIn K (.ref 789)) && (He.eqO (PySem.W.nsIn K mainGlobals "_law_action") (some (some (.ref 794))) && (HK.fnB K 794 "_law_action" none none none && ((PySem.W.keepIn K (.ref 794)) && (He.eqO (PySem.W.nsIn K mainGlobals "_law_table") (some (some (.ref 799))) && (HK.fnB K 799 "_law_table" none none none && ((PySem.W.keepIn K (.ref 799)) && (He.eqO (PySem.W.nsIn K mainGlobals "_law_machine") (some (some (.ref 804))) && (HK.fnB K 804 "_law_machine" none none none && ((PySem.W.keepIn K (.ref 804)) && (He.eqO (PySem.W.nsIn K mainGlobals "_law_made_machine") (some (some (.ref 811))) && (HK.fnB K 811 "_law_made_machine" none none none && ((PySem.W.keepIn K (.ref 811)) && (He.eqO (PySem.W.nsIn K mainGlobals "_law_led") (some (some (.ref 818))) && (HK.fnB K 818 "_law_led" none none none && ((PySem.W.keepIn K (.ref 818)) && (He.eqO (PySem.W.nsIn K mainGlobals "_law_has") (some (some (.ref 825))) && (HK.fnB K 825 "_law_has" none none none && ((PySem.W.keepIn K (.ref 825)) && (He.eqO (PySem.W.nsIn K mainGlobals "_law_counts") (some (some (.ref 830))) && (HK.fnB K 830 "_law_counts" none none none && ((PySem.W.keepIn K (.ref 830)) && (He.eqO (PySem.W.nsIn K mainGlobals "_law_all_words") (some (some (.ref 835))) && (HK.fnB K 835 "_law_all_words" none none none && true)))))))))))))))))))))))))))))
def ex8 (K : Frag) : Bool := (PySem.W.keepIn K (.ref 835)) && (He.eqO (PySem.W.nsIn K mainGlobals "_law_sight") (some (some (.ref 842))) && (HK.fnB K 842 "_law_sight" none none none && ((PySem.W.keepIn K (.ref 842)) && (He.eqO (PySem.W.nsIn K mainGlobals "_law_right") (some (some (.ref 847))) && (HK.fnB K 847 "_law_right" none none none && ((PySem.W.keepIn K (.ref 847)) && (He.eqO (PySem.W.nsIn K mainGlobals "law") (some (some (.ref 854))) && (HK.fnB K 854 "law" none none none && ((PySem.W.keepIn K (.ref 854)) && (HK.fnB K 136 "Made.__init__" none none none && ((PySem.W.keepIn K (.ref 136)) && (HK.fnB K 532 "Box.__init__" none none none && ((PySem.W.keepIn K (.ref 532)) && (HK.fnB K 319 "Machine.__init__" (some 312) none none && ((PySem.W.keepIn K (.ref 319)) && (HK.fnB K 589 "Box.clerk" none none none && ((PySem.W.keepIn K (.ref 589)) && (HK.fnB K 599 "Box.letters" none none none && ((PySem.W.keepIn K (.ref 599)) && (HK.fnB K 607 "Box.table" none none none && ((PySem.W.keepIn K (.ref 607)) && (HK.fnB K 615 "Box.__call__" none none none && ((PySem.W.keepIn K (.ref 615)) && (HK.fnB K 637 "Box.first_word" none none none && ((PySem.W.keepIn K (.ref 637)) && (HK.fnB K 326 "Machine.letters" none none none && ((PySem.W.keepIn K (.ref 326)) && (HK.fnB K 334 "Machine.table" none none none && ((PySem.W.keepIn K (.ref 334)) && true)))))))))))))))))))))))))))))
def ex9 (K : Frag) : Bool := HK.fnB K 342 "Machine.ends" none none none && ((PySem.W.keepIn K (.ref 342)) && (HK.fnB K 428 "Machine.__len__" none none none && ((PySem.W.keepIn K (.ref 428)) && (HK.nonB K 175 && (HK.oneB K 183 && (HK.oneB K 312 && ((PySem.W.codeHdIn K 704 702) && (HK.intB K mainGlobals "MAX_MADE" 400 && (HK.intB K mainGlobals "_MAX_CAP" 9 && (HK.intB K mainGlobals "_MAX_MODULUS" 12 && (HK.intB K mainGlobals "MAX_LETTERS" 3 && (HK.intB K mainGlobals "MAX_PLACES" 6 && (HK.intB K mainGlobals "MAX_STATES" 4 && (HK.intB K mainGlobals "MAX_CLERK" 12 && (HK.intB K mainGlobals "_MAX_SEEN" 40 && (He.eqO (PySem.W.nsIn K mainGlobals "len") (some none) && (He.eqO (PySem.W.nsIn K mainGlobals "int") (some none) && (He.eqO (PySem.W.nsIn K mainGlobals "abs") (some none) && (He.eqO (PySem.W.nsIn K mainGlobals "isinstance") (some none) && (He.eqO (PySem.W.nsIn K mainGlobals "bool") (some none) && (He.eqO (PySem.W.nsIn K mainGlobals "str") (some none) && (He.eqO (PySem.W.nsIn K mainGlobals "all") (some none) && (He.eqO (PySem.W.nsIn K mainGlobals "range") (some none) && (He.eqO (PySem.W.nsIn K mainGlobals "sorted") (some none) && (He.eqO (PySem.W.nsIn K mainGlobals "set") (some none) && (He.eqO (PySem.W.nsIn K mainGlobals "tuple") (some none) && (He.eqO (PySem.W.nsIn K mainGlobals "list") (some none) && (He.eqO (PySem.W.nsIn K mainGlobals "max") (some none) && (He.eqO (PySem.W.nsIn K mainGlobals "min") (some none) && true)))))))))))))))))))))))))))))
def ex10 (K : Frag) : Bool := He.eqO (PySem.W.nsIn K mainGlobals "zip") (some none) && (He.eqO (PySem.W.nsIn K mainGlobals "enumerate") (some none) && (He.eqO (PySem.W.nsIn K mainGlobals "any") (some none) && true))
def exG0 (K : Frag) : Bool := ex0 K && (ex1 K && (ex2 K && (ex3 K && (ex4 K && (ex5 K && (ex6 K && (ex7 K && true)))))))
def exG1 (K : Frag) : Bool := ex8 K && (ex9 K && (ex10 K && true))
abbrev exAllK : Frag → Bool := fun K => (fun K => (fun _ => true) K && exG0 K) K && exG1 K
abbrev fs0 : List (Addr × HK.FnT) := [(508, HK.fnIs "_need" "_need" sNeedF), (148, HK.fnIs "led" "led" sLed), (162, HK.fnIs "ways" "ways" sWays), (169, HK.fnIs "word_along" "word_along" sAlong), (182, HK.fnIs "paired" "paired" sPaired), (190, HK.fnIs "explored" "explored" sExpl), (212, HK.fnIs "is_integer" "is_integer" sIsInt), (219, HK.fnIs "is_number" "is_number" sIsNum), (226, HK.fnIs "need_number" "need_number" sNeedNum), (233, HK.fnIs "is_pair" "is_pair" sIsPair), (238, HK.fnIs "ascends" "ascends" sAsc), (243, HK.fnIs "is_ascending" "is_ascending" sIsAsc), (248, HK.fnIs "is_table" "is_table" sIsTab), (253, HK.fnIs "_is_row" "_is_row" sIsRow), (260, HK.fnIs "is_letters" "is_letters" sIsLet), (267, HK.fnIs "is_word" "is_word" sIsWord), (272, HK.fnIs "is_over" "is_over" sIsOver), (279, HK.fnIs "need_letters" "need_letters" sNeedLet), (286, HK.fnIs "need_word" "need_word" sNeedWord), (293, HK.fnIs "need_over" "need_over" sNeedOver), (303, HK.fnIs "counts" "counts" sCounts), (464, HK.fnIs "need_machines" "need_machines" sNeedMs), (471, HK.fnIs "need_same_letters" "need_same_letters" sSame), (484, HK.fnIs "need_count_sort" "need_count_sort" sNeedCS), (489, HK.fnIs "sight" "sight" sSight)]
abbrev fs1 : List (Addr × HK.FnT) := [(494, HK.fnIs "sights" "sights" sSights), (501, HK.fnIs "is_clerk_for" "is_clerk_for" sIsClerk), (513, HK.fnIs "_tells" "_tells" sTells), (518, HK.fnIs "_seen" "_seen" sSeenM), (693, HK.fnIs "need_box" "need_box" sNeedBox), (700, HK.fnIs "_grown" "_grown" sGrown), (705, HK.fnIs "_counting" "_counting" sCount), (712, HK.fnIs "_one_more" "_one_more" sOneM), (719, HK.fnIs "places" "places" sPlaces), (726, HK.fnIs "tells_apart" "tells_apart" sApart), (733, HK.fnIs "alike_pair" "alike_pair" sAlike), (740, HK.fnIs "_need" "_need" sNeedAll), (747, HK.fnIs "_need_letters" "_need_letters" sNeedLs), (754, HK.fnIs "_first_words" "_first_words" sFirsts), (761, HK.fnIs "_law_dice" "_law_dice" sDice), (768, HK.fnIs "_law_roll" "_law_roll" sRoll), (775, HK.fnIs "_law_one_of" "_law_one_of" sOne), (782, HK.fnIs "_law_mixed" "_law_mixed" sMixed), (789, HK.fnIs "_law_letters" "_law_letters" sLetters), (794, HK.fnIs "_law_action" "_law_action" sAct), (799, HK.fnIs "_law_table" "_law_table" sLTab), (804, HK.fnIs "_law_machine" "_law_machine" sLMac), (811, HK.fnIs "_law_made_machine" "_law_made_machine" sMade), (818, HK.fnIs "_law_led" "_law_led" sLLed), (825, HK.fnIs "_law_has" "_law_has" sLHas)]
abbrev fs2 : List (Addr × HK.FnT) := [(830, HK.fnIs "_law_counts" "_law_counts" sLCounts), (835, HK.fnIs "_law_all_words" "_law_all_words" sLAll), (842, HK.fnIs "_law_sight" "_law_sight" sLSight), (847, HK.fnIs "_law_right" "_law_right" sRt), (854, HK.fnIs "law" "law" sLaw9), (136, HK.fnIs "__init__" "Made.__init__" sMadeI), (532, HK.fnIs "__init__" "Box.__init__" sBoxI), (319, HK.fnIs "__init__" "Machine.__init__" sMInit), (589, HK.fnIs "clerk" "Box.clerk" sClerk), (599, HK.fnIs "letters" "Box.letters" sBGet), (607, HK.fnIs "table" "Box.table" sBTab), (615, HK.fnIs "__call__" "Box.__call__" sBCall), (637, HK.fnIs "first_word" "Box.first_word" RM.sBFirst), (326, HK.fnIs "letters" "Machine.letters" sMLet), (334, HK.fnIs "table" "Machine.table" sMTab), (342, HK.fnIs "ends" "Machine.ends" sMEnd), (428, HK.fnIs "__len__" "Machine.__len__" sMLen)]
abbrev fsAll : List (Addr × HK.FnT) := fs0 ++ (fs1 ++ (fs2))
def as0 : List Addr := [2, 3, 15, 17, 18, 20, 21, 22, 29, 30, 31, 32, 35, 42, 43, 44, 47, 54, 55, 56, 59, 66, 67, 68, 71, 78, 79, 80, 83, 90, 92, 93, 95, 96, 97, 98, 99, 100, 103, 110, 112, 113, 115, 116, 117, 118, 119, 120, 130, 132, 133, 135, 136, 137, 138, 139, 140, 141, 144, 147]
def as1 : List Addr := [148, 149, 151, 152, 154, 155, 156, 158, 159, 161, 162, 163, 165, 166, 168, 169, 170, 173, 174, 175, 176, 178, 179, 181, 182, 183, 184, 186, 187, 189, 190, 191, 194, 195, 196, 199, 200, 201, 204, 205, 206, 208, 209, 211, 212, 213, 215, 216, 218, 219, 220, 222, 223, 225, 226, 227, 229, 230, 232, 233]
def as2 : List Addr := [234, 237, 238, 239, 242, 243, 244, 247, 248, 249, 252, 253, 254, 256, 257, 259, 260, 261, 263, 264, 266, 267, 268, 271, 272, 273, 275, 276, 278, 279, 280, 282, 283, 285, 286, 287, 289, 290, 292, 293, 294, 297, 298, 299, 302, 303, 311, 312, 313, 315, 316, 318, 319, 320, 322, 323, 325, 326, 327, 328]
def as3 : List Addr := [330, 331, 333, 334, 335, 336, 338, 339, 341, 342, 343, 344, 346, 347, 349, 350, 351, 352, 354, 355, 357, 358, 359, 360, 361, 363, 364, 366, 367, 368, 370, 371, 373, 374, 375, 377, 378, 380, 381, 382, 384, 385, 387, 388, 389, 392, 393, 394, 396, 397, 399, 400, 401, 403, 404, 406, 407, 408, 410, 411]
def as4 : List Addr := [413, 414, 415, 417, 418, 420, 421, 422, 424, 425, 427, 428, 429, 431, 432, 434, 435, 436, 438, 439, 441, 442, 443, 444, 445, 446, 447, 450, 451, 453, 454, 456, 457, 458, 460, 461, 463, 464, 465, 467, 468, 470, 471, 472, 475, 476, 477, 478, 480, 481, 483, 484, 485, 488, 489, 490, 493, 494, 495, 497]
def as5 : List Addr := [498, 500, 501, 502, 504, 505, 507, 508, 509, 512, 513, 514, 517, 518, 526, 528, 529, 531, 532, 533, 535, 536, 538, 539, 540, 541, 542, 543, 545, 546, 548, 549, 550, 551, 552, 553, 555, 556, 558, 559, 560, 561, 562, 563, 565, 566, 568, 569, 570, 571, 572, 573, 575, 576, 578, 579, 580, 581, 582, 583]
def as6 : List Addr := [585, 586, 588, 589, 590, 591, 592, 593, 595, 596, 598, 599, 600, 601, 603, 604, 606, 607, 608, 609, 611, 612, 614, 615, 616, 617, 619, 620, 622, 623, 624, 626, 627, 629, 630, 631, 633, 634, 636, 637, 638, 640, 641, 643, 644, 645, 647, 648, 650, 651, 652, 654, 655, 657, 658, 659, 661, 662, 664, 665]
def as7 : List Addr := [666, 668, 669, 671, 672, 673, 675, 676, 678, 679, 680, 681, 682, 683, 684, 687, 689, 690, 692, 693, 694, 696, 697, 699, 700, 701, 704, 705, 706, 708, 709, 711, 712, 713, 715, 716, 718, 719, 720, 722, 723, 725, 726, 727, 729, 730, 732, 733, 734, 736, 737, 739, 740, 741, 743, 744, 746, 747, 748, 750]
def as8 : List Addr := [751, 753, 754, 755, 757, 758, 760, 761, 762, 764, 765, 767, 768, 769, 771, 772, 774, 775, 776, 778, 779, 781, 782, 783, 785, 786, 788, 789, 790, 793, 794, 795, 798, 799, 800, 803, 804, 805, 807, 808, 810, 811, 812, 814, 815, 817, 818, 819, 821, 822, 824, 825, 826, 829, 830, 831, 834, 835, 836, 838]
def as9 : List Addr := [839, 841, 842, 843, 846, 847, 848, 850, 851, 853, 854]
def asAll : List Addr := as0 ++ (as1 ++ (as2 ++ (as3 ++ (as4 ++ (as5 ++ (as6 ++ (as7 ++ (as8 ++ (as9)))))))))
abbrev tsAll : List Addr := [702]
def nm0 : List Str := ["_wall", "WatchError", "InvalidWord", "InvalidMachine", "InvalidBox", "InvalidOperation", "InvalidNumber", "TooMany", "Made", "led", "led_often", "ways", "word_along", "trimmed", "paired", "explored", "numbered", "refined", "least_parts", "is_integer", "is_number", "need_number", "is_pair", "ascends", "is_ascending", "is_table", "_is_row", "MAX_LETTERS", "is_letters", "is_word"]
def nm1 : List Str := ["is_over", "need_letters", "need_word", "need_over", "all_words", "counts", "MAX_STATES", "MAX_TIMES", "Machine", "least_machine", "need_machines", "need_same_letters", "_combined", "COUNT_SORTS", "need_count_sort", "MAX_CLERK", "_MAX_SEEN", "sight", "sights", "is_clerk_for", "_need", "need_finding", "_tells", "_seen", "MAX_PLACES", "MAX_MADE", "_MAX_CAP", "_MAX_MODULUS", "Box", "need_box"]
def nm2 : List Str := ["_grown", "_counting", "_one_more", "places", "tells_apart", "alike_pair", "need_sights", "_need_letters", "_first_words", "_law_dice", "_law_roll", "_law_one_of", "_law_mixed", "_law_letters", "_law_action", "_law_table", "_law_machine", "_law_made_machine", "_law_led", "_law_has", "_law_counts", "_law_all_words", "_law_sight", "_law_right"]
def nmAll : List Str := nm0 ++ (nm1 ++ (nm2))
abbrev Rw : PySem.W.OpenRow := PySem.W.OpenLaw.row PySem.Challenge.rw_watchkinds_k89_whole_sights_of_clerks
abbrev hkAll : PySem.W.Hook := HK.hook asAll tsAll exAllK fsAll
def obAll (s : PySem.W.SharedT) : Bool × List HK.FnT := HK.look asAll tsAll exAllK fsAll (HandSHeadRun.getT s)
theorem obAll_eq (s : PySem.W.SharedT) : obAll s = hkAll.obs s.abs := HK.look_eq s
theorem runF (w : World) : HandSHeadRun.RunEq Rw (PySem.W.view Rw.prog [95]) (HK.hook asAll tsAll (fun _ => true) fsAll) (fun s => HK.look asAll tsAll (fun _ => true) fsAll (HandSHeadRun.getT s)) 9000 nmAll w := by
  intro os
  kernel_rfl
theorem runG0 (w : World) : HandSHeadRun.RunEq Rw (PySem.W.view Rw.prog [95]) (HK.hook asAll [] (exG0) []) (fun s => HK.look asAll [] (exG0) [] (HandSHeadRun.getT s)) 9000 nmAll w := by
  intro os
  kernel_rfl
theorem runG1 (w : World) : HandSHeadRun.RunEq Rw (PySem.W.view Rw.prog [95]) (HK.hook asAll [] (exG1) []) (fun s => HK.look asAll [] (exG1) [] (HandSHeadRun.getT s)) 9000 nmAll w := by
  intro os
  kernel_rfl
theorem runAll (w : World) : HandSHeadRun.RunEq Rw (PySem.W.view Rw.prog [95]) hkAll obAll 9000 nmAll w := HK.run_join (HK.run_join (runF w) (runG0 w)) (runG1 w)
theorem facts {w : World} {K : Frag} {h : Heap} {mg : Str → Option Value} {fa : Addr} (c : HK.Says tsAll exAllK fsAll h K) (G : h.Ns mainGlobals mg) (hfa : mg "law" = some (.ref fa)) : LamX.LawAtS PySem.Challenge.rw_watchkinds_k89_whole_sights_of_clerks w K CX0 10 63 "_law_script" mg fa h := by
  have X := c.ex
  obtain ⟨X, Y1⟩ := Bool.and_eq_true_iff.mp X
  obtain ⟨X, Y0⟩ := Bool.and_eq_true_iff.mp X
  obtain ⟨E0, Y0⟩ := Bool.and_eq_true_iff.mp Y0
  have E0 : (He.eqO (PySem.W.nsIn K mainGlobals "Box") (some (some (.ref 682))) && (He.eqO (PySem.W.nsIn K mainGlobals "Made") (some (some (.ref 139))) && (He.eqO (PySem.W.nsIn K mainGlobals "Machine") (some (some (.ref 445))) && ((PySem.W.plainGet K 682 Str.empty) && ((PySem.W.hasDictIn K 682) && ((PySem.W.plainOver K 682) && (He.eqO (PySem.W.findIn K (.ref 682) "__setattr__") (some (some (.builtin "object.__setattr__"))) && (He.eqO (PySem.W.findIn K (.ref 682) "__class__") (some (some (.builtin "object.__class__"))) && (decide (PySem.W.mroIn K 682 (.type "object") = some true) && ((PySem.W.makesIn K 682) && ((PySem.W.keepIn K (.ref 682)) && (He.eqO (PySem.W.findIn K (.ref 682) "__init__") (some (some (.ref 532))) && ((PySem.W.isFn K (.ref 532)) && ((PySem.W.plainGet K 139 Str.empty) && ((PySem.W.hasDictIn K 139) && ((PySem.W.plainOver K 139) && (He.eqO (PySem.W.findIn K (.ref 139) "__setattr__") (some (some (.builtin "object.__setattr__"))) && (He.eqO (PySem.W.findIn K (.ref 139) "__class__") (some (some (.builtin "object.__class__"))) && (decide (PySem.W.mroIn K 139 (.type "object") = some true) && ((PySem.W.makesIn K 139) && ((PySem.W.keepIn K (.ref 139)) && (He.eqO (PySem.W.findIn K (.ref 139) "__init__") (some (some (.ref 136))) && ((PySem.W.isFn K (.ref 136)) && ((PySem.W.plainGet K 445 Str.empty) && ((PySem.W.hasDictIn K 445) && ((PySem.W.plainOver K 445) && (He.eqO (PySem.W.findIn K (.ref 445) "__setattr__") (some (some (.builtin "object.__setattr__"))) && (He.eqO (PySem.W.findIn K (.ref 445) "__class__") (some (some (.builtin "object.__class__"))) && (decide (PySem.W.mroIn K 445 (.type "object") = some true) && ((PySem.W.makesIn K 445) && true)))))))))))))))))))))))))))))) = true := E0
  obtain ⟨S, E0⟩ := Bool.and_eq_true_iff.mp E0
  have gb : PySem.W.nsIn K mainGlobals "Box" = some (some (.ref 682)) := He.eqO_ok S
  obtain ⟨S, E0⟩ := Bool.and_eq_true_iff.mp E0
  have gd : PySem.W.nsIn K mainGlobals "Made" = some (some (.ref 139)) := He.eqO_ok S
  obtain ⟨S, E0⟩ := Bool.and_eq_true_iff.mp E0
  have gm : PySem.W.nsIn K mainGlobals "Machine" = some (some (.ref 445)) := He.eqO_ok S
  obtain ⟨S, E0⟩ := Bool.and_eq_true_iff.mp E0
  have pgb : PySem.W.plainGet K 682 Str.empty = true := S
  obtain ⟨S, E0⟩ := Bool.and_eq_true_iff.mp E0
  have hdb : PySem.W.hasDictIn K 682 = true := S
  obtain ⟨S, E0⟩ := Bool.and_eq_true_iff.mp E0
  have pob : PySem.W.plainOver K 682 = true := S
  obtain ⟨S, E0⟩ := Bool.and_eq_true_iff.mp E0
  have sab : PySem.W.findIn K (.ref 682) "__setattr__" = some (some (.builtin "object.__setattr__")) := He.eqO_ok S
  obtain ⟨S, E0⟩ := Bool.and_eq_true_iff.mp E0
  have ccb : PySem.W.findIn K (.ref 682) "__class__" = some (some (.builtin "object.__class__")) := He.eqO_ok S
  obtain ⟨S, E0⟩ := Bool.and_eq_true_iff.mp E0
  have obb : PySem.W.mroIn K 682 (.type "object") = some true := of_decide_eq_true S
  obtain ⟨S, E0⟩ := Bool.and_eq_true_iff.mp E0
  have mkb : PySem.W.makesIn K 682 = true := S
  obtain ⟨S, E0⟩ := Bool.and_eq_true_iff.mp E0
  have kCb : PySem.W.keepIn K (.ref 682) = true := S
  obtain ⟨S, E0⟩ := Bool.and_eq_true_iff.mp E0
  have ib : PySem.W.findIn K (.ref 682) "__init__" = some (some (.ref 532)) := He.eqO_ok S
  obtain ⟨S, E0⟩ := Bool.and_eq_true_iff.mp E0
  have nib : PySem.W.isFn K (.ref 532) = true := S
  obtain ⟨S, E0⟩ := Bool.and_eq_true_iff.mp E0
  have pgd : PySem.W.plainGet K 139 Str.empty = true := S
  obtain ⟨S, E0⟩ := Bool.and_eq_true_iff.mp E0
  have hdd : PySem.W.hasDictIn K 139 = true := S
  obtain ⟨S, E0⟩ := Bool.and_eq_true_iff.mp E0
  have pod : PySem.W.plainOver K 139 = true := S
  obtain ⟨S, E0⟩ := Bool.and_eq_true_iff.mp E0
  have sad : PySem.W.findIn K (.ref 139) "__setattr__" = some (some (.builtin "object.__setattr__")) := He.eqO_ok S
  obtain ⟨S, E0⟩ := Bool.and_eq_true_iff.mp E0
  have ccd : PySem.W.findIn K (.ref 139) "__class__" = some (some (.builtin "object.__class__")) := He.eqO_ok S
  obtain ⟨S, E0⟩ := Bool.and_eq_true_iff.mp E0
  have obd : PySem.W.mroIn K 139 (.type "object") = some true := of_decide_eq_true S
  obtain ⟨S, E0⟩ := Bool.and_eq_true_iff.mp E0
  have mkd : PySem.W.makesIn K 139 = true := S
  obtain ⟨S, E0⟩ := Bool.and_eq_true_iff.mp E0
  have kCd : PySem.W.keepIn K (.ref 139) = true := S
  obtain ⟨S, E0⟩ := Bool.and_eq_true_iff.mp E0
  have id : PySem.W.findIn K (.ref 139) "__init__" = some (some (.ref 136)) := He.eqO_ok S
  obtain ⟨S, E0⟩ := Bool.and_eq_true_iff.mp E0
  have nid : PySem.W.isFn K (.ref 136) = true := S
  obtain ⟨S, E0⟩ := Bool.and_eq_true_iff.mp E0
  have pgm : PySem.W.plainGet K 445 Str.empty = true := S
  obtain ⟨S, E0⟩ := Bool.and_eq_true_iff.mp E0
  have hdm : PySem.W.hasDictIn K 445 = true := S
  obtain ⟨S, E0⟩ := Bool.and_eq_true_iff.mp E0
  have pom : PySem.W.plainOver K 445 = true := S
  obtain ⟨S, E0⟩ := Bool.and_eq_true_iff.mp E0
  have sam : PySem.W.findIn K (.ref 445) "__setattr__" = some (some (.builtin "object.__setattr__")) := He.eqO_ok S
  obtain ⟨S, E0⟩ := Bool.and_eq_true_iff.mp E0
  have ccm : PySem.W.findIn K (.ref 445) "__class__" = some (some (.builtin "object.__class__")) := He.eqO_ok S
  obtain ⟨S, E0⟩ := Bool.and_eq_true_iff.mp E0
  have obm : PySem.W.mroIn K 445 (.type "object") = some true := of_decide_eq_true S
  obtain ⟨S, E0⟩ := Bool.and_eq_true_iff.mp E0
  have mkm : PySem.W.makesIn K 445 = true := S
  obtain ⟨E1, Y0⟩ := Bool.and_eq_true_iff.mp Y0
  have E1 : ((PySem.W.keepIn K (.ref 445)) && (He.eqO (PySem.W.findIn K (.ref 445) "__init__") (some (some (.ref 319))) && ((PySem.W.isFn K (.ref 319)) && (He.eqO (PySem.W.specialIn K (.builtin "object.__class__") "__get__") (some (some (.builtin "getset_descriptor.__get__"))) && (decide (PySem.W.takesIn K (.builtin "object.__class__") = some true) && (He.eqO (PySem.W.findIn K (.ref 682) "_table") (some none) && (He.eqO (PySem.W.findIn K (.ref 682) "_letters") (some none) && (He.eqO (PySem.W.findIn K (.ref 139) "rows") (some none) && (He.eqO (PySem.W.findIn K (.ref 445) "_table") (some none) && (He.eqO (PySem.W.findIn K (.ref 445) "_letters") (some none) && (He.eqO (PySem.W.findIn K (.ref 445) "_ends") (some none) && ((PySem.W.readsIn K 682 (.type "type")) && (He.eqO (PySem.W.specialIn K (.ref 682) "__getattribute__") (some (some (.builtin "type.__getattribute__"))) && (HK.clsB K 682 "clerk" 591 && (HK.recB K 591 "classmethod" 589 && ((PySem.W.fnIn K 589) && (He.eqO (PySem.W.findIn K (.ref 682) "letters") (some (some (.ref 600))) && (He.eqO (PySem.W.specialIn K (.ref 600) "__get__") (some (some (.builtin "property.__get__"))) && (decide (PySem.W.takesIn K (.ref 600) = some true) && (HK.recB K 600 "property" 599 && (He.eqO (PySem.W.findIn K (.ref 682) "table") (some (some (.ref 608))) && (He.eqO (PySem.W.specialIn K (.ref 608) "__get__") (some (some (.builtin "property.__get__"))) && (decide (PySem.W.takesIn K (.ref 608) = some true) && (HK.recB K 608 "property" 607 && (He.eqO (PySem.W.findIn K (.ref 445) "letters") (some (some (.ref 327))) && (He.eqO (PySem.W.specialIn K (.ref 327) "__get__") (some (some (.builtin "property.__get__"))) && (decide (PySem.W.takesIn K (.ref 327) = some true) && (HK.recB K 327 "property" 326 && (He.eqO (PySem.W.findIn K (.ref 445) "table") (some (some (.ref 335))) && (He.eqO (PySem.W.specialIn K (.ref 335) "__get__") (some (some (.builtin "property.__get__"))) && true)))))))))))))))))))))))))))))) = true := E1
  obtain ⟨S, E1⟩ := Bool.and_eq_true_iff.mp E1
  have kCm : PySem.W.keepIn K (.ref 445) = true := S
  obtain ⟨S, E1⟩ := Bool.and_eq_true_iff.mp E1
  have im : PySem.W.findIn K (.ref 445) "__init__" = some (some (.ref 319)) := He.eqO_ok S
  obtain ⟨S, E1⟩ := Bool.and_eq_true_iff.mp E1
  have nim : PySem.W.isFn K (.ref 319) = true := S
  obtain ⟨S, E1⟩ := Bool.and_eq_true_iff.mp E1
  have cn : PySem.W.specialIn K (.builtin "object.__class__") "__get__" = some (some (.builtin "getset_descriptor.__get__")) := He.eqO_ok S
  obtain ⟨S, E1⟩ := Bool.and_eq_true_iff.mp E1
  have ct : PySem.W.takesIn K (.builtin "object.__class__") = some true := of_decide_eq_true S
  obtain ⟨S, E1⟩ := Bool.and_eq_true_iff.mp E1
  have nT : PySem.W.findIn K (.ref 682) "_table" = some none := He.eqO_ok S
  obtain ⟨S, E1⟩ := Bool.and_eq_true_iff.mp E1
  have nL : PySem.W.findIn K (.ref 682) "_letters" = some none := He.eqO_ok S
  obtain ⟨S, E1⟩ := Bool.and_eq_true_iff.mp E1
  have nR : PySem.W.findIn K (.ref 139) "rows" = some none := He.eqO_ok S
  obtain ⟨S, E1⟩ := Bool.and_eq_true_iff.mp E1
  have nMT : PySem.W.findIn K (.ref 445) "_table" = some none := He.eqO_ok S
  obtain ⟨S, E1⟩ := Bool.and_eq_true_iff.mp E1
  have nML : PySem.W.findIn K (.ref 445) "_letters" = some none := He.eqO_ok S
  obtain ⟨S, E1⟩ := Bool.and_eq_true_iff.mp E1
  have nME : PySem.W.findIn K (.ref 445) "_ends" = some none := He.eqO_ok S
  obtain ⟨S, E1⟩ := Bool.and_eq_true_iff.mp E1
  have rd : PySem.W.readsIn K 682 (.type "type") = true := S
  obtain ⟨S, E1⟩ := Bool.and_eq_true_iff.mp E1
  have ga : PySem.W.specialIn K (.ref 682) "__getattribute__" = some (some (.builtin "type.__getattribute__")) := He.eqO_ok S
  obtain ⟨S, E1⟩ := Bool.and_eq_true_iff.mp E1
  have cmK := HK.cls_ns S
  obtain ⟨S, E1⟩ := Bool.and_eq_true_iff.mp E1
  obtain ⟨_, crK⟩ := HK.rec_ns S
  obtain ⟨S, E1⟩ := Bool.and_eq_true_iff.mp E1
  have cfK : PySem.W.fnIn K 589 = true := S
  obtain ⟨S, E1⟩ := Bool.and_eq_true_iff.mp E1
  have pal : PySem.W.findIn K (.ref 682) "letters" = some (some (.ref 600)) := He.eqO_ok S
  obtain ⟨S, E1⟩ := Bool.and_eq_true_iff.mp E1
  have pg_l : PySem.W.specialIn K (.ref 600) "__get__" = some (some (.builtin "property.__get__")) := He.eqO_ok S
  obtain ⟨S, E1⟩ := Bool.and_eq_true_iff.mp E1
  have pt_l : PySem.W.takesIn K (.ref 600) = some true := of_decide_eq_true S
  obtain ⟨S, E1⟩ := Bool.and_eq_true_iff.mp E1
  obtain ⟨_, pr_l⟩ := HK.rec_ns S
  obtain ⟨S, E1⟩ := Bool.and_eq_true_iff.mp E1
  have pat : PySem.W.findIn K (.ref 682) "table" = some (some (.ref 608)) := He.eqO_ok S
  obtain ⟨S, E1⟩ := Bool.and_eq_true_iff.mp E1
  have pg_t : PySem.W.specialIn K (.ref 608) "__get__" = some (some (.builtin "property.__get__")) := He.eqO_ok S
  obtain ⟨S, E1⟩ := Bool.and_eq_true_iff.mp E1
  have pt_t : PySem.W.takesIn K (.ref 608) = some true := of_decide_eq_true S
  obtain ⟨S, E1⟩ := Bool.and_eq_true_iff.mp E1
  obtain ⟨_, pr_t⟩ := HK.rec_ns S
  obtain ⟨S, E1⟩ := Bool.and_eq_true_iff.mp E1
  have paml : PySem.W.findIn K (.ref 445) "letters" = some (some (.ref 327)) := He.eqO_ok S
  obtain ⟨S, E1⟩ := Bool.and_eq_true_iff.mp E1
  have pg_ml : PySem.W.specialIn K (.ref 327) "__get__" = some (some (.builtin "property.__get__")) := He.eqO_ok S
  obtain ⟨S, E1⟩ := Bool.and_eq_true_iff.mp E1
  have pt_ml : PySem.W.takesIn K (.ref 327) = some true := of_decide_eq_true S
  obtain ⟨S, E1⟩ := Bool.and_eq_true_iff.mp E1
  obtain ⟨_, pr_ml⟩ := HK.rec_ns S
  obtain ⟨S, E1⟩ := Bool.and_eq_true_iff.mp E1
  have pamt : PySem.W.findIn K (.ref 445) "table" = some (some (.ref 335)) := He.eqO_ok S
  obtain ⟨S, E1⟩ := Bool.and_eq_true_iff.mp E1
  have pg_mt : PySem.W.specialIn K (.ref 335) "__get__" = some (some (.builtin "property.__get__")) := He.eqO_ok S
  obtain ⟨E2, Y0⟩ := Bool.and_eq_true_iff.mp Y0
  have E2 : (decide (PySem.W.takesIn K (.ref 335) = some true) && (HK.recB K 335 "property" 334 && (He.eqO (PySem.W.findIn K (.ref 445) "ends") (some (some (.ref 343))) && (He.eqO (PySem.W.specialIn K (.ref 343) "__get__") (some (some (.builtin "property.__get__"))) && (decide (PySem.W.takesIn K (.ref 343) = some true) && (HK.recB K 343 "property" 342 && (He.eqO (PySem.W.findIn K (.ref 682) "__call__") (some (some (.ref 615))) && ((PySem.W.isFn K (.ref 615)) && (He.eqO (PySem.W.findIn K (.ref 682) "first_word") (some (some (.ref 637))) && ((PySem.W.isFn K (.ref 637)) && (He.eqO (PySem.W.findIn K (.ref 445) "__len__") (some (some (.ref 428))) && ((PySem.W.isFn K (.ref 428)) && ((PySem.W.fnIn K 615) && (decide (kitOne K (.ref 682) (.ref 682) = some true) && (decide (kitOne K (.ref 445) (.ref 445) = some true) && (((plainTys.all fun t => kitOne K (.type t) (.ref 139) == some false)) && (decide (kitOne K (.type "tuple") (.ref 139) = some false) && (He.eqO (PySem.W.nsIn K mainGlobals "need_finding") (some (some (.ref 508))) && (He.eqO (PySem.W.nsIn K mainGlobals "need_sights") (some (some (.ref 740))) && (He.eqO (PySem.W.nsIn K mainGlobals "COUNT_SORTS") (some (some (.ref 477))) && (He.tupB K "COUNT_SORTS" [.str "caps", .str "sums", .str "clerks"] && (He.eqO (PySem.W.nsIn K mainGlobals "InvalidMachine") (some (some (.ref 56))) && ((PySem.W.excIn K 56 [.type "ValueError", .type "Exception", .type "BaseException", .type "object"] "ValueError.__new__") && ((PySem.W.keepIn K (.ref 56)) && (decide (PySem.W.subIn K (.ref 56) (.type "BaseException") = some true) && (decide (PySem.W.typeIn K (.ref 56) = some (.type "type")) && (HK.fnB K 508 "_need" none none none && ((PySem.W.keepIn K (.ref 508)) && (He.eqO (PySem.W.nsIn K mainGlobals "led") (some (some (.ref 148))) && (HK.fnB K 148 "led" none none none && true)))))))))))))))))))))))))))))) = true := E2
  obtain ⟨S, E2⟩ := Bool.and_eq_true_iff.mp E2
  have pt_mt : PySem.W.takesIn K (.ref 335) = some true := of_decide_eq_true S
  obtain ⟨S, E2⟩ := Bool.and_eq_true_iff.mp E2
  obtain ⟨_, pr_mt⟩ := HK.rec_ns S
  obtain ⟨S, E2⟩ := Bool.and_eq_true_iff.mp E2
  have pame : PySem.W.findIn K (.ref 445) "ends" = some (some (.ref 343)) := He.eqO_ok S
  obtain ⟨S, E2⟩ := Bool.and_eq_true_iff.mp E2
  have pg_me : PySem.W.specialIn K (.ref 343) "__get__" = some (some (.builtin "property.__get__")) := He.eqO_ok S
  obtain ⟨S, E2⟩ := Bool.and_eq_true_iff.mp E2
  have pt_me : PySem.W.takesIn K (.ref 343) = some true := of_decide_eq_true S
  obtain ⟨S, E2⟩ := Bool.and_eq_true_iff.mp E2
  obtain ⟨_, pr_me⟩ := HK.rec_ns S
  obtain ⟨S, E2⟩ := Bool.and_eq_true_iff.mp E2
  have a61 : PySem.W.findIn K (.ref 682) "__call__" = some (some (.ref 615)) := He.eqO_ok S
  obtain ⟨S, E2⟩ := Bool.and_eq_true_iff.mp E2
  have n61 : PySem.W.isFn K (.ref 615) = true := S
  obtain ⟨S, E2⟩ := Bool.and_eq_true_iff.mp E2
  have a62 : PySem.W.findIn K (.ref 682) "first_word" = some (some (.ref 637)) := He.eqO_ok S
  obtain ⟨S, E2⟩ := Bool.and_eq_true_iff.mp E2
  have n62 : PySem.W.isFn K (.ref 637) = true := S
  obtain ⟨S, E2⟩ := Bool.and_eq_true_iff.mp E2
  have a66 : PySem.W.findIn K (.ref 445) "__len__" = some (some (.ref 428)) := He.eqO_ok S
  obtain ⟨S, E2⟩ := Bool.and_eq_true_iff.mp E2
  have n66 : PySem.W.isFn K (.ref 428) = true := S
  obtain ⟨S, E2⟩ := Bool.and_eq_true_iff.mp E2
  have fiC : PySem.W.fnIn K 615 = true := S
  obtain ⟨S, E2⟩ := Bool.and_eq_true_iff.mp E2
  have ki : kitOne K (.ref 682) (.ref 682) = some true := of_decide_eq_true S
  obtain ⟨S, E2⟩ := Bool.and_eq_true_iff.mp E2
  have kim : kitOne K (.ref 445) (.ref 445) = some true := of_decide_eq_true S
  obtain ⟨S, E2⟩ := Bool.and_eq_true_iff.mp E2
  have kitD : (plainTys.all fun t => kitOne K (.type t) (.ref 139) == some false) = true := S
  obtain ⟨S, E2⟩ := Bool.and_eq_true_iff.mp E2
  have kt : kitOne K (.type "tuple") (.ref 139) = some false := of_decide_eq_true S
  obtain ⟨S, E2⟩ := Bool.and_eq_true_iff.mp E2
  have gNF : PySem.W.nsIn K mainGlobals "need_finding" = some (some (.ref 508)) := He.eqO_ok S
  obtain ⟨S, E2⟩ := Bool.and_eq_true_iff.mp E2
  have gNS : PySem.W.nsIn K mainGlobals "need_sights" = some (some (.ref 740)) := He.eqO_ok S
  obtain ⟨S, E2⟩ := Bool.and_eq_true_iff.mp E2
  have gCS : PySem.W.nsIn K mainGlobals "COUNT_SORTS" = some (some (.ref 477)) := He.eqO_ok S
  obtain ⟨S, E2⟩ := Bool.and_eq_true_iff.mp E2
  have tCS : ∀ H : Hp, SqT K H 477 [V.str "caps", V.str "sums", V.str "clerks"] := HK.tup_at S gCS
  obtain ⟨S, E2⟩ := Bool.and_eq_true_iff.mp E2
  have gI : PySem.W.nsIn K mainGlobals "InvalidMachine" = some (some (.ref 56)) := He.eqO_ok S
  obtain ⟨S, E2⟩ := Bool.and_eq_true_iff.mp E2
  have xI : PySem.W.excIn K 56 [.type "ValueError", .type "Exception", .type "BaseException", .type "object"] "ValueError.__new__" = true := S
  obtain ⟨S, E2⟩ := Bool.and_eq_true_iff.mp E2
  have kI : PySem.W.keepIn K (.ref 56) = true := S
  obtain ⟨S, E2⟩ := Bool.and_eq_true_iff.mp E2
  have bI : PySem.W.subIn K (.ref 56) (.type "BaseException") = some true := of_decide_eq_true S
  obtain ⟨S, E2⟩ := Bool.and_eq_true_iff.mp E2
  have tI : PySem.W.typeIn K (.ref 56) = some (.type "type") := of_decide_eq_true S
  obtain ⟨S, E2⟩ := Bool.and_eq_true_iff.mp E2
  obtain ⟨_, kv0, _, _, cd0, _, _, _, _, l0, q0, kk0, oo0⟩ := HK.fn_ok (c.fn 0 rfl) S
  obtain ⟨S, E2⟩ := Bool.and_eq_true_iff.mp E2
  have k0 : PySem.W.keepIn K (.ref 508) = true := S
  obtain ⟨S, E2⟩ := Bool.and_eq_true_iff.mp E2
  have d1 : PySem.W.nsIn K mainGlobals "led" = some (some (.ref 148)) := He.eqO_ok S
  obtain ⟨S, E2⟩ := Bool.and_eq_true_iff.mp E2
  obtain ⟨_, kv1, _, _, cd1, _, _, _, _, l1, q1, kk1, oo1⟩ := HK.fn_ok (c.fn 1 rfl) S
  obtain ⟨E3, Y0⟩ := Bool.and_eq_true_iff.mp Y0
  have E3 : ((PySem.W.keepIn K (.ref 148)) && (He.eqO (PySem.W.nsIn K mainGlobals "ways") (some (some (.ref 162))) && (HK.fnB K 162 "ways" none none none && ((PySem.W.keepIn K (.ref 162)) && (He.eqO (PySem.W.nsIn K mainGlobals "word_along") (some (some (.ref 169))) && (HK.fnB K 169 "word_along" none none none && ((PySem.W.keepIn K (.ref 169)) && (He.eqO (PySem.W.nsIn K mainGlobals "paired") (some (some (.ref 182))) && (HK.fnB K 182 "paired" (some 175) none none && ((PySem.W.keepIn K (.ref 182)) && (He.eqO (PySem.W.nsIn K mainGlobals "explored") (some (some (.ref 190))) && (HK.fnB K 190 "explored" (some 183) none none && ((PySem.W.keepIn K (.ref 190)) && (He.eqO (PySem.W.nsIn K mainGlobals "is_integer") (some (some (.ref 212))) && (HK.fnB K 212 "is_integer" none none none && ((PySem.W.keepIn K (.ref 212)) && (He.eqO (PySem.W.nsIn K mainGlobals "is_number") (some (some (.ref 219))) && (HK.fnB K 219 "is_number" none none none && ((PySem.W.keepIn K (.ref 219)) && (He.eqO (PySem.W.nsIn K mainGlobals "need_number") (some (some (.ref 226))) && (HK.fnB K 226 "need_number" none none none && ((PySem.W.keepIn K (.ref 226)) && (He.eqO (PySem.W.nsIn K mainGlobals "is_pair") (some (some (.ref 233))) && (HK.fnB K 233 "is_pair" none none none && ((PySem.W.keepIn K (.ref 233)) && (He.eqO (PySem.W.nsIn K mainGlobals "ascends") (some (some (.ref 238))) && (HK.fnB K 238 "ascends" none none none && ((PySem.W.keepIn K (.ref 238)) && (He.eqO (PySem.W.nsIn K mainGlobals "is_ascending") (some (some (.ref 243))) && (HK.fnB K 243 "is_ascending" none none none && true)))))))))))))))))))))))))))))) = true := E3
  obtain ⟨S, E3⟩ := Bool.and_eq_true_iff.mp E3
  have k1 : PySem.W.keepIn K (.ref 148) = true := S
  obtain ⟨S, E3⟩ := Bool.and_eq_true_iff.mp E3
  have d2 : PySem.W.nsIn K mainGlobals "ways" = some (some (.ref 162)) := He.eqO_ok S
  obtain ⟨S, E3⟩ := Bool.and_eq_true_iff.mp E3
  obtain ⟨_, kv2, _, _, cd2, _, _, _, _, l2, q2, kk2, oo2⟩ := HK.fn_ok (c.fn 2 rfl) S
  obtain ⟨S, E3⟩ := Bool.and_eq_true_iff.mp E3
  have k2 : PySem.W.keepIn K (.ref 162) = true := S
  obtain ⟨S, E3⟩ := Bool.and_eq_true_iff.mp E3
  have d3 : PySem.W.nsIn K mainGlobals "word_along" = some (some (.ref 169)) := He.eqO_ok S
  obtain ⟨S, E3⟩ := Bool.and_eq_true_iff.mp E3
  obtain ⟨_, kv3, _, _, cd3, _, _, _, _, l3, q3, kk3, oo3⟩ := HK.fn_ok (c.fn 3 rfl) S
  obtain ⟨S, E3⟩ := Bool.and_eq_true_iff.mp E3
  have k3 : PySem.W.keepIn K (.ref 169) = true := S
  obtain ⟨S, E3⟩ := Bool.and_eq_true_iff.mp E3
  have d4 : PySem.W.nsIn K mainGlobals "paired" = some (some (.ref 182)) := He.eqO_ok S
  obtain ⟨S, E3⟩ := Bool.and_eq_true_iff.mp E3
  obtain ⟨_, kv4, _, _, cd4, _, _, _, _, l4, q4, kk4, oo4⟩ := HK.fn_ok (c.fn 4 rfl) S
  obtain ⟨S, E3⟩ := Bool.and_eq_true_iff.mp E3
  have k4 : PySem.W.keepIn K (.ref 182) = true := S
  obtain ⟨S, E3⟩ := Bool.and_eq_true_iff.mp E3
  have d5 : PySem.W.nsIn K mainGlobals "explored" = some (some (.ref 190)) := He.eqO_ok S
  obtain ⟨S, E3⟩ := Bool.and_eq_true_iff.mp E3
  obtain ⟨_, kv5, _, _, cd5, _, _, _, _, l5, q5, kk5, oo5⟩ := HK.fn_ok (c.fn 5 rfl) S
  obtain ⟨S, E3⟩ := Bool.and_eq_true_iff.mp E3
  have k5 : PySem.W.keepIn K (.ref 190) = true := S
  obtain ⟨S, E3⟩ := Bool.and_eq_true_iff.mp E3
  have d6 : PySem.W.nsIn K mainGlobals "is_integer" = some (some (.ref 212)) := He.eqO_ok S
  obtain ⟨S, E3⟩ := Bool.and_eq_true_iff.mp E3
  obtain ⟨_, kv6, _, _, cd6, _, _, _, _, l6, q6, kk6, oo6⟩ := HK.fn_ok (c.fn 6 rfl) S
  obtain ⟨S, E3⟩ := Bool.and_eq_true_iff.mp E3
  have k6 : PySem.W.keepIn K (.ref 212) = true := S
  obtain ⟨S, E3⟩ := Bool.and_eq_true_iff.mp E3
  have d7 : PySem.W.nsIn K mainGlobals "is_number" = some (some (.ref 219)) := He.eqO_ok S
  obtain ⟨S, E3⟩ := Bool.and_eq_true_iff.mp E3
  obtain ⟨_, kv7, _, _, cd7, _, _, _, _, l7, q7, kk7, oo7⟩ := HK.fn_ok (c.fn 7 rfl) S
  obtain ⟨S, E3⟩ := Bool.and_eq_true_iff.mp E3
  have k7 : PySem.W.keepIn K (.ref 219) = true := S
  obtain ⟨S, E3⟩ := Bool.and_eq_true_iff.mp E3
  have d8 : PySem.W.nsIn K mainGlobals "need_number" = some (some (.ref 226)) := He.eqO_ok S
  obtain ⟨S, E3⟩ := Bool.and_eq_true_iff.mp E3
  obtain ⟨_, kv8, _, _, cd8, _, _, _, _, l8, q8, kk8, oo8⟩ := HK.fn_ok (c.fn 8 rfl) S
  obtain ⟨S, E3⟩ := Bool.and_eq_true_iff.mp E3
  have k8 : PySem.W.keepIn K (.ref 226) = true := S
  obtain ⟨S, E3⟩ := Bool.and_eq_true_iff.mp E3
  have d9 : PySem.W.nsIn K mainGlobals "is_pair" = some (some (.ref 233)) := He.eqO_ok S
  obtain ⟨S, E3⟩ := Bool.and_eq_true_iff.mp E3
  obtain ⟨_, kv9, _, _, cd9, _, _, _, _, l9, q9, kk9, oo9⟩ := HK.fn_ok (c.fn 9 rfl) S
  obtain ⟨S, E3⟩ := Bool.and_eq_true_iff.mp E3
  have k9 : PySem.W.keepIn K (.ref 233) = true := S
  obtain ⟨S, E3⟩ := Bool.and_eq_true_iff.mp E3
  have d10 : PySem.W.nsIn K mainGlobals "ascends" = some (some (.ref 238)) := He.eqO_ok S
  obtain ⟨S, E3⟩ := Bool.and_eq_true_iff.mp E3
  obtain ⟨_, kv10, _, _, cd10, _, _, _, _, l10, q10, kk10, oo10⟩ := HK.fn_ok (c.fn 10 rfl) S
  obtain ⟨S, E3⟩ := Bool.and_eq_true_iff.mp E3
  have k10 : PySem.W.keepIn K (.ref 238) = true := S
  obtain ⟨S, E3⟩ := Bool.and_eq_true_iff.mp E3
  have d11 : PySem.W.nsIn K mainGlobals "is_ascending" = some (some (.ref 243)) := He.eqO_ok S
  obtain ⟨S, E3⟩ := Bool.and_eq_true_iff.mp E3
  obtain ⟨_, kv11, _, _, cd11, _, _, _, _, l11, q11, kk11, oo11⟩ := HK.fn_ok (c.fn 11 rfl) S
  obtain ⟨E4, Y0⟩ := Bool.and_eq_true_iff.mp Y0
  have E4 : ((PySem.W.keepIn K (.ref 243)) && (He.eqO (PySem.W.nsIn K mainGlobals "is_table") (some (some (.ref 248))) && (HK.fnB K 248 "is_table" none none none && ((PySem.W.keepIn K (.ref 248)) && (He.eqO (PySem.W.nsIn K mainGlobals "_is_row") (some (some (.ref 253))) && (HK.fnB K 253 "_is_row" none none none && ((PySem.W.keepIn K (.ref 253)) && (He.eqO (PySem.W.nsIn K mainGlobals "is_letters") (some (some (.ref 260))) && (HK.fnB K 260 "is_letters" none none none && ((PySem.W.keepIn K (.ref 260)) && (He.eqO (PySem.W.nsIn K mainGlobals "is_word") (some (some (.ref 267))) && (HK.fnB K 267 "is_word" none none none && ((PySem.W.keepIn K (.ref 267)) && (He.eqO (PySem.W.nsIn K mainGlobals "is_over") (some (some (.ref 272))) && (HK.fnB K 272 "is_over" none none none && ((PySem.W.keepIn K (.ref 272)) && (He.eqO (PySem.W.nsIn K mainGlobals "need_letters") (some (some (.ref 279))) && (HK.fnB K 279 "need_letters" none none none && ((PySem.W.keepIn K (.ref 279)) && (He.eqO (PySem.W.nsIn K mainGlobals "need_word") (some (some (.ref 286))) && (HK.fnB K 286 "need_word" none none none && ((PySem.W.keepIn K (.ref 286)) && (He.eqO (PySem.W.nsIn K mainGlobals "need_over") (some (some (.ref 293))) && (HK.fnB K 293 "need_over" none none none && ((PySem.W.keepIn K (.ref 293)) && (He.eqO (PySem.W.nsIn K mainGlobals "counts") (some (some (.ref 303))) && (HK.fnB K 303 "counts" none none none && ((PySem.W.keepIn K (.ref 303)) && (He.eqO (PySem.W.nsIn K mainGlobals "need_machines") (some (some (.ref 464))) && (HK.fnB K 464 "need_machines" none none none && true)))))))))))))))))))))))))))))) = true := E4
  obtain ⟨S, E4⟩ := Bool.and_eq_true_iff.mp E4
  have k11 : PySem.W.keepIn K (.ref 243) = true := S
  obtain ⟨S, E4⟩ := Bool.and_eq_true_iff.mp E4
  have d12 : PySem.W.nsIn K mainGlobals "is_table" = some (some (.ref 248)) := He.eqO_ok S
  obtain ⟨S, E4⟩ := Bool.and_eq_true_iff.mp E4
  obtain ⟨_, kv12, _, _, cd12, _, _, _, _, l12, q12, kk12, oo12⟩ := HK.fn_ok (c.fn 12 rfl) S
  obtain ⟨S, E4⟩ := Bool.and_eq_true_iff.mp E4
  have k12 : PySem.W.keepIn K (.ref 248) = true := S
  obtain ⟨S, E4⟩ := Bool.and_eq_true_iff.mp E4
  have d13 : PySem.W.nsIn K mainGlobals "_is_row" = some (some (.ref 253)) := He.eqO_ok S
  obtain ⟨S, E4⟩ := Bool.and_eq_true_iff.mp E4
  obtain ⟨_, kv13, _, _, cd13, _, _, _, _, l13, q13, kk13, oo13⟩ := HK.fn_ok (c.fn 13 rfl) S
  obtain ⟨S, E4⟩ := Bool.and_eq_true_iff.mp E4
  have k13 : PySem.W.keepIn K (.ref 253) = true := S
  obtain ⟨S, E4⟩ := Bool.and_eq_true_iff.mp E4
  have d14 : PySem.W.nsIn K mainGlobals "is_letters" = some (some (.ref 260)) := He.eqO_ok S
  obtain ⟨S, E4⟩ := Bool.and_eq_true_iff.mp E4
  obtain ⟨_, kv14, _, _, cd14, _, _, _, _, l14, q14, kk14, oo14⟩ := HK.fn_ok (c.fn 14 rfl) S
  obtain ⟨S, E4⟩ := Bool.and_eq_true_iff.mp E4
  have k14 : PySem.W.keepIn K (.ref 260) = true := S
  obtain ⟨S, E4⟩ := Bool.and_eq_true_iff.mp E4
  have d15 : PySem.W.nsIn K mainGlobals "is_word" = some (some (.ref 267)) := He.eqO_ok S
  obtain ⟨S, E4⟩ := Bool.and_eq_true_iff.mp E4
  obtain ⟨_, kv15, _, _, cd15, _, _, _, _, l15, q15, kk15, oo15⟩ := HK.fn_ok (c.fn 15 rfl) S
  obtain ⟨S, E4⟩ := Bool.and_eq_true_iff.mp E4
  have k15 : PySem.W.keepIn K (.ref 267) = true := S
  obtain ⟨S, E4⟩ := Bool.and_eq_true_iff.mp E4
  have d16 : PySem.W.nsIn K mainGlobals "is_over" = some (some (.ref 272)) := He.eqO_ok S
  obtain ⟨S, E4⟩ := Bool.and_eq_true_iff.mp E4
  obtain ⟨_, kv16, _, _, cd16, _, _, _, _, l16, q16, kk16, oo16⟩ := HK.fn_ok (c.fn 16 rfl) S
  obtain ⟨S, E4⟩ := Bool.and_eq_true_iff.mp E4
  have k16 : PySem.W.keepIn K (.ref 272) = true := S
  obtain ⟨S, E4⟩ := Bool.and_eq_true_iff.mp E4
  have d17 : PySem.W.nsIn K mainGlobals "need_letters" = some (some (.ref 279)) := He.eqO_ok S
  obtain ⟨S, E4⟩ := Bool.and_eq_true_iff.mp E4
  obtain ⟨_, kv17, _, _, cd17, _, _, _, _, l17, q17, kk17, oo17⟩ := HK.fn_ok (c.fn 17 rfl) S
  obtain ⟨S, E4⟩ := Bool.and_eq_true_iff.mp E4
  have k17 : PySem.W.keepIn K (.ref 279) = true := S
  obtain ⟨S, E4⟩ := Bool.and_eq_true_iff.mp E4
  have d18 : PySem.W.nsIn K mainGlobals "need_word" = some (some (.ref 286)) := He.eqO_ok S
  obtain ⟨S, E4⟩ := Bool.and_eq_true_iff.mp E4
  obtain ⟨_, kv18, _, _, cd18, _, _, _, _, l18, q18, kk18, oo18⟩ := HK.fn_ok (c.fn 18 rfl) S
  obtain ⟨S, E4⟩ := Bool.and_eq_true_iff.mp E4
  have k18 : PySem.W.keepIn K (.ref 286) = true := S
  obtain ⟨S, E4⟩ := Bool.and_eq_true_iff.mp E4
  have d19 : PySem.W.nsIn K mainGlobals "need_over" = some (some (.ref 293)) := He.eqO_ok S
  obtain ⟨S, E4⟩ := Bool.and_eq_true_iff.mp E4
  obtain ⟨_, kv19, _, _, cd19, _, _, _, _, l19, q19, kk19, oo19⟩ := HK.fn_ok (c.fn 19 rfl) S
  obtain ⟨S, E4⟩ := Bool.and_eq_true_iff.mp E4
  have k19 : PySem.W.keepIn K (.ref 293) = true := S
  obtain ⟨S, E4⟩ := Bool.and_eq_true_iff.mp E4
  have d20 : PySem.W.nsIn K mainGlobals "counts" = some (some (.ref 303)) := He.eqO_ok S
  obtain ⟨S, E4⟩ := Bool.and_eq_true_iff.mp E4
  obtain ⟨_, kv20, _, _, cd20, _, _, _, _, l20, q20, kk20, oo20⟩ := HK.fn_ok (c.fn 20 rfl) S
  obtain ⟨S, E4⟩ := Bool.and_eq_true_iff.mp E4
  have k20 : PySem.W.keepIn K (.ref 303) = true := S
  obtain ⟨S, E4⟩ := Bool.and_eq_true_iff.mp E4
  have d21 : PySem.W.nsIn K mainGlobals "need_machines" = some (some (.ref 464)) := He.eqO_ok S
  obtain ⟨S, E4⟩ := Bool.and_eq_true_iff.mp E4
  obtain ⟨_, kv21, _, _, cd21, _, _, _, _, l21, q21, kk21, oo21⟩ := HK.fn_ok (c.fn 21 rfl) S
  obtain ⟨E5, Y0⟩ := Bool.and_eq_true_iff.mp Y0
  have E5 : ((PySem.W.keepIn K (.ref 464)) && (He.eqO (PySem.W.nsIn K mainGlobals "need_same_letters") (some (some (.ref 471))) && (HK.fnB K 471 "need_same_letters" none none none && ((PySem.W.keepIn K (.ref 471)) && (He.eqO (PySem.W.nsIn K mainGlobals "need_count_sort") (some (some (.ref 484))) && (HK.fnB K 484 "need_count_sort" none none none && ((PySem.W.keepIn K (.ref 484)) && (He.eqO (PySem.W.nsIn K mainGlobals "sight") (some (some (.ref 489))) && (HK.fnB K 489 "sight" none none none && ((PySem.W.keepIn K (.ref 489)) && (He.eqO (PySem.W.nsIn K mainGlobals "sights") (some (some (.ref 494))) && (HK.fnB K 494 "sights" none none none && ((PySem.W.keepIn K (.ref 494)) && (He.eqO (PySem.W.nsIn K mainGlobals "is_clerk_for") (some (some (.ref 501))) && (HK.fnB K 501 "is_clerk_for" none none none && ((PySem.W.keepIn K (.ref 501)) && (He.eqO (PySem.W.nsIn K mainGlobals "_tells") (some (some (.ref 513))) && (HK.fnB K 513 "_tells" none none none && ((PySem.W.keepIn K (.ref 513)) && (He.eqO (PySem.W.nsIn K mainGlobals "_seen") (some (some (.ref 518))) && (HK.fnB K 518 "_seen" none none none && ((PySem.W.keepIn K (.ref 518)) && (He.eqO (PySem.W.nsIn K mainGlobals "need_box") (some (some (.ref 693))) && (HK.fnB K 693 "need_box" none none none && ((PySem.W.keepIn K (.ref 693)) && (He.eqO (PySem.W.nsIn K mainGlobals "_grown") (some (some (.ref 700))) && (HK.fnB K 700 "_grown" none none none && ((PySem.W.keepIn K (.ref 700)) && (He.eqO (PySem.W.nsIn K mainGlobals "_counting") (some (some (.ref 705))) && (HK.fnB K 705 "_counting" none none (some 704) && true)))))))))))))))))))))))))))))) = true := E5
  obtain ⟨S, E5⟩ := Bool.and_eq_true_iff.mp E5
  have k21 : PySem.W.keepIn K (.ref 464) = true := S
  obtain ⟨S, E5⟩ := Bool.and_eq_true_iff.mp E5
  have d22 : PySem.W.nsIn K mainGlobals "need_same_letters" = some (some (.ref 471)) := He.eqO_ok S
  obtain ⟨S, E5⟩ := Bool.and_eq_true_iff.mp E5
  obtain ⟨_, kv22, _, _, cd22, _, _, _, _, l22, q22, kk22, oo22⟩ := HK.fn_ok (c.fn 22 rfl) S
  obtain ⟨S, E5⟩ := Bool.and_eq_true_iff.mp E5
  have k22 : PySem.W.keepIn K (.ref 471) = true := S
  obtain ⟨S, E5⟩ := Bool.and_eq_true_iff.mp E5
  have d23 : PySem.W.nsIn K mainGlobals "need_count_sort" = some (some (.ref 484)) := He.eqO_ok S
  obtain ⟨S, E5⟩ := Bool.and_eq_true_iff.mp E5
  obtain ⟨_, kv23, _, _, cd23, _, _, _, _, l23, q23, kk23, oo23⟩ := HK.fn_ok (c.fn 23 rfl) S
  obtain ⟨S, E5⟩ := Bool.and_eq_true_iff.mp E5
  have k23 : PySem.W.keepIn K (.ref 484) = true := S
  obtain ⟨S, E5⟩ := Bool.and_eq_true_iff.mp E5
  have d24 : PySem.W.nsIn K mainGlobals "sight" = some (some (.ref 489)) := He.eqO_ok S
  obtain ⟨S, E5⟩ := Bool.and_eq_true_iff.mp E5
  obtain ⟨_, kv24, _, _, cd24, _, _, _, _, l24, q24, kk24, oo24⟩ := HK.fn_ok (c.fn 24 rfl) S
  obtain ⟨S, E5⟩ := Bool.and_eq_true_iff.mp E5
  have k24 : PySem.W.keepIn K (.ref 489) = true := S
  obtain ⟨S, E5⟩ := Bool.and_eq_true_iff.mp E5
  have d25 : PySem.W.nsIn K mainGlobals "sights" = some (some (.ref 494)) := He.eqO_ok S
  obtain ⟨S, E5⟩ := Bool.and_eq_true_iff.mp E5
  obtain ⟨_, kv25, _, _, cd25, _, _, _, _, l25, q25, kk25, oo25⟩ := HK.fn_ok (c.fn 25 rfl) S
  obtain ⟨S, E5⟩ := Bool.and_eq_true_iff.mp E5
  have k25 : PySem.W.keepIn K (.ref 494) = true := S
  obtain ⟨S, E5⟩ := Bool.and_eq_true_iff.mp E5
  have d26 : PySem.W.nsIn K mainGlobals "is_clerk_for" = some (some (.ref 501)) := He.eqO_ok S
  obtain ⟨S, E5⟩ := Bool.and_eq_true_iff.mp E5
  obtain ⟨_, kv26, _, _, cd26, _, _, _, _, l26, q26, kk26, oo26⟩ := HK.fn_ok (c.fn 26 rfl) S
  obtain ⟨S, E5⟩ := Bool.and_eq_true_iff.mp E5
  have k26 : PySem.W.keepIn K (.ref 501) = true := S
  obtain ⟨S, E5⟩ := Bool.and_eq_true_iff.mp E5
  have d27 : PySem.W.nsIn K mainGlobals "_tells" = some (some (.ref 513)) := He.eqO_ok S
  obtain ⟨S, E5⟩ := Bool.and_eq_true_iff.mp E5
  obtain ⟨_, kv27, _, _, cd27, _, _, _, _, l27, q27, kk27, oo27⟩ := HK.fn_ok (c.fn 27 rfl) S
  obtain ⟨S, E5⟩ := Bool.and_eq_true_iff.mp E5
  have k27 : PySem.W.keepIn K (.ref 513) = true := S
  obtain ⟨S, E5⟩ := Bool.and_eq_true_iff.mp E5
  have d28 : PySem.W.nsIn K mainGlobals "_seen" = some (some (.ref 518)) := He.eqO_ok S
  obtain ⟨S, E5⟩ := Bool.and_eq_true_iff.mp E5
  obtain ⟨_, kv28, _, _, cd28, _, _, _, _, l28, q28, kk28, oo28⟩ := HK.fn_ok (c.fn 28 rfl) S
  obtain ⟨S, E5⟩ := Bool.and_eq_true_iff.mp E5
  have k28 : PySem.W.keepIn K (.ref 518) = true := S
  obtain ⟨S, E5⟩ := Bool.and_eq_true_iff.mp E5
  have d29 : PySem.W.nsIn K mainGlobals "need_box" = some (some (.ref 693)) := He.eqO_ok S
  obtain ⟨S, E5⟩ := Bool.and_eq_true_iff.mp E5
  obtain ⟨_, kv29, _, _, cd29, _, _, _, _, l29, q29, kk29, oo29⟩ := HK.fn_ok (c.fn 29 rfl) S
  obtain ⟨S, E5⟩ := Bool.and_eq_true_iff.mp E5
  have k29 : PySem.W.keepIn K (.ref 693) = true := S
  obtain ⟨S, E5⟩ := Bool.and_eq_true_iff.mp E5
  have d30 : PySem.W.nsIn K mainGlobals "_grown" = some (some (.ref 700)) := He.eqO_ok S
  obtain ⟨S, E5⟩ := Bool.and_eq_true_iff.mp E5
  obtain ⟨_, kv30, _, _, cd30, _, _, _, _, l30, q30, kk30, oo30⟩ := HK.fn_ok (c.fn 30 rfl) S
  obtain ⟨S, E5⟩ := Bool.and_eq_true_iff.mp E5
  have k30 : PySem.W.keepIn K (.ref 700) = true := S
  obtain ⟨S, E5⟩ := Bool.and_eq_true_iff.mp E5
  have d31 : PySem.W.nsIn K mainGlobals "_counting" = some (some (.ref 705)) := He.eqO_ok S
  obtain ⟨S, E5⟩ := Bool.and_eq_true_iff.mp E5
  obtain ⟨_, kv31, _, _, cd31, _, _, _, _, l31, q31, kk31, oo31⟩ := HK.fn_ok (c.fn 31 rfl) S
  have eo31 := oo31 _ rfl
  subst eo31
  obtain ⟨E6, Y0⟩ := Bool.and_eq_true_iff.mp Y0
  have E6 : ((PySem.W.keepIn K (.ref 705)) && (He.eqO (PySem.W.nsIn K mainGlobals "_one_more") (some (some (.ref 712))) && (HK.fnB K 712 "_one_more" none none none && ((PySem.W.keepIn K (.ref 712)) && (He.eqO (PySem.W.nsIn K mainGlobals "places") (some (some (.ref 719))) && (HK.fnB K 719 "places" none none none && ((PySem.W.keepIn K (.ref 719)) && (He.eqO (PySem.W.nsIn K mainGlobals "tells_apart") (some (some (.ref 726))) && (HK.fnB K 726 "tells_apart" none none none && ((PySem.W.keepIn K (.ref 726)) && (He.eqO (PySem.W.nsIn K mainGlobals "alike_pair") (some (some (.ref 733))) && (HK.fnB K 733 "alike_pair" none none none && ((PySem.W.keepIn K (.ref 733)) && (He.eqO (PySem.W.nsIn K mainGlobals "_need") (some (some (.ref 740))) && (HK.fnB K 740 "_need" none none none && ((PySem.W.keepIn K (.ref 740)) && (He.eqO (PySem.W.nsIn K mainGlobals "_need_letters") (some (some (.ref 747))) && (HK.fnB K 747 "_need_letters" none none none && ((PySem.W.keepIn K (.ref 747)) && (He.eqO (PySem.W.nsIn K mainGlobals "_first_words") (some (some (.ref 754))) && (HK.fnB K 754 "_first_words" none none none && ((PySem.W.keepIn K (.ref 754)) && (He.eqO (PySem.W.nsIn K mainGlobals "_law_dice") (some (some (.ref 761))) && (HK.fnB K 761 "_law_dice" none none none && ((PySem.W.keepIn K (.ref 761)) && (He.eqO (PySem.W.nsIn K mainGlobals "_law_roll") (some (some (.ref 768))) && (HK.fnB K 768 "_law_roll" none none none && ((PySem.W.keepIn K (.ref 768)) && (He.eqO (PySem.W.nsIn K mainGlobals "_law_one_of") (some (some (.ref 775))) && (HK.fnB K 775 "_law_one_of" none none none && true)))))))))))))))))))))))))))))) = true := E6
  obtain ⟨S, E6⟩ := Bool.and_eq_true_iff.mp E6
  have k31 : PySem.W.keepIn K (.ref 705) = true := S
  obtain ⟨S, E6⟩ := Bool.and_eq_true_iff.mp E6
  have d32 : PySem.W.nsIn K mainGlobals "_one_more" = some (some (.ref 712)) := He.eqO_ok S
  obtain ⟨S, E6⟩ := Bool.and_eq_true_iff.mp E6
  obtain ⟨_, kv32, _, _, cd32, _, _, _, _, l32, q32, kk32, oo32⟩ := HK.fn_ok (c.fn 32 rfl) S
  obtain ⟨S, E6⟩ := Bool.and_eq_true_iff.mp E6
  have k32 : PySem.W.keepIn K (.ref 712) = true := S
  obtain ⟨S, E6⟩ := Bool.and_eq_true_iff.mp E6
  have d33 : PySem.W.nsIn K mainGlobals "places" = some (some (.ref 719)) := He.eqO_ok S
  obtain ⟨S, E6⟩ := Bool.and_eq_true_iff.mp E6
  obtain ⟨_, kv33, _, _, cd33, _, _, _, _, l33, q33, kk33, oo33⟩ := HK.fn_ok (c.fn 33 rfl) S
  obtain ⟨S, E6⟩ := Bool.and_eq_true_iff.mp E6
  have k33 : PySem.W.keepIn K (.ref 719) = true := S
  obtain ⟨S, E6⟩ := Bool.and_eq_true_iff.mp E6
  have d34 : PySem.W.nsIn K mainGlobals "tells_apart" = some (some (.ref 726)) := He.eqO_ok S
  obtain ⟨S, E6⟩ := Bool.and_eq_true_iff.mp E6
  obtain ⟨_, kv34, _, _, cd34, _, _, _, _, l34, q34, kk34, oo34⟩ := HK.fn_ok (c.fn 34 rfl) S
  obtain ⟨S, E6⟩ := Bool.and_eq_true_iff.mp E6
  have k34 : PySem.W.keepIn K (.ref 726) = true := S
  obtain ⟨S, E6⟩ := Bool.and_eq_true_iff.mp E6
  have d35 : PySem.W.nsIn K mainGlobals "alike_pair" = some (some (.ref 733)) := He.eqO_ok S
  obtain ⟨S, E6⟩ := Bool.and_eq_true_iff.mp E6
  obtain ⟨_, kv35, _, _, cd35, _, _, _, _, l35, q35, kk35, oo35⟩ := HK.fn_ok (c.fn 35 rfl) S
  obtain ⟨S, E6⟩ := Bool.and_eq_true_iff.mp E6
  have k35 : PySem.W.keepIn K (.ref 733) = true := S
  obtain ⟨S, E6⟩ := Bool.and_eq_true_iff.mp E6
  have d36 : PySem.W.nsIn K mainGlobals "_need" = some (some (.ref 740)) := He.eqO_ok S
  obtain ⟨S, E6⟩ := Bool.and_eq_true_iff.mp E6
  obtain ⟨_, kv36, _, _, cd36, _, _, _, _, l36, q36, kk36, oo36⟩ := HK.fn_ok (c.fn 36 rfl) S
  obtain ⟨S, E6⟩ := Bool.and_eq_true_iff.mp E6
  have k36 : PySem.W.keepIn K (.ref 740) = true := S
  obtain ⟨S, E6⟩ := Bool.and_eq_true_iff.mp E6
  have d37 : PySem.W.nsIn K mainGlobals "_need_letters" = some (some (.ref 747)) := He.eqO_ok S
  obtain ⟨S, E6⟩ := Bool.and_eq_true_iff.mp E6
  obtain ⟨_, kv37, _, _, cd37, _, _, _, _, l37, q37, kk37, oo37⟩ := HK.fn_ok (c.fn 37 rfl) S
  obtain ⟨S, E6⟩ := Bool.and_eq_true_iff.mp E6
  have k37 : PySem.W.keepIn K (.ref 747) = true := S
  obtain ⟨S, E6⟩ := Bool.and_eq_true_iff.mp E6
  have d38 : PySem.W.nsIn K mainGlobals "_first_words" = some (some (.ref 754)) := He.eqO_ok S
  obtain ⟨S, E6⟩ := Bool.and_eq_true_iff.mp E6
  obtain ⟨_, kv38, _, _, cd38, _, _, _, _, l38, q38, kk38, oo38⟩ := HK.fn_ok (c.fn 38 rfl) S
  obtain ⟨S, E6⟩ := Bool.and_eq_true_iff.mp E6
  have k38 : PySem.W.keepIn K (.ref 754) = true := S
  obtain ⟨S, E6⟩ := Bool.and_eq_true_iff.mp E6
  have d39 : PySem.W.nsIn K mainGlobals "_law_dice" = some (some (.ref 761)) := He.eqO_ok S
  obtain ⟨S, E6⟩ := Bool.and_eq_true_iff.mp E6
  obtain ⟨_, kv39, _, _, cd39, _, _, _, _, l39, q39, kk39, oo39⟩ := HK.fn_ok (c.fn 39 rfl) S
  obtain ⟨S, E6⟩ := Bool.and_eq_true_iff.mp E6
  have k39 : PySem.W.keepIn K (.ref 761) = true := S
  obtain ⟨S, E6⟩ := Bool.and_eq_true_iff.mp E6
  have d40 : PySem.W.nsIn K mainGlobals "_law_roll" = some (some (.ref 768)) := He.eqO_ok S
  obtain ⟨S, E6⟩ := Bool.and_eq_true_iff.mp E6
  obtain ⟨_, kv40, _, _, cd40, _, _, _, _, l40, q40, kk40, oo40⟩ := HK.fn_ok (c.fn 40 rfl) S
  obtain ⟨S, E6⟩ := Bool.and_eq_true_iff.mp E6
  have k40 : PySem.W.keepIn K (.ref 768) = true := S
  obtain ⟨S, E6⟩ := Bool.and_eq_true_iff.mp E6
  have d41 : PySem.W.nsIn K mainGlobals "_law_one_of" = some (some (.ref 775)) := He.eqO_ok S
  obtain ⟨S, E6⟩ := Bool.and_eq_true_iff.mp E6
  obtain ⟨_, kv41, _, _, cd41, _, _, _, _, l41, q41, kk41, oo41⟩ := HK.fn_ok (c.fn 41 rfl) S
  obtain ⟨E7, Y0⟩ := Bool.and_eq_true_iff.mp Y0
  have E7 : ((PySem.W.keepIn K (.ref 775)) && (He.eqO (PySem.W.nsIn K mainGlobals "_law_mixed") (some (some (.ref 782))) && (HK.fnB K 782 "_law_mixed" none none none && ((PySem.W.keepIn K (.ref 782)) && (He.eqO (PySem.W.nsIn K mainGlobals "_law_letters") (some (some (.ref 789))) && (HK.fnB K 789 "_law_letters" none none none && ((PySem.W.keepIn K (.ref 789)) && (He.eqO (PySem.W.nsIn K mainGlobals "_law_action") (some (some (.ref 794))) && (HK.fnB K 794 "_law_action" none none none && ((PySem.W.keepIn K (.ref 794)) && (He.eqO (PySem.W.nsIn K mainGlobals "_law_table") (some (some (.ref 799))) && (HK.fnB K 799 "_law_table" none none none && ((PySem.W.keepIn K (.ref 799)) && (He.eqO (PySem.W.nsIn K mainGlobals "_law_machine") (some (some (.ref 804))) && (HK.fnB K 804 "_law_machine" none none none && ((PySem.W.keepIn K (.ref 804)) && (He.eqO (PySem.W.nsIn K mainGlobals "_law_made_machine") (some (some (.ref 811))) && (HK.fnB K 811 "_law_made_machine" none none none && ((PySem.W.keepIn K (.ref 811)) && (He.eqO (PySem.W.nsIn K mainGlobals "_law_led") (some (some (.ref 818))) && (HK.fnB K 818 "_law_led" none none none && ((PySem.W.keepIn K (.ref 818)) && (He.eqO (PySem.W.nsIn K mainGlobals "_law_has") (some (some (.ref 825))) && (HK.fnB K 825 "_law_has" none none none && ((PySem.W.keepIn K (.ref 825)) && (He.eqO (PySem.W.nsIn K mainGlobals "_law_counts") (some (some (.ref 830))) && (HK.fnB K 830 "_law_counts" none none none && ((PySem.W.keepIn K (.ref 830)) && (He.eqO (PySem.W.nsIn K mainGlobals "_law_all_words") (some (some (.ref 835))) && (HK.fnB K 835 "_law_all_words" none none none && true)))))))))))))))))))))))))))))) = true := E7
  obtain ⟨S, E7⟩ := Bool.and_eq_true_iff.mp E7
  have k41 : PySem.W.keepIn K (.ref 775) = true := S
  obtain ⟨S, E7⟩ := Bool.and_eq_true_iff.mp E7
  have d42 : PySem.W.nsIn K mainGlobals "_law_mixed" = some (some (.ref 782)) := He.eqO_ok S
  obtain ⟨S, E7⟩ := Bool.and_eq_true_iff.mp E7
  obtain ⟨_, kv42, _, _, cd42, _, _, _, _, l42, q42, kk42, oo42⟩ := HK.fn_ok (c.fn 42 rfl) S
  obtain ⟨S, E7⟩ := Bool.and_eq_true_iff.mp E7
  have k42 : PySem.W.keepIn K (.ref 782) = true := S
  obtain ⟨S, E7⟩ := Bool.and_eq_true_iff.mp E7
  have d43 : PySem.W.nsIn K mainGlobals "_law_letters" = some (some (.ref 789)) := He.eqO_ok S
  obtain ⟨S, E7⟩ := Bool.and_eq_true_iff.mp E7
  obtain ⟨_, kv43, _, _, cd43, _, _, _, _, l43, q43, kk43, oo43⟩ := HK.fn_ok (c.fn 43 rfl) S
  obtain ⟨S, E7⟩ := Bool.and_eq_true_iff.mp E7
  have k43 : PySem.W.keepIn K (.ref 789) = true := S
  obtain ⟨S, E7⟩ := Bool.and_eq_true_iff.mp E7
  have d44 : PySem.W.nsIn K mainGlobals "_law_action" = some (some (.ref 794)) := He.eqO_ok S
  obtain ⟨S, E7⟩ := Bool.and_eq_true_iff.mp E7
  obtain ⟨_, kv44, _, _, cd44, _, _, _, _, l44, q44, kk44, oo44⟩ := HK.fn_ok (c.fn 44 rfl) S
  obtain ⟨S, E7⟩ := Bool.and_eq_true_iff.mp E7
  have k44 : PySem.W.keepIn K (.ref 794) = true := S
  obtain ⟨S, E7⟩ := Bool.and_eq_true_iff.mp E7
  have d45 : PySem.W.nsIn K mainGlobals "_law_table" = some (some (.ref 799)) := He.eqO_ok S
  obtain ⟨S, E7⟩ := Bool.and_eq_true_iff.mp E7
  obtain ⟨_, kv45, _, _, cd45, _, _, _, _, l45, q45, kk45, oo45⟩ := HK.fn_ok (c.fn 45 rfl) S
  obtain ⟨S, E7⟩ := Bool.and_eq_true_iff.mp E7
  have k45 : PySem.W.keepIn K (.ref 799) = true := S
  obtain ⟨S, E7⟩ := Bool.and_eq_true_iff.mp E7
  have d46 : PySem.W.nsIn K mainGlobals "_law_machine" = some (some (.ref 804)) := He.eqO_ok S
  obtain ⟨S, E7⟩ := Bool.and_eq_true_iff.mp E7
  obtain ⟨_, kv46, _, _, cd46, _, _, _, _, l46, q46, kk46, oo46⟩ := HK.fn_ok (c.fn 46 rfl) S
  obtain ⟨S, E7⟩ := Bool.and_eq_true_iff.mp E7
  have k46 : PySem.W.keepIn K (.ref 804) = true := S
  obtain ⟨S, E7⟩ := Bool.and_eq_true_iff.mp E7
  have d47 : PySem.W.nsIn K mainGlobals "_law_made_machine" = some (some (.ref 811)) := He.eqO_ok S
  obtain ⟨S, E7⟩ := Bool.and_eq_true_iff.mp E7
  obtain ⟨_, kv47, _, _, cd47, _, _, _, _, l47, q47, kk47, oo47⟩ := HK.fn_ok (c.fn 47 rfl) S
  obtain ⟨S, E7⟩ := Bool.and_eq_true_iff.mp E7
  have k47 : PySem.W.keepIn K (.ref 811) = true := S
  obtain ⟨S, E7⟩ := Bool.and_eq_true_iff.mp E7
  have d48 : PySem.W.nsIn K mainGlobals "_law_led" = some (some (.ref 818)) := He.eqO_ok S
  obtain ⟨S, E7⟩ := Bool.and_eq_true_iff.mp E7
  obtain ⟨_, kv48, _, _, cd48, _, _, _, _, l48, q48, kk48, oo48⟩ := HK.fn_ok (c.fn 48 rfl) S
  obtain ⟨S, E7⟩ := Bool.and_eq_true_iff.mp E7
  have k48 : PySem.W.keepIn K (.ref 818) = true := S
  obtain ⟨S, E7⟩ := Bool.and_eq_true_iff.mp E7
  have d49 : PySem.W.nsIn K mainGlobals "_law_has" = some (some (.ref 825)) := He.eqO_ok S
  obtain ⟨S, E7⟩ := Bool.and_eq_true_iff.mp E7
  obtain ⟨_, kv49, _, _, cd49, _, _, _, _, l49, q49, kk49, oo49⟩ := HK.fn_ok (c.fn 49 rfl) S
  obtain ⟨S, E7⟩ := Bool.and_eq_true_iff.mp E7
  have k49 : PySem.W.keepIn K (.ref 825) = true := S
  obtain ⟨S, E7⟩ := Bool.and_eq_true_iff.mp E7
  have d50 : PySem.W.nsIn K mainGlobals "_law_counts" = some (some (.ref 830)) := He.eqO_ok S
  obtain ⟨S, E7⟩ := Bool.and_eq_true_iff.mp E7
  obtain ⟨_, kv50, _, _, cd50, _, _, _, _, l50, q50, kk50, oo50⟩ := HK.fn_ok (c.fn 50 rfl) S
  obtain ⟨S, E7⟩ := Bool.and_eq_true_iff.mp E7
  have k50 : PySem.W.keepIn K (.ref 830) = true := S
  obtain ⟨S, E7⟩ := Bool.and_eq_true_iff.mp E7
  have d51 : PySem.W.nsIn K mainGlobals "_law_all_words" = some (some (.ref 835)) := He.eqO_ok S
  obtain ⟨S, E7⟩ := Bool.and_eq_true_iff.mp E7
  obtain ⟨_, kv51, _, _, cd51, _, _, _, _, l51, q51, kk51, oo51⟩ := HK.fn_ok (c.fn 51 rfl) S
  obtain ⟨E8, Y1⟩ := Bool.and_eq_true_iff.mp Y1
  have E8 : ((PySem.W.keepIn K (.ref 835)) && (He.eqO (PySem.W.nsIn K mainGlobals "_law_sight") (some (some (.ref 842))) && (HK.fnB K 842 "_law_sight" none none none && ((PySem.W.keepIn K (.ref 842)) && (He.eqO (PySem.W.nsIn K mainGlobals "_law_right") (some (some (.ref 847))) && (HK.fnB K 847 "_law_right" none none none && ((PySem.W.keepIn K (.ref 847)) && (He.eqO (PySem.W.nsIn K mainGlobals "law") (some (some (.ref 854))) && (HK.fnB K 854 "law" none none none && ((PySem.W.keepIn K (.ref 854)) && (HK.fnB K 136 "Made.__init__" none none none && ((PySem.W.keepIn K (.ref 136)) && (HK.fnB K 532 "Box.__init__" none none none && ((PySem.W.keepIn K (.ref 532)) && (HK.fnB K 319 "Machine.__init__" (some 312) none none && ((PySem.W.keepIn K (.ref 319)) && (HK.fnB K 589 "Box.clerk" none none none && ((PySem.W.keepIn K (.ref 589)) && (HK.fnB K 599 "Box.letters" none none none && ((PySem.W.keepIn K (.ref 599)) && (HK.fnB K 607 "Box.table" none none none && ((PySem.W.keepIn K (.ref 607)) && (HK.fnB K 615 "Box.__call__" none none none && ((PySem.W.keepIn K (.ref 615)) && (HK.fnB K 637 "Box.first_word" none none none && ((PySem.W.keepIn K (.ref 637)) && (HK.fnB K 326 "Machine.letters" none none none && ((PySem.W.keepIn K (.ref 326)) && (HK.fnB K 334 "Machine.table" none none none && ((PySem.W.keepIn K (.ref 334)) && true)))))))))))))))))))))))))))))) = true := E8
  obtain ⟨S, E8⟩ := Bool.and_eq_true_iff.mp E8
  have k51 : PySem.W.keepIn K (.ref 835) = true := S
  obtain ⟨S, E8⟩ := Bool.and_eq_true_iff.mp E8
  have d52 : PySem.W.nsIn K mainGlobals "_law_sight" = some (some (.ref 842)) := He.eqO_ok S
  obtain ⟨S, E8⟩ := Bool.and_eq_true_iff.mp E8
  obtain ⟨_, kv52, _, _, cd52, _, _, _, _, l52, q52, kk52, oo52⟩ := HK.fn_ok (c.fn 52 rfl) S
  obtain ⟨S, E8⟩ := Bool.and_eq_true_iff.mp E8
  have k52 : PySem.W.keepIn K (.ref 842) = true := S
  obtain ⟨S, E8⟩ := Bool.and_eq_true_iff.mp E8
  have d53 : PySem.W.nsIn K mainGlobals "_law_right" = some (some (.ref 847)) := He.eqO_ok S
  obtain ⟨S, E8⟩ := Bool.and_eq_true_iff.mp E8
  obtain ⟨_, kv53, _, _, cd53, _, _, _, _, l53, q53, kk53, oo53⟩ := HK.fn_ok (c.fn 53 rfl) S
  obtain ⟨S, E8⟩ := Bool.and_eq_true_iff.mp E8
  have k53 : PySem.W.keepIn K (.ref 847) = true := S
  obtain ⟨S, E8⟩ := Bool.and_eq_true_iff.mp E8
  have d54 : PySem.W.nsIn K mainGlobals "law" = some (some (.ref 854)) := He.eqO_ok S
  obtain ⟨S, E8⟩ := Bool.and_eq_true_iff.mp E8
  obtain ⟨_, kv54, _, _, cd54, _, _, _, _, l54, q54, kk54, oo54⟩ := HK.fn_ok (c.fn 54 rfl) S
  obtain ⟨S, E8⟩ := Bool.and_eq_true_iff.mp E8
  have k54 : PySem.W.keepIn K (.ref 854) = true := S
  obtain ⟨S, E8⟩ := Bool.and_eq_true_iff.mp E8
  obtain ⟨_, kv55, _, _, cd55, _, _, _, _, l55, q55, kk55, oo55⟩ := HK.fn_ok (c.fn 55 rfl) S
  obtain ⟨S, E8⟩ := Bool.and_eq_true_iff.mp E8
  have k55 : PySem.W.keepIn K (.ref 136) = true := S
  obtain ⟨S, E8⟩ := Bool.and_eq_true_iff.mp E8
  obtain ⟨_, kv56, _, _, cd56, _, _, _, _, l56, q56, kk56, oo56⟩ := HK.fn_ok (c.fn 56 rfl) S
  obtain ⟨S, E8⟩ := Bool.and_eq_true_iff.mp E8
  have k56 : PySem.W.keepIn K (.ref 532) = true := S
  obtain ⟨S, E8⟩ := Bool.and_eq_true_iff.mp E8
  obtain ⟨_, kv57, _, _, cd57, _, _, _, _, l57, q57, kk57, oo57⟩ := HK.fn_ok (c.fn 57 rfl) S
  obtain ⟨S, E8⟩ := Bool.and_eq_true_iff.mp E8
  have k57 : PySem.W.keepIn K (.ref 319) = true := S
  obtain ⟨S, E8⟩ := Bool.and_eq_true_iff.mp E8
  obtain ⟨_, kv58, _, _, cd58, _, _, _, _, l58, q58, kk58, oo58⟩ := HK.fn_ok (c.fn 58 rfl) S
  obtain ⟨S, E8⟩ := Bool.and_eq_true_iff.mp E8
  have k58 : PySem.W.keepIn K (.ref 589) = true := S
  obtain ⟨S, E8⟩ := Bool.and_eq_true_iff.mp E8
  obtain ⟨_, kv59, _, _, cd59, _, _, _, _, l59, q59, kk59, oo59⟩ := HK.fn_ok (c.fn 59 rfl) S
  obtain ⟨S, E8⟩ := Bool.and_eq_true_iff.mp E8
  have k59 : PySem.W.keepIn K (.ref 599) = true := S
  obtain ⟨S, E8⟩ := Bool.and_eq_true_iff.mp E8
  obtain ⟨_, kv60, _, _, cd60, _, _, _, _, l60, q60, kk60, oo60⟩ := HK.fn_ok (c.fn 60 rfl) S
  obtain ⟨S, E8⟩ := Bool.and_eq_true_iff.mp E8
  have k60 : PySem.W.keepIn K (.ref 607) = true := S
  obtain ⟨S, E8⟩ := Bool.and_eq_true_iff.mp E8
  obtain ⟨_, kv61, _, _, cd61, _, _, _, _, l61, q61, kk61, oo61⟩ := HK.fn_ok (c.fn 61 rfl) S
  obtain ⟨S, E8⟩ := Bool.and_eq_true_iff.mp E8
  have k61 : PySem.W.keepIn K (.ref 615) = true := S
  obtain ⟨S, E8⟩ := Bool.and_eq_true_iff.mp E8
  obtain ⟨_, kv62, _, _, cd62, _, _, _, _, l62, q62, kk62, oo62⟩ := HK.fn_ok (c.fn 62 rfl) S
  obtain ⟨S, E8⟩ := Bool.and_eq_true_iff.mp E8
  have k62 : PySem.W.keepIn K (.ref 637) = true := S
  obtain ⟨S, E8⟩ := Bool.and_eq_true_iff.mp E8
  obtain ⟨_, kv63, _, _, cd63, _, _, _, _, l63, q63, kk63, oo63⟩ := HK.fn_ok (c.fn 63 rfl) S
  obtain ⟨S, E8⟩ := Bool.and_eq_true_iff.mp E8
  have k63 : PySem.W.keepIn K (.ref 326) = true := S
  obtain ⟨S, E8⟩ := Bool.and_eq_true_iff.mp E8
  obtain ⟨_, kv64, _, _, cd64, _, _, _, _, l64, q64, kk64, oo64⟩ := HK.fn_ok (c.fn 64 rfl) S
  obtain ⟨S, E8⟩ := Bool.and_eq_true_iff.mp E8
  have k64 : PySem.W.keepIn K (.ref 334) = true := S
  obtain ⟨E9, Y1⟩ := Bool.and_eq_true_iff.mp Y1
  have E9 : (HK.fnB K 342 "Machine.ends" none none none && ((PySem.W.keepIn K (.ref 342)) && (HK.fnB K 428 "Machine.__len__" none none none && ((PySem.W.keepIn K (.ref 428)) && (HK.nonB K 175 && (HK.oneB K 183 && (HK.oneB K 312 && ((PySem.W.codeHdIn K 704 702) && (HK.intB K mainGlobals "MAX_MADE" 400 && (HK.intB K mainGlobals "_MAX_CAP" 9 && (HK.intB K mainGlobals "_MAX_MODULUS" 12 && (HK.intB K mainGlobals "MAX_LETTERS" 3 && (HK.intB K mainGlobals "MAX_PLACES" 6 && (HK.intB K mainGlobals "MAX_STATES" 4 && (HK.intB K mainGlobals "MAX_CLERK" 12 && (HK.intB K mainGlobals "_MAX_SEEN" 40 && (He.eqO (PySem.W.nsIn K mainGlobals "len") (some none) && (He.eqO (PySem.W.nsIn K mainGlobals "int") (some none) && (He.eqO (PySem.W.nsIn K mainGlobals "abs") (some none) && (He.eqO (PySem.W.nsIn K mainGlobals "isinstance") (some none) && (He.eqO (PySem.W.nsIn K mainGlobals "bool") (some none) && (He.eqO (PySem.W.nsIn K mainGlobals "str") (some none) && (He.eqO (PySem.W.nsIn K mainGlobals "all") (some none) && (He.eqO (PySem.W.nsIn K mainGlobals "range") (some none) && (He.eqO (PySem.W.nsIn K mainGlobals "sorted") (some none) && (He.eqO (PySem.W.nsIn K mainGlobals "set") (some none) && (He.eqO (PySem.W.nsIn K mainGlobals "tuple") (some none) && (He.eqO (PySem.W.nsIn K mainGlobals "list") (some none) && (He.eqO (PySem.W.nsIn K mainGlobals "max") (some none) && (He.eqO (PySem.W.nsIn K mainGlobals "min") (some none) && true)))))))))))))))))))))))))))))) = true := E9
  obtain ⟨S, E9⟩ := Bool.and_eq_true_iff.mp E9
  obtain ⟨_, kv65, _, _, cd65, _, _, _, _, l65, q65, kk65, oo65⟩ := HK.fn_ok (c.fn 65 rfl) S
  obtain ⟨S, E9⟩ := Bool.and_eq_true_iff.mp E9
  have k65 : PySem.W.keepIn K (.ref 342) = true := S
  obtain ⟨S, E9⟩ := Bool.and_eq_true_iff.mp E9
  obtain ⟨_, kv66, _, _, cd66, _, _, _, _, l66, q66, kk66, oo66⟩ := HK.fn_ok (c.fn 66 rfl) S
  obtain ⟨S, E9⟩ := Bool.and_eq_true_iff.mp E9
  have k66 : PySem.W.keepIn K (.ref 428) = true := S
  obtain ⟨S, E9⟩ := Bool.and_eq_true_iff.mp E9
  obtain ⟨_, _, _, _, y4⟩ := HK.non_ns S
  obtain ⟨S, E9⟩ := Bool.and_eq_true_iff.mp E9
  obtain ⟨_, _, _, _, _, y5⟩ := HK.one_ns S
  obtain ⟨S, E9⟩ := Bool.and_eq_true_iff.mp E9
  obtain ⟨_, _, _, _, _, y57⟩ := HK.one_ns S
  obtain ⟨S, E9⟩ := Bool.and_eq_true_iff.mp E9
  have hCN : PySem.W.codeHdIn K 704 702 = true := S
  obtain ⟨S, E9⟩ := Bool.and_eq_true_iff.mp E9
  obtain ⟨_, vMAX_MADE⟩ := HK.int_ns S
  obtain ⟨S, E9⟩ := Bool.and_eq_true_iff.mp E9
  obtain ⟨_, v_MAX_CAP⟩ := HK.int_ns S
  obtain ⟨S, E9⟩ := Bool.and_eq_true_iff.mp E9
  obtain ⟨_, v_MAX_MODULUS⟩ := HK.int_ns S
  obtain ⟨S, E9⟩ := Bool.and_eq_true_iff.mp E9
  obtain ⟨_, vMAX_LETTERS⟩ := HK.int_ns S
  obtain ⟨S, E9⟩ := Bool.and_eq_true_iff.mp E9
  obtain ⟨_, vMAX_PLACES⟩ := HK.int_ns S
  obtain ⟨S, E9⟩ := Bool.and_eq_true_iff.mp E9
  obtain ⟨_, vMAX_STATES⟩ := HK.int_ns S
  obtain ⟨S, E9⟩ := Bool.and_eq_true_iff.mp E9
  obtain ⟨_, vMAX_CLERK⟩ := HK.int_ns S
  obtain ⟨S, E9⟩ := Bool.and_eq_true_iff.mp E9
  obtain ⟨_, v_MAX_SEEN⟩ := HK.int_ns S
  obtain ⟨S, E9⟩ := Bool.and_eq_true_iff.mp E9
  have z_len : PySem.W.nsIn K mainGlobals "len" = some none := He.eqO_ok S
  obtain ⟨S, E9⟩ := Bool.and_eq_true_iff.mp E9
  have z_int : PySem.W.nsIn K mainGlobals "int" = some none := He.eqO_ok S
  obtain ⟨S, E9⟩ := Bool.and_eq_true_iff.mp E9
  have z_abs : PySem.W.nsIn K mainGlobals "abs" = some none := He.eqO_ok S
  obtain ⟨S, E9⟩ := Bool.and_eq_true_iff.mp E9
  have z_isinstance : PySem.W.nsIn K mainGlobals "isinstance" = some none := He.eqO_ok S
  obtain ⟨S, E9⟩ := Bool.and_eq_true_iff.mp E9
  have z_bool : PySem.W.nsIn K mainGlobals "bool" = some none := He.eqO_ok S
  obtain ⟨S, E9⟩ := Bool.and_eq_true_iff.mp E9
  have z_str : PySem.W.nsIn K mainGlobals "str" = some none := He.eqO_ok S
  obtain ⟨S, E9⟩ := Bool.and_eq_true_iff.mp E9
  have z_all : PySem.W.nsIn K mainGlobals "all" = some none := He.eqO_ok S
  obtain ⟨S, E9⟩ := Bool.and_eq_true_iff.mp E9
  have z_range : PySem.W.nsIn K mainGlobals "range" = some none := He.eqO_ok S
  obtain ⟨S, E9⟩ := Bool.and_eq_true_iff.mp E9
  have z_sorted : PySem.W.nsIn K mainGlobals "sorted" = some none := He.eqO_ok S
  obtain ⟨S, E9⟩ := Bool.and_eq_true_iff.mp E9
  have z_set : PySem.W.nsIn K mainGlobals "set" = some none := He.eqO_ok S
  obtain ⟨S, E9⟩ := Bool.and_eq_true_iff.mp E9
  have z_tuple : PySem.W.nsIn K mainGlobals "tuple" = some none := He.eqO_ok S
  obtain ⟨S, E9⟩ := Bool.and_eq_true_iff.mp E9
  have z_list : PySem.W.nsIn K mainGlobals "list" = some none := He.eqO_ok S
  obtain ⟨S, E9⟩ := Bool.and_eq_true_iff.mp E9
  have z_max : PySem.W.nsIn K mainGlobals "max" = some none := He.eqO_ok S
  obtain ⟨S, E9⟩ := Bool.and_eq_true_iff.mp E9
  have z_min : PySem.W.nsIn K mainGlobals "min" = some none := He.eqO_ok S
  obtain ⟨E10, Y1⟩ := Bool.and_eq_true_iff.mp Y1
  have E10 : (He.eqO (PySem.W.nsIn K mainGlobals "zip") (some none) && (He.eqO (PySem.W.nsIn K mainGlobals "enumerate") (some none) && (He.eqO (PySem.W.nsIn K mainGlobals "any") (some none) && true))) = true := E10
  obtain ⟨S, E10⟩ := Bool.and_eq_true_iff.mp E10
  have z_zip : PySem.W.nsIn K mainGlobals "zip" = some none := He.eqO_ok S
  obtain ⟨S, E10⟩ := Bool.and_eq_true_iff.mp E10
  have z_enumerate : PySem.W.nsIn K mainGlobals "enumerate" = some none := He.eqO_ok S
  obtain ⟨S, E10⟩ := Bool.and_eq_true_iff.mp E10
  have z_any : PySem.W.nsIn K mainGlobals "any" = some none := He.eqO_ok S
  have hPN := (c.tab 702 (.head _)).1
  have nPN := (c.tab 702 (.head _)).2
  exact all_mk c.In G hfa gb gd gm pgb hdb pob sab ccb obb mkb kCb ib nib pgd hdd pod sad ccd obd mkd kCd id nid pgm hdm pom sam ccm obm mkm kCm im nim cn ct nT nL nR nMT nML nME rd ga cmK crK cfK pal pg_l pt_l pr_l pat pg_t pt_t pr_t paml pg_ml pt_ml pr_ml pamt pg_mt pt_mt pr_mt pame pg_me pt_me pr_me a61 n61 a62 n62 a66 n66 fiC ki kim kitD kt gNF gNS gCS tCS gI xI kI bI tI l0 q0 k0 d1 l1 q1 k1 d2 l2 q2 k2 d3 l3 q3 k3 d4 l4 q4 k4 d5 l5 q5 k5 d6 l6 q6 k6 d7 l7 q7 k7 d8 l8 q8 k8 d9 l9 q9 k9 d10 l10 q10 k10 d11 l11 q11 k11 d12 l12 q12 k12 d13 l13 q13 k13 d14 l14 q14 k14 d15 l15 q15 k15 d16 l16 q16 k16 d17 l17 q17 k17 d18 l18 q18 k18 d19 l19 q19 k19 d20 l20 q20 k20 d21 l21 q21 k21 d22 l22 q22 k22 d23 l23 q23 k23 d24 l24 q24 k24 d25 l25 q25 k25 d26 l26 q26 k26 d27 l27 q27 k27 d28 l28 q28 k28 d29 l29 q29 k29 d30 l30 q30 k30 d31 l31 q31 k31 d32 l32 q32 k32 d33 l33 q33 k33 d34 l34 q34 k34 d35 l35 q35 k35 d36 l36 q36 k36 d37 l37 q37 k37 d38 l38 q38 k38 d39 l39 q39 k39 d40 l40 q40 k40 d41 l41 q41 k41 d42 l42 q42 k42 d43 l43 q43 k43 d44 l44 q44 k44 d45 l45 q45 k45 d46 l46 q46 k46 d47 l47 q47 k47 d48 l48 q48 k48 d49 l49 q49 k49 d50 l50 q50 k50 d51 l51 q51 k51 d52 l52 q52 k52 d53 l53 q53 k53 d54 l54 q54 k54 l55 q55 k55 l56 q56 k56 l57 q57 k57 l58 q58 k58 l59 q59 k59 l60 q60 k60 l61 q61 k61 l62 q62 k62 l63 q63 k63 l64 q64 k64 l65 q65 k65 l66 q66 k66 y4 y5 y57 hPN nPN hCN vMAX_MADE v_MAX_CAP v_MAX_MODULUS vMAX_LETTERS vMAX_PLACES vMAX_STATES vMAX_CLERK v_MAX_SEEN z_len z_int z_abs z_isinstance z_bool z_str z_all z_range z_sorted z_set z_tuple z_list z_max z_min z_zip z_enumerate z_any
end WK
open PySem PySem.W PySem.Calls PyProof.Rows
theorem PySem.Challenge.cw_watchkinds_k89_whole_sights_of_clerks_holds : PySem.Challenge.rw_watchkinds_k89_whole_sights_of_clerks.Holds := by
  w_on; o_law
  refine HandSHeadRun.head_any (r := WK.Rw) (q := view WK.Rw.prog [95]) (H := WK.hkAll) (ob := WK.obAll) (M := 9000) (loose := WK.nmAll) (d := HandSHeadRun.topDef WK.Rw.prog 95) (kwd := []) WK.obAll_eq (by kernel_rfl) (fun s => by kernel_rfl) WK.runAll (by kernel_rfl) (by kernel_rfl) (by kernel_rfl) (by rfl) (by first | assumption | decide +kernel) (by decide +kernel) ⟨rfl, rfl, rfl, rfl, rfl, by decide +kernel⟩ ?hw ?hc
  case hw => w_witness2
  case hc =>
    refine LamX.walk_ofTsE (l := PySem.Challenge.rw_watchkinds_k89_whole_sights_of_clerks) (n := 63) (k := 10) (x := "_law_script") (CX := fun _ => L2.CX0) rfl (by decide) (by kernel_rfl) ⟨rfl, by decide, by decide⟩ ?F (fun _ _ _ _ _ z => z)
    intro w mg fa h Y G hmg
    obtain ⟨K, c⟩ := Y
    have e : (HandSHeadRun.topDef WK.Rw.prog 95).name = ("law" : PySem.Str) := by kernel_rfl
    rw [e] at hmg
    exact ⟨K, c.In, WK.facts c G hmg⟩
#print axioms PySem.Challenge.cw_watchkinds_k89_whole_sights_of_clerks_holds
