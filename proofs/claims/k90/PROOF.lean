import PyProof.Rows.All
import Wide.All
import OpenK.AllK
import Wide.FinOn
import PyProof.Rows.SetFrom
import PyProof.StrWalks
import HandS.ForMost
import HandS.Set
import HandS.TupSets
import HandS.SetTxt0
import HandS.SetTxtIn
import HandS.Wide
import HandS.IsInst
import HandS.ExcInit
import HandS.Flow
import HandS.Codes
import KE.KExcIs
import KE.KExcInit
import HandS.Strs
import HandS.Style
import HandS.StrMore
import HandS.Text
import PyProof.StrLawsFrom
import PyProof.Rows.StrCountLaw
import PyProof.Rows.StrRev
import PyProof.Rows.StrMul
import HandS.Words
import HandS.Nested
import HandS.Lambda
import HandS.Dict
import PyProof.Rows.TupDisplay
import HandS.Walk
import KE.KeyNested
import KE.KDictCopyH
import HandS.TupLen
import KE.KDictPairs
import HandS.Conv
import HandS.SetFor
import HandS.WordsExc
import KE.GoesNew
import HandS.DictComp
import HandS.More
import HandS.DictTup
import HandS.SortInts
import KE.KDictZip
import HandS.Zip
import HandS.Zip0
import KE.GoesEnum
import KE.KDictList
import HandS.Star
import HandS.Property
import HandS.SlotsOwn
import KE.KCallOwn
import KE.KFmtOwn
import PyProof.InstNe
import HandS.TupAny
import KE.SortKeyHeap
import HandS.SortKw
import HandS.ExcValue
import HandS.EndTab
import HandS.Head2
import HandS.Head3
import HandS.HeadHook2
import HandS.HeadHook1
import HandS.HeadWalk
import PySem.Challenge.RW_watchkinds_k90_whole_rings_gone_round_mo
set_option Elab.async false
set_option linter.all false
set_option maxRecDepth 100000
set_option maxHeartbeats 4000000
namespace TX
open PySem PySem.Spec PyProof.Rows L2
/-- the text of an entry -/
def txOf (e : Int × Value) : Str := strOf e.2
def GoodX (w : World) (e : Int × Value) : Prop := ∃ k tk, e.2 = Value.str k tk ∧ e.1 = hashStr w k
/-- what holds of the entries of a set of texts, whatever object bears them: T says its members -/
structure Fine (w : World) (T : Str → Bool) (es : Array (Int × Value)) (t : SetTable) : Prop where
  good : ∀ e ∈ es.toList, GoodX w e
  once : (es.toList.map txOf).Nodup
  mem : ∀ k, T k = true ↔ k ∈ es.toList.map txOf
  few : es.size < scanBound
  fit : t.fits es.size = true
  ris : Ris t.place.toList
  led : t.led = true ∨ w.params.followText "set-order" = true
/-- a set of n texts at a -/
structure SetX (w : World) (h : Heap) (a : Addr) (T : Str → Bool) (n : Nat) (o : Obj) (es : Array (Int × Value)) (ep : Nat) (t : SetTable) : Prop where
  ob : h.get? a = some o
  ex : o.ExactSet
  dat : o.data = .set es ep t
  sz : es.size = n
  fine : Fine w T es t
def HasX (w : World) (h : Heap) (a : Addr) (T : Str → Bool) (n : Nat) : Prop := ∃ o es ep t, SetX w h a T n o es ep t
section
variable {P : Program} {w : World} {h h' : Heap} {a : Addr} {T : Str → Bool} {n : Nat}
theorem HasX.at (R : HasX w h a T n) (k : ∀ o, h.get? a = some o → h'.get? a = some o) : HasX w h' a T n := by
  obtain ⟨o, es, ep, t, r⟩ := R
  exact ⟨o, es, ep, t, { r with ob := k o r.ob }⟩
theorem good_elems {l : List (Int × Value)} (g : ∀ e ∈ l, GoodX w e) : ElemsOf (PySem.strKind P w) l := fun e at_e =>
  match e, g e at_e with
  | (_, _), ⟨k, tk, rfl, hash⟩ => ⟨⟨k, Froz.is_str k tk, hash⟩, by rfl⟩
theorem good_is {e : Int × Value} (g : GoodX w e) (k : Str) : (PySem.strKind P w).is k e.2 = true ↔ txOf e = k :=
  match e, g with
  | (_, _), ⟨j, tk, rfl, _⟩ => ⟨fun q => (PySem.strKind P w).inj (.str j tk) j k (Froz.is_str j tk) q, fun q => q ▸ Froz.is_str j tk⟩
/-- the scan of the entries finds a text just where T says so -/
theorem Fine.look {es : Array (Int × Value)} {t : SetTable} (F : Fine w T es t) (k : Str) : (es.toList.findIdx? fun e => (PySem.strKind P w).is k e.2).isSome = T k := by
  rw [List.findIdx?_isSome, Bool.eq_iff_iff, List.any_eq_true, F.mem k, List.mem_map]
  exact ⟨fun ⟨e, at_e, q⟩ => ⟨e, at_e, (good_is (F.good e at_e) k).mp q⟩, fun ⟨e, at_e, q⟩ => ⟨e, at_e, (good_is (F.good e at_e) k).mpr q⟩⟩
theorem Fine.moved {es fs : Array (Int × Value)} {t u : SetTable} (F : Fine w T es t) (p : fs.toList.Perm es.toList) (fit : u.fits fs.size = true) (ris : Ris u.place.toList) (led : u.led = t.led) : Fine w T fs u ∧ fs.size = es.size := by
  have size := p.length_eq
  rw [Array.length_toList, Array.length_toList] at size
  exact ⟨⟨fun e at_e => F.good e (p.mem_iff.mp at_e), (p.map txOf).nodup_iff.mpr F.once, fun k => (F.mem k).trans (p.map txOf).mem_iff.symm, size ▸ F.few, fit, ris, led ▸ F.led⟩, size⟩
theorem Fine.more {es fs : Array (Int × Value)} {t u : SetTable} {k : Str} {tk : Tok} (F : Fine w T es t) (out : T k = false) (room : es.size + 1 < scanBound)
    (p : fs.toList.Perm (es.push ((PySem.strKind P w).hash k, .str k tk)).toList) (fit : u.fits fs.size = true) (ris : Ris u.place.toList) (led : u.led = t.led) :
    Fine w (fun j => T j || decide (j = k)) fs u ∧ fs.size = es.size + 1 := by
  have pe : fs.toList.Perm (((PySem.strKind P w).hash k, Value.str k tk) :: es.toList) := p.trans (by rw [Array.toList_push]; exact List.perm_append_singleton _ _)
  have pt : (fs.toList.map txOf).Perm (k :: es.toList.map txOf) := pe.map txOf
  have size := pe.length_eq
  rw [List.length_cons, Array.length_toList, Array.length_toList] at size
  refine ⟨⟨fun e at_e => ?_, pt.nodup_iff.mpr (List.nodup_cons.mpr ⟨fun z => ?_, F.once⟩), fun j => ?_, size ▸ room, fit, ris, led ▸ F.led⟩, size⟩
  · cases pe.mem_iff.mp at_e with
    | head => exact ⟨k, tk, rfl, rfl⟩
    | tail _ old => exact F.good e old
  · exact Bool.false_ne_true (out.symm.trans ((F.mem k).mpr z))
  · simp only [pt.mem_iff, List.mem_cons, Bool.or_eq_true, decide_eq_true_eq, F.mem j]
    exact Or.comm
theorem Fine.plainOff {es : Array (Int × Value)} {t : SetTable} (F : Fine w T es t) : Fine w T es { t with plain := false } := { F with fit := SetTable.fits_plain_off F.fit }
end
section
variable {P : Program} {w : World} {A : Around} {E : Value → Shared → Prop} {s : Shared} {a : Addr} {T : Str → Bool} {n : Nat}
/-- the entries are laid down, and laid anew where the table is too full -/
theorem lay {g : Bool → Sem Unit} (calm : ∀ (b : Bool) (r : Shared) (K : Unit → Shared → Prop), K () r → wpAny (model P w) A (g b) K E r) {o : Obj} {es fs : Array (Int × Value)} {ep : Nat} {t u : SetTable}
    (ob : s.heap.get? a = some o) (ex : o.ExactSet) (dat : o.data = .set es ep t) (F : Fine w T fs u) {again : Bool} {R : Option Bool → Shared → Prop}
    (done : ∀ k, Heap.SameBut a s.heap k → HasX w k a T fs.size → R (some true) { s with heap := k }) :
    wpAny (model P w) A (storeSet a fs u >>= fun _ => if (!again && u.tooFull) = true then
        g (relayAll u fs (SetTable.grown fs.size)).2.2 >>= fun _ => storeSet a (relayAll u fs (SetTable.grown fs.size)).1 (relayAll u fs (SetTable.grown fs.size)).2.1 >>= fun _ => pure (some true)
      else pure (some true)) R E s := by
  have same1 := Heap.SameBut.update s.heap a (Obj.putSet fs u)
  have at1 := store_at (es' := fs) (t' := u) ob dat
  refine wpAny_bind (wpAny_storeSet_of ob dat ?_ (fits_of_scanBound F.few))
  by_cases full : (!again && u.tooFull) = true
  · rw [if_pos full]
    obtain ⟨F2, size2⟩ := F.moved (relayAll_perm u fs (SetTable.grown fs.size)) (relayAll_fits u fs _) (relayAll_ris u fs _) (relayAll_led u fs _)
    exact wpAny_bind (calm _ _ _ (wpAny_bind (wpAny_storeSet_of at1 rfl (wpAny_pure (done _ (same1.trans (Heap.SameBut.update _ a _)) ⟨_, _, _, _, store_at at1 rfl, ex, rfl, size2, F2⟩)) (fits_of_scanBound F2.few))))
  · rw [if_neg full]
    exact wpAny_pure (done _ same1 ⟨_, fs, _, u, at1, ex, rfl, rfl, F⟩)
theorem add {k : Str} {tk : Tok} {Q : Bool → Shared → Prop} (R : HasX w s.heap a T n) (room : n + 1 < scanBound)
    (hQ : ∀ h', Heap.SameBut a s.heap h' → HasX w h' a (fun j => T j || decide (j = k)) (if T k = true then n else n + 1) → Q (!T k) { s with heap := h' }) :
    wpAny (model P w) A (setAddHashed a (.str k tk) ((PySem.strKind P w).hash k)) Q E s := by
  obtain ⟨o, es, ep, t, ob, ex, dat, rfl, F⟩ := R
  have scans : (Value.str k tk).scannable = true := rfl
  have els := good_elems (P := P) F.good
  have calm : ∀ (b : Bool) (r : Shared) (K : Unit → Shared → Prop), K () r → wpAny (model P w) A (match b with | true => rule "set.scan.the-table-gave-way" | false => pure ()) K E r
    | true, _, _, q => wpAny_rule q
    | false, _, _, q => wpAny_pure q
  unfold setAddHashed; unfold setAddHashedIn
  refine wpAny_holding (wpAny_bind (wpAny_setState_of ob dat F.fit ?_))
  simp only [byScan_of scans F.few els, ↓reduceIte]
  unfold setAddByScan
  refine wpAny_bind (wpAny_bind (wpAny_rule (wpAny_bind (wpAny_setScan_of (Froz.is_str k tk) ob dat F.fit els ?_))))
  have seen := F.look (P := P) k
  cases found : es.toList.findIdx? (fun e => (PySem.strKind P w).is k e.2) with
  | some j =>
    rw [found] at seen
    have inT : T k = true := seen.symm
    have q := hQ s.heap (Heap.SameBut.refl a s.heap) ⟨o, es, ep, t, ob, ex, dat, (if_pos inT).symm, { F with mem := fun i => (F.mem i).symm.trans ?_ |>.symm }⟩
    · rw [inT] at q
      exact wpAny_pure (wpAny_pure q)
    · simp only [Bool.or_eq_true, decide_eq_true_eq]
      exact ⟨.inl, fun z => z.elim id fun e => e ▸ inT⟩
  | none =>
    rw [found] at seen
    have out : T k = false := seen.symm
    have F1 := F.more (P := P) (k := k) (tk := tk) out room (layNew_perm t es _ _) (layNew_fits t es _ _) (layNew_ris t es _ _ F.ris) (layNew_led t es _ _)
    revert F1
    generalize layNew t es ((PySem.strKind P w).hash k) (.str k tk) = Z
    rcases Z with ⟨fs, u, again, gave⟩
    rintro ⟨F1, size1⟩
    have fin : ∀ g, Heap.SameBut a s.heap g → HasX w g a (fun j => T j || decide (j = k)) fs.size → Q true { s with heap := g } := fun g same r => by
      have q := hQ g same
      simp only [out, Bool.false_eq_true, if_false, Bool.not_false] at q
      exact q (size1 ▸ r)
    dsimp only
    refine wpAny_bind (calm _ _ _ ?_)
    split
    · rw [hashByValue_scannable 8 scans]
      refine wpAny_bind (wpAny_pure (lay (T := fun j => T j || decide (j = k)) ?_ ob ex dat ?_ fun g same r => ?_))
      · exact fun b r K q => by cases b <;> first | exact wpAny_rule q | exact wpAny_pure q
      · first | exact F1 | (split <;> first | exact F1 | exact F1.plainOff)
      · dsimp only
        exact wpAny_pure (fin g same r)
    · refine wpAny_bind (wpAny_pure ?_)
      simp only [↓reduceIte]
      refine lay (T := fun j => T j || decide (j = k)) ?_ ob ex dat F1 fun g same r => ?_
      · exact fun b r K q => by cases b <;> first | exact wpAny_rule q | exact wpAny_pure q
      · dsimp only
        exact wpAny_pure (fin g same r)
end
/-- a set as it is made -/
abbrev newSet (w : World) : Obj := { cls := .type "set", dict := none, data := .set #[] 0 (.fresh 0 0 (!w.params.followText "set-order")) }
theorem fresh {h : Heap} (w : World) : HasX w (h.push (newSet w)) h.objs.size (fun _ => false) 0 := by
  refine ⟨_, #[], 0, _, Heap.get?_push_size _ rfl, ⟨rfl, rfl, rfl⟩, rfl, rfl, ⟨fun e at_e => by simp at at_e, by simp, fun k => by simp, by decide, by rfl, List.Pairwise.nil, ?_⟩⟩
  show (!w.params.followText "set-order") = true ∨ _
  cases w.params.followText "set-order" <;> simp
section
variable {prog : Program} {w : World} {A : Around} {R : Result → Shared → Prop} {I : Addr} {fp wr : List Addr} {n : Nat} {x : Str} {St : Nat → Heap → Prop}
/-- the signs of a text, one after the other, into the set: left of them are still to come -/
theorem loop (W : Walks prog w A.in1 I fp wr n (SignAt x) St) (hn : n = x.cps.size) (S : Addr) (away : S ∉ fp) (room : n + 1 < scanBound) :
    ∀ (left i : Nat) (s : Shared) (T : Str → Bool) (c : Nat), n - i = left → i ≤ n → St i s.heap → HasX w s.heap S T c → c ≤ i →
      (∀ g tk T' c', HasX w g S T' c' → c' ≤ n → (∀ k, T' k = (T k || (x.cps.toList.drop i).any fun z => decide (k = ⟨#[z]⟩))) → (∀ b q, b ∉ S :: wr → s.heap.get? b = some q → g.get? b = some q) →
        R (.ok (.ret .none)) { s with heap := g, toks := tk }) →
      codeAny (model prog w) A (.builtin "set.update.loop" ⟨[.ref S, .ref I], []⟩) R s := by
  have apart : S ∉ wr := fun z => away (W.sub _ z)
  intro left
  induction left with
  | zero =>
    intro i s T c hm hi st isSet hc done
    obtain rfl : i = n := by omega
    refine codeAny_builtin PyProof.Rows.F.entry_set_update_loop (Around.under_plainId PyProof.Rows.F.plain_set_update_loop _ ▸ wpAny_bind (m := pyNext (.ref I)) (W.done s _ _ st fun g tk keep => ?_))
    refine wpAny_pure (done g tk T c (isSet.at fun q at_S => keep S q apart at_S) hc (fun k => ?_) fun b q nb at_b => keep b q (fun z => nb (.tail _ z)) at_b)
    rw [List.drop_of_length_le (by rw [hn]; simp)]
    simp
  | succ left ih =>
    intro i s T c hm hi st isSet hc done
    have more : i < n := by omega
    refine codeAny_builtin PyProof.Rows.F.entry_set_update_loop (Around.under_plainId PyProof.Rows.F.plain_set_update_loop _ ▸ wpAny_bind (m := pyNext (.ref I)) (W.item i s _ _ more st fun v g tk isSign st' keep => ?_))
    obtain ⟨z, t, hz, rfl⟩ := isSign
    refine wpAny_bind (m := holding [Value.str ⟨#[z]⟩ t] (setAdd S (.str ⟨#[z]⟩ t))) (wpAny_holding ?_)
    unfold setAdd
    refine wpAny_holding (wpAny_bind ((PySem.strKind prog w).pyHash (k := ⟨#[z]⟩) (Froz.is_str _ _) ?_))
    refine add (s := { s with heap := g, toks := tk + 1 }) (isSet.at fun q at_S => keep S q apart at_S) (by omega) fun g2 same isSet2 => ?_
    have keep2 : ∀ b q, b ∉ S :: wr → s.heap.get? b = some q → g2.get? b = some q := fun b q nb at_b => (same.2 b fun z => nb (z ▸ List.mem_cons_self)).trans (keep b q (fun z => nb (.tail _ z)) at_b)
    refine wpAny_pure ⟨plainId_quiet PyProof.Rows.F.plain_set_update_loop _, ih (i + 1) { s with heap := g2, toks := tk + 1 } _ _ (by omega) more (W.frame _ g _ st' fun b hb q at_b => ?_) isSet2 (by split <;> omega) fun g3 tk3 T3 c3 r3 l3 m3 k3 => ?_⟩
    · exact (same.2 b fun z : b = S => away (z ▸ hb)).trans at_b
    · refine done g3 tk3 T3 c3 r3 l3 (fun k => ?_) fun b q nb at_b => k3 b q nb (keep2 b q nb at_b)
      rw [m3 k, Fz.drop_at hz, List.any_cons, Bool.or_assoc]
end
section
variable {P : Program} {w : World} {A : Around} {E : Value → Shared → Prop} {s : Shared}
set_option maxHeartbeats 6400000 in
/-- set(text) -/
theorem call_set {x : Str} {t : Tok} {Q : Value → Shared → Prop} (calm : A.handled = none) (room : x.cps.size + 1 < scanBound)
    (h : ∀ (g : Heap) (tk : Nat) T c, HasX w g s.heap.objs.size T c → c ≤ x.cps.size → (∀ k, T k = x.cps.toList.any fun z => decide (k = ⟨#[z]⟩)) → (∀ b q, s.heap.get? b = some q → g.get? b = some q) → Q (.ref s.heap.objs.size) { s with heap := g, toks := tk }) :
    wpAny (model P w) A (call (.type "set") [.str x t]) Q E s := by
  have made := F.called_set.made; have isSub := F.called_set.sub; have noType := F.called_set.notType; have creates := F.called_set.canCreate
  obtain ⟨_, _, _⟩ := F.called_set.mro
  have typeCall := F.typeCall_set_1 (.str x t)
  refine wpAny_call (codeAny_of_tree ?_)
  change wpAny _ _ (callAny (.type "set") _) _ _ s
  refine wpAny_pure (And.intro (Code.quiet_builtin _ (by decide +kernel)) (codeAny_builtin F.entry_type_call ?_))
  rw [Around.under_plain (weight_type_call_type "set" [.str x t] []) rfl]
  repeat any_goals first | assumption | wp_step
  refine codeAny_mono (code_set_led1 (.str x t) (E := E) (Q₁ := fun v r => v = .ref s.heap.objs.size ∧ r = { s with heap := s.heap.push (newSet w) }) ⟨rfl, rfl⟩) fun
    | .error _, _, hr => hr
    | .ok (.ret _), _, ⟨rfl, rfl⟩ => ?_
    | .ok .next, _, hr => hr.elim
    | .ok .brk, _, hr => hr.elim
    | .ok .cont, _, hr => hr.elim
  have isTy : Shared.TypeIs { s with heap := s.heap.push (newSet w) } (.ref s.heap.objs.size) "set" := ⟨_, Heap.get?_push_size _ rfl, rfl⟩
  have found := F.called_set.init.lookup
  have bound := F.called_set.init.bind (.ref s.heap.objs.size)
  repeat any_goals first | assumption | wp_step
  refine codeAny_mono (codeAny_call_builtin (R := wants (fun v r => v = .none ∧ ∃ g tk T c, r = { s with heap := g, toks := tk } ∧ HasX w g s.heap.objs.size T c ∧ c ≤ x.cps.size ∧ (∀ k, T k = x.cps.toList.any fun z => decide (k = ⟨#[z]⟩)) ∧
      ∀ b q, s.heap.get? b = some q → g.get? b = some q) E) F.called_set.init.plain F.entry_set_init (check_set_init_1 isTy ?_)) fun
    | .error _, _, hr => hr
    | .ok (.ret _), _, ⟨rfl, _, _, _, _, rfl, r1, r2, r3, r4⟩ => ?_
    | .ok .next, _, hr => hr.elim
    | .ok .brk, _, hr => hr.elim
    | .ok .cont, _, hr => hr.elim
  · have f1 := F.sub_str_set; have f2 := F.sub_str_frozenset; have f3 := typeIs_str
    have f4 : (Value.type "str" == Value.type "dict") = false := by decide
    unfold Builtin.«set.__init__» noKeywords; unfold Builtin.Frozenset.updateFrom
    generalize asIter : pyIter = PI
    wp_walk
    subst asIter
    have size1 : (s.heap.push (newSet w)).objs.size = s.heap.objs.size + 1 := Heap.size_push ..
    refine wpAny_pyIter_str fun o St W st => wpAny_bind (wpAny_runValue (loop (W _ (by simp [calm])) rfl s.heap.objs.size ?_ room _ 0 _ (fun _ => false) 0 rfl (Nat.zero_le _) st ((fresh w).at fun q at_b => Heap.get?_push_of_some _ at_b) (Nat.le_refl _) fun g tk T c r lc m keep => ?_))
    · rw [List.mem_singleton, size1]
      exact Nat.ne_of_lt (Nat.lt_succ_self _)
    · show wpAny _ _ _ _ _ _
      refine wpAny_pure (wpAny_pure ⟨rfl, g, tk, T, c, rfl, r, lc, fun z => by rw [m z, List.drop_zero, Bool.false_or], fun b q at_b => keep b q ?_ (Heap.get?_push_of_some _ (Heap.get?_push_of_some _ at_b))⟩)
      have below := Heap.lt_size at_b
      simp only [List.mem_cons, List.mem_singleton, List.not_mem_nil, or_false, not_or, size1]
      exact ⟨Nat.ne_of_lt below, Nat.ne_of_lt (Nat.lt_succ_of_lt below)⟩
  · repeat any_goals first | assumption | wp_step
    exact h _ _ _ _ r1 r2 r3 r4
end
end TX
set_option Elab.async false
set_option linter.all false
set_option maxRecDepth 100000
set_option maxHeartbeats 4000000
namespace WK
open PySem L2 PyProof.Rows
def top (i : Nat) : Stmt := PySem.Challenge.pw_watchkinds_k90_whole_rings_gone_round_mo.main.body.getD i (.Pass ⟨0, 0, 0, 0⟩)
abbrev sDice : Stmt := top 64
abbrev sRoll : Stmt := top 65
abbrev sOne : Stmt := top 66
/-- a power of any two numbers of which the result is not too long -/
def CPowW (i j : Int) : Prop := 0 ≤ j ∧ (Builtin.Int.intBits i : Int) * j ≤ 2 ^ 27
theorem op_powW {X : Cx} : OpR X (binaryOp .Pow) (rI CPowW fun i j => .int (i ^ j.toNat)) := opI fun _ _ _ _ _ _ _ hc q => pow_int hc.1 hc.2 q
/-- the dice stand at p -/
def DiceAt (H : Hp) (p : Addr) : Prop := ∃ a b c : Int, H p = some (.lst [.int a, .int b, .int c]) ∧ 0 ≤ a ∧ 0 ≤ b ∧ 0 ≤ c
/-- all that was tracked stands, but for what is at p -/
def But (p : Addr) (H H' : Hp) : Prop := ∀ b o, H b = some o → b ≠ p → H' b = some o
theorem But.refl (p : Addr) (H : Hp) : But p H H := fun _ _ h _ => h
theorem But.trans {p : Addr} {H H1 H2 : Hp} (a : But p H H1) (b : But p H1 H2) : But p H H2 := fun c o h n => b c o (a c o h n) n
theorem But.ofSame {p : Addr} {H H' : Hp} (s : Same H H') : But p H H' := fun b o h _ => s b o h
theorem But.upd {p : Addr} {H : Hp} {o : HO} : But p H (upd H p o) := fun b u h n => by rw [upd_ne n]; exact h
/-- law's number of a cell -/
def big : Int := (10 ^ 60) ^ 10
theorem big_pos : 0 < big := by decide +kernel
def spDice (K : PySem.W.Frag) : Sp := fun vs H Q _ => ∃ (s : Addr) (ns : List Int) (k : Int), vs = [.ref s, .int k] ∧ SqL K H s (ns.map V.int) ∧ 0 ≤ k ∧
  ∀ (p : Addr) (H' : Hp), H p = none → Same H H' → DiceAt H' p → Q (.ref p) H'
def spRoll : Sp := fun vs H Q _ => ∃ (p : Addr) (n : Int), vs = [.ref p, .int n] ∧ DiceAt H p ∧ 0 < n ∧ n < 1073741824 ∧
  ∀ (r : Int) (H' : Hp), 0 ≤ r → r < n → DiceAt H' p → But p H H' → Q (.int r) H'
def spOne : Sp := fun vs H Q _ => ∃ (p q : Addr) (xs : List V), vs = [.ref p, .ref q] ∧ DiceAt H p ∧ q ≠ p ∧ H q = some (.lst xs) ∧ 0 < xs.length ∧ xs.length < 1000000 ∧
  ∀ (v : V) (H' : Hp), v ∈ xs → DiceAt H' p → But p H H' → Q v H'
structure TDice (mg : Str → Option Value) : Prop where
  len : mg "len" = none
  int : mg "int" = none
  abs : mg "abs" = none
section
variable {P : Program} {w : World} {K : PySem.W.Frag} {mg : Str → Option Value} {base : Heap}
theorem scD : FnScope ["_law_script", "_law_at", "_law_cell", "_law_great", "_law_left", "_law_mixed_here"] ["_law_script", "_law_at"] (defScope sDice) := ⟨rfl, rfl, rfl, by decide +kernel, rfl, by decide +kernel, by decide +kernel⟩
theorem ok_dice {f : Addr} {fd : FuncData} (F : Fun K "_law_dice" "_law_dice" sDice f fd) (T : TDice mg) : FnOk P w K mg base CX0 1 f fd ["_law_script", "_law_at"] (spDice K) := by
  refine F.ok scD (fun vs H Q E h => ?_) (fun cdv A outer s H vs Q E hr h => ?_)
  · obtain ⟨s, ns, k, rfl, _⟩ := h
    rfl
  · obtain ⟨s, ns, k, rfl, hS, hk, q⟩ := h
    refine ⟨_, pss_cons (ps_set (i := 2) scD.nd rfl (Or.inl rfl) (pe_op op_add (pe_op op_mul pe_int (pv 1)) pe_int))
      (C8.pss_cut (ps_if (pt_cmpR op_lt (pv 1) (pe_callB call_len_seq (by rfl) T.len PySem.boot_len (pa_cons (pv 0) pa_nil)) (nomark _))
        (pss_one (ps_set (i := 2) scD.nd rfl (Or.inl rfl) (pe_ix ix_list (pv 0) (pv 1) (fun _ _ => rfl)))) pss_nil)
      (pss_cons (ps_set (i := 3) scD.nd rfl (Or.inl rfl) (pe_op op_mod (pe_callTy call_int1 (by rfl) T.int (by decide +kernel) (pa_cons (pe_callB call_abs (by rfl) T.abs (by decide +kernel) (pa_cons (pv 2) pa_nil)) pa_nil)) (pe_op op_powW (pe_op op_pow pe_int pe_int) pe_int)))
      (pss_cons (ps_set (i := 4) scD.nd rfl (Or.inl rfl) (pe_op op_fdivW (pv 3) (pe_op op_pow pe_int pe_int)))
      (pss_cons (ps_set (i := 5) scD.nd rfl (Or.inl rfl) (pe_op op_add (pe_op op_add (pe_op op_add (pe_op op_mul (pe_op op_mod (pv 3) pe_int) pe_int) (pe_op op_mul pe_int (pv 1)))
          (pe_op op_mul pe_int (pe_callTy call_int1 (by rfl) T.int (by decide +kernel) (pa_cons (pe_cmpR op_lt (pv 2) pe_int (nomark _)) pa_nil)))) pe_int))
      (pss_one (ps_ret (pe_lst (pa_cons (pv 4) (pa_cons (pe_op op_mod (pv 5) pe_int) (pa_cons pe_int pa_nil)))))))))), ?_⟩
    refine ⟨_, rfl, _, _, rfl, rfl, .inl ⟨by decide, by decide⟩, _, _, rfl, rfl, ?_⟩
    -- behind the if: some cell
    refine ⟨fun σ H' => H' = H ∧ ∃ c : Int, σ = [some (.ref s), some (.int k), some (.int c), none, none, none], ?_, ?_⟩
    · refine ⟨_, rfl, _, rfl, s, _, rfl, .inl hS, _, _, rfl, rfl, _, rfl, ?_⟩
      refine ite2 (fun hc => ?_) (fun _ => ?_)
      · have hl : k < ((ns.map V.int).length : Int) := of_decide_eq_true hc
        rw [List.length_map] at hl
        have hj : k.toNat < ns.length := by omega
        have e1 : (ns.map V.int)[k.toNat]? = some (V.int ns[k.toNat]) := by
          rw [List.getElem?_map, List.getElem?_eq_getElem hj]
          rfl
        have e2 := atI_nat e1
        rw [Int.toNat_of_nonneg hk] at e2
        exact ⟨_, rfl, _, rfl, s, _, _, _, rfl, rfl, hS, e2, rfl, _, rfl⟩
      · exact ⟨rfl, _, rfl⟩
    · rintro σ H' ⟨rfl, c, rfl⟩
      refine ⟨_, rfl, _, rfl, .inl ⟨_, rfl, ?_⟩⟩
      refine ⟨_, _, rfl, rfl, ⟨by decide, by decide, by decide +kernel⟩, _, _, rfl, rfl, ⟨by decide, by decide +kernel⟩, _, _, rfl, rfl, big_pos, ?_⟩
      refine ⟨_, rfl, _, _, rfl, rfl, ⟨by decide, by decide, by decide +kernel⟩, _, _, rfl, rfl, wide_div (b := 64) (by decide +kernel) (by decide +kernel) (by decide) (by decide), ?_⟩
      refine ⟨_, rfl, _, _, rfl, rfl, (by show (0 : Int) < 2147483059; decide), _, _, rfl, rfl, .inr ⟨by decide, by decide⟩, _, rfl, _, _, rfl, rfl, .inl ⟨by decide, by decide⟩, _, _, rfl, rfl, ?_⟩
      refine ⟨_, rfl, _, _, rfl, rfl, .inr ⟨_, rfl, ?_⟩⟩
      refine ⟨_, _, rfl, rfl, .inl ⟨by decide, by decide⟩, _, _, rfl, rfl, _, _, rfl, rfl, ?_⟩
      refine ⟨_, rfl, _, rfl, _, _, rfl, rfl, (by show (0 : Int) < 2147483053; decide), (by show 3 ≤ sizeLine; decide), fun p hp => q p _ hp (fun b o e => by rw [upd_ne (ne_of_none e hp)]; exact e) ⟨_, _, _, upd_same, ?_, ?_, Int.le_refl 0⟩⟩
      · exact Int.ediv_nonneg (Int.emod_nonneg _ (Int.ne_of_gt big_pos)) (by decide)
      · exact Int.emod_nonneg _ (by decide)
/-- of a roll -/
theorem scR : FnScope ["_law_dice_here", "_law_total", "_law_number", "_law_drawn", "_law_one", "_law_two"] ["_law_dice_here", "_law_total"] (defScope sRoll) := ⟨rfl, rfl, rfl, by decide +kernel, rfl, by decide +kernel, by decide +kernel⟩
theorem ok_roll {f : Addr} {fd : FuncData} (F : Fun K "_law_roll" "_law_roll" sRoll f fd) (T : TDice mg) : FnOk P w K mg base CX0 1 f fd ["_law_dice_here", "_law_total"] spRoll := by
  refine F.ok scR (fun vs H Q E h => ?_) (fun cdv A outer s H vs Q E hr h => ?_)
  · obtain ⟨p, n, rfl, _⟩ := h
    rfl
  · obtain ⟨p, n, rfl, ⟨a, b, c, hD, ha, hb, hc⟩, hn, hn2, q⟩ := h
    refine ⟨_, pss_cons (ps_set (i := 2) scR.nd rfl (Or.inl rfl) (pe_callTy call_int1 (by rfl) T.int (by decide +kernel) (pa_cons (pv 1) pa_nil)))
      (pss_cons (ps_if (pt_cmpR op_gt (pe_ix ix_list (pv 0) pe_int (fun _ _ => rfl)) pe_int (nomark _))
        (pss_cons (ps_set (i := 3) scR.nd rfl (Or.inl rfl) (pe_op op_mod (pe_ix ix_list (pv 0) pe_int (fun _ _ => rfl)) (pv 2)))
        (pss_cons (ps_asg (pe_op op_fdiv (pe_ix ix_list (pv 0) pe_int (fun _ _ => rfl)) (pv 2)) (pg_sub (pv 0) pe_int set_list))
        (pss_one (ps_ret (pe_callTy call_int1 (by rfl) T.int (by decide +kernel) (pa_cons (pv 3) pa_nil)))))) pss_nil)
      (pss_cons (ps_asg (pe_op op_add (pe_ix ix_list (pv 0) pe_int (fun _ _ => rfl)) pe_int) (pg_sub (pv 0) pe_int set_list))
      (pss_cons (ps_set (i := 4) scR.nd rfl (Or.inl rfl) (pe_op op_mod (pe_op op_add (pe_ix ix_list (pv 0) pe_int (fun _ _ => rfl)) (pe_op op_mul pe_int (pe_ix ix_list (pv 0) pe_int (fun _ _ => rfl)))) pe_int))
      (pss_cons (ps_set (i := 5) scR.nd rfl (Or.inl rfl) (pe_op op_add (pe_op op_mul (pe_op op_mod (pe_op op_mul (pv 4) (pv 4)) pe_int) (pv 4)) (pe_op op_mul pe_int (pe_ix ix_list (pv 0) pe_int (fun _ _ => rfl)))))
      (pss_cons (ps_set (i := 5) scR.nd rfl (Or.inl rfl) (pe_op op_mod (pv 5) pe_int))
      (pss_one (ps_ret (pe_callTy call_int1 (by rfl) T.int (by decide +kernel) (pa_cons (pe_op op_mod (pe_op op_fdiv (pv 5) pe_int) (pv 2)) pa_nil))))))))), ?_⟩
    refine ⟨_, rfl, .inl ⟨_, rfl, ?_⟩⟩
    refine ⟨_, rfl, p, _, _, _, rfl, rfl, SqL.of hD, atI_nat (j := 0) rfl, _, _, rfl, rfl, _, rfl, ?_⟩
    refine ite2 (fun hc' => ?_) (fun hc' => ?_)
    · refine ⟨_, rfl, p, _, _, _, rfl, rfl, SqL.of hD, atI_nat (j := 0) rfl, _, rfl, _, _, rfl, rfl, hn, ?_⟩
      refine ⟨_, rfl, p, _, _, _, rfl, rfl, SqL.of hD, atI_nat (j := 0) rfl, _, rfl, _, _, rfl, rfl, ⟨hn, hn2⟩, ?_⟩
      refine ⟨_, rfl, p, _, _, 0, rfl, rfl, hD, rfl, ?_⟩
      refine ⟨_, rfl, .inl ⟨_, rfl, ?_⟩⟩
      exact q _ _ (Int.emod_nonneg _ (Int.ne_of_gt hn)) (Int.emod_lt_of_pos _ hn) ⟨_, _, _, upd_same, Int.ediv_nonneg ha (Int.le_of_lt hn), hb, hc⟩ But.upd
    · refine ⟨_, rfl, p, _, _, _, rfl, rfl, SqL.of hD, atI_nat (j := 2) rfl, _, _, rfl, rfl, _, rfl, p, _, _, 2, rfl, rfl, hD, rfl, ?_⟩
      have h2 : (upd H p (.lst [.int a, .int b, .int (c + 1)])) p = some (.lst [.int a, .int b, .int (c + 1)]) := upd_same
      refine ⟨_, rfl, p, _, _, _, rfl, rfl, SqL.of h2, atI_nat (j := 1) rfl, _, rfl, p, _, _, _, rfl, rfl, SqL.of h2, atI_nat (j := 2) rfl, _, _, rfl, rfl, .inl ⟨by decide, by decide⟩, _, _, rfl, rfl, _, _, rfl, rfl, (by show (0 : Int) < 2305843009213693951; decide), ?_⟩
      have one0 : ∀ x : Int, -(2 ^ 64) < x % 2305843009213693951 ∧ x % 2305843009213693951 < 2 ^ 64 := fun x => by
        have l := Int.emod_nonneg x (show (2305843009213693951 : Int) ≠ 0 by decide)
        have u := Int.emod_lt_of_pos x (show (0 : Int) < 2305843009213693951 by decide)
        exact ⟨by omega, by omega⟩
      refine ⟨_, rfl, _, rfl, _, _, rfl, rfl, .inl (one0 _), _, _, rfl, rfl, (by show (0 : Int) < 2305843009213693921; decide), _, rfl, _, _, rfl, rfl, .inr (one0 _), _, rfl, p, _, _, _, rfl, rfl, SqL.of h2, atI_nat (j := 2) rfl, _, _, rfl, rfl, .inl ⟨by decide, by decide⟩, _, _, rfl, rfl, ?_⟩
      refine ⟨_, rfl, _, _, rfl, rfl, (by show (0 : Int) < 2305843009213693907; decide), ?_⟩
      refine ⟨_, rfl, _, _, rfl, rfl, ⟨by decide, by decide⟩, _, rfl, _, _, rfl, rfl, hn, .inl ⟨_, rfl, ?_⟩⟩
      exact q _ _ (Int.emod_nonneg _ (Int.ne_of_gt hn)) (Int.emod_lt_of_pos _ hn) ⟨_, _, _, upd_same, ha, hb, by omega⟩ But.upd
theorem scO : FnScope ["_law_dice_here", "_law_items"] ["_law_dice_here", "_law_items"] (defScope sOne) := ⟨rfl, rfl, rfl, by decide +kernel, rfl, by decide +kernel, by decide +kernel⟩
theorem ok_one {f fR : Addr} {fd fdR : FuncData} (F : Fun K "_law_one_of" "_law_one_of" sOne f fd) (T : TDice mg) (gR : mg "_law_roll" = some (.ref fR)) (FR : Fun K "_law_roll" "_law_roll" sRoll fR fdR) (bR : Binds K fdR ["_law_dice_here", "_law_total"] []) :
    FnOk P w K mg base CX0 2 f fd ["_law_dice_here", "_law_items"] spOne := by
  have GR : FnOk P w K mg base CX0 1 fR fdR ["_law_dice_here", "_law_total"] spRoll := ok_roll FR T
  refine F.ok scO (fun vs H Q E h => ?_) (fun cdv A outer s H vs Q E hr h => ?_)
  · obtain ⟨p, n, _, rfl, _⟩ := h
    rfl
  · obtain ⟨p, a, xs, rfl, hD, hne, hx, h0, h1, q⟩ := h
    refine ⟨_, pss_one (ps_ret (pe_ix ix_list (pv 1) (pe_call GR hr rfl gR FR.kp bR .nil pass0 (pa_cons (pv 0) (pa_cons (pe_callB call_len_seq (by rfl) T.len PySem.boot_len (pa_cons (pv 1) pa_nil)) pa_nil))) (fun _ _ => rfl))), ?_⟩
    refine ⟨_, rfl, _, rfl, _, rfl, a, _, rfl, .inl (SqL.of hx), p, _, rfl, hD, by omega, by omega, fun r H' hr0 hr1 hD' hB => ?_⟩
    have hj : r.toNat < xs.length := by omega
    have e1 : xs[r.toNat]? = some xs[r.toNat] := List.getElem?_eq_getElem hj
    have e2 := atI_nat e1
    rw [Int.toNat_of_nonneg hr0] at e2
    exact ⟨a, _, _, _, rfl, rfl, SqL.of (hB _ _ hx hne), e2, q _ _ (List.getElem_mem hj) hD' hB⟩
end
end WK
set_option Elab.async false
set_option linter.all false
set_option maxRecDepth 100000
set_option maxHeartbeats 4000000
namespace TX
open PySem PySem.Spec PyProof.Rows L2
def ins (c : Nat) : List Nat → List Nat
  | [] => [c]
  | d :: r => if c < d then c :: d :: r else if c = d then d :: r else d :: ins c r
/-- the numbers of a list, each once, ascending -/
def sigs : List Nat → List Nat
  | [] => []
  | c :: r => ins c (sigs r)
theorem mem_ins (c k : Nat) : ∀ l : List Nat, k ∈ ins c l ↔ k = c ∨ k ∈ l
  | [] => by simp [ins]
  | d :: r => by
    unfold ins
    split
    · simp
    · split
      · rename_i _ e
        subst e
        simp
      · simp only [List.mem_cons, mem_ins c k r]
        exact ⟨fun h => h.elim (fun e => .inr (.inl e)) (fun h => h.elim .inl fun h => .inr (.inr h)), fun h => h.elim (fun e => .inr (.inl e)) fun h => h.elim .inl fun h => .inr (.inr h)⟩
theorem mem_sigs (k : Nat) : ∀ l : List Nat, k ∈ sigs l ↔ k ∈ l
  | [] => Iff.rfl
  | c :: r => by rw [sigs, mem_ins, mem_sigs k r, List.mem_cons]
theorem asc_ins (c : Nat) : ∀ l : List Nat, l.Pairwise (· < ·) → (ins c l).Pairwise (· < ·)
  | [], _ => List.pairwise_singleton ..
  | d :: r, h => by
    have ⟨h1, h2⟩ := List.pairwise_cons.mp h
    unfold ins
    split
    · rename_i q
      exact List.pairwise_cons.mpr ⟨fun y hy => by
        rcases List.mem_cons.mp hy with z | z
        · omega
        · have := h1 y z
          omega, h⟩
    · split
      · exact h
      · refine List.pairwise_cons.mpr ⟨fun y hy => ?_, asc_ins c r h2⟩
        rcases (mem_ins c y r).mp hy with z | z
        · omega
        · exact h1 y z
theorem asc_sigs : ∀ l : List Nat, (sigs l).Pairwise (· < ·)
  | [] => List.Pairwise.nil
  | c :: r => asc_ins c _ (asc_sigs r)
theorem asc_eq : ∀ l m : List Nat, l.Pairwise (· < ·) → m.Pairwise (· < ·) → (∀ k, k ∈ l ↔ k ∈ m) → l = m
  | [], [], _, _, _ => rfl
  | [], d :: m, _, _, h => absurd ((h d).mpr List.mem_cons_self) (by simp)
  | c :: l, [], _, _, h => absurd ((h c).mp List.mem_cons_self) (by simp)
  | c :: l, d :: m, hl, hm, h => by
    obtain ⟨l1, l2⟩ := List.pairwise_cons.mp hl
    obtain ⟨m1, m2⟩ := List.pairwise_cons.mp hm
    have e : c = d := by
      rcases List.mem_cons.mp ((h c).mp List.mem_cons_self) with z | z
      · exact z
      · rcases List.mem_cons.mp ((h d).mpr List.mem_cons_self) with y | y
        · exact y.symm
        · have := l1 d y
          have := m1 c z
          omega
    subst e
    rw [asc_eq l m l2 m2 fun k => ?_]
    constructor
    · intro hk
      rcases List.mem_cons.mp ((h k).mp (List.mem_cons_of_mem _ hk)) with z | z
      · have := l1 k hk
        omega
      · exact z
    · intro hk
      rcases List.mem_cons.mp ((h k).mpr (List.mem_cons_of_mem _ hk)) with z | z
      · have := m1 k hk
        omega
      · exact z
/-- a text of one sign -/
abbrev sg (c : Nat) : Str := ⟨#[c]⟩
def hd1 (x : Str) : Nat := x.cps.toList.headD 0
theorem sg_inj {a b : Nat} (h : sg a = sg b) : a = b := congrArg hd1 h
theorem lt_sg (a b : Nat) : ltCps (sg a).cps.toList (sg b).cps.toList = decide (a < b) := by
  rw [ltCps_eq]
  show decide ([a] < [b]) = decide (a < b)
  by_cases h : a < b
  · rw [decide_eq_true h, decide_eq_true]
    exact List.Lex.rel h
  · rw [decide_eq_false h, decide_eq_false]
    intro q
    cases q with
    | rel r => exact h r
    | cons r => cases r
theorem rising_le : ∀ (l : List Nat) (p : Nat), risingS (sg p) (l.map sg) = true → (p :: l).Pairwise (· ≤ ·)
  | [], p, _ => List.pairwise_singleton ..
  | c :: l, p, h => by
    have h' : (!ltCps (sg c).cps.toList (sg p).cps.toList && risingS (sg c) (l.map sg)) = true := h
    rw [Bool.and_eq_true, lt_sg, Bool.not_eq_true', decide_eq_false_iff_not] at h'
    have ih := rising_le l c h'.2
    obtain ⟨i1, _⟩ := List.pairwise_cons.mp ih
    refine List.pairwise_cons.mpr ⟨fun y hy => ?_, ih⟩
    rcases List.mem_cons.mp hy with z | z
    · omega
    · have := i1 y z
      omega
theorem sorted_le (l : List Nat) (h : sortedS (l.map sg) = true) : l.Pairwise (· ≤ ·) := by
  cases l with
  | nil => exact List.Pairwise.nil
  | cons p r => exact rising_le r p h
theorem lt_of_le : ∀ l : List Nat, l.Pairwise (· ≤ ·) → l.Nodup → l.Pairwise (· < ·)
  | [], _, _ => .nil
  | x :: l, .cons up rest, .cons new once => .cons (fun y at_y => Nat.lt_of_le_of_ne (up y at_y) (new y at_y)) (lt_of_le l rest once)
theorem all_sg : ∀ l : List Str, (∀ x ∈ l, ∃ c, x = sg c) → l = (l.map hd1).map sg
  | [], _ => rfl
  | x :: l, h => by
    obtain ⟨c, rfl⟩ := h x List.mem_cons_self
    rw [List.map_cons, List.map_cons, ← all_sg l fun y hy => h y (List.mem_cons_of_mem _ hy)] <;> rfl
theorem sorted_is {ss : List Str} {l : List Nat} (hs : sortedS ss = true) (hn : ss.Nodup) (hm : ∀ k, k ∈ ss ↔ ∃ z ∈ l, k = sg z) : ss = (sigs l).map sg := by
  have e := all_sg ss fun x hx => let ⟨z, _, q⟩ := (hm x).mp hx; ⟨z, q⟩
  have hn2 : (ss.map hd1).Nodup := by
    rw [e] at hn
    exact (List.pairwise_map.mp hn).imp fun h q => h (by rw [q])
  have hs2 : sortedS ((ss.map hd1).map sg) = true := by rw [← e]; exact hs
  have q : ss.map hd1 = sigs l := by
    refine asc_eq _ _ (lt_of_le _ (sorted_le _ hs2) hn2) (asc_sigs l) fun k => ?_
    rw [mem_sigs, List.mem_map]
    constructor
    · rintro ⟨x, hx, rfl⟩
      obtain ⟨z, hz, rfl⟩ := (hm x).mp hx
      exact hz
    · intro hk
      exact ⟨sg k, (hm _).mpr ⟨k, hk, rfl⟩, rfl⟩
  rw [e, q]
theorem len_sigs (l : List Nat) : (sigs l).length ≤ l.length := by
  induction l with
  | nil => exact Nat.le_refl _
  | cons c r ih =>
    have h : ∀ m : List Nat, (ins c m).length ≤ m.length + 1 := by
      intro m
      induction m with
      | nil => exact Nat.le_refl _
      | cons d m ih2 =>
        unfold ins
        split
        · simp
        · split
          · simp
          · simp only [List.length_cons]
            omega
    show (ins c (sigs r)).length ≤ r.length + 1
    have := h (sigs r)
    omega
section
variable {P : Program} {w : World} {A : Around} {E : Value → Shared → Prop} {s : Shared} {a : Addr}
/-- sorted(the set of the signs of x): its signs, rising -/
theorem sorted_set {x : Str} {T : Str → Bool} {n : Nat} {Q : Value → Shared → Prop} (R : HasX w s.heap a T n) (hT : ∀ k, T k = x.cps.toList.any fun z => decide (k = ⟨#[z]⟩)) (calm : A.handled = none) (h64 : n < 64)
    (hQ : ∀ r p (out : Array Value) (c : Nat), (∀ b q, s.heap.get? b = some q → r.heap.get? b = some q) → r.gens = s.gens → r.os = s.os → s.heap.objs.size ≤ p →
      r.heap.get? p = some (seqObj "list" out c) → StrsAre out.toList ((sigs x.cps.toList).map sg) → Q (.ref p) r) : wpAny (model P w) A (call (.builtin "sorted") [.ref a]) Q E s := by
  obtain ⟨o, es, ep, t, ob, ex, dat, sz, F⟩ := R
  refine Calls.call_function_entry kind_sorted plain_sorted entry_sorted (args_sorted1 _) (wpAny_bind (m := checkCount "sorted" 1 1 _) (wpAny_pure (wpAny_bind ?_)))
  refine collect_set (A := A.in1) calm ⟨o, ob, ex.1, dat⟩ F.fit F.few F.ris F.led.symm fun r vs keep grows gens os perm => ?_
  have count : vs.length = n := by rw [← sz, perm.length_eq, List.length_map, Array.length_toList]
  have texts : StrsAre vs (vs.map strOf) := strsAre_map vs fun v at_v =>
    let ⟨e, at_e, q⟩ := List.mem_map.mp (perm.mem_iff.mp at_v)
    let ⟨k, tk, isStr, _⟩ := F.good e at_e
    ⟨k, tk, q ▸ isStr⟩
  have perm2 : (vs.map strOf).Perm (es.toList.map txOf) := by have := perm.map strOf; rw [List.map_map] at this; exact this
  refine wpAny_bind (wpAny_newList (wpAny_bind ?_) (by have := count; rw [sizeLine_eq]; omega))
  have listAt : (r.heap.push (seqObj "list" vs.toArray 0)).get? r.heap.objs.size = some (seqObj "list" vs.toArray 0) := Heap.get?_push_size _ rfl
  refine wpAny_holding (wpAny_call_entry slot_list_sort ⟨_, listAt, rfl⟩ entry_list_sort (list_sort_treeK (κ := PyProof.Rows.strKind) strKind_oneLt listAt texts.keysOf (fun v₁ v₂ rest e => keyKind_strs (e ▸ texts)) (by omega) fun st done isSorted => ⟨_, rfl, wpAny_pure ⟨_, rfl, ?_⟩⟩) (args_list_sort _))
  obtain ⟨ss, are, perm3, up⟩ := sorted_out_str texts done isSorted
  obtain ⟨c, outAt⟩ := sortedHeap_at (vs := vs) (out := (arrOf st).map (·.2)) listAt
  have all : ss.Perm (es.toList.map txOf) := perm3.trans perm2
  have eq : ss = (sigs x.cps.toList).map sg := sorted_is up (all.nodup_iff.mpr F.once) fun k => by
    rw [all.mem_iff, ← F.mem k, hT k, List.any_eq_true]
    exact ⟨fun ⟨z, at_z, e⟩ => ⟨z, at_z, of_decide_eq_true e⟩, fun ⟨z, at_z, e⟩ => ⟨z, at_z, decide_eq_true e⟩⟩
  refine hQ _ r.heap.objs.size _ c (fun b q at_b => ?_) gens os grows outAt (eq ▸ are)
  have below := Heap.lt_size (keep b q at_b)
  exact (sortedHeap_old (Nat.ne_of_lt below) (by rw [size_push']; exact Nat.lt_succ_of_lt below)).trans (Heap.get?_push_of_some _ (keep b q at_b))
end
/-- the set of the signs of x at a -/
def SetO (w : World) (a : Addr) (x : Str) : HO := .ext fun h => ∃ T n, HasX w h a T n ∧ n ≤ x.cps.size ∧ ∀ k, T k = x.cps.toList.any fun z => decide (k = ⟨#[z]⟩)
theorem setO_new {P : Program} {w : World} {H : Hp} {h : Heap} {a : Addr} {x : Str} {T : Str → Bool} {n : Nat} (R : HasX w h a T n) (hn : n ≤ x.cps.size) (hT : ∀ k, T k = x.cps.toList.any fun z => decide (k = ⟨#[z]⟩)) : ObjOk P w H h a (SetO w a x) := by
  refine ⟨⟨T, n, R, hn, hT⟩, ?_, fun h1 h2 p k => ?_⟩
  · exact let ⟨o, _, _, _, r⟩ := R; ⟨o, r.ob⟩
  · obtain ⟨T', n', R', q⟩ := p
    exact ⟨T', n', R'.at k, q⟩
theorem vals_strs : ∀ {vs : List Value} {ss : List Str}, StrsAre vs ss → Vals (ss.map V.str) vs
  | _, _, .nil => .nil
  | _, _, .cons x t r => .cons ⟨t, rfl⟩ (vals_strs r)
section
variable {X : Cx}
def rSetX (w : World) : List V → Hp → VK → Prop := fun xs H Q => ∃ x : Str, xs = [V.str x] ∧ x.cps.size < 64 ∧ ∀ a o, H a = none → o = SetO w a x → Q (.ref a) (upd H a o)
theorem call_setX (hc : X.calm = true) : CallR X (.type "set") (rSetX X.w) := by
  rintro pins s σ H _ us Q I r ⟨x, rfl, hx, q⟩
  rcases vals1 r with ⟨_, rfl, t, rfl⟩
  refine call_set (P := X.prog) (w := X.w) (I.ok.hd hc) (by unfold scanBound; omega) fun h' tk T c r1 r2 r3 k => ?_
  exact ⟨.ref s.heap.objs.size, upd H s.heap.objs.size (SetO X.w s.heap.objs.size x), I.laid (t' := tk) k (Nat.le_refl _) (setO_new r1 r2 r3), rfl, q _ _ (I.hok.fresh (Nat.le_refl _)) rfl⟩
def rSortX (w : World) : List V → Hp → VK → Prop := fun xs H Q => ∃ (a : Addr) (x : Str) (o : HO), xs = [V.ref a] ∧ H a = some o ∧ o = SetO w a x ∧ x.cps.size < 64 ∧ ∀ p, H p = none → Q (.ref p) (upd H p (.lst ((sigs x.cps.toList).map fun c => V.str (sg c))))
theorem cr_sortX (hc : X.calm = true) : CallR X (.builtin "sorted") (rSortX X.w) := by
  rintro pins s σ H _ us Q I r ⟨a, x, _, rfl, ha, rfl, hx, q⟩
  obtain ⟨T, n, R, hn, hT⟩ := (I.hok a _ ha).1
  rw [Vals.ref1 r]
  refine sorted_set (x := x) R hT (I.ok.hd hc) (by omega) fun s' p out c k g o hp hg hS => ?_
  have hlen : ((sigs x.cps.toList).map fun c => V.str (sg c)).length ≤ sizeLine := by
    have h1 : (sigs x.cps.toList).length ≤ x.cps.toList.length := len_sigs _
    have h2 : x.cps.toList.length = x.cps.size := Array.length_toList
    have h3 := sizeLine_eq
    rw [List.length_map]
    omega
  have free : H p = none := I.hok.fresh hp
  have hv : Vals ((sigs x.cps.toList).map fun c => V.str (sg c)) out.toList := by
    have := vals_strs hS
    rw [List.map_map] at this
    exact this
  have J : Inv X pins σ (upd H p (.lst ((sigs x.cps.toList).map fun c => V.str (sg c)))) { s with heap := s'.heap, gens := s'.gens, drawn := s'.drawn, toks := s'.toks } :=
    I.call (ch := []) (Un.laid k hp free) (I.hok.laid k hp ⟨hlen, _, c, hv, hg⟩) (g ▸ I.bare) nofun
  have same : { s with heap := s'.heap, gens := s'.gens, drawn := s'.drawn, toks := s'.toks } = s' := by
    rcases s with ⟨⟩; rcases s' with ⟨⟩; cases o; rfl
  exact same ▸ ⟨.ref p, _, J, rfl, q p free⟩
/-- list(text) -/
theorem vals_signs {x : Str} : ∀ (l : List Value) (cs : List Nat), l.length = cs.length → (∀ (i : Nat) (v : Value), l[i]? = some v → ∃ (c : Nat) (u : Tok), cs[i]? = some c ∧ v = Value.str ⟨#[c]⟩ u) → Vals (cs.map fun c => V.str (sg c)) l
  | [], [], _, _ => .nil
  | v :: l, c :: cs, h, q => by
    obtain ⟨c', u, e1, e2⟩ := q 0 v rfl
    have e3 : c = c' := Option.some.inj e1
    subst e3
    exact .cons ⟨u, e2⟩ (vals_signs (x := x) l cs (Nat.succ.inj h) fun i v' e => q (i + 1) v' e)
  | [], _ :: _, h, _ => nomatch h
  | _ :: _, [], h, _ => nomatch h
theorem call_listX (hc : X.calm = true) : CallR X (.type "list") (fun xs H Q => ∃ x : Str, xs = [V.str x] ∧ x.cps.size ≤ sizeLine ∧ ∀ l, H l = none → Q (.ref l) (upd H l (.lst (x.cps.toList.map fun c => V.str (sg c))))) := by
  rintro pins s σ H _ us Q I r ⟨x, rfl, hx, q⟩
  rcases vals1 r with ⟨_, rfl, t, rfl⟩
  refine call_list_str (I.ok.hd hc) x t (fun h' tk acc c k hS hacc => ?_) hx
  have hlen : (x.cps.toList.map fun c => V.str (sg c)).length ≤ sizeLine := by
    have h2 : x.cps.toList.length = x.cps.size := Array.length_toList
    rw [List.length_map, h2]
    exact hx
  have hv : Vals (x.cps.toList.map fun c => V.str (sg c)) acc.toList := by
    refine vals_signs (x := x) _ _ (by rw [Array.length_toList, hacc.1, Array.length_toList]) fun i v e => ?_
    rw [Array.getElem?_toList] at e
    obtain ⟨c, u, h1, h2⟩ := hacc.2 i v e
    exact ⟨c, u, by rw [Array.getElem?_toList]; exact h1, h2⟩
  exact ⟨.ref s.heap.objs.size, _, I.laid (t' := tk) k (Nat.le_refl _) (show ObjOk X.prog X.w _ h' _ (.lst _) from ⟨hlen, acc.toList, c, hv, hS⟩), rfl, q _ (I.hok.fresh (Nat.le_refl _))⟩
end
end TX
set_option Elab.async false
set_option linter.all false
set_option maxRecDepth 100000
set_option maxHeartbeats 4000000
namespace K1
abbrev W := List Nat
/-- the words of just k letters, and of at most k -/
def lay (L : W) : Nat → List W
  | 0 => [[]]
  | k + 1 => (lay L k).flatMap fun u => L.map fun c => u ++ [c]
def allW (L : W) : Nat → List W
  | 0 => [[]]
  | k + 1 => allW L k ++ lay L (k + 1)
/-- what is left behind the first c -/
def after (c : Nat) : W → Option W
  | [] => none
  | d :: r => if d = c then some r else after c r
/-- what is left behind the first place of a piece -/
def rest : W → W → Option W
  | [], w => some w
  | a :: u, w => (after a w).bind (rest u)
def isP (u w : W) : Bool := (rest u w).isSome
/-- what is left of a word, by the law's walk -/
def lp : W → W → W
  | u, [] => u
  | [], _ :: _ => []
  | a :: u, c :: w => if a = c then lp u w else lp (a :: u) w
/-- the pieces of just k letters, each with what is left behind it -/
def pl (S w : W) : Nat → List (W × W)
  | 0 => [([], w)]
  | k + 1 => (pl S w k).flatMap fun p => S.filterMap fun c => (after c p.2).map fun r => (p.1 ++ [c], r)
/-- the pieces of a word, as it is told -/
def told (w : W) (m : Nat) : List W := (allW (TX.sigs w) m).filter fun u => isP u w
/-- the place behind the first c from e on -/
def nx (w : W) (c e : Nat) : Option Nat := (after c (w.drop e)).map fun r => w.length - r.length
end K1
set_option Elab.async false
set_option linter.all false
set_option maxRecDepth 100000
set_option maxHeartbeats 4000000
namespace K1
open PySem PySem.Spec PyProof.Rows L2
open TX (sg sigs)
/-- the text of a word -/
def tx (w : W) : Str := ⟨w.toArray⟩
theorem tx_of (x : Str) : tx x.cps.toList = x := by
  unfold tx
  rw [Array.toArray_toList]
theorem tx_list (w : W) : (tx w).cps.toList = w := by
  show w.toArray.toList = w
  rw [List.toList_toArray]
theorem tx_inj {u v : W} (h : tx u = tx v) : u = v := by
  have := congrArg (fun x : Str => x.cps.toList) h
  simpa [tx_list] using this
theorem tx_len (w : W) : (tx w).length = w.length := by
  show w.toArray.size = w.length
  rw [List.size_toArray]
theorem tx_app (u v : W) : tx u ++ tx v = tx (u ++ v) := by
  show (⟨u.toArray ++ v.toArray⟩ : Str) = ⟨(u ++ v).toArray⟩
  rw [List.append_toArray]
theorem join_eq0 (ps : List W) : Txt.join (tx []) (ps.map tx) = tx ps.flatten := by
  rw [TL.join_eq]
  have h := TL.tl_join (tx []) (ps.map tx)
  have e : ∀ qs : List (List Nat), TL.joinL [] qs = qs.flatten := by
    intro qs
    induction qs with
    | nil => rfl
    | cons p r ih =>
      cases r with
      | nil => simp [TL.joinL]
      | cons q r => simp [TL.joinL] at ih ⊢; exact ih
  have e1 : TL.tl (tx []) = [] := rfl
  rw [e1, e, List.map_map] at h
  have e2 : (TL.tl ∘ tx) = (id : W → W) := by
    funext u
    exact tx_list u
  rw [e2, List.map_id] at h
  have h2 : (Str.join (tx []) (ps.map tx)).cps.toList = ps.flatten := h
  rw [← tx_of (Str.join (tx []) (ps.map tx)), h2]
theorem count_tx (w : W) (c : Nat) : Txt.count (tx w) (sg c) = (w.count c : Int) := by
  rw [count_is, tx_list]
  show cnt c w = _
  induction w with
  | nil => rfl
  | cons d w ih =>
    rw [cnt_cons, ih, List.count_cons]
    by_cases h : d = c
    · subst h
      simp
      omega
    · simp [h]
/-- the letters a to z -/
def Low (w : W) : Prop := ∀ c ∈ w, 97 ≤ c ∧ c ≤ 122
theorem uni : ∀ k : Fin 26, Unicode.isAlpha (97 + k.val) = true ∧ Unicode.isLower (97 + k.val) = true ∧ Unicode.isUpper (97 + k.val) = false ∧ Unicode.isTitle (97 + k.val) = false := by decide +kernel
theorem uni_low {c : Nat} (h : 97 ≤ c ∧ c ≤ 122) : Unicode.isAlpha c = true ∧ Unicode.isLower c = true ∧ Unicode.isUpper c = false ∧ Unicode.isTitle c = false := by
  have := uni ⟨c - 97, by omega⟩
  have e : 97 + (c - 97) = c := by omega
  simp only [e] at this
  exact this
theorem low_facts {w : W} (h : Low w) (hne : w ≠ []) : Txt.isascii (tx w) = true ∧ Txt.isalpha (tx w) = true ∧ Txt.islower (tx w) = true := by
  refine ⟨?_, ?_, ?_⟩
  · show (w.toArray).all _ = true
    rw [List.all_toArray, List.all_eq_true]
    intro c hc
    have := h c hc
    simp only [decide_eq_true_eq]
    omega
  · show ((decide ((tx w).length > 0)) && (w.toArray).all _) = true
    rw [List.all_toArray, tx_len, Bool.and_eq_true]
    refine ⟨decide_eq_true (List.length_pos_iff.mpr hne), ?_⟩
    rw [List.all_eq_true]
    exact fun c hc => (uni_low (h c hc)).1
  · show ((w.toArray).any _ && !(w.toArray).any _) = true
    rw [List.any_toArray, List.any_toArray, Bool.and_eq_true]
    constructor
    · rw [List.any_eq_true]
      obtain ⟨c, r, rfl⟩ : ∃ c r, w = c :: r := by
        cases w with
        | nil => exact absurd rfl hne
        | cons c r => exact ⟨c, r, rfl⟩
      exact ⟨c, List.mem_cons_self, (uni_low (h c List.mem_cons_self)).2.1⟩
    · rw [Bool.not_eq_true', List.any_eq_false]
      intro c hc
      have := uni_low (h c hc)
      rw [this.2.2.1, this.2.2.2]
      exact Bool.false_ne_true
section
variable {X : Cx}
/-- text * int -/
theorem op_mulS : OpR X (binaryOp .Mult) (fun x y H Q => ∃ (z : Str) (n : Int), x = .str z ∧ y = .int n ∧ MulOk z n ∧ Q (.str (Txt.mul z n)) H) := by
  rintro pins s σ H _ _ _ _ Q I rx ry ⟨z, n, rfl, rfl, hk, q⟩
  obtain ⟨t, rfl⟩ := rx
  obtain ⟨t', rfl⟩ := ry
  exact PySem.SB.mul hk fun t2 k => ⟨.str _, H, I.tok _, ⟨t2, rfl⟩, q⟩
end
end K1
set_option Elab.async false
set_option linter.all false
set_option maxRecDepth 100000
set_option maxHeartbeats 8000000
namespace WK
open PySem L2 PyProof.Rows K1
open TX (sg sigs)
open PySem.W (Frag kitOne)
/-- a def of the module by its name -/
structure Fn (K : Frag) (mg : Str → Option Value) (nm : Str) (st : Stmt) (ps : List Str) (f : Addr) (fd : FuncData) : Prop where
  g : mg nm = some (.ref f)
  F : Fun K nm nm st f fd
  b : L2.Binds K fd ps []
structure TN (mg : Str → Option Value) : Prop where
  len : mg "len" = none
  int : mg "int" = none
  abs : mg "abs" = none
  isi : mg "isinstance" = none
  bool : mg "bool" = none
  str : mg "str" = none
  all : mg "all" = none
  rng : mg "range" = none
  sorted : mg "sorted" = none
  set : mg "set" = none
  tuple : mg "tuple" = none
  list : mg "list" = none
  max : mg "max" = none
  min : mg "min" = none
  zip : mg "zip" = none
  most : ∃ t, mg "MAX_LETTERS" = some (.int 3 t)
theorem TN.dice {mg : Str → Option Value} (T : TN mg) : TDice mg := ⟨T.len, T.int, T.abs⟩
abbrev sIsInt : Stmt := top 23
abbrev sIsNum : Stmt := top 24
abbrev sNeedNum : Stmt := top 25
abbrev sAsc : Stmt := top 27
abbrev sIsLet : Stmt := top 33
abbrev sIsWord : Stmt := top 34
abbrev sIsOver : Stmt := top 35
abbrev sNeedLet : Stmt := top 36
abbrev sNeedWord : Stmt := top 37
abbrev sNeedOver : Stmt := top 38
theorem same_upd {H : Hp} {p : Addr} {o : HO} (h : H p = none) : Same H (upd H p o) := fun b u e => by rw [upd_ne (ne_of_none e h)]; exact e
theorem same_at {H H1 : Hp} {p : Addr} {o : HO} (s : Same H H1) (h : H p = none) : Same H (upd H1 p o) := fun b u e => by rw [upd_ne (ne_of_none e h)]; exact s b u e
theorem same_two {H H1 : Hp} {p : Addr} {o : HO} (s : Same H H1) (h : H1 p = none) : Same H (upd H1 p o) := s.trans (same_upd h)
theorem pe_ty {X : Cx} {x : Str} {pos : Pos} (n : String) (hm : X.mg x = none) (hv : bootBuiltins x = some (.type n)) (hg : Gl X x := by rfl) (hn : x ≠ "__name__" := by decide) (hd : (x == ("__debug__" : Str)) = false := by decide) : PE X (.Name x pos) (tC (.ty n)) := pe_bltn hg hm hv rfl hn hd
/-- a set of letters: one to three, ascending, of a to z -/
structure Let (L : W) : Prop where
  low : Low L
  asc : L.Pairwise (· < ·)
  ne : L ≠ []
  few : L.length ≤ 3
/-- what is told of a text: whether it is a word -/
def wordB (x : Str) : Bool := if x = "" then true else if Txt.isascii x = true then if Txt.isalpha x = true then Txt.islower x else false else false
theorem wordB_low {w : W} (h : Low w) : wordB (tx w) = true := by
  unfold wordB
  by_cases e : tx w = ""
  · rw [if_pos e]
  · rw [if_neg e]
    have hne : w ≠ [] := fun z => e (by rw [z] <;> rfl)
    obtain ⟨h1, h2, h3⟩ := low_facts h hne
    rw [if_pos h1, if_pos h2, h3]
def ascB (w : W) : Bool := decide (w.Pairwise (· < ·))
def letB (x : Str) : Bool := wordB x && (decide (1 ≤ x.length) && decide (x.length ≤ 3)) && ascB x.cps.toList
theorem letB_let {L : W} (h : Let L) : letB (tx L) = true := by
  unfold letB
  rw [wordB_low h.low, tx_len, tx_list]
  have h1 : ascB L = true := decide_eq_true h.asc
  have h2 := List.length_pos_iff.mpr h.ne
  rw [h1, decide_eq_true (show 1 ≤ L.length from h2), decide_eq_true h.few] <;> rfl
def spIsNum : Sp := fun vs H Q _ => ∃ i a b : Int, vs = [.int i, .int a, .int b] ∧ Q (.bl (decide (a ≤ i) && decide (i ≤ b))) H
def spNeedNum : Sp := fun vs H Q _ => ∃ i a b : Int, vs = [.int i, .int a, .int b] ∧ a ≤ i ∧ i ≤ b ∧ Q .non H
def spAsc : Sp := fun vs H Q _ => ∃ w : W, vs = [.str (tx w)] ∧ w ≠ [] ∧ w.length ≤ 1000 ∧ ∀ H', Same H H' → Q (.bl (ascB w)) H'
/-- no text -/
def NoText (K : Frag) (H : Hp) (v : V) : Prop := ∃ t, TyX K H v (.type t) ∧ PySem.W.kitOne K (.type t) (.type "str") = some false
def spIsWord (K : Frag) : Sp := fun vs H Q _ => ∃ v, vs = [v] ∧ ((∃ x, v = .str x ∧ Q (.bl (wordB x)) H) ∨ (NoText K H v ∧ Q (.bl false) H))
def spIsLet (K : Frag) : Sp := fun vs H Q _ => ∃ v, vs = [v] ∧ ((∃ x : Str, v = .str x ∧ x.length ≤ 1000 ∧ ∀ H', Same H H' → Q (.bl (letB x)) H') ∨ (NoText K H v ∧ Q (.bl false) H))
section
variable {P : Program} {w : World} {K : PySem.W.Frag} {mg : Str → Option Value} {base : Heap}
theorem scII : FnScope ["value"] ["value"] (defScope sIsInt) := ⟨rfl, rfl, rfl, by decide +kernel, rfl, by decide +kernel, by decide +kernel⟩
def spIsInt : Sp := fun vs H Q _ => ∃ i : Int, vs = [.int i] ∧ Q (.bl true) H
theorem ok_isint {f : Addr} {fd : FuncData} (F : Fun K "is_integer" "is_integer" sIsInt f fd) (T : TN mg) : FnOk P w K mg base CX0 1 f fd ["value"] spIsInt := by
  refine F.ok scII (fun vs H Q E h => ?_) (fun cdv A outer s H vs Q E hr h => ?_)
  · obtain ⟨i, rfl, _⟩ := h
    rfl
  · obtain ⟨i, rfl, q⟩ := h
    refine ⟨_, pss_one (ps_ret (pe_and (pe_callB call_isi (by rfl) T.isi (by decide +kernel) (pa_cons (pv 0) (pa_cons (pe_ty "int" T.int (by decide +kernel)) pa_nil)))
      (pe_one (pe_not (pe_callB call_isi (by rfl) T.isi (by decide +kernel) (pa_cons (pv 0) (pa_cons (pe_ty "bool" T.bool (by decide +kernel)) pa_nil))))))), ?_⟩
    refine ⟨_, rfl, _, _, _, _, true, rfl, .ty "int", .base (.int _), kit_ty (by decide +kernel), true, rfl, ?_⟩
    exact ⟨_, rfl, _, _, _, _, false, rfl, .ty "bool", .base (.int _), kit_ty (by decide +kernel), false, rfl, q⟩
theorem scIN : FnScope ["value", "least", "most"] ["value", "least", "most"] (defScope sIsNum) := ⟨rfl, rfl, rfl, by decide +kernel, rfl, by decide +kernel, by decide +kernel⟩
theorem ok_isnum {f g : Addr} {fd gd : FuncData} (F : Fun K "is_number" "is_number" sIsNum f fd) (T : TN mg) (A0 : Fn K mg "is_integer" sIsInt ["value"] g gd) : FnOk P w K mg base CX0 2 f fd ["value", "least", "most"] spIsNum := by
  have G0 : FnOk P w K mg base CX0 1 g gd ["value"] spIsInt := ok_isint A0.F T
  refine F.ok scIN (fun vs H Q E h => ?_) (fun cdv A outer s H vs Q E hr h => ?_)
  · obtain ⟨i, a, b, rfl, _⟩ := h
    rfl
  · obtain ⟨i, a, b, rfl, q⟩ := h
    refine ⟨_, pss_one (ps_ret (pe_and (pe_call G0 hr rfl A0.g A0.F.kp A0.b .nil pass0 (pa_cons (pv 0) pa_nil)) (pe_one (pe_chain op_le op_le (pv 1) (pv 0) (pv 2))))), ?_⟩
    refine ⟨_, rfl, i, rfl, true, rfl, ?_⟩
    refine ⟨_, rfl, _, rfl, _, _, rfl, rfl, _, rfl, ?_⟩
    by_cases h1 : a ≤ i
    · rw [decide_eq_true h1] at q ⊢
      exact ⟨_, rfl, _, _, rfl, rfl, q⟩
    · rw [decide_eq_false h1] at q ⊢
      exact q
theorem scNN : FnScope ["value", "least", "most"] ["value", "least", "most"] (defScope sNeedNum) := ⟨rfl, rfl, rfl, by decide +kernel, rfl, by decide +kernel, by decide +kernel⟩
theorem ok_neednum {f g e : Addr} {fd gd ed : FuncData} (F : Fun K "need_number" "need_number" sNeedNum f fd) (T : TN mg) (A0 : Fn K mg "is_integer" sIsInt ["value"] e ed) (A1 : Fn K mg "is_number" sIsNum ["value", "least", "most"] g gd) : FnOk P w K mg base CX0 3 f fd ["value", "least", "most"] spNeedNum := by
  have G1 : FnOk P w K mg base CX0 2 g gd _ spIsNum := ok_isnum A1.F T A0
  refine F.ok scNN (fun vs H Q E h => ?_) (fun cdv A outer s H vs Q E hr h => ?_)
  · obtain ⟨i, a, b, rfl, _⟩ := h
    rfl
  · obtain ⟨i, a, b, rfl, h1, h2, q⟩ := h
    refine ⟨_, pss_one (ps_if (pt_not (pt_val (pe_call G1 hr rfl A1.g A1.F.kp A1.b .nil pass0 (pa_cons (pv 0) (pa_cons (pv 1) (pa_cons (pv 2) pa_nil)))))) (pss_one ps_never) pss_nil), ?_⟩
    refine ⟨_, rfl, _, rfl, _, rfl, _, _, _, rfl, _, rfl, ?_⟩
    rw [decide_eq_true h1, decide_eq_true h2]
    exact q
theorem scAs : FnScope ["values", "at"] ["values"] (defScope sAsc) := ⟨rfl, rfl, rfl, by decide +kernel, rfl, by decide +kernel, by decide +kernel⟩
theorem lt_one (a b : Nat) : decide ((sg a).cps.toList < (sg b).cps.toList) = decide (a < b) := by
  rw [← ltCps_eq, TX.lt_sg]
/-- each less than the next -/
def adj (w : W) (i : Nat) : Bool := decide (w.getD i 0 < w.getD (i + 1) 0)
theorem adj_asc : ∀ (w : W), w ≠ [] → ((List.range (w.length - 1)).map (adj w)).all id = ascB w
  | [], h => absurd rfl h
  | [a], _ => by simp [ascB]
  | a :: b :: r, _ => by
    have ih := adj_asc (b :: r) (by simp)
    have e : (a :: b :: r).length - 1 = (b :: r).length - 1 + 1 := by simp
    rw [e, List.range_succ_eq_map, List.map_cons, List.all_cons, List.map_map]
    have e2 : (adj (a :: b :: r) ∘ Nat.succ) = adj (b :: r) := by
      funext i
      rfl
    rw [e2, ih]
    show (decide (a < b) && ascB (b :: r)) = ascB (a :: b :: r)
    unfold ascB
    rw [← Bool.decide_and]
    apply decide_eq_decide.mpr
    rw [List.pairwise_cons (a := a)]
    constructor
    · rintro ⟨h1, h2⟩
      refine ⟨fun y hy => ?_, h2⟩
      rcases List.mem_cons.mp hy with z | z
      · omega
      · have := (List.pairwise_cons.mp h2).1 y z
        omega
    · rintro ⟨h1, h2⟩
      exact ⟨h1 b List.mem_cons_self, h2⟩
theorem ok_asc {f : Addr} {fd : FuncData} (F : Fun K "ascends" "ascends" sAsc f fd) (T : TN mg) : FnOk P w K mg base CX0 1 f fd ["values"] spAsc := by
  refine F.ok scAs (fun vs H Q E h => ?_) (fun cdv A outer s H vs Q E hr h => ?_)
  · obtain ⟨w, rfl, _⟩ := h
    rfl
  · obtain ⟨w, rfl, hne, hl, q⟩ := h
    have hpos := List.length_pos_iff.mpr hne
    refine ⟨_, pss_one (ps_ret (pe_callB (cr_all rfl) (by rfl) T.all (by decide +kernel) (pa_cons (pe_lc (own := [("at", 1)]) (g := gName 1) (tt := tYes) rfl scAs.nd
      (pi_range1 rfl T.rng (pa_cons (pe_op op_sub (pe_callB call_len_str (by rfl) T.len PySem.boot_len (pa_cons (pv 0) pa_nil)) pe_int) pa_nil))
      (blkOk_by (own := [("at", 1)]) (N := ["values", "at"]) (sc := defScope sAsc) (by decide +kernel)) (fun _ _ _ _ _ => pg_name (i := 1) scAs.nd rfl (Or.inl rfl)) (fun _ _ _ _ _ => pts_nil)
      (fun _ _ _ _ _ => pe_cmpR op_lt_str (pe_ix ix_str (pv 0) (pv 1) (fun _ _ => rfl)) (pe_ix ix_str (pv 0) (pe_op op_add (pv 1) pe_int) (fun _ _ => rfl)) (nomark _))) pa_nil))), ?_⟩
    refine ⟨_, rfl, _, rfl, ?_, _, _, rfl, rfl, _, rfl, ?_, ?_, fun D hD => ?_⟩
    · rw [tx_len, sizeLine_eq]; omega
    · rw [tx_len]; omega
    · rw [tx_len]; omega
    · rw [tx_len]
      have e1 : ((w.length : Int) - 1) = ((w.length - 1 : Nat) : Int) := by omega
      rw [e1]
      refine lc_range (lo := 0) (n := w.length - 1) (fun i H1 => Same H H1 ∧ H1 D = some (.lst (((List.range i).map (adj w)).map V.bl))) ?_ ?_ ?_
      · exact ⟨same_upd hD, upd_same⟩
      · rintro i H1 hi ⟨s1, hd⟩
        have hz : (tx w).length ≤ sizeLine := by rw [tx_len, sizeLine_eq]; omega
        have at1 : atI (tx w).cps.toList (0 + (i : Int)) = some (w.getD i 0) := by
          rw [tx_list, Int.zero_add]
          exact atI_nat (by rw [List.getD_eq_getElem?_getD, List.getElem?_eq_getElem (by omega)] <;> rfl)
        have at2 : atI (tx w).cps.toList (0 + (i : Int) + 1) = some (w.getD (i + 1) 0) := by
          have e2 : (0 + (i : Int) + 1) = ((i + 1 : Nat) : Int) := by omega
          rw [tx_list, e2]
          exact atI_nat (by rw [List.getD_eq_getElem?_getD, List.getElem?_eq_getElem (by omega)] <;> rfl)
        refine ⟨rfl, _, rfl, _, rfl, _, _, w.getD i 0, rfl, rfl, hz, at1, _, rfl, _, rfl, _, _, rfl, rfl, _, _, w.getD (i + 1) 0, rfl, rfl, hz, at2, _, _, rfl, rfl, _, hd, ?_, same_at s1 hD, ?_⟩
        · rw [List.length_map, List.length_map, List.length_range, sizeLine_eq]
          omega
        · have e3 := lt_one (w.getD i 0) (w.getD (i + 1) 0)
          rw [e3, upd_same, List.range_succ, List.map_append, List.map_append] <;> rfl
      · rintro H1 ⟨s1, hd⟩
        refine ⟨D, _, rfl, SqL.of hd, ?_⟩
        rw [adj_asc w hne]
        exact q _ s1
theorem scIW : FnScope ["value"] ["value"] (defScope sIsWord) := ⟨rfl, rfl, rfl, by decide +kernel, rfl, by decide +kernel, by decide +kernel⟩
theorem ok_isword {f : Addr} {fd : FuncData} (F : Fun K "is_word" "is_word" sIsWord f fd) (T : TN mg) : FnOk P w K mg base CX0 1 f fd ["value"] (spIsWord K) := by
  refine F.ok scIW (fun vs H Q E h => ?_) (fun cdv A outer s H vs Q E hr h => ?_)
  · obtain ⟨v, rfl, _⟩ := h
    rfl
  · obtain ⟨v, rfl, h⟩ := h
    refine ⟨_, pss_cons (ps_if (pt_not (pt_val (pe_callB call_isi (by rfl) T.isi (by decide +kernel) (pa_cons (pv 0) (pa_cons (pe_ty "str" T.str (by decide +kernel)) pa_nil))))) (pss_one (ps_ret pe_bl)) pss_nil)
      (pss_one (ps_ret (pe_or (pe_cmpR op_eq (pv 0) pe_str (nomark _))
        (pe_one (pe_and (pe_m0 PySem.F.slot_str_isascii PySem.F.type_str_isascii mt_isascii (pv 0))
          (pe_and (pe_m0 PySem.F.slot_str_isalpha PySem.F.type_str_isalpha mt_isalpha (pv 0)) (pe_one (pe_m0 PySem.F.slot_str_islower PySem.F.type_str_islower mt_islower (pv 0))))))))), ?_⟩
    rcases h with ⟨x, rfl, q⟩ | ⟨⟨t, ty, hk⟩, q⟩
    · refine ⟨_, rfl, _, _, _, _, true, rfl, .ty "str", .base (.str _), kit_ty (by decide +kernel), true, rfl, ?_⟩
      refine ⟨_, rfl, rfl, _, rfl, ?_⟩
      unfold wordB at q
      by_cases h1 : x = ""
      · rw [if_pos h1] at q
        rw [if_pos (decide_eq_true (by rw [h1]))]
        exact q
      · rw [if_neg h1] at q
        rw [if_neg (fun z => h1 (V.str.inj (of_decide_eq_true z)))]
        refine ⟨_, rfl, ⟨_, rfl⟩, _, rfl, rfl, trivial, _, rfl, ?_⟩
        by_cases h2 : Txt.isascii x = true
        · rw [if_pos h2] at q ⊢
          refine ⟨_, rfl, ⟨_, rfl⟩, _, rfl, rfl, trivial, _, rfl, ?_⟩
          by_cases h3 : Txt.isalpha x = true
          · rw [if_pos h3] at q ⊢
            exact ⟨_, rfl, ⟨_, rfl⟩, _, rfl, rfl, trivial, q⟩
          · rw [if_neg h3] at q ⊢
            exact q
        · rw [if_neg h2] at q ⊢
          exact q
    · refine ⟨_, rfl, _, _, _, _, false, rfl, .ty "str", ty, hk, false, rfl, ?_⟩
      exact q
theorem scIL : FnScope ["value"] ["value"] (defScope sIsLet) := ⟨rfl, rfl, rfl, by decide +kernel, rfl, by decide +kernel, by decide +kernel⟩
theorem ok_islet {f g h : Addr} {fd gd hd : FuncData} (F : Fun K "is_letters" "is_letters" sIsLet f fd) (T : TN mg) (A1 : Fn K mg "is_word" sIsWord ["value"] g gd) (A2 : Fn K mg "ascends" sAsc ["values"] h hd) : FnOk P w K mg base CX0 2 f fd ["value"] (spIsLet K) := by
  have G1 : FnOk P w K mg base CX0 1 g gd _ (spIsWord K) := ok_isword A1.F T
  have G2 : FnOk P w K mg base CX0 1 h hd _ spAsc := ok_asc A2.F T
  obtain ⟨tM, hM⟩ := T.most
  refine F.ok scIL (fun vs H Q E h => ?_) (fun cdv A outer s H vs Q E hr h => ?_)
  · obtain ⟨v, rfl, _⟩ := h
    rfl
  · obtain ⟨v, rfl, h⟩ := h
    refine ⟨_, pss_one (ps_ret (pe_and (pe_call G1 hr rfl A1.g A1.F.kp A1.b .nil pass0 (pa_cons (pv 0) pa_nil))
      (pe_and (pe_chain op_le op_le pe_int (pe_callB call_len_str (by rfl) T.len PySem.boot_len (pa_cons (pv 0) pa_nil)) (pe_glob rfl hM (show RelV (.int 3) (.int 3 tM) from ⟨tM, rfl⟩)))
        (pe_one (pe_call G2 hr rfl A2.g A2.F.kp A2.b .nil pass0 (pa_cons (pv 0) pa_nil)))))), ?_⟩
    rcases h with ⟨x, rfl, hx, q⟩ | ⟨hn, q⟩
    · unfold letB at q
      refine ⟨_, rfl, _, rfl, .inl ⟨x, rfl, ?_⟩⟩
      refine ⟨_, rfl, ?_⟩
      by_cases h1 : wordB x = true
      · rw [if_pos h1]
        rw [h1] at q
        have hz : x.length ≤ sizeLine := by rw [sizeLine_eq]; omega
        refine ⟨_, rfl, _, rfl, hz, _, _, rfl, rfl, _, rfl, ?_⟩
        by_cases h2 : 1 ≤ x.length
        · have h2' : ((1 : Int) ≤ (x.length : Int)) := by omega
          rw [if_pos (decide_eq_true h2')]
          refine ⟨_, _, rfl, rfl, _, rfl, ?_⟩
          by_cases h3 : x.length ≤ 3
          · have h3' : ((x.length : Int) ≤ 3) := by omega
            rw [if_pos (decide_eq_true h3')]
            rw [decide_eq_true h2, decide_eq_true h3] at q
            refine ⟨_, rfl, x.cps.toList, (by rw [tx_of]; rfl), ?_, ?_, fun H' s1 => q H' s1⟩
            · intro z
              have : x.cps.toList.length = x.length := Array.length_toList
              rw [z] at this
              have h0 : x.length = 0 := this.symm
              omega
            · have : x.cps.toList.length = x.length := Array.length_toList
              omega
          · have h3' : ¬ ((x.length : Int) ≤ 3) := by omega
            rw [decide_eq_true h2, decide_eq_false h3] at q
            rw [if_neg (fun z => h3' (of_decide_eq_true z))]
            exact q _ (Same.refl _)
        · have h2' : ¬ ((1 : Int) ≤ (x.length : Int)) := by omega
          rw [if_neg (fun z => h2' (of_decide_eq_true z))]
          rw [decide_eq_false h2] at q
          exact ⟨_, rfl, q _ (Same.refl _)⟩
      · have h1' : wordB x = false := eq_false_of_ne_true h1
        rw [if_neg h1]
        rw [h1'] at q
        exact q _ (Same.refl _)
    · refine ⟨_, rfl, _, rfl, .inr ⟨hn, ?_⟩⟩
      exact ⟨_, rfl, q⟩
def spOver : Sp := fun vs H Q _ => ∃ L u : W, vs = [.str (tx L), .str (tx u)] ∧ u.length < 64 ∧ (∀ c ∈ u, c ∈ L) ∧ ∀ H', Same H H' → Q (.bl true) H'
def spNeedOver : Sp := fun vs H Q _ => ∃ L u : W, vs = [.str (tx L), .str (tx u)] ∧ u.length < 64 ∧ (∀ c ∈ u, c ∈ L) ∧ ∀ H', Same H H' → Q .non H'
def spNeedWord : Sp := fun vs H Q _ => ∃ u : W, vs = [.str (tx u)] ∧ Low u ∧ Q .non H
def spNeedLet : Sp := fun vs H Q _ => ∃ L : W, vs = [.str (tx L)] ∧ Let L ∧ ∀ H', Same H H' → Q .non H'
theorem scIO : FnScope ["letters", "word", "letter"] ["letters", "word"] (defScope sIsOver) := ⟨rfl, rfl, rfl, by decide +kernel, rfl, by decide +kernel, by decide +kernel⟩
theorem size_tx (u : W) : (tx u).cps.size = u.length := List.size_toArray
theorem all_true : ∀ n : Nat, ((List.replicate n true).all id) = true
  | 0 => rfl
  | n + 1 => by rw [List.replicate_succ, List.all_cons, all_true n] <;> rfl
theorem ok_over {f : Addr} {fd : FuncData} (F : Fun K "is_over" "is_over" sIsOver f fd) (T : TN mg) : FnOk P w K mg base CX0 1 f fd ["letters", "word"] spOver := by
  refine F.ok scIO (fun vs H Q E h => ?_) (fun cdv A outer s H vs Q E hr h => ?_)
  · obtain ⟨L, u, rfl, _⟩ := h
    rfl
  · obtain ⟨L, u, rfl, hu, hL, q⟩ := h
    refine ⟨_, pss_one (ps_ret (pe_callB (cr_all rfl) (by rfl) T.all (by decide +kernel) (pa_cons (pe_lc (own := [("letter", 2)]) (g := gName 2) (tt := tYes) rfl scIO.nd
      (pi_list (pe_callB (TX.cr_sortX rfl) (by rfl) T.sorted (by decide +kernel) (pa_cons (pe_callTy (TX.call_setX rfl) (by rfl) T.set (by decide +kernel) (pa_cons (pv 1) pa_nil)) pa_nil)))
      (blkOk_by (own := [("letter", 2)]) (N := ["letters", "word", "letter"]) (sc := defScope sIsOver) (by decide +kernel)) (fun _ _ _ _ _ => pg_name (i := 2) scIO.nd rfl (Or.inl rfl)) (fun _ _ _ _ _ => pts_nil)
      (fun _ _ _ _ _ => pe_cmpR op_in_sign (pv 2) (pv 0) rfl)) pa_nil))), ?_⟩
    have hz : (tx u).cps.size < 64 := by rw [size_tx]; exact hu
    refine ⟨_, rfl, tx u, rfl, hz, fun a o ha ho => ?_⟩
    refine ⟨a, tx u, o, rfl, upd_same, ho, hz, fun p hp => ?_⟩
    rw [tx_list]
    refine ⟨p, rfl, ⟨_, SqL.of upd_same⟩, fun D hD => ?_⟩
    have sp : Same H (upd (upd H a o) p (.lst ((sigs u).map fun c => V.str (sg c)))) := same_two (same_upd ha) hp
    have hq : (upd (upd H a o) p (.lst ((sigs u).map fun c => V.str (sg c)))) p = some (.lst ((sigs u).map fun c => V.str (sg c))) := upd_same
    generalize upd (upd H a o) p (.lst ((sigs u).map fun c => V.str (sg c))) = G at sp hq hD ⊢
    refine lc_list (xs := (sigs u).map fun c => V.str (sg c)) (fun i H1 => Same G H1 ∧ H1 D = some (.lst ((List.replicate i true).map V.bl))) ⟨same_upd hD, upd_same⟩ (fun i H1 _ ⟨s1, _⟩ => SqL.of (s1 _ _ hq)) ?_ ?_
    · rintro i x H1 hx ⟨s1, hd⟩
      rw [List.getElem?_map] at hx
      cases hc : (sigs u)[i]? with
      | none => rw [hc] at hx; cases hx
      | some c =>
        rw [hc] at hx
        obtain rfl : V.str (sg c) = x := Option.some.inj hx
        have hm : c ∈ sigs u := List.mem_of_getElem? hc
        have hi : i < (sigs u).length := (List.getElem?_eq_some_iff.mp hc).1
        have hi2 := TX.len_sigs u
        refine ⟨rfl, _, rfl, _, rfl, c, tx L, rfl, rfl, _, hd, ?_, same_at s1 hD, ?_⟩
        · rw [List.length_map, List.length_replicate, sizeLine_eq]
          omega
        · have e : c ∈ (tx L).cps.toList := by rw [tx_list]; exact hL c ((TX.mem_sigs c u).mp hm)
          rw [decide_eq_true e, upd_same, List.replicate_succ', List.map_append] <;> rfl
    · rintro H1 ⟨s1, hd⟩
      refine ⟨D, _, rfl, SqL.of hd, ?_⟩
      rw [all_true]
      exact q _ (sp.trans s1)
theorem scNL : FnScope ["letters"] ["letters"] (defScope sNeedLet) := ⟨rfl, rfl, rfl, by decide +kernel, rfl, by decide +kernel, by decide +kernel⟩
theorem ok_needlet {f g : Addr} {fd gd : FuncData} (F : Fun K "need_letters" "need_letters" sNeedLet f fd) (A1 : Fn K mg "is_letters" sIsLet ["value"] g gd) (G1 : FnOk P w K mg base CX0 2 g gd ["value"] (spIsLet K)) : FnOk P w K mg base CX0 3 f fd ["letters"] spNeedLet := by
  refine F.ok scNL (fun vs H Q E h => ?_) (fun cdv A outer s H vs Q E hr h => ?_)
  · obtain ⟨L, rfl, _⟩ := h
    rfl
  · obtain ⟨L, rfl, hL, q⟩ := h
    refine ⟨_, pss_one (ps_if (pt_not (pt_val (pe_call G1 hr rfl A1.g A1.F.kp A1.b .nil pass0 (pa_cons (pv 0) pa_nil)))) (pss_one ps_never) pss_nil), ?_⟩
    refine ⟨_, rfl, _, rfl, .inl ⟨tx L, rfl, ?_, fun H' s1 => ⟨_, rfl, ?_⟩⟩⟩
    · rw [tx_len]
      have := hL.few
      omega
    · rw [letB_let hL]
      exact q _ s1
theorem scNW : FnScope ["word"] ["word"] (defScope sNeedWord) := ⟨rfl, rfl, rfl, by decide +kernel, rfl, by decide +kernel, by decide +kernel⟩
theorem ok_needword {f g : Addr} {fd gd : FuncData} (F : Fun K "need_word" "need_word" sNeedWord f fd) (A1 : Fn K mg "is_word" sIsWord ["value"] g gd) (G1 : FnOk P w K mg base CX0 1 g gd ["value"] (spIsWord K)) : FnOk P w K mg base CX0 2 f fd ["word"] spNeedWord := by
  refine F.ok scNW (fun vs H Q E h => ?_) (fun cdv A outer s H vs Q E hr h => ?_)
  · obtain ⟨L, rfl, _⟩ := h
    rfl
  · obtain ⟨u, rfl, hu, q⟩ := h
    refine ⟨_, pss_one (ps_if (pt_not (pt_val (pe_call G1 hr rfl A1.g A1.F.kp A1.b .nil pass0 (pa_cons (pv 0) pa_nil)))) (pss_one ps_never) pss_nil), ?_⟩
    refine ⟨_, rfl, _, rfl, .inl ⟨tx u, rfl, _, rfl, ?_⟩⟩
    rw [wordB_low hu]
    exact q
theorem scNO : FnScope ["letters", "word"] ["letters", "word"] (defScope sNeedOver) := ⟨rfl, rfl, rfl, by decide +kernel, rfl, by decide +kernel, by decide +kernel⟩
theorem ok_needover {f g : Addr} {fd gd : FuncData} (F : Fun K "need_over" "need_over" sNeedOver f fd) (A1 : Fn K mg "is_over" sIsOver ["letters", "word"] g gd) (G1 : FnOk P w K mg base CX0 1 g gd ["letters", "word"] spOver) : FnOk P w K mg base CX0 2 f fd ["letters", "word"] spNeedOver := by
  refine F.ok scNO (fun vs H Q E h => ?_) (fun cdv A outer s H vs Q E hr h => ?_)
  · obtain ⟨L, u, rfl, _⟩ := h
    rfl
  · obtain ⟨L, u, rfl, hu, hL, q⟩ := h
    refine ⟨_, pss_one (ps_if (pt_not (pt_val (pe_call G1 hr rfl A1.g A1.F.kp A1.b .nil pass0 (pa_cons (pv 0) (pa_cons (pv 1) pa_nil))))) (pss_one ps_never) pss_nil), ?_⟩
    exact ⟨_, rfl, _, rfl, L, u, rfl, hu, hL, fun H' s1 => ⟨_, rfl, q _ s1⟩⟩
end
end WK
set_option Elab.async false
set_option linter.all false
set_option maxRecDepth 100000
set_option maxHeartbeats 8000000
namespace WK
open PySem L2 PyProof.Rows K1
open TX (sg sigs)
open PySem.W (Frag kitOne)
abbrev sMixed : Stmt := top 67
abbrev sLetters : Stmt := top 68
abbrev sWord : Stmt := top 69
theorem but_at {p a : Addr} {H H1 : Hp} {o : HO} (B : But p H H1) (h : H a = none) : But p H (upd H1 a o) := fun b u e n => by rw [upd_ne (ne_of_none e h)]; exact B b u e n
theorem but_two {p a : Addr} {H H1 : Hp} {o : HO} (B : But p H H1) (h : H1 a = none) : But p H (upd H1 a o) := B.trans (But.ofSame (same_upd h))
theorem DiceAt.keep {H H' : Hp} {p : Addr} (h : DiceAt H p) (k : ∀ o, H p = some o → H' p = some o) : DiceAt H' p := by
  obtain ⟨a, b, c, e, r⟩ := h
  exact ⟨a, b, c, k _ e, r⟩
theorem DiceAt.new {H : Hp} {p a : Addr} {o : HO} (h : DiceAt H p) (ha : H a = none) : DiceAt (upd H a o) p := h.keep fun _ e => same_upd ha _ _ e
theorem DiceAt.ne {H : Hp} {p a : Addr} (h : DiceAt H p) (ha : H a = none) : a ≠ p := fun z => by
  obtain ⟨_, _, _, e, _⟩ := h
  rw [← z, ha] at e
  cases e
theorem dp_strs {K : Frag} {H : Hp} : ∀ ys : List Str, DpAll K H (ys.map V.str) (ys.map PyData.str)
  | [] => .nil
  | y :: ys => .cons (.str y) (dp_strs ys)
theorem shaped_strs (ys : List Str) (h : ∀ y ∈ ys, PyData.canLay0 (.str y) = true) : SeqAt.shaped (.list (ys.map PyData.str)) = true ∧ SeqAt.shaped (.tuple (ys.map PyData.str)) = true := by
  have h1 : ∀ ys : List Str, (∀ y ∈ ys, PyData.canLay0 (.str y) = true) → PyData.canLayAll0 (ys.map PyData.str) = true := by
    intro ys
    induction ys with
    | nil => intro _; rfl
    | cons y ys ih =>
      intro h
      show (PyData.canLay0 (.str y) && PyData.canLayAll0 (ys.map PyData.str)) = true
      rw [h y List.mem_cons_self, ih fun z hz => h z (List.mem_cons_of_mem _ hz)] <;> rfl
  have h2 : ∀ ys : List Str, PyData.depthAll (ys.map PyData.str) = 0 := by
    intro ys
    induction ys with
    | nil => rfl
    | cons y ys ih =>
      show max (PyData.depth (.str y)) (PyData.depthAll (ys.map PyData.str)) = 0
      rw [ih] <;> rfl
  constructor
  · show (PyData.canLayAll0 _ && decide (PyData.depthAll _ + 1 ≤ 64)) = true
    rw [h1 ys h, h2 ys] <;> rfl
  · show (PyData.canLayAll0 _ && decide (PyData.depthAll _ + 1 ≤ 64)) = true
    rw [h1 ys h, h2 ys] <;> rfl
theorem eqv_nil (ys : List Str) : PyData.eqv (.list (ys.map PyData.str)) (.list []) = ys.isEmpty := by
  cases ys <;> rfl
theorem seqIx {i : Int} {n : Nat} (h0 : 0 ≤ i) (h1 : i < (n : Int)) : seqIndex? i n = some i.toNat := by
  unfold seqIndex?
  have e : ¬ i < 0 := by omega
  simp only [e, if_false]
  rw [decide_eq_true h0, decide_eq_true h1] <;> rfl
theorem map_erase {α β : Type} (f : α → β) : ∀ (xs : List α) (k : Nat), (xs.map f).eraseIdx k = (xs.eraseIdx k).map f
  | [], _ => rfl
  | _ :: _, 0 => rfl
  | x :: xs, k + 1 => by
    show f x :: (xs.map f).eraseIdx k = f x :: (xs.eraseIdx k).map f
    rw [map_erase f xs k]
def spMixed : Sp := fun vs H Q _ => ∃ (p q : Addr) (ys : List Str), vs = [.ref p, .ref q] ∧ DiceAt H p ∧ q ≠ p ∧ H q = some (.lst (ys.map V.str)) ∧ ys.length < 100 ∧ (∀ y ∈ ys, PyData.canLay0 (.str y) = true) ∧
  ∀ (r : Addr) (zs : List Str) (H' : Hp), zs.Perm ys → H r = none → DiceAt H' p → But p H H' → H' r = some (.lst (zs.map V.str)) → r ≠ p → Q (.ref r) H'
section
variable {P : Program} {w : World} {K : PySem.W.Frag} {mg : Str → Option Value} {base : Heap}
variable {fR fM fO : Addr} {dR dM dO : FuncData}
def muMix : L2.St → Hp → Nat := fun σ H => match σ with
  | [_, _, some (.ref l), _] => (match H l with | some (.lst xs) => xs.length | _ => 0)
  | _ => 0
theorem scMi : FnScope ["_law_dice_here", "_law_items", "_law_left", "_law_found"] ["_law_dice_here", "_law_items"] (defScope sMixed) := ⟨rfl, rfl, rfl, by decide +kernel, rfl, by decide +kernel, by decide +kernel⟩
theorem ok_mixed {f : Addr} {fd : FuncData} (F : Fun K "_law_mixed" "_law_mixed" sMixed f fd) (T : TN mg) (AR : Fn K mg "_law_roll" sRoll ["_law_dice_here", "_law_total"] fR dR) : FnOk P w K mg base CX0 2 f fd ["_law_dice_here", "_law_items"] spMixed := by
  have GR : FnOk P w K mg base CX0 1 fR dR ["_law_dice_here", "_law_total"] spRoll := ok_roll AR.F T.dice
  refine F.ok scMi (fun vs H Q E h => ?_) (fun cdv A outer s H vs Q E hr h => ?_)
  · obtain ⟨u, n, _, rfl, _⟩ := h
    rfl
  · obtain ⟨p, q, ys, rfl, hD, hqp, hq, hl, hy, qq⟩ := h

    refine ⟨_, pss_cons (ps_par (i := 2) (j := 3) (by rfl) scMi.nd rfl rfl (by decide) rfl rfl (pa_cons (pe_callTy call_list_of (by rfl) T.list (by decide +kernel) (pa_cons (pv 1) pa_nil)) (pa_cons (pe_lst pa_nil) pa_nil)) (by rfl))
      (pss_cons (ps_while PassesOwn.never (pt_cmpR (op_neD hr.units) (pv 2) (pe_lst pa_nil) (nomark _))
        (pss_one (ps_expr (pe_bm PySem.F.plainAttrs_list PySem.F.slot_list_append PySem.F.type_list_append mt_append (pv 3) (pa_cons
          (pe_bm PySem.F.plainAttrs_list PySem.F.slot_list_pop PySem.F.type_list_pop mt_popAt (pv 2) (pa_cons
            (pe_call GR hr rfl AR.g AR.F.kp AR.b .nil pass0 (pa_cons (pv 0) (pa_cons (pe_callB call_len_seq (by rfl) T.len PySem.boot_len (pa_cons (pv 2) pa_nil)) pa_nil))) pa_nil)) pa_nil)))))
      (pss_one (ps_ret (pv 3)))), ?_⟩
    refine ⟨_, rfl, q, _, rfl, .inl (SqL.of hq), fun l hl1 => ⟨(by show 0 ≤ sizeLine; decide), fun r hr1 => ⟨_, _, rfl, ?_⟩⟩⟩
    refine while_by (fun σ H1 => ∃ zs fs : List Str, σ = [some (.ref p), some (.ref q), some (.ref l), some (.ref r)] ∧ DiceAt H1 p ∧ But p H H1 ∧ H1 l = some (.lst (zs.map V.str)) ∧ H1 r = some (.lst (fs.map V.str)) ∧ (zs ++ fs).Perm ys) muMix ?_ ?_ ?_
    · exact ⟨ys, [], rfl, (hD.new hl1).new hr1, But.ofSame (same_two (same_upd hl1) hr1), same_upd hr1 _ _ upd_same, upd_same, by rw [List.append_nil]⟩
    · have nr : H r = none := (same_upd hl1).free hr1
      have lp := hD.ne hl1
      have rp := hD.ne nr
      have lr : l ≠ r := fun z => by rw [← z, upd_same] at hr1; cases hr1
      rintro σ H1 ⟨zs, fs, rfl, hD1, hB1, hz, hf, hp⟩
      have hzy : ∀ y ∈ zs, PyData.canLay0 (.str y) = true := fun y hm => hy y (hp.mem_iff.mp (List.mem_append_left _ hm))
      have hlen : zs.length + fs.length = ys.length := by rw [← List.length_append, hp.length_eq]
      refine ⟨_, rfl, (by show 0 ≤ sizeLine; decide), fun e he => ⟨.list (zs.map PyData.str), .list [], .lst (SqL.of (same_upd he _ _ hz)) (dp_strs zs), .lst (SqL.of upd_same) .nil, (shaped_strs zs hzy).1, by decide, _, rfl, ?_⟩⟩
      rw [eqv_nil]
      have eD := hD1.new he (o := .lst [])
      have eB : But p H (upd H1 e (.lst [])) := but_two hB1 he
      have ez := same_upd he (o := .lst []) _ _ hz
      have ef := same_upd he (o := .lst []) _ _ hf
      generalize upd H1 e (.lst []) = H2 at eD eB ez ef ⊢
      cases zs with
      | nil => exact ⟨_, rfl, qq r fs _ hp nr eD eB ef rp⟩
      | cons z zs =>
        have len : (((z :: zs).map V.str).length : Int) = (z :: zs).length := by rw [List.length_map]
        have len2 : (z :: zs).length < 100 := by omega
        have len3 : 0 < (z :: zs).length := Nat.succ_pos _
        refine ⟨_, rfl, .inl ⟨rfl, _, SqL.of ef⟩, _, rfl, .inl ⟨rfl, _, SqL.of ez⟩, _, rfl, _, rfl, l, _, rfl, .inl (SqL.of ez), p, _, rfl, eD, by rw [len]; omega, by rw [len]; omega, fun i H3 hi0 hi1 hD3 hB3 => ?_⟩
        rw [len] at hi1
        have hk : i.toNat < (z :: zs).length := by omega
        have hz3 := hB3 _ _ ez lp
        have hf3 := hB3 _ _ ef rp
        have hget : ((z :: zs).map V.str)[i.toNat]? = some (V.str (z :: zs)[i.toNat]) := by rw [List.getElem?_map, List.getElem?_eq_getElem hk] <;> rfl
        have hidx : seqIndex? i ((z :: zs).map V.str).length = some i.toNat := by
          exact seqIx hi0 (by rw [len]; exact hi1)
        refine ⟨l, _, i, i.toNat, _, rfl, rfl, hz3, by omega, by omega, hidx, hget, r, _, _, rfl, rfl, (by rw [upd_ne (Ne.symm lr)]; exact hf3), ?_, ?_, ?_⟩
        · rw [List.length_map, sizeLine_eq]
          omega
        · refine ⟨(z :: zs).eraseIdx i.toNat, fs ++ [(z :: zs)[i.toNat]], rfl, ?_, ?_, ?_, ?_, ?_⟩
          · exact hD3.keep fun o e => by rw [upd_ne (Ne.symm rp), upd_ne (Ne.symm lp)]; exact e
          · exact but_at (but_at (eB.trans hB3) hl1) nr
          · rw [upd_ne lr, upd_same, map_erase]
          · rw [upd_same, List.map_append] <;> rfl
          · refine List.Perm.trans ?_ hp
            have h1 := erase_perm (z :: zs) i.toNat _ (List.getElem?_eq_getElem hk)
            refine List.Perm.trans ?_ (h1.append_right fs)
            show List.Perm (_ ++ (fs ++ [_])) (_ :: (_ ++ fs))
            rw [← List.append_assoc]
            exact List.perm_append_singleton _ _
        · show (match (upd (upd H3 l _) r _) l with | some (.lst xs) => xs.length | _ => 0) < (match H1 l with | some (.lst xs) => xs.length | _ => 0)
          rw [upd_ne lr, upd_same, hz]
          show (((z :: zs).map V.str).eraseIdx i.toNat).length < ((z :: zs).map V.str).length
          rw [List.length_eraseIdx, if_pos (by rw [List.length_map]; exact hk), List.length_map]
          omega
    · exact fun σ H Q Q' hm ⟨v, hv, hl, h⟩ => ⟨v, hv, hl, fun l hl' => let ⟨d, e, a, b, c, dd, k, hk, q⟩ := h l hl'; ⟨d, e, a, b, c, dd, k, hk, hm _ _ q⟩⟩
end
end WK
set_option Elab.async false
set_option linter.all false
set_option maxRecDepth 100000
set_option maxHeartbeats 8000000
namespace WK
open PySem L2 PyProof.Rows K1
open TX (sg sigs)
open PySem.W (Frag kitOne)
theorem but_free {p a : Addr} {H H1 : Hp} (B : But p H H1) (ha : H1 a = none) (hne : a ≠ p) : H a = none := by
  cases e : H a with
  | none => rfl
  | some o => rw [B a o e hne] at ha; cases ha
theorem low_lay {u : W} (h : Low u) : PyData.canLay0 (.str (tx u)) = true := by
  show (u.toArray).all _ = true
  rw [List.all_toArray, List.all_eq_true]
  intro c hc
  have := h c hc
  exact decide_eq_true (by omega)
theorem flat_one (us : W) : (us.map fun c => [c]).flatten = us := by
  induction us with
  | nil => rfl
  | cons c us ih => rw [List.map_cons, List.flatten_cons, ih] <;> rfl
theorem join_sg (us : W) : Txt.join (tx []) (us.map sg) = tx us := by
  have e : us.map sg = (us.map fun c => [c]).map tx := by rw [List.map_map] <;> rfl
  rw [e, join_eq0, flat_one]
theorem sum_sg (us : W) : ((us.map sg).map (·.length)).sum = us.length := by
  induction us with
  | nil => rfl
  | cons c us ih =>
    rw [List.map_cons, List.map_cons, List.sum_cons, ih, List.length_cons]
    show 1 + us.length = us.length + 1
    omega
theorem cut_take {α : Type} (f : α → V) (zs : List α) (n : Nat) : cutV (zs.map f) none (some (n : Int)) = (zs.take n).map f := by
  unfold cutV
  have h1 : HT.sIx (zs.map f).length 0 none = 0 := rfl
  have h2 : HT.sIx (zs.map f).length (zs.map f).length (some (n : Int)) = min n zs.length := by
    unfold HT.sIx
    simp
    try omega
  rw [h1, h2, List.drop_zero, Nat.sub_zero, List.map_take]
  by_cases h : n ≤ zs.length
  · rw [Nat.min_eq_left h]
  · rw [Nat.min_eq_right (by omega), List.take_of_length_le (by rw [List.length_map]; exact Nat.le_refl _), List.take_of_length_le (by rw [List.length_map]; omega)]
def six : W := [97, 98, 100, 109, 114, 120]
theorem six_is : ("abdmrx" : Str) = tx six := by decide +kernel
def spLetters : Sp := fun vs H Q _ => ∃ (p : Addr) (n : Int), vs = [.ref p, .int n] ∧ DiceAt H p ∧ 1 ≤ n ∧ n ≤ 3 ∧ ∀ (L : W) (H' : Hp), Let L → (∀ c ∈ L, c ∈ six) → DiceAt H' p → But p H H' → Q (.str (tx L)) H'
def spWordL : Sp := fun vs H Q _ => ∃ (p : Addr) (L : W) (m : Int), vs = [.ref p, .str (tx L), .int m] ∧ DiceAt H p ∧ Let L ∧ 0 ≤ m ∧ m ≤ 50 ∧ ∀ (u : W) (H' : Hp), (u.length : Int) ≤ m → (∀ c ∈ u, c ∈ L) → DiceAt H' p → But p H H' → Q (.str (tx u)) H'
section
variable {P : Program} {w : World} {K : PySem.W.Frag} {mg : Str → Option Value} {base : Heap}
variable {fR fM fO : Addr} {dR dM dO : FuncData}
theorem scLe : FnScope ["_law_dice_here", "_law_total"] ["_law_dice_here", "_law_total"] (defScope sLetters) := ⟨rfl, rfl, rfl, by decide +kernel, rfl, by decide +kernel, by decide +kernel⟩
theorem ok_letters {f : Addr} {fd : FuncData} (F : Fun K "_law_letters" "_law_letters" sLetters f fd) (T : TN mg) (AM : Fn K mg "_law_mixed" sMixed ["_law_dice_here", "_law_items"] fM dM) (GM : FnOk P w K mg base CX0 2 fM dM ["_law_dice_here", "_law_items"] spMixed) : FnOk P w K mg base CX0 3 f fd ["_law_dice_here", "_law_total"] spLetters := by
  refine F.ok scLe (fun vs H Q E h => ?_) (fun cdv A outer s H vs Q E hr h => ?_)
  · obtain ⟨u, n, rfl, _⟩ := h
    rfl
  · obtain ⟨p, n, rfl, hD, h1, h3, q⟩ := h
    refine ⟨_, pss_one (ps_ret (pe_join pe_str (pe_callB cr_sortedS (by rfl) T.sorted (by decide +kernel) (pa_cons (pe_slice sl_list
      (pe_call GM hr rfl AM.g AM.F.kp AM.b .nil pass0 (pa_cons (pv 0) (pa_cons (pe_callTy (TX.call_listX rfl) (by rfl) T.list (by decide +kernel) (pa_cons pe_str pa_nil)) pa_nil))) po_none (po_some (pv 1))) pa_nil)))), ?_⟩
    have e0 : (tx six).cps.toList.map (fun c => V.str (sg c)) = (six.map sg).map V.str := by rw [tx_list, List.map_map] <;> rfl
    refine ⟨⟨_, rfl⟩, _, rfl, "abdmrx", rfl, by decide +kernel, fun l hl => ?_⟩
    rw [six_is, e0]
    have lp := hD.ne hl
    refine ⟨p, l, six.map sg, rfl, hD.new hl, lp, upd_same, by decide, by decide +kernel, fun r zs H' hz hr1 hD' hB' hr2 hrp => ?_⟩
    have nr : H r = none := (same_upd hl).free hr1
    have B2 : But p H H' := (But.ofSame (same_upd hl)).trans hB'
    refine ⟨_, rfl, n, rfl, r, _, rfl, SqL.of hr2, fun t ht => ?_⟩
    have en : n = ((n.toNat : Nat) : Int) := by omega
    have zl : zs.length = 6 := hz.length_eq
    rw [en, cut_take]
    refine ⟨t, zs.take n.toNat, rfl, SqL.of upd_same, by rw [List.length_take]; omega, fun ys d hp hs hd => ?_⟩
    -- the letters
    have allz : ∀ x ∈ zs, ∃ c, x = sg c ∧ c ∈ six := fun x hx => by
      obtain ⟨c, hc, e⟩ := List.mem_map.mp (hz.mem_iff.mp hx)
      exact ⟨c, e.symm, hc⟩
    have ally : ∀ x ∈ ys, ∃ c, x = sg c ∧ c ∈ six := fun x hx => allz x (List.mem_of_mem_take (hp.mem_iff.mp hx))
    have ey : ys = (ys.map TX.hd1).map sg := TX.all_sg ys fun x hx => let ⟨c, e, _⟩ := ally x hx; ⟨c, e⟩
    have nz : zs.Nodup := hz.nodup_iff.mpr (by decide)
    have ny : ys.Nodup := hp.nodup_iff.mpr (nz.sublist (List.take_sublist _ _))
    have lenL : (ys.map TX.hd1).length = n.toNat := by
      rw [List.length_map, hp.length_eq, List.length_take]
      omega
    have hL : Let (ys.map TX.hd1) := by
      refine ⟨fun c hc => ?_, ?_, fun z => ?_, by omega⟩
      · obtain ⟨x, hx, e⟩ := List.mem_map.mp hc
        obtain ⟨c', rfl, hc'⟩ := ally x hx
        have : c' = c := e
        rw [← this]
        have h6 : ∀ c ∈ six, 97 ≤ c ∧ c ≤ 122 := by decide
        exact h6 _ hc'
      · rw [ey] at hs ny
        refine TX.lt_of_le _ (TX.sorted_le _ hs) ((List.pairwise_map.mp ny).imp fun h q => h (by rw [q]))
      · rw [z] at lenL
        have : (0 : Nat) = n.toNat := lenL
        omega
    have ey2 : ys.map V.str = ((ys.map TX.hd1).map sg).map V.str := by rw [← ey]
    refine ⟨tx [], d, (ys.map TX.hd1).map sg, rfl, rfl, .inl (SqL.of (by rw [upd_same, ← ey])), ?_, ?_⟩
    · rw [sum_sg]
      show (ys.map TX.hd1).length + _ * 0 ≤ _
      omega
    · rw [join_sg]
      refine q _ _ hL (fun c hc => ?_) ((hD'.new ht).new hd) (but_two (but_two B2 ht) hd)
      obtain ⟨x, hx, e⟩ := List.mem_map.mp hc
      obtain ⟨d, rfl, hd'⟩ := ally x hx
      have : d = c := e
      exact this ▸ hd'
theorem scWo : FnScope ["_law_dice_here", "_law_letters_here", "_law_most", "_law_turn"] ["_law_dice_here", "_law_letters_here", "_law_most"] (defScope sWord) := ⟨rfl, rfl, rfl, by decide +kernel, rfl, by decide +kernel, by decide +kernel⟩
theorem ok_word {f : Addr} {fd : FuncData} (F : Fun K "_law_word" "_law_word" sWord f fd) (T : TN mg) (AR : Fn K mg "_law_roll" sRoll ["_law_dice_here", "_law_total"] fR dR)
    (AO : Fn K mg "_law_one_of" sOne ["_law_dice_here", "_law_items"] fO dO) : FnOk P w K mg base CX0 3 f fd ["_law_dice_here", "_law_letters_here", "_law_most"] spWordL := by
  have GR : FnOk P w K mg base CX0 1 fR dR ["_law_dice_here", "_law_total"] spRoll := ok_roll AR.F T.dice
  have GO : FnOk P w K mg base CX0 2 fO dO ["_law_dice_here", "_law_items"] spOne := ok_one AO.F T.dice AR.g AR.F AR.b
  refine F.ok scWo (fun vs H Q E h => ?_) (fun cdv A outer s H vs Q E hr h => ?_)
  · obtain ⟨u, n, _, rfl, _⟩ := h
    rfl
  · obtain ⟨p, L, m, rfl, hD, hL, h0, h1, q⟩ := h
    have hr1 : Room 1 _ := hr.mono (by decide)
    refine ⟨_, pss_one (ps_ret (pe_join pe_str (pe_lc (own := [("_law_turn", 3)]) (g := gName 3) (tt := tYes) rfl scWo.nd
      (pi_range1 rfl T.rng (pa_cons (pe_call GR hr1 rfl AR.g AR.F.kp AR.b .nil pass0 (pa_cons (pv 0) (pa_cons (pe_op op_add (pv 2) pe_int) pa_nil))) pa_nil))
      (blkOk_by (own := [("_law_turn", 3)]) (N := ["_law_dice_here", "_law_letters_here", "_law_most", "_law_turn"]) (sc := defScope sWord) (by decide +kernel)) (fun _ _ _ _ _ => pg_name (i := 3) scWo.nd rfl (Or.inl rfl)) (fun _ _ _ _ _ => pts_nil)
      (fun _ _ _ _ _ => pe_call GO hr rfl AO.g AO.F.kp AO.b .nil pass0 (pa_cons (pv 0) (pa_cons (pe_callTy (TX.call_listX rfl) (by rfl) T.list (by decide +kernel) (pa_cons (pv 1) pa_nil)) pa_nil)))))), ?_⟩
    refine ⟨⟨_, rfl⟩, _, rfl, _, rfl, _, _, rfl, rfl, p, _, rfl, hD, by omega, by omega, fun r H1 hr0 hr1 hD1 hB1 => ?_⟩
    refine ⟨_, rfl, by omega, by omega, fun D hD2 => ?_⟩
    have Dp := hD1.ne hD2
    have nD : H D = none := but_free hB1 hD2 Dp
    refine lc_range (lo := 0) (n := r.toNat) (fun i H3 => DiceAt H3 p ∧ But p H H3 ∧ ∃ us : W, us.length = i ∧ (∀ c ∈ us, c ∈ L) ∧ H3 D = some (.lst (us.map fun c => V.str (sg c)))) ⟨hD1.new hD2, but_two hB1 hD2, [], rfl, fun c hc => (nomatch hc), upd_same⟩ ?_ ?_
    · rintro i H3 hi ⟨hD3, hB3, us, hlen, hus, hd⟩
      refine ⟨rfl, _, rfl, _, rfl, tx L, rfl, ?_, fun l hl => ?_⟩
      · rw [size_tx, sizeLine_eq]
        have := hL.few
        omega
      rw [tx_list]
      have hne := List.length_pos_iff.mpr hL.ne
      refine ⟨p, l, _, rfl, hD3.new hl, hD3.ne hl, upd_same, by rw [List.length_map]; exact hne, by rw [List.length_map]; have := hL.few; omega, fun v H4 hv hD4 hB4 => ?_⟩
      obtain ⟨c, hc, rfl⟩ := List.mem_map.mp hv
      have hd4 : H4 D = _ := hB4 _ _ (same_upd hl _ _ hd) Dp
      refine ⟨_, hd4, ?_, hD4.keep fun o e => by rw [upd_ne (Ne.symm Dp)]; exact e, but_at ((but_two hB3 hl).trans hB4) nD, us ++ [c], ?_, ?_, ?_⟩
      · rw [List.length_map, hlen, sizeLine_eq]
        omega
      · rw [List.length_append, hlen] <;> rfl
      · intro d hd'
        rcases List.mem_append.mp hd' with z | z
        · exact hus d z
        · rw [List.mem_singleton.mp z]
          exact hc
      · rw [upd_same, List.map_append] <;> rfl
    · rintro H3 ⟨hD3, hB3, us, hlen, hus, hd⟩
      have e1 : us.map (fun c => V.str (sg c)) = (us.map sg).map V.str := by rw [List.map_map] <;> rfl
      rw [e1] at hd
      refine ⟨tx [], D, us.map sg, rfl, rfl, .inl (SqL.of hd), ?_, ?_⟩
      · rw [sum_sg]
        show us.length + _ * 0 ≤ _
        omega
      · rw [join_sg]
        exact q us H3 (by omega) hus hD3 hB3
end
end WK
set_option Elab.async false
set_option linter.all false
set_option maxRecDepth 100000
set_option maxHeartbeats 6000000
namespace LCX
open PySem L2 PyProof.Rows WK
open PySem.W (Frag)
theorem seqT {K : Frag} {H H' : Hp} {a : Addr} {xs : List V} (e : Same H H') (h : SqT K H a xs) : SqT K H' a xs := by
  rcases h with h | h
  · rcases h with h | ⟨ob, h⟩
    · exact .inl (.inl (e _ _ h))
    · exact .inl (.inr ⟨ob, e _ _ h⟩)
  · exact .inr h
theorem take_succ_flat {α : Type} (l : List α) (r : α → List V) (i : Nat) (x : α) (h : l[i]? = some x) : (l.take (i + 1)).flatMap r = (l.take i).flatMap r ++ r x := by
  rw [List.take_add_one, h]
  simp [List.flatMap_append]
theorem flat_filter {α : Type} (l : List α) (f : α → Bool) (v : α → V) : l.flatMap (fun x => if f x = true then [v x] else []) = (l.filter f).map v := by
  induction l with
  | nil => rfl
  | cons x l ih =>
    rw [List.flatMap_cons, ih, List.filter_cons]
    cases f x <;> rfl
theorem flat_map {α : Type} (l : List α) (v : α → V) : l.flatMap (fun x => [v x]) = l.map v := by
  induction l with
  | nil => rfl
  | cons x l ih => rw [List.flatMap_cons, ih] <;> rfl
theorem flat_len {α : Type} (l : List α) (r : α → List V) (h : ∀ x, (r x).length ≤ 1) : (l.flatMap r).length ≤ l.length := by
  induction l with
  | nil => exact Nat.le_refl _
  | cons x l ih =>
    rw [List.flatMap_cons, List.length_append, List.length_cons]
    have := h x
    omega
section
variable {K : Frag} {a D : Addr} {α : Type} {l : List α} {val : α → V} {r : α → List V} {g : TG} {tt : TT} {te : TE} {vs : List Nat} {σ : L2.St} {H1 : Hp} {Qd : Hp → Prop} {G : List V → Prop}
/-- one turn -/
abbrev Turn (g : TG) (tt : TT) (te : TE) (vs : List Nat) (σ : L2.St) (D : Addr) (x : V) (H : Hp) (N : Hp → Prop) : Prop := g x (wipe σ vs) H fun σ2 H2 => wipe σ2 vs = wipe σ vs ∧ tt σ2 H2 fun b H3 =>
  if b = true then te σ2 H3 fun y H4 => ∃ acc, H4 D = some (.lst acc) ∧ acc.length < sizeLine ∧ N (upd H4 D (.lst (acc ++ [y]))) else N H3
/-- what a comprehension asks that adds to the list at D what it picks -/
abbrev Went (J : It) (g : TG) (tt : TT) (te : TE) (vs : List Nat) (σ : L2.St) (D : Addr) (H1 : Hp) (Qd : Hp → Prop) : Prop :=
  ∃ W : Nat → Nat → Hp → Prop, (∃ m, W 0 m (upd H1 D (.lst []))) ∧ ∀ j n G, W j n G → (J.stop j G ∧ Qd G) ∨ (J.go j G ∧ ∃ N : Hp → Prop, (∀ G', N G' → ∃ n', n' < n ∧ W (j + 1) n' G') ∧ ∀ v G', J.yld j G v G' → Turn g tt te vs σ D v G' N)
/-- with an invariant of one's own -/
theorem pick_list (Iv : Hp → Prop) (h0 : Iv (upd H1 D (.lst []))) (hl : ∀ H, Iv H → SqL K H a (l.map val)) (hn : l.length < sizeLine) (hr : ∀ x, (r x).length ≤ 1)
    (hs : ∀ x ∈ l, ∀ H acc, Iv H → H D = some (.lst acc) → acc.length < sizeLine → ∀ N : Hp → Prop, (∀ H', Iv H' → H' D = some (.lst (acc ++ r x)) → N H') → Turn g tt te vs σ D (val x) H N)
    (hd : ∀ H, Iv H → H D = some (.lst (l.flatMap r)) → Qd H) :
    Went (Itl K a) g tt te vs σ D H1 Qd := by
  refine lc_list (K := K) (a := a) (xs := l.map val) (fun i H => Iv H ∧ H D = some (.lst ((l.take i).flatMap r))) ⟨h0, upd_same⟩ (fun i H _ p => hl H p.1) (fun i x H hx p => ?_) (fun H p => ?_)
  · rw [List.getElem?_map] at hx
    cases e : l[i]? with
    | none => rw [e] at hx; cases hx
    | some y =>
      rw [e] at hx
      obtain rfl : val y = x := Option.some.inj hx
      have hlen := flat_len (l.take i) r hr
      have : (l.take i).length ≤ l.length := by rw [List.length_take]; exact Nat.min_le_right ..
      exact hs y (List.mem_of_getElem? e) H _ p.1 p.2 (by omega) _ fun H' q1 q2 => ⟨q1, by rw [take_succ_flat l r i y e]; exact q2⟩
  · rw [List.length_map, List.take_length] at p
    exact hd H p.1 p.2
theorem pick_tup (Iv : Hp → Prop) (h0 : Iv (upd H1 D (.lst []))) (hl : ∀ H, Iv H → SqT K H a (l.map val)) (hn : l.length < sizeLine) (hr : ∀ x, (r x).length ≤ 1)
    (hs : ∀ x ∈ l, ∀ H acc, Iv H → H D = some (.lst acc) → acc.length < sizeLine → ∀ N : Hp → Prop, (∀ H', Iv H' → H' D = some (.lst (acc ++ r x)) → N H') → Turn g tt te vs σ D (val x) H N)
    (hd : ∀ H, Iv H → H D = some (.lst (l.flatMap r)) → Qd H) :
    Went (Itt K a) g tt te vs σ D H1 Qd := by
  refine lc_tup (K := K) (a := a) (xs := l.map val) (fun i H => Iv H ∧ H D = some (.lst ((l.take i).flatMap r))) ⟨h0, upd_same⟩ (fun i H _ p => hl H p.1) (fun i x H hx p => ?_) (fun H p => ?_)
  · rw [List.getElem?_map] at hx
    cases e : l[i]? with
    | none => rw [e] at hx; cases hx
    | some y =>
      rw [e] at hx
      obtain rfl : val y = x := Option.some.inj hx
      have hlen := flat_len (l.take i) r hr
      have : (l.take i).length ≤ l.length := by rw [List.length_take]; exact Nat.min_le_right ..
      exact hs y (List.mem_of_getElem? e) H _ p.1 p.2 (by omega) _ fun H' q1 q2 => ⟨q1, by rw [take_succ_flat l r i y e]; exact q2⟩
  · rw [List.length_map, List.take_length] at p
    exact hd H p.1 p.2
/-- nothing but new things: over a list, over a tuple -/
theorem same_list (hD : H1 D = none) (hl : SqL K H1 a (l.map val)) (hn : l.length < sizeLine) (hr : ∀ x, (r x).length ≤ 1)
    (hs : ∀ x ∈ l, ∀ H acc, Same H1 H → H D = some (.lst acc) → acc.length < sizeLine → ∀ N : Hp → Prop, (∀ H', Same H1 H' → H' D = some (.lst (acc ++ r x)) → N H') → Turn g tt te vs σ D (val x) H N)
    (hd : ∀ H, Same H1 H → H D = some (.lst (l.flatMap r)) → Qd H) :
    Went (Itl K a) g tt te vs σ D H1 Qd :=
  pick_list (Same H1) (same_upd hD) (fun H s => s.seq hl) hn hr hs hd
theorem same_tup (hD : H1 D = none) (hl : SqT K H1 a (l.map val)) (hn : l.length < sizeLine) (hr : ∀ x, (r x).length ≤ 1)
    (hs : ∀ x ∈ l, ∀ H acc, Same H1 H → H D = some (.lst acc) → acc.length < sizeLine → ∀ N : Hp → Prop, (∀ H', Same H1 H' → H' D = some (.lst (acc ++ r x)) → N H') → Turn g tt te vs σ D (val x) H N)
    (hd : ∀ H, Same H1 H → H D = some (.lst (l.flatMap r)) → Qd H) :
    Went (Itt K a) g tt te vs σ D H1 Qd :=
  pick_tup (Same H1) (same_upd hD) (fun H s => seqT s hl) hn hr hs hd
end
end LCX
set_option Elab.async false
set_option linter.all false
set_option maxRecDepth 100000
set_option maxHeartbeats 4000000
namespace WK
open PySem L2 PyProof.Rows LCX K1
def Bel (n : Int) (ns : List Int) : Prop := ∀ i ∈ ns, 0 ≤ i ∧ i < n
abbrev oTup (r : List Int) : HO := .tup (r.map V.int)
/-- at these places stand these rows -/
def Objs (mk : List Int → HO) (H : Hp) : List Addr → List (List Int) → Prop
  | [], [] => True
  | a :: as, r :: rs => H a = some (mk r) ∧ Objs mk H as rs
  | _, _ => False
theorem Objs.to {mk : List Int → HO} {H H' : Hp} : ∀ {as : List Addr} {rs : List (List Int)}, Objs mk H as rs → (∀ a ∈ as, ∀ r, H a = some (mk r) → H' a = some (mk r)) → Objs mk H' as rs
  | [], [], _, _ => trivial
  | a :: as, _ :: _, h, k => ⟨k a (.head _) _ h.1, h.2.to fun b hb => k b (.tail _ hb)⟩
  | [], _ :: _, h, _ => h.elim
  | _ :: _, [], h, _ => h.elim
theorem Objs.snoc {mk : List Int → HO} {H : Hp} {b : Addr} {s : List Int} : ∀ {as : List Addr} {rs : List (List Int)}, Objs mk H as rs → H b = some (mk s) → Objs mk H (as ++ [b]) (rs ++ [s])
  | [], [], _, k => ⟨k, trivial⟩
  | _ :: _, _ :: _, h, k => ⟨h.1, h.2.snoc k⟩
  | [], _ :: _, h, _ => h.elim
  | _ :: _, [], h, _ => h.elim
theorem Objs.len {mk : List Int → HO} {H : Hp} : ∀ {as : List Addr} {rs : List (List Int)}, Objs mk H as rs → as.length = rs.length
  | [], [], _ => rfl
  | _ :: _, _ :: _, h => congrArg Nat.succ h.2.len
  | [], _ :: _, h => h.elim
  | _ :: _, [], h => h.elim
theorem Objs.at_ {mk : List Int → HO} {H : Hp} : ∀ {as : List Addr} {rs : List (List Int)}, Objs mk H as rs → ∀ p ∈ as.zip rs, H p.1 = some (mk p.2)
  | [], [], _, _, hp => (List.not_mem_nil hp).elim
  | _ :: _, _ :: _, h, p, hp => (List.mem_cons.mp hp).elim (fun e => e ▸ h.1) fun z => h.2.at_ p z
  | [], _ :: _, h, _, _ => h.elim
  | _ :: _, [], h, _, _ => h.elim
theorem Objs.mem {mk : List Int → HO} {H : Hp} : ∀ {as : List Addr} {rs : List (List Int)}, Objs mk H as rs → ∀ a ∈ as, ∃ r ∈ rs, H a = some (mk r)
  | [], [], _, _, ha => (List.not_mem_nil ha).elim
  | _ :: _, _ :: _, h, a, ha => (List.mem_cons.mp ha).elim (fun e => ⟨_, .head _, e ▸ h.1⟩) fun z => let ⟨r, hr, e⟩ := h.2.mem a z; ⟨r, .tail _ hr, e⟩
  | [], _ :: _, h, _, _ => h.elim
  | _ :: _, [], h, _, _ => h.elim
end WK
set_option Elab.async false
set_option linter.all false
set_option maxRecDepth 100000
set_option maxHeartbeats 6000000
namespace FV
open PySem PySem.Spec PyProof.Rows L2 LamX NdefX
/-- the very object o stands at c -/
def Fix (c : Addr) (o : Obj) : HO := .ext fun h => h.get? c = some o
abbrev Cs := List (Addr × Obj)
def Lay (cs : Cs) (H : Hp) : Prop := ∀ p ∈ cs, H p.1 = some (Fix p.1 p.2)
def off (cs : Cs) (H : Hp) : Hp := fun b => if b ∈ cs.map (·.1) then none else H b
theorem Lay.same {cs : Cs} {H H' : Hp} (l : Lay cs H) (s : ∀ b o, H b = some o → (∀ ps, o ≠ .tbl ps) → H' b = some o) : Lay cs H' := fun p hp => s _ _ (l p hp) fun _ z => nomatch z
/-- the closure cl has the names fr, at these cells with these values -/
structure Fits (cl : List (Str × Addr)) (fr : List Str) (cs : Cs) (vals : List V) : Prop where
  len : cs.length = fr.length
  lenV : vals.length = fr.length
  at_ : ∀ (i : Nat) (y : Str) (p : Addr × Obj), fr[i]? = some y → cs[i]? = some p → cl.lookup y = some p.1
  only : ∀ (y : Str) (c : Addr), cl.lookup y = some c → y ∈ fr
  nd : (cs.map (·.1)).Nodup
  val : ∀ (i : Nat) (p : Addr × Obj) (v : V), cs[i]? = some p → vals[i]? = some v → ∃ u, RelV v u ∧ p.2.data = .cell (some u)
theorem Fits.mem {cl : List (Str × Addr)} {fr : List Str} {cs : Cs} {vals : List V} (F : Fits cl fr cs vals) {y : Str} {c : Addr} (e : cl.lookup y = some c) : ∃ (i : Nat) (p : Addr × Obj), fr[i]? = some y ∧ cs[i]? = some p ∧ p.1 = c := by
  obtain ⟨i, hi⟩ := List.mem_iff_getElem?.mp (F.only y c e)
  have hl : i < cs.length := by rw [F.len]; exact (List.getElem?_eq_some_iff.mp hi).1
  refine ⟨i, cs[i], hi, List.getElem?_eq_getElem hl, ?_⟩
  have := F.at_ i y cs[i] hi (List.getElem?_eq_getElem hl)
  rw [e] at this
  exact (Option.some.inj this).symm
/-- the function at f may be called wherever G holds of the heap -/
structure CallV (P : Program) (w : World) (K : PySem.W.Frag) (mg : Str → Option Value) (base : Heap) (CX : CXT) (k : Nat) (f : Addr) (G : Hp → Prop) (sp : Sp) : Prop where
  fn : ∀ {H : Hp} {h : Heap}, HOk P w H h → G H → PySem.W.FnAt f h
  run : ∀ (A : Around) (outer : List Env) (s : Shared) (H : Hp) (us : List Value) (vs : List V) (Q : VK) (E : XK), Room k A → Env0 P w K mg base A outer s H → G H → Vals vs us → sp vs H Q E → codeAny (model P w) A (.call (.ref f) ⟨us, []⟩) (CR CX outer P w H s Q E) s
theorem CallV.mono {P : Program} {w : World} {K : PySem.W.Frag} {mg : Str → Option Value} {base : Heap} {CX : CXT} {j k : Nat} {f : Addr} {G : Hp → Prop} {sp : Sp} (c : CallV P w K mg base CX j f G sp) (h : j ≤ k) : CallV P w K mg base CX k f G sp :=
  ⟨c.fn, fun A outer s H us vs Q E hr => c.run A outer s H us vs Q E (hr.mono h)⟩
theorem CallV.imp {P : Program} {w : World} {K : PySem.W.Frag} {mg : Str → Option Value} {base : Heap} {CX : CXT} {k : Nat} {f : Addr} {G G' : Hp → Prop} {sp sp' : Sp} (c : CallV P w K mg base CX k f G sp) (hG : ∀ H, G' H → G H) (h : ∀ vs H Q E, G' H → sp' vs H Q E → sp vs H Q E) : CallV P w K mg base CX k f G' sp' :=
  ⟨fun ok g => c.fn ok (hG _ g), fun A outer s H us vs Q E hr e0 g r q => c.run A outer s H us vs Q E hr e0 (hG _ g) r (h _ _ _ _ g q)⟩
end FV
set_option Elab.async false
set_option linter.all false
set_option maxRecDepth 100000
set_option maxHeartbeats 6000000
namespace FV
open PySem PySem.Spec PyProof.Rows L2 LamX NdefX
end FV
set_option Elab.async false
set_option linter.all false
set_option maxRecDepth 100000
set_option maxHeartbeats 6000000
namespace FV
open PySem PySem.Spec PyProof.Rows L2 LamX NdefX
end FV
set_option Elab.async false
set_option linter.all false
set_option maxRecDepth 100000
set_option maxHeartbeats 4000000
namespace DP
open PySem PySem.Spec PyProof.Rows L2
def tDisp1 (tk tv : TE) : TE := fun σ H Q => ∃ emp : HO, (emp = .dK [] ∨ emp = .dT []) ∧ ∀ p, H p = none → tk σ (upd H p emp) fun y H1 => tv σ H1 fun z H2 => ∃ H3, DPut H2 p y z H3 ∧ Q (.ref p) H3
section
variable {X : Cx} {pins : List (Addr × Obj)} {σ : L2.St} {H H' : Hp} {s : Shared} {a : Addr} {y v : V} {u r : Value}
/-- what a display does with a pair -/
theorem d_set {Q : Unit → Shared → Prop} (hu : X.A.units < cLine) (I : Inv X pins σ H s) (g : DPut H a y v H') (ry : RelV y u) (rv : RelV v r) (h : ∀ s', Inv X pins σ H' s' → Q () s') : wpAny (model X.prog X.w) X.A (dictSet a u r) Q X.xe s := by
  rcases g with ⟨kvs, k, e, rfl, l, rfl⟩ | ⟨kvs, k, b, e, rfl, eb, l, rfl⟩
  · obtain ⟨z, hd, vs, rel, dd⟩ := dk_of I.hok e
    have few := length_putK kvs k v
    refine wpAny_dictSet_pairs (hsz := by rw [← rel.length]; exact z) (kV_is ry) dd fun h' dd' hs => h _ ?_
    exact d_write I (by rw [e]; exact True.intro) hs (let ⟨q, _, _, hq, _⟩ := dd'; ⟨q, hq⟩) (dk_new (by omega) hd (rel.put k rv) dd')
  · cases (show u = Value.ref b from ry)
    obtain ⟨z, hd, xs, rel, dd⟩ := dt_of I.hok e
    have few := length_putK kvs k v
    refine wpAny_dictSet_heap (hsz := by rw [← Paired.length rel]; exact z) hu (key_of I.hok eb) dd fun h' ⟨q, es, ep, hq, h2, h3, h4, _, h5⟩ hs => h _ ?_
    refine d_write I (by rw [e]; exact True.intro) hs ⟨q, hq⟩ ⟨by omega, hd, _, (rel.put k eb rv).keeps fun c ys ec => ?_, q, es, ep, hq, h2, h3, h4, h5⟩
    rw [upd_ne (ne_of ec e fun z => nomatch z)]
    exact ec
end
theorem pe_disp1 {X : Cx} {k v : Expr} {tk tv : TE} {pos : Pos} (hu : X.A.units < cLine) (hk : PE X k tk) (hv : PE X v tv) : PE X (.Dict [some k] [v] pos) (tDisp1 tk tv) := by
  refine ⟨fun pins s σ H Q I ⟨emp, kind, told⟩ => ?_⟩
  have new := I.hok.fresh (Nat.le_refl s.heap.objs.size)
  have J : Inv X pins σ (upd H s.heap.objs.size emp) { s with heap := s.heap.push { cls := .type "dict", data := .dict #[] } } := by
    refine I.laid (t' := s.toks) (fun _ _ q => Heap.get?_push_of_some _ q) (Nat.le_refl _) ?_
    rcases kind with rfl | rfl
    · exact dk_empty s.heap I.big
    · exact dt_empty s.heap I.big
  refine wpAny_Dict_any rfl rfl (fun z => by cases z) (by show 1 ≤ 15; decide) (pairTrees_cons_walk ?_)
  refine thn (hk.run pins _ σ _ _ J (told _ new)) fun u s1 ⟨y, H1, I1, ry, q1⟩ => thn (hv.run pins s1 σ H1 _ I1 q1) fun r s2 ⟨z, H2, I2, rz, H3, g, q2⟩ => pairTrees_nil_walk ?_
  show wpAny _ _ (forIn [(u, r)] PUnit.unit _) _ _ s2
  rw [List.forIn_cons]
  refine wpAny_bind (wpAny_bind (d_set hu I2 g ry rz fun s3 I3 => wpAny_pure ?_))
  exact wpAny_pure ⟨.ref s.heap.objs.size, H3, I3, rfl, q2⟩
end DP
set_option Elab.async false
set_option linter.all false
set_option maxRecDepth 100000
set_option maxHeartbeats 8000000
namespace WK
open PySem L2 PyProof.Rows LCX K1 FV DP
open TX (sg sigs)
open PySem.W (Frag kitOne)
section
variable {α : Type} [DecidableEq α]
/-- one letter: the key behind it, and the row so far -/
def exSign (f : α → Nat → α) (key : α) (st : List α × List Int) (c : Nat) : List α × List Int :=
  if f key c ∈ st.1 then (st.1, st.2 ++ [((st.1.idxOf (f key c) : Nat) : Int)]) else (st.1 ++ [f key c], st.2 ++ [((st.1.length : Nat) : Int)])
def exAll (f : α → Nat → α) (L : W) (start : α) : Nat → List α × List (List Int)
  | 0 => ([start], [])
  | j + 1 => match (exAll f L start j).1[j]? with
    | some key => ((L.foldl (exSign f key) ((exAll f L start j).1, [])).1, (exAll f L start j).2 ++ [(L.foldl (exSign f key) ((exAll f L start j).1, [])).2])
    | none => exAll f L start j
theorem exSign_grows (f : α → Nat → α) (key : α) (st : List α × List Int) (c : Nat) : st.1 <+: (exSign f key st c).1 := by
  unfold exSign
  split
  · exact List.prefix_refl _
  · exact List.prefix_append _ _
theorem exFold_grows (f : α → Nat → α) (key : α) : ∀ (l : W) (st : List α × List Int), st.1 <+: (l.foldl (exSign f key) st).1
  | [], _ => List.prefix_refl _
  | c :: l, st => (exSign_grows f key st c).trans (exFold_grows f key l _)
theorem exAll_at {f : α → Nat → α} {L : W} {start : α} {j : Nat} {key : α} (h : (exAll f L start j).1[j]? = some key) :
    exAll f L start (j + 1) = ((L.foldl (exSign f key) ((exAll f L start j).1, [])).1, (exAll f L start j).2 ++ [(L.foldl (exSign f key) ((exAll f L start j).1, [])).2]) := by
  show (match (exAll f L start j).1[j]? with | some key => _ | none => _) = _
  rw [h]
theorem exAll_stop {f : α → Nat → α} {L : W} {start : α} {j : Nat} (h : (exAll f L start j).1.length ≤ j) : ∀ m, exAll f L start (j + m) = exAll f L start j
  | 0 => rfl
  | m + 1 => by
    have ih := exAll_stop h m
    show (match (exAll f L start (j + m)).1[j + m]? with | some key => _ | none => _) = _
    rw [List.getElem?_eq_none (by rw [ih]; omega)]
    exact ih
end
/-- how keys of a kind lie in the heap, and how a dict has their numbers -/
structure Kit (α : Type) [DecidableEq α] where
  is : Hp → V → α → Prop
  keep : ∀ {H H' : Hp} {v : V} {a : α}, is H v a → (∀ b xs, H b = some (.tup xs) → H' b = some (.tup xs)) → is H' v a
  ho : List α → HO
  kind : ∀ l, (∃ kvs, ho l = .dK kvs) ∨ ∃ kvs, ho l = .dT kvs
  emp : ho [] = .dK [] ∨ ho [] = .dT []
  get : ∀ {H : Hp} {D : Addr} {l : List α} {v : V} {a : α}, H D = some (ho l) → is H v a → DGet H D v (if a ∈ l then some (.int ((l.idxOf a : Nat) : Int)) else none)
  put : ∀ {H : Hp} {D : Addr} {l : List α} {v : V} {a : α}, H D = some (ho l) → is H v a → a ∉ l → l.length < sizeLine → DPut H D v (.int ((l.length : Nat) : Int)) (upd H D (ho (l ++ [a])))
section
variable {α : Type} [DecidableEq α] {kit : Kit α} {H H' : Hp}
def Are (kit : Kit α) (H : Hp) : List V → List α → Prop
  | [], [] => True
  | v :: vs, a :: l => kit.is H v a ∧ Are kit H vs l
  | _, _ => False
theorem Are.keep : ∀ {vs : List V} {l : List α}, Are kit H vs l → (∀ b xs, H b = some (.tup xs) → H' b = some (.tup xs)) → Are kit H' vs l
  | [], [], _, _ => trivial
  | _ :: _, _ :: _, h, k => ⟨kit.keep h.1 k, h.2.keep k⟩
  | [], _ :: _, h, _ => h.elim
  | _ :: _, [], h, _ => h.elim
theorem Are.len : ∀ {vs : List V} {l : List α}, Are kit H vs l → vs.length = l.length
  | [], [], _ => rfl
  | _ :: _, _ :: _, h => congrArg Nat.succ h.2.len
  | [], _ :: _, h => h.elim
  | _ :: _, [], h => h.elim
theorem Are.snoc {v : V} {a : α} : ∀ {vs : List V} {l : List α}, Are kit H vs l → kit.is H v a → Are kit H (vs ++ [v]) (l ++ [a])
  | [], [], _, k => ⟨k, trivial⟩
  | _ :: _, _ :: _, h, k => ⟨h.1, h.2.snoc k⟩
  | [], _ :: _, h, _ => h.elim
  | _ :: _, [], h, _ => h.elim
theorem Are.get {a : α} : ∀ {vs : List V} {l : List α} {i : Nat}, Are kit H vs l → l[i]? = some a → ∃ v, vs[i]? = some v ∧ kit.is H v a
  | v :: _, b :: _, 0, h, e => ⟨v, rfl, by cases e; exact h.1⟩
  | _ :: _, _ :: _, i + 1, h, e => h.2.get (i := i) e
  | [], [], _, _, e => by cases e
  | [], _ :: _, _, h, _ => h.elim
  | _ :: _, [], _, h, _ => h.elim
end
/-- what is known of functions stays -/
def KeepsExt (H H' : Hp) : Prop := ∀ b φ, H b = some (.ext φ) → H' b = some (.ext φ)
def KeepsTup (H H' : Hp) : Prop := ∀ b xs, H b = some (.tup xs) → H' b = some (.tup xs)
theorem Same.tup' {H H' : Hp} (s : Same H H') : KeepsTup H H' := fun b _ e => s b _ e
theorem KeepsTup.trans {H H1 H2 : Hp} (a : KeepsTup H H1) (b : KeepsTup H1 H2) : KeepsTup H H2 := fun d xs e => b d xs (a d xs e)
theorem KeepsExt.trans {H H1 H2 : Hp} (a : KeepsExt H H1) (b : KeepsExt H1 H2) : KeepsExt H H2 := fun d xs e => b d xs (a d xs e)
theorem tup_upd {H : Hp} {a : Addr} {u o : HO} (h : H a = some u) (n : ∀ xs, u ≠ .tup xs) : KeepsTup H (upd H a o) := fun b xs e => by
  rw [upd_ne fun z => n xs (Option.some.inj (h.symm.trans (by rw [← z]; exact e)))]
  exact e
theorem objs_tup {H H' : Hp} {as : List Addr} {rs : List (List Int)} (o : Objs oTup H as rs) (k : KeepsTup H H') : Objs oTup H' as rs := o.to fun a _ r e => k a _ e
theorem idx_end {α : Type} [DecidableEq α] {a : α} : ∀ {l : List α}, a ∉ l → (l ++ [a]).idxOf a = l.length := by
  intro l h
  rw [List.idxOf_append, if_neg h, List.idxOf_cons_self]
  omega
end WK
set_option Elab.async false
set_option linter.all false
set_option maxRecDepth 100000
set_option maxHeartbeats 4000000
namespace ND
open PySem PySem.Spec PyProof.Rows L2 WK
/-- keys of a kind, and dicts that have a number for each -/
structure Num (P : Program) (w : World) (α : Type) [DecidableEq α] where
  is : Hp → V → α → Prop
  has : Hp → Addr → List α → Prop
  keep : ∀ {H H' : Hp} {v : V} {a : α}, is H v a → KeepsTup H H' → is H' v a
  stay : ∀ {H H' : Hp} {D : Addr} {l : List α}, has H D l → Same H H' → has H' D l
  ext : ∀ {H : Hp} {D : Addr} {l : List α}, has H D l → ∃ φ, H D = some (.ext φ)
  dict : ∀ {X : Cx} {pins : List (Addr × Obj)} {σ : L2.St} {H : Hp} {s : Shared} {D : Addr} {l : List α}, X.prog = P → X.w = w → Inv X pins σ H s → has H D l → s.TypeIs (.ref D) "dict"
  new : ∀ {X : Cx} {pins : List (Addr × Obj)} {σ : L2.St} {H : Hp} {s : Shared}, X.prog = P → X.w = w → Inv X pins σ H s →
    ∃ o, ObjOk X.prog X.w (upd H s.heap.objs.size o) (s.heap.push { cls := .type "dict", data := .dict #[] }) s.heap.objs.size o ∧ has (upd H s.heap.objs.size o) s.heap.objs.size []
  notin : ∀ {X : Cx} {pins : List (Addr × Obj)} {σ : L2.St} {H : Hp} {s : Shared} {A : Around} {E : Value → Shared → Prop} {D : Addr} {l : List α} {v : V} {u : Value} {a : α} {Q : Value → Shared → Prop}, X.prog = P → X.w = w → A.units + 64 < cLine →
    Inv X pins σ H s → has H D l → is H v a → RelV v u → (∀ s', Inv X pins σ H s' → Q (.bool (!decide (a ∈ l))) s') → wpAny (model X.prog X.w) A (compareOp .NotIn u (.ref D)) Q E s
  get : ∀ {X : Cx} {pins : List (Addr × Obj)} {σ : L2.St} {H : Hp} {s : Shared} {A : Around} {E : Value → Shared → Prop} {D : Addr} {l : List α} {v : V} {u : Value} {a : α} {Q : Value → Shared → Prop}, X.prog = P → X.w = w → A.units + 64 < cLine →
    Inv X pins σ H s → has H D l → is H v a → a ∈ l → RelV v u → (∀ t s', Inv X pins σ H s' → Q (.int (l.idxOf a : Nat) t) s') → wpAny (model X.prog X.w) A (getItem (.ref D) u) Q E s
  put : ∀ {X : Cx} {pins : List (Addr × Obj)} {σ : L2.St} {H : Hp} {s : Shared} {A : Around} {E : Value → Shared → Prop} {D : Addr} {l : List α} {v : V} {u : Value} {a : α} {t : Tok} {Q : Unit → Shared → Prop}, X.prog = P → X.w = w → A.units + 64 < cLine →
    Inv X pins σ H s → has H D l → is H v a → a ∉ l → l.length < sizeLine → RelV v u → (∀ o s', has (upd H D o) D (l ++ [a]) → Inv X pins σ (upd H D o) s' → Q () s') → wpAny (model X.prog X.w) A (setItem (.ref D) u (.int (l.length : Nat) t)) Q E s
  size : ∀ {X : Cx} {pins : List (Addr × Obj)} {σ : L2.St} {H : Hp} {s : Shared} {A : Around} {E : Value → Shared → Prop} {D : Addr} {l : List α} {Q : Value → Shared → Prop}, X.prog = P → X.w = w →
    Inv X pins σ H s → has H D l → (∀ t s', Inv X pins σ H s' → Q (.int (l.length : Nat) t) s') → wpAny (model X.prog X.w) A (call (.builtin "len") [.ref D]) Q E s
section
variable {α κ : Type} [DecidableEq α] [DecidableEq κ] (e : α → κ)
def NumV : Nat → List α → List (κ × Value) → Prop
  | _, [], [] => True
  | i, a :: l, p :: vs => p.1 = e a ∧ (∃ t, p.2 = .int (i : Nat) t) ∧ NumV (i + 1) l vs
  | _, _, _ => False
theorem numV_len : ∀ {i : Nat} {l : List α} {vs : List (κ × Value)}, NumV e i l vs → vs.length = l.length
  | _, [], [], _ => rfl
  | _, _ :: _, _ :: _, h => congrArg Nat.succ (numV_len h.2.2)
  | _, [], _ :: _, h => h.elim
  | _, _ :: _, [], h => h.elim
theorem numV_out (inj : ∀ a b, e a = e b → a = b) {a : α} : ∀ {i : Nat} {l : List α} {vs : List (κ × Value)}, NumV e i l vs → a ∉ l → valueAt vs (e a) = none
  | _, [], [], _, _ => rfl
  | i, b :: l, p :: vs, h, ha => by
    have ih := numV_out inj h.2.2 (fun z => ha (.tail _ z))
    have ne : ¬ p.1 = e a := fun z => ha (inj _ _ (h.1.symm.trans z) ▸ .head _)
    unfold valueAt at ih ⊢
    rw [List.find?_cons, show decide (p.1 = e a) = false from decide_eq_false ne]
    exact ih
  | _, [], _ :: _, h, _ => h.elim
  | _, _ :: _, [], h, _ => h.elim
theorem numV_in (inj : ∀ a b, e a = e b → a = b) {a : α} : ∀ {i : Nat} {l : List α} {vs : List (κ × Value)}, NumV e i l vs → a ∈ l → ∃ t, valueAt vs (e a) = some (.int ((i + l.idxOf a : Nat) : Nat) t)
  | _, [], [], _, ha => absurd ha List.not_mem_nil
  | i, b :: l, p :: vs, h, ha => by
    unfold valueAt
    rw [List.find?_cons, List.idxOf_cons]
    by_cases eb : b = a
    · obtain ⟨t, ht⟩ := h.2.1
      rw [show decide (p.1 = e a) = true from decide_eq_true (h.1.trans (congrArg e eb)), show (b == a) = true from beq_iff_eq.mpr eb]
      exact ⟨t, congrArg some ht⟩
    · have ne : ¬ p.1 = e a := fun z => eb (inj _ _ (h.1.symm.trans z))
      rw [show decide (p.1 = e a) = false from decide_eq_false ne, show (b == a) = false from beq_eq_false_iff_ne.mpr eb]
      obtain ⟨t, ht⟩ := numV_in inj h.2.2 ((List.mem_cons.mp ha).resolve_left fun z => eb z.symm)
      unfold valueAt at ht
      refine ⟨t, ht.trans ?_⟩
      show some (Value.int ((i + 1 + l.idxOf a : Nat) : Int) t) = some (Value.int ((i + (l.idxOf a + 1) : Nat) : Int) t)
      rw [show i + 1 + l.idxOf a = i + (l.idxOf a + 1) by omega]
  | _, [], _ :: _, h, _ => h.elim
  | _, _ :: _, [], h, _ => h.elim
theorem numV_snoc {a : α} {t : Tok} : ∀ {i : Nat} {l : List α} {vs : List (κ × Value)}, NumV e i l vs → NumV e i (l ++ [a]) (vs ++ [(e a, .int ((i + l.length : Nat) : Nat) t)])
  | i, [], [], _ => ⟨rfl, ⟨t, rfl⟩, trivial⟩
  | i, b :: l, p :: vs, h => by
    refine ⟨h.1, h.2.1, ?_⟩
    have := numV_snoc (a := a) (t := t) h.2.2
    rw [show i + 1 + l.length = i + (b :: l).length by rw [List.length_cons]; omega] at this
    exact this
  | _, [], _ :: _, h => h.elim
  | _, _ :: _, [], h => h.elim
end
theorem stored_out {κ : Type} [DecidableEq κ] {vs : List (κ × Value)} {k : κ} {v : Value} (h : valueAt vs k = none) : stored vs k v = vs ++ [(k, v)] := by
  have : ¬ (vs.any fun kv => kv.1 = k) = true := fun z => by
    obtain ⟨p, hp, e⟩ := List.any_eq_true.mp z
    unfold valueAt at h
    rw [Option.map_eq_none_iff, List.find?_eq_none] at h
    exact h p hp e
  unfold stored
  rw [if_neg this]
section
variable {P : Program} {w : World}
/-- a dict of the truth values in l at D -/
def encB (b : Bool) : Leaf := .num (if b = true then 1 else 0)
theorem encB_inj (a b : Bool) (h : encB a = encB b) : a = b := by
  injection h with h
  revert h
  cases a <;> cases b <;> decide
def BoolO (P : Program) (w : World) (D : Addr) (l : List Bool) : HO := .ext fun h => (D == sysModules) = false ∧ l.length ≤ sizeLine ∧ ∃ vs, NumV encB 0 l vs ∧ h.DictOf (leafKind P w) D vs
theorem boolO_ok {H : Hp} {h : Heap} {D : Addr} {l : List Bool} {vs : List (Leaf × Value)} (h1 : (D == sysModules) = false) (h2 : l.length ≤ sizeLine) (h3 : NumV encB 0 l vs) (h4 : h.DictOf (leafKind P w) D vs) : ObjOk P w H h D (BoolO P w D l) :=
  ⟨⟨h1, h2, vs, h3, h4⟩, let ⟨o, _, _, e, _⟩ := h4; ⟨o, e⟩, fun _ _ ⟨a, b, vs, c, d⟩ k => ⟨a, b, vs, c, let ⟨o, es, ep, q, r⟩ := d; ⟨o, es, ep, k _ q, r⟩⟩⟩
theorem isB {b : Bool} {u : Value} (r : RelV (.bl b) u) : (leafKind P w).is (encB b) u = true := by
  cases (show u = .bool b from r)
  exact decide_eq_true rfl
def numB (P : Program) (w : World) : Num P w Bool where
  is := fun _ v b => v = .bl b
  has := fun H D l => H D = some (BoolO P w D l)
  keep := fun h _ => h
  stay := fun h s => s _ _ h
  ext := fun h => ⟨_, h⟩
  dict := fun eP ew I h => by
    subst eP ew
    obtain ⟨_, _, vs, _, d⟩ := (I.hok _ _ h).1
    exact d.typeIs
  new := fun eP ew I => by
    subst eP ew
    exact ⟨_, boolO_ok (l := []) (beq_eq_false_iff_ne.mpr (Nat.ne_of_gt I.big)) (Nat.zero_le _) (vs := []) trivial (Heap.DictOf.new _), upd_same⟩
  notin := fun {X pins σ H s A E D l v u a Q} eP ew _ I h hv r q => by
    subst eP ew
    subst hv
    obtain ⟨hd, _, vs, nv, d⟩ := (I.hok _ _ h).1
    refine wpAny_notIn_of (isB r) hd d.mapOf ?_
    by_cases m : a ∈ l
    · obtain ⟨t, e⟩ := numV_in encB encB_inj nv m
      rw [e]
      have q := q _ (I.tok (s.toks + 1))
      rw [decide_eq_true m] at q
      exact q
    · rw [numV_out encB encB_inj nv m]
      have q := q _ (I.tok (s.toks + 1))
      rw [decide_eq_false m] at q
      exact q
  get := fun {X pins σ H s A E D l v u a Q} eP ew _ I h hv m r q => by
    subst eP ew
    subst hv
    obtain ⟨hd, _, vs, nv, d⟩ := (I.hok _ _ h).1
    obtain ⟨t, e⟩ := numV_in encB encB_inj nv m
    rw [Nat.zero_add] at e
    exact wpAny_getItem_of (isB r) d.mapOf e (q t _ (I.tok _))
  put := fun {X pins σ H s A E D l v u a t Q} eP ew _ I h hv m few r q => by
    subst eP ew
    subst hv
    obtain ⟨hd, hz, vs, nv, d⟩ := (I.hok _ _ h).1
    refine wpAny_setItem_pairs (hsz := by rw [numV_len encB nv]; exact hz) (isB r) d fun g d' same => ?_
    rw [stored_out (numV_out encB encB_inj nv m)] at d'
    have nv2 := numV_snoc encB (a := a) (t := t) nv
    rw [Nat.zero_add] at nv2
    refine q (BoolO X.prog X.w D (l ++ [a])) _ upd_same ?_
    exact d_write (t' := s.toks + 1) I (by rw [h]; trivial) same (let ⟨o, _, _, e, _⟩ := d'; ⟨o, e⟩) (boolO_ok hd (by rw [List.length_append]; exact few) nv2 d')
  size := fun {X pins σ H s A E D l Q} eP ew I h q => by
    subst eP ew
    obtain ⟨hd, hz, vs, nv, d⟩ := (I.hok _ _ h).1
    have len := numV_len encB nv
    refine call_len_dict hd d (by rw [len]; rw [sizeLine_eq] at hz; omega) ?_
    rw [len]
    exact q _ _ (I.tok _)
end
end ND
set_option Elab.async false
set_option linter.all false
set_option maxRecDepth 100000
set_option maxHeartbeats 4000000
namespace ND
open PySem PySem.Spec PyProof.Rows L2 WK
structure Pr where
  fst : Int
  snd : List Int
  deriving DecidableEq
def nk (r : List Int) : List NestedKey := r.map NestedKey.num
def encN (a : Pr) : NestedKey := .tup [.num a.fst, .tup (nk a.snd)]
theorem nk_inj : ∀ {r q : List Int}, nk r = nk q → r = q
  | [], [], _ => rfl
  | [], _ :: _, h => nomatch h
  | _ :: _, [], h => nomatch h
  | i :: r, j :: q, h => by
    injection h with h1 h2
    injection h1 with h1
    rw [h1, nk_inj h2]
theorem nk_depth : ∀ r : List Int, NestedKey.depthAll (nk r) = 0
  | [] => rfl
  | i :: r => by
    show max (NestedKey.depth (.num i)) (NestedKey.depthAll (nk r)) = 0
    rw [nk_depth r]
    rfl
theorem encN_depth (a : Pr) : (encN a).depth ≤ 8 := by
  show max (NestedKey.depth (.num a.fst)) (max (NestedKey.depthAll (nk a.snd) + 1) 0) + 1 ≤ 8
  rw [nk_depth]
  show max 0 (max 1 0) + 1 ≤ 8
  decide
/-- such a pair lies at b -/
def PrAt (H : Hp) (b : Addr) (a : Pr) : Prop := ∃ t : Addr, H b = some (.tup [.int a.fst, .ref t]) ∧ H t = some (oTup a.snd)
theorem PrAt.keep {H H' : Hp} {b : Addr} {a : Pr} (h : PrAt H b a) (k : KeepsTup H H') : PrAt H' b a := let ⟨t, h1, h2⟩ := h; ⟨t, k _ _ h1, k _ _ h2⟩
theorem nested_ints {h : Heap} : ∀ {r : List Int} {us : List Value}, Vals (r.map V.int) us → NestedAll h (nk r) us
  | [], [], _ => .nil
  | i :: r, u :: us, .cons ⟨t, ht⟩ z => by
    subst ht
    exact .cons (.int i t) (nested_ints z)
  | [], _ :: _, z => nomatch z
  | _ :: _, [], z => nomatch z
theorem PrAt.key {X : Cx} {pins : List (Addr × Obj)} {σ : L2.St} {H : Hp} {s : Shared} {b : Addr} {a : Pr} (I : Inv X pins σ H s) (h : PrAt H b a) : (nestedKind X.prog X.w).is s.heap (encN a) b := by
  obtain ⟨t, h1, h2⟩ := h
  obtain ⟨its, r1, ⟨o1, e1, c1, n1, d1⟩, _⟩ := I.tuple (SqT.of h1)
  obtain ⟨its2, r2, ⟨o2, e2, c2, n2, d2⟩, _⟩ := I.tuple (SqT.of h2)
  obtain ⟨u, y, rfl, ⟨tk, rfl⟩, ry⟩ := vals2 r1
  cases ry
  refine ⟨.tup e1 c1 d1 ?_, encN_depth a⟩
  exact .cons (.int _ tk) (.cons (.tup e2 c2 d2 (by simpa using nested_ints r2)) .nil)
/-- the entries: each pair with its tuple and its number, from i on -/
def NumH : Nat → List Pr → List Addr → List (NestedKey × Addr × Value) → Prop
  | _, [], [], [] => True
  | i, a :: l, b :: bs, x :: xs => x.1 = encN a ∧ x.2.1 = b ∧ (∃ t, x.2.2 = .int (i : Nat) t) ∧ NumH (i + 1) l bs xs
  | _, _, _, _ => False
/-- each pair's tuple is there -/
def PrsAt (H : Hp) : List Addr → List Pr → Prop
  | [], [] => True
  | b :: bs, a :: l => PrAt H b a ∧ PrsAt H bs l
  | _, _ => False
theorem PrsAt.keep {H H' : Hp} (k : KeepsTup H H') : ∀ {bs : List Addr} {l : List Pr}, PrsAt H bs l → PrsAt H' bs l
  | [], [], _ => trivial
  | _ :: _, _ :: _, h => ⟨h.1.keep k, PrsAt.keep k h.2⟩
  | [], _ :: _, h => h.elim
  | _ :: _, [], h => h.elim
theorem PrsAt.snoc {H : Hp} {c : Addr} {a : Pr} (h : PrAt H c a) : ∀ {bs : List Addr} {l : List Pr}, PrsAt H bs l → PrsAt H (bs ++ [c]) (l ++ [a])
  | [], [], _ => ⟨h, trivial⟩
  | _ :: _, _ :: _, z => ⟨z.1, PrsAt.snoc h z.2⟩
  | [], _ :: _, z => z.elim
  | _ :: _, [], z => z.elim
theorem keys_is {X : Cx} {pins : List (Addr × Obj)} {σ : L2.St} {H : Hp} {s : Shared} (I : Inv X pins σ H s) : ∀ {bs : List Addr} {l : List Pr} {i : Nat} {xs : List (NestedKey × Addr × Value)}, PrsAt H bs l → NumH i l bs xs → ∀ x ∈ xs, (nestedKind X.prog X.w).is s.heap x.1 x.2.1
  | [], [], _, [], _, _, x, hx => absurd hx List.not_mem_nil
  | b :: bs, a :: l, _, y :: xs, h, z, x, hx => by
    cases hx with
    | head =>
      rw [z.1, z.2.1]
      exact h.1.key I
    | tail _ hx => exact keys_is I h.2 z.2.2.2 x hx
  | [], _ :: _, _, _, h, _, _, _ => h.elim
  | _ :: _, [], _, _, h, _, _, _ => h.elim
  | [], [], _, _ :: _, _, z, _, _ => z.elim
  | _ :: _, _ :: _, _, [], _, z, _, _ => z.elim
end ND
set_option Elab.async false
set_option linter.all false
set_option maxRecDepth 100000
set_option maxHeartbeats 4000000
namespace DL
open PySem PySem.Spec PyProof.Rows L2
/-- an entry as it is handed in: the key, the key's tuple, the value -/
abbrev Ent := List Key × Addr × V
/-- the entry, and how it lies in memory -/
def Lies (H : Hp) (k : Ent) (x : List Key × Addr × Value) : Prop := k.1 = x.1 ∧ k.2.1 = x.2.1 ∧ RelV k.2.2 x.2.2 ∧ H x.2.1 = some (.tup (x.1.map kV))
section
variable {X : Cx}
theorem laid {pins : List (Addr × Obj)} {σ : L2.St} {H : Hp} {s : Shared} (I : Inv X pins σ H s) : ∀ {ps : List Addr} {ks : List Ent}, Paired (fun p (k : Ent) => SqT X.K H p [.ref k.2.1, k.2.2] ∧ H k.2.1 = some (.tup (k.1.map kV))) ps ks →
    ∃ xs : List (List Key × Addr × Value), Paired (Lies H) ks xs ∧ xs.length = ps.length ∧ ∀ (j : Nat) (x : List Key × Addr × Value), xs[j]? = some x → ∃ b, ps[j]? = some b ∧ IsTup s.heap b #[.ref x.2.1, x.2.2]
  | _, _, .nil => ⟨[], .nil, rfl, fun j x e => by simp at e⟩
  | _, _, .cons (a := p) (b := k) h t => by
    obtain ⟨xs, pr, len, at_⟩ := laid I t
    obtain ⟨its, rv, isT, _⟩ := I.tuple h.1
    obtain ⟨u, y, rfl, ru, ry⟩ := vals2 rv
    cases ru
    refine ⟨(k.1, k.2.1, y) :: xs, .cons ⟨rfl, rfl, ry, h.2⟩ pr, congrArg Nat.succ len, fun j x e => ?_⟩
    cases j with
    | zero =>
      obtain rfl := Option.some.inj e
      exact ⟨p, rfl, isT⟩
    | succ j =>
      obtain ⟨b, e1, e2⟩ := at_ j x e
      exact ⟨b, e1, e2⟩
end
section
variable {P : Program} {w : World} {A : Around} {E : Value → Shared → Prop} {s : Shared}
set_option maxHeartbeats 6400000 in
theorem set_nums {l : Addr} {items : Array Value} (ns : List Int) {Q : Value → Shared → Prop} (calm : A.handled = none) (isL : s.heap.IsList l items) (nums : IntsAre items.toList ns) (room : ns.length + 1 < scanBound)
    (h : ∀ (g : Heap) (tk c : Nat), SetR w g s.heap.objs.size (fun k => decide (k ∈ ns)) c → c ≤ ns.length → (∀ b q, s.heap.get? b = some q → g.get? b = some q) → Q (.ref s.heap.objs.size) { s with heap := g, toks := tk }) :
    wpAny (model P w) A (call (.type "set") [.ref l]) Q E s := by
  have made := F.called_set.made
  have isSub := F.called_set.sub
  have noType := F.called_set.notType
  have creates := F.called_set.canCreate
  obtain ⟨_, _, _⟩ := F.called_set.mro
  have typeCall := F.typeCall_set_1 (.ref l)
  have size : items.size = ns.length := by
    have e := IntsAre.length nums
    rwa [Array.length_toList] at e
  have isInt : ∀ (i : Nat) (v : Value), items[i]? = some v → ∃ k t, ns[i]? = some k ∧ v = .int k t := fun i v e => by
    have lt : i < ns.length := size ▸ (Array.getElem?_eq_some_iff.mp e).1
    obtain ⟨t, eq⟩ := PyProof.Rows.IntsAre.int_at nums i v (Array.getElem?_toList.symm ▸ e)
    exact ⟨ns[i], t, List.getElem?_eq_getElem lt, by rw [eq, List.getD_eq_getElem?_getD, List.getElem?_eq_getElem lt] <;> rfl⟩
  refine wpAny_call (codeAny_of_tree ?_)
  change wpAny _ _ (callAny (.type "set") _) _ _ s
  refine wpAny_pure (And.intro (Code.quiet_builtin _ (by decide +kernel)) (codeAny_builtin F.entry_type_call ?_))
  rw [Around.under_plain (weight_type_call_type "set" [.ref l] []) rfl]
  repeat any_goals first | assumption | wp_step
  refine codeAny_mono (code_set_led1 (.ref l) (E := E) (Q₁ := fun v r => v = .ref s.heap.objs.size ∧ r = { s with heap := s.heap.push (TX.newSet w) }) ⟨rfl, rfl⟩) fun
    | .error _, _, bad => bad
    | .ok .next, _, bad => bad.elim
    | .ok .brk, _, bad => bad.elim
    | .ok .cont, _, bad => bad.elim
    | .ok (.ret _), _, ⟨rfl, rfl⟩ => ?_
  have setAt : (s.heap.push (TX.newSet w)).get? s.heap.objs.size = some (TX.newSet w) := Heap.get?_push_size _ rfl
  have isTy : Shared.TypeIs { s with heap := s.heap.push (TX.newSet w) } (.ref s.heap.objs.size) "set" := ⟨_, setAt, rfl⟩
  have found := F.called_set.init.lookup
  have bound := F.called_set.init.bind (.ref s.heap.objs.size)
  repeat any_goals first | assumption | wp_step
  refine codeAny_mono (codeAny_call_builtin (R := wants (fun v r => v = .none ∧ ∃ g tk c, r = { s with heap := g, toks := tk } ∧ SetR w g s.heap.objs.size (fun k => decide (k ∈ ns)) c ∧ c ≤ ns.length ∧
      ∀ b q, s.heap.get? b = some q → g.get? b = some q) E) F.called_set.init.plain F.entry_set_init (check_set_init_1 isTy ?_)) fun
    | .error _, _, bad => bad
    | .ok .next, _, bad => bad.elim
    | .ok .brk, _, bad => bad.elim
    | .ok .cont, _, bad => bad.elim
    | .ok (.ret _), _, ⟨rfl, _, _, _, rfl, r1, r2, r3⟩ => ?_
  · obtain ⟨⟨ocls, odict, odata, osl⟩, ho, hcl, nl, hd⟩ := isL
    dsimp only at hcl hd
    subst hcl
    subst hd
    have atL : (s.heap.push (TX.newSet w)).get? l = some { cls := .type "list", dict := odict, data := .seq items nl, slots := osl } := Heap.get?_push_of_some _ ho
    have f1 := F.sub_list_set
    have f2 := F.sub_list_frozenset
    have f3 : (Value.type "list" == Value.type "dict") = false := by decide
    have isL1 : (s.heap.push (TX.newSet w)).IsList l items := ⟨_, atL, rfl, nl, rfl⟩
    unfold Builtin.«set.__init__» noKeywords Builtin.Frozenset.updateFrom
    generalize asIter : pyIter = PI
    wp_walk
    subst asIter
    have size1 : (s.heap.push (TX.newSet w)).objs.size = s.heap.objs.size + 1 := Heap.size_push ..
    have below := Heap.lt_size ho
    have calm3 : A.in1.in1.in1.handled = none := by simp [calm]
    have neI : l ≠ (s.heap.push (TX.newSet w)).objs.size := by
      rw [size1]
      exact Nat.ne_of_lt (Nat.lt_succ_of_lt below)
    refine wpAny_pyIter_list isL1 (wpAny_bind (wpAny_runValue ?_))
    refine set_update_ints ((Walks.list calm3 _ l neI items).toS) s.heap.objs.size ?_ ns size room isInt items.size 0 _ rfl (Nat.zero_le _) ⟨⟨_, Heap.get?_push_size _ rfl, rfl, rfl⟩, isL1.push _⟩ ⟨0, Nat.le_refl _, setR_new_at (Heap.get?_push_of_some _ setAt)⟩ fun r c mv few isSet => ?_
    · simp only [List.mem_cons, List.mem_singleton, List.not_mem_nil, or_false, not_or, size1]
      exact ⟨Nat.ne_of_lt (Nat.lt_succ_self _), Nat.ne_of_gt below⟩
    · obtain ⟨g, gens, drawn, tk, os⟩ := r
      have e1 : gens = s.gens := mv.gens
      have e2 : drawn = s.drawn := mv.drawn
      have e3 : os = s.os := mv.os
      subst e1 e2 e3
      show wpAny _ _ _ _ _ _
      refine wpAny_pure (wpAny_pure ⟨rfl, g, tk, c, rfl, isSet, size ▸ few, fun b q z => mv.heap b q ?_ (Heap.get?_push_of_some _ (Heap.get?_push_of_some _ z))⟩)
      have lt := Heap.lt_size z
      simp only [List.mem_cons, List.mem_singleton, List.not_mem_nil, or_false, not_or, size1]
      exact ⟨Nat.ne_of_lt lt, Nat.ne_of_lt (Nat.lt_succ_of_lt lt)⟩
  · repeat any_goals first | assumption | wp_step
    exact h _ _ _ r1 r2 r3
end
section
variable {X : Cx}
def rSetI (K : PySem.W.Frag) (w : World) : List V → Hp → VK → Prop := fun vs H Q => ∃ (l : Addr) (ns : List Int), vs = [V.ref l] ∧ SqL K H l (ns.map V.int) ∧ ns.length < 1000 ∧ ∀ a c, H a = none → c ≤ ns.length → Q (.ref a) (upd H a (SetO w a (fun k => decide (k ∈ ns)) c))
/-- set(xs) of a list of numbers -/
theorem cr_setI (hc : X.calm = true) : CallR X (.type "set") (rSetI X.K X.w) := by
  rintro pins s σ H _ us Q I r ⟨l, ns, rfl, hl, few, q⟩
  rw [Vals.ref1 r]
  obtain ⟨its, rv, pl, hz⟩ := I.list hl
  refine set_nums (P := X.prog) (w := X.w) ns (I.ok.hd hc) pl.isList (by simpa using Vals.ints rv) (by unfold scanBound; omega) fun g tk c r1 r2 keep => ?_
  exact ⟨.ref s.heap.objs.size, _, I.laid (t' := tk) keep (Nat.le_refl _) (setO_new r1), rfl, q _ _ (I.hok.fresh (Nat.le_refl _)) r2⟩
end
end DL
set_option Elab.async false
set_option linter.all false
set_option maxRecDepth 100000
namespace KN
section
variable (row : Nat → List Nat)
/-- one is reached from another -/
inductive Rch : Nat → Nat → Prop where
  | refl (a : Nat) : Rch a a
  | step {a b c : Nat} (h : Rch a b) (e : c ∈ row b) : Rch a c
end
section
variable {row : Nat → List Nat}
theorem Rch.trans {a b c : Nat} (h : Rch row a b) (g : Rch row b c) : Rch row a c := by
  induction g with
  | refl => exact h
  | step _ e ih => exact .step ih e
theorem Rch.edge {a b : Nat} (e : b ∈ row a) : Rch row a b := .step (.refl a) e
/-- by the first step -/
theorem Rch.head {Pr : Nat → Prop} {a b : Nat} (h : Rch row a b) (h0 : Pr b) (hs : ∀ x y, y ∈ row x → Rch row a x → Rch row y b → Pr y → Pr x) : Pr a := by
  have go : ∀ x, Rch row a x → Rch row x b → Pr x → Pr a := by
    intro x hx
    induction hx with
    | refl => exact fun _ p => p
    | step hy e ih => exact fun g p => ih ((Rch.edge e).trans g) (hs _ _ e hy g p)
  exact go b h (.refl b) h0
def Scc (row : Nat → List Nat) (a b : Nat) : Prop := Rch row a b ∧ Rch row b a
theorem Scc.symm {a b : Nat} (h : Scc row a b) : Scc row b a := ⟨h.2, h.1⟩
theorem Scc.trans {a b c : Nat} (h : Scc row a b) (g : Scc row b c) : Scc row a c := ⟨h.1.trans g.1, g.2.trans h.2⟩
theorem Scc.refl (a : Nat) : Scc row a a := ⟨.refl a, .refl a⟩
/-- one on the way: a row, the column to look at, how many were finished when it was met -/
structure On where
  v : Nat
  c : Nat
  d : Nat
/-- what holds while rows are finished: met, finished, on the way (the newest first) -/
structure Dfs (n : Nat) (row : Nat → List Nat) (M o : List Nat) (S : List On) : Prop where
  rng : ∀ x ∈ M, x < n
  mem : ∀ x, x ∈ M ↔ x ∈ o ∨ ∃ t ∈ S, t.v = x
  nd : o.Nodup
  ndS : (S.map (·.v)).Nodup
  off : ∀ t ∈ S, t.v ∉ o
  way : S.Pairwise fun x y => Rch row y.v x.v
  ds : ∀ t ∈ S, t.d ≤ o.length ∧ ∀ (m u : Nat), t.d ≤ m → o[m]? = some u → Rch row t.v u
  col : ∀ t ∈ S, t.c ≤ (row t.v).length ∧ ∀ (j b : Nat), j < t.c → (row t.v)[j]? = some b → b ∈ M
  fin : ∀ (i a : Nat), o[i]? = some a → ∀ b ∈ row a, b ∈ M ∧ (∀ t ∈ S, t.v = b → t.d ≤ i) ∧ ∀ j, o[j]? = some b → i < j → ∀ (m u : Nat), i ≤ m → m < j → o[m]? = some u → Rch row b u
theorem Dfs.start {n : Nat} : Dfs n row [] [] [] :=
  ⟨fun _ h => absurd h List.not_mem_nil, fun _ => ⟨fun h => absurd h List.not_mem_nil, fun h => h.elim (fun z => absurd z List.not_mem_nil) fun ⟨_, z, _⟩ => absurd z List.not_mem_nil⟩, List.nodup_nil, List.nodup_nil, fun _ h => absurd h List.not_mem_nil, List.Pairwise.nil, fun _ h => absurd h List.not_mem_nil, fun _ h => absurd h List.not_mem_nil, fun i a h => by simp at h⟩
variable {n : Nat} {M o : List Nat} {S : List On}
/-- a row that is new is met -/
theorem Dfs.meet (D : Dfs n row M o S) {w : Nat} (hw : w < n) (new : w ∉ M) (way : ∀ t ∈ S, Rch row t.v w) : Dfs n row (M ++ [w]) o (⟨w, 0, o.length⟩ :: S) := by
  have keep : ∀ {x}, x ∈ M → x ∈ M ++ [w] := fun h => List.mem_append_left _ h
  refine ⟨fun x hx => ?_, fun x => ?_, D.nd, ?_, fun t ht => ?_, List.pairwise_cons.mpr ⟨fun t ht => way t ht, D.way⟩, fun t ht => ?_, fun t ht => ?_, fun i a ha b hb => ?_⟩
  · rcases List.mem_append.mp hx with h | h
    · exact D.rng x h
    · rw [List.mem_singleton.mp h]
      exact hw
  · rw [List.mem_append, D.mem x, List.mem_singleton]
    constructor
    · rintro ((h | ⟨t, ht, e⟩) | rfl)
      · exact .inl h
      · exact .inr ⟨t, .tail _ ht, e⟩
      · exact .inr ⟨_, .head _, rfl⟩
    · rintro (h | ⟨t, ht, e⟩)
      · exact .inl (.inl h)
      · rcases List.mem_cons.mp ht with rfl | ht
        · exact .inr e.symm
        · exact .inl (.inr ⟨t, ht, e⟩)
  · rw [List.map_cons]
    refine List.nodup_cons.mpr ⟨fun h => new ?_, D.ndS⟩
    obtain ⟨t, ht, e⟩ := List.mem_map.mp h
    exact (D.mem w).mpr (.inr ⟨t, ht, e⟩)
  · rcases List.mem_cons.mp ht with rfl | ht
    · exact fun h => new ((D.mem w).mpr (.inl h))
    · exact D.off t ht
  · rcases List.mem_cons.mp ht with rfl | ht
    · refine ⟨Nat.le_refl _, fun m u hm hu => ?_⟩
      have := (List.getElem?_eq_some_iff.mp hu).1
      exact absurd this (Nat.not_lt.mpr hm)
    · exact D.ds t ht
  · rcases List.mem_cons.mp ht with rfl | ht
    · exact ⟨Nat.zero_le _, fun j b hj => absurd hj (Nat.not_lt_zero j)⟩
    · exact ⟨(D.col t ht).1, fun j b hj hb => keep ((D.col t ht).2 j b hj hb)⟩
  · obtain ⟨h1, h2, h3⟩ := D.fin i a ha b hb
    refine ⟨keep h1, fun t ht e => ?_, h3⟩
    rcases List.mem_cons.mp ht with rfl | ht
    · exact absurd (show w ∈ M by rw [show w = b from e]; exact h1) new
    · exact h2 t ht e
/-- a column is gone by; what is there is met -/
theorem Dfs.next {v c d : Nat} (D : Dfs n row M o (⟨v, c, d⟩ :: S)) {w : Nat} (hw : (row v)[c]? = some w) (met : w ∈ M) : Dfs n row M o (⟨v, c + 1, d⟩ :: S) := by
  have top := D.col _ (.head _)
  refine ⟨D.rng, fun x => ?_, D.nd, D.ndS, fun t ht => ?_, List.pairwise_cons.mpr ⟨(List.pairwise_cons.mp D.way).1, (List.pairwise_cons.mp D.way).2⟩, fun t ht => ?_, fun t ht => ?_, fun i a ha b hb => ?_⟩
  · rw [D.mem x]
    constructor
    · rintro (h | ⟨t, ht, e⟩)
      · exact .inl h
      · rcases List.mem_cons.mp ht with rfl | ht
        · exact .inr ⟨_, .head _, e⟩
        · exact .inr ⟨t, .tail _ ht, e⟩
    · rintro (h | ⟨t, ht, e⟩)
      · exact .inl h
      · rcases List.mem_cons.mp ht with rfl | ht
        · exact .inr ⟨_, .head _, e⟩
        · exact .inr ⟨t, .tail _ ht, e⟩
  · rcases List.mem_cons.mp ht with rfl | ht
    · exact D.off ⟨v, c, d⟩ (.head _)
    · exact D.off t (.tail _ ht)
  · rcases List.mem_cons.mp ht with rfl | ht
    · exact D.ds ⟨v, c, d⟩ (.head _)
    · exact D.ds t (.tail _ ht)
  · rcases List.mem_cons.mp ht with rfl | ht
    · refine ⟨(List.getElem?_eq_some_iff.mp hw).1, fun j b hj hb => ?_⟩
      by_cases e : j = c
      · subst e
        obtain rfl : w = b := Option.some.inj (hw.symm.trans hb)
        exact met
      · have hj : j < c + 1 := hj
        exact top.2 j b (show j < c by omega) hb
    · exact D.col t (.tail _ ht)
  · obtain ⟨h1, h2, h3⟩ := D.fin i a ha b hb
    refine ⟨h1, fun t ht e => ?_, h3⟩
    rcases List.mem_cons.mp ht with rfl | ht
    · exact h2 ⟨v, c, d⟩ (.head _) e
    · exact h2 t (.tail _ ht) e
/-- a column is gone by, below the newest -/
theorem Dfs.under {x : On} {v c d : Nat} (D : Dfs n row M o (x :: ⟨v, c, d⟩ :: S)) {w : Nat} (hw : (row v)[c]? = some w) (met : w ∈ M) : Dfs n row M o (x :: ⟨v, c + 1, d⟩ :: S) := by
  have second := D.col _ (.tail _ (.head _))
  have cases_ : ∀ {Pr : On → Prop}, (∀ t ∈ x :: (⟨v, c, d⟩ : On) :: S, Pr t) → Pr ⟨v, c + 1, d⟩ → ∀ t ∈ x :: (⟨v, c + 1, d⟩ : On) :: S, Pr t := fun h k t ht => by
    rcases List.mem_cons.mp ht with rfl | ht
    · exact h _ (.head _)
    · rcases List.mem_cons.mp ht with rfl | ht
      · exact k
      · exact h t (.tail _ (.tail _ ht))
  refine ⟨D.rng, fun y => ?_, D.nd, D.ndS, cases_ D.off (D.off ⟨v, c, d⟩ (.tail _ (.head _))), ?_, cases_ D.ds (D.ds ⟨v, c, d⟩ (.tail _ (.head _))), cases_ D.col ?_, fun i a ha b hb => ?_⟩
  · rw [D.mem y]
    constructor
    · rintro (h | ⟨t, ht, e⟩)
      · exact .inl h
      · rcases List.mem_cons.mp ht with rfl | ht
        · exact .inr ⟨_, .head _, e⟩
        · rcases List.mem_cons.mp ht with rfl | ht
          · exact .inr ⟨_, .tail _ (.head _), e⟩
          · exact .inr ⟨t, .tail _ (.tail _ ht), e⟩
    · rintro (h | ⟨t, ht, e⟩)
      · exact .inl h
      · rcases List.mem_cons.mp ht with rfl | ht
        · exact .inr ⟨_, .head _, e⟩
        · rcases List.mem_cons.mp ht with rfl | ht
          · exact .inr ⟨_, .tail _ (.head _), e⟩
          · exact .inr ⟨t, .tail _ (.tail _ ht), e⟩
  · obtain ⟨w1, w2⟩ := List.pairwise_cons.mp D.way
    obtain ⟨w3, w4⟩ := List.pairwise_cons.mp w2
    refine List.pairwise_cons.mpr ⟨fun t ht => ?_, List.pairwise_cons.mpr ⟨w3, w4⟩⟩
    rcases List.mem_cons.mp ht with rfl | ht
    · exact w1 ⟨v, c, d⟩ (.head _)
    · exact w1 t (.tail _ ht)
  · refine ⟨(List.getElem?_eq_some_iff.mp hw).1, fun j b hj hb => ?_⟩
    by_cases e : j = c
    · subst e
      obtain rfl : w = b := Option.some.inj (hw.symm.trans hb)
      exact met
    · have hj : j < c + 1 := hj
      exact second.2 j b (show j < c by omega) hb
  · obtain ⟨h1, h2, h3⟩ := D.fin i a ha b hb
    exact ⟨h1, cases_ h2 (h2 ⟨v, c, d⟩ (.tail _ (.head _))), h3⟩
/-- a new row is met from the newest -/
theorem Dfs.step {v c d : Nat} (D : Dfs n row M o (⟨v, c, d⟩ :: S)) {w : Nat} (hw : (row v)[c]? = some w) (lt : w < n) (new : w ∉ M) : Dfs n row (M ++ [w]) o (⟨w, 0, o.length⟩ :: ⟨v, c + 1, d⟩ :: S) :=
  (D.meet lt new fun t ht => by
    have e : Rch row v w := Rch.edge (List.mem_of_getElem? hw)
    rcases List.mem_cons.mp ht with rfl | ht
    · exact e
    · exact ((List.pairwise_cons.mp D.way).1 t ht).trans e).under hw (List.mem_append_right _ (List.mem_singleton.mpr rfl))
/-- a row is finished -/
theorem Dfs.done {v c d : Nat} (D : Dfs n row M o (⟨v, c, d⟩ :: S)) (hc : c = (row v).length) : Dfs n row M (o ++ [v]) S := by
  have top := D.ds _ (.head _)
  have lo : ∀ {m u : Nat}, m < o.length → (o ++ [v])[m]? = some u → o[m]? = some u := fun hm h => by rwa [List.getElem?_append_left hm] at h
  have hi : ∀ {m u : Nat}, ¬ m < o.length → (o ++ [v])[m]? = some u → m = o.length ∧ v = u := fun {m u} hm h => by
    have h1 := (List.getElem?_eq_some_iff.mp h).1
    rw [List.length_append, List.length_singleton] at h1
    obtain rfl : m = o.length := by omega
    rw [List.getElem?_append_right (Nat.le_refl _), Nat.sub_self] at h
    exact ⟨rfl, Option.some.inj h⟩
  have chain := (List.pairwise_cons.mp D.way).1
  refine ⟨D.rng, fun x => ?_, ?_, (List.nodup_cons.mp D.ndS).2, fun t ht h => ?_, (List.pairwise_cons.mp D.way).2, fun t ht => ?_, fun t ht => D.col t (.tail _ ht), fun i a ha b hb => ?_⟩
  · rw [D.mem x, List.mem_append, List.mem_singleton]
    constructor
    · rintro (h | ⟨t, ht, e⟩)
      · exact .inl (.inl h)
      · rcases List.mem_cons.mp ht with rfl | ht
        · exact .inl (.inr e.symm)
        · exact .inr ⟨t, ht, e⟩
    · rintro ((h | rfl) | ⟨t, ht, e⟩)
      · exact .inl h
      · exact .inr ⟨_, .head _, rfl⟩
      · exact .inr ⟨t, .tail _ ht, e⟩
  · refine List.nodup_append.mpr ⟨D.nd, List.nodup_cons.mpr ⟨List.not_mem_nil, List.nodup_nil⟩, fun x hx y hy e => ?_⟩
    rw [List.mem_singleton.mp hy] at e
    exact D.off _ (.head _) (e ▸ hx)
  · rcases List.mem_append.mp h with h | h
    · exact D.off t (.tail _ ht) h
    · have h := List.mem_singleton.mp h
      exact (List.nodup_cons.mp D.ndS).1 (List.mem_map.mpr ⟨t, ht, h⟩)
  · obtain ⟨h1, h2⟩ := D.ds t (.tail _ ht)
    refine ⟨by rw [List.length_append]; exact Nat.le_succ_of_le h1, fun m u hm hu => ?_⟩
    by_cases lt : m < o.length
    · exact h2 m u hm (lo lt hu)
    · rw [← (hi lt hu).2]
      exact chain t ht
  · by_cases lt : i < o.length
    · obtain ⟨h1, h2, h3⟩ := D.fin i a (lo lt ha) b hb
      refine ⟨h1, fun t ht e => h2 t (.tail _ ht) e, fun j hj hij m u him hmj hu => ?_⟩
      by_cases ltj : j < o.length
      · exact h3 j (lo ltj hj) hij m u him hmj (lo (Nat.lt_trans hmj ltj) hu)
      · obtain ⟨rfl, rfl⟩ := hi ltj hj
        have di := h2 _ (.head _) rfl
        exact top.2 m u (Nat.le_trans di him) (lo hmj hu)
    · obtain ⟨rfl, rfl⟩ := hi lt ha
      refine ⟨?_, fun t ht e => (D.ds t (.tail _ ht)).1, fun j hj hij => ?_⟩
      · obtain ⟨j, hj⟩ := List.mem_iff_getElem?.mp hb
        have := (List.getElem?_eq_some_iff.mp hj).1
        exact (D.col _ (.head _)).2 j b (show j < c by omega) hj
      · have := (List.getElem?_eq_some_iff.mp hj).1
        rw [List.length_append, List.length_singleton] at this
        omega
/-- an order in which all is finished -/
structure Fin (n : Nat) (row : Nat → List Nat) (o : List Nat) : Prop where
  nd : o.Nodup
  all : ∀ x, x ∈ o ↔ x < n
  back : ∀ (i a : Nat), o[i]? = some a → ∀ b ∈ row a, ∀ j, o[j]? = some b → i < j → ∀ (m u : Nat), i ≤ m → m < j → o[m]? = some u → Rch row b u
theorem Dfs.whole (D : Dfs n row M o []) (all : ∀ x < n, x ∈ M) : Fin n row o :=
  ⟨D.nd, fun x => ⟨fun h => D.rng x ((D.mem x).mpr (.inl h)), fun h => ((D.mem x).mp (all x h)).elim id fun ⟨_, z, _⟩ => absurd z List.not_mem_nil⟩, fun i a ha b hb => (D.fin i a ha b hb).2.2⟩
variable (cl : ∀ x < n, ∀ y ∈ row x, y < n)
include cl in
theorem Rch.lt {a b : Nat} (h : Rch row a b) (ha : a < n) : b < n := by
  induction h with
  | refl => exact ha
  | step _ e ih => exact cl _ ih _ e
include cl in
/-- what is reached and finished later: there is one of the same knot that is finished later -/
theorem Fin.later (F : Fin n row o) {u y iu iy : Nat} (h : Rch row u y) (hu : o[iu]? = some u) (hy : o[iy]? = some y) (lt : iu < iy) : ∃ p ip, o[ip]? = some p ∧ iu < ip ∧ Scc row u p := by
  have un : u < n := (F.all u).mp (List.mem_of_getElem? hu)
  induction h generalizing iy with
  | refl =>
    have := (List.getElem?_eq_some_iff.mp hu).1
    have e := (List.getElem?_inj this F.nd).mp (hu.trans hy.symm)
    omega
  | @step x y h e ih =>
    have xn : x < n := Rch.lt cl h un
    obtain ⟨ix, hx⟩ := List.mem_iff_getElem?.mp ((F.all x).mpr xn)
    by_cases l : iu < ix
    · exact ih hx l
    · refine ⟨y, iy, hy, lt, .step h e, ?_⟩
      exact F.back ix x hx y e iy hy (by omega) iu u (by omega) lt hu
include cl in
/-- what is not taken and reaches the last one that is not taken is of its knot -/
theorem Fin.knot (F : Fin n row o) {T : List Nat} (hT : ∀ x ∈ T, ∀ y, Scc row x y → y ∈ T) {s i : Nat} (hs : o[i]? = some s) (late : ∀ j y, o[j]? = some y → i < j → y ∈ T) {x : Nat} (xn : x < n) (xT : x ∉ T) (h : Rch row x s) : Scc row x s := by
  have go : ∀ (k iu u : Nat), o.length - iu ≤ k → o[iu]? = some u → Scc row x u → Scc row x s := by
    intro k
    induction k with
    | zero =>
      intro iu u hk hu _
      have := (List.getElem?_eq_some_iff.mp hu).1
      omega
    | succ k ih =>
      intro iu u hk hu su
      have lu := (List.getElem?_eq_some_iff.mp hu).1
      rcases Nat.lt_trichotomy iu i with lt | rfl | gt
      · obtain ⟨p, ip, hp, l, sp⟩ := F.later cl (su.2.trans h) hu hs lt
        exact ih ip p (by omega) hp (su.trans sp)
      · obtain rfl : u = s := Option.some.inj (hu.symm.trans hs)
        exact su
      · exact absurd (hT u (late iu u hu gt) x su.symm) xT
  obtain ⟨ix, hx⟩ := List.mem_iff_getElem?.mp ((F.all x).mpr xn)
  exact go _ ix x (Nat.le_refl _) hx (Scc.refl x)
include cl in
/-- what is led back to, without what is taken, is the knot -/
theorem Fin.led (F : Fin n row o) {T K : List Nat} (hT : ∀ x ∈ T, ∀ y, Scc row x y → y ∈ T) {s i : Nat} (hs : o[i]? = some s) (late : ∀ j y, o[j]? = some y → i < j → y ∈ T) (sT : s ∉ T) (sK : s ∈ K) (from_ : ∀ x ∈ K, x < n ∧ x ∉ T ∧ Rch row x s) (to_ : ∀ x ∈ K, ∀ y < n, x ∈ row y → y ∉ T → y ∈ K) (x : Nat) : x ∈ K ↔ Scc row s x := by
  have sn : s < n := (F.all s).mp (List.mem_of_getElem? hs)
  constructor
  · intro hx
    obtain ⟨a, b, c⟩ := from_ x hx
    exact (F.knot cl hT hs late a b c).symm
  · rintro ⟨h1, h2⟩
    refine Rch.head (Pr := fun z => z ∈ K) h2 sK fun z y e hz hy yK => ?_
    have sz : Rch row s z := h1.trans hz
    exact to_ y yK z (Rch.lt cl sz sn) e fun zT => sT (hT z zT s ⟨(Rch.edge e).trans hy, sz⟩)
end
end KN
set_option Elab.async false
set_option linter.all false
set_option maxRecDepth 100000
set_option maxHeartbeats 4000000
namespace WK
open PySem L2 PyProof.Rows LCX K1 FV DP
open TX (sg sigs)
end WK
set_option Elab.async false
set_option linter.all false
set_option maxRecDepth 100000
set_option maxHeartbeats 8000000
namespace WK
open PySem L2 PyProof.Rows LCX K1 FV DP
open TX (sg sigs)
open PySem.W (Frag kitOne)
abbrev sMadeI : Stmt := inClass (top 9) 0
/-- rows as the package made them stand at g -/
def RowsAt (H : Hp) (r : Addr) (tb : List (List Int)) : Prop := ∃ ts : List Addr, H r = some (.tup (ts.map V.ref)) ∧ Objs oTup H ts tb
theorem RowsAt.keep {H H' : Hp} {r : Addr} {tb : List (List Int)} (h : RowsAt H r tb) (k : KeepsTup H H') : RowsAt H' r tb := by
  obtain ⟨ts, h1, h2⟩ := h
  exact ⟨ts, k _ _ h1, objs_tup h2 k⟩
def MadeAt (cD : Addr) (H : Hp) (g : Addr) (tb : List (List Int)) : Prop := ∃ dx r : Addr, H g = some (.ins cD dx [("rows", .ref r)]) ∧ RowsAt H r tb
theorem MadeAt.same {cD : Addr} {H H' : Hp} {g : Addr} {tb : List (List Int)} (h : MadeAt cD H g tb) (s : Same H H') : MadeAt cD H' g tb := by
  obtain ⟨dx, r, h1, h2⟩ := h
  exact ⟨dx, r, s _ _ h1, h2.keep (Same.tup' s)⟩
end WK
set_option Elab.async false
set_option linter.all false
set_option maxRecDepth 100000
set_option maxHeartbeats 8000000
namespace WK
open PySem L2 PyProof.Rows LCX
open PySem.W (Frag kitOne)
abbrev sIsAsc : Stmt := top 28
abbrev sIsTab : Stmt := top 29
abbrev sIsRow : Stmt := top 30
/-- a whole number, True or False -/
def isNum (v : V) : Prop := (∃ i, v = .int i) ∨ ∃ b, v = .bl b
def numB (v : V) (a b : Int) : Bool := match v with
  | .int i => decide (a ≤ i) && decide (i ≤ b)
  | _ => false
def intOf (v : V) : Int := match v with
  | .int i => i
  | _ => 0
def ascI (is : List Int) : Bool := decide (is.Pairwise (· < ·))
/-- an ascending tuple of numbers below m -/
def ascV (xs : List V) (m : Int) : Bool := (xs.map fun x => numB x 0 (m - 1)).all id && ascI (xs.map intOf)
def rowB (xs : List V) (wd m : Int) : Bool := decide ((xs.length : Int) = wd) && (xs.map fun x => numB x 0 (m - 1)).all id
/-- a table by its rows; none is a row that is no tuple -/
def tabB (rs : List (Option (List V))) (wd most : Int) : Bool := decide (1 ≤ (rs.length : Int)) && decide ((rs.length : Int) ≤ most) && (rs.map fun r => match r with
  | some xs => rowB xs wd rs.length
  | none => false).all id
/-- no tuple, as long as old things stay -/
def NT (H : Hp) (v : V) : Prop := (∃ x, v = .str x) ∨ v = .non ∨ (∃ i, v = .int i) ∨ (∃ b, v = .bl b) ∨ ∃ a xs, v = .ref a ∧ H a = some (.lst xs)
theorem NT.ext {H H' : Hp} {v : V} (h : NT H v) (s : Same H H') : NT H' v := by
  rcases h with h | h | h | h | ⟨a, xs, h, q⟩
  · exact .inl h
  · exact .inr (.inl h)
  · exact .inr (.inr (.inl h))
  · exact .inr (.inr (.inr (.inl h)))
  · exact .inr (.inr (.inr (.inr ⟨a, xs, h, s _ _ q⟩)))
theorem NT.ty {K : Frag} {H : Hp} {v : V} (h : NT H v) : ∃ t, TyX K H v (.type t) ∧ kitOne K (.type t) (.type "tuple") = some false := by
  rcases h with ⟨x, rfl⟩ | rfl | ⟨i, rfl⟩ | ⟨b, rfl⟩ | ⟨a, xs, rfl, q⟩
  · exact ⟨_, .base (.str _), kit_ty (by decide +kernel)⟩
  · exact ⟨_, .base .non, kit_ty (by decide +kernel)⟩
  · exact ⟨_, .base (.int _), kit_ty (by decide +kernel)⟩
  · exact ⟨_, .base (.bl _), kit_ty (by decide +kernel)⟩
  · exact ⟨_, .base (.lst q), kit_ty (by decide +kernel)⟩
theorem tyT {K : Frag} {H : Hp} {a : Addr} {xs : List V} (h : SqT K H a xs) : TyX K H (.ref a) (.type "tuple") := by
  rcases h with (h | ⟨o, h⟩) | ⟨o, its, n, h1, h2, _⟩
  · exact .base (.tup h)
  · exact .fTuple h
  · exact .kTuple h1 h2
/-- a row of a table -/
def RowV (K : Frag) (H : Hp) (v : V) : Option (List V) → Prop
  | some xs => ∃ a, v = .ref a ∧ SqT K H a xs ∧ xs.length ≤ 100 ∧ ∀ x ∈ xs, isNum x
  | none => NT H v
theorem RowV.ext {K : Frag} {H H' : Hp} {v : V} {r : Option (List V)} (h : RowV K H v r) (s : Same H H') : RowV K H' v r := by
  cases r with
  | none => exact NT.ext h s
  | some xs =>
    obtain ⟨a, e, t, l, q⟩ := h
    exact ⟨a, e, seqT s t, l, q⟩
def spInt2 : Sp := fun vs H Q _ => ∃ v, vs = [v] ∧ ((∃ i, v = .int i ∧ Q (.bl true) H) ∨ ∃ b, v = .bl b ∧ Q (.bl false) H)
def spNum2 : Sp := fun vs H Q _ => ∃ v a b, vs = [v, .int a, .int b] ∧ isNum v ∧ Q (.bl (numB v a b)) H
def spAscT (K : Frag) : Sp := fun vs H Q _ => ∃ (a : Addr) (is : List Int), vs = [.ref a] ∧ SqT K H a (is.map V.int) ∧ is.length ≤ 100 ∧ ∀ H', Same H H' → Q (.bl (ascI is)) H'
def spIsAsc (K : Frag) : Sp := fun vs H Q _ => ∃ v m, vs = [v, .int m] ∧ ((∃ a xs, v = .ref a ∧ SqT K H a xs ∧ xs.length ≤ 100 ∧ (∀ x ∈ xs, isNum x) ∧ ∀ H', Same H H' → Q (.bl (ascV xs m)) H') ∨ (NT H v ∧ Q (.bl false) H))
def spRow (K : Frag) : Sp := fun vs H Q _ => ∃ v wd m r, vs = [v, .int wd, .int m] ∧ RowV K H v r ∧ ∀ H', Same H H' → Q (.bl (match r with
  | some xs => rowB xs wd m
  | none => false)) H'
/-- its rows are these -/
def Rows (K : Frag) (H : Hp) : List V → List (Option (List V)) → Prop
  | [], [] => True
  | x :: xs, r :: rs => RowV K H x r ∧ Rows K H xs rs
  | _, _ => False
def spTab (K : Frag) : Sp := fun vs H Q _ => ∃ v wd most, vs = [v, .int wd, .int most] ∧ ((∃ a xs rs, v = .ref a ∧ SqT K H a xs ∧ xs.length ≤ 100 ∧ Rows K H xs rs ∧ ∀ H', Same H H' → Q (.bl (tabB rs wd most)) H') ∨ (NT H v ∧ Q (.bl false) H))
section
variable {P : Program} {w : World} {K : PySem.W.Frag} {mg : Str → Option Value} {base : Heap}
theorem ok_int2 {f : Addr} {fd : FuncData} (F : Fun K "is_integer" "is_integer" sIsInt f fd) (T : TN mg) : FnOk P w K mg base CX0 1 f fd ["value"] spInt2 := by
  refine F.ok scII (fun vs H Q E h => ?_) (fun cdv A outer s H vs Q E hr h => ?_)
  · obtain ⟨v, rfl, _⟩ := h
    rfl
  · obtain ⟨v, rfl, h⟩ := h
    refine ⟨_, pss_one (ps_ret (pe_and (pe_callB call_isi (by rfl) T.isi (by decide +kernel) (pa_cons (pv 0) (pa_cons (pe_ty "int" T.int (by decide +kernel)) pa_nil)))
      (pe_one (pe_not (pe_callB call_isi (by rfl) T.isi (by decide +kernel) (pa_cons (pv 0) (pa_cons (pe_ty "bool" T.bool (by decide +kernel)) pa_nil))))))), ?_⟩
    rcases h with ⟨i, rfl, q⟩ | ⟨b, rfl, q⟩
    · refine ⟨_, rfl, _, _, _, _, true, rfl, .ty "int", .base (.int _), kit_ty (by decide +kernel), true, rfl, ?_⟩
      exact ⟨_, rfl, _, _, _, _, false, rfl, .ty "bool", .base (.int _), kit_ty (by decide +kernel), false, rfl, q⟩
    · refine ⟨_, rfl, _, _, _, _, true, rfl, .ty "int", .base (.bl _), kit_ty (by decide +kernel), true, rfl, ?_⟩
      exact ⟨_, rfl, _, _, _, _, true, rfl, .ty "bool", .base (.bl _), kit_ty (by decide +kernel), true, rfl, q⟩
theorem ok_num2 {f g : Addr} {fd gd : FuncData} (F : Fun K "is_number" "is_number" sIsNum f fd) (T : TN mg) (A0 : Fn K mg "is_integer" sIsInt ["value"] g gd) : FnOk P w K mg base CX0 2 f fd ["value", "least", "most"] spNum2 := by
  have G0 : FnOk P w K mg base CX0 1 g gd ["value"] spInt2 := ok_int2 A0.F T
  refine F.ok scIN (fun vs H Q E h => ?_) (fun cdv A outer s H vs Q E hr h => ?_)
  · obtain ⟨v, a, b, rfl, _⟩ := h
    rfl
  · obtain ⟨v, a, b, rfl, hn, q⟩ := h
    refine ⟨_, pss_one (ps_ret (pe_and (pe_call G0 hr rfl A0.g A0.F.kp A0.b .nil pass0 (pa_cons (pv 0) pa_nil)) (pe_one (pe_chain op_le op_le (pv 1) (pv 0) (pv 2))))), ?_⟩
    rcases hn with ⟨i, rfl⟩ | ⟨c, rfl⟩
    · refine ⟨_, rfl, _, rfl, .inl ⟨i, rfl, true, rfl, ?_⟩⟩
      refine ⟨_, rfl, _, rfl, _, _, rfl, rfl, _, rfl, ?_⟩
      have q : Q (.bl (decide (a ≤ i) && decide (i ≤ b))) H := q
      by_cases h1 : a ≤ i
      · rw [decide_eq_true h1] at q ⊢
        exact ⟨_, rfl, _, _, rfl, rfl, q⟩
      · rw [decide_eq_false h1] at q ⊢
        exact q
    · exact ⟨_, rfl, _, rfl, .inr ⟨c, rfl, false, rfl, q⟩⟩
theorem scIA : FnScope ["value", "many", "part"] ["value", "many"] (defScope sIsAsc) := ⟨rfl, rfl, rfl, by decide +kernel, rfl, by decide +kernel, by decide +kernel⟩
theorem scRw : FnScope ["value", "width", "many", "after"] ["value", "width", "many"] (defScope sIsRow) := ⟨rfl, rfl, rfl, by decide +kernel, rfl, by decide +kernel, by decide +kernel⟩
theorem scTb : FnScope ["value", "width", "most", "row"] ["value", "width", "most"] (defScope sIsTab) := ⟨rfl, rfl, rfl, by decide +kernel, rfl, by decide +kernel, by decide +kernel⟩
/-- a row's numbers -/
theorem ok_row {f g : Addr} {fd gd : FuncData} (F : Fun K "_is_row" "_is_row" sIsRow f fd) (T : TN mg) (A1 : Fn K mg "is_number" sIsNum ["value", "least", "most"] g gd) (G1 : FnOk P w K mg base CX0 2 g gd ["value", "least", "most"] spNum2) : FnOk P w K mg base CX0 3 f fd ["value", "width", "many"] (spRow K) := by
  refine F.ok scRw (fun vs H Q E h => ?_) (fun cdv A outer s H vs Q E hr h => ?_)
  · obtain ⟨v, wd, m, r, rfl, _⟩ := h
    rfl
  · obtain ⟨v, wd, m, r, rfl, hv, q⟩ := h
    refine ⟨_, pss_cons (ps_if (PW.pt (pw_or (pt_not (pt_val (pe_callB call_isi (by rfl) T.isi (by decide +kernel) (pa_cons (pv 0) (pa_cons (pe_ty "tuple" T.tuple (by decide +kernel)) pa_nil)))))
        (pw_or1 (pt_cmpR op_ne (pe_callB call_len_seq (by rfl) T.len PySem.boot_len (pa_cons (pv 0) pa_nil)) (pv 1) (nomark _))))) (pss_one (ps_ret pe_bl)) pss_nil)
      (pss_one (ps_ret (pe_callB (cr_all rfl) (by rfl) T.all (by decide +kernel) (pa_cons (pe_lc (own := [("after", 3)]) (g := gName 3) (tt := tYes) rfl scRw.nd (pi_tup (pv 0))
        (blkOk_by (own := [("after", 3)]) (N := ["value", "width", "many", "after"]) (sc := defScope sIsRow) (by decide +kernel)) (fun _ _ _ _ _ => pg_name (i := 3) scRw.nd rfl (Or.inl rfl)) (fun _ _ _ _ _ => pts_nil)
        (fun _ _ _ _ _ => pe_call G1 hr rfl A1.g A1.F.kp A1.b .nil pass0 (pa_cons (pv 3) (pa_cons pe_int (pa_cons (pe_op op_sub (pv 2) pe_int) pa_nil))))) pa_nil)))), ?_⟩
    cases r with
    | none =>
      obtain ⟨t, ty, hk⟩ := NT.ty (K := K) hv
      exact ⟨_, rfl, _, _, _, _, false, rfl, .ty "tuple", ty, hk, false, rfl, q _ (Same.refl H)⟩
    | some xs =>
      obtain ⟨a, rfl, hT, hl, hx⟩ := hv
      refine ⟨_, rfl, _, _, _, _, true, rfl, .ty "tuple", tyT hT, kit_ty (by decide +kernel), true, rfl, ?_⟩
      refine ⟨_, rfl, a, xs, rfl, .inr hT, _, rfl, rfl, _, rfl, ?_⟩
      have q : ∀ H', Same H H' → Q (.bl (rowB xs wd m)) H' := q
      by_cases hw : (xs.length : Int) = wd
      · have e1 : (!decide (V.int (xs.length : Int) = V.int wd)) = false := by rw [decide_eq_true (by rw [hw])] <;> rfl
        rw [e1]
        refine ⟨_, rfl, a, rfl, ⟨_, hT⟩, fun D hD => ?_⟩
        have hT' : SqT K H a (xs.map id) := by rw [List.map_id]; exact hT
        refine same_tup (val := id) (r := fun x => [V.bl (numB x 0 (m - 1))]) hD hT' (by rw [sizeLine_eq]; omega) (fun _ => Nat.le_refl _) (fun x hx' H1 acc s1 hacc hlen N hN => ?_) (fun H1 s1 hd => ?_)
        · exact ⟨rfl, _, rfl, _, rfl, _, _, rfl, rfl, x, _, _, rfl, hx x hx', acc, hacc, hlen, hN _ (same_at s1 hD) upd_same⟩
        · have e : xs.flatMap (fun x => [V.bl (numB x 0 (m - 1))]) = (xs.map fun x => numB x 0 (m - 1)).map V.bl := by rw [flat_map, List.map_map] <;> rfl
          rw [e] at hd
          refine ⟨D, _, rfl, SqL.of hd, ?_⟩
          have q2 := q _ s1
          unfold rowB at q2
          rw [decide_eq_true hw] at q2
          exact q2
      · have e1 : (!decide (V.int (xs.length : Int) = V.int wd)) = true := by rw [decide_eq_false (fun z => hw (V.int.inj z))] <;> rfl
        rw [e1]
        have q2 := q _ (Same.refl H)
        unfold rowB at q2
        rw [decide_eq_false hw] at q2
        exact q2
def adjI (w : List Int) (i : Nat) : Bool := decide (w.getD i 0 < w.getD (i + 1) 0)
theorem adjI_asc : ∀ w : List Int, ((List.range (w.length - 1)).map (adjI w)).all id = ascI w
  | [] => by simp [ascI]
  | [a] => by simp [ascI]
  | a :: b :: r => by
    have ih := adjI_asc (b :: r)
    have e : (a :: b :: r).length - 1 = (b :: r).length - 1 + 1 := by simp
    rw [e, List.range_succ_eq_map, List.map_cons, List.all_cons, List.map_map]
    have e2 : (adjI (a :: b :: r) ∘ Nat.succ) = adjI (b :: r) := by
      funext i
      rfl
    rw [e2, ih]
    show (decide (a < b) && ascI (b :: r)) = ascI (a :: b :: r)
    unfold ascI
    rw [← Bool.decide_and]
    refine decide_eq_decide.mpr ⟨fun ⟨h1, h2⟩ => ?_, fun h => ?_⟩
    · refine List.pairwise_cons.mpr ⟨fun y hy => ?_, h2⟩
      rcases List.mem_cons.mp hy with z | z
      · omega
      · have := (List.pairwise_cons.mp h2).1 y z
        omega
    · obtain ⟨h1, h2⟩ := List.pairwise_cons.mp h
      exact ⟨h1 b List.mem_cons_self, h2⟩
theorem ok_ascT {f : Addr} {fd : FuncData} (F : Fun K "ascends" "ascends" sAsc f fd) (T : TN mg) : FnOk P w K mg base CX0 1 f fd ["values"] (spAscT K) := by
  refine F.ok scAs (fun vs H Q E h => ?_) (fun cdv A outer s H vs Q E hr h => ?_)
  · obtain ⟨w, is, rfl, _⟩ := h
    rfl
  · obtain ⟨a, is, rfl, hT, hl, q⟩ := h
    refine ⟨_, pss_one (ps_ret (pe_callB (cr_all rfl) (by rfl) T.all (by decide +kernel) (pa_cons (pe_lc (own := [("at", 1)]) (g := gName 1) (tt := tYes) (te := tOp (rI0 fun i j => .bl (decide (i < j))) (tOp (rIxT K) (tVar 0) (tVar 1)) (tOp (rIxT K) (tVar 0) (tOp (rI0 fun i j => .int (i + j)) (tVar 1) (tC (.int 1))))) rfl scAs.nd
      (pi_range1 rfl T.rng (pa_cons (pe_op op_sub (pe_callB call_len_seq (by rfl) T.len PySem.boot_len (pa_cons (pv 0) pa_nil)) pe_int) pa_nil))
      (blkOk_by (own := [("at", 1)]) (N := ["values", "at"]) (sc := defScope sAsc) (by decide +kernel)) (fun _ _ _ _ _ => pg_name (i := 1) scAs.nd rfl (Or.inl rfl)) (fun _ _ _ _ _ => pts_nil)
      (fun _ _ _ _ _ => pe_cmpR op_lt (pe_ix ix_tup (pv 0) (pv 1) (fun _ _ => rfl)) (pe_ix ix_tup (pv 0) (pe_op op_add (pv 1) pe_int) (fun _ _ => rfl)) (nomark _))) pa_nil))), ?_⟩
    have hl2 : ((is.map V.int).length : Int) ≤ 100 := by rw [List.length_map]; omega
    refine ⟨_, rfl, a, _, rfl, .inr hT, _, _, rfl, rfl, _, rfl, (by omega), (by omega), fun D hD => ?_⟩
    have e1 : (((is.map V.int).length : Int) - 1).toNat = is.length - 1 := by rw [List.length_map]; omega
    rw [e1]
    refine lc_range (lo := 0) (n := is.length - 1) (fun i H1 => Same H H1 ∧ H1 D = some (.lst (((List.range i).map (adjI is)).map V.bl))) ⟨same_upd hD, upd_same⟩ ?_ ?_
    · rintro i H1 hi ⟨s1, hd⟩
      have at1 : ∀ j : Nat, j < is.length → atI (is.map V.int) (j : Int) = some (.int (is.getD j 0)) := fun j hj => by
        refine atI_nat ?_
        rw [List.getElem?_map, List.getD_eq_getElem?_getD, List.getElem?_eq_getElem hj] <;> rfl
      have e2 : (0 + (i : Int)) = ((i : Nat) : Int) := by omega
      have e3 : (0 + (i : Int) + 1) = ((i + 1 : Nat) : Int) := by omega
      refine ⟨rfl, _, rfl, _, rfl, a, _, _, _, rfl, rfl, seqT s1 hT, (by rw [e2]; exact at1 i (by omega)), _, rfl, _, rfl, _, _, rfl, rfl, a, _, _, _, rfl, rfl, seqT s1 hT, (by rw [e3]; exact at1 (i + 1) (by omega)), _, _, rfl, rfl, _, hd, ?_, same_at s1 hD, ?_⟩
      · rw [List.length_map, List.length_map, List.length_range, sizeLine_eq]
        omega
      · rw [upd_same, List.range_succ, List.map_append, List.map_append] <;> rfl
    · rintro H1 ⟨s1, hd⟩
      refine ⟨D, _, rfl, SqL.of hd, ?_⟩
      rw [adjI_asc]
      exact q _ s1
theorem ok_isasc {f g c : Addr} {fd gd cd : FuncData} (F : Fun K "is_ascending" "is_ascending" sIsAsc f fd) (T : TN mg) (A1 : Fn K mg "is_number" sIsNum ["value", "least", "most"] g gd) (G1 : FnOk P w K mg base CX0 2 g gd ["value", "least", "most"] spNum2)
    (A2 : Fn K mg "ascends" sAsc ["values"] c cd) (G2 : FnOk P w K mg base CX0 1 c cd ["values"] (spAscT K)) : FnOk P w K mg base CX0 3 f fd ["value", "many"] (spIsAsc K) := by
  have hX : ∀ {k}, Room 2 k → Room 1 k := fun h => h.mono (by decide)
  refine F.ok scIA (fun vs H Q E h => ?_) (fun cdv A outer s H vs Q E hr h => ?_)
  · obtain ⟨v, m, rfl, _⟩ := h
    rfl
  · obtain ⟨v, m, rfl, h⟩ := h
    refine ⟨_, pss_cons (ps_if (pt_not (pt_val (pe_callB call_isi (by rfl) T.isi (by decide +kernel) (pa_cons (pv 0) (pa_cons (pe_ty "tuple" T.tuple (by decide +kernel)) pa_nil))))) (pss_one (ps_ret pe_bl)) pss_nil)
      (pss_one (ps_ret (pe_and (pe_callB (cr_all rfl) (by rfl) T.all (by decide +kernel) (pa_cons (pe_lc (own := [("part", 2)]) (g := gName 2) (tt := tYes) rfl scIA.nd (pi_tup (pv 0))
        (blkOk_by (own := [("part", 2)]) (N := ["value", "many", "part"]) (sc := defScope sIsAsc) (by decide +kernel)) (fun _ _ _ _ _ => pg_name (i := 2) scIA.nd rfl (Or.inl rfl)) (fun _ _ _ _ _ => pts_nil)
        (fun _ _ _ _ _ => pe_call G1 hr rfl A1.g A1.F.kp A1.b .nil pass0 (pa_cons (pv 2) (pa_cons pe_int (pa_cons (pe_op op_sub (pv 1) pe_int) pa_nil))))) pa_nil))
        (pe_one (pe_call G2 (hX hr) rfl A2.g A2.F.kp A2.b .nil pass0 (pa_cons (pv 0) pa_nil)))))), ?_⟩
    rcases h with ⟨a, xs, rfl, hT, hl, hx, q⟩ | ⟨hn, q⟩
    · refine ⟨_, rfl, _, _, _, _, true, rfl, .ty "tuple", tyT hT, kit_ty (by decide +kernel), true, rfl, ?_⟩
      refine ⟨_, rfl, a, rfl, ⟨_, hT⟩, fun D hD => ?_⟩
      have hT' : SqT K H a (xs.map id) := by rw [List.map_id]; exact hT
      refine same_tup (val := id) (r := fun x => [V.bl (numB x 0 (m - 1))]) hD hT' (by rw [sizeLine_eq]; omega) (fun _ => Nat.le_refl _) (fun x hx' H1 acc s1 hacc hlen N hN => ?_) (fun H1 s1 hd => ?_)
      · exact ⟨rfl, _, rfl, _, rfl, _, _, rfl, rfl, x, _, _, rfl, hx x hx', acc, hacc, hlen, hN _ (same_at s1 hD) upd_same⟩
      · have e : xs.flatMap (fun x => [V.bl (numB x 0 (m - 1))]) = (xs.map fun x => numB x 0 (m - 1)).map V.bl := by rw [flat_map, List.map_map] <;> rfl
        rw [e] at hd
        refine ⟨D, _, rfl, SqL.of hd, ?_⟩
        unfold ascV at q
        cases e2 : (xs.map fun x => numB x 0 (m - 1)).all id with
        | false =>
          rw [e2] at q
          exact ⟨false, rfl, q _ s1⟩
        | true =>
          rw [e2] at q
          have e3 : xs = (xs.map intOf).map V.int := by
            rw [List.map_map]
            refine (List.map_id xs).symm.trans (List.map_congr_left fun x hx' => ?_)
            have h4 := List.all_eq_true.mp e2 _ (List.mem_map.mpr ⟨x, hx', rfl⟩)
            rcases hx x hx' with ⟨i, rfl⟩ | ⟨b, rfl⟩
            · rfl
            · cases h4
          refine ⟨true, rfl, _, rfl, a, xs.map intOf, rfl, by rw [← e3]; exact seqT s1 hT, by rw [List.length_map]; exact hl, fun H2 s2 => ?_⟩
          exact q _ (s1.trans s2)
    · obtain ⟨t, ty, hk⟩ := NT.ty (K := K) hn
      exact ⟨_, rfl, _, _, _, _, false, rfl, .ty "tuple", ty, hk, false, rfl, q⟩
theorem Rows.ext {H H' : Hp} (s : Same H H') : ∀ {xs : List V} {rs : List (Option (List V))}, Rows K H xs rs → Rows K H' xs rs
  | [], [], _ => trivial
  | _ :: _, _ :: _, h => ⟨h.1.ext s, h.2.ext s⟩
  | [], _ :: _, h => h.elim
  | _ :: _, [], h => h.elim
theorem Rows.len {H : Hp} : ∀ {xs : List V} {rs : List (Option (List V))}, Rows K H xs rs → xs.length = rs.length
  | [], [], _ => rfl
  | _ :: _, _ :: _, h => congrArg Nat.succ h.2.len
  | [], _ :: _, h => h.elim
  | _ :: _, [], h => h.elim
theorem Rows.mem {H : Hp} : ∀ {xs : List V} {rs : List (Option (List V))}, Rows K H xs rs → ∀ p ∈ xs.zip rs, RowV K H p.1 p.2
  | [], [], _, _, hp => (List.not_mem_nil hp).elim
  | _ :: _, _ :: _, h, p, hp => (List.mem_cons.mp hp).elim (fun e => e ▸ h.1) fun z => h.2.mem p z
  | [], _ :: _, h, _, _ => h.elim
  | _ :: _, [], h, _, _ => h.elim
abbrev rLn (K : Frag) : List V → Hp → VK → Prop := fun xs H Q => ∃ p ys, xs = [.ref p] ∧ (SqL K H p ys ∨ SqT K H p ys) ∧ Q (.int ys.length) H
def rowOk (wd m : Int) : Option (List V) → Bool
  | some xs => rowB xs wd m
  | none => false
theorem ok_table {f g : Addr} {fd gd : FuncData} (F : Fun K "is_table" "is_table" sIsTab f fd) (T : TN mg) (A1 : Fn K mg "_is_row" sIsRow ["value", "width", "many"] g gd) (G1 : FnOk P w K mg base CX0 3 g gd ["value", "width", "many"] (spRow K)) :
    FnOk P w K mg base CX0 4 f fd ["value", "width", "most"] (spTab K) := by
  refine F.ok scTb (fun vs H Q E h => ?_) (fun cdv A outer s H vs Q E hr h => ?_)
  · obtain ⟨v, wd, m, rfl, _⟩ := h
    rfl
  · obtain ⟨v, wd, m, rfl, h⟩ := h
    refine ⟨_, pss_cons (ps_if (PW.pt (pw_or (pt_not (pt_val (pe_callB call_isi (by rfl) T.isi (by decide +kernel) (pa_cons (pv 0) (pa_cons (pe_ty "tuple" T.tuple (by decide +kernel)) pa_nil)))))
        (pw_or1 (pt_not (pt_chain op_le op_le pe_int (pe_callB call_len_seq (by rfl) T.len PySem.boot_len (pa_cons (pv 0) pa_nil)) (pv 2)))))) (pss_one (ps_ret pe_bl)) pss_nil)
      (pss_one (ps_ret (pe_callB (cr_all rfl) (by rfl) T.all (by decide +kernel) (pa_cons (pe_lc (own := [("row", 3)]) (g := gName 3) (tt := tYes)
        (te := tCall (spRow K) [] E0 (tCons (tVar 3) (tCons (tVar 1) (tCons (tCB (rLn K) (tCons (tVar 0) tNil)) tNil)))) rfl scTb.nd (pi_tup (pv 0))
        (blkOk_by (own := [("row", 3)]) (N := ["value", "width", "most", "row"]) (sc := defScope sIsTab) (by decide +kernel)) (fun _ _ _ _ _ => pg_name (i := 3) scTb.nd rfl (Or.inl rfl)) (fun _ _ _ _ _ => pts_nil)
        (fun _ _ _ _ _ => pe_call G1 hr rfl A1.g A1.F.kp A1.b .nil pass0 (pa_cons (pv 3) (pa_cons (pv 1) (pa_cons (pe_callB call_len_seq (by rfl) T.len PySem.boot_len (pa_cons (pv 0) pa_nil)) pa_nil))))) pa_nil)))), ?_⟩
    rcases h with ⟨a, xs, rs, rfl, hT, hl, hR, q⟩ | ⟨hn, q⟩
    · refine ⟨_, rfl, _, _, _, _, true, rfl, .ty "tuple", tyT hT, kit_ty (by decide +kernel), true, rfl, ?_⟩
      have hlen := hR.len
      have q0 : ∀ H', Same H H' → Q (.bl (decide (1 ≤ (xs.length : Int)) && decide ((xs.length : Int) ≤ m) && (rs.map (rowOk wd xs.length)).all id)) H' := fun H' s => by
        have e : tabB rs wd m = (decide (1 ≤ (xs.length : Int)) && decide ((xs.length : Int) ≤ m) && (rs.map (rowOk wd xs.length)).all id) := by
          unfold tabB
          rw [hlen]
          rfl
        rw [← e]
        exact q H' s
      refine ⟨_, rfl, a, xs, rfl, .inr hT, _, _, rfl, rfl, _, rfl, ?_⟩
      by_cases h1 : 1 ≤ (xs.length : Int)
      · rw [decide_eq_true h1] at q0 ⊢
        refine ⟨_, rfl, _, _, rfl, rfl, _, rfl, ?_⟩
        by_cases h2 : (xs.length : Int) ≤ m
        · rw [decide_eq_true h2] at q0 ⊢
          refine ⟨_, rfl, a, rfl, ⟨_, hT⟩, fun D hD => ?_⟩
          have hT' : SqT K H a ((xs.zip rs).map (·.1)) := by rw [List.map_fst_zip (Nat.le_of_eq hlen)]; exact hT
          have hz : (xs.zip rs).length < sizeLine := by rw [List.length_zip, sizeLine_eq]; omega
          refine same_tup (l := xs.zip rs) (val := (·.1)) (r := fun p => [V.bl (rowOk wd xs.length p.2)]) hD hT' hz (fun _ => Nat.le_refl _) (fun p hp H1 acc s1 hacc hlen1 N hN => ?_) (fun H1 s1 hd => ?_)
          · refine ⟨rfl, _, rfl, _, rfl, _, rfl, a, xs, rfl, .inr (seqT s1 hT), p.1, _, _, p.2, rfl, (hR.mem p hp).ext s1, fun H2 s2 => ?_⟩
            refine ⟨acc, s2 _ _ hacc, hlen1, hN _ (same_at (s1.trans s2) hD) ?_⟩
            rw [upd_same]
            cases p.2 <;> rfl
          · have e : (xs.zip rs).flatMap (fun p => [V.bl (rowOk wd xs.length p.2)]) = (rs.map (rowOk wd xs.length)).map V.bl := by
              rw [flat_map, List.map_map]
              conv => rhs; rw [← List.map_snd_zip (l₁ := xs) (l₂ := rs) (Nat.le_of_eq hlen.symm)]
              rw [List.map_map] <;> rfl
            rw [e] at hd
            exact ⟨D, _, rfl, SqL.of hd, q0 _ s1⟩
        · rw [decide_eq_false h2] at q0 ⊢
          exact q0 _ (Same.refl H)
      · rw [decide_eq_false h1] at q0 ⊢
        exact ⟨false, rfl, q0 _ (Same.refl H)⟩
    · obtain ⟨t, ty, hk⟩ := NT.ty (K := K) hn
      exact ⟨_, rfl, _, _, _, _, false, rfl, .ty "tuple", ty, hk, false, rfl, q⟩
end
end WK
set_option Elab.async false
set_option linter.all false
set_option maxRecDepth 100000
set_option maxHeartbeats 8000000
namespace WK
open PySem L2 PyProof.Rows LCX
open PySem.W (Frag kitOne)
abbrev sAct : Stmt := top 70
abbrev sLTab : Stmt := top 71
abbrev sLMac : Stmt := top 72
theorem noD {H H' : Hp} {p D : Addr} (b : But p H H') (h : H' D = none) (hD : DiceAt H' p) : H D = none := but_free b h (hD.ne h)
/-- a list of drawn numbers: the dice roll at each turn -/
theorem rolls {g : TG} {tt : TT} {te : TE} {vs : List Nat} {σ : L2.St} {p D : Addr} {H : Hp} {n : Nat} {Qd : Hp → Prop} (good : Int → Prop) (hn : n < sizeLine) (hD : DiceAt H p) (hd : H D = none)
    (hs : ∀ i : Nat, i < n → ∀ (H3 : Hp) (ns : List Int), DiceAt H3 p → H3 D = some (.lst (ns.map V.int)) → ns.length = i → ∀ N : Hp → Prop, (∀ (k : Int) (H4 : Hp), good k → DiceAt H4 p → But p H3 H4 → N (upd H4 D (.lst (ns.map V.int ++ [V.int k])))) →
      Turn g tt te vs σ D (.int (0 + i)) H3 N)
    (hq : ∀ (H3 : Hp) (ns : List Int), DiceAt H3 p → But p H H3 → H3 D = some (.lst (ns.map V.int)) → ns.length = n → (∀ k ∈ ns, good k) → Qd H3) : Went (Itr 0 n) g tt te vs σ D H Qd := by
  have Dp := hD.ne hd
  refine lc_range (lo := 0) (n := n) (fun i H3 => DiceAt H3 p ∧ But p H H3 ∧ ∃ ns : List Int, ns.length = i ∧ (∀ k ∈ ns, good k) ∧ H3 D = some (.lst (ns.map V.int))) ⟨hD.new hd, but_two (But.refl p H) hd, [], rfl, fun k hk => (nomatch hk), upd_same⟩ ?_ ?_
  · rintro i H3 hi ⟨hD3, hB3, ns, hl, hg, h3⟩
    refine hs i hi H3 ns hD3 h3 hl _ fun k H4 hk hD4 hB4 => ⟨hD4.keep fun o e => by rw [upd_ne (Ne.symm Dp)]; exact e, but_at (hB3.trans hB4) hd, ns ++ [k], ?_, ?_, ?_⟩
    · rw [List.length_append, hl] <;> rfl
    · intro j hj
      rcases List.mem_append.mp hj with z | z
      · exact hg j z
      · rw [List.mem_singleton.mp z]
        exact hk
    · rw [upd_same, List.map_append] <;> rfl
  · rintro H3 ⟨hD3, hB3, ns, hl, hg, h3⟩
    exact hq H3 ns hD3 hB3 h3 hl hg
theorem rgV_bel {n : Int} (h : 0 ≤ n) : ∃ ns : List Int, rgV 0 n = ns.map V.int ∧ (ns.length : Int) = n ∧ Bel n ns := by
  refine ⟨(List.range (n - 0).toNat).map fun i => 0 + ((i : Nat) : Int), by rw [List.map_map] <;> rfl, by rw [List.length_map, List.length_range]; omega, fun i hi => ?_⟩
  obtain ⟨j, hj, rfl⟩ := List.mem_map.mp hi
  have := List.mem_range.mp hj
  omega
def spAct : Sp := fun vs H Q _ => ∃ (p : Addr) (n s : Int), vs = [.ref p, .int n, .int s] ∧ DiceAt H p ∧ 1 ≤ n ∧ n ≤ 60 ∧ ∀ (l : Addr) (ns : List Int) (H' : Hp), H l = none → l ≠ p → DiceAt H' p → But p H H' → H' l = some (.lst (ns.map V.int)) → (ns.length : Int) = n → Bel n ns → Q (.ref l) H'
abbrev NAc : List Str := ["_law_dice_here", "_law_size", "_law_sort", "_law_spot", "_law_by", "_law_found", "_law_one", "_law_other", "_law_place"]
section
variable {P : Program} {w : World} {K : PySem.W.Frag} {mg : Str → Option Value} {base : Heap} {fR fO fA fT : Addr} {dR dO dA dT : FuncData}
theorem scAc : FnScope NAc ["_law_dice_here", "_law_size", "_law_sort"] (defScope sAct) := ⟨rfl, rfl, rfl, by decide +kernel, rfl, by decide +kernel, by decide +kernel⟩
theorem Bel.set {n b : Int} {ns : List Int} (h : Bel n ns) (hb : 0 ≤ b ∧ b < n) (j : Nat) : Bel n (ns.set j b) := fun i hi => (List.mem_or_eq_of_mem_set hi).elim (h i) fun e => e ▸ hb
theorem ixN_in {n : Nat} {i : Int} (h0 : 0 ≤ i) (h1 : i < n) : ixN n i = some i.toNat := by
  unfold ixN
  rw [if_pos h0, if_pos h1]
theorem ok_act {f : Addr} {fd : FuncData} (F : Fun K "_law_action" "_law_action" sAct f fd) (T : TN mg) (AR : Fn K mg "_law_roll" sRoll ["_law_dice_here", "_law_total"] fR dR) :
    FnOk P w K mg base CX0 2 f fd ["_law_dice_here", "_law_size", "_law_sort"] spAct := by
  have GR : FnOk P w K mg base CX0 1 fR dR ["_law_dice_here", "_law_total"] spRoll := ok_roll AR.F T.dice
  refine F.ok scAc (fun vs H Q E h => ?_) (fun cdv A outer s H vs Q E hr h => ?_)
  · obtain ⟨p, n, s, rfl, _⟩ := h
    rfl
  · obtain ⟨p, n, s, rfl, hD, h1, h60, q⟩ := h
    refine ⟨_, pss_cons (ps_if (pt_cmpR op_eq (pv 2) pe_int (nomark _)) (pss_one (ps_ret (pe_lc (own := [("_law_place", 8)]) (g := gName 8) (tt := tYes) rfl scAc.nd (pi_range1 rfl T.rng (pa_cons (pv 1) pa_nil))
        (blkOk_by (own := [("_law_place", 8)]) (N := NAc) (sc := defScope sAct) (by decide +kernel)) (fun _ _ _ _ _ => pg_name (i := 8) scAc.nd rfl (Or.inl rfl)) (fun _ _ _ _ _ => pts_nil)
        (fun _ _ _ _ _ => pe_op op_add (pv 8) (pe_call GR hr rfl AR.g AR.F.kp AR.b .nil pass0 (pa_cons (pv 0) (pa_cons (pe_op op_sub (pv 1) (pv 8)) pa_nil))))))) pss_nil)
      (pss_cons (ps_if (pt_cmpR op_eq (pv 2) pe_int (nomark _)) (pss_cons (ps_set (i := 3) scAc.nd rfl (Or.inr rfl) (pe_call GR hr rfl AR.g AR.F.kp AR.b .nil pass0 (pa_cons (pv 0) (pa_cons (pv 1) pa_nil))))
        (pss_one (ps_ret (pe_lc (own := [("_law_place", 8)]) (g := gName 8) (tt := tYes) rfl scAc.nd (pi_range1 rfl T.rng (pa_cons (pv 1) pa_nil))
        (blkOk_by (own := [("_law_place", 8)]) (N := NAc) (sc := defScope sAct) (by decide +kernel)) (fun _ _ _ _ _ => pg_name (i := 8) scAc.nd rfl (Or.inl rfl)) (fun _ _ _ _ _ => pts_nil)
        (fun _ _ _ _ _ => pv 3))))) pss_nil)
      (pss_cons (ps_if (pt_cmpR op_eq (pv 2) pe_int (nomark _)) (pss_cons (ps_set (i := 4) scAc.nd rfl (Or.inr rfl) (pe_call GR hr rfl AR.g AR.F.kp AR.b .nil pass0 (pa_cons (pv 0) (pa_cons (pv 1) pa_nil))))
        (pss_one (ps_ret (pe_lc (own := [("_law_place", 8)]) (g := gName 8) (tt := tYes) rfl scAc.nd (pi_range1 rfl T.rng (pa_cons (pv 1) pa_nil))
        (blkOk_by (own := [("_law_place", 8)]) (N := NAc) (sc := defScope sAct) (by decide +kernel)) (fun _ _ _ _ _ => pg_name (i := 8) scAc.nd rfl (Or.inl rfl)) (fun _ _ _ _ _ => pts_nil)
        (fun _ _ _ _ _ => pe_op op_mod (pe_callTy call_int1 (by rfl) T.int (by decide +kernel) (pa_cons (pe_op op_add (pv 8) (pv 4)) pa_nil)) (pv 1)))))) pss_nil)
      (pss_cons (ps_if (pt_cmpR op_eq (pv 2) pe_int (nomark _)) (pss_one (ps_ret (pe_listRg rfl rfl T.list (prg_1 rfl T.rng (pv 1))))) pss_nil)
      (pss_cons (ps_if (pt_cmpR op_eq (pv 2) pe_int (nomark _)) (pss_one (ps_ret (pe_callB cr_sorted (by rfl) T.sorted (by decide +kernel) (pa_cons (pe_lc (own := [("_law_place", 8)]) (g := gName 8) (tt := tYes) rfl scAc.nd (pi_range1 rfl T.rng (pa_cons (pv 1) pa_nil))
        (blkOk_by (own := [("_law_place", 8)]) (N := NAc) (sc := defScope sAct) (by decide +kernel)) (fun _ _ _ _ _ => pg_name (i := 8) scAc.nd rfl (Or.inl rfl)) (fun _ _ _ _ _ => pts_nil)
        (fun _ _ _ _ _ => pe_call GR hr rfl AR.g AR.F.kp AR.b .nil pass0 (pa_cons (pv 0) (pa_cons (pv 1) pa_nil)))) pa_nil)))) pss_nil)
      (pss_cons (ps_set (i := 5) scAc.nd rfl (Or.inl rfl) (pe_ifExp (pt_cmpR op_eq (pv 2) pe_int (nomark _)) (pe_lc (own := [("_law_place", 8)]) (g := gName 8) (tt := tYes) rfl scAc.nd (pi_range1 rfl T.rng (pa_cons (pv 1) pa_nil))
        (blkOk_by (own := [("_law_place", 8)]) (N := NAc) (sc := defScope sAct) (by decide +kernel)) (fun _ _ _ _ _ => pg_name (i := 8) scAc.nd rfl (Or.inl rfl)) (fun _ _ _ _ _ => pts_nil)
        (fun _ _ _ _ _ => pe_call GR hr rfl AR.g AR.F.kp AR.b .nil pass0 (pa_cons (pv 0) (pa_cons (pv 1) pa_nil)))) (pe_listRg rfl rfl T.list (prg_1 rfl T.rng (pv 1)))))
      (pss_cons (ps_if (pt_cmpR op_eq (pv 2) pe_int (nomark _)) (pss_cons (ps_par rfl scAc.nd (i := 6) (j := 7) rfl rfl (by decide) rfl rfl (pa_cons (pe_call GR hr rfl AR.g AR.F.kp AR.b .nil pass0 (pa_cons (pv 0) (pa_cons (pv 1) pa_nil))) (pa_cons (pe_call GR hr rfl AR.g AR.F.kp AR.b .nil pass0 (pa_cons (pv 0) (pa_cons (pv 1) pa_nil))) pa_nil)) (by rfl))
        (pss_one (ps_asg (pe_tup (pa_cons (pv 7) (pa_cons (pv 6) pa_nil))) (pg_tup (by rfl) (pgs_cons (pg_sub (pv 5) (pv 6) set_list (fun _ => rfl)) (pgs_cons (pg_sub (pv 5) (pv 7) set_list (fun _ => rfl)) pgs_nil)))))) pss_nil)
      (pss_one (ps_ret (pv 5))))))))), ?_⟩
    have hn : n.toNat < sizeLine := by rw [sizeLine_eq]; omega
    have hln : ∀ ns : List Int, ns.length = n.toNat → (ns.length : Int) = n := fun ns e => by omega
    have hsz : ∀ (i : Nat) (ns : List Int), ns.length = i → i < n.toNat → (ns.map V.int).length < sizeLine := fun i ns e hi => by rw [List.length_map, sizeLine_eq]; omega
    have hrg : RgOk 0 n := RgOk.of_le (by decide) (by omega) (by decide) (by omega)
    -- 1: up
    refine ⟨_, rfl, rfl, _, rfl, ite2 (fun _ => ?_) (fun _ => ?_)⟩
    · refine ⟨_, rfl, _, rfl, by omega, by omega, fun D hD2 => ?_⟩
      refine rolls (fun k => 0 ≤ k ∧ k < n) hn hD hD2 (fun i hi H3 ns hD3 h3 hli N hN => ?_) fun H3 ns hD3 hB3 h3 hl hg => q D ns H3 hD2 (hD.ne hD2) hD3 hB3 h3 (hln ns hl) hg
      refine ⟨rfl, _, rfl, _, rfl, _, rfl, _, rfl, _, _, rfl, rfl, p, _, rfl, hD3, by omega, by omega, fun r H4 r0 r1 hD4 hB4 => ⟨_, _, rfl, rfl, _, hB4 _ _ h3 (hD.ne hD2), hsz i ns hli hi, hN _ H4 ⟨by omega, by omega⟩ hD4 hB4⟩⟩
    -- 2: to one place
    refine ⟨_, rfl, rfl, _, rfl, ite2 (fun _ => ?_) (fun _ => ?_)⟩
    · refine ⟨_, rfl, _, rfl, p, _, rfl, hD, by omega, by omega, fun r H1 r0 r1 hD1 hB1 => ?_⟩
      refine ⟨_, rfl, _, rfl, by omega, by omega, fun D hD2 => ?_⟩
      refine rolls (fun k => 0 ≤ k ∧ k < n) hn hD1 hD2 (fun i hi H3 ns hD3 h3 hli N hN => ?_) fun H3 ns hD3 hB3 h3 hl hg => q D ns H3 (noD hB1 hD2 hD1) (hD1.ne hD2) hD3 (hB1.trans hB3) h3 (hln ns hl) hg
      refine ⟨rfl, _, rfl, _, h3, hsz i ns hli hi, hN _ H3 ⟨r0, r1⟩ hD3 (But.refl _ _)⟩
    -- 3: round
    refine ⟨_, rfl, rfl, _, rfl, ite2 (fun _ => ?_) (fun _ => ?_)⟩
    · refine ⟨_, rfl, _, rfl, p, _, rfl, hD, by omega, by omega, fun r H1 r0 r1 hD1 hB1 => ?_⟩
      refine ⟨_, rfl, _, rfl, by omega, by omega, fun D hD2 => ?_⟩
      refine rolls (fun k => 0 ≤ k ∧ k < n) hn hD1 hD2 (fun i hi H3 ns hD3 h3 hli N hN => ?_) fun H3 ns hD3 hB3 h3 hl hg => q D ns H3 (noD hB1 hD2 hD1) (hD1.ne hD2) hD3 (hB1.trans hB3) h3 (hln ns hl) hg
      refine ⟨rfl, _, rfl, _, rfl, _, _, rfl, rfl, .inl ⟨_, rfl, _, rfl, _, _, rfl, rfl, by omega, _, h3, hsz i ns hli hi, hN _ H3 ⟨?_, ?_⟩ hD3 (But.refl _ _)⟩⟩
      · exact Int.emod_nonneg _ (by omega)
      · exact Int.emod_lt_of_pos _ (by omega)
    -- 4: nowhere
    refine ⟨_, rfl, rfl, _, rfl, ite2 (fun _ => ?_) (fun _ => ?_)⟩
    · refine ⟨_, rfl, n, rfl, hrg, fun l hl => ?_⟩
      obtain ⟨ns, e, hl1, hb⟩ := rgV_bel (n := n) (by omega)
      exact q l ns _ hl (hD.ne hl) (hD.new hl) (but_two (But.refl _ _) hl) (by rw [upd_same, e]) hl1 hb
    -- 5: in order
    refine ⟨_, rfl, rfl, _, rfl, ite2 (fun _ => ?_) (fun _ => ?_)⟩
    · refine ⟨_, rfl, _, rfl, by omega, by omega, fun D hD2 => ?_⟩
      refine rolls (fun k => 0 ≤ k ∧ k < n) hn hD hD2 (fun i hi H3 ns hD3 h3 hli N hN => ?_) fun H3 ns hD3 hB3 h3 hl hg => ?_
      · refine ⟨rfl, _, rfl, _, rfl, p, _, rfl, hD3, by omega, by omega, fun r H4 r0 r1 hD4 hB4 => ⟨_, hB4 _ _ h3 (hD.ne hD2), hsz i ns hli hi, hN _ H4 ⟨r0, r1⟩ hD4 hB4⟩⟩
      · refine ⟨D, ns, rfl, SqL.of h3, by omega, fun ns' t hp _ ht => ?_⟩
        exact q t ns' _ (noD hB3 ht hD3) (hD3.ne ht) (hD3.new ht) (but_two hB3 ht) upd_same (by rw [hp.length_eq]; exact hln ns hl) fun k hk => hg k (hp.mem_iff.mp hk)
    -- anyhow, or in order; then perhaps two exchanged
    refine ⟨_, rfl, rfl, _, rfl, ite2 (fun _ => ?_) (fun _ => ?_)⟩
    · refine ⟨_, rfl, _, rfl, by omega, by omega, fun l hl0 => ?_⟩
      refine rolls (fun k => 0 ≤ k ∧ k < n) hn hD hl0 (fun i hi H3 ns hD3 h3 hli N hN => ?_) fun H3 ns hD3 hB3 h3 hl hg => ?_
      · exact ⟨rfl, _, rfl, _, rfl, p, _, rfl, hD3, by omega, by omega, fun r H4 r0 r1 hD4 hB4 => ⟨_, hB4 _ _ h3 (hD.ne hl0), hsz i ns hli hi, hN _ H4 ⟨r0, r1⟩ hD4 hB4⟩⟩
      have lp := hD.ne hl0
      have hlen := hln ns hl
      have hb : Bel n ns := hg
      clear hl hg
      refine ⟨_, rfl, rfl, _, rfl, ite2 (fun _ => ?_) (fun _ => ?_)⟩
      refine ⟨_, rfl, _, rfl, p, _, rfl, hD3, by omega, by omega, fun a H4 a0 a1 hD4 hB4 => ?_⟩
      refine ⟨_, rfl, _, rfl, p, _, rfl, hD4, by omega, by omega, fun b H5 b0 b1 hD5 hB5 => ?_⟩
      refine ⟨_, _, rfl, ?_⟩
      refine ⟨_, rfl, _, rfl, (by rw [sizeLine_eq]; show 2 ≤ 16777216; decide), fun t ht => ?_⟩
      have h5 : H5 l = some (.lst (ns.map V.int)) := hB5 _ _ (hB4 _ _ h3 lp) lp
      have h6 : (upd H5 t (.tup [V.int b, V.int a])) l = some (.lst (ns.map V.int)) := same_upd ht _ _ h5
      refine ⟨t, _, rfl, SqT.of upd_same, rfl, ?_⟩
      refine ⟨_, _, rfl, _, rfl, _, rfl, l, _, a, a.toNat, rfl, rfl, h6, ixN_in a0 (by rw [List.length_map]; omega), ?_⟩
      refine ⟨_, _, rfl, _, rfl, _, rfl, l, _, b, b.toNat, rfl, rfl, upd_same, ixN_in b0 (by rw [List.length_set, List.length_map]; omega), ?_⟩
      have kp : ∀ (G : Hp) (o : HO), DiceAt G p → DiceAt (upd G l o) p := fun G o hG => hG.keep fun _ e => by rw [upd_ne (Ne.symm lp)]; exact e
      refine ⟨rfl, _, rfl, q l ((ns.set a.toNat b).set b.toNat a) _ hl0 lp (kp _ _ (kp _ _ (hD5.new ht))) (but_at (but_at (but_two ((hB3.trans hB4).trans hB5) ht) hl0) hl0) (by rw [upd_same, List.map_set, List.map_set]) (by rw [List.length_set, List.length_set]; exact hlen) ((hb.set ⟨b0, b1⟩ _).set ⟨a0, a1⟩ _)⟩
      exact ⟨_, rfl, q l ns H3 hl0 lp hD3 hB3 h3 hlen hb⟩
    · refine ⟨_, rfl, n, rfl, hrg, fun l hl0 => ?_⟩
      obtain ⟨ns, e, hl1, hb⟩ := rgV_bel (n := n) (by omega)
      have lp := hD.ne hl0
      have hlen := hl1
      have hD3 : DiceAt (upd H l (.lst (rgV 0 n))) p := hD.new hl0
      have hB3 : But p H (upd H l (.lst (rgV 0 n))) := but_two (But.refl _ _) hl0
      have h3 : (upd H l (.lst (rgV 0 n))) l = some (.lst (ns.map V.int)) := by rw [upd_same, e]
      clear hl1 e
      generalize upd H l (.lst (rgV 0 n)) = H3 at hD3 hB3 h3 ⊢
      refine ⟨_, rfl, rfl, _, rfl, ite2 (fun _ => ?_) (fun _ => ?_)⟩
      refine ⟨_, rfl, _, rfl, p, _, rfl, hD3, by omega, by omega, fun a H4 a0 a1 hD4 hB4 => ?_⟩
      refine ⟨_, rfl, _, rfl, p, _, rfl, hD4, by omega, by omega, fun b H5 b0 b1 hD5 hB5 => ?_⟩
      refine ⟨_, _, rfl, ?_⟩
      refine ⟨_, rfl, _, rfl, (by rw [sizeLine_eq]; show 2 ≤ 16777216; decide), fun t ht => ?_⟩
      have h5 : H5 l = some (.lst (ns.map V.int)) := hB5 _ _ (hB4 _ _ h3 lp) lp
      have h6 : (upd H5 t (.tup [V.int b, V.int a])) l = some (.lst (ns.map V.int)) := same_upd ht _ _ h5
      refine ⟨t, _, rfl, SqT.of upd_same, rfl, ?_⟩
      refine ⟨_, _, rfl, _, rfl, _, rfl, l, _, a, a.toNat, rfl, rfl, h6, ixN_in a0 (by rw [List.length_map]; omega), ?_⟩
      refine ⟨_, _, rfl, _, rfl, _, rfl, l, _, b, b.toNat, rfl, rfl, upd_same, ixN_in b0 (by rw [List.length_set, List.length_map]; omega), ?_⟩
      have kp : ∀ (G : Hp) (o : HO), DiceAt G p → DiceAt (upd G l o) p := fun G o hG => hG.keep fun _ e => by rw [upd_ne (Ne.symm lp)]; exact e
      refine ⟨rfl, _, rfl, q l ((ns.set a.toNat b).set b.toNat a) _ hl0 lp (kp _ _ (kp _ _ (hD5.new ht))) (but_at (but_at (but_two ((hB3.trans hB4).trans hB5) ht) hl0) hl0) (by rw [upd_same, List.map_set, List.map_set]) (by rw [List.length_set, List.length_set]; exact hlen) ((hb.set ⟨b0, b1⟩ _).set ⟨a0, a1⟩ _)⟩
      exact ⟨_, rfl, q l ns H3 hl0 lp hD3 hB3 h3 hlen hb⟩
end
end WK
set_option Elab.async false
set_option linter.all false
set_option maxRecDepth 100000
set_option maxHeartbeats 8000000
namespace WK
open PySem L2 PyProof.Rows LCX K1
open TX (sg sigs)
open PySem.W (Frag kitOne)
abbrev oLst (r : List Int) : HO := .lst (r.map V.int)
/-- a plain table at l: a list of tuples -/
def PTab (H : Hp) (l : Addr) (tb : List (List Int)) : Prop := ∃ as, H l = some (.lst (as.map V.ref)) ∧ Objs oTup H as tb
/-- a table of n rows, each of wd numbers below n -/
structure TabOk (tb : List (List Int)) (wd : Nat) (n : Int) : Prop where
  len : (tb.length : Int) = n
  row : ∀ r ∈ tb, r.length = wd ∧ Bel n r
theorem DiceAt.tup {H : Hp} {p a : Addr} {xs : List V} (h : DiceAt H p) (e : H a = some (.tup xs)) : a ≠ p := fun z => by
  obtain ⟨x, y, w, k, _⟩ := h
  rw [z, k] at e
  cases e
theorem PTab.but {H H' : Hp} {p l : Addr} {tb : List (List Int)} (h : PTab H l tb) (lp : l ≠ p) (hD : DiceAt H p) (b : But p H H') : PTab H' l tb := by
  obtain ⟨as, h1, h2⟩ := h
  exact ⟨as, b _ _ h1 lp, h2.to fun a _ r e => b _ _ e (hD.tup e)⟩
def spLTab : Sp := fun vs H Q _ => ∃ (p q : Addr) (L : W) (n : Int) (ss : List Int), vs = [.ref p, .str (tx L), .int n, .ref q] ∧ DiceAt H p ∧ L ≠ [] ∧ L.length ≤ 26 ∧ 1 ≤ n ∧ n ≤ 60 ∧ q ≠ p ∧ H q = some (.lst (ss.map V.int)) ∧ ss ≠ [] ∧ ss.length ≤ 100 ∧
  ∀ (l : Addr) (tb : List (List Int)) (H' : Hp), H l = none → l ≠ p → DiceAt H' p → But p H H' → PTab H' l tb → TabOk tb L.length n → Q (.ref l) H'
abbrev NTb : List Str := ["_law_dice_here", "_law_letters_here", "_law_size", "_law_sorts", "_law_rows", "_law_letter", "_law_place", "_law_row"]
abbrev scT2 : Scope := { kind := .function, names := [(".0", .local), ("_law_place", .cell), ("tuple", .globalImplicit), ("_law_rows", .cell)], isGenerator := false, isCoroutine := false }
abbrev rTupL (K : Frag) : List V → Hp → VK → Prop := fun xs H Q => ∃ p ys, xs = [.ref p] ∧ ((SqL K H p ys ∧ ∀ l, H l = none → Q (.ref l) (upd H l (.tup ys))) ∨ (SqT K H p ys ∧ Q (.ref p) H))
section
variable {P : Program} {w : World} {K : PySem.W.Frag} {mg : Str → Option Value} {base : Heap} {fR fO fA fT : Addr} {dR dO dA dT : FuncData}
theorem scTa : FnScope NTb ["_law_dice_here", "_law_letters_here", "_law_size", "_law_sorts"] (defScope sLTab) := ⟨rfl, rfl, rfl, by decide +kernel, rfl, by decide +kernel, by decide +kernel⟩
theorem ok_ltab {f : Addr} {fd : FuncData} (F : Fun K "_law_table" "_law_table" sLTab f fd) (T : TN mg) (AR : Fn K mg "_law_roll" sRoll ["_law_dice_here", "_law_total"] fR dR) (AO : Fn K mg "_law_one_of" sOne ["_law_dice_here", "_law_items"] fO dO)
    (AA : Fn K mg "_law_action" sAct ["_law_dice_here", "_law_size", "_law_sort"] fA dA) : FnOk P w K mg base CX0 3 f fd ["_law_dice_here", "_law_letters_here", "_law_size", "_law_sorts"] spLTab := by
  have GO : FnOk P w K mg base CX0 2 fO dO ["_law_dice_here", "_law_items"] spOne := ok_one AO.F T.dice AR.g AR.F AR.b
  have GA : FnOk P w K mg base CX0 2 fA dA ["_law_dice_here", "_law_size", "_law_sort"] spAct := ok_act AA.F T AR
  refine F.ok scTa (fun vs H Q E h => ?_) (fun cdv A outer s H vs Q E hr h => ?_)
  · obtain ⟨p, q, L, n, ss, rfl, _⟩ := h
    rfl
  · obtain ⟨p, q, L, n, ss, rfl, hD, hL, hL2, h1, h60, qp, hq, hs0, hs1, k⟩ := h
    refine ⟨_, pss_cons (ps_set (i := 4) scTa.nd rfl (Or.inr rfl) (pe_lc (own := [("_law_letter", 5)]) (g := gName 5) (tt := tYes) rfl scTa.nd (pi_str (pv 1))
        (blkOk_by (own := [("_law_letter", 5)]) (N := NTb) (sc := defScope sLTab) (by decide +kernel)) (fun _ _ _ _ _ => pg_name (i := 5) scTa.nd rfl (Or.inl rfl)) (fun _ _ _ _ _ => pts_nil)
        (fun _ _ _ _ _ => pe_call GA hr rfl AA.g AA.F.kp AA.b .nil pass0 (pa_cons (pv 0) (pa_cons (pv 2) (pa_cons (pe_call GO hr rfl AO.g AO.F.kp AO.b .nil pass0 (pa_cons (pv 0) (pa_cons (pv 3) pa_nil))) pa_nil))))))
      (pss_one (ps_ret (pe_lc (own := [("_law_place", 6)]) (g := gName 6) (tt := tYes) (te := tCB (rTupL K) (tCons (tLc (iList K (tVar 4)) (gName 7) tYes (tOp (rIxL K) (tVar 7) (tVar 6)) [7]) tNil)) rfl scTa.nd (pi_range1 rfl T.rng (pa_cons (pv 2) pa_nil))
        (blkOk_by (own := [("_law_place", 6)]) (N := NTb) (sc := defScope sLTab) (by decide +kernel)) (fun _ _ _ _ _ => pg_name (i := 6) scTa.nd rfl (Or.inr rfl)) (fun _ _ _ _ _ => pts_nil)
        (fun _ _ _ _ _ => pe_callTy call_tuple_of (by rfl) T.tuple (by decide +kernel) (pa_cons (pe_lc (own := [("_law_row", 7)]) (g := gName 7) (tt := tYes) (te := tOp (rIxL K) (tVar 7) (tVar 6)) rfl scTa.nd (pi_list (pv 4))
          (blkOk_by (own := [("_law_row", 7)]) (N := NTb) (sc := scT2) (by decide +kernel)) (fun _ _ _ _ _ => pg_name (i := 7) scTa.nd rfl (Or.inl rfl)) (fun _ _ _ _ _ => pts_nil)
          (fun _ _ _ _ _ => pe_ix ix_list (pv 7) (pv 6) (fun _ _ => rfl))) pa_nil))))), ?_⟩
    have ssp : 0 < (ss.map V.int).length := by rw [List.length_map]; exact List.length_pos_iff.mpr hs0
    have ss1 : (ss.map V.int).length < 1000000 := by rw [List.length_map]; omega
    refine ⟨_, rfl, tx L, rfl, fun D hD2 => ?_⟩
    have Dp := hD.ne hD2
    have qD : q ≠ D := ne_of_none hq hD2
    refine lc_it walk_str (fun i H3 => DiceAt H3 p ∧ But p H H3 ∧ ∃ (as : List Addr) (rs : List (List Int)), as.length = i ∧ H3 D = some (.lst (as.map V.ref)) ∧ Objs oLst H3 as rs ∧ (∀ r ∈ rs, (r.length : Int) = n ∧ Bel n r) ∧ ∀ a ∈ as, a ≠ D ∧ a ≠ p)
      ⟨hD.new hD2, but_two (But.refl p H) hD2, [], [], rfl, upd_same, trivial, fun r hr => (nomatch hr), fun r hr => (nomatch hr)⟩ (fun _ _ _ _ => trivial) ?_ ?_
    · rintro i x H3 H4 hi ⟨hD4, hB4, as, rs, hl, hd, ho, hr2, hn⟩ ⟨rfl, c, hx, rfl⟩
      have hx' : L[i]? = some c := by
        rw [← Array.getElem?_toList, tx_list] at hx
        exact hx
      have hiL := (List.getElem?_eq_some_iff.mp hx').1
      refine ⟨rfl, _, rfl, _, rfl, _, rfl, _, rfl, p, q, _, rfl, hD4, qp, hB4 _ _ hq qp, ssp, ss1, fun v H5 hv hD5 hB5 => ?_⟩
      obtain ⟨s0, _, rfl⟩ := List.mem_map.mp hv
      refine ⟨p, n, s0, rfl, hD5, h1, h60, fun l ns H6 hl6 lp hD6 hB6 h6 hlen hb => ?_⟩
      have hd6 : H6 D = some (.lst (as.map V.ref)) := hB6 _ _ (hB5 _ _ hd Dp) Dp
      have lD : l ≠ D := fun z => by rw [z, hB5 _ _ hd Dp] at hl6; cases hl6
      have ho6 : Objs oLst H6 as rs := ho.to fun a ha r e => hB6 _ _ (hB5 _ _ e (hn a ha).2) (hn a ha).2
      refine ⟨_, hd6, by rw [List.length_map, sizeLine_eq]; omega, hD6.keep fun o e => by rw [upd_ne (Ne.symm Dp)]; exact e, but_at ((hB4.trans hB5).trans hB6) hD2, as ++ [l], rs ++ [ns], by rw [List.length_append, hl] <;> rfl, by rw [upd_same, List.map_append] <;> rfl, ?_, ?_, ?_⟩
      · refine Objs.snoc (ho6.to fun a ha r e => by rw [upd_ne (hn a ha).1]; exact e) (by rw [upd_ne lD]; exact h6)
      · intro r hr
        rcases List.mem_append.mp hr with z | z
        · exact hr2 r z
        · rw [List.mem_singleton.mp z]
          exact ⟨hlen, hb⟩
      · intro a ha
        rcases List.mem_append.mp ha with z | z
        · exact hn a z
        · rw [List.mem_singleton.mp z]
          exact ⟨lD, lp⟩
    · rintro H3 ⟨hD3, hB3, as, rs, hl, hd, ho, hr2, hn⟩
      have hl : as.length = L.length := by rw [hl, size_tx]
      have hrl : rs.length = L.length := ho.len.symm.trans hl
      refine ⟨_, rfl, _, rfl, by omega, by omega, fun D2 hD4 => ?_⟩
      have D2p := hD3.ne hD4
      have nD2 : H D2 = none := but_free hB3 hD4 D2p
      refine lc_range (lo := 0) (n := n.toNat) (fun i H4 => DiceAt H4 p ∧ But p H3 H4 ∧ ∃ (ts : List Addr) (tb : List (List Int)), ts.length = i ∧ H4 D2 = some (.lst (ts.map V.ref)) ∧ Objs oTup H4 ts tb ∧ ∀ r ∈ tb, r.length = L.length ∧ Bel n r)
        ⟨hD3.new hD4, but_two (But.refl p H3) hD4, [], [], rfl, upd_same, trivial, fun r hr => (nomatch hr)⟩ ?_ ?_
      · rintro i H4 hi ⟨hD4', hB4, ts, tb, hlt, hd2, ho2, hr3⟩
        have hd4 : H4 D = some (.lst (as.map V.ref)) := hB4 _ _ hd Dp
        have ho4 : Objs oLst H4 as rs := ho.to fun a ha r e => hB4 _ _ e (hn a ha).2
        refine ⟨rfl, _, rfl, D, rfl, ⟨_, SqL.of hd4⟩, fun D3 hD3' => ?_⟩
        have hz : (as.zip rs).length < sizeLine := by rw [List.length_zip, sizeLine_eq]; omega
        have eas : as.map V.ref = (as.zip rs).map fun z => V.ref z.1 := by
          rw [show (fun z : Addr × List Int => V.ref z.1) = V.ref ∘ Prod.fst from rfl, ← List.map_map, List.map_fst_zip (Nat.le_of_eq ho.len)]
        refine same_list (l := as.zip rs) (val := fun z => V.ref z.1) (r := fun z => [V.int (z.2.getD i 0)]) hD3' (SqL.of (by rw [← eas]; exact hd4)) hz (fun _ => Nat.le_refl _) (fun z hz H5 acc s5 hacc hlen N hN => ?_) (fun H5 s5 hd5 => ?_)
        · obtain ⟨e1, e2⟩ := hr2 z.2 (List.of_mem_zip hz).2
          have hii : i < z.2.length := by omega
          have at1 : atI (z.2.map V.int) (0 + (i : Int)) = some (.int (z.2.getD i 0)) := by
            rw [Int.zero_add]
            refine atI_nat ?_
            rw [List.getElem?_map, List.getD_eq_getElem?_getD, List.getElem?_eq_getElem hii] <;> rfl
          exact ⟨rfl, _, rfl, _, rfl, z.1, _, _, _, rfl, rfl, SqL.of (s5 _ _ (ho4.at_ z hz)), at1, acc, hacc, hlen, hN _ (same_at s5 hD3') upd_same⟩
        · have e : (as.zip rs).flatMap (fun z => [V.int (z.2.getD i 0)]) = (rs.map fun r => r.getD i 0).map V.int := by
            rw [flat_map, List.map_map]
            conv => rhs; rw [← List.map_snd_zip (l₁ := as) (l₂ := rs) (Nat.le_of_eq ho.len.symm)]
            rw [List.map_map] <;> rfl
          rw [e] at hd5
          refine ⟨D3, _, rfl, .inl ⟨SqL.of hd5, fun t ht => ?_⟩⟩
          have s6 : Same H4 (upd H5 t (.tup ((rs.map fun r => r.getD i 0).map V.int))) := same_two s5 ht
          have hd6 := s6 _ _ hd2
          have D2t : ∀ a ∈ ts, a ≠ D2 := fun a ha z => by
            obtain ⟨r, _, e⟩ := ho2.mem a ha
            rw [z, hd2] at e
            cases e
          have tD2 : t ≠ D2 := fun z => by rw [z] at ht; rw [s5 _ _ hd2] at ht; cases ht
          refine ⟨_, hd6, by rw [List.length_map, sizeLine_eq]; omega, ?_, ?_, ts ++ [t], tb ++ [rs.map fun r => r.getD i 0], by rw [List.length_append, hlt] <;> rfl, by rw [upd_same, List.map_append] <;> rfl, ?_, ?_⟩
          · exact (hD4'.keep fun o e => s6 _ _ e).keep fun o e => by rw [upd_ne (Ne.symm D2p)]; exact e
          · exact but_at (hB4.trans (But.ofSame s6)) hD4
          · refine Objs.snoc (ho2.to fun a ha r e => by rw [upd_ne (D2t a ha)]; exact s6 _ _ e) (by rw [upd_ne tD2, upd_same])
          · intro r hr
            rcases List.mem_append.mp hr with z | z
            · exact hr3 r z
            · rw [List.mem_singleton.mp z]
              refine ⟨by rw [List.length_map, hrl], fun j hj => ?_⟩
              obtain ⟨r', hr', rfl⟩ := List.mem_map.mp hj
              obtain ⟨e1, e2⟩ := hr2 r' hr'
              have hii : i < r'.length := by omega
              rw [List.getD_eq_getElem?_getD, List.getElem?_eq_getElem hii]
              exact e2 _ (List.getElem_mem hii)
      · rintro H4 ⟨hD4', hB4, ts, tb, hlt, hd2, ho2, hr3⟩
        exact k D2 tb H4 nD2 D2p hD4' (hB3.trans hB4) ⟨ts, hd2, ho2⟩ ⟨by rw [← ho2.len, hlt]; omega, hr3⟩
end
end WK
set_option Elab.async false
set_option linter.all false
set_option maxRecDepth 100000
set_option maxHeartbeats 8000000
namespace ENU
open PySem PySem.Spec PyProof.Rows L2
/-- the walk over a text: each sign in a new pair -/
def EnS (x : Str) : It := ⟨fun i _ => i < x.cps.size, fun i H v H' => ∃ T c, v = .ref T ∧ H T = none ∧ H' = upd H T (.tup [.int (i : Nat), .str ⟨#[c]⟩]) ∧ x.cps[i]? = some c, fun i _ => i = x.cps.size⟩
/-- .. over the tuple at a -/
def EnT (K : PySem.W.Frag) (a : Addr) (xs : List V) : It :=
  ⟨fun i H => SqT K H a xs ∧ i < xs.length, fun i H v H' => ∃ T y, v = .ref T ∧ H T = none ∧ H' = upd H T (.tup [.int (i : Nat), y]) ∧ xs[i]? = some y, fun i H => SqT K H a xs ∧ i = xs.length⟩
section
variable {X : Cx} {s : Shared} {σ : L2.St} {H : Hp} {pins : List (Addr × Obj)}
/-- one turn, by what the inner walk draws -/
theorem en_item {e it : Addr} {fp : List Addr} {n i kk : Nat} {Pv : Nat → Value → Prop} {St : Nat → Heap → Prop} {E : Value → Shared → Prop} {elts : List Expr} {tpos : Pos} {old : Value} {R : V → Hp → Heap → Prop} (I : Inv X pins σ H s) (D : Draws X.prog X.w X.A.in1 it fp n Pv St)
    (he : IsEnum s.heap e it ((i : Nat) : Int) old) (hst : St i s.heap) (hlt : i < n) (hne : e ≠ it) (hef : e ∉ fp) (hit : it < s.heap.objs.size) (hf : ∀ b ∈ [e, it], FpOk X pins H b)
    (hR : ∀ u, Pv i u → ∃ y, RelV y u ∧ ∀ (T : Addr) (h2 : Heap), H T = none → St (i + 1) h2 → (∃ old, IsEnum h2 e it ((i + 1 : Nat) : Int) old) → R (.ref T) (upd H T (.tup [.int (i : Nat), y])) h2) :
    wpAny (model X.prog X.w) X.A (pyNext (.ref e)) (fun r s1 => ∃ u, r = some u ∧
      wpAny (model X.prog X.w) X.A (letOwnedTupleGo (.Tuple elts kk tpos) (.ref e) u) (fun _ s2 => ∃ x H', Inv X pins σ H' s2 ∧ RelV x u ∧ R x H' s2.heap ∧ ∀ b ∈ [e, it], H' b = none) E s1) E s := by
  have elt : e < s.heap.objs.size := Heap.lt_size he
  refine wpAny_pyNext_enum_itemD D he hst hlt hne hef fun u h1 tk hP ho hst1 hT hsz kp => ⟨_, rfl, wpAny_letOwnedTupleGo_enum (s := { s with heap := h1, toks := tk + 1 }) ho fun h2 he2 sb => ?_⟩
  obtain ⟨y, ry, q⟩ := hR u hP
  have fresh : H s.heap.objs.size = none := I.hok.fresh (Nat.le_refl _)
  have stay : ∀ b o, b ∉ [e, it] → s.heap.get? b = some o → h2.get? b = some o := fun b o hb z => (sb.2 b fun w => hb (by simp [w])).trans (kp b o (fun w => hb (by simp [w])) (fun w => hb (by simp [w])) z)
  have pair : h2.get? s.heap.objs.size = some { cls := .type "tuple", data := .seq #[.int i tk, u] } := (sb.2 _ (Nat.ne_of_gt elt)).trans hT
  have new : ObjOk X.prog X.w (upd H s.heap.objs.size (.tup [.int (i : Nat), y])) h2 s.heap.objs.size (.tup [.int (i : Nat), y]) := ⟨by show 2 ≤ sizeLine; decide, [.int i tk, u], .cons ⟨_, rfl⟩ (.cons ry .nil), _, pair, rfl, _, rfl⟩
  refine ⟨.ref s.heap.objs.size, _, I.turnedNew (ch := [e, it]) stay hf (Nat.le_refl _) new, rfl, q _ _ fresh (D.frame _ _ _ hst1 fun b hb o z => (sb.2 b fun w => hef (w ▸ hb)).trans z) ⟨u, ?_⟩, fun b hb => ?_⟩
  · rw [show ((i + 1 : Nat) : Int) = (i : Int) + 1 from Int.natCast_add i 1]
    exact he2
  · have hlt : b < s.heap.objs.size := by
      obtain z | z := List.mem_cons.mp hb
      · rw [z]
        exact elt
      · rw [List.mem_singleton.mp z]
        exact hit
    rw [upd_ne (Nat.ne_of_lt hlt)]
    exact (hf b hb).1
end
theorem DQT {h : Heap} {a : Addr} {its : Array Value} (p : IsTup h a its) : h.IsTuple a its := let ⟨o, e, c, n, d⟩ := p; ⟨o, e, c, n, d⟩
theorem turn_enS {P : Program} {w : World} {K : PySem.W.Frag} {elts : List Expr} {kk : Nat} {tpos : Pos} (x : Str) (t : Tok) (e it : Addr) :
    Turn P w K (.Tuple elts kk tpos) (EnS x) [e, it] e (fun i h => (∃ old, IsEnum h e it ((i : Nat) : Int) old) ∧ h.IsStrIter it (strIterType x) x t i ∧ e ≠ it) where
  mem := .head _
  obj := fun i h st b hb => by
    obtain ⟨⟨old, he⟩, ⟨o, ho, _, hd⟩, _⟩ := st
    obtain z | z := List.mem_cons.mp hb
    · exact ⟨_, z ▸ he, fun v q => by cases q⟩
    · exact ⟨o, List.mem_singleton.mp z ▸ ho, fun v q => by cases hd.symm.trans q⟩
  keep := fun i h h' st k => let ⟨⟨old, he⟩, ⟨o, ho, r⟩, hne⟩ := st; ⟨⟨old, k e (.head _) _ he⟩, ⟨o, k it (.tail _ (.head _)) _ ho, r⟩, hne⟩
  item := by
    intro X hP hw hK hc i pins s σ H E I hf ⟨⟨old, he⟩, hit, hne⟩ hg
    subst hP hw hK
    obtain ⟨o, ho, _⟩ := id hit
    have D := Draws.text (prog := X.prog) (w := X.w) (A := X.A.in1) (I.ok.hd hc) it x t
    refine wpAny_mono (en_item (elts := elts) (kk := kk) (tpos := tpos) (R := fun v H' h2 => (EnS x).yld i H v H' ∧ (∃ old, IsEnum h2 e it ((i + 1 : Nat) : Int) old) ∧ h2.IsStrIter it (strIterType x) x t (i + 1)) I D he hit hg hne (fun z => hne (List.mem_singleton.mp z)) (Heap.lt_size ho) hf (fun u hu => ?_)) (fun r s1 q => ?_) fun _ _ z => z
    · obtain ⟨c, tk, hx, eu⟩ := hu
      exact ⟨.str ⟨#[c]⟩, ⟨tk, eu⟩, fun T h2 hT st z => ⟨⟨T, c, rfl, hT, rfl, hx⟩, z, st⟩⟩
    obtain ⟨u, rfl, q⟩ := q
    exact ⟨u, rfl, wpAny_mono q (fun _ s2 ⟨v, H', I', rv, ⟨a, b, c⟩, d⟩ => ⟨v, H', I', rv, a, ⟨b, c, hne⟩, d⟩) fun _ _ z => z⟩
  done := by
    intro X hP hw hK hc i pins s σ H E I hf ⟨⟨old, he⟩, hit, hne⟩ hg
    subst hP hw hK
    obtain ⟨f0, f1, f2, f3, f4, f5⟩ := hf it (.tail _ (.head _))
    have D := Draws.text (prog := X.prog) (w := X.w) (A := X.A.in1) (I.ok.hd hc) it x t
    exact wpAny_pyNext_enum_endD D he (show s.heap.IsStrIter it (strIterType x) x t x.cps.size from hg ▸ hit) fun h1 eb => ⟨rfl, I.turned (t' := s.toks) (fun b o hb q => eb b o hb q) f0 f1 f3 f4 f5⟩
  self := fun _ _ _ _ _ st q => wpAny_pyIter_enum st.1.choose_spec q
theorem turn_enT {P : Program} {w : World} {K : PySem.W.Frag} {elts : List Expr} {kk : Nat} {tpos : Pos} (a : Addr) (xs : List V) (e it : Addr) :
    Turn P w K (.Tuple elts kk tpos) (EnT K a xs) [e, it] e (fun i h => (∃ old, IsEnum h e it ((i : Nat) : Int) old) ∧ h.IsTupleIter it a i ∧ e ≠ it ∧ e ≠ a ∧ a ≠ it) where
  mem := .head _
  obj := fun i h st b hb => by
    obtain ⟨⟨old, he⟩, ⟨o, ho, _, hd⟩, _⟩ := st
    obtain z | z := List.mem_cons.mp hb
    · exact ⟨_, z ▸ he, fun v q => by cases q⟩
    · exact ⟨o, List.mem_singleton.mp z ▸ ho, fun v q => by cases hd.symm.trans q⟩
  keep := fun i h h' st k => let ⟨⟨old, he⟩, ⟨o, ho, r⟩, hne⟩ := st; ⟨⟨old, k e (.head _) _ he⟩, ⟨o, k it (.tail _ (.head _)) _ ho, r⟩, hne⟩
  item := by
    intro X hP hw hK hc i pins s σ H E I hf ⟨⟨old, he⟩, hit, hne, hea, hai⟩ ⟨hT, hi⟩
    subst hP hw hK
    obtain ⟨o, ho, _⟩ := id hit
    obtain ⟨its, rv, pt, _⟩ := I.tuple hT
    have D := Draws.tuple (prog := X.prog) (w := X.w) (A := X.A.in1) (I.ok.hd hc) it a hai its.toArray
    have hl : i < its.toArray.size := by
      have := rv.length
      simp only [List.size_toArray]
      omega
    refine wpAny_mono (en_item (elts := elts) (kk := kk) (tpos := tpos) (R := fun v H' h2 => (EnT X.K a xs).yld i H v H' ∧ (∃ old, IsEnum h2 e it ((i + 1 : Nat) : Int) old) ∧ h2.IsTupleIter it a (i + 1)) I D he ⟨hit, DQT pt⟩ hl hne (fun z => ?_) (Heap.lt_size ho) hf (fun u hu => ?_)) (fun r s1 q => ?_) fun _ _ z => z
    · obtain z | z := List.mem_cons.mp z
      · exact hne z
      · exact hea (List.mem_singleton.mp z)
    · obtain ⟨y, hy⟩ : ∃ y, xs[i]? = some y := ⟨xs[i], List.getElem?_eq_getElem hi⟩
      obtain ⟨u2, h1, h2⟩ := rv.get hy
      have e1 : u2 = u := Option.some.inj (h1.symm.trans (by rw [← List.getElem?_toArray]; exact hu))
      exact ⟨y, e1 ▸ h2, fun T h2 hT st z => ⟨⟨T, y, rfl, hT, rfl, hy⟩, z, st.1⟩⟩
    obtain ⟨u, rfl, q⟩ := q
    exact ⟨u, rfl, wpAny_mono q (fun _ s2 ⟨v, H', I', rv, ⟨a, b, c⟩, d⟩ => ⟨v, H', I', rv, a, ⟨b, c, hne, hea, hai⟩, d⟩) fun _ _ z => z⟩
  done := by
    intro X hP hw hK hc i pins s σ H E I hf ⟨⟨old, he⟩, hit, hne, hea, hai⟩ ⟨hT, hi⟩
    subst hP hw hK
    obtain ⟨f0, f1, f2, f3, f4, f5⟩ := hf it (.tail _ (.head _))
    obtain ⟨its, rv, pt, _⟩ := I.tuple hT
    have D := Draws.tuple (prog := X.prog) (w := X.w) (A := X.A.in1) (I.ok.hd hc) it a hai its.toArray
    have hl : i = its.toArray.size := by
      have := rv.length
      simp only [List.size_toArray]
      omega
    exact wpAny_pyNext_enum_endD D he ⟨hl ▸ hit, DQT pt⟩ fun h1 eb => ⟨rfl, I.turned (t' := s.toks) (fun b o hb q => eb b o hb q) f0 f1 f3 f4 f5⟩
  self := fun _ _ _ _ _ st q => wpAny_pyIter_enum st.1.choose_spec q
/-- enumerate(v) of anything whose iterator is one new object -/
theorem meets_one {v : Value} {o : Obj} {G : Heap → Prop} (B : PySem.Begins v o G) : Meets (Builtin.«enumerate.__new__» ⟨[.type "enumerate", v], []⟩) (fun _ R s => G s.heap ∧
    R (.ok (.ret (.ref (s.heap.push o).objs.size))) { s with heap := (s.heap.push o).push { cls := .type "enumerate", data := .fields #[.none, .bool false, .ref s.heap.objs.size, rawInt 0, .none, .none] } }) :=
  .of_wp fun prog w _ _ ⟨hp, g, d, tk, os⟩ ⟨h1, h2⟩ => by
    have f1 := sub_enumerate
    have f2 : ∀ {A1 : Around} {E : Value → Shared → Prop} {Q : Value → Shared → Prop}, Q (.ref hp.objs.size) ⟨hp.push o, g, d, tk, os⟩ → wpAny (model prog w) A1 (pyIter v) Q E ⟨hp, g, d, tk, os⟩ := fun q => B.iter prog w _ _ _ _ h1 q
    wp_walk using f2
    refine wpAny_stack_any fun _ => wpAny_pure ?_
    split
    · rename_i c _ _ _ _ _
      cases (c == Value.type "enumerate") <;> (wp_walk using f2; exact ⟨_, rfl, h2⟩)
    · wp_walk using f2
      exact ⟨_, rfl, h2⟩
theorem call_one {prog : Program} {w : World} {A : Around} {E : Value → Shared → Prop} {s : Shared} {v : Value} {o : Obj} {G : Heap → Prop} {Q : Value → Shared → Prop} (B : PySem.Begins v o G) (h1 : G s.heap)
    (k : ∀ h1, IsEnum h1 (s.heap.objs.size + 1) s.heap.objs.size 0 .none → h1.get? s.heap.objs.size = some o → (∀ b u, s.heap.get? b = some u → h1.get? b = some u) → Q (.ref (s.heap.objs.size + 1)) { s with heap := h1 }) :
    wpAny (model prog w) A (call (.type "enumerate") [v]) Q E s := by
  have sz : (s.heap.push o).objs.size = s.heap.objs.size + 1 := Heap.size_push ..
  have at_ : IsEnum ((s.heap.push o).push { cls := .type "enumerate", data := .fields #[.none, .bool false, .ref s.heap.objs.size, rawInt 0, .none, .none] }) (s.heap.objs.size + 1) s.heap.objs.size 0 .none := by
    have z := Heap.get?_push_size (s.heap.push o) (o := { cls := .type "enumerate", data := .fields #[.none, .bool false, .ref s.heap.objs.size, rawInt 0, .none, .none] }) rfl
    rw [sz] at z
    exact z
  refine callType_new F.called_enumerate (by decide) (F.typeCall_enumerate_1 _) (F.newCall_enumerate_1 _) (fun obj => F.args_object_init_2 obj _) F.entry_enumerate_new (meets_one B) ⟨h1, ?_⟩
  rw [sz]
  exact ⟨⟨_, at_, rfl⟩, k _ at_ (Heap.get?_push_of_some _ (Heap.get?_push_size _ B.free)) fun b u x => Heap.get?_push_of_some _ (Heap.get?_push_of_some _ x)⟩
def iEnS (ta : TA) : TI := fun σ H R => ta σ H fun vs H1 => ∃ x, vs = [.str x] ∧ R (EnS x) H1
def iEnT (K : PySem.W.Frag) (ta : TA) : TI := fun σ H R => ta σ H fun vs H1 => ∃ a xs, vs = [.ref a] ∧ SqT K H1 a xs ∧ R (EnT K a xs) H1
section
variable {X : Cx} {e : Expr} {ta : TA} {p pos tpos : Pos} {elts : List Expr} {kk : Nat}
theorem two_new {pins : List (Addr × Obj)} {σ : L2.St} {H : Hp} {s : Shared} (I : Inv X pins σ H s) : ∀ b ∈ [s.heap.objs.size + 1, s.heap.objs.size], FpOk X pins H b := fun b hb => by
  have le : s.heap.objs.size ≤ b := by
    obtain z | z := List.mem_cons.mp hb
    · rw [z]
      exact Nat.le_succ _
    · rw [List.mem_singleton.mp z]
      exact Nat.le_refl _
  exact I.fpOk le (I.hok.fresh le)
theorem pi_enS (hg : Gl X "enumerate") (hm : X.mg "enumerate" = none) (ha : PA X [e] ta) (hs : starEach [e] X.env = [(false, eval e X.env)] := by rfl) : PI X (.Tuple elts kk tpos) (.Call (.Name "enumerate" p) [e] [] pos) (iEnS ta) := by
  refine ⟨fun pins s σ H R I h => Call_ (ld_blt I hg hm boot_enumerate (PyProof.Rows.callWith_type1 (thn (ha.run pos pins s σ H _ I h) fun us s1 ⟨vs, H1, I1, r1, x, ex, q⟩ => ?_) hs rfl))⟩
  subst ex
  obtain ⟨u, rfl, t, rfl⟩ := r1.one
  refine call_one (PySem.begins_text x t) trivial fun h1 he hi kp => wpAny_pyIter_enum he ?_
  exact ⟨s1.heap.objs.size + 1, _, _, _, H1, rfl, I1.kept (t' := s1.toks) kp, turn_enS x t _ s1.heap.objs.size, ⟨⟨.none, he⟩, ⟨_, hi, rfl, rfl⟩, Nat.succ_ne_self _⟩, two_new I1, q⟩
theorem pi_enT (hg : Gl X "enumerate") (hm : X.mg "enumerate" = none) (ha : PA X [e] ta) (hs : starEach [e] X.env = [(false, eval e X.env)] := by rfl) : PI X (.Tuple elts kk tpos) (.Call (.Name "enumerate" p) [e] [] pos) (iEnT X.K ta) := by
  refine ⟨fun pins s σ H R I h => Call_ (ld_blt I hg hm boot_enumerate (PyProof.Rows.callWith_type1 (thn (ha.run pos pins s σ H _ I h) fun us s1 ⟨vs, H1, I1, r1, a, xs, ex, hT, q⟩ => ?_) hs rfl))⟩
  subst ex
  obtain ⟨u, rfl, rfl⟩ := r1.one
  obtain ⟨its, rv, pt, _⟩ := I1.tuple hT
  obtain ⟨o, ho, _⟩ := id pt
  have lt := Heap.lt_size ho
  refine call_one (PySem.begins_tuple a its.toArray) (DQT pt) fun h1 he hi kp => wpAny_pyIter_enum he ?_
  exact ⟨s1.heap.objs.size + 1, _, _, _, H1, rfl, I1.kept (t' := s1.toks) kp, turn_enT a xs _ s1.heap.objs.size, ⟨⟨.none, he⟩, ⟨_, hi, rfl, rfl⟩, Nat.succ_ne_self _, Nat.ne_of_gt (Nat.lt_succ_of_lt lt), Nat.ne_of_lt lt⟩, two_new I1, q⟩
end
theorem walk_enS {z : Str} : Walk (EnS z) z.cps.size (fun _ => True) (fun i H v H' => ∃ T c, v = .ref T ∧ H T = none ∧ H' = upd H T (.tup [.int (i : Nat), .str ⟨#[c]⟩]) ∧ z.cps[i]? = some c) := ⟨fun _ _ hi _ => hi, fun _ _ => rfl, fun _ _ _ _ _ _ y => y⟩
theorem walk_enT {K : PySem.W.Frag} {a : Addr} {xs : List V} : Walk (EnT K a xs) xs.length (fun H => SqT K H a xs) (fun i H v H' => ∃ T y, v = .ref T ∧ H T = none ∧ H' = upd H T (.tup [.int (i : Nat), y]) ∧ xs[i]? = some y) := ⟨fun _ _ hi q => ⟨q, hi⟩, fun _ q => ⟨q, rfl⟩, fun _ _ _ _ _ _ y => y⟩
end ENU
set_option Elab.async false
set_option linter.all false
set_option maxRecDepth 100000
set_option maxHeartbeats 8000000
namespace L2
open PySem PySem.Spec PyProof.Rows
section
variable {X : Cx}
/-- y = {k: v for .. in ..} -/
theorem ps_setDc {i : Nat} {y : Str} {py pos spos : Pos} {kx vx tg iter : Expr} {ifs : List Expr} {scope : Scope} {own : List (Str × Nat)} {wi : TI} {g : TG} {tt : TT} {tk tv : TE} (hc : X.calm = true) (hN : X.N.Nodup) (hy : X.N[i]? = some y) (hyl : X.env.scope.names.lookup y = some .local)
    (hsw : swapsWith (.DictComp kx vx [⟨tg, iter, ifs, 0⟩] scope pos) (some (.Name y py)) spos.line X.env = pure true) (hi : PI X tg iter wi) (ok : BlkOk X.N X.env.scope scope own)
    (hg : ∀ s H C cl fp, PG (X.blk s H scope (compEnvC scope cl C X.env) fp) tg g) (ht : ∀ s H C cl fp, PTs (X.blk s H scope (compEnvC scope cl C X.env) fp) ifs tt) (hk : ∀ s H C cl fp, PE (X.blk s H scope (compEnvC scope cl C X.env) fp) kx tk) (he : ∀ s H C cl fp, PE (X.blk s H scope (compEnvC scope cl C X.env) fp) vx tv)
    (hs : ∀ x, foldedSetIterable iter X.env x = pure x := by intro _; rfl) : PS X (.Assign [.Name y py] (.DictComp kx vx [⟨tg, iter, ifs, 0⟩] scope pos) spos) (tAsg (tDc wi g tt tk tv (own.map (·.2))) (gName i)) := by
  refine ⟨fun pins s σ H D I h => ?_⟩
  have made : wpAny (model X.prog X.w) X.A (comprehension (.DictComp kx vx [⟨tg, iter, ifs, 0⟩] scope pos) scope X.env (firstIterPos [⟨tg, iter, ifs, 0⟩] pos) newDict false (eval iter X.env) (some (assign (.Name y py) X.env))) (fun _ s' => SP X pins D .next s') X.xe s := by
    refine dc_core hc hN I hi ok hg ht hk he hs (Q := fun x H1 => gName i x σ H1 D.nx) h fun L C s' m H' I' q hn f => ?_
    obtain ⟨g0, g1, _, g3, g4, g5⟩ := f
    show wpAny (model X.prog X.w) X.A (assign (.Name y py) X.env (.ref L)) _ X.xe _
    refine wpAny_assign_Name (store_ok2 (v := .ref L) I' hN hy (.inl hyl) rfl (fun s2 I2 z => ?_) (.inr hyl))
    obtain ⟨a, sb, at_⟩ := z
    exact ⟨m, hn.sameBut sb (at_.elim (fun z => z ▸ g1) fun z w => g4 y a z w.symm), fun h3 sb3 => ⟨_, H', I2.turned (t' := s2.toks) (fun b o hb e => (sb3.2 b hb).trans e) g0 g1 g3 g4 g5, q⟩⟩
  rw [exec_Assign_Name_used (hs := hsw)]
  refine wpAny_bind (wpAny_standAt ?_)
  refine wpAny_bind ?_
  show wpAny _ X.A (do let _ ← comprehension (.DictComp kx vx [⟨tg, iter, ifs, 0⟩] scope pos) scope X.env (firstIterPos [⟨tg, iter, ifs, 0⟩] pos) newDict false (eval iter X.env) (some (assign (.Name y py) X.env))) _ _ s
  exact wpAny_bind (thn made fun _ _ z => wpAny_pure (wpAny_pure z))
end
end L2
namespace LCX
open PySem L2 PyProof.Rows WK
/-- one turn of a dict's comprehension -/
abbrev DTurn (g : TG) (tt : TT) (tk tv : TE) (vs : List Nat) (σ : L2.St) (D : Addr) (x : V) (H : Hp) (N : Hp → Prop) : Prop := g x (wipe σ vs) H fun σ2 H2 => wipe σ2 vs = wipe σ vs ∧ tt σ2 H2 fun b H3 =>
  if b = true then tk σ2 H3 fun y H4 => tv σ2 H4 fun z H5 => ∃ kvs k, y = kV k ∧ H5 D = some (.dK kvs) ∧ kvs.length < sizeLine ∧ N (upd H5 D (.dK (putK kvs k z))) else N H3
abbrev DWent (J : It) (g : TG) (tt : TT) (tk tv : TE) (vs : List Nat) (σ : L2.St) (D : Addr) (H1 : Hp) (Qd : Hp → Prop) : Prop :=
  ∃ W : Nat → Nat → Hp → Prop, (∃ m, W 0 m (upd H1 D (.dK []))) ∧ ∀ j n G, W j n G → (J.stop j G ∧ Qd G) ∨ (J.go j G ∧ ∃ N : Hp → Prop, (∀ G', N G' → ∃ n', n' < n ∧ W (j + 1) n' G') ∧ ∀ v G', J.yld j G v G' → DTurn g tt tk tv vs σ D v G' N)
theorem dc_it {J : It} {n : Nat} {G : Hp → Prop} {Y : Nat → Hp → V → Hp → Prop} (wk : Walk J n G Y) {g : TG} {tt : TT} {tk tv : TE} {vs : List Nat} {σ : L2.St} {H1 : Hp} {D : Addr} {Qd : Hp → Prop} (Pv : Nat → Hp → Prop) (h0 : Pv 0 (upd H1 D (.dK []))) (hG : ∀ i H, i ≤ n → Pv i H → G H)
    (hs : ∀ i x H H', i < n → Pv i H → Y i H x H' → DTurn g tt tk tv vs σ D x H' (Pv (i + 1))) (hd : ∀ H, Pv n H → Qd H) : DWent J g tt tk tv vs σ D H1 Qd := by
  refine ⟨fun i m H => m + i = n ∧ Pv i H, ⟨n, rfl, h0⟩, fun i m H ⟨e, p⟩ => ?_⟩
  have gd := hG i H (by omega) p
  rcases Nat.lt_or_ge i n with lt | ge
  · exact .inr ⟨wk.goes i H lt gd, Pv (i + 1), fun H' p' => ⟨m - 1, by omega, by omega, p'⟩, fun x H' y => hs i x H H' lt p (wk.yields i H x H' lt gd y)⟩
  · obtain rfl : i = n := by omega
    exact .inl ⟨wk.stops H gd, hd H p⟩
end LCX
namespace WK
open PySem L2 PyProof.Rows LCX K1
open TX (sg sigs)
open PySem.W (Frag kitOne)
abbrev sLed : Stmt := top 10
/-- one step, and the way of a word -/
def stepL (L : W) (tb : List (List Int)) (r : Int) (c : Nat) : Int := (tb.getD r.toNat []).getD (L.idxOf c) 0
def ledL (L : W) (tb : List (List Int)) (u : W) (st : Int) : Int := u.foldl (stepL L tb) st
theorem stepL_in {L : W} {tb : List (List Int)} {n r : Int} {c : Nat} (ok : TabOk tb L.length n) (hr : 0 ≤ r ∧ r < n) (hc : c ∈ L) : 0 ≤ stepL L tb r c ∧ stepL L tb r c < n := by
  have hl := ok.len
  have h1 : r.toNat < tb.length := by omega
  have e1 : tb.getD r.toNat [] = tb[r.toNat] := by rw [List.getD_eq_getElem?_getD, List.getElem?_eq_getElem h1] <;> rfl
  obtain ⟨a, b⟩ := ok.row _ (List.getElem_mem h1)
  have h2 : L.idxOf c < tb[r.toNat].length := by rw [a]; exact List.idxOf_lt_length_of_mem hc
  unfold stepL
  rw [e1, List.getD_eq_getElem?_getD, List.getElem?_eq_getElem h2]
  exact b _ (List.getElem_mem h2)
theorem Objs.get {mk : List Int → HO} {H : Hp} : ∀ {as : List Addr} {rs : List (List Int)} {i : Nat}, Objs mk H as rs → i < rs.length → ∃ a, as[i]? = some a ∧ H a = some (mk (rs.getD i []))
  | _ :: _, _ :: _, 0, h, _ => ⟨_, rfl, h.1⟩
  | _ :: _, _ :: _, _ + 1, h, hi => h.2.get (Nat.lt_of_succ_lt_succ hi)
  | [], _ :: _, _, h, _ => h.elim
  | _, [], _, _, hi => absurd hi (Nat.not_lt_zero _)
theorem ledL_snoc (L : W) (tb : List (List Int)) (u : W) (c : Nat) (st : Int) : ledL L tb (u ++ [c]) st = stepL L tb (ledL L tb u st) c := by
  unfold ledL
  rw [List.foldl_append] <;> rfl
theorem ledL_in {L : W} {tb : List (List Int)} {n : Int} (ok : TabOk tb L.length n) : ∀ {u : W} {st : Int}, 0 ≤ st ∧ st < n → (∀ c ∈ u, c ∈ L) → 0 ≤ ledL L tb u st ∧ ledL L tb u st < n
  | [], _, h, _ => h
  | c :: u, st, h, hc => ledL_in ok (u := u) (stepL_in ok h (hc c (.head _))) fun d hd => hc d (.tail _ hd)
theorem nodup_of {L : W} (h : Let L) : L.Nodup := h.asc.imp fun z => Nat.ne_of_lt z
theorem idx_of {L : W} (h : L.Nodup) {i c : Nat} (e : L[i]? = some c) : L.idxOf c = i := by
  obtain ⟨hi, rfl⟩ := List.getElem?_eq_some_iff.mp e
  exact List.Nodup.idxOf_getElem h i hi
/-- a table in tuples at t -/
def TTab (K : Frag) (H : Hp) (t : Addr) (tb : List (List Int)) : Prop := ∃ ts : List Addr, SqT K H t (ts.map V.ref) ∧ Objs oTup H ts tb
theorem TTab.same {K : Frag} {H H' : Hp} {t : Addr} {tb : List (List Int)} (h : TTab K H t tb) (s : Same H H') : TTab K H' t tb := let ⟨ts, a, b⟩ := h; ⟨ts, seqT s a, b.to fun _ _ _ z => s _ _ z⟩
def spLed (K : Frag) : Sp := fun vs H Q _ => ∃ (t : Addr) (L u : W) (tb : List (List Int)) (n st : Int), vs = [.str (tx L), .ref t, .str (tx u), .int st] ∧ TTab K H t tb ∧ Let L ∧ TabOk tb L.length n ∧ n ≤ 1000 ∧ 0 ≤ st ∧ st < n ∧ u.length ≤ 1000 ∧ (∀ c ∈ u, c ∈ L) ∧
  ∀ H', Same H H' → Q (.int (ledL L tb u st)) H'
abbrev NLd : List Str := ["letters", "table", "word", "start", "columns", "row", "letter", "at"]
section
variable {P : Program} {w : World} {K : PySem.W.Frag} {mg : Str → Option Value} {base : Heap}
theorem scLd : FnScope NLd ["letters", "table", "word", "start"] (defScope sLed) := ⟨rfl, rfl, rfl, by decide +kernel, rfl, by decide +kernel, by decide +kernel⟩
theorem ok_led {f : Addr} {fd : FuncData} (F : Fun K "led" "led" sLed f fd) (en : mg "enumerate" = none) : FnOk P w K mg base CX0 1 f fd ["letters", "table", "word", "start"] (spLed K) := by
  refine F.ok scLd (fun vs H Q E h => ?_) (fun cdv A outer s H vs Q E hr h => ?_)
  · obtain ⟨t, L, u, tb, n, st, rfl, _⟩ := h
    rfl
  · obtain ⟨t, L, u, tb, n, st, rfl, hT, hL, ok, hn, s0, s1, hu, hc, q⟩ := h
    have hub := hu_of hr
    refine ⟨_, pss_cons (ps_setDc (i := 4) (own := [("at", 7), ("letter", 6)]) (g := gTup K 2 (gCons (gName 7) (gCons (gName 6) gNil))) (tt := tYes) (tk := tVar 6) (tv := tVar 7) rfl scLd.nd rfl rfl (by rfl) (ENU.pi_enS rfl en (pa_cons (pv 0) pa_nil))
        (blkOk_by (own := [("at", 7), ("letter", 6)]) (N := NLd) (sc := defScope sLed) (by decide +kernel)) (fun _ _ _ _ _ => pg_tup (by rfl) (pgs_cons (pg_name (i := 7) scLd.nd rfl (Or.inl rfl)) (pgs_cons (pg_name (i := 6) scLd.nd rfl (Or.inl rfl)) pgs_nil))) (fun _ _ _ _ _ => pts_nil)
        (fun _ _ _ _ _ => pv 6) (fun _ _ _ _ _ => pv 7))
      (pss_cons (ps_set (i := 5) scLd.nd rfl (Or.inl rfl) (pv 3))
      (pss_cons (ps_for PassesOwn.never rfl (pi_str (pv 2)) (pg_name (i := 6) scLd.nd rfl (Or.inl rfl))
        (pss_one (ps_set (i := 5) scLd.nd rfl (Or.inl rfl) (pe_ix ix_tup (pe_ix ix_tup (pv 1) (pv 5) (fun _ _ => rfl)) (pe_dget hub (pv 4) (pv 6) (fun _ _ => rfl)) (fun _ _ => rfl)))))
      (pss_one (ps_ret (pv 5))))), ?_⟩
    have hnd := nodup_of hL
    refine ⟨_, rfl, tx L, rfl, fun D hD => ?_⟩
    refine dc_it ENU.walk_enS (fun i H3 => Same H H3 ∧ ∃ kvs : List (Key × V), H3 D = some (.dK kvs) ∧ kvs.length ≤ i ∧ ∀ c ∈ L.take i, valV kvs (Sum.inr (sg c) : Key) = some (.int ((L.idxOf c : Nat) : Int))) ⟨same_upd hD, [], upd_same, Nat.le_refl _, fun c hc => by simp at hc⟩ (fun _ _ _ _ => trivial) ?_ ?_
    · rintro i x H3 H4 hi ⟨s3, kvs, hd, hl, hv⟩ ⟨T, c, rfl, hT2, rfl, hx⟩
      have hx' : L[i]? = some c := by
        rw [← Array.getElem?_toList, tx_list] at hx
        exact hx
      have hi' : i < L.length := (List.getElem?_eq_some_iff.mp hx').1
      have s4 : Same H3 (upd H3 T (.tup [.int (i : Nat), .str ⟨#[c]⟩])) := same_upd hT2
      refine ⟨T, _, rfl, SqT.of upd_same, rfl, _, _, rfl, _, _, rfl, rfl, rfl, _, rfl, _, rfl, kvs, Sum.inr (sg c), rfl, s4 _ _ hd, by have := hL.few; rw [sizeLine_eq]; omega, same_at (s3.trans s4) hD, _, upd_same, ?_, fun d hd2 => ?_⟩
      · have := length_putK kvs (Sum.inr (sg c) : Key) (.int (i : Nat))
        omega
      · rw [valV_put]
        by_cases e : d = c
        · rw [if_pos (by rw [e]), e, idx_of hnd hx']
        · rw [if_neg fun z => e (TX.sg_inj (Sum.inr.inj z))]
          refine hv d ?_
          rw [List.take_add_one, hx'] at hd2
          rcases List.mem_append.mp hd2 with z | z
          · exact z
          · exact absurd (by simpa using z) e
    · rintro H3 ⟨s3, kvs, hd, hl, hv⟩
      rw [size_tx, List.take_length] at hv
      refine ⟨_, rfl, _, rfl, tx u, rfl, ?_⟩
      refine for_it walk_str (fun i σ H1 => H1 = H3 ∧ ∃ l : Option V, σ = [some (.str (tx L)), some (.ref t), some (.str (tx u)), some (.int st), some (.ref D), some (.int (ledL L tb (u.take i) st)), l, none]) ⟨rfl, none, rfl⟩ (fun _ _ _ _ _ => trivial) ?_ ?_
      · rintro i x σ H1 H2 hi ⟨rfl, l, rfl⟩ ⟨rfl, c, hx, rfl⟩
        have hx' : u[i]? = some c := by
          rw [← Array.getElem?_toList, tx_list] at hx
          exact hx
        have hcL : c ∈ L := hc c (List.mem_of_getElem? hx')
        have hin := ledL_in ok (u := u.take i) (st := st) ⟨s0, s1⟩ fun d hd => hc d (List.mem_of_mem_take hd)
        obtain ⟨ts, h1, h2⟩ := hT.same s3
        have hrl : (ledL L tb (u.take i) st).toNat < tb.length := by have := ok.len; omega
        obtain ⟨a, e1, e2⟩ := h2.get hrl
        have at1 : atI (ts.map V.ref) (ledL L tb (u.take i) st) = some (.ref a) := by
          have e3 : ledL L tb (u.take i) st = (((ledL L tb (u.take i) st).toNat : Nat) : Int) := by omega
          rw [e3]
          exact atI_nat (by rw [List.getElem?_map, e1] <;> rfl)
        have e4 : tb.getD (ledL L tb (u.take i) st).toNat [] = tb[(ledL L tb (u.take i) st).toNat] := by rw [List.getD_eq_getElem?_getD, List.getElem?_eq_getElem hrl] <;> rfl
        have hil : L.idxOf c < (tb.getD (ledL L tb (u.take i) st).toNat []).length := by rw [e4, (ok.row _ (List.getElem_mem hrl)).1]; exact List.idxOf_lt_length_of_mem hcL
        have at2 : atI ((tb.getD (ledL L tb (u.take i) st).toNat []).map V.int) ((L.idxOf c : Nat) : Int) = some (.int (stepL L tb (ledL L tb (u.take i) st) c)) := by
          refine atI_nat ?_
          unfold stepL
          rw [List.getElem?_map, List.getD_eq_getElem?_getD (l := tb.getD _ _), List.getElem?_eq_getElem hil] <;> rfl
        refine ⟨_, rfl, _, rfl, t, _, _, _, rfl, rfl, h1, at1, _, rfl, _, rfl, D, _, rfl, (hv c hcL) ▸ DGet.k (k := Sum.inr (sg c)) hd, a, _, _, _, rfl, rfl, SqT.of e2, at2, rfl, some (.str (sg c)), ?_⟩
        rw [List.take_add_one, hx']
        show _ = [_, _, _, _, _, some (V.int (ledL L tb (u.take i ++ [c]) st)), _, _]
        rw [ledL_snoc] <;> rfl
      · rintro σ H1 ⟨rfl, l, rfl⟩
        rw [size_tx, List.take_length]
        exact ⟨_, rfl, q _ s3⟩
end
end WK
set_option Elab.async false
set_option linter.all false
set_option maxRecDepth 100000
set_option maxHeartbeats 8000000
namespace WK
open PySem L2 PyProof.Rows LCX K1 FV DP
open TX (sg sigs)
open PySem.W (Frag kitOne)
def addN (o : List Int) (a : Int) : List Int := if a ∈ o then o else o ++ [a]
abbrev rngI (n : Nat) : List Int := (List.range n).map fun i => ((i : Nat) : Int)
/-- numbers below n, each once -/
structure Few (n : Int) (o : List Int) : Prop where
  nd : o.Nodup
  in_ : ∀ a ∈ o, 0 ≤ a ∧ a < n
theorem Few.add {n a : Int} {o : List Int} (h : Few n o) (ha : 0 ≤ a ∧ a < n) : Few n (addN o a) := by
  unfold addN
  by_cases e : a ∈ o
  · rw [if_pos e]
    exact h
  · rw [if_neg e]
    refine ⟨List.nodup_append.mpr ⟨h.nd, List.nodup_cons.mpr ⟨List.not_mem_nil, List.nodup_nil⟩, fun x hx y hy z => ?_⟩, fun x hx => ?_⟩
    · rw [List.mem_singleton.mp hy] at z
      exact e (z ▸ hx)
    · rcases List.mem_append.mp hx with z | z
      · exact h.in_ x z
      · rw [List.mem_singleton.mp z]
        exact ha
theorem Few.len {n : Int} {o : List Int} (h : Few n o) : (o.length : Int) ≤ n ∨ o = [] := by
  cases o with
  | nil => exact .inr rfl
  | cons a o =>
    refine .inl ?_
    have h0 := h.in_ a (.head _)
    have sub : (a :: o) ⊆ rngI n.toNat := fun x hx => by
      have := h.in_ x hx
      exact List.mem_map.mpr ⟨x.toNat, List.mem_range.mpr (by omega), by omega⟩
    have := h.nd.length_le_of_subset sub
    rw [List.length_map, List.length_range] at this
    omega
def Keys (kvs : List (Key × V)) (o : List Int) : Prop := kvs.map (·.1) = o.map (Sum.inl : Int → Key)
theorem Keys.len {kvs : List (Key × V)} {o : List Int} (h : Keys kvs o) : kvs.length = o.length := by
  have := congrArg List.length h
  rw [List.length_map, List.length_map] at this
  exact this
theorem Keys.val {kvs : List (Key × V)} {o : List Int} (h : Keys kvs o) (a : Int) : valV kvs (Sum.inl a : Key) ≠ none ↔ a ∈ o := by
  have e1 : (Sum.inl a : Key) ∈ kvs.map (·.1) ↔ a ∈ o := by
    rw [show kvs.map (·.1) = _ from h, List.mem_map]
    exact ⟨fun ⟨b, hb, e⟩ => Sum.inl.inj e ▸ hb, fun hb => ⟨a, hb, rfl⟩⟩
  rw [← e1]
  unfold valV
  rw [List.mem_map, ne_eq, Option.map_eq_none_iff, List.find?_eq_none]
  constructor
  · intro z
    rcases Classical.em (∃ p, p ∈ kvs ∧ p.1 = (Sum.inl a : Key)) with y | y
    · exact y
    · exact absurd (fun p hp q => y ⟨p, hp, of_decide_eq_true q⟩) z
  · rintro ⟨p, hp, e⟩ z
    exact z p hp (decide_eq_true e)
theorem Keys.put {kvs : List (Key × V)} {o : List Int} (h : Keys kvs o) {a : Int} (ha : a ∉ o) (v : V) : Keys (putK kvs (Sum.inl a : Key) v) (o ++ [a]) := by
  have : valV kvs (Sum.inl a : Key) = none := Classical.byContradiction fun z => ha ((h.val a).mp z)
  rw [putK_new v this]
  unfold Keys
  rw [List.map_append, List.map_append, show kvs.map (·.1) = _ from h] <;> rfl
end WK
set_option Elab.async false
set_option linter.all false
set_option maxRecDepth 100000
set_option maxHeartbeats 4000000
namespace TU
open PySem PyProof.Rows TS Srt
section
variable {prog : Program} {w : World} {A : Around} {E : Value → Shared → Prop} {s : Shared}
theorem lex_same {b : Bool} {Q : Bool → Shared → Prop} (q : Q false s) {xs : List Value} {ns : List Int} (hx : IntsAre xs ns) : ∀ {ys : List Value} (i : Nat), IntsAre ys ns → PySem.W.KatLex prog w A b false Q (xs.zip ys) i s := by
  induction hx with
  | nil => exact fun _ _ => PySem.W.kat_nil q
  | cons p t _ ih =>
    intro ys i hy
    cases hy with
    | cons _ u hy =>
      refine PySem.W.kat_cons (wpAny_eqBool_int ?_)
      rw [show (p == p) = true from beq_self_eq_true p]
      exact PySem.W.kat_yes (ih (i + 1) hy)
/-- each a tuple with a first number, which tells it -/
structure Told (h : Heap) (vs : List Value) : Prop where
  tup : ∀ v ∈ vs, ∃ n ns, TupInts h v (n :: ns)
  one : ∀ u ∈ vs, ∀ v ∈ vs, ∀ n ns ms, TupInts h u (n :: ns) → TupInts h v (n :: ms) → ns = ms
theorem Told.firsts {h : Heap} : ∀ {vs : List Value}, (∀ v ∈ vs, ∃ n ns, TupInts h v (n :: ns)) → ∃ fs, PySem.W.KatTups h vs fs ∧ fs.length = vs.length ∧ ∀ f ∈ fs, ∃ n t, f = Value.int n t
  | [], _ => ⟨[], .nil, rfl, fun _ hf => absurd hf List.not_mem_nil⟩
  | v :: vs, x => by
    obtain ⟨fs, k, len, are⟩ := Told.firsts (vs := vs) fun u hu => x u (.tail _ hu)
    obtain ⟨n, ns, a, xs, rfl, ⟨o, at_a, isT, c, dat⟩, isI⟩ := x v (.head _)
    obtain ⟨y, ys, e⟩ : ∃ y ys, xs.toList = y :: ys := by
      cases hxs : xs.toList with
      | nil =>
        rw [hxs] at isI
        cases isI
      | cons y ys => exact ⟨y, ys, rfl⟩
    obtain ⟨m, t, ey⟩ := isI.all y (e ▸ .head _)
    have first : xs[0]? = some y := by
      have z := congrArg (fun l : List Value => l[0]?) e
      simpa using z
    refine ⟨y :: fs, .cons at_a isT dat first k, congrArg Nat.succ len, fun f hf => ?_⟩
    rcases List.mem_cons.mp hf with rfl | hf
    · exact ⟨m, t, ey⟩
    · exact are f hf
theorem kind_u {vs : List Value} (h2 : 2 ≤ vs.length) (x : Told s.heap vs) (r : Value → Int) (hr : ∀ v ∈ vs, ∀ n ns, TupInts s.heap v (n :: ns) → r v = n) (Q : SortKind → Shared → Prop) (h : ∀ κ, Cmp prog w A s κ (pairsOf vs) r → Q κ s) : wpAny (model prog w) A (keyKind' vs.toArray) Q E s := by
  obtain ⟨fs, k, len, are⟩ := Told.firsts x.tup
  refine PySem.W.kat_kind (T := Value.type "int") k (by omega) (fun f hf => ?_) rfl (h _ fun p q hp hq Q' E' hQ => ?_)
  · obtain ⟨n, t, rfl⟩ := are f hf
    exact PySem.W.Looks.of_pure rfl
  · rw [pairsOf_toList] at hp hq
    have mp := (mem_zip_self hp).2
    have mq := (mem_zip_self hq).2
    obtain ⟨m, ms, tp⟩ := x.tup _ mp
    obtain ⟨n, ns, tq⟩ := x.tup _ mq
    have same := x.one _ mp _ mq
    rw [hr _ mp _ _ tp, hr _ mq _ _ tq] at hQ
    have tp' := tp
    have tq' := tq
    obtain ⟨a, xs, ea, ⟨o, at_a, _, c, dat⟩, isI⟩ := tp
    obtain ⟨a', ys, ea', ⟨o', at_a', _, c', dat'⟩, isJ⟩ := tq
    rw [ea, ea']
    refine PySem.W.kat_lt at_a dat at_a' dat' ?_
    by_cases e : m = n
    · subst e
      have em := same m ms ns tp' tq'
      subst em
      have lx := isI.length
      have ly := isJ.length
      rw [show decide (xs.size < ys.size) = false from decide_eq_false (by rw [Array.length_toList] at lx ly; omega)]
      rw [show decide (m < m) = false from decide_eq_false (Int.lt_irrefl m)] at hQ
      exact lex_same hQ isI 0 isJ
    · generalize xs.toList = l at isI
      generalize ys.toList = l' at isJ
      cases isI with
      | cons _ t rest =>
        cases isJ with
        | cons _ u rest' =>
          refine PySem.W.kat_cons (wpAny_eqBool_int ?_)
          rw [show (m == n) = false from beq_eq_false_iff_ne.mpr e]
          exact PySem.W.kat_no (oneLt_ints _ hQ)
theorem Told.keeps {h h' : Heap} {vs : List Value} (x : Told h vs) (k : ∀ b o, h.get? b = some o → o.cls = .type "tuple" → h'.get? b = some o) : Told h' vs where
  tup := fun v hv => let ⟨n, ns, t⟩ := x.tup v hv; ⟨n, ns, t.keeps k⟩
  one := fun u hu v hv n ns ms t1 t2 => by
    obtain ⟨n1, ns1, d1⟩ := x.tup u hu
    obtain ⟨n2, ns2, d2⟩ := x.tup v hv
    have e1 : n :: ns = n1 :: ns1 := t1.ints.symm.trans (d1.keeps k).ints
    have e2 : n :: ms = n2 :: ns2 := t2.ints.symm.trans (d2.keeps k).ints
    injection e1 with e1 e3
    injection e2 with e2 e4
    subst e1 e2 e3 e4
    exact x.one u hu v hv _ _ _ d1 d2
theorem Told.rank {h h' : Heap} {vs : List Value} (x : Told h vs) (k : ∀ b o, h.get? b = some o → o.cls = .type "tuple" → h'.get? b = some o) : ∀ v ∈ vs, ∀ n ns, TupInts h' v (n :: ns) → (intsOf h v).headD 0 = n := fun v hv n ns t => by
  obtain ⟨n1, ns1, d1⟩ := x.tup v hv
  have e1 : n :: ns = n1 :: ns1 := t.ints.symm.trans (d1.keeps k).ints
  rw [d1.ints, ← e1] <;> rfl
theorem sort_u {a : Addr} {vs : List Value} {n : Nat} {P : PySem.Fin → Shared → Prop} (ho : s.heap.get? a = some (seqObj "list" vs.toArray n)) (h64 : vs.length < 64) (x : Told s.heap vs) (r : Value → Int) (hr : ∀ v ∈ vs, ∀ n ns, TupInts s.heap v (n :: ns) → r v = n)
    (h : ∀ out : Array Value, out.toList.Perm vs → out.toList.Pairwise (fun u v => r u ≤ r v) → P (.done (.ret .none)) { s with heap := sortedHeap s.heap a vs out }) : wpAny (model prog w) A (Builtin.«list.sort» ⟨[.ref a], []⟩) P E s := by
  have tups : ∀ b o, s.heap.get? b = some o → o.cls = .type "tuple" → (midHeap s.heap a vs).get? b = some o := fun b o at_b isT => midHeap_old (fun e => by
    subst e
    rw [← Option.some.inj (ho.symm.trans at_b)] at isT
    have isT : Value.type "list" = Value.type "tuple" := isT
    injection isT with isT
    exact absurd isT (by decide)) at_b
  refine SK.plain_sort (r := r) ho h64 (fun h2 Q hQ => kind_u (s := { s with heap := midHeap s.heap a vs }) h2 (x.keeps tups) r (fun v hv n ns t => ?_) Q hQ) fun ps out h1 h2 h3 => ?_
  · obtain ⟨n1, ns1, d1⟩ := x.tup v hv
    have e1 : n :: ns = n1 :: ns1 := t.ints.symm.trans (d1.keeps tups).ints
    injection e1 with e1 _
    rw [e1]
    exact hr v hv _ _ d1
  · exact let ⟨p, o⟩ := out_rank h1 h2 h3; h out p o
theorem sorted_u {l : Addr} {vs : List Value} {Q : Value → Shared → Prop} (hl : s.heap.IsList l vs.toArray) (h64 : vs.length < 64) (x : Told s.heap vs)
    (h : ∀ out : Array Value, out.toList.Perm vs → out.toList.Pairwise (fun u v => (intsOf s.heap u).headD 0 ≤ (intsOf s.heap v).headD 0) → Q (.ref (s.heap.objs.size + 1)) { s with heap := sortedAll s.heap vs out }) : wpAny (model prog w) A (call (.builtin "sorted") [.ref l]) Q E s := by
  refine Calls.call_function_entry kind_sorted plain_sorted entry_sorted (args_sorted1 _) ?_
  unfold Builtin.«sorted»
  have room : vs.length ≤ sizeLine := by rw [sizeLine_eq]; omega
  refine wpAny_bind (m := checkCount "sorted" 1 1 _) (wpAny_pure (wpAny_bind (collect_list hl (wpAny_bind (wpAny_newList ?_ room)) room)))
  have size1 : ((s.heap.push (seqObj "list" #[] 0)).update s.heap.objs.size (Obj.mapSeq (· ++ vs.toArray))).objs.size = s.heap.objs.size + 1 := (Heap.size_update ..).trans (size_push' ..)
  have atL : (((s.heap.push (seqObj "list" #[] 0)).update s.heap.objs.size (Obj.mapSeq (· ++ vs.toArray))).push (seqObj "list" vs.toArray 0)).get? (s.heap.objs.size + 1) = some (seqObj "list" vs.toArray 0) := size1 ▸ Heap.get?_push_size _ rfl
  have stay : ∀ b o, s.heap.get? b = some o → o.cls = .type "tuple" → (((s.heap.push (seqObj "list" #[] 0)).update s.heap.objs.size (Obj.mapSeq (· ++ vs.toArray))).push (seqObj "list" vs.toArray 0)).get? b = some o := fun b o at_b _ => by
    have lt : b < s.heap.objs.size := Heap.lt_size at_b
    have n1 : b ≠ s.heap.objs.size := Nat.ne_of_lt lt
    refine Heap.get?_push_of_some _ ?_
    rw [Heap.get?_update_ne _ _ _ _ n1]
    exact Heap.get?_push_of_some _ at_b
  show wpAny _ _ _ _ _ { s with heap := ((s.heap.push (seqObj "list" #[] 0)).update s.heap.objs.size (Obj.mapSeq (· ++ vs.toArray))).push (seqObj "list" vs.toArray 0) }
  rw [size1]
  exact wpAny_bind (wpAny_holding (wpAny_call_entry slot_list_sort ⟨_, atL, rfl⟩ entry_list_sort (sort_u atL h64 (x.keeps stay) (fun v => (intsOf s.heap v).headD 0) (x.rank stay) fun out a1 a2 => ⟨_, rfl, wpAny_pure ⟨_, rfl, h out a1 a2⟩⟩) (args_list_sort _)))
end
end TU
namespace L2
open PySem PySem.Spec PyProof.Rows
section
variable {X : Cx}
/-- sorted(xs) of tuples of numbers, told by f, each with a first number that tells it -/
def rSortN (K : PySem.W.Frag) : List V → Hp → VK → Prop := fun vs H Q => ∃ (a : Addr) (xs : List V) (f : V → List Int), vs = [V.ref a] ∧ SqL K H a xs ∧ xs.length < 64 ∧ (∀ x ∈ xs, TupI K H x (f x) ∧ f x ≠ []) ∧ (∀ x ∈ xs, ∀ y ∈ xs, (f x).headD 0 = (f y).headD 0 → f x = f y) ∧
  ∀ (ys : List V) (p : Addr), ys.Perm xs → ys.Pairwise (fun x y => (f x).headD 0 ≤ (f y).headD 0) → H p = none → Q (.ref p) (upd H p (.lst ys))
theorem cr_sortN : CallR X (.builtin "sorted") (rSortN X.K) := by
  rintro pins s σ H vs us Q I r ⟨a, xs, f, rfl, hs, h64, all, one, q⟩
  obtain ⟨its, rv, hl, hz⟩ := I.list hs
  rw [Vals.ref1 r]
  obtain ⟨ex, back⟩ := bkV_refs rv fun x m => let ⟨⟨t, e, _⟩, _⟩ := all x m; ⟨t, e⟩
  have len := rv.length
  have inX : ∀ {t : Addr}, Value.ref t ∈ its → V.ref t ∈ xs := fun {t} m => ex ▸ List.mem_map.mpr ⟨_, m, rfl⟩
  have raw : ∀ {t : Addr}, V.ref t ∈ xs → TS.TupInts s.heap (.ref t) (f (.ref t)) := fun {t} m => by
    obtain ⟨⟨t', e, ht⟩, _⟩ := all _ m
    cases e
    exact tupI_raw I ht
  have cons : ∀ {t : Addr}, V.ref t ∈ xs → ∃ ns, f (.ref t) = (f (.ref t)).headD 0 :: ns := fun {t} m => by
    have ne := (all _ m).2
    revert ne
    cases f (.ref t) with
    | nil => exact fun z => absurd rfl z
    | cons n ns => exact fun _ => ⟨ns, rfl⟩
  refine TU.sorted_u hl.isList (by omega) ⟨fun v hv => ?_, fun u hu v hv n ns ms d1 d2 => ?_⟩ fun out h1 h2 => ?_
  · obtain ⟨t, rfl⟩ := back v hv
    obtain ⟨ns, e⟩ := cons (inX hv)
    exact ⟨_, ns, e ▸ raw (inX hv)⟩
  · obtain ⟨t, rfl⟩ := back u hu
    obtain ⟨t', rfl⟩ := back v hv
    have e1 : n :: ns = f (.ref t) := d1.ints.symm.trans (raw (inX hu)).ints
    have e2 : n :: ms = f (.ref t') := d2.ints.symm.trans (raw (inX hv)).ints
    have e := one _ (inX hu) _ (inX hv) (by rw [← e1, ← e2] <;> rfl)
    rw [← e1, ← e2] at e
    exact (List.cons.inj e).2
  · obtain ⟨ep, isL⟩ := PyProof.Rows.sortedAll_at s.heap its out
    have refs : ∀ u ∈ out.toList, ∃ a, u = Value.ref a := fun u hu => back u (h1.mem_iff.mp hu)
    have perm : (out.toList.map bkV).Perm xs := ex ▸ h1.map bkV
    have few : (out.toList.map bkV).length ≤ sizeLine := perm.length_eq ▸ hz
    refine ⟨.ref _, upd H (s.heap.objs.size + 1) (.lst (out.toList.map bkV)), I.laid (t' := s.toks) (fun _ _ => PyProof.Rows.sortedAll_old) (Nat.le_succ _) ⟨few, out.toList, ep, bkV_vals refs, isL⟩, rfl, q _ _ perm ?_ (I.hok.fresh (Nat.le_succ _))⟩
    refine List.pairwise_map.mpr (h2.imp_of_mem fun {u v} hu hv le => ?_)
    obtain ⟨t, rfl⟩ := refs u hu
    obtain ⟨t', rfl⟩ := refs v hv
    rw [(raw (inX (h1.mem_iff.mp hu))).ints, (raw (inX (h1.mem_iff.mp hv))).ints] at le
    exact le
end
end L2
set_option Elab.async false
set_option linter.all false
set_option maxRecDepth 100000
set_option maxHeartbeats 8000000
namespace WK
open PySem L2 PyProof.Rows LCX K1 FV DP
open TX (sg sigs)
open PySem.W (Frag kitOne)
abbrev sNotTaken : Stmt := top 21
abbrev NNt : List Str := ["back", "start", "taken", "met", "queue", "row", "ahead"]
def nI (l : List Nat) : List Int := l.map fun x => ((x : Nat) : Int)
theorem nI_mem {l : List Nat} {x : Nat} : ((x : Nat) : Int) ∈ nI l ↔ x ∈ l := by
  unfold nI
  rw [List.mem_map]
  exact ⟨fun ⟨y, hy, e⟩ => by rwa [← Int.ofNat.inj e], fun h => ⟨x, h, rfl⟩⟩
theorem nI_len (l : List Nat) : (nI l).length = l.length := List.length_map _
theorem nI_snoc (l : List Nat) (x : Nat) : nI (l ++ [x]) = nI l ++ [((x : Nat) : Int)] := by
  unfold nI
  rw [List.map_append] <;> rfl
/-- a dict of lists, for each row one -/
structure Back (H : Hp) (bk : Addr) (n : Nat) (bs : Nat → List Nat) : Prop where
  ex : ∃ kvs : List (Key × V), H bk = some (.dK kvs) ∧ ∀ x < n, ∃ l, valV kvs (Sum.inl ((x : Nat) : Int) : Key) = some (.ref l) ∧ H l = some (.lst ((nI (bs x)).map V.int))
  few : ∀ x < n, (bs x).length ≤ 1000
  lt : ∀ x < n, ∀ y ∈ bs x, y < n
theorem Back.same {H H' : Hp} {bk : Addr} {n : Nat} {bs : Nat → List Nat} (h : Back H bk n bs) (s : Same H H') : Back H' bk n bs := by
  obtain ⟨⟨kvs, h1, h2⟩, h3, h4⟩ := h
  refine ⟨⟨kvs, s _ _ h1, fun x hx => ?_⟩, h3, h4⟩
  obtain ⟨l, e1, e2⟩ := h2 x hx
  exact ⟨l, e1, s _ _ e2⟩
def spNotTaken : Sp := fun vs H Q _ => ∃ (bk tk : Addr) (n s : Nat) (bs : Nat → List Nat) (tks : List (Key × V)) (T : List Nat), vs = [.ref bk, .int ((s : Nat) : Int), .ref tk] ∧ Back H bk n bs ∧ n ≤ 100 ∧ s < n ∧ H tk = some (.dK tks) ∧ Keys tks (nI T) ∧ s ∉ T ∧
  ∀ (p : Addr) (W : List Nat) H', H p = none → Same H H' → H' p = some (.lst ((nI W).map V.int)) → W.Nodup → s ∈ W → (∀ x ∈ W, x < n ∧ x ∉ T ∧ KN.Rch bs s x) → (∀ x ∈ W, ∀ y ∈ bs x, y ∉ T → y ∈ W) → Q (.ref p) H'
/-- met and still to look at -/
structure Nt (n : Nat) (bs : Nat → List Nat) (T W Z : List Nat) (s : Nat) (left : Nat → Nat → Prop) : Prop where
  nd : W.Nodup
  st : s ∈ W
  sub : ∀ x ∈ Z, x ∈ W
  all : ∀ x ∈ W, x < n ∧ x ∉ T ∧ KN.Rch bs s x
  clo : ∀ x ∈ W, x ∉ Z → ∀ y ∈ bs x, y ∉ T → y ∈ W ∨ left x y
theorem Nt.few {n : Nat} {bs : Nat → List Nat} {T W Z : List Nat} {s : Nat} {left : Nat → Nat → Prop} (h : Nt n bs T W Z s left) : W.length ≤ n := by
  have := h.nd.length_le_of_subset (fun x hx => List.mem_range.mpr (h.all x hx).1 : W ⊆ List.range n)
  rwa [List.length_range] at this
theorem Nt.pop {n : Nat} {bs : Nat → List Nat} {T W Z : List Nat} {r s : Nat} (h : Nt n bs T W (Z ++ [r]) s fun _ _ => False) : Nt n bs T W Z s fun x y => x = r ∧ y ∈ (bs r).drop 0 :=
  ⟨h.nd, h.st, fun x hx => h.sub x (List.mem_append_left _ hx), h.all, fun x hx hz y hy hT => by
    by_cases e : x = r
    · exact .inr ⟨e, e ▸ hy⟩
    · exact .inl ((h.clo x hx (fun z => (List.mem_append.mp z).elim hz fun z => e (List.mem_singleton.mp z)) y hy hT).elim id False.elim)⟩
theorem Nt.skip {n : Nat} {bs : Nat → List Nat} {T W Z : List Nat} {r s i y : Nat} (h : Nt n bs T W Z s fun x z => x = r ∧ z ∈ (bs r).drop i) (hy : (bs r)[i]? = some y) (no : y ∈ W ∨ y ∈ T) : Nt n bs T W Z s fun x z => x = r ∧ z ∈ (bs r).drop (i + 1) :=
  ⟨h.nd, h.st, h.sub, h.all, fun x hx hz z hzx hT => by
    rcases h.clo x hx hz z hzx hT with a | ⟨rfl, b⟩
    · exact .inl a
    · have e : (bs x).drop i = y :: (bs x).drop (i + 1) := by
        obtain ⟨lt, e⟩ := List.getElem?_eq_some_iff.mp hy
        rw [← e]
        exact (List.getElem_cons_drop (h := lt)).symm
      rw [e] at b
      rcases List.mem_cons.mp b with rfl | b
      · exact .inl (no.resolve_right hT)
      · exact .inr ⟨rfl, b⟩⟩
theorem Nt.add {n : Nat} {bs : Nat → List Nat} {T W Z : List Nat} {r s i y : Nat} (h : Nt n bs T W Z s fun x z => x = r ∧ z ∈ (bs r).drop i) (hr : r ∈ W) (hy : (bs r)[i]? = some y) (yn : y < n) (yW : y ∉ W) (yT : y ∉ T) : Nt n bs T (W ++ [y]) (Z ++ [y]) s fun x z => x = r ∧ z ∈ (bs r).drop (i + 1) := by
  refine ⟨List.nodup_append.mpr ⟨h.nd, List.nodup_cons.mpr ⟨List.not_mem_nil, List.nodup_nil⟩, fun x hx z hz e => ?_⟩, List.mem_append_left _ h.st, fun x hx => ?_, fun x hx => ?_, fun x hx hz z hzx hT => ?_⟩
  · rw [List.mem_singleton.mp hz] at e
    exact yW (e ▸ hx)
  · rcases List.mem_append.mp hx with z | z
    · exact List.mem_append_left _ (h.sub x z)
    · exact List.mem_append_right _ z
  · rcases List.mem_append.mp hx with z | z
    · exact h.all x z
    · rw [List.mem_singleton.mp z]
      exact ⟨yn, yT, .step (h.all r hr).2.2 (List.mem_of_getElem? hy)⟩
  · have xy : x ≠ y := fun e => hz (e ▸ List.mem_append_right _ (List.mem_singleton.mpr rfl))
    have xW : x ∈ W := (List.mem_append.mp hx).elim id fun z => absurd (List.mem_singleton.mp z) xy
    rcases h.clo x xW (fun z => hz (List.mem_append_left _ z)) z hzx hT with a | ⟨rfl, b⟩
    · exact .inl (List.mem_append_left _ a)
    · have e : (bs x).drop i = y :: (bs x).drop (i + 1) := by
        obtain ⟨lt, e⟩ := List.getElem?_eq_some_iff.mp hy
        rw [← e]
        exact (List.getElem_cons_drop (h := lt)).symm
      rw [e] at b
      rcases List.mem_cons.mp b with rfl | b
      · exact .inl (List.mem_append_right _ (List.mem_singleton.mpr rfl))
      · exact .inr ⟨rfl, b⟩
theorem Nt.end_ {n : Nat} {bs : Nat → List Nat} {T W Z : List Nat} {r s : Nat} (h : Nt n bs T W Z s fun x z => x = r ∧ z ∈ (bs r).drop (bs r).length) : Nt n bs T W Z s fun _ _ => False :=
  ⟨h.nd, h.st, h.sub, h.all, fun x hx hz y hy hT => (h.clo x hx hz y hy hT).imp id fun ⟨_, b⟩ => by
    rw [List.drop_length] at b
    exact absurd b List.not_mem_nil⟩
section
variable {P : Program} {w : World} {K : PySem.W.Frag} {mg : Str → Option Value} {base : Heap}
theorem scNt : FnScope NNt ["back", "start", "taken"] (defScope sNotTaken) := ⟨rfl, rfl, rfl, by decide +kernel, rfl, by decide +kernel, by decide +kernel⟩
theorem ok_nottaken {f : Addr} {fd : FuncData} (F : Fun K "_not_taken" "_not_taken" sNotTaken f fd) (T : TN mg) : FnOk P w K mg base CX0 1 f fd ["back", "start", "taken"] spNotTaken := by
  refine F.ok scNt (fun vs H Q E h => ?_) (fun cdv A outer s H vs Q E hr h => ?_)
  · obtain ⟨bk, tk, n, s, _, _, _, rfl, _⟩ := h
    rfl
  · obtain ⟨bk, tk, n, st, bs, tks, Tk, rfl, hb, n1, sn, htk, ktk, sT, q⟩ := h
    have hub := hu_of hr
    refine ⟨_, pss_cons (ps_set (i := 3) scNt.nd rfl (Or.inl rfl) (pe_disp1 (Nat.lt_of_succ_lt hub) (pv 1) pe_bl))
      (pss_cons (ps_set (i := 4) scNt.nd rfl (Or.inl rfl) (pe_lst (pa_cons (pv 1) pa_nil)))
      (pss_cons (ps_while PassesOwn.never (pt_truth (pv 4) (fun _ => rfl))
        (pss_cons (ps_set (i := 5) scNt.nd rfl (Or.inl rfl) (pe_bm0 PySem.F.plainAttrs_list PySem.F.slot_list_pop PySem.F.type_list_pop mt_pop (pv 4)))
        (pss_one (ps_for PassesOwn.never rfl (pi_list (pe_dget hub (pv 0) (pv 5) (fun _ _ => rfl))) (pg_name (i := 6) scNt.nd rfl (Or.inl rfl))
          (pss_one (ps_if (PW.pt (pw_and (pt_cmp (pc_dnotin hub (pv 6) (pv 3))) (pw_and1 (pt_cmp (pc_dnotin hub (pv 6) (pv 2))))))
            (pss_cons (ps_dput hub (pv 3) (pv 6) pe_bl rfl)
            (pss_one (ps_expr (pe_bm PySem.F.plainAttrs_list PySem.F.slot_list_append PySem.F.type_list_append mt_append (pv 4) (pa_cons (pv 6) pa_nil))))) pss_nil))))))
      (pss_one (ps_ret (pe_callTy (call_listD rfl) (by rfl) T.list (by decide +kernel) (pa_cons (pv 3) pa_nil)))))), ?_⟩
    refine ⟨.dK [], .inl rfl, fun D hD => ⟨_, rfl, _, DPut.k (kvs := []) (k := (Sum.inl ((st : Nat) : Int) : Key)) upd_same (by show 0 < sizeLine; decide), ?_⟩⟩
    rw [upd_upd]
    refine ⟨_, rfl, by show 1 ≤ sizeLine; decide, fun M hM => ?_⟩
    have nD : H D = none := hD
    have nDM : D ≠ M := fun z => by rw [← z, upd_same] at hM; cases hM
    have nM : H M = none := (same_upd hD).free hM
    have i1 : Nt n bs Tk [st] [st] st fun _ _ => False := ⟨List.nodup_cons.mpr ⟨List.not_mem_nil, List.nodup_nil⟩, .head _, fun _ h => h, fun x hx => by
      rw [List.mem_singleton.mp hx]
      exact ⟨sn, sT, .refl st⟩, fun x hx hz => absurd hx hz⟩
    refine ⟨fun m σ H2 => ∃ (W Z : List Nat) (kvs : List (Key × V)) (x5 x6 : Option V), m = 2 * (n - W.length) + Z.length ∧ Nt n bs Tk W Z st (fun _ _ => False) ∧ Same H H2 ∧ H2 D = some (.dK kvs) ∧ Keys kvs (nI W) ∧ H2 M = some (.lst ((nI Z).map V.int)) ∧ 2 * (n - W.length) + Z.length ≤ 2 * n ∧
      σ = [some (.ref bk), some (.int ((st : Nat) : Int)), some (.ref tk), some (.ref D), some (.ref M), x5, x6], ⟨_, [st], [st], _, none, none, rfl, i1, same_two (same_upd hD) hM, same_upd hM _ _ upd_same, rfl, upd_same, by show 2 * (n - 1) + 1 ≤ 2 * n; omega, rfl⟩, ?_⟩
    rintro m σ H2 ⟨W, Z, kvs, x5, x6, rfl, nt, s2, hd, keys, hm, few, rfl⟩
    refine ⟨_, rfl, _, .inl ⟨_, SqL.of hm, rfl⟩, ?_⟩
    obtain rfl | ⟨Z, r, rfl⟩ : Z = [] ∨ ∃ Y r, Z = Y ++ [r] := (List.eq_nil_or_concat Z).imp id fun ⟨Y, r, e⟩ => ⟨Y, r, e.trans List.concat_eq_append⟩
    · refine iteF ?_
      have ek : (kvs.map fun kv => kV kv.1) = (nI W).map V.int := by
        have h := congrArg (List.map kV) (show kvs.map (·.1) = (nI W).map (Sum.inl : Int → Key) from keys)
        rw [List.map_map, List.map_map] at h
        exact h
      refine ⟨_, rfl, D, _, rfl, .inl hd, fun p hp => ?_⟩
      rw [ek]
      exact q p W _ (s2.free hp) (s2.trans (same_upd hp)) upd_same nt.nd nt.st nt.all fun x hx y hy hT => (nt.clo x hx List.not_mem_nil y hy hT).elim id False.elim
    · refine ite2 (fun _ => ?_) (fun h => ?_)
      rotate_left
      · refine absurd ?_ h
        unfold nI
        simp
      have ex : (nI (Z ++ [r])).map V.int = (nI Z).map V.int ++ [.int ((r : Nat) : Int)] := by
        rw [nI_snoc, List.map_append] <;> rfl
      rw [ex] at hm
      have hW := nt.few
      rw [List.length_append, List.length_singleton] at few
      have hy : ((nI Z).map V.int ++ [V.int ((r : Nat) : Int)])[((nI Z).map V.int ++ [V.int ((r : Nat) : Int)]).length - 1]? = some (V.int ((r : Nat) : Int)) := by
        rw [List.length_append, List.length_singleton, Nat.add_sub_cancel, List.getElem?_append_right (Nat.le_refl _), Nat.sub_self] <;> rfl
      refine ⟨_, fun _ _ h => h, ?_⟩
      have nt1 := nt.pop
      have rW : r ∈ W := nt.sub r (List.mem_append_right _ (List.mem_singleton.mpr rfl))
      have rn := (nt.all r rW).1
      refine ⟨_, rfl, .inl ⟨rfl, _, SqL.of hm⟩, M, _, _, rfl, rfl, hm, hy, ?_⟩
      rw [List.dropLast_concat]
      have s3 : Same H (upd H2 M (.lst ((nI Z).map V.int))) := same_at s2 nM
      have hd3 : (upd H2 M (.lst ((nI Z).map V.int))) D = some (.dK kvs) := (upd_ne nDM).trans hd
      have hm3 : (upd H2 M (.lst ((nI Z).map V.int))) M = some (.lst ((nI Z).map V.int)) := upd_same
      generalize upd H2 M (.lst ((nI Z).map V.int)) = H3 at s3 hd3 hm3 ⊢
      obtain ⟨bks, hbk, hbs⟩ := hb.ex
      obtain ⟨l, hv, hl⟩ := hbs r rn
      have lD : l ≠ D := fun z => by rw [z, nD] at hl; cases hl
      have lM : l ≠ M := fun z => by rw [z, nM] at hl; cases hl
      have hbr := hb.few r rn
      have hblt := hb.lt r rn
      have dgb : ∀ {H' : Hp}, Same H H' → DGet H' bk (kV (Sum.inl ((r : Nat) : Int) : Key)) (some (.ref l)) := fun s => hv ▸ DGet.k (k := (Sum.inl ((r : Nat) : Int) : Key)) (s _ _ hbk)
      refine ⟨_, rfl, _, rfl, bk, _, rfl, dgb s3, ?_⟩
      refine ⟨l, rfl, ⟨_, SqL.of (s3 _ _ hl)⟩, ?_⟩
      have el : ((nI (bs r)).map V.int).length = (bs r).length := by rw [List.length_map, nI_len]
      refine for_it walk_list (fun i σ H4 => ∃ (W' Z' : List Nat) (kvs' : List (Key × V)) (y6 : Option V), Nt n bs Tk W' Z' st (fun x z => x = r ∧ z ∈ (bs r).drop i) ∧ r ∈ W' ∧ 2 * (n - W'.length) + Z'.length ≤ 2 * (n - W.length) + Z.length ∧ Same H H4 ∧ H4 D = some (.dK kvs') ∧ Keys kvs' (nI W') ∧ H4 M = some (.lst ((nI Z').map V.int)) ∧
        σ = [some (.ref bk), some (.int ((st : Nat) : Int)), some (.ref tk), some (.ref D), some (.ref M), some (.int ((r : Nat) : Int)), y6]) ⟨W, Z, kvs, x6, nt1, rW, Nat.le_refl _, s3, hd3, keys, hm3, rfl⟩ (fun i σ H4 _ ⟨_, _, _, _, _, _, _, s, _⟩ => SqL.of (s _ _ hl)) ?_ ?_
      · rintro i x σ H4 H5 hi ⟨W', Z', kvs', y6, nt4, rW4, le4, s4, hd4, keys4, hm4, rfl⟩ ⟨rfl, hx⟩
        rw [el] at hi
        obtain ⟨y, ey⟩ : ∃ y, (bs r)[i]? = some y := ⟨_, List.getElem?_eq_getElem hi⟩
        obtain rfl : x = .int ((y : Nat) : Int) := by
          unfold nI at hx
          rw [List.getElem?_map, List.getElem?_map, ey] at hx
          exact (Option.some.inj hx).symm
        have yn := hblt y (List.mem_of_getElem? ey)
        have hW4 := nt4.few
        refine ⟨_, rfl, _, rfl, D, _, rfl, DGet.k (k := (Sum.inl ((y : Nat) : Int) : Key)) hd4, _, rfl, ?_⟩
        by_cases yW : y ∈ W'
        · obtain ⟨v, hv⟩ := Option.ne_none_iff_exists'.mp ((keys4.val _).mpr (nI_mem.mpr yW))
          rw [hv]
          refine iteF ?_
          exact ⟨W', Z', kvs', _, nt4.skip ey (.inl yW), rW4, le4, s4, hd4, keys4, hm4, rfl⟩
        have hv : valV kvs' (Sum.inl ((y : Nat) : Int) : Key) = none := Classical.byContradiction fun z => yW (nI_mem.mp ((keys4.val _).mp z))
        rw [hv]
        refine iteT ?_
        refine ⟨_, rfl, _, rfl, tk, _, rfl, DGet.k (k := (Sum.inl ((y : Nat) : Int) : Key)) (s4 _ _ htk), _, rfl, ?_⟩
        by_cases yT : y ∈ Tk
        · obtain ⟨v, hv⟩ := Option.ne_none_iff_exists'.mp ((ktk.val _).mpr (nI_mem.mpr yT))
          rw [hv]
          refine iteF ?_
          exact ⟨W', Z', kvs', _, nt4.skip ey (.inr yT), rW4, le4, s4, hd4, keys4, hm4, rfl⟩
        have hv2 : valV tks (Sum.inl ((y : Nat) : Int) : Key) = none := Classical.byContradiction fun z => yT (nI_mem.mp ((ktk.val _).mp z))
        rw [hv2]
        refine iteT ?_
        have nt5 := nt4.add rW4 ey yn yW yT
        have few5 := nt5.few
        rw [List.length_append, List.length_singleton] at few5
        refine ⟨_, rfl, _, rfl, D, _, rfl, DPut.k (k := (Sum.inl ((y : Nat) : Int) : Key)) hd4 (by rw [keys4.len, nI_len, sizeLine_eq]; omega), ?_⟩
        have hm5 : upd H5 D (.dK (putK kvs' (Sum.inl ((y : Nat) : Int)) (.bl true))) M = some (.lst ((nI Z').map V.int)) := (upd_ne (Ne.symm nDM)).trans hm4
        refine ⟨_, rfl, .inl ⟨rfl, _, SqL.of hm5⟩, _, rfl, M, _, _, rfl, rfl, hm5, by rw [List.length_map, nI_len, sizeLine_eq]; omega, ?_⟩
        refine ⟨W' ++ [y], Z' ++ [y], _, _, nt5, List.mem_append_left _ rW4, ?_, same_at (same_at s4 nD) nM, (upd_ne nDM).trans upd_same, ?_, ?_, rfl⟩
        · rw [List.length_append, List.length_append, List.length_singleton]
          omega
        · rw [nI_snoc]
          exact keys4.put (fun z => yW (nI_mem.mp z)) _
        · rw [upd_same, nI_snoc, List.map_append] <;> rfl
      · rintro σ H4 ⟨W', Z', kvs', y6, nt4, rW4, le4, s4, hd4, keys4, hm4, rfl⟩
        rw [el] at nt4
        refine ⟨_, ?_, W', Z', kvs', _, _, rfl, nt4.end_, s4, hd4, keys4, hm4, by omega, rfl⟩
        rw [List.length_append, List.length_singleton]
        omega
end
end WK
set_option Elab.async false
set_option linter.all false
set_option maxRecDepth 100000
set_option maxHeartbeats 8000000
namespace WK
open PySem L2 PyProof.Rows LCX K1 FV DP
open TX (sg sigs)
open PySem.W (Frag kitOne)
abbrev sTurned : Stmt := top 19
abbrev NTu : List Str := ["table", "row", "back", "afters", "after"]
def rowN (tb : List (List Int)) (x : Nat) : List Nat := (tb.getD x []).map Int.toNat
/-- addresses, each by its place -/
def kvF4 (ls : List Addr) (s : Nat) : List (Key × V) := (ls.zipIdx s).map fun q => ((Sum.inl ((q.2 : Nat) : Int) : Key), V.ref q.1)
theorem kv4_val (ls : List Addr) : ∀ (s i : Nat), valV (kvF4 ls s) (Sum.inl (((s + i : Nat) : Nat) : Int) : Key) = (ls[i]?).map V.ref := by
  induction ls with
  | nil => exact fun _ _ => rfl
  | cons a ls ih =>
    intro s i
    have e : kvF4 (a :: ls) s = ((Sum.inl ((s : Nat) : Int) : Key), V.ref a) :: kvF4 ls (s + 1) := by
      unfold kvF4
      rw [List.zipIdx_cons] <;> rfl
    rw [e]
    unfold valV
    rw [List.find?_cons]
    cases i with
    | zero =>
      rw [show decide (((Sum.inl ((s : Nat) : Int) : Key), V.ref a).1 = (Sum.inl (((s + 0 : Nat) : Nat) : Int) : Key)) = true from decide_eq_true rfl] <;> rfl
    | succ i =>
      have ne : decide (((Sum.inl ((s : Nat) : Int) : Key), V.ref a).1 = (Sum.inl (((s + (i + 1) : Nat) : Nat) : Int) : Key)) = false := decide_eq_false fun z => by
        have := Sum.inl.inj z
        omega
      rw [ne]
      have h := ih (s + 1) i
      rw [show s + 1 + i = s + (i + 1) by omega] at h
      exact h
theorem kv4_len (ls : List Addr) (s : Nat) : (kvF4 ls s).length = ls.length := by
  unfold kvF4
  rw [List.length_map, List.length_zipIdx]
theorem kv4_snoc (ls : List Addr) (a : Addr) : putK (kvF4 ls 0) (Sum.inl ((ls.length : Nat) : Int) : Key) (.ref a) = kvF4 (ls ++ [a]) 0 := by
  have h := kv4_val ls 0 ls.length
  rw [Nat.zero_add, List.getElem?_eq_none (Nat.le_refl _)] at h
  rw [putK_new _ h]
  unfold kvF4
  rw [List.zipIdx_append, List.map_append, Nat.zero_add] <;> rfl
def spTurned (K : Frag) : Sp := fun vs H Q _ => ∃ (t : Addr) (tb : List (List Int)) (wd : Nat) (n : Int), vs = [.ref t] ∧ TTab K H t tb ∧ TabOk tb wd n ∧ tb.length * wd ≤ 1000 ∧ tb.length ≤ 100 ∧
  ∀ (p : Addr) (bs : Nat → List Nat) H', H p = none → Same H H' → Back H' p tb.length bs → (∀ x < tb.length, ∀ y, y ∈ bs x ↔ y < tb.length ∧ x ∈ rowN tb y) → Q (.ref p) H'
theorem sqT9 {K : Frag} {H H' : Hp} {a : Addr} {xs : List V} (h : SqT K H a xs) (s : Same H H') : SqT K H' a xs := by
  rcases h with (z | ⟨o, z⟩) | z
  · exact .inl (.inl (s _ _ z))
  · exact .inl (.inr ⟨o, s _ _ z⟩)
  · exact .inr z
section
variable {P : Program} {w : World} {K : PySem.W.Frag} {mg : Str → Option Value} {base : Heap}
theorem scTu : FnScope NTu ["table"] (defScope sTurned) := ⟨rfl, rfl, rfl, by decide +kernel, rfl, by decide +kernel, by decide +kernel⟩
theorem ok_turned {f : Addr} {fd : FuncData} (F : Fun K "_turned_round" "_turned_round" sTurned f fd) (T : TN mg) (en : mg "enumerate" = none) : FnOk P w K mg base CX0 1 f fd ["table"] (spTurned K) := by
  refine F.ok scTu (fun vs H Q E h => ?_) (fun cdv A outer s H vs Q E hr h => ?_)
  · obtain ⟨t, _, _, _, rfl, _⟩ := h
    rfl
  · obtain ⟨t, tb, wd, n, rfl, hT, ok, mul, n1, q⟩ := h
    have hub := hu_of hr
    refine ⟨_, pss_cons (ps_setDc (i := 2) (own := [("row", 1)]) (g := gName 1) (tt := tYes) (tk := tVar 1) (tv := tLst tNil) rfl scTu.nd rfl rfl (by rfl) (pi_range1 rfl T.rng (pa_cons (pe_callB call_len_seq (by rfl) T.len PySem.boot_len (pa_cons (pv 0) pa_nil)) pa_nil))
          (blkOk_by (own := [("row", 1)]) (N := NTu) (sc := defScope sTurned) (by decide +kernel)) (fun _ _ _ _ _ => pg_name (i := 1) scTu.nd rfl (Or.inl rfl)) (fun _ _ _ _ _ => pts_nil) (fun _ _ _ _ _ => pv 1) (fun _ _ _ _ _ => pe_lst pa_nil))
      (pss_cons (ps_for PassesOwn.never rfl (ENU.pi_enT rfl en (pa_cons (pv 0) pa_nil)) (pg_tup (by rfl) (pgs_cons (pg_name (i := 1) scTu.nd rfl (Or.inl rfl)) (pgs_cons (pg_name (i := 3) scTu.nd rfl (Or.inl rfl)) pgs_nil)))
          (pss_one (ps_for PassesOwn.never rfl (pi_tup (pv 3)) (pg_name (i := 4) scTu.nd rfl (Or.inl rfl))
            (pss_one (ps_expr (pe_bm PySem.F.plainAttrs_list PySem.F.slot_list_append PySem.F.type_list_append mt_append (pe_dget hub (pv 2) (pv 4) (fun _ _ => rfl)) (pa_cons (pv 1) pa_nil)))))))
      (pss_one (ps_ret (pv 2)))), ?_⟩
    obtain ⟨ts, h1, h2⟩ := id hT
    have lt := h2.len
    have okl := ok.len
    refine ⟨_, rfl, t, _, rfl, .inr h1, ((tb.length : Nat) : Int), by rw [List.length_map, lt], by omega, by omega, fun D nD => ?_⟩
    refine dc_it walk_range (fun i H3 => Same H H3 ∧ ∃ ls : List Addr, ls.length = i ∧ ls.Nodup ∧ (∀ l ∈ ls, H l = none ∧ l ≠ D ∧ H3 l = some (.lst [])) ∧ H3 D = some (.dK (kvF4 ls 0))) ⟨same_upd nD, [], rfl, List.nodup_nil, fun l hl => absurd hl List.not_mem_nil, upd_same⟩ (fun _ _ _ _ => trivial) ?_ ?_
    · rintro i xi H3 H4 hi ⟨s3, ls, ll, nd, hls, hd⟩ ⟨rfl, exi⟩
      obtain rfl : xi = .int ((i : Nat) : Int) := exi.trans (congrArg V.int (Int.zero_add _))
      rw [Int.toNat_natCast] at hi
      refine ⟨rfl, _, rfl, by show 0 ≤ sizeLine; decide, fun a na => ?_⟩
      have aD : a ≠ D := fun z => by rw [z, hd] at na; cases na
      have s4 : Same H (upd H4 a (.lst [])) := s3.trans (same_upd na)
      refine ⟨_, (Sum.inl ((i : Nat) : Int) : Key), rfl, (upd_ne (Ne.symm aD)).trans hd, by rw [kv4_len, sizeLine_eq]; omega, same_at s4 nD, ls ++ [a], by rw [List.length_append, ll] <;> rfl, ?_, fun l hl => ?_, ?_⟩
      · refine List.nodup_append.mpr ⟨nd, List.nodup_cons.mpr ⟨List.not_mem_nil, List.nodup_nil⟩, fun x hx y hy e => ?_⟩
        rw [List.mem_singleton.mp hy] at e
        rw [e] at hx
        have := (hls a hx).2.2
        rw [na] at this
        cases this
      · rcases List.mem_append.mp hl with z | z
        · obtain ⟨p1, p2, p3⟩ := hls l z
          have la : l ≠ a := fun e => by rw [e, na] at p3; cases p3
          exact ⟨p1, p2, (upd_ne p2).trans ((upd_ne la).trans p3)⟩
        · rw [List.mem_singleton.mp z]
          exact ⟨s3.free na, aD, (upd_ne aD).trans upd_same⟩
      · rw [upd_same, ← ll, kv4_snoc]
    rintro H3 ⟨s3, ls, ll, nd, hls, hd⟩
    rw [Int.toNat_natCast] at ll
    have dg : ∀ {H' : Hp} {x : Nat} {l : Addr}, H' D = some (.dK (kvF4 ls 0)) → ls[x]? = some l → DGet H' D (kV (Sum.inl ((x : Nat) : Int) : Key)) (some (.ref l)) := fun {H' x l} h e => by
      have hv := kv4_val ls 0 x
      rw [Nat.zero_add, e] at hv
      have hv : valV (kvF4 ls 0) (Sum.inl ((x : Nat) : Int) : Key) = some (.ref l) := hv
      exact hv ▸ DGet.k (k := (Sum.inl ((x : Nat) : Int) : Key)) h
    have nDH : H D = none := nD
    refine ⟨_, rfl, t, _, rfl, sqT9 h1 s3, ?_⟩
    have rl : ∀ {i : Nat}, i < tb.length → (rowN tb i).length = wd ∧ ∀ x ∈ rowN tb i, x < tb.length := fun {i} hi => by
      have e : tb.getD i [] = tb[i] := by rw [List.getD_eq_getElem?_getD, List.getElem?_eq_getElem hi] <;> rfl
      obtain ⟨r1, r2⟩ := ok.row _ (List.getElem_mem hi)
      unfold rowN
      rw [e]
      refine ⟨by rw [List.length_map, r1], fun x hx => ?_⟩
      obtain ⟨z, hz, rfl⟩ := List.mem_map.mp hx
      have := r2 z hz
      omega
    refine for_it ENU.walk_enT (fun i σ H4 => ∃ (bs : Nat → List Nat) (y1 y3 y4 : Option V), Same H H4 ∧ H4 D = some (.dK (kvF4 ls 0)) ∧ (∀ (x : Nat) (l : Addr), ls[x]? = some l → H4 l = some (.lst ((nI (bs x)).map V.int))) ∧ (∀ x < tb.length, ∀ y, y ∈ bs x ↔ y < i ∧ x ∈ rowN tb y) ∧ (∀ x < tb.length, (bs x).length ≤ i * wd) ∧
      σ = [some (.ref t), y1, some (.ref D), y3, y4]) ⟨fun _ => [], _, _, _, s3, hd, fun x l e => (hls l (List.mem_of_getElem? e)).2.2, fun x hx y => ⟨fun z => absurd z List.not_mem_nil, fun z => absurd z.1 (Nat.not_lt_zero y)⟩, fun x hx => Nat.zero_le _, rfl⟩ (fun i σ H4 _ ⟨_, _, _, _, s, _⟩ => sqT9 h1 s) ?_ ?_
    · rintro i x σ H4 H5 hi ⟨bs, y1, y3, y4, s4, hd4, hl4, mb, lb, rfl⟩ ⟨T1, y, rfl, hT1, rfl, hy⟩
      rw [List.length_map, lt] at hi
      obtain ⟨a, ea, ha⟩ := h2.get hi
      obtain rfl : y = .ref a := by
        rw [List.getElem?_map, ea] at hy
        exact (Option.some.inj hy).symm
      have s5 : Same H4 (upd H4 T1 (.tup [.int ((i : Nat) : Int), .ref a])) := same_upd hT1
      have tu : (upd H4 T1 (.tup [.int ((i : Nat) : Int), .ref a])) T1 = some (.tup [.int ((i : Nat) : Int), .ref a]) := upd_same
      generalize upd H4 T1 (.tup [.int ((i : Nat) : Int), .ref a]) = H5 at s5 tu ⊢
      have s05 := s4.trans s5
      obtain ⟨rw1, rw2⟩ := rl hi
      have er : rowN tb i = (tb.getD i []).map Int.toNat := rfl
      have r2 : ∀ z ∈ tb.getD i [], 0 ≤ z ∧ z < n := by
        rw [List.getD_eq_getElem?_getD, List.getElem?_eq_getElem hi]
        exact (ok.row _ (List.getElem_mem hi)).2
      have ha : H a = some (oTup (tb.getD i [])) := ha
      generalize tb.getD i [] = rw at ha er r2
      have lrw : rw.length = wd := by rw [er, List.length_map] at rw1; exact rw1
      refine ⟨T1, _, rfl, SqT.of tu, rfl, _, _, rfl, _, _, rfl, rfl, ?_⟩
      refine ⟨_, rfl, a, rfl, ⟨_, SqT.of (s05 _ _ ha)⟩, ?_⟩
      refine for_tup (xs := rw.map V.int) (fun j σ H6 => ∃ (bs : Nat → List Nat) (y4 : Option V), Same H H6 ∧ H6 D = some (.dK (kvF4 ls 0)) ∧ (∀ (x : Nat) (l : Addr), ls[x]? = some l → H6 l = some (.lst ((nI (bs x)).map V.int))) ∧ (∀ x < tb.length, ∀ y, y ∈ bs x ↔ (y < i ∧ x ∈ rowN tb y) ∨ (y = i ∧ x ∈ (rowN tb i).take j)) ∧ (∀ x < tb.length, (bs x).length ≤ i * wd + j) ∧
        σ = [some (.ref t), some (.int ((i : Nat) : Int)), some (.ref D), some (.ref a), y4]) ⟨bs, _, s05, s5 _ _ hd4, fun x l e => s5 _ _ (hl4 x l e), fun x hx y => (mb x hx y).trans ⟨.inl, fun z => z.elim id fun z => by simp at z⟩, lb, rfl⟩ (fun j σ H6 _ ⟨_, _, s, _⟩ => SqT.of (s _ _ ha)) ?_ ?_
      · rintro j x σ H6 hx ⟨bs, y4, s6, hd6, hl6, mb6, lb6, rfl⟩
        rw [List.getElem?_map] at hx
        obtain ⟨z, hz, rfl⟩ := Option.map_eq_some_iff.mp hx
        have zin := r2 z (List.mem_of_getElem? hz)
        obtain ⟨v, rfl⟩ : ∃ v : Nat, z = ((v : Nat) : Int) := ⟨z.toNat, by omega⟩
        have vn : v < tb.length := by omega
        have ev : (rowN tb i)[j]? = some v := by rw [er, List.getElem?_map, hz] <;> rfl
        have jl := (List.getElem?_eq_some_iff.mp hz).1
        obtain ⟨l, el⟩ : ∃ l, ls[v]? = some l := ⟨_, List.getElem?_eq_getElem (by omega)⟩
        have hl := hl6 v l el
        obtain ⟨p1, p2, p3⟩ := hls l (List.mem_of_getElem? el)
        have lbv := lb6 v vn
        have mul2 : i * wd + j ≤ 1000 := by
          have : (i + 1) * wd ≤ tb.length * wd := Nat.mul_le_mul hi (Nat.le_refl _)
          rw [Nat.succ_mul] at this
          omega
        refine ⟨_, rfl, _, rfl, D, _, rfl, dg hd6 el, .inl ⟨rfl, _, SqL.of hl⟩, _, rfl, l, _, _, rfl, rfl, hl, by rw [List.length_map, nI_len, sizeLine_eq]; omega, ?_⟩
        obtain ⟨H7, e7⟩ : ∃ H7, H7 = upd H6 l (.lst ((nI (bs v)).map V.int ++ [V.int ((i : Nat) : Int)])) := ⟨_, rfl⟩
        rw [← e7]
        have at7 : H7 l = some (.lst ((nI (bs v ++ [i])).map V.int)) := by rw [e7, upd_same, nI_snoc, List.map_append] <;> rfl
        have ne7 : ∀ {b : Addr}, b ≠ l → H7 b = H6 b := fun h => by rw [e7]; exact upd_ne h
        refine ⟨fun x => if x = v then bs v ++ [i] else bs x, _, by rw [e7]; exact same_at s6 p1, (ne7 (Ne.symm p2)).trans hd6, fun x m em => ?_, fun x hx' y => ?_, fun x hx' => ?_, rfl⟩
        · by_cases e : x = v
          · subst e
            obtain rfl : l = m := Option.some.inj (el.symm.trans em)
            show H7 l = some (.lst ((nI (if x = x then bs x ++ [i] else bs x)).map V.int))
            rw [if_pos rfl]
            exact at7
          · have ml : m ≠ l := fun z => e (by
              subst z
              have lx := (List.getElem?_eq_some_iff.mp em).1
              exact (List.getElem?_inj lx nd).mp (em.trans el.symm))
            show H7 m = some (.lst ((nI (if x = v then bs v ++ [i] else bs x)).map V.int))
            rw [if_neg e]
            exact (ne7 ml).trans (hl6 x m em)
        · have tk : (rowN tb i).take (j + 1) = (rowN tb i).take j ++ [v] := by rw [List.take_add_one, ev] <;> rfl
          rw [tk, List.mem_append, List.mem_singleton]
          show y ∈ (if x = v then bs v ++ [i] else bs x) ↔ _
          by_cases e : x = v
          · subst e
            rw [if_pos rfl, List.mem_append, List.mem_singleton, mb6 x hx' y]
            constructor
            · rintro ((z | z) | rfl)
              · exact .inl z
              · exact .inr ⟨z.1, .inl z.2⟩
              · exact .inr ⟨rfl, .inr rfl⟩
            · rintro (z | ⟨rfl, z | _⟩)
              · exact .inl (.inl z)
              · exact .inl (.inr ⟨rfl, z⟩)
              · exact .inr rfl
          · rw [if_neg e, mb6 x hx' y]
            constructor
            · rintro (z | z)
              · exact .inl z
              · exact .inr ⟨z.1, .inl z.2⟩
            · rintro (z | ⟨z1, z | z⟩)
              · exact .inl z
              · exact .inr ⟨z1, z⟩
              · exact absurd z e
        · show (if x = v then bs v ++ [i] else bs x).length ≤ _
          by_cases e : x = v
          · rw [if_pos e, List.length_append, List.length_singleton]
            omega
          · rw [if_neg e]
            have := lb6 x hx'
            omega
      · rintro σ H6 ⟨bs, y4, s6, hd6, hl6, mb6, lb6, rfl⟩
        have l1 : (rw.map V.int).length = wd := by rw [List.length_map, lrw]
        rw [l1] at mb6 lb6
        refine ⟨bs, _, _, _, s6, hd6, hl6, fun x hx y => (mb6 x hx y).trans ⟨fun z => ?_, fun z => ?_⟩, fun x hx => ?_, rfl⟩
        · rcases z with z | ⟨rfl, z⟩
          · exact ⟨by omega, z.2⟩
          · exact ⟨by omega, List.mem_of_mem_take z⟩
        · rcases Nat.lt_or_ge y i with h | h
          · exact .inl ⟨h, z.2⟩
          · obtain rfl : y = i := by omega
            refine .inr ⟨rfl, ?_⟩
            rw [List.take_of_length_le (Nat.le_of_eq rw1)]
            exact z.2
        · rw [Nat.succ_mul]
          exact lb6 x hx
    · rintro σ H4 ⟨bs, y1, y3, y4, s4, hd4, hl4, mb, lb, rfl⟩
      rw [List.length_map, lt] at mb lb
      refine ⟨_, rfl, q D bs H4 nDH s4 ⟨⟨_, hd4, fun x hx => ?_⟩, fun x hx => Nat.le_trans (lb x hx) mul, fun x hx y hy => ((mb x hx y).mp hy).1⟩ mb⟩
      obtain ⟨l, el⟩ : ∃ l, ls[x]? = some l := ⟨_, List.getElem?_eq_getElem (by omega)⟩
      have hv := kv4_val ls 0 x
      rw [Nat.zero_add, el] at hv
      exact ⟨l, hv, hl4 x l el⟩
end
end WK
set_option Elab.async false
set_option linter.all false
set_option maxRecDepth 100000
set_option maxHeartbeats 4000000
namespace RX
section
variable {α κ μ ν : Type} [DecidableEq κ] [DecidableEq μ]
/-- set if it is new -/
def addNew (d : List (μ × ν)) (p : μ × ν) : List (μ × ν) := if p.1 ∈ d.map (·.1) then d else d ++ [p]
theorem addNew_keep {d : List (μ × ν)} {p : μ × ν} {k : μ} (h : k ∈ d.map (·.1)) : k ∈ (addNew d p).map (·.1) := by
  unfold addNew
  split
  · exact h
  · rw [List.map_append]
    exact List.mem_append_left _ h
theorem addNew_has (d : List (μ × ν)) (p : μ × ν) : p.1 ∈ (addNew d p).map (·.1) := by
  unfold addNew
  split
  · assumption
  · rw [List.map_append]
    exact List.mem_append_right _ (.head _)
theorem fold_keep {k : μ} : ∀ (l : List (μ × ν)) {d : List (μ × ν)}, k ∈ d.map (·.1) → k ∈ (l.foldl addNew d).map (·.1)
  | [], _, h => h
  | _ :: l, _, h => fold_keep l (addNew_keep h)
theorem fold_has {p : μ × ν} : ∀ (l : List (μ × ν)) {d : List (μ × ν)}, p ∈ l → p.1 ∈ (l.foldl addNew d).map (·.1)
  | q :: l, d, h => by
    rcases List.mem_cons.mp h with rfl | h
    · exact fold_keep l (addNew_has _ _)
    · exact fold_has l h
theorem fold_old : ∀ (l : List (μ × ν)) {d : List (μ × ν)}, (∀ p ∈ l, p.1 ∈ d.map (·.1)) → l.foldl addNew d = d
  | [], _, _ => rfl
  | p :: l, d, h => by
    have e : addNew d p = d := if_pos (h p (.head _))
    rw [List.foldl_cons, e]
    exact fold_old l fun q hq => h q (.tail _ hq)
/-- one of each kind, the first -/
def step1 (K : α → κ) (acc : List α) (a : α) : List α := if K a ∈ acc.map K then acc else acc ++ [a]
def dd1 (K : α → κ) (l : List α) : List α := l.foldl (step1 K) []
theorem dd1_snoc (K : α → κ) (l : List α) (a : α) : dd1 K (l ++ [a]) = step1 K (dd1 K l) a := by
  unfold dd1
  rw [List.foldl_append] <;> rfl
theorem rev_ind {P : List α → Prop} (h0 : P []) (h1 : ∀ l a, P l → P (l ++ [a])) (l : List α) : P l := by
  have : ∀ n (l : List α), l.length = n → P l := by
    intro n
    induction n with
    | zero => intro l e; rw [List.length_eq_zero_iff.mp e]; exact h0
    | succ n ih =>
      intro l e
      have ne : l ≠ [] := fun z => by rw [z] at e; cases e
      rw [← List.dropLast_concat_getLast ne]
      exact h1 _ _ (ih _ (by rw [List.length_dropLast, e] <;> rfl))
  exact this _ l rfl
theorem fold_dd (K : α → κ) (E : α → List (μ × ν)) (hE : ∀ a b, K a = K b → (E a).map (·.1) = (E b).map (·.1)) (F : List (μ × ν)) (l : List α) : (l.flatMap E).foldl addNew F = ((dd1 K l).flatMap E).foldl addNew F := by
  induction l using rev_ind with
  | h0 => rfl
  | h1 l a ih =>
    rw [List.flatMap_append, List.foldl_append, ih, dd1_snoc, List.flatMap_singleton]
    unfold step1
    by_cases m : K a ∈ (dd1 K l).map K
    · rw [if_pos m]
      obtain ⟨b, hb, e⟩ := List.mem_map.mp m
      refine fold_old _ fun p hp => ?_
      have hk : p.1 ∈ (E b).map (·.1) := by
        rw [hE b a e]
        exact List.mem_map_of_mem (f := (·.1)) hp
      obtain ⟨q, hq, eq⟩ := List.mem_map.mp hk
      rw [← eq]
      exact fold_has _ (List.mem_flatMap.mpr ⟨b, hb, hq⟩)
    · rw [if_neg m, List.flatMap_append, List.foldl_append, List.flatMap_singleton]
theorem dd_keys (K : α → κ) (v : α → ν) (l : List α) : (l.map fun a => (K a, v a)).foldl addNew [] = (dd1 K l).map fun a => (K a, v a) := by
  induction l using rev_ind with
  | h0 => rfl
  | h1 l a ih =>
    rw [List.map_append, List.foldl_append, ih, dd1_snoc]
    show addNew _ (K a, v a) = _
    unfold addNew step1
    have e : ((dd1 K l).map fun a => (K a, v a)).map (·.1) = (dd1 K l).map K := by rw [List.map_map] <;> rfl
    rw [e]
    by_cases m : K a ∈ (dd1 K l).map K
    · rw [if_pos m, if_pos m]
    · rw [if_neg m, if_neg m, List.map_append] <;> rfl
theorem dd1_sub (K : α → κ) (l : List α) : ∀ a ∈ dd1 K l, a ∈ l := by
  induction l using rev_ind with
  | h0 => exact fun a h => h
  | h1 l a ih =>
    intro b hb
    rw [dd1_snoc] at hb
    unfold step1 at hb
    split at hb
    · exact List.mem_append_left _ (ih b hb)
    · rcases List.mem_append.mp hb with z | z
      · exact List.mem_append_left _ (ih b z)
      · exact List.mem_append_right _ z
theorem flat_filter {β : Type} (p : α → Bool) (f : α → List β) : ∀ (l : List α), (∀ a ∈ l, p a = false → f a = []) → l.flatMap f = (l.filter p).flatMap f
  | [], _ => rfl
  | a :: l, h => by
    rw [List.flatMap_cons, flat_filter p f l fun b hb => h b (.tail _ hb), List.filter_cons]
    by_cases e : p a = true
    · rw [if_pos e, List.flatMap_cons]
    · rw [if_neg e, h a (.head _) (Bool.eq_false_iff.mpr e), List.nil_append]
theorem filter_flat {β : Type} (q : β → Bool) (f : α → List β) : ∀ l : List α, (l.flatMap f).filter q = l.flatMap fun a => (f a).filter q
  | [] => rfl
  | a :: l => by rw [List.flatMap_cons, List.filter_append, filter_flat q f l, List.flatMap_cons]
end
end RX
set_option Elab.async false
set_option linter.all false
set_option maxRecDepth 100000
set_option maxHeartbeats 4000000
namespace L2
open PySem PySem.Spec PyProof.Rows
end L2
set_option Elab.async false
set_option linter.all false
set_option maxRecDepth 100000
set_option maxHeartbeats 4000000
namespace RD
open PySem PySem.Spec PyProof.Rows L2 ND WK
structure Rk where
  here : Int
  vis : List Int
  cnt : List Int
  deriving DecidableEq
def encR (a : Rk) : NestedKey := .tup [.num a.here, .tup (nk a.vis), .tup (nk a.cnt)]
theorem encR_inj : ∀ (a b : Rk), encR a = encR b → a = b
  | ⟨i, v, c⟩, ⟨j, u, d⟩, h => by
    injection h with h
    injection h with h1 h
    injection h with h2 h
    injection h with h3 _
    injection h1 with h1
    injection h2 with h2
    injection h3 with h3
    rw [show i = j from h1, show v = u from nk_inj h2, show c = d from nk_inj h3]
theorem encR_depth (a : Rk) : (encR a).depth ≤ 8 := by
  show max 0 (max (NestedKey.depthAll (nk a.vis) + 1) (max (NestedKey.depthAll (nk a.cnt) + 1) 0)) + 1 ≤ 8
  rw [nk_depth, nk_depth]
  decide
/-- such a triple lies at b -/
def RkAt (H : Hp) (b : Addr) (a : Rk) : Prop := ∃ t u : Addr, H b = some (.tup [.int a.here, .ref t, .ref u]) ∧ H t = some (oTup a.vis) ∧ H u = some (oTup a.cnt)
theorem RkAt.keep {H H' : Hp} {b : Addr} {a : Rk} (h : RkAt H b a) (k : KeepsTup H H') : RkAt H' b a := let ⟨t, u, h1, h2, h3⟩ := h; ⟨t, u, k _ _ h1, k _ _ h2, k _ _ h3⟩
theorem RkAt.key {X : Cx} {pins : List (Addr × Obj)} {σ : L2.St} {H : Hp} {s : Shared} {b : Addr} {a : Rk} (I : Inv X pins σ H s) (h : RkAt H b a) : (nestedKind X.prog X.w).is s.heap (encR a) b := by
  obtain ⟨t, u, h1, h2, h3⟩ := h
  obtain ⟨its, r1, ⟨o1, e1, c1, n1, d1⟩, _⟩ := I.tuple (SqT.of h1)
  obtain ⟨its2, r2, ⟨o2, e2, c2, n2, d2⟩, _⟩ := I.tuple (SqT.of h2)
  obtain ⟨its3, r3, ⟨o3, e3, c3, n3, d3⟩, _⟩ := I.tuple (SqT.of h3)
  cases r1 with
  | cons p1 r1 =>
    cases r1 with
    | cons p2 r1 =>
      cases r1 with
      | cons p3 r1 =>
        cases r1
        obtain ⟨tk, rfl⟩ := p1
        cases p2
        cases p3
        exact ⟨.tup e1 c1 d1 (.cons (.int _ tk) (.cons (.tup e2 c2 d2 (by simpa using nested_ints r2)) (.cons (.tup e3 c3 d3 (by simpa using nested_ints r3)) .nil))), encR_depth a⟩
/-- an entry: the key, its tuple, the text -/
abbrev Ent := Rk × Addr × Str
def Fits (e : Ent) (x : NestedKey × Addr × Value) : Prop := x.1 = encR e.1 ∧ x.2.1 = e.2.1 ∧ ∃ t, x.2.2 = .str e.2.2 t
def RdO (P : Program) (w : World) (D : Addr) (l : List Ent) : HO := .ext fun h => (D == sysModules) = false ∧ l.length ≤ sizeLine ∧ (l.map (·.1)).Nodup ∧ ∃ xs, Paired Fits l xs ∧ ∃ o es ep, h.get? D = some o ∧ o.ExactDict ∧ o.data = .dict es ep ∧ es.toList = xs.map (entryOfKey (nestedKind P w))
def keysAt (H : Hp) (l : List Ent) : Prop := ∀ e ∈ l, RkAt H e.2.1 e.1
theorem keysAt.keep {H H' : Hp} {l : List Ent} (h : keysAt H l) (k : KeepsTup H H') : keysAt H' l := fun e he => (h e he).keep k
theorem fits_keys : ∀ {l : List Ent} {xs : List (NestedKey × Addr × Value)}, Paired Fits l xs → xs.map (·.1) = l.map fun e => encR e.1
  | _, _, .nil => rfl
  | _, _, .cons h t => by rw [List.map_cons, List.map_cons, h.1, fits_keys t]
theorem fits_out {k : Rk} : ∀ {l : List Ent} {xs : List (NestedKey × Addr × Value)}, Paired Fits l xs → k ∉ l.map (·.1) → atKey xs (encR k) = none
  | _, _, .nil, _ => rfl
  | e :: l, x :: xs, .cons h t, no => by
    rw [List.map_cons] at no
    have ne : ¬ x.1 = encR k := fun z => no (by rw [encR_inj _ _ (h.1.symm.trans z)]; exact .head _)
    have ih := fits_out t fun z => no (.tail _ z)
    unfold atKey at ih ⊢
    rw [List.find?_cons, show decide (x.1 = encR k) = false from decide_eq_false ne]
    exact ih
theorem fits_in {k : Rk} : ∀ {l : List Ent} {xs : List (NestedKey × Addr × Value)}, Paired Fits l xs → k ∈ l.map (·.1) → ∃ p x t, atKey xs (encR k) = some p ∧ p.2 = .str x t
  | e :: l, x :: xs, .cons h t, m => by
    rw [List.map_cons] at m
    unfold atKey
    rw [List.find?_cons]
    by_cases eq : x.1 = encR k
    · rw [show decide (x.1 = encR k) = true from decide_eq_true eq]
      obtain ⟨_, _, tk, e3⟩ := h
      exact ⟨x.2, _, tk, rfl, e3⟩
    · rw [show decide (x.1 = encR k) = false from decide_eq_false eq]
      rcases List.mem_cons.mp m with z | z
      · exact absurd (by rw [h.1, z]) eq
      · exact fits_in t z
section
variable {P : Program} {w : World}
theorem rdO_ok {H : Hp} {h : Heap} {D : Addr} {l : List Ent} {xs : List (NestedKey × Addr × Value)} (h1 : (D == sysModules) = false) (h2 : l.length ≤ sizeLine) (nd : (l.map (·.1)).Nodup) (h3 : Paired Fits l xs) (h4 : h.DictOfH (nestedKind P w) D xs) : ObjOk P w H h D (RdO P w D l) := by
  obtain ⟨o, es, ep, e1, e2, e3, e4, _, _⟩ := h4
  exact ⟨⟨h1, h2, nd, xs, h3, o, es, ep, e1, e2, e3, e4⟩, ⟨o, e1⟩, fun _ _ ⟨a, b, c, xs, d, o, es, ep, q, r⟩ k => ⟨a, b, c, xs, d, o, es, ep, k _ q, r⟩⟩
theorem keys_is {X : Cx} {pins : List (Addr × Obj)} {σ : L2.St} {H : Hp} {s : Shared} (I : Inv X pins σ H s) : ∀ {l : List Ent} {xs : List (NestedKey × Addr × Value)}, keysAt H l → Paired Fits l xs → ∀ x ∈ xs, (nestedKind X.prog X.w).is s.heap x.1 x.2.1
  | _, _, _, .nil, x, hx => absurd hx List.not_mem_nil
  | e :: l, y :: xs, h, .cons f t, x, hx => by
    cases hx with
    | head =>
      rw [f.1, f.2.1]
      exact (h e (.head _)).key I
    | tail _ hx => exact keys_is I (fun e he => h e (.tail _ he)) t x hx
theorem nodup_enc {l : List Ent} {xs : List (NestedKey × Addr × Value)} (f : Paired Fits l xs) (nd : (l.map (·.1)).Nodup) : (xs.map (·.1)).Nodup := by
  rw [fits_keys f, show (l.map fun e => encR e.1) = (l.map (·.1)).map encR by rw [List.map_map] <;> rfl]
  exact List.nodup_iff_pairwise_ne.mpr (List.pairwise_map.mpr ((List.nodup_iff_pairwise_ne.mp nd).imp fun h e => h (encR_inj _ _ e)))
theorem rdO_raw {h : Heap} {D : Addr} {l : List Ent} {xs : List (NestedKey × Addr × Value)} {X : Cx} {pins : List (Addr × Obj)} {σ : L2.St} {H : Hp} {s : Shared} (I : Inv X pins σ H s) (at_ : keysAt H l) (nd : (l.map (·.1)).Nodup) (f : Paired Fits l xs) (o : Obj) (es : Array DictEntry) (ep : Nat) (e1 : s.heap.get? D = some o) (e2 : o.ExactDict) (e3 : o.data = .dict es ep) (e4 : es.toList = xs.map (entryOfKey (nestedKind X.prog X.w))) : s.heap.DictOfH (nestedKind X.prog X.w) D xs :=
  ⟨o, es, ep, e1, e2, e3, e4, keys_is I at_ f, nodup_enc f nd⟩
theorem rdO_get {X : Cx} {pins : List (Addr × Obj)} {σ : L2.St} {H : Hp} {s : Shared} {D : Addr} {l : List Ent} (I : Inv X pins σ H s) (h : H D = some (RdO X.prog X.w D l)) (at_ : keysAt H l) :
    (D == sysModules) = false ∧ l.length ≤ sizeLine ∧ (l.map (·.1)).Nodup ∧ ∃ xs, Paired Fits l xs ∧ s.heap.DictOfH (nestedKind X.prog X.w) D xs := by
  obtain ⟨h1, h2, nd, xs, f, o, es, ep, e1, e2, e3, e4⟩ := (I.hok _ _ h).1
  exact ⟨h1, h2, nd, xs, f, rdO_raw (h := s.heap) I at_ nd f o es ep e1 e2 e3 e4⟩
end
section
variable {X : Cx} {P : Program} {w : World} {o e f : Expr} {pos apos cpos : Pos} {td ty tv : TE}
/-- {} -/
def tNewR (P : Program) (w : World) : TE := fun _ H Q => ∀ p, H p = none → Q (.ref p) (upd H p (RdO P w p []))
theorem pe_newR : PE X (.Dict [] [] pos) (tNewR X.prog X.w) := ⟨fun pins s σ H Q I h =>
  wpAny_Dict_empty ⟨.ref s.heap.objs.size, _, I.laid (t' := s.toks) (fun _ _ q => Heap.get?_push_of_some _ q) (Nat.le_refl _) (rdO_ok (l := []) (beq_eq_false_iff_ne.mpr (Nat.ne_of_gt I.big)) (Nat.zero_le _) .nil .nil (Heap.DictOfH.new _)), rfl, h _ (I.hok.fresh (Nat.le_refl _))⟩⟩
/-- an entry added -/
theorem add_ok {pins : List (Addr × Obj)} {σ : L2.St} {H : Hp} {s : Shared} {D b : Addr} {l : List Ent} {k : Rk} {x : Str} {t : Tok} {g : Heap} {xs : List (NestedKey × Addr × Value)} {tk : Nat} (I : Inv X pins σ H s) (at_D : H D = some (RdO X.prog X.w D l)) (notMods : (D == sysModules) = false) (nd : (l.map (·.1)).Nodup) (fit : Paired Fits l xs) (few : l.length < sizeLine) (out : k ∉ l.map (·.1))
    (d : g.DictOfH (nestedKind X.prog X.w) D (xs ++ [(encR k, b, .str x t)])) (same : Heap.SameBut D s.heap g) : Inv X pins σ (upd H D (RdO X.prog X.w D (l ++ [(k, b, x)]))) { s with heap := g, toks := tk } := by
  refine d_write (t' := tk) I (by rw [at_D]; exact True.intro) same (let ⟨o, _, _, e, _⟩ := d; ⟨o, e⟩) (rdO_ok notMods (by rw [List.length_append]; exact few) ?_ (fit.snoc ⟨rfl, rfl, t, rfl⟩) d)
  rw [List.map_append]
  exact List.nodup_append.mpr ⟨nd, List.nodup_cons.mpr ⟨List.not_mem_nil, List.nodup_nil⟩, fun a ha c hc e => out (by
    have hc : c = k := List.mem_singleton.mp hc
    rw [← hc, ← e]
    exact ha)⟩
/-- {k: v}, k a triple, v a text -/
def tOneR (P : Program) (w : World) (tk tv : TE) : TE := fun σ H Q => ∀ p, H p = none → tk σ (upd H p (RdO P w p [])) fun y H1 => tv σ H1 fun z H2 => ∃ (b : Addr) (k : Rk) (x : Str), y = .ref b ∧ z = .str x ∧ H2 p = some (RdO P w p []) ∧ RkAt H2 b k ∧ Q (.ref p) (upd H2 p (RdO P w p [(k, b, x)]))
theorem pe_oneR {tk : TE} {kx vx : Expr} (hu : X.A.units + 64 < cLine) (hk : PE X kx tk) (hv : PE X vx tv) : PE X (.Dict [some kx] [vx] pos) (tOneR X.prog X.w tk tv) := by
  refine ⟨fun pins s σ H Q I told => ?_⟩
  have new := I.hok.fresh (Nat.le_refl s.heap.objs.size)
  have J : Inv X pins σ (upd H s.heap.objs.size (RdO X.prog X.w s.heap.objs.size [])) { s with heap := s.heap.push { cls := .type "dict", data := .dict #[] } } :=
    I.laid (t' := s.toks) (fun _ _ q => Heap.get?_push_of_some _ q) (Nat.le_refl _) (rdO_ok (l := []) (beq_eq_false_iff_ne.mpr (Nat.ne_of_gt I.big)) (Nat.zero_le _) .nil .nil (Heap.DictOfH.new _))
  refine wpAny_Dict_any rfl rfl (fun z => by cases z) (by show 1 ≤ 15; decide) (pairTrees_cons_walk ?_)
  refine thn (hk.run pins _ σ _ _ J (told _ new)) fun u s1 ⟨y, H1, I1, ry, q1⟩ => thn (hv.run pins s1 σ H1 _ I1 q1) fun r s2 ⟨z, H2, I2, rz, b, k, x, ey, ez, at_p, at_k, q⟩ => pairTrees_nil_walk ?_
  subst ey ez
  cases (show u = Value.ref b from ry)
  obtain ⟨t, rfl⟩ := rz
  obtain ⟨notMods, _, _, xs, fit, d⟩ := rdO_get I2 at_p fun e he => absurd he List.not_mem_nil
  cases fit
  show wpAny _ _ (forIn [(Value.ref b, Value.str x t)] PUnit.unit _) _ _ s2
  rw [List.forIn_cons]
  refine wpAny_bind (wpAny_bind (wpAny_dictSet_heap (hsz := Nat.zero_le _) (by show X.A.units + 8 < cLine; omega) (at_k.key I2) d fun g d' same => wpAny_pure ?_))
  exact wpAny_pure ⟨.ref s.heap.objs.size, _, add_ok (l := []) (xs := []) I2 at_p notMods .nil .nil (by decide) List.not_mem_nil d' same, rfl, q⟩
/-- d.setdefault(k, v), of which the answer is let go -/
def tSetR (P : Program) (w : World) (td ty tv : TE) : TE := fun σ H Q => td σ H fun x H1 => (∃ D l, x = .ref D ∧ H1 D = some (RdO P w D l) ∧ keysAt H1 l) ∧ ty σ H1 fun y H2 => tv σ H2 fun z H3 => ∃ (D b : Addr) (l : List Ent) (k : Rk) (t : Str), x = .ref D ∧ y = .ref b ∧ z = .str t ∧ H3 D = some (RdO P w D l) ∧ keysAt H3 l ∧ RkAt H3 b k ∧ l.length < sizeLine ∧
  ((k ∈ l.map (·.1) → ∀ u, Q (.str u) H3) ∧ (k ∉ l.map (·.1) → Q (.str t) (upd H3 D (RdO P w D (l ++ [(k, b, t)])))))
theorem pe_setR (hu : X.A.units + 64 < cLine) (ho : PE X o td) (he : PE X e ty) (hf : PE X f tv) (m : M2 X o "setdefault" apos e f cpos) : PE X (.Call (.Attribute o "setdefault" apos) [e, f] [] cpos) (tSetR X.prog X.w td ty tv) := by
  refine ⟨fun pins s σ H Q I h => ?_⟩
  refine wpAny_Call_method m.base m.few m.line PySem.F.plainAttrs_dict PySem.F.slot_dict_setdefault PySem.F.type_dict_setdefault (thn (ho.run pins s σ H _ I h) fun u s1 ⟨x, H1, I1, rx, ⟨D, l, ex, at_D, at_K⟩, q1⟩ => ?_)
  subst ex
  cases (show u = Value.ref D from rx)
  obtain ⟨_, _, _, xs, _, d⟩ := rdO_get I1 at_D at_K
  refine ⟨d.typeIs, fun a z => by cases z; exact let ⟨o, _, _, e, x, _⟩ := d; ⟨o, e, x.2.1⟩, ?_⟩
  rw [m.trees]
  refine Calls.callWith_builtin rfl (Calls.evalArgs_plain (Calls.spliced_cons (thn (he.run pins s1 σ H1 _ I1 q1) fun key s2 ⟨y, H2, I2, ry, q2⟩ =>
    Calls.spliced_cons (thn (hf.run pins s2 σ H2 _ I2 q2) fun fv s3 ⟨z, H3, I3, rz, D', b, l', k, t, eD, ey, ez, at_D', at_K', at_k, few, q3⟩ => Calls.spliced_nil ?_))))
  cases eD
  subst ey ez
  cases (show key = Value.ref b from ry)
  obtain ⟨tk, rfl⟩ := rz
  obtain ⟨notMods, hz, nd, ys, fit, d3⟩ := rdO_get I3 at_D' at_K'
  refine call_meetsIn PySem.F.slot_dict_setdefault d3.typeIs PySem.F.entry_dict_setdefault (PySem.F.args_dict_setdefault_3 _ _ _) (meetsH_dict_setdefault (nestedKind X.prog X.w) D b notMods (.str t tk)) ⟨by show X.A.units + 1 + 8 < cLine; omega, encR k, ys, at_k.key I3, d3, by rw [← Paired.length fit]; exact hz, fun p hp => ?_, fun no g d' same => ?_⟩
  · have m : k ∈ l'.map (·.1) := Classical.byContradiction fun z => by
      rw [fits_out fit z] at hp
      cases hp
    obtain ⟨p', x, tk', e1, e2⟩ := fits_in fit m
    cases hp.symm.trans e1
    rw [e2]
    exact ⟨.str x, H3, I3.tok _, ⟨tk', rfl⟩, q3.1 m x⟩
  · have out : k ∉ l'.map (·.1) := fun m => by
      obtain ⟨p, _, _, e1, _⟩ := fits_in fit m
      rw [no] at e1
      cases e1
    rw [storedH_new no] at d'
    exact ⟨.str t, _, add_ok I3 at_D' notMods nd fit few out d' same, ⟨tk, rfl⟩, q3.2 out⟩
end
end RD
set_option Elab.async false
set_option linter.all false
set_option maxRecDepth 100000
set_option maxHeartbeats 8000000
namespace WK
open PySem L2 PyProof.Rows LCX K1 FV DP
open TX (sg sigs)
open PySem.W (Frag kitOne)
abbrev sFinished : Stmt := top 20
abbrev NFi4 : List Str := ["table", "met", "order", "start", "stack", "row", "column", "after"]
theorem Objs.pop {mk : List Int → HO} {H : Hp} : ∀ {as : List Addr} {rs : List (List Int)} {r : List Int}, Objs mk H as (rs ++ [r]) → ∃ bs b, as = bs ++ [b] ∧ Objs mk H bs rs ∧ H b = some (mk r)
  | [], [], _, h => h.elim
  | [], _ :: _, _, h => h.elim
  | [a], [], _, h => ⟨[], a, rfl, trivial, h.1⟩
  | a :: b :: as, [], _, h => h.2.elim
  | a :: as, s :: rs, r, h => by
    obtain ⟨bs, b, e, h1, h2⟩ := Objs.pop (as := as) (rs := rs) (r := r) h.2
    exact ⟨a :: bs, b, by rw [e] <;> rfl, ⟨h.1, h1⟩, h2⟩
def onI (S : List KN.On) : List (List Int) := S.reverse.map fun t => [((t.v : Nat) : Int), ((t.c : Nat) : Int)]
theorem onI_cons (t : KN.On) (S : List KN.On) : onI (t :: S) = onI S ++ [[((t.v : Nat) : Int), ((t.c : Nat) : Int)]] := by
  unfold onI
  rw [List.reverse_cons, List.map_append] <;> rfl
/-- the rows on the way, as they stand -/
def Stk (H : Hp) (s : Addr) (S : List KN.On) : Prop := ∃ as : List Addr, H s = some (.lst (as.map V.ref)) ∧ Objs oTup H as (onI S)
def spFinished (K : Frag) : Sp := fun vs H Q _ => ∃ (t : Addr) (tb : List (List Int)) (wd : Nat) (n : Int), vs = [.ref t] ∧ TTab K H t tb ∧ TabOk tb wd n ∧ tb.length ≤ 100 ∧ wd ≤ 100 ∧
  ∀ (p : Addr) (o : List Nat) H', H p = none → Same H H' → H' p = some (.lst ((nI o).map V.int)) → KN.Fin tb.length (rowN tb) o → Q (.ref p) H'
theorem keys_old {kvs : List (Key × V)} {o : List Int} (h : Keys kvs o) {a : Int} (ha : a ∈ o) (v : V) : Keys (putK kvs (Sum.inl a : Key) v) o := by
  have any : kvs.any (fun p => decide (p.1 = (Sum.inl a : Key))) = true := by
    have m : (Sum.inl a : Key) ∈ kvs.map (·.1) := by
      rw [show kvs.map (·.1) = o.map (Sum.inl : Int → Key) from h]
      exact List.mem_map_of_mem ha
    obtain ⟨p, hp, e⟩ := List.mem_map.mp m
    exact List.any_eq_true.mpr ⟨p, hp, decide_eq_true e⟩
  unfold Keys putK
  rw [if_pos any, List.map_map]
  refine Eq.trans (List.map_congr_left fun p _ => ?_) h
  show (if p.1 = (Sum.inl a : Key) then (p.1, v) else p).1 = p.1
  split <;> rfl
def cost (wd : Nat) (S : List KN.On) : Nat := (S.map fun t => wd + 1 - t.c).sum
theorem cost_cons (wd : Nat) (t : KN.On) (S : List KN.On) : cost wd (t :: S) = (wd + 1 - t.c) + cost wd S := by
  unfold cost
  rw [List.map_cons, List.sum_cons]
theorem k4_stack {c : Bool} {σ : L2.St} {H1 : Hp} {Q Good : VK} (h1 : c = true → ∀ p, H1 p = none → Good (.ref p) (upd H1 p (.lst []))) (h2 : ¬ c = true → ∃ v, σ[3]? = some (some v) ∧ ∀ T, H1 T = none → ∀ p, (upd H1 T (.tup [v, .int 0])) p = none → Good (.ref p) (upd (upd H1 T (.tup [v, .int 0])) p (.lst [.ref T]))) (k : ∀ v H, Good v H → Q v H) :
    if c = true then tLst tNil σ H1 Q else tLst (tCons (tTup (tCons (tVar 3) (tCons (tC (.int 0)) tNil))) tNil) σ H1 Q := by
  cases c with
  | true => exact iteT ⟨by show 0 ≤ sizeLine; decide, fun p hp => k _ _ (h1 rfl p hp)⟩
  | false =>
    obtain ⟨v, hv, g⟩ := h2 (fun z => nomatch z)
    exact iteF ⟨_, hv, by show 2 ≤ sizeLine; decide, fun T hT => ⟨by show 1 ≤ sizeLine; decide, fun p hp => k _ _ (g T hT p hp)⟩⟩
section
variable {P : Program} {w : World} {K : PySem.W.Frag} {mg : Str → Option Value} {base : Heap}
theorem scFi4 : FnScope NFi4 ["table"] (defScope sFinished) := ⟨rfl, rfl, rfl, by decide +kernel, rfl, by decide +kernel, by decide +kernel⟩
theorem ok_finished {f : Addr} {fd : FuncData} (F : Fun K "_finished" "_finished" sFinished f fd) (T : TN mg) : FnOk P w K mg base CX0 1 f fd ["table"] (spFinished K) := by
  refine F.ok scFi4 (fun vs H Q E h => ?_) (fun cdv A outer s H vs Q E hr h => ?_)
  · obtain ⟨t, _, _, _, rfl, _⟩ := h
    rfl
  · obtain ⟨t, tb, wd, n, rfl, hT, ok, n1, w1, q⟩ := h
    have hub := hu_of hr
    refine ⟨_, pss_cons (ps_set (i := 1) scFi4.nd rfl (Or.inl rfl) pe_dnewK)
      (pss_cons (ps_set (i := 2) scFi4.nd rfl (Or.inl rfl) (pe_lst pa_nil))
      (pss_cons (ps_for PassesOwn.never rfl (pi_range1 rfl T.rng (pa_cons (pe_callB call_len_seq (by rfl) T.len PySem.boot_len (pa_cons (pv 0) pa_nil)) pa_nil)) (pg_name (i := 3) scFi4.nd rfl (Or.inl rfl))
        (pss_cons (ps_set (i := 4) scFi4.nd rfl (Or.inl rfl) (pe_ifExp (pt_cmp (pc_din hub (pv 3) (pv 1))) (pe_lst pa_nil) (pe_lst (pa_cons (pe_tup (pa_cons (pv 3) (pa_cons pe_int pa_nil))) pa_nil))))
        (pss_cons (ps_dput hub (pv 1) (pv 3) pe_bl rfl)
        (pss_one (ps_while PassesOwn.never (pt_truth (pv 4) (fun _ => rfl))
          (pss_cons (ps_asg (pe_bm0 PySem.F.plainAttrs_list PySem.F.slot_list_pop PySem.F.type_list_pop mt_pop (pv 4)) (pg_tup (n := 2) (by rfl) (pgs_cons (pg_name (i := 5) scFi4.nd rfl (Or.inl rfl)) (pgs_cons (pg_name (i := 6) scFi4.nd rfl (Or.inl rfl)) pgs_nil))))
          (pss_cons (ps_if (pt_cmpR op_eq (pv 6) (pe_callB call_len_seq (by rfl) T.len PySem.boot_len (pa_cons (pe_ix ix_tup (pv 0) (pv 5) (fun _ _ => rfl)) pa_nil)) (nomark _)) (pss_cons (ps_expr (pe_bm PySem.F.plainAttrs_list PySem.F.slot_list_append PySem.F.type_list_append mt_append (pv 2) (pa_cons (pv 5) pa_nil))) (pss_one ps_continue)) pss_nil)
          (pss_cons (ps_expr (pe_bm PySem.F.plainAttrs_list PySem.F.slot_list_append PySem.F.type_list_append mt_append (pv 4) (pa_cons (pe_tup (pa_cons (pv 5) (pa_cons (pe_op op_add (pv 6) pe_int) pa_nil))) pa_nil)))
          (pss_cons (ps_set (i := 7) scFi4.nd rfl (Or.inl rfl) (pe_ix ix_tup (pe_ix ix_tup (pv 0) (pv 5) (fun _ _ => rfl)) (pv 6) (fun _ _ => rfl)))
          (pss_one (ps_if (pt_cmp (pc_dnotin hub (pv 7) (pv 1))) (pss_cons (ps_dput hub (pv 1) (pv 7) pe_bl rfl) (pss_one (ps_expr (pe_bm PySem.F.plainAttrs_list PySem.F.slot_list_append PySem.F.type_list_append mt_append (pv 4) (pa_cons (pe_tup (pa_cons (pv 7) (pa_cons pe_int pa_nil))) pa_nil))))) pss_nil)))))))))))
      (pss_one (ps_ret (pv 2))))), ?_⟩
    obtain ⟨ts, h1, h2⟩ := id hT
    have lt := h2.len
    have okl := ok.len
    intro D nD
    have s1 : Same H (upd H D (.dK [])) := same_upd nD
    have hD1 : (upd H D (.dK [])) D = some (.dK []) := upd_same
    generalize upd H D (.dK []) = H1 at s1 hD1 ⊢
    refine ⟨by show 0 ≤ sizeLine; decide, fun O nO1 => ?_⟩
    have nO : H O = none := s1.free nO1
    have DO : D ≠ O := fun z => by rw [← z, hD1] at nO1; cases nO1
    have s2 : Same H (upd H1 O (.lst [])) := s1.trans (same_upd nO1)
    have hD2 : (upd H1 O (.lst [])) D = some (.dK []) := same_upd nO1 _ _ hD1
    have hO2 : (upd H1 O (.lst [])) O = some (.lst []) := upd_same
    generalize upd H1 O (.lst []) = H2 at s2 hD2 hO2 ⊢
    have nDH : H D = none := nD
    refine ⟨_, rfl, t, _, rfl, .inr (sqT9 h1 s2), ((tb.length : Nat) : Int), by rw [List.length_map, lt], by omega, by omega, ?_⟩
    refine for_it walk_range (fun i σ H3 => ∃ (M o : List Nat) (kvs : List (Key × V)) (y3 y4 y5 y6 y7 : Option V), KN.Dfs tb.length (rowN tb) M o [] ∧ M.Nodup ∧ (∀ x < i, x ∈ M) ∧ Same H H3 ∧ H3 D = some (.dK kvs) ∧ Keys kvs (nI M) ∧ H3 O = some (.lst ((nI o).map V.int)) ∧
      σ = [some (.ref t), some (.ref D), some (.ref O), y3, y4, y5, y6, y7]) ⟨[], [], [], _, _, _, _, _, KN.Dfs.start, List.nodup_nil, fun x hx => absurd hx (Nat.not_lt_zero x), s2, hD2, rfl, hO2, rfl⟩ (fun _ _ _ _ _ => trivial) ?_ ?_
    · rintro i xi σ H3 H4 hi ⟨M, o, kvs, y3, y4, y5, y6, y7, df, ndM, cov, s3, hD3, keys, hO3, rfl⟩ ⟨rfl, exi⟩
      obtain rfl : xi = .int ((i : Nat) : Int) := exi.trans (congrArg V.int (Int.zero_add _))
      rw [Int.toNat_natCast] at hi
      have lM : M.length ≤ tb.length := by
        have := ndM.length_le_of_subset (fun x hx => List.mem_range.mpr (df.rng x hx) : M ⊆ List.range tb.length)
        rwa [List.length_range] at this
      refine ⟨_, rfl, _, rfl, D, _, rfl, DGet.k (k := (Sum.inl ((i : Nat) : Int) : Key)) hD3, _, rfl, ?_⟩
      have inM : (valV kvs (Sum.inl ((i : Nat) : Int) : Key)).isSome = true ↔ i ∈ M := by
        rw [Option.isSome_iff_ne_none, keys.val, nI_mem]
      refine k4_stack (Good := fun v H5 => ∃ (S : Addr) (S0 : List KN.On), v = .ref S ∧ Same H H5 ∧ H5 D = some (.dK kvs) ∧ H5 O = some (.lst ((nI o).map V.int)) ∧ H S = none ∧ S ≠ D ∧ S ≠ O ∧ Stk H5 S S0 ∧ ((S0 = [] ∧ i ∈ M) ∨ (S0 = [⟨i, 0, o.length⟩] ∧ i ∉ M))) (fun hc S nS => ?_) (fun hc => ⟨_, rfl, fun T2 nT2 S nS => ?_⟩) ?_
      · have hc : i ∈ M := inM.mp hc
        have SD : S ≠ D := fun z => by rw [z, hD3] at nS; cases nS
        have SO : S ≠ O := fun z => by rw [z, hO3] at nS; cases nS
        exact ⟨S, [], rfl, s3.trans (same_upd nS), (upd_ne (Ne.symm SD)).trans hD3, (upd_ne (Ne.symm SO)).trans hO3, s3.free nS, SD, SO, ⟨[], upd_same, trivial⟩, .inl ⟨rfl, hc⟩⟩
      · have hc : i ∉ M := fun z => hc (inM.mpr z)
        have sT := same_upd (o := .tup [.int ((i : Nat) : Int), .int 0]) nT2
        have hD4 := sT _ _ hD3
        have hO4 := sT _ _ hO3
        have tT : (upd H4 T2 (.tup [.int ((i : Nat) : Int), .int 0])) T2 = some (.tup [.int ((i : Nat) : Int), .int 0]) := upd_same
        generalize upd H4 T2 (.tup [.int ((i : Nat) : Int), .int 0]) = H5 at sT hD4 hO4 tT nS ⊢
        have SD : S ≠ D := fun z => by rw [z, hD4] at nS; cases nS
        have SO : S ≠ O := fun z => by rw [z, hO4] at nS; cases nS
        have s4 := s3.trans sT
        exact ⟨S, [⟨i, 0, o.length⟩], rfl, s4.trans (same_upd nS), (upd_ne (Ne.symm SD)).trans hD4, (upd_ne (Ne.symm SO)).trans hO4, s4.free nS, SD, SO, ⟨[T2], upd_same, ⟨same_upd nS _ _ tT, trivial⟩⟩, .inr ⟨rfl, hc⟩⟩
      rintro _ H5 ⟨S, S0, rfl, s5, hD5, hO5, nS, SD, SO, stk, how⟩
      obtain ⟨M1, df1, ndM1, iM1, cov1, keys1⟩ : ∃ M1, KN.Dfs tb.length (rowN tb) M1 o S0 ∧ M1.Nodup ∧ i ∈ M1 ∧ (∀ x < i + 1, x ∈ M1) ∧ Keys (putK kvs (Sum.inl ((i : Nat) : Int) : Key) (.bl true)) (nI M1) := by
        rcases how with ⟨rfl, hc⟩ | ⟨rfl, hc⟩
        · refine ⟨M, df, ndM, hc, fun x hx => ?_, keys_old keys (nI_mem.mpr hc) _⟩
          by_cases e : x = i
          · exact e ▸ hc
          · exact cov x (by omega)
        · refine ⟨M ++ [i], df.meet hi hc (fun t ht => absurd ht List.not_mem_nil), List.nodup_append.mpr ⟨ndM, List.nodup_cons.mpr ⟨List.not_mem_nil, List.nodup_nil⟩, fun x hx y hy e => ?_⟩, List.mem_append_right _ (List.mem_singleton.mpr rfl), fun x hx => ?_, ?_⟩
          · rw [List.mem_singleton.mp hy] at e
            exact hc (e ▸ hx)
          · by_cases e : x = i
            · exact List.mem_append_right _ (List.mem_singleton.mpr e)
            · exact List.mem_append_left _ (cov x (by omega))
          · rw [nI_snoc]
            exact keys.put (fun z => hc (nI_mem.mp z)) _
      refine ⟨_, rfl, _, rfl, D, _, rfl, DPut.k (k := (Sum.inl ((i : Nat) : Int) : Key)) hD5 (by rw [keys.len, nI_len, sizeLine_eq]; omega), ?_⟩
      have s6 : Same H (upd H5 D (.dK (putK kvs (Sum.inl ((i : Nat) : Int)) (.bl true)))) := same_at s5 nDH
      have hD6 : (upd H5 D (.dK (putK kvs (Sum.inl ((i : Nat) : Int)) (.bl true)))) D = some (.dK (putK kvs (Sum.inl ((i : Nat) : Int)) (.bl true))) := upd_same
      have hO6 : (upd H5 D (.dK (putK kvs (Sum.inl ((i : Nat) : Int)) (.bl true)))) O = some (.lst ((nI o).map V.int)) := (upd_ne (Ne.symm DO)).trans hO5
      have stk6 : Stk (upd H5 D (.dK (putK kvs (Sum.inl ((i : Nat) : Int)) (.bl true)))) S S0 := by
        obtain ⟨as, a1, a2⟩ := stk
        exact ⟨as, (upd_ne SD).trans a1, objs_tup a2 (tup_upd hD5 fun _ z => nomatch z)⟩
      generalize upd H5 D (.dK (putK kvs (Sum.inl ((i : Nat) : Int)) (.bl true))) = H6 at s6 hD6 hO6 stk6 ⊢
      generalize putK kvs (Sum.inl ((i : Nat) : Int) : Key) (.bl true) = kvs1 at keys1 hD6
      clear stk s5 hD5 hO5 how keys hD3 hO3 inM s3 df ndM cov lM
      refine ⟨fun m σ H7 => ∃ (M o : List Nat) (S0 : List KN.On) (kvs : List (Key × V)) (x5 x6 x7 : Option V), m = (tb.length - M.length) * (wd + 2) + cost wd S0 ∧ KN.Dfs tb.length (rowN tb) M o S0 ∧ M.Nodup ∧ (∀ x < i + 1, x ∈ M) ∧ Same H H7 ∧ H7 D = some (.dK kvs) ∧ Keys kvs (nI M) ∧ H7 O = some (.lst ((nI o).map V.int)) ∧ Stk H7 S S0 ∧
        σ = [some (.ref t), some (.ref D), some (.ref O), some (.int ((i : Nat) : Int)), some (.ref S), x5, x6, x7], ⟨_, M1, o, S0, kvs1, _, _, _, rfl, df1, ndM1, cov1, s6, hD6, keys1, hO6, stk6, rfl⟩, ?_⟩
      clear hD6 hO6 stk6 keys1 s6 cov1 iM1 ndM1 df1
      rintro m σ H7 ⟨M, o, S0, kvs, x5, x6, x7, rfl, df, ndM, cov, s7, hD7, keys, hO7, ⟨as, hS7, obj⟩, rfl⟩
      refine ⟨_, rfl, _, .inl ⟨_, SqL.of hS7, rfl⟩, ?_⟩
      cases S0 with
      | nil =>
        obtain rfl : as = [] := List.eq_nil_of_length_eq_zero obj.len
        refine iteF ?_
        exact ⟨M, o, kvs, _, _, _, _, _, df, ndM, cov, s7, hD7, keys, hO7, rfl⟩
      | cons t0 S1 =>
        obtain ⟨v, c, d⟩ := t0
        rw [onI_cons] at obj
        obtain ⟨bs, b, rfl, ob1, hb⟩ := obj.pop
        refine ite2 (fun _ => ?_) (fun h => absurd (by simp) h)
        refine ⟨_, fun _ _ h => h, ?_⟩
        have ex : (bs ++ [b]).map V.ref = bs.map V.ref ++ [V.ref b] := by rw [List.map_append] <;> rfl
        rw [ex] at hS7
        have hy : (bs.map V.ref ++ [V.ref b])[(bs.map V.ref ++ [V.ref b]).length - 1]? = some (V.ref b) := by
          rw [List.length_append, List.length_singleton, Nat.add_sub_cancel, List.getElem?_append_right (Nat.le_refl _), Nat.sub_self] <;> rfl
        refine ⟨_, rfl, .inl ⟨rfl, _, SqL.of hS7⟩, S, _, _, rfl, rfl, hS7, hy, ?_⟩
        rw [List.dropLast_concat]
        have kt : KeepsTup H7 (upd H7 S (.lst (bs.map V.ref))) := tup_upd hS7 fun _ z => nomatch z
        have s8 : Same H (upd H7 S (.lst (bs.map V.ref))) := same_at s7 nS
        have hD8 : (upd H7 S (.lst (bs.map V.ref))) D = some (.dK kvs) := (upd_ne (Ne.symm SD)).trans hD7
        have hO8 : (upd H7 S (.lst (bs.map V.ref))) O = some (.lst ((nI o).map V.int)) := (upd_ne (Ne.symm SO)).trans hO7
        have hS8 : (upd H7 S (.lst (bs.map V.ref))) S = some (.lst (bs.map V.ref)) := upd_same
        have hb8 := kt _ _ hb
        have ob8 := objs_tup ob1 kt
        generalize upd H7 S (.lst (bs.map V.ref)) = H8 at s8 hD8 hO8 hS8 hb8 ob8 ⊢
        refine ⟨b, _, rfl, SqT.of hb8, rfl, _, _, rfl, _, _, rfl, rfl, ?_⟩
        have vM : v ∈ M := (df.mem v).mpr (.inr ⟨_, .head _, rfl⟩)
        have vn := df.rng v vM
        obtain ⟨a, ea, ha⟩ := h2.get vn
        have ha : H a = some (oTup (tb.getD v [])) := ha
        have at1 : atI (ts.map V.ref) ((v : Nat) : Int) = some (.ref a) := atI_nat (by rw [List.getElem?_map, ea] <;> rfl)
        have er : rowN tb v = (tb.getD v []).map Int.toNat := rfl
        have r12 : (tb.getD v []).length = wd ∧ ∀ z ∈ tb.getD v [], 0 ≤ z ∧ z < n := by
          rw [List.getD_eq_getElem?_getD, List.getElem?_eq_getElem vn]
          exact ok.row _ (List.getElem_mem vn)
        obtain ⟨r1, r2⟩ := r12
        generalize tb.getD v [] = rw at ha er r1 r2
        have rlen : (rowN tb v).length = wd := by rw [er, List.length_map, r1]
        have cle : c ≤ wd := rlen ▸ (df.col _ (.head _)).1
        have lS : S1.length + 1 ≤ tb.length := by
          have := df.ndS.length_le_of_subset (fun x hx => by
            obtain ⟨t, ht, e⟩ := List.mem_map.mp hx
            exact List.mem_range.mpr (df.rng x ((df.mem x).mpr (.inr ⟨t, ht, e⟩))) : ((⟨v, c, d⟩ :: S1 : List KN.On).map (·.v)) ⊆ List.range tb.length)
          rwa [List.length_range, List.length_map, List.length_cons] at this
        have lo : o.length ≤ tb.length := by
          have := df.nd.length_le_of_subset (fun x hx => List.mem_range.mpr (df.rng x ((df.mem x).mpr (.inl hx))) : o ⊆ List.range tb.length)
          rwa [List.length_range] at this
        have lM : M.length ≤ tb.length := by
          have := ndM.length_le_of_subset (fun x hx => List.mem_range.mpr (df.rng x hx) : M ⊆ List.range tb.length)
          rwa [List.length_range] at this
        have lbs : bs.length = S1.length := by
          rw [ob8.len]
          unfold onI
          rw [List.length_map, List.length_reverse]
        have cc : cost wd (⟨v, c, d⟩ :: S1) = (wd + 1 - c) + cost wd S1 := cost_cons _ _ _
        refine ⟨_, rfl, _, rfl, _, rfl, t, _, _, _, rfl, rfl, sqT9 h1 s8, at1, a, _, rfl, .inr (SqT.of (s8 _ _ ha)), rfl, _, rfl, ?_⟩
        rw [List.length_map, r1]
        by_cases hc : c = wd
        · rw [decide_eq_true (show V.int ((c : Nat) : Int) = V.int ((wd : Nat) : Int) by rw [hc])]
          refine iteT ?_
          refine ⟨_, rfl, .inl ⟨rfl, _, SqL.of hO8⟩, _, rfl, O, _, _, rfl, rfl, hO8, by rw [List.length_map, nI_len, sizeLine_eq]; omega, ?_⟩
          refine ⟨_, ?_, M, o ++ [v], S1, kvs, _, _, _, rfl, df.done (hc.trans rlen.symm), ndM, cov, same_at s8 nO, (upd_ne DO).trans hD8, keys, ?_, ⟨bs, (upd_ne SO).trans hS8, objs_tup ob8 (tup_upd hO8 fun _ z => nomatch z)⟩, rfl⟩
          · rw [cc]
            omega
          · rw [upd_same, nI_snoc, List.map_append] <;> rfl
        · rw [decide_eq_false (show ¬ V.int ((c : Nat) : Int) = V.int ((wd : Nat) : Int) from fun z => hc (Int.ofNat.inj (V.int.inj z)))]
          refine iteF ?_
          have cl : c < wd := by omega
          obtain ⟨z, hz⟩ : ∃ z, rw[c]? = some z := ⟨_, List.getElem?_eq_getElem (by omega)⟩
          have zin := r2 z (List.mem_of_getElem? hz)
          obtain ⟨u, rfl⟩ : ∃ u : Nat, z = ((u : Nat) : Int) := ⟨z.toNat, by omega⟩
          have un : u < tb.length := by omega
          have eu : (rowN tb v)[c]? = some u := by rw [er, List.getElem?_map, hz] <;> rfl
          refine ⟨_, rfl, .inl ⟨rfl, _, SqL.of hS8⟩, _, rfl, _, rfl, _, _, rfl, rfl, by show 2 ≤ sizeLine; decide, fun T3 nT3 => ?_⟩
          have sT := same_upd (o := .tup [.int ((v : Nat) : Int), .int (((c : Nat) : Int) + 1)]) nT3
          have hD9 := sT _ _ hD8
          have hO9 := sT _ _ hO8
          have hS9 := sT _ _ hS8
          have ob9 := objs_tup ob8 (Same.tup' sT)
          have t9 : (upd H8 T3 (.tup [.int ((v : Nat) : Int), .int (((c : Nat) : Int) + 1)])) T3 = some (oTup [((v : Nat) : Int), ((c + 1 : Nat) : Int)]) := upd_same
          have s9 := s8.trans sT
          generalize upd H8 T3 (.tup [.int ((v : Nat) : Int), .int (((c : Nat) : Int) + 1)]) = H9 at hD9 hO9 hS9 ob9 t9 s9 ⊢
          refine ⟨S, _, _, rfl, rfl, hS9, by rw [List.length_map, sizeLine_eq]; omega, ?_⟩
          have e10 : upd H9 S (.lst (bs.map V.ref ++ [.ref T3])) S = some (.lst ((bs ++ [T3]).map V.ref)) := by rw [upd_same, List.map_append] <;> rfl
          have k10 : KeepsTup H9 (upd H9 S (.lst (bs.map V.ref ++ [.ref T3]))) := tup_upd hS9 fun _ z => nomatch z
          have ob10 := (objs_tup ob9 k10).snoc (k10 _ _ t9)
          have s10 : Same H (upd H9 S (.lst (bs.map V.ref ++ [.ref T3]))) := same_at s9 nS
          have hD10 : (upd H9 S (.lst (bs.map V.ref ++ [.ref T3]))) D = some (.dK kvs) := (upd_ne (Ne.symm SD)).trans hD9
          have hO10 : (upd H9 S (.lst (bs.map V.ref ++ [.ref T3]))) O = some (.lst ((nI o).map V.int)) := (upd_ne (Ne.symm SO)).trans hO9
          generalize upd H9 S (.lst (bs.map V.ref ++ [.ref T3])) = H10 at e10 ob10 s10 hD10 hO10 ⊢
          have at2 : atI (rw.map V.int) ((c : Nat) : Int) = some (.int ((u : Nat) : Int)) := atI_nat (by rw [List.getElem?_map, hz] <;> rfl)
          refine ⟨_, rfl, _, rfl, t, _, _, _, rfl, rfl, sqT9 h1 s10, at1, _, rfl, a, _, _, _, rfl, rfl, SqT.of (s10 _ _ ha), at2, ?_⟩
          refine ⟨_, rfl, _, rfl, D, _, rfl, DGet.k (k := (Sum.inl ((u : Nat) : Int) : Key)) hD10, _, rfl, ?_⟩
          have oc := onI_cons (⟨v, c + 1, d⟩ : KN.On) S1
          have cc2 : cost wd (⟨v, c + 1, d⟩ :: S1) = (wd + 1 - (c + 1)) + cost wd S1 := cost_cons _ _ _
          by_cases uM : u ∈ M
          · obtain ⟨x, hx⟩ := Option.ne_none_iff_exists'.mp ((keys.val _).mpr (nI_mem.mpr uM))
            rw [hx]
            refine iteF ?_
            refine ⟨_, ?_, M, o, ⟨v, c + 1, d⟩ :: S1, kvs, _, _, _, rfl, df.next eu uM, ndM, cov, s10, hD10, keys, hO10, ⟨bs ++ [T3], e10, ?_⟩, rfl⟩
            · rw [cc, cc2]
              omega
            · rw [oc]
              exact ob10
          · have hv : valV kvs (Sum.inl ((u : Nat) : Int) : Key) = none := Classical.byContradiction fun z => uM (nI_mem.mp ((keys.val _).mp z))
            rw [hv]
            refine iteT ?_
            have df1 := df.step eu un uM
            have lM1 : M.length + 1 ≤ tb.length := by
              have := (List.nodup_cons.mpr ⟨uM, ndM⟩).length_le_of_subset (fun x hx => List.mem_range.mpr (by
                rcases List.mem_cons.mp hx with rfl | hx
                · exact un
                · exact df.rng x hx) : (u :: M) ⊆ List.range tb.length)
              rwa [List.length_range, List.length_cons] at this
            refine ⟨_, rfl, _, rfl, D, _, rfl, DPut.k (k := (Sum.inl ((u : Nat) : Int) : Key)) hD10 (by rw [keys.len, nI_len, sizeLine_eq]; omega), ?_⟩
            have s11 : Same H (upd H10 D (.dK (putK kvs (Sum.inl ((u : Nat) : Int)) (.bl true)))) := same_at s10 nDH
            have hD11 : (upd H10 D (.dK (putK kvs (Sum.inl ((u : Nat) : Int)) (.bl true)))) D = some (.dK (putK kvs (Sum.inl ((u : Nat) : Int)) (.bl true))) := upd_same
            have hO11 : (upd H10 D (.dK (putK kvs (Sum.inl ((u : Nat) : Int)) (.bl true)))) O = some (.lst ((nI o).map V.int)) := (upd_ne (Ne.symm DO)).trans hO10
            have hS11 : (upd H10 D (.dK (putK kvs (Sum.inl ((u : Nat) : Int)) (.bl true)))) S = some (.lst ((bs ++ [T3]).map V.ref)) := (upd_ne SD).trans e10
            have ob11 := objs_tup ob10 (tup_upd (o := .dK (putK kvs (Sum.inl ((u : Nat) : Int)) (.bl true))) hD10 fun _ z => nomatch z)
            have keys1 := keys.put (a := ((u : Nat) : Int)) (fun z => uM (nI_mem.mp z)) (.bl true)
            generalize upd H10 D (.dK (putK kvs (Sum.inl ((u : Nat) : Int)) (.bl true))) = H11 at s11 hD11 hO11 hS11 ob11 ⊢
            refine ⟨_, rfl, .inl ⟨rfl, _, SqL.of hS11⟩, _, rfl, by show 2 ≤ sizeLine; decide, fun T4 nT4 => ?_⟩
            have sU := same_upd (o := .tup [.int ((u : Nat) : Int), .int 0]) nT4
            have hD12 := sU _ _ hD11
            have hO12 := sU _ _ hO11
            have hS12 := sU _ _ hS11
            have ob12 := objs_tup ob11 (Same.tup' sU)
            have t12 : (upd H11 T4 (.tup [.int ((u : Nat) : Int), .int 0])) T4 = some (oTup [((u : Nat) : Int), ((0 : Nat) : Int)]) := upd_same
            have s12 := s11.trans sU
            generalize upd H11 T4 (.tup [.int ((u : Nat) : Int), .int 0]) = H12 at hD12 hO12 hS12 ob12 t12 s12 ⊢
            refine ⟨S, _, _, rfl, rfl, hS12, by rw [List.length_map, List.length_append, List.length_singleton, sizeLine_eq]; omega, ?_⟩
            have k13 : KeepsTup H12 (upd H12 S (.lst ((bs ++ [T3]).map V.ref ++ [.ref T4]))) := tup_upd hS12 fun _ z => nomatch z
            have ob13 := (objs_tup ob12 k13).snoc (k13 _ _ t12)
            have cc3 : cost wd (⟨u, 0, o.length⟩ :: ⟨v, c + 1, d⟩ :: S1) = (wd + 1 - 0) + cost wd (⟨v, c + 1, d⟩ :: S1) := cost_cons _ _ _
            refine ⟨_, ?_, M ++ [u], o, ⟨u, 0, o.length⟩ :: ⟨v, c + 1, d⟩ :: S1, _, _, _, _, rfl, df1, ?_, fun x hx => List.mem_append_left _ (cov x hx), same_at s12 nS, (upd_ne (Ne.symm SD)).trans hD12, ?_, (upd_ne (Ne.symm SO)).trans hO12, ⟨(bs ++ [T3]) ++ [T4], ?_, ?_⟩, rfl⟩
            · rw [cc, cc3, cc2, List.length_append, List.length_singleton]
              have e1 : tb.length - M.length = (tb.length - (M.length + 1)) + 1 := by omega
              rw [e1, Nat.succ_mul]
              omega
            · refine List.nodup_append.mpr ⟨ndM, List.nodup_cons.mpr ⟨List.not_mem_nil, List.nodup_nil⟩, fun x hx y hy e => ?_⟩
              rw [List.mem_singleton.mp hy] at e
              exact uM (e ▸ hx)
            · rw [nI_snoc]
              exact keys1
            · rw [upd_same, List.map_append (l₁ := bs ++ [T3])] <;> rfl
            · rw [onI_cons, oc]
              exact ob13
    · rintro σ H3 ⟨M, o, kvs, y3, y4, y5, y6, y7, df, ndM, cov, s3, hD3, keys, hO3, rfl⟩
      rw [Int.toNat_natCast] at cov
      exact ⟨_, rfl, q O o H3 nO s3 hO3 (df.whole cov)⟩
end
end WK
set_option Elab.async false
set_option linter.all false
set_option maxRecDepth 100000
set_option maxHeartbeats 4000000
namespace WK
theorem perm_lift {α β : Type} (f : α → β) {l1 l2 : List β} (h : l1.Perm l2) : ∀ zs : List α, zs.map f = l2 → ∃ xs : List α, xs.map f = l1 ∧ xs.Perm zs := by
  induction h with
  | nil =>
    intro zs e
    rw [List.map_eq_nil_iff.mp e]
    exact ⟨[], rfl, .nil⟩
  | cons x _ ih =>
    intro zs e
    cases zs with
    | nil => cases e
    | cons z zs =>
      rw [List.map_cons] at e
      injection e with e1 e2
      obtain ⟨xs, h1, h2⟩ := ih zs e2
      exact ⟨z :: xs, by rw [List.map_cons, h1, e1], h2.cons z⟩
  | swap x y l =>
    intro zs e
    match zs, e with
    | a :: b :: zs, e =>
      rw [List.map_cons, List.map_cons] at e
      injection e with e1 e2
      injection e2 with e2 e3
      exact ⟨b :: a :: zs, by rw [List.map_cons, List.map_cons, e1, e2, e3], .swap ..⟩
  | trans _ _ ih1 ih2 =>
    intro zs e
    obtain ⟨ys, h1, h2⟩ := ih2 zs e
    obtain ⟨xs, h3, h4⟩ := ih1 ys h1
    exact ⟨xs, h3, h4.trans h2⟩
end WK
namespace L2
open PySem PySem.Spec PyProof.Rows
end L2
set_option Elab.async false
set_option linter.all false
set_option maxRecDepth 100000
set_option maxHeartbeats 8000000
namespace WK
open PySem L2 PyProof.Rows LCX K1 FV DP
open TX (sg sigs)
open PySem.W (Frag kitOne)
abbrev sKnotsOf : Stmt := top 18
abbrev NKn : List Str := ["table", "back", "taken", "found", "start", "knot", "row"]
abbrev Tu := Addr × List Int
def refT (zs : List Tu) : List V := zs.map fun z => V.ref z.1
def Tus (H : Hp) (zs : List Tu) : Prop := ∀ z ∈ zs, H z.1 = some (oTup z.2)
structure KnotsOk (n : Nat) (row : Nat → List Nat) (ks : List (List Int)) : Prop where
  asc : ks.Pairwise fun x y => x.headD 0 ≤ y.headD 0
  nd : ks.Nodup
  each : ∀ k ∈ ks, k.Pairwise (· < ·) ∧ ∃ s < n, ∀ x : Int, x ∈ k ↔ ∃ y : Nat, x = ((y : Nat) : Int) ∧ KN.Scc row s y
  all : ∀ s < n, ∃ k ∈ ks, ((s : Nat) : Int) ∈ k
def spKnotsOf (K : Frag) : Sp := fun vs H Q _ => ∃ (t : Addr) (tb : List (List Int)) (wd : Nat) (n : Int), vs = [.ref t] ∧ TTab K H t tb ∧ TabOk tb wd n ∧ tb.length < 64 ∧ wd ≤ 15 ∧
  ∀ (p : Addr) (zs : List Tu) H', H p = none → Same H H' → H' p = some (.tup (refT zs)) → Tus H' zs → KnotsOk tb.length (rowN tb) (zs.map (·.2)) → Q (.ref p) H'
/-- the numbers of a tracked tuple -/
def tupOf (H : Hp) : V → List Int
  | .ref a => match H a with
    | some (.tup vs) => vs.map fun v => match v with | .int i => i | _ => 0
    | _ => []
  | _ => []
theorem tupOf_at {H : Hp} {a : Addr} {l : List Int} (h : H a = some (oTup l)) : tupOf H (.ref a) = l := by
  show (match H a with | some (.tup vs) => _ | _ => []) = l
  rw [h]
  show List.map _ (List.map V.int l) = l
  rw [List.map_map]
  exact List.map_id l
theorem rch_back {n : Nat} {row bs : Nat → List Nat} (h : ∀ x < n, ∀ y, y ∈ bs x ↔ y < n ∧ x ∈ row y) {s x : Nat} (sn : s < n) (r : KN.Rch bs s x) : x < n ∧ KN.Rch row x s := by
  induction r with
  | refl => exact ⟨sn, .refl s⟩
  | step _ e ih =>
    obtain ⟨b1, b2⟩ := ih
    obtain ⟨c1, c2⟩ := (h _ b1 _).mp e
    exact ⟨c1, (KN.Rch.edge c2).trans b2⟩
/-- what is taken, and the knots that are found -/
structure Kn (n : Nat) (row : Nat → List Nat) (o T : List Nat) (zs : List Tu) (i : Nat) : Prop where
  nd : T.Nodup
  lt : ∀ x ∈ T, x < n
  clo : ∀ x ∈ T, ∀ y, KN.Scc row x y → y ∈ T
  late : ∀ j y, o[j]? = some y → n ≤ j + i → y ∈ T
  few : zs.length ≤ i
  each : ∀ z ∈ zs, z.2.Pairwise (· < ·) ∧ ∃ s < n, ∀ x : Int, x ∈ z.2 ↔ ∃ y : Nat, x = ((y : Nat) : Int) ∧ KN.Scc row s y
  own : ∀ z ∈ zs, ∀ y : Nat, ((y : Nat) : Int) ∈ z.2 → y ∈ T
  all : ∀ x ∈ T, ∃ z ∈ zs, ((x : Nat) : Int) ∈ z.2
  ndz : (zs.map (·.2)).Nodup
theorem Kn.skip {n : Nat} {row : Nat → List Nat} {o T : List Nat} {zs : List Tu} {i s j : Nat} (k : Kn n row o T zs i) (hs : o[j]? = some s) (ej : j + i + 1 = n) (sT : s ∈ T) : Kn n row o T zs (i + 1) :=
  { k with late := fun j' y hj h => by
             by_cases e : j' = j
             · subst e
               obtain rfl : s = y := Option.some.inj (hs.symm.trans hj)
               exact sT
             · exact k.late j' y hj (by omega)
           few := Nat.le_succ_of_le k.few }
theorem Kn.add {n : Nat} {row : Nat → List Nat} {o T W : List Nat} {zs : List Tu} {i s j : Nat} {a : Addr} {ns : List Int} (k : Kn n row o T zs i) (hs : o[j]? = some s) (ej : j + i + 1 = n) (sn : s < n) (ndW : W.Nodup) (W1 : ∀ x ∈ W, x < n ∧ x ∉ T) (WS : ∀ x, x ∈ W ↔ KN.Scc row s x) (hns : ns.Pairwise (· < ·)) (mns : ∀ x : Int, x ∈ ns ↔ x ∈ nI W) : Kn n row o (T ++ W) (zs ++ [(a, ns)]) (i + 1) := by
  have inN : ∀ y : Nat, ((y : Nat) : Int) ∈ ns ↔ y ∈ W := fun y => (mns _).trans nI_mem
  have sW : s ∈ W := (WS s).mpr (KN.Scc.refl s)
  refine ⟨List.nodup_append.mpr ⟨k.nd, ndW, fun x hx y hy e => (W1 y hy).2 (e ▸ hx)⟩, fun x hx => ?_, fun x hx y g => ?_, fun j' y hj h => ?_, ?_, fun z hz => ?_, fun z hz y hy => ?_, fun x hx => ?_, ?_⟩
  · exact (List.mem_append.mp hx).elim (k.lt x) fun z => (W1 x z).1
  · rcases List.mem_append.mp hx with z | z
    · exact List.mem_append_left _ (k.clo x z y g)
    · exact List.mem_append_right _ ((WS y).mpr (((WS x).mp z).trans g))
  · by_cases e : j' = j
    · subst e
      obtain rfl : s = y := Option.some.inj (hs.symm.trans hj)
      exact List.mem_append_right _ sW
    · exact List.mem_append_left _ (k.late j' y hj (by omega))
  · rw [List.length_append, List.length_singleton]
    exact Nat.succ_le_succ k.few
  · rcases List.mem_append.mp hz with h | h
    · exact k.each z h
    · rw [List.mem_singleton.mp h]
      refine ⟨hns, s, sn, fun x => ?_⟩
      rw [mns]
      constructor
      · intro hx
        obtain ⟨y, hy, rfl⟩ := List.mem_map.mp hx
        exact ⟨y, rfl, (WS y).mp hy⟩
      · rintro ⟨y, rfl, g⟩
        exact nI_mem.mpr ((WS y).mpr g)
  · rcases List.mem_append.mp hz with h | h
    · exact List.mem_append_left _ (k.own z h y hy)
    · rw [List.mem_singleton.mp h] at hy
      exact List.mem_append_right _ ((inN y).mp hy)
  · rcases List.mem_append.mp hx with h | h
    · obtain ⟨z, hz, g⟩ := k.all x h
      exact ⟨z, List.mem_append_left _ hz, g⟩
    · exact ⟨(a, ns), List.mem_append_right _ (List.mem_singleton.mpr rfl), (inN x).mpr h⟩
  · rw [List.map_append]
    refine List.nodup_append.mpr ⟨k.ndz, List.nodup_cons.mpr ⟨List.not_mem_nil, List.nodup_nil⟩, fun x hx y hy e => ?_⟩
    obtain ⟨z, hz, rfl⟩ := List.mem_map.mp hx
    rw [List.mem_singleton.mp hy] at e
    have e : z.2 = ns := e
    have := k.own z hz s (e ▸ (inN s).mpr sW)
    exact (W1 s sW).2 this
theorem asc_eq {a b : List Int} (ha : a.Pairwise (· < ·)) (hb : b.Pairwise (· < ·)) (h : ∀ x, x ∈ a ↔ x ∈ b) : a = b := by
  have na : a.Nodup := ha.imp fun h => by omega
  have nb : b.Nodup := hb.imp fun h => by omega
  exact List.Perm.eq_of_pairwise (le := fun x y : Int => x ≤ y) (fun x y _ _ h1 h2 => by omega) (ha.imp fun h => by omega) (hb.imp fun h => by omega) ((List.perm_ext_iff_of_nodup na nb).mpr h)
section
variable {P : Program} {w : World} {K : PySem.W.Frag} {mg : Str → Option Value} {base : Heap} {fT fF fN : Addr} {dT dF dN : FuncData}
theorem scKn : FnScope NKn ["table"] (defScope sKnotsOf) := ⟨rfl, rfl, rfl, by decide +kernel, rfl, by decide +kernel, by decide +kernel⟩
theorem ok_knotsof {f : Addr} {fd : FuncData} (F : Fun K "knots_of" "knots_of" sKnotsOf f fd) (T : TN mg) (AT : Fn K mg "_turned_round" sTurned ["table"] fT dT) (GT : FnOk P w K mg base CX0 1 fT dT ["table"] (spTurned K)) (AF : Fn K mg "_finished" sFinished ["table"] fF dF) (GF : FnOk P w K mg base CX0 1 fF dF ["table"] (spFinished K))
    (AN : Fn K mg "_not_taken" sNotTaken ["back", "start", "taken"] fN dN) (GN : FnOk P w K mg base CX0 1 fN dN ["back", "start", "taken"] spNotTaken) : FnOk P w K mg base CX0 2 f fd ["table"] (spKnotsOf K) := by
  refine F.ok scKn (fun vs H Q E h => ?_) (fun cdv A outer s H vs Q E hr h => ?_)
  · obtain ⟨t, _, _, _, rfl, _⟩ := h
    rfl
  · obtain ⟨t, tb, wd, n, rfl, hT, ok, n1, w1, q⟩ := h
    have hub := hu_of hr
    refine ⟨_, pss_cons (ps_set (i := 1) scKn.nd rfl (Or.inl rfl) (pe_call GT hr rfl AT.g AT.F.kp AT.b .nil pass0 (pa_cons (pv 0) pa_nil)))
      (pss_cons (ps_set (i := 2) scKn.nd rfl (Or.inl rfl) pe_dnewK)
      (pss_cons (ps_set (i := 3) scKn.nd rfl (Or.inl rfl) (pe_lst pa_nil))
      (pss_cons (ps_for PassesOwn.never rfl (pi_list (pe_revL (pe_call GF hr rfl AF.g AF.F.kp AF.b .nil pass0 (pa_cons (pv 0) pa_nil)))) (pg_name (i := 4) scKn.nd rfl (Or.inl rfl))
        (pss_one (ps_if (pt_cmp (pc_dnotin hub (pv 4) (pv 2)))
          (pss_cons (ps_set (i := 5) scKn.nd rfl (Or.inl rfl) (pe_call GN hr rfl AN.g AN.F.kp AN.b .nil pass0 (pa_cons (pv 1) (pa_cons (pv 4) (pa_cons (pv 2) pa_nil)))))
          (pss_cons (ps_for PassesOwn.never rfl (pi_list (pv 5)) (pg_name (i := 6) scKn.nd rfl (Or.inl rfl)) (pss_one (ps_dput hub (pv 2) (pv 6) pe_bl rfl)))
          (pss_one (ps_expr (pe_bm PySem.F.plainAttrs_list PySem.F.slot_list_append PySem.F.type_list_append mt_append (pv 3) (pa_cons (pe_callTy call_tuple_of (by rfl) T.tuple (by decide +kernel) (pa_cons (pe_callB cr_sortedI (by rfl) T.sorted (by decide +kernel) (pa_cons (pv 5) pa_nil)) pa_nil)) pa_nil)))))) pss_nil)))
      (pss_one (ps_ret (pe_callTy call_tuple_of (by rfl) T.tuple (by decide +kernel) (pa_cons (pe_callB cr_sortN (by rfl) T.sorted (by decide +kernel) (pa_cons (pv 3) pa_nil)) pa_nil))))))), ?_⟩
    have okl := ok.len
    have mul : tb.length * wd ≤ 1000 := Nat.le_trans (Nat.mul_le_mul (Nat.le_of_lt n1) w1) (by decide)
    have rl : ∀ {i : Nat}, i < tb.length → ∀ x ∈ rowN tb i, x < tb.length := fun {i} hi x hx => by
      unfold rowN at hx
      rw [List.getD_eq_getElem?_getD, List.getElem?_eq_getElem hi] at hx
      obtain ⟨z, hz, rfl⟩ := List.mem_map.mp hx
      have := (ok.row _ (List.getElem_mem hi)).2 z hz
      omega
    refine ⟨_, rfl, t, tb, wd, n, rfl, hT, ok, mul, by omega, fun bk bs H1 nb s1 hbk mem => ?_⟩
    intro D nD
    have s2 : Same H (upd H1 D (.dK [])) := s1.trans (same_upd nD)
    have hD2 : (upd H1 D (.dK [])) D = some (.dK []) := upd_same
    have hb2 := hbk.same (same_upd (o := .dK []) nD)
    have nDH : H1 D = none := nD
    refine ⟨by show 0 ≤ sizeLine; decide, fun O nO1 => ?_⟩
    have nO : H1 O = none := (same_upd nD).free nO1
    have DO : D ≠ O := fun z => by rw [← z, hD2] at nO1; cases nO1
    have s3 : Same H1 (upd (upd H1 D (.dK [])) O (.lst [])) := (same_upd nD).trans (same_upd nO1)
    have hD3 : (upd (upd H1 D (.dK [])) O (.lst [])) D = some (.dK []) := same_upd nO1 _ _ hD2
    have hO3 : (upd (upd H1 D (.dK [])) O (.lst [])) O = some (.lst []) := upd_same
    generalize upd (upd H1 D (.dK [])) O (.lst []) = H3 at s3 hD3 hO3 ⊢
    have s03 := s1.trans s3
    refine ⟨_, rfl, t, tb, wd, n, rfl, ⟨hT.choose, sqT9 hT.choose_spec.1 s03, hT.choose_spec.2.to fun a _ r e => s03 _ _ e⟩, ok, by omega, by omega, fun po o H4 npo s4 ho fin => ?_⟩
    refine ⟨po, _, rfl, SqL.of ho, fun p2 np2 => ⟨p2, rfl, ⟨_, SqL.of upd_same⟩, ?_⟩⟩
    have s14 : Same H1 (upd H4 p2 (.lst ((nI o).map V.int).reverse)) := (s3.trans s4).trans (same_upd np2)
    have hD4 := same_upd (o := .lst ((nI o).map V.int).reverse) np2 _ _ (s4 _ _ hD3)
    have hO4 := same_upd (o := .lst ((nI o).map V.int).reverse) np2 _ _ (s4 _ _ hO3)
    have at2 : (upd H4 p2 (.lst ((nI o).map V.int).reverse)) p2 = some (.lst ((nI o).map V.int).reverse) := upd_same
    have p2D : p2 ≠ D := fun z => by rw [z, s4 _ _ hD3] at np2; cases np2
    have p2O : p2 ≠ O := fun z => by rw [z, s4 _ _ hO3] at np2; cases np2
    generalize upd H4 p2 (.lst ((nI o).map V.int).reverse) = H5 at s14 hD4 hO4 at2 ⊢
    have lo : o.length = tb.length := by
      have h1 := fin.nd.length_le_of_subset (fun x hx => List.mem_range.mpr ((fin.all x).mp hx) : o ⊆ List.range tb.length)
      have h2 := List.nodup_range.length_le_of_subset (fun x hx => (fin.all x).mpr (List.mem_range.mp hx) : List.range tb.length ⊆ o)
      rw [List.length_range] at h1 h2
      omega
    have lr : (((nI o).map V.int).reverse).length = tb.length := by rw [List.length_reverse, List.length_map, nI_len, lo]
    refine for_it walk_list (fun i σ H6 => ∃ (T : List Nat) (zs : List Tu) (kvs : List (Key × V)) (y4 y5 y6 : Option V), Kn tb.length (rowN tb) o T zs i ∧ Same H1 H6 ∧ H6 p2 = some (.lst ((nI o).map V.int).reverse) ∧ H6 D = some (.dK kvs) ∧ Keys kvs (nI T) ∧ H6 O = some (.lst (refT zs)) ∧ Tus H6 zs ∧
      σ = [some (.ref t), some (.ref bk), some (.ref D), some (.ref O), y4, y5, y6]) ⟨[], [], [], _, _, _, ⟨List.nodup_nil, fun x h => absurd h List.not_mem_nil, fun x h => absurd h List.not_mem_nil, fun j y hj h => by
        have := (List.getElem?_eq_some_iff.mp hj).1
        omega, Nat.le_refl _, fun z h => absurd h List.not_mem_nil, fun z h => absurd h List.not_mem_nil, fun x h => absurd h List.not_mem_nil, List.nodup_nil⟩, s14, at2, hD4, rfl, hO4, fun z h => absurd h List.not_mem_nil, rfl⟩ (fun i σ H6 _ ⟨_, _, _, _, _, _, _, _, h, _⟩ => SqL.of h) ?_ ?_
    · rintro i x σ H6 H7 hi ⟨Tk, zs, kvs, y4, y5, y6, kn, s6, hp6, hD6, keys, hO6, tus, rfl⟩ ⟨rfl, hx⟩
      rw [lr] at hi
      obtain ⟨j, ej⟩ : ∃ j, j + i + 1 = tb.length := ⟨tb.length - 1 - i, by omega⟩
      obtain ⟨st, es⟩ : ∃ st, o[j]? = some st := ⟨_, List.getElem?_eq_getElem (by omega)⟩
      obtain rfl : x = .int ((st : Nat) : Int) := by
        have e1 : (((nI o).map V.int).reverse)[i]? = ((nI o).map V.int)[((nI o).map V.int).length - 1 - i]? := List.getElem?_reverse (by rw [List.length_map, nI_len]; omega)
        rw [e1, List.length_map, nI_len, show o.length - 1 - i = j by omega] at hx
        unfold nI at hx
        rw [List.getElem?_map, List.getElem?_map, es] at hx
        exact (Option.some.inj hx).symm
      have sn : st < tb.length := (fin.all st).mp (List.mem_of_getElem? es)
      refine ⟨_, rfl, _, rfl, D, _, rfl, DGet.k (k := (Sum.inl ((st : Nat) : Int) : Key)) hD6, _, rfl, ?_⟩
      by_cases sT : st ∈ Tk
      · obtain ⟨v, hv⟩ := Option.ne_none_iff_exists'.mp ((keys.val _).mpr (nI_mem.mpr sT))
        rw [hv]
        refine iteF ?_
        exact ⟨Tk, zs, kvs, _, _, _, kn.skip es ej sT, s6, hp6, hD6, keys, hO6, tus, rfl⟩
      have hv : valV kvs (Sum.inl ((st : Nat) : Int) : Key) = none := Classical.byContradiction fun z => sT (nI_mem.mp ((keys.val _).mp z))
      rw [hv]
      refine iteT ?_
      have cl : ∀ x < tb.length, ∀ y ∈ rowN tb x, y < tb.length := fun x hx y hy => rl hx y hy
      refine ⟨_, rfl, _, rfl, _, rfl, bk, D, tb.length, st, bs, kvs, Tk, rfl, hbk.same s6, by omega, sn, hD6, keys, sT, fun pw W H8 npw s8 hW ndW sW fromW toW => ?_⟩
      have WS : ∀ x, x ∈ W ↔ KN.Scc (rowN tb) st x := fun x => KN.Fin.led cl fin kn.clo es (fun j' y hj h => kn.late j' y hj (by omega)) sT sW
        (fun x hx => ⟨(fromW x hx).1, (fromW x hx).2.1, (rch_back mem sn (fromW x hx).2.2).2⟩) (fun x hx y hy e yT => toW x hx y ((mem x (fromW x hx).1 y).mpr ⟨hy, e⟩) yT) x
      have W1 : ∀ x ∈ W, x < tb.length ∧ x ∉ Tk := fun x hx => ⟨(fromW x hx).1, (fromW x hx).2.1⟩
      have lW : W.length ≤ tb.length := by
        have := ndW.length_le_of_subset (fun x hx => List.mem_range.mpr (W1 x hx).1 : W ⊆ List.range tb.length)
        rwa [List.length_range] at this
      have lT : Tk.length ≤ tb.length := by
        have := kn.nd.length_le_of_subset (fun x hx => List.mem_range.mpr (kn.lt x hx) : Tk ⊆ List.range tb.length)
        rwa [List.length_range] at this
      have pwD : pw ≠ D := fun z => by rw [z, hD6] at npw; cases npw
      have pwO : pw ≠ O := fun z => by rw [z, hO6] at npw; cases npw
      have elW : ((nI W).map V.int).length = W.length := by rw [List.length_map, nI_len]
      refine ⟨_, rfl, pw, rfl, ⟨_, SqL.of hW⟩, ?_⟩
      refine for_it walk_list (fun j σ H9 => ∃ (kvs' : List (Key × V)) (y6 : Option V), Same H1 H9 ∧ H9 p2 = some (.lst ((nI o).map V.int).reverse) ∧ H9 pw = some (.lst ((nI W).map V.int)) ∧ H9 D = some (.dK kvs') ∧ Keys kvs' (nI (Tk ++ W.take j)) ∧ H9 O = some (.lst (refT zs)) ∧ Tus H9 zs ∧
        σ = [some (.ref t), some (.ref bk), some (.ref D), some (.ref O), some (.int ((st : Nat) : Int)), some (.ref pw), y6]) ⟨kvs, _, s6.trans s8, s8 _ _ hp6, hW, s8 _ _ hD6, by rw [List.take_zero, List.append_nil]; exact keys, s8 _ _ hO6, fun z hz => s8 _ _ (tus z hz), rfl⟩ (fun j σ H9 _ ⟨_, _, _, _, h, _⟩ => SqL.of h) ?_ ?_
      · rintro k x σ H9 H10 hk ⟨kvs', y6, s9, hp9, hW9, hD9, keys9, hO9, tus9, rfl⟩ ⟨rfl, hx⟩
        rw [elW] at hk
        obtain ⟨v, ev⟩ : ∃ v, W[k]? = some v := ⟨_, List.getElem?_eq_getElem hk⟩
        obtain rfl : x = .int ((v : Nat) : Int) := by
          unfold nI at hx
          rw [List.getElem?_map, List.getElem?_map, ev] at hx
          exact (Option.some.inj hx).symm
        have tk : W.take (k + 1) = W.take k ++ [v] := by rw [List.take_add_one, ev] <;> rfl
        have vnew : v ∉ Tk ++ W.take k := fun z => by
          rcases List.mem_append.mp z with z | z
          · exact (W1 v (List.mem_of_getElem? ev)).2 z
          · obtain ⟨m, hm, e⟩ := List.getElem_of_mem z
            rw [List.length_take] at hm
            rw [List.getElem_take] at e
            have := (List.getElem?_inj (show m < W.length by omega) ndW).mp ((List.getElem?_eq_getElem (by omega)).trans ((congrArg some e).trans ev.symm))
            omega
        have lt9 : (nI (Tk ++ W.take k)).length ≤ 128 := by
          rw [nI_len, List.length_append, List.length_take]
          omega
        refine ⟨_, rfl, _, rfl, D, _, rfl, DPut.k (k := (Sum.inl ((v : Nat) : Int) : Key)) hD9 (by rw [keys9.len, sizeLine_eq]; omega), ?_⟩
        refine ⟨_, _, same_at s9 nDH, (upd_ne p2D).trans hp9, (upd_ne pwD).trans hW9, upd_same, ?_, (upd_ne (Ne.symm DO)).trans hO9, fun z hz => tup_upd hD9 (fun _ z => nomatch z) _ _ (tus9 z hz), rfl⟩
        rw [tk, ← List.append_assoc, nI_snoc]
        exact keys9.put (fun z => vnew (nI_mem.mp z)) _
      · rintro σ H9 ⟨kvs', y6, s9, hp9, hW9, hD9, keys9, hO9, tus9, rfl⟩
        rw [elW, List.take_length] at keys9
        have kf := kn.few
        refine ⟨_, rfl, .inl ⟨rfl, _, SqL.of hO9⟩, _, rfl, pw, _, rfl, SqL.of hW9, fun ns p6 perm asc np6 => ?_⟩
        refine ⟨p6, _, rfl, .inl ⟨SqL.of upd_same, fun v hv => ?_⟩⟩
        have sA := same_upd (o := .lst (ns.map V.int)) np6
        have sB := sA.trans (same_upd (o := .tup (ns.map V.int)) hv)
        have tv : (upd (upd H9 p6 (.lst (ns.map V.int))) v (.tup (ns.map V.int))) v = some (oTup ns) := upd_same
        have hp10 := sB _ _ hp9
        have hD10 := sB _ _ hD9
        have hO10 := sB _ _ hO9
        have tus10 : Tus (upd (upd H9 p6 (.lst (ns.map V.int))) v (.tup (ns.map V.int))) zs := fun z hz => sB _ _ (tus9 z hz)
        have s10 := s9.trans sB
        generalize upd (upd H9 p6 (.lst (ns.map V.int))) v (.tup (ns.map V.int)) = H10 at tv hp10 hD10 hO10 tus10 s10 ⊢
        refine ⟨O, _, _, rfl, rfl, hO10, by unfold refT; rw [List.length_map, sizeLine_eq]; omega, ?_⟩
        have ndn : (nI W).Nodup := by
          unfold nI
          exact List.nodup_iff_pairwise_ne.mpr (List.pairwise_map.mpr ((List.nodup_iff_pairwise_ne.mp ndW).imp fun h e => h (Int.ofNat.inj e)))
        have nas : ns.Pairwise (· < ·) := asc.imp₂ (fun _ _ h1 h2 => by omega) (perm.nodup_iff.mpr ndn)
        have kn1 := kn.add (a := v) es ej sn ndW W1 WS nas fun x => perm.mem_iff
        have kt : KeepsTup H10 (upd H10 O (.lst (refT zs ++ [.ref v]))) := tup_upd hO10 fun _ z => nomatch z
        have er : refT zs ++ [V.ref v] = refT (zs ++ [(v, ns)]) := (List.map_append (l₁ := zs) (l₂ := [(v, ns)])).symm
        refine ⟨Tk ++ W, zs ++ [(v, ns)], kvs', _, _, _, kn1, same_at s10 nO, (upd_ne p2O).trans hp10, (upd_ne DO).trans hD10, keys9, ?_, fun z hz => ?_, rfl⟩
        · rw [upd_same, er]
        · rcases List.mem_append.mp hz with hz | hz
          · exact kt _ _ (tus10 z hz)
          · rw [List.mem_singleton.mp hz]
            exact kt _ _ tv
    · rintro σ H6 ⟨Tk, zs, kvs, y4, y5, y6, kn, s6, hp6, hD6, keys, hO6, tus, rfl⟩
      rw [lr] at kn
      have allT : ∀ x < tb.length, x ∈ Tk := fun x hx => by
        obtain ⟨j, hj⟩ := List.mem_iff_getElem?.mp ((fin.all x).mpr hx)
        exact kn.late j x hj (Nat.le_add_left _ _)
      have kf := kn.few
      have tz : ∀ z ∈ zs, tupOf H6 (.ref z.1) = z.2 := fun z hz => tupOf_at (tus z hz)
      have hd : ∀ z ∈ zs, z.2 ≠ [] ∧ z.2.headD 0 ∈ z.2 := fun z hz => by
        obtain ⟨_, s, _, h⟩ := kn.each z hz
        have hs := (h ((s : Nat) : Int)).mpr ⟨s, rfl, KN.Scc.refl s⟩
        revert hs
        cases z.2 with
        | nil => exact fun z => absurd z List.not_mem_nil
        | cons x l => exact fun _ => ⟨fun z => (nomatch z), .head _⟩
      refine ⟨_, rfl, O, refT zs, tupOf H6, rfl, SqL.of hO6, by unfold refT; rw [List.length_map]; omega, fun x hx => ?_, fun x hx y hy e => ?_, fun ys py perm asc2 npy => ?_⟩
      · obtain ⟨z, hz, rfl⟩ := List.mem_map.mp hx
        rw [tz z hz]
        exact ⟨⟨z.1, rfl, SqT.of (tus z hz)⟩, (hd z hz).1⟩
      · obtain ⟨z, hz, rfl⟩ := List.mem_map.mp hx
        obtain ⟨z', hz', rfl⟩ := List.mem_map.mp hy
        rw [tz z hz, tz z' hz'] at e ⊢
        obtain ⟨a1, s, _, h⟩ := kn.each z hz
        obtain ⟨a2, s', _, h'⟩ := kn.each z' hz'
        have m1 := (hd z hz).2
        have m2 := (hd z' hz').2
        rw [← e] at m2
        obtain ⟨y1, ey1, g1⟩ := (h _).mp m1
        obtain ⟨y2, ey2, g2⟩ := (h' _).mp m2
        obtain rfl : y1 = y2 := Int.ofNat.inj (ey1.symm.trans ey2)
        refine asc_eq a1 a2 fun x => (h x).trans (Iff.trans ?_ (h' x).symm)
        constructor
        · rintro ⟨y, rfl, g⟩
          exact ⟨y, rfl, g2.trans (g1.symm.trans g)⟩
        · rintro ⟨y, rfl, g⟩
          exact ⟨y, rfl, g1.trans (g2.symm.trans g)⟩
      · obtain ⟨xs, rfl, pxs⟩ := perm_lift (fun z : Tu => V.ref z.1) perm zs rfl
        have s7 : Same H6 (upd H6 py (.lst (refT xs))) := same_upd npy
        refine ⟨py, _, rfl, .inl ⟨SqL.of upd_same, fun v hv => ?_⟩⟩
        have s8 := s7.trans (same_upd (o := .tup (refT xs)) hv)
        have s06 := s1.trans s6
        refine q v xs _ ((s06.trans s7).free hv) (s06.trans s8) upd_same (fun z hz => s8 _ _ (tus z (pxs.mem_iff.mp hz))) ⟨?_, ?_, fun k hk => ?_, fun x hx => ?_⟩
        · have asc2 := List.pairwise_map.mp asc2
          refine List.pairwise_map.mpr (asc2.imp_of_mem fun {a b} ha hb h => ?_)
          rw [tz a (pxs.mem_iff.mp ha), tz b (pxs.mem_iff.mp hb)] at h
          exact h
        · exact (pxs.map (·.2)).nodup_iff.mpr kn.ndz
        · obtain ⟨z, hz, rfl⟩ := List.mem_map.mp hk
          exact kn.each z (pxs.mem_iff.mp hz)
        · obtain ⟨z, hz, h⟩ := kn.all x (allT x hx)
          exact ⟨z.2, List.mem_map_of_mem (f := (·.2)) (pxs.mem_iff.mpr hz), h⟩
end
end WK
set_option Elab.async false
set_option linter.all false
set_option maxRecDepth 100000
set_option maxHeartbeats 4000000
namespace RZ
open PySem
open PySem.Sem (wp)
section
variable {prog : Program} {w : World} {A : Around} {E : Value → Shared → Prop} {s : Shared}
/-- a zip of two tuples that holds the pair that it gave before, asked once more: the next pair while the first tuple has an item, its end after that -/
theorem held_asked {z TI TO T i1 i2 l1 l2 : Addr} {f : Bool} {old : Obj} {m n : Nat} {us vs : Array Value} {Q : Fin → Shared → Prop} (D : ZipApart z TI TO i1 i2 l1 l2)
    (isZ : IsZipHeld s.heap z TI TO T f) (oldAt : s.heap.get? T = some old) (its : IsPair s.heap TI (.ref i1) (.ref i2)) (w1 : s.heap.IsTupleIter i1 l1 m) (w2 : s.heap.IsTupleIter i2 l2 n)
    (t1 : s.heap.IsTuple l1 us) (t2 : s.heap.IsTuple l2 vs) (both : ∀ u, us[m]? = some u → ∃ v, vs[n]? = some v)
    (pair : ∀ u v, us[m]? = some u → vs[n]? = some v → ∀ g, IsZipHeld g z TI TO T true → g.IsTupleIter i1 l1 (m + 1) → g.IsTupleIter i2 l2 (n + 1) → IsPair g s.heap.objs.size u v → g.objs.size = s.heap.objs.size + 1 →
      (∀ b q, b ≠ z → b ≠ i1 → b ≠ i2 → s.heap.get? b = some q → g.get? b = some q) → Q (.done (.ret (.ref s.heap.objs.size))) { s with heap := g })
    (over : us[m]? = none → A.handled = none ∧ ∀ g err, (∀ b q, b ≠ z → b ≠ i1 → b ≠ i2 → s.heap.get? b = some q → g.get? b = some q) → (∃ q, g.get? err = some q ∧ q.cls = .type "StopIteration") → E (.ref err) { s with heap := g }) :
    wpAny (model prog w) A (Builtin.«zip.__next__» ⟨[.ref z], []⟩) Q E s := by
  refine wpAny_bind (m := field (.ref z) 2) (wpAny_field isZ rfl (x := .bool false) rfl ?_)
  refine wpAny_bind (m := field (.ref z) 3) (wpAny_field isZ rfl (x := .ref TI) rfl (wpAny_bind (wpAny_seqItems its rfl ?_)))
  refine wpAny_bind (m := Builtin.SmallTypes.ownedTupleIsFree (.ref z)) (wpAny_tupleHeld_zip isZ oldAt fun g1 z1 same1 => ?_)
  simp only [← Array.forIn_toList, List.forIn_cons, List.forIn_nil, Bool.false_eq_true, if_false]
  have v1 := w1.extBut same1.extBut D.i1z
  have y1 := t1.extBut same1.extBut D.l1z
  refine wpAny_bind (wpAny_bind (wpAny_bind (wpAny_holding (wpAny_bind (m := Builtin.SmallTypes.nextOf (.ref i1)) ?_))))
  cases look : us[m]? with
  | none =>
    obtain ⟨calm, over⟩ := over look
    exact nextOf_tuple_end (s := { s with heap := g1 }) calm v1 y1 look fun g err keep isStop => over g err (fun b q bz b1 _ at_b => keep _ _ b1 (same1.extBut _ _ bz at_b)) isStop
  | some u =>
    obtain ⟨v, look2⟩ := both u look
    refine nextOf_tuple_item (s := { s with heap := g1 }) v1 y1 look fun g2 v1' same2 => wpAny_pure (wpAny_pure ?_)
    refine wpAny_bind (wpAny_bind (wpAny_holding (wpAny_bind (m := Builtin.SmallTypes.nextOf (.ref i2)) ?_)))
    refine nextOf_tuple_item (s := { s with heap := g2 }) ((w2.extBut same1.extBut D.i2z).extBut same2.extBut D.i12.symm) ((t2.extBut same1.extBut D.l2z).extBut same2.extBut D.l2i1) look2 fun g3 v2' same3 => ?_
    refine wpAny_pure (wpAny_pure (wpAny_pure (wpAny_bind (m := newTuple [u, v]) (wpAny_newTuple ?_))))
    have size3 : g3.objs.size = s.heap.objs.size := same3.1.trans (same2.1.trans same1.1)
    refine wpAny_pure ?_
    show Q (.done (.ret (.ref g3.objs.size))) _
    have made : IsPair (g3.push { cls := .type "tuple", data := .seq #[u, v] }) g3.objs.size u v := Heap.get?_push_size _ rfl
    have grown : (g3.push { cls := .type "tuple", data := .seq #[u, v] }).objs.size = g3.objs.size + 1 := Heap.size_push ..
    rw [size3] at made grown ⊢
    refine pair u v look look2 _ (Heap.get?_push_of_some _ (same3.extBut _ _ D.i2z.symm (same2.extBut _ _ D.i1z.symm z1))) ((v1'.extBut same3.extBut D.i12).at fun o at_b => Heap.get?_push_of_some _ at_b)
      (v2'.at fun o at_b => Heap.get?_push_of_some _ at_b) made grown fun b q bz b1 b2 at_b => ?_
    exact Heap.get?_push_of_some _ (same3.extBut _ _ b2 (same2.extBut _ _ b1 (same1.extBut _ _ bz at_b)))
/-- where zip stands, i pairs out -/
def ZS (h : Heap) (z TI TO i1 i2 l1 l2 : Addr) (i : Nat) : Prop := IsPair h TI (.ref i1) (.ref i2) ∧ h.IsTupleIter i1 l1 i ∧ h.IsTupleIter i2 l2 i ∧
  ((IsZip h z TI TO .none ∧ ∃ a b, IsPair h TO a b) ∨ ∃ T f oT, IsZipHeld h z TI TO T f ∧ h.get? T = some oT)
theorem ZS.typeIs {z TI TO i1 i2 l1 l2 : Addr} {i : Nat} (h : ZS s.heap z TI TO i1 i2 l1 l2 i) : s.TypeIs (.ref z) "zip" := by
  obtain ⟨_, _, _, ⟨h, _⟩ | ⟨T, f, oT, h, _⟩⟩ := h
  · exact ⟨_, h, rfl⟩
  · exact ⟨_, h, rfl⟩
theorem ZS.keep {h h' : Heap} {z TI TO i1 i2 l1 l2 S : Addr} {i : Nat} (x : ZS h z TI TO i1 i2 l1 l2 i) (hS : ∃ acc c, h.get? S = some { cls := .type "list", dict := none, data := .seq acc c, slots := #[] })
    (k : ∀ b o, b ≠ S → h.get? b = some o → h'.get? b = some o) (kS : ∃ o, h'.get? S = some o) : ZS h' z TI TO i1 i2 l1 l2 i := by
  obtain ⟨acc, c, hS⟩ := hS
  obtain ⟨h1, ⟨o2, h2, c2, r2⟩, ⟨o3, h3, c3, r3⟩, h4⟩ := x
  have ne : ∀ b o, h.get? b = some o → o.cls ≠ .type "list" → b ≠ S := fun b o e q z => by
    rw [z, hS] at e
    cases e
    exact q rfl
  refine ⟨k _ _ (ne _ _ h1 (fun z => by simp at z)) h1, ⟨o2, k _ _ (ne _ _ h2 (by rw [c2]; simp)) h2, c2, r2⟩, ⟨o3, k _ _ (ne _ _ h3 (by rw [c3]; simp)) h3, c3, r3⟩, ?_⟩
  rcases h4 with ⟨h4, a, b, h5⟩ | ⟨T, f, oT, h4, h5⟩
  · exact .inl ⟨k _ _ (ne _ _ h4 (fun z => by simp at z)) h4, a, b, k _ _ (ne _ _ h5 (fun z => by simp at z)) h5⟩
  · by_cases hT : T = S
    · obtain ⟨o, kS⟩ := kS
      exact .inr ⟨T, f, o, k _ _ (ne _ _ h4 (fun z => by simp at z)) h4, by rw [hT]; exact kS⟩
    · exact .inr ⟨T, f, oT, k _ _ (ne _ _ h4 (fun z => by simp at z)) h4, k _ _ hT h5⟩
theorem zip_no_len : typeLookup (.type "zip") "__len__" = pure none := am_miss_of_fast (by decide +kernel)
theorem zip_no_hint : typeLookup (.type "zip") "__length_hint__" = pure none := am_miss_of_fast (by decide +kernel)
end
end RZ
set_option Elab.async false
set_option linter.all false
set_option maxRecDepth 100000
set_option maxHeartbeats 8000000
namespace ZPT
open PySem PySem.Spec PyProof.Rows L2
/-- each sign with the tuple's item, in a new pair -/
def ZiST (K : PySem.W.Frag) (x : Str) (a : Addr) (ys : List V) : It :=
  ⟨fun i H => SqT K H a ys ∧ i < x.cps.size ∧ i < ys.length, fun i H v H' => ∃ T c y, v = .ref T ∧ H T = none ∧ H' = upd H T (.tup [.str ⟨#[c]⟩, y]) ∧ x.cps[i]? = some c ∧ ys[i]? = some y, fun i H => SqT K H a ys ∧ i = x.cps.size ∧ i ≤ ys.length⟩
theorem tup_is {h : Heap} {a : Addr} {its : Array Value} (p : IsTup h a its) : h.IsTuple a its := let ⟨o, e, c, n, d⟩ := p; ⟨o, e, c, n, d⟩
/-- where it stands, i pairs out -/
def At (x : Str) (t : Tok) (a z TI TO i1 i2 : Addr) (i : Nat) (h : Heap) : Prop :=
  IsZip h z TI TO .none ∧ IsTupOf2 h TI (.ref i1) (.ref i2) ∧ (∃ p q, IsTupOf2 h TO p q) ∧ h.IsStrIter i1 (strIterType x) x t i ∧ h.IsTupleIter i2 a i
theorem turn_st {P : Program} {w : World} {K : PySem.W.Frag} {elts : List Expr} {kk : Nat} {tpos : Pos} (x : Str) (t : Tok) (a : Addr) (ys : List V) {z TI TO i1 i2 : Addr} (S : ZipSep2 z TI TO i1 i2 [i1] [i2, a]) (hai : a ≠ i2) :
    Turn P w K (.Tuple elts kk tpos) (ZiST K x a ys) [z, TI, TO, i1, i2] z (At x t a z TI TO i1 i2) where
  mem := .head _
  obj := fun i h ⟨hz, h1, ⟨p, q, h2⟩, ⟨o3, h3, _, d3⟩, ⟨o4, h4, _, d4⟩⟩ b hb => by
    simp only [List.mem_cons, List.not_mem_nil, or_false] at hb
    rcases hb with rfl | rfl | rfl | rfl | rfl
    · exact ⟨_, hz, fun v q => nomatch q⟩
    · exact ⟨_, h1, fun v q => nomatch q⟩
    · exact ⟨_, h2, fun v q => nomatch q⟩
    · exact ⟨o3, h3, fun v q => nomatch d3.symm.trans q⟩
    · exact ⟨o4, h4, fun v q => nomatch d4.symm.trans q⟩
  keep := fun i h h' ⟨hz, h1, ⟨p, q, h2⟩, ⟨o3, e3, r3⟩, h4⟩ k => ⟨k z (by simp) _ hz, k TI (by simp) _ h1, ⟨p, q, k TO (by simp) _ h2⟩, ⟨o3, k i1 (by simp) _ e3, r3⟩, h4.at fun o e => k i2 (by simp) o e⟩
  item := by
    intro X hP hw hK hc i pins s σ H E I hf ⟨hz, h1, ⟨p, q, h2⟩, h3, h4⟩ ⟨hT, hi1, hi2⟩
    subst hP hw hK
    obtain ⟨its, rv, pt, _⟩ := I.tuple hT
    have hl : its.toArray.size = ys.length := by rw [List.size_toArray, rv.length]
    have D1 := Draws.text (prog := X.prog) (w := X.w) (A := X.A.in1) (I.ok.hd hc) i1 x t
    have D2 := Draws.tuple (prog := X.prog) (w := X.w) (A := X.A.in1) (I.ok.hd hc) i2 a hai its.toArray
    have zlt : z < s.heap.objs.size := Heap.lt_size hz
    have old : ∀ b ∈ [z, TI, TO, i1, i2], b < s.heap.objs.size := fun b hb => by
      simp only [List.mem_cons, List.not_mem_nil, or_false] at hb
      rcases hb with rfl | rfl | rfl | rfl | rfl
      · exact zlt
      · exact Heap.lt_size h1
      · exact Heap.lt_size h2
      · obtain ⟨o, e, _⟩ := h3
        exact Heap.lt_size e
      · obtain ⟨o, e, _⟩ := h4
        exact Heap.lt_size e
    refine wpAny_pyNext_zipD2_item S D1 D2 hz h1 h2 h3 ⟨h4, tup_is pt⟩ hi1 (by rw [hl]; exact hi2) fun u v h' tk hu hv z1 TO1 n1 n2 made size kp => ?_
    obtain ⟨c, tc, hc', rfl⟩ := hu
    obtain ⟨y, hy⟩ : ∃ y, ys[i]? = some y := ⟨_, List.getElem?_eq_getElem hi2⟩
    obtain ⟨v2, e2, ry⟩ := rv.get hy
    have ev : v2 = v := Option.some.inj (e2.symm.trans (by rw [← List.getElem?_toArray]; exact hv))
    subst ev
    refine ⟨_, rfl, wpAny_letOwnedTupleGo_zip (s := { s with heap := h', toks := tk }) z1 fun h'' z2 sb => ?_⟩
    have free : H s.heap.objs.size = none := I.hok.fresh (Nat.le_refl _)
    have pair : h''.get? s.heap.objs.size = some { cls := .type "tuple", data := .seq #[.str ⟨#[c]⟩ tc, v2] } := (sb.2 _ (Nat.ne_of_gt zlt)).trans made
    have new : ObjOk X.prog X.w (upd H s.heap.objs.size (.tup [.str ⟨#[c]⟩, y])) h'' s.heap.objs.size (.tup [.str ⟨#[c]⟩, y]) := ⟨by show 2 ≤ sizeLine; decide, [.str ⟨#[c]⟩ tc, v2], .cons ⟨tc, rfl⟩ (.cons ry .nil), _, pair, rfl, _, rfl⟩
    have stay : ∀ b o, b ∉ [z, TI, TO, i1, i2] → s.heap.get? b = some o → h''.get? b = some o := fun b o hb e => (sb.2 b fun w => hb (by simp [w])).trans (kp b o (fun w => hb (by simp [w])) (fun w => hb (by simp [w])) (fun w => hb (by simp [w])) (fun w => hb (by simp [w])) e)
    refine ⟨.ref s.heap.objs.size, _, I.turnedNew (ch := [z, TI, TO, i1, i2]) stay hf (Nat.le_refl _) new, rfl, ⟨_, c, y, rfl, free, rfl, hc', hy⟩, ⟨z2, ?_, ⟨_, _, (sb.2 _ S.TOz).trans TO1⟩, ?_, ?_⟩, fun b hb => ?_⟩
    · exact (sb.2 _ S.TIz).trans (kp _ _ S.TIz S.TITO S.TIi1 S.TIi2 h1)
    · obtain ⟨o, e, r⟩ := n1
      exact ⟨o, (sb.2 _ S.zi1.symm).trans e, r⟩
    · exact n2.1.at fun o e => (sb.2 _ S.zi2.symm).trans e
    · rw [upd_ne (Nat.ne_of_lt (old b hb))]
      exact (hf b hb).1
  done := by
    intro X hP hw hK hc i pins s σ H E I hf ⟨hz, h1, ⟨p, q, h2⟩, h3, h4⟩ ⟨hT, hi1, hi2⟩
    subst hP hw hK
    obtain ⟨its, rv, pt, _⟩ := I.tuple hT
    have hl : its.toArray.size = ys.length := by rw [List.size_toArray, rv.length]
    have D1 := Draws.text (prog := X.prog) (w := X.w) (A := X.A.in1) (I.ok.hd hc) i1 x t
    have D2 := Draws.tuple (prog := X.prog) (w := X.w) (A := X.A.in1) (I.ok.hd hc) i2 a hai its.toArray
    exact wpAny_pyNext_zipD2_end S D1 D2 hz h1 h2 h3 ⟨h4, tup_is pt⟩ (Nat.le_of_eq hi1) (by rw [hl]; exact hi2) (.inl hi1) fun h' tk kp => ⟨rfl, I.turnedL (t' := tk) (ch := [z, TI, TO, i1, i2]) (fun b o hb e =>
      kp b o (fun w => hb (by simp [w])) (fun w => hb (by simp [w])) (fun w => hb (by simp [w])) (fun w => hb (by simp [w])) e) hf⟩
  self := fun _ _ _ _ _ st q => wpAny_pyIter_zip st.1 q
def iZipST (K : PySem.W.Frag) (ta : TA) : TI := fun σ H R => ta σ H fun vs H1 => ∃ x a ys, vs = [.str x, .ref a] ∧ SqT K H1 a ys ∧ R (ZiST K x a ys) H1
theorem pi_zipST {X : Cx} {e e2 : Expr} {ta : TA} {p pos tpos : Pos} {elts : List Expr} {kk : Nat} (hg : Gl X "zip") (hm : X.mg "zip" = none) (ha : PA X [e, e2] ta)
    (hs : starEach [e, e2] X.env = (false, eval e X.env) :: starEach [e2] X.env := by rfl) (hpl : (backTo pos (starEach [e2] X.env)).any (·.1) = false := by rfl) :
    PI X (.Tuple elts kk tpos) (.Call (.Name "zip" p) [e, e2] [] pos) (iZipST X.K ta) := by
  refine ⟨fun pins s σ H R I h => Call_ (ld_blt I hg hm PyProof.Rows.boot_zip (PyProof.Rows.callWith_type1 (thn (ha.run pos pins s σ H _ I h) fun us s1 ⟨vs, H1, I1, r1, x, a, ys, ex, hT, q⟩ => ?_) hs hpl))⟩
  subst ex
  cases r1 with
  | cons r rr =>
   cases rr with
   | cons r' rr =>
    cases rr
    obtain ⟨t, rfl⟩ := r
    cases r'
    obtain ⟨its, rv, pt, _⟩ := I1.tuple hT
    obtain ⟨o, ho, _⟩ := id pt
    have lt := Heap.lt_size ho
    refine zip_begins2 (begins_text x t) (begins_tuple a its.toArray) trivial (tup_is pt) fun h' hz hTI hTO g1 g2 size kp => wpAny_pyIter_zip hz ?_
    have fresh : ∀ b ∈ [s1.heap.objs.size + 4, s1.heap.objs.size + 2, s1.heap.objs.size + 3, s1.heap.objs.size, s1.heap.objs.size + 1], FpOk X pins H1 b := fun b hb => by
      have le : s1.heap.objs.size ≤ b := by
        have hb' : b = s1.heap.objs.size + 4 ∨ b = s1.heap.objs.size + 2 ∨ b = s1.heap.objs.size + 3 ∨ b = s1.heap.objs.size ∨ b = s1.heap.objs.size + 1 := by simpa using hb
        rcases hb' with z | z | z | z | z <;> rw [z] <;> first | exact Nat.le_refl _ | exact Nat.le_add_right _ _
      exact I1.fpOk le (I1.hok.fresh le)
    have S := zip_sep2 (N := s1.heap.objs.size) (fp1 := []) (fp2 := [a]) (fun _ h => (List.not_mem_nil h).elim) fun b hb => by rw [List.mem_singleton.mp hb]; exact lt
    exact ⟨s1.heap.objs.size + 4, [s1.heap.objs.size + 4, s1.heap.objs.size + 2, s1.heap.objs.size + 3, s1.heap.objs.size, s1.heap.objs.size + 1], _, _, H1, rfl, I1.kept (t' := s1.toks) kp, turn_st x t a ys S (Nat.ne_of_lt (Nat.lt_succ_of_lt lt)), ⟨hz, hTI, ⟨_, _, hTO⟩, ⟨_, g1, rfl, rfl⟩, ⟨_, g2, rfl, rfl⟩⟩, fresh, q⟩
theorem walk_st {K : PySem.W.Frag} {x : Str} {a : Addr} {ys : List V} (hl : x.cps.size = ys.length) : Walk (ZiST K x a ys) x.cps.size (fun H => SqT K H a ys) (YPair (fun i => (x.cps[i]?).map fun c => V.str ⟨#[c]⟩) (fun i => ys[i]?)) :=
  ⟨fun i H hi q => ⟨q, hi, by omega⟩, fun H q => ⟨q, rfl, by omega⟩, fun i H v H' _ _ ⟨T, c, y, e1, e2, e3, e4, e5⟩ => ⟨T, _, y, e1, e2, e3, by show Option.map _ (x.cps[i]?) = _; rw [e4] <;> rfl, e5⟩⟩
end ZPT
set_option Elab.async false
set_option linter.all false
set_option maxRecDepth 100000
set_option maxHeartbeats 8000000
namespace ZQT
open PySem PySem.Spec PyProof.Rows L2 RZ
section
variable {prog : Program} {w : World} {A : Around} {E : Value → Shared → Prop} {s : Shared}
/-- where it stands, i pairs out, the first of them l -/
structure At (a b z TI TO i1 i2 : Addr) (i : Nat) (l : Option Addr) (h : Heap) : Prop where
  ti : IsPair h TI (.ref i1) (.ref i2)
  to : ∃ p q, IsPair h TO p q
  it1 : h.IsTupleIter i1 a i
  it2 : h.IsTupleIter i2 b i
  none_ : l = none → IsZip h z TI TO .none
  some_ : ∀ T, l = some T → ∃ f, IsZipHeld h z TI TO T f
theorem At.obj {a b z TI TO i1 i2 : Addr} {i : Nat} {l : Option Addr} {h : Heap} (x : At a b z TI TO i1 i2 i l h) : ∀ c ∈ [z, TI, TO, i1, i2], ∃ o, h.get? c = some o ∧ ∀ v, o.data ≠ .cell v := by
  obtain ⟨h1, ⟨p, q, h2⟩, ⟨o3, e3, _, d3⟩, ⟨o4, e4, _, d4⟩, h5, h6⟩ := x
  intro c hc
  have hc' : c = z ∨ c = TI ∨ c = TO ∨ c = i1 ∨ c = i2 := by simpa using hc
  rcases hc' with y | y | y | y | y
  · rw [y]
    cases l with
    | none => exact ⟨_, h5 rfl, fun v q => nomatch q⟩
    | some T =>
      obtain ⟨f, q⟩ := h6 T rfl
      exact ⟨_, q, fun v q => nomatch q⟩
  · rw [y]
    exact ⟨_, h1, fun v q => nomatch q⟩
  · rw [y]
    exact ⟨_, h2, fun v q => nomatch q⟩
  · rw [y]
    exact ⟨o3, e3, fun v q => nomatch d3.symm.trans q⟩
  · rw [y]
    exact ⟨o4, e4, fun v q => nomatch d4.symm.trans q⟩
theorem At.keep {a b z TI TO i1 i2 : Addr} {i : Nat} {l : Option Addr} {h h' : Heap} (x : At a b z TI TO i1 i2 i l h) (k : ∀ c ∈ [z, TI, TO, i1, i2], ∀ o, h.get? c = some o → h'.get? c = some o) : At a b z TI TO i1 i2 i l h' :=
  ⟨k TI (by simp) _ x.ti, let ⟨p, q, e⟩ := x.to; ⟨p, q, k TO (by simp) _ e⟩, x.it1.at fun o e => k i1 (by simp) o e, x.it2.at fun o e => k i2 (by simp) o e, fun e => k z (by simp) _ (x.none_ e), fun T e => let ⟨f, q⟩ := x.some_ T e; ⟨f, k z (by simp) _ q⟩⟩
theorem At.typeIs {a b z TI TO i1 i2 : Addr} {i : Nat} {l : Option Addr} (x : At a b z TI TO i1 i2 i l s.heap) : s.TypeIs (.ref z) "zip" := by
  cases l with
  | none => exact ⟨_, x.none_ rfl, rfl⟩
  | some T =>
    obtain ⟨f, q⟩ := x.some_ T rfl
    exact ⟨_, q, rfl⟩
theorem item {a b z TI TO i1 i2 : Addr} {i : Nat} {l : Option Addr} {xs ys : Array Value} {x y : Value} {Q : Option Value → Shared → Prop} (D : ZipApart z TI TO i1 i2 a b) (st : At a b z TI TO i1 i2 i l s.heap) (old : ∀ T, l = some T → ∃ o, s.heap.get? T = some o ∧ T ∉ [z, TI, TO, i1, i2])
    (ha : s.heap.IsTuple a xs) (hb : s.heap.IsTuple b ys) (hx : xs[i]? = some x) (hy : ys[i]? = some y)
    (hQ : ∀ g, At a b z TI TO i1 i2 (i + 1) (some (l.getD s.heap.objs.size)) g → IsPair g s.heap.objs.size x y → (∀ c o, c ≠ z → c ≠ TO → c ≠ i1 → c ≠ i2 → s.heap.get? c = some o → g.get? c = some o) → Q (some (.ref s.heap.objs.size)) { s with heap := g }) :
    wpAny (model prog w) A (pyNext (.ref z)) Q E s := by
  have isTy := st.typeIs
  obtain ⟨h1, ⟨p, q, h2⟩, h3, h4, h5, h6⟩ := st
  cases l with
  | none =>
    refine pyNext_zipT_item D (h5 rfl) h1 h2 h3 h4 ha hb hx hy fun g z' TO' w1 w2 made _ keep => hQ g ⟨keep _ _ D.TIz D.TITO D.TIi1 D.TIi2 h1, ⟨_, _, TO'⟩, w1, w2, (fun e => nomatch e), fun T e => ?_⟩ made keep
    cases e
    exact ⟨false, z'⟩
  | some T =>
    obtain ⟨f, held⟩ := h6 T rfl
    obtain ⟨oT, atT, nT⟩ := old T rfl
    unfold pyNext
    refine wpAny_bind (wpAny_attempt (wpAny_callSpecial?_slot (name := Str.ofString "__next__") isTy F.slot_zip_next (wpAny_call_entry F.slot_zip_next isTy F.entry_zip_next ?_ (F.args_zip_next_1 _))))
    refine held_asked D held atT h1 h3 h4 ha hb (fun _ _ => ⟨y, hy⟩) (fun u v hu hv g z' w1 w2 made _ keep => ?_) (fun no => nomatch hx.symm.trans no)
    cases hx.symm.trans hu
    cases hy.symm.trans hv
    refine ⟨_, rfl, wpAny_pure (hQ g ⟨keep _ _ D.TIz D.TIi1 D.TIi2 h1, ⟨p, q, keep _ _ D.TOz D.TOi1 D.TOi2 h2⟩, w1, w2, (fun e => nomatch e), fun T' e => ?_⟩ made fun c o cz _ c1 c2 e => keep c o cz c1 c2 e)⟩
    cases e
    exact ⟨true, z'⟩
theorem over {a b z TI TO i1 i2 : Addr} {i : Nat} {l : Option Addr} {xs ys : Array Value} {Q : Option Value → Shared → Prop} (hh : A.handled = none) (D : ZipApart z TI TO i1 i2 a b) (st : At a b z TI TO i1 i2 i l s.heap) (old : ∀ T, l = some T → ∃ o, s.heap.get? T = some o)
    (ha : s.heap.IsTuple a xs) (hb : s.heap.IsTuple b ys) (hx : xs[i]? = none) (hQ : ∀ g, (∀ c o, c ≠ z → c ≠ TO → c ≠ i1 → c ≠ i2 → s.heap.get? c = some o → g.get? c = some o) → Q none { s with heap := g }) : wpAny (model prog w) A (pyNext (.ref z)) Q E s := by
  have isTy := st.typeIs
  obtain ⟨h1, ⟨p, q, h2⟩, h3, h4, h5, h6⟩ := st
  cases l with
  | none => exact pyNext_zipT_end hh D (h5 rfl) h1 h2 h3 h4 ha hb (.inl hx) hQ
  | some T =>
    obtain ⟨f, held⟩ := h6 T rfl
    obtain ⟨oT, atT⟩ := old T rfl
    unfold pyNext
    refine wpAny_bind (wpAny_attempt (wpAny_callSpecial?_slot (name := Str.ofString "__next__") isTy F.slot_zip_next (wpAny_call_entry F.slot_zip_next isTy F.entry_zip_next ?_ (F.args_zip_next_1 _))))
    refine held_asked D held atT h1 h3 h4 ha hb (fun u hu => nomatch hx.symm.trans hu) (fun u v hu => nomatch hx.symm.trans hu) fun _ => ⟨hh, fun g err keep isStop => ?_⟩
    obtain ⟨o, at_o, cls_o⟩ := isStop
    exact wpAny_bind (wpAny_isInstance (T := "StopIteration") (b := true) ⟨o, at_o, cls_o⟩ isSubtype_stop (wpAny_pure (hQ g fun c o cz _ c1 c2 e => keep c o cz c1 c2 e)))
end
end ZQT
set_option Elab.async false
set_option linter.all false
set_option maxRecDepth 100000
set_option maxHeartbeats 8000000
namespace WK
open PySem L2 PyProof.Rows LCX K1 FV DP
open TX (sg sigs)
open PySem.W (Frag kitOne)
end WK
set_option Elab.async false
set_option linter.all false
set_option maxRecDepth 100000
set_option maxHeartbeats 4000000
namespace WK
open PySem PySem.Spec L2 PyProof.Rows K1
section
variable {α : Type} [DecidableEq α] {f : α → Nat → α} {L : W} {start : α}
theorem exAll_cases (j : Nat) : (∃ key, (exAll f L start j).1[j]? = some key ∧ exAll f L start (j + 1) = ((L.foldl (exSign f key) ((exAll f L start j).1, [])).1, (exAll f L start j).2 ++ [(L.foldl (exSign f key) ((exAll f L start j).1, [])).2])) ∨
    ((exAll f L start j).1.length ≤ j ∧ exAll f L start (j + 1) = exAll f L start j) := by
  cases e : (exAll f L start j).1[j]? with
  | some key => exact .inl ⟨key, rfl, exAll_at e⟩
  | none =>
    have h := List.getElem?_eq_none_iff.mp e
    exact .inr ⟨h, exAll_stop h 1⟩
theorem exAll_grow (j : Nat) : (exAll f L start j).1 <+: (exAll f L start (j + 1)).1 ∧ (exAll f L start j).2 <+: (exAll f L start (j + 1)).2 := by
  rcases exAll_cases (f := f) (L := L) (start := start) j with ⟨key, _, e⟩ | ⟨_, e⟩
  · rw [e]
    exact ⟨exFold_grows f key L ((exAll f L start j).1, []), List.prefix_append _ _⟩
  · rw [e]
    exact ⟨List.prefix_refl _, List.prefix_refl _⟩
theorem exAll_pre (j : Nat) : ∀ m, (exAll f L start j).1 <+: (exAll f L start (j + m)).1 ∧ (exAll f L start j).2 <+: (exAll f L start (j + m)).2
  | 0 => ⟨List.prefix_refl _, List.prefix_refl _⟩
  | m + 1 => ⟨(exAll_pre j m).1.trans (exAll_grow (j + m)).1, (exAll_pre j m).2.trans (exAll_grow (j + m)).2⟩
theorem exAll_most {N : Nat} (h : (exAll f L start N).1.length ≤ N) (j : Nat) : (exAll f L start j).1.length ≤ N := by
  rcases Nat.le_total j N with a | a
  · have := (exAll_pre (f := f) (L := L) (start := start) j (N - j)).1.length_le
    rw [show j + (N - j) = N by omega] at this
    exact Nat.le_trans this h
  · have := exAll_stop h (j - N)
    rw [show N + (j - N) = j by omega] at this
    rw [this]
    exact h
theorem exAll_rows : ∀ j, (exAll f L start j).2.length = min j (exAll f L start j).1.length
  | 0 => by
    show 0 = min 0 1
    rfl
  | j + 1 => by
    have ih := exAll_rows j
    rcases exAll_cases (f := f) (L := L) (start := start) j with ⟨key, hk, e⟩ | ⟨h, e⟩
    · have hj := (List.getElem?_eq_some_iff.mp hk).1
      have hg := (exAll_grow (f := f) (L := L) (start := start) j).1.length_le
      have h2 : (exAll f L start (j + 1)).2.length = (exAll f L start j).2.length + 1 := by rw [e, List.length_append] <;> rfl
      rw [h2, ih]
      omega
    · rw [e, ih]
      omega
theorem idx_pre {a : α} {l m : List α} (h : a ∈ l) (p : l <+: m) : m.idxOf a = l.idxOf a := by
  obtain ⟨t, rfl⟩ := p
  rw [List.idxOf_append, if_pos h]
theorem fold_row (key : α) : ∀ (l : W) (st : List α × List Int), (l.foldl (exSign f key) st).2 = st.2 ++ l.map (fun c => (((l.foldl (exSign f key) st).1.idxOf (f key c) : Nat) : Int)) ∧ ∀ c ∈ l, f key c ∈ (l.foldl (exSign f key) st).1
  | [], st => ⟨(List.append_nil _).symm, fun c hc => (List.not_mem_nil hc).elim⟩
  | c :: l, st => by
    have one : f key c ∈ (exSign f key st c).1 ∧ (exSign f key st c).2 = st.2 ++ [(((exSign f key st c).1.idxOf (f key c) : Nat) : Int)] := by
      unfold exSign
      by_cases h : f key c ∈ st.1
      · rw [if_pos h]
        exact ⟨h, rfl⟩
      · rw [if_neg h]
        refine ⟨List.mem_append_right _ (List.mem_singleton.mpr rfl), ?_⟩
        show _ = st.2 ++ [(((st.1 ++ [f key c]).idxOf (f key c) : Nat) : Int)]
        rw [idx_end h]
    obtain ⟨ih1, ih2⟩ := fold_row key l (exSign f key st c)
    have pre := exFold_grows f key l (exSign f key st c)
    rw [List.foldl_cons]
    refine ⟨?_, fun d hd => ?_⟩
    · rw [ih1, one.2, List.append_assoc, List.map_cons, idx_pre one.1 pre] <;> rfl
    · rcases List.mem_cons.mp hd with rfl | z
      · exact pre.subset one.1
      · exact ih2 d z
/-- each row tells where the letters lead -/
theorem exAll_row : ∀ (j i : Nat) (r : List Int), (exAll f L start j).2[i]? = some r → ∃ key, (exAll f L start j).1[i]? = some key ∧ r = L.map (fun c => (((exAll f L start j).1.idxOf (f key c) : Nat) : Int)) ∧ ∀ c ∈ L, f key c ∈ (exAll f L start j).1
  | 0, i, r, h => by
    have : (exAll f L start 0).2 = [] := rfl
    rw [this] at h
    cases h
  | j + 1, i, r, h => by
    rcases exAll_cases (f := f) (L := L) (start := start) j with ⟨key, hk, e⟩ | ⟨_, e⟩
    · have pre := (exAll_grow (f := f) (L := L) (start := start) j).1
      have hj := (List.getElem?_eq_some_iff.mp hk).1
      have hl := exAll_rows (f := f) (L := L) (start := start) j
      rw [e] at h pre ⊢
      by_cases hi : i < (exAll f L start j).2.length
      · rw [List.getElem?_append_left hi] at h
        obtain ⟨k, k1, k2, k3⟩ := exAll_row j i r h
        refine ⟨k, ?_, ?_, fun c hc => pre.subset (k3 c hc)⟩
        · obtain ⟨t, ht⟩ := pre
          show (L.foldl (exSign f key) ((exAll f L start j).1, [])).1[i]? = _
          rw [← ht, List.getElem?_append_left (List.getElem?_eq_some_iff.mp k1).1]
          exact k1
        · rw [k2]
          refine List.map_congr_left fun c hc => ?_
          rw [idx_pre (k3 c hc) pre]
      · have hi2 : i = j := by
          have := (List.getElem?_eq_some_iff.mp h).1
          rw [List.length_append] at this
          have : i < (exAll f L start j).2.length + 1 := this
          omega
        rw [List.getElem?_append_right (by omega), hi2, hl, show j - min j (exAll f L start j).1.length = 0 by omega] at h
        obtain rfl := Option.some.inj h
        obtain ⟨f1, f2⟩ := fold_row (f := f) key L ((exAll f L start j).1, [])
        refine ⟨key, ?_, by rw [f1, List.nil_append], f2⟩
        obtain ⟨t, ht⟩ := pre
        show (L.foldl (exSign f key) ((exAll f L start j).1, [])).1[i]? = _
        rw [← ht, hi2, List.getElem?_append_left hj]
        exact hk
    · rw [e] at h ⊢
      exact exAll_row j i r h
/-- all is explored in N steps -/
structure Done (f : α → Nat → α) (L : W) (start : α) (N : Nat) : Prop where
  len : (exAll f L start N).1.length = N
  pos : 1 ≤ N
theorem Done.tab {N : Nat} (d : Done f L start N) : TabOk (exAll f L start N).2 L.length (N : Int) := by
  have hl := exAll_rows (f := f) (L := L) (start := start) N
  rw [d.len, Nat.min_self] at hl
  refine ⟨by rw [hl], fun r hr => ?_⟩
  obtain ⟨i, hi⟩ := List.mem_iff_getElem?.mp hr
  obtain ⟨key, _, h2, h3⟩ := exAll_row N i r hi
  refine ⟨by rw [h2, List.length_map], fun x hx => ?_⟩
  rw [h2] at hx
  obtain ⟨c, hc, rfl⟩ := List.mem_map.mp hx
  have := List.idxOf_lt_length_of_mem (h3 c hc)
  rw [d.len] at this
  omega
theorem Done.led {N : Nat} (d : Done f L start N) : ∀ (u : W) (key : α), key ∈ (exAll f L start N).1 → (∀ c ∈ u, c ∈ L) → u.foldl f key ∈ (exAll f L start N).1 ∧ ledL L (exAll f L start N).2 u (((exAll f L start N).1.idxOf key : Nat) : Int) = (((exAll f L start N).1.idxOf (u.foldl f key) : Nat) : Int)
  | [], key, hk, _ => ⟨hk, rfl⟩
  | c :: u, key, hk, hu => by
    have hl := exAll_rows (f := f) (L := L) (start := start) N
    rw [d.len, Nat.min_self] at hl
    have hi := List.idxOf_lt_length_of_mem hk
    have hi2 : (exAll f L start N).1.idxOf key < (exAll f L start N).2.length := Nat.lt_of_lt_of_eq hi (d.len.trans hl.symm)
    obtain ⟨key2, k1, k2, k3⟩ := exAll_row N _ _ (List.getElem?_eq_getElem hi2)
    have ek : key2 = key := by
      rw [List.getElem?_eq_getElem hi] at k1
      rw [← Option.some.inj k1]
      exact List.getElem_idxOf hi
    subst ek
    have hc := hu c (.head _)
    obtain ⟨a, b⟩ := Done.led d u (f key2 c) (k3 c hc) fun x hx => hu x (.tail _ hx)
    refine ⟨a, ?_⟩
    rw [List.foldl_cons, ← b]
    show ledL L _ u (stepL L _ _ c) = _
    congr 1
    unfold stepL
    have e1 : (exAll f L start N).2.getD (((exAll f L start N).1.idxOf key2 : Nat) : Int).toNat [] = (exAll f L start N).2[(exAll f L start N).1.idxOf key2] := by
      rw [Int.toNat_natCast, List.getD_eq_getElem?_getD, List.getElem?_eq_getElem hi2] <;> rfl
    rw [e1, k2, List.getD_eq_getElem?_getD, List.getElem?_map, List.getElem?_eq_getElem (List.idxOf_lt_length_of_mem hc)]
    show (((exAll f L start N).1.idxOf (f key2 (L[L.idxOf c]'(List.idxOf_lt_length_of_mem hc))) : Nat) : Int) = _
    rw [List.getElem_idxOf (List.idxOf_lt_length_of_mem hc)]
theorem Done.zero {N : Nat} (d : Done f L start N) : start ∈ (exAll f L start N).1 ∧ (exAll f L start N).1.idxOf start = 0 := by
  have pre := (exAll_pre (f := f) (L := L) (start := start) 0 N).1
  rw [Nat.zero_add] at pre
  obtain ⟨t, ht⟩ := pre
  have : (exAll f L start N).1 = start :: t := by rw [← ht] <;> rfl
  rw [this]
  exact ⟨List.mem_cons_self, List.idxOf_cons_self⟩
/-- two words lead to one place just if they make one key -/
theorem Done.same {N : Nat} (d : Done f L start N) {u v : W} (hu : ∀ c ∈ u, c ∈ L) (hv : ∀ c ∈ v, c ∈ L) : ledL L (exAll f L start N).2 u 0 = ledL L (exAll f L start N).2 v 0 ↔ u.foldl f start = v.foldl f start := by
  obtain ⟨z1, z2⟩ := d.zero
  obtain ⟨a1, a2⟩ := d.led u start z1 hu
  obtain ⟨b1, b2⟩ := d.led v start z1 hv
  rw [z2] at a2 b2
  have a2' : ledL L (exAll f L start N).2 u 0 = _ := a2
  have b2' : ledL L (exAll f L start N).2 v 0 = _ := b2
  rw [a2', b2']
  constructor
  · intro e
    have h1 := List.idxOf_lt_length_of_mem a1
    have h2 := List.idxOf_lt_length_of_mem b1
    have e : (exAll f L start N).1.idxOf (u.foldl f start) = (exAll f L start N).1.idxOf (v.foldl f start) := by omega
    rw [← List.getElem_idxOf h1, ← List.getElem_idxOf h2]
    congr 1
  · intro e
    rw [e]
theorem Done.most {N : Nat} (d : Done f L start N) (hN : N ≤ 400) : (∀ j, (exAll f L start j).1.length ≤ 400) ∧ exAll f L start 400 = exAll f L start N := by
  refine ⟨fun j => Nat.le_trans (exAll_most (Nat.le_of_eq d.len) j) hN, ?_⟩
  have := exAll_stop (Nat.le_of_eq d.len) (400 - N)
  rw [show N + (400 - N) = 400 by omega] at this
  exact this
end
end WK
set_option Elab.async false
set_option linter.all false
set_option maxRecDepth 100000
set_option maxHeartbeats 4000000
namespace WK
open PySem L2 PyProof.Rows K1
/-- the step of a table -/
def rowF (U : List (List Int)) (k : Int) (c : Nat) : Int := (U.getD k.toNat []).getD c 0
theorem rowF_in {U : List (List Int)} {wd : Nat} {n : Int} (ok : TabOk U wd n) {k : Int} (hk : 0 ≤ k ∧ k < n) {c : Nat} (hc : c < wd) : 0 ≤ rowF U k c ∧ rowF U k c < n := by
  have hl := ok.len
  have hi : k.toNat < U.length := by omega
  obtain ⟨w, b⟩ := ok.row _ (List.getElem_mem hi)
  unfold rowF
  rw [show U.getD k.toNat [] = U[k.toNat] by rw [List.getD_eq_getElem?_getD, List.getElem?_eq_getElem hi] <;> rfl]
  rw [show U[k.toNat].getD c 0 = U[k.toNat][c]'(by omega) by rw [List.getD_eq_getElem?_getD, List.getElem?_eq_getElem (by omega)] <;> rfl]
  exact b _ (List.getElem_mem _)
end WK
set_option Elab.async false
set_option linter.all false
set_option maxRecDepth 100000
set_option maxHeartbeats 4000000
namespace RX
open PySem L2 PyProof.Rows K1 WK RD KN
theorem fm_congr {α β : Type} {f g : α → Option β} : ∀ {l : List α}, (∀ a ∈ l, f a = g a) → l.filterMap f = l.filterMap g
  | [], _ => rfl
  | a :: l, h => by rw [List.filterMap_cons, List.filterMap_cons, h a (.head _), fm_congr fun b hb => h b (.tail _ hb)]
theorem fl_congr {α β : Type} {f g : α → List β} : ∀ {l : List α}, (∀ a ∈ l, f a = g a) → l.flatMap f = l.flatMap g
  | [], _ => rfl
  | a :: l, h => by rw [List.flatMap_cons, List.flatMap_cons, h a (.head _), fl_congr fun b hb => h b (.tail _ hb)]
def cntI (L u : W) : List Int := L.map fun c => ((u.count c : Nat) : Int)
def unitV (k i : Nat) : List Int := (List.range k).map fun j => if j = i then 1 else 0
def plusV (u v : List Int) : List Int := List.zipWith (· + ·) u v
theorem cnt_len (L u : W) : (cntI L u).length = L.length := List.length_map _
theorem cnt_add {L : W} (nd : L.Nodup) (u : W) {i : Nat} (hi : i < L.length) : plusV (cntI L u) (unitV L.length i) = cntI L (u ++ [L[i]]) := by
  unfold plusV cntI unitV
  refine List.ext_getElem (by simp) fun j h1 h2 => ?_
  rw [List.length_map] at h2
  rw [List.getElem_zipWith, List.getElem_map, List.getElem_map, List.getElem_map, List.getElem_range, List.count_append]
  by_cases e : j = i
  · subst e
    rw [if_pos rfl, List.count_singleton_self]
    omega
  · have ne : L[i] ≠ L[j] := fun z => e ((List.getElem?_inj hi nd).mp ((List.getElem?_eq_getElem hi).trans ((congrArg some z).trans (List.getElem?_eq_getElem h2).symm))).symm
    rw [if_neg e, List.count_singleton, if_neg (by rw [beq_iff_eq]; exact ne)]
    omega
structure Wlk where
  w : W
  now : Int
  vis : List Int
section
variable (L : W) (tb : List (List Int)) (st : Int)
def hitsW (a : Wlk) : List (List Int × W) := (List.range L.length).filterMap fun i => if rowF tb a.now i = st then some (cntI L (a.w ++ [L.getD i 0]), a.w ++ [L.getD i 0]) else none
def pushW (a : Wlk) : List Wlk := (List.range L.length).filterMap fun i => if rowF tb a.now i ≠ st ∧ rowF tb a.now i ∉ a.vis then some ⟨a.w ++ [L.getD i 0], rowF tb a.now i, a.vis ++ [rowF tb a.now i]⟩ else none
def LL : Nat → List Wlk
  | 0 => [⟨[], st, []⟩]
  | n + 1 => (LL n).flatMap (pushW L tb st)
def LF : Nat → List (List Int × W)
  | 0 => []
  | n + 1 => ((LL L tb st n).flatMap (hitsW L tb st)).foldl addNew (LF n)
def KW (a : Wlk) : Rk := ⟨a.now, (rngI tb.length).filter fun x => decide (x ∈ a.vis), cntI L a.w⟩
def insN (vis : List Int) (to : Int) : List Int := (rngI tb.length).filter fun x => decide (x = to ∨ x ∈ vis)
def hitsP (k : Rk) (w : W) : List (List Int × W) := (List.range L.length).filterMap fun i => if rowF tb k.here i = st then some (plusV k.cnt (unitV L.length i), w ++ [L.getD i 0]) else none
def pushP (kn : List Int) (k : Rk) (w : W) : List (Rk × W) := (List.range L.length).filterMap fun i => if rowF tb k.here i ≠ st ∧ rowF tb k.here i ∈ kn ∧ rowF tb k.here i ∉ k.vis then some (⟨rowF tb k.here i, insN tb k.vis (rowF tb k.here i), plusV k.cnt (unitV L.length i)⟩, w ++ [L.getD i 0]) else none
def PL (kn : List Int) (n : Nat) : List (Rk × W) := (dd1 (KW L tb) ((LL L tb st n).filter fun a => decide (a.now ∈ kn))).map fun a => (KW L tb a, a.w)
end
section
variable {L : W} {tb : List (List Int)} {s : Nat} {n : Int}
/-- a walk of k letters -/
structure Ok (L : W) (tb : List (List Int)) (s k : Nat) (a : Wlk) : Prop where
  len : a.w.length = k
  ov : ∀ c ∈ a.w, c ∈ L
  rng : 0 ≤ a.now ∧ a.now < (tb.length : Nat)
  vr : ∀ x ∈ a.vis, 0 ≤ x ∧ x < (tb.length : Nat)
  nd : a.vis.Nodup
  ns : ((s : Nat) : Int) ∉ a.vis
  vl : a.vis.length = k
  rch : Rch (rowN tb) s a.now.toNat
theorem row_mem (ok : TabOk tb L.length n) {x : Int} (hx : 0 ≤ x ∧ x < (tb.length : Nat)) {i : Nat} (hi : i < L.length) : (rowF tb x i).toNat ∈ rowN tb x.toNat := by
  have hl : x.toNat < tb.length := by omega
  have rl : (tb.getD x.toNat []).length = L.length := by
    rw [List.getD_eq_getElem?_getD, List.getElem?_eq_getElem hl]
    exact (ok.row _ (List.getElem_mem hl)).1
  unfold rowN rowF
  rw [List.getD_eq_getElem?_getD (l := tb.getD x.toNat []), List.getElem?_eq_getElem (by omega)]
  exact List.mem_map_of_mem (List.getElem_mem _)
theorem ok_all (ok : TabOk tb L.length n) (hs : s < tb.length) : ∀ (k : Nat) (a : Wlk), a ∈ LL L tb ((s : Nat) : Int) k → Ok L tb s k a
  | 0, a, h => by
    rw [List.mem_singleton.mp h]
    exact ⟨rfl, fun c hc => absurd hc List.not_mem_nil, (show (0 : Int) ≤ (s : Int) ∧ (s : Int) < (tb.length : Nat) from ⟨by omega, by omega⟩), fun x hx => absurd hx List.not_mem_nil, List.nodup_nil, List.not_mem_nil, rfl, .refl s⟩
  | k + 1, a, h => by
    obtain ⟨b, hb, h⟩ := List.mem_flatMap.mp h
    have ih := ok_all ok hs k b hb
    obtain ⟨i, hi, e⟩ := List.mem_filterMap.mp h
    have hi := List.mem_range.mp hi
    split at e
    · rename_i c
      have e := (Option.some.inj e).symm
      subst e
      have hn : ((tb.length : Nat) : Int) = n := ok.len
      have r := rowF_in ok (k := b.now) ⟨ih.rng.1, by have := ih.rng.2; omega⟩ hi
      have hc : L.getD i 0 ∈ L := by
        rw [List.getD_eq_getElem?_getD, List.getElem?_eq_getElem hi]
        exact List.getElem_mem hi
      refine ⟨by rw [List.length_append, ih.len] <;> rfl, fun x hx => (List.mem_append.mp hx).elim (ih.ov x) fun z => List.mem_singleton.mp z ▸ hc, (show 0 ≤ rowF tb b.now i ∧ rowF tb b.now i < (tb.length : Nat) from ⟨r.1, by omega⟩), fun x hx => (List.mem_append.mp hx).elim (ih.vr x) fun z => List.mem_singleton.mp z ▸ ⟨r.1, by omega⟩, ?_, fun z => (List.mem_append.mp z).elim ih.ns fun z => c.1 (List.mem_singleton.mp z).symm, by rw [List.length_append, ih.vl] <;> rfl, ih.rch.step (row_mem ok ih.rng hi)⟩
      refine List.nodup_append.mpr ⟨ih.nd, List.nodup_cons.mpr ⟨List.not_mem_nil, List.nodup_nil⟩, fun x hx y hy z => c.2 ?_⟩
      rw [← List.mem_singleton.mp hy, ← z]
      exact hx
    · cases e
/-- there are no longer ones -/
theorem ll_end (ok : TabOk tb L.length n) (hs : s < tb.length) : LL L tb ((s : Nat) : Int) tb.length = [] := by
  cases e : LL L tb ((s : Nat) : Int) tb.length with
  | nil => rfl
  | cons a l =>
    exfalso
    have o := ok_all ok hs tb.length a (by rw [e]; exact .head _)
    have nd : (((s : Nat) : Int) :: a.vis).Nodup := List.nodup_cons.mpr ⟨o.ns, o.nd⟩
    have sub : ∀ x ∈ ((s : Nat) : Int) :: a.vis, x ∈ rngI tb.length := fun x hx => by
      have b : 0 ≤ x ∧ x < (tb.length : Nat) := by
        rcases List.mem_cons.mp hx with rfl | hx
        · exact ⟨by omega, by omega⟩
        · exact o.vr x hx
      exact List.mem_map.mpr ⟨x.toNat, List.mem_range.mpr (by omega), by omega⟩
    have := nd.length_le_of_subset sub
    rw [List.length_cons, o.vl] at this
    unfold rngI at this
    rw [List.length_map, List.length_range] at this
    omega
/-- the knot of s -/
def Kn (tb : List (List Int)) (s : Nat) (kn : List Int) : Prop := ∀ x : Int, x ∈ kn ↔ ∃ y : Nat, x = ((y : Nat) : Int) ∧ Scc (rowN tb) s y
theorem kn_back (ok : TabOk tb L.length n) {kn : List Int} (hk : Kn tb s kn) {k : Nat} {a : Wlk} (o : Ok L tb s k a) {i : Nat} (hi : i < L.length) (h : rowF tb a.now i = ((s : Nat) : Int) ∨ rowF tb a.now i ∈ kn) : a.now ∈ kn := by
  have r := row_mem ok o.rng hi
  have to : Rch (rowN tb) (rowF tb a.now i).toNat s := by
    rcases h with e | e
    · rw [e]
      exact .refl s
    · obtain ⟨y, ey, g⟩ := (hk _).mp e
      rw [ey]
      exact g.2
  exact (hk _).mpr ⟨a.now.toNat, by have := o.rng; omega, o.rch, (Rch.step (.refl _) r).trans to⟩
theorem hits_eq (nd : L.Nodup) (st : Int) (a : Wlk) : hitsP L tb st (KW L tb a) a.w = hitsW L tb st a := by
  unfold hitsP hitsW
  refine fm_congr fun i hi => ?_
  have hi := List.mem_range.mp hi
  show (if rowF tb a.now i = st then some (plusV (cntI L a.w) (unitV L.length i), a.w ++ [L.getD i 0]) else none) = _
  have e : L.getD i 0 = L[i] := by rw [List.getD_eq_getElem?_getD, List.getElem?_eq_getElem hi] <;> rfl
  rw [e, cnt_add nd a.w hi]
theorem push_eq (ok : TabOk tb L.length n) (nd : L.Nodup) {kn : List Int} {k : Nat} {a : Wlk} (o : Ok L tb s k a) : pushP L tb ((s : Nat) : Int) kn (KW L tb a) a.w = ((pushW L tb ((s : Nat) : Int) a).filter fun b => decide (b.now ∈ kn)).map fun b => (KW L tb b, b.w) := by
  unfold pushP pushW
  rw [List.filter_filterMap, List.map_filterMap]
  refine fm_congr fun i hi => ?_
  have hi := List.mem_range.mp hi
  have hn : ((tb.length : Nat) : Int) = n := ok.len
  have r := rowF_in ok (k := a.now) ⟨o.rng.1, by have := o.rng.2; omega⟩ hi
  have e : L.getD i 0 = L[i] := by rw [List.getD_eq_getElem?_getD, List.getElem?_eq_getElem hi] <;> rfl
  have seen : rowF tb a.now i ∉ (KW L tb a).vis ↔ rowF tb a.now i ∉ a.vis := by
    refine not_congr ?_
    show _ ∈ (rngI tb.length).filter _ ↔ _
    rw [List.mem_filter, decide_eq_true_iff]
    exact ⟨fun h => h.2, fun h => ⟨List.mem_map.mpr ⟨(rowF tb a.now i).toNat, List.mem_range.mpr (by omega), by omega⟩, h⟩⟩
  show (if rowF tb a.now i ≠ _ ∧ rowF tb a.now i ∈ kn ∧ rowF tb a.now i ∉ (KW L tb a).vis then some ((⟨rowF tb a.now i, insN tb (KW L tb a).vis (rowF tb a.now i), plusV (cntI L a.w) (unitV L.length i)⟩ : Rk), a.w ++ [L.getD i 0]) else none) = _
  by_cases c : rowF tb a.now i ≠ ((s : Nat) : Int) ∧ rowF tb a.now i ∉ a.vis
  · rw [if_pos c]
    show _ = Option.map _ (Option.filter _ (some _))
    by_cases m : rowF tb a.now i ∈ kn
    · rw [if_pos ⟨c.1, m, seen.mpr c.2⟩]
      simp only [Option.filter, decide_eq_true m, if_true, Option.map_some]
      have ei : insN tb (KW L tb a).vis (rowF tb a.now i) = (rngI tb.length).filter fun x => decide (x ∈ a.vis ++ [rowF tb a.now i]) := by
        unfold insN
        refine List.filter_congr fun x hx => decide_eq_decide.mpr ?_
        rw [List.mem_append, List.mem_singleton]
        show x = _ ∨ x ∈ (rngI tb.length).filter _ ↔ _
        rw [List.mem_filter, decide_eq_true_iff]
        exact ⟨fun h => h.elim .inr fun h => .inl h.2, fun h => h.elim (fun h => .inr ⟨hx, h⟩) .inl⟩
      rw [ei, e, cnt_add nd a.w hi]
      rfl
    · rw [if_neg fun z => m z.2.1]
      simp only [Option.filter, decide_eq_false m, Bool.false_eq_true, if_false, Option.map_none]
  · rw [if_neg c, if_neg fun z => c ⟨z.1, seen.mp z.2.2⟩]
    rfl
theorem cnt_ext {L u v : W} (h : cntI L u = cntI L v) (c : Nat) : cntI L (u ++ [c]) = cntI L (v ++ [c]) := by
  unfold cntI at h ⊢
  refine List.map_congr_left fun d hd => ?_
  have := (List.map_inj_left.mp h) d hd
  rw [List.count_append, List.count_append]
  omega
/-- the program's layers and rings are the law's -/
theorem lay_next (ok : TabOk tb L.length n) (nd : L.Nodup) (hs : s < tb.length) {kn : List Int} (hk : Kn tb s kn) (k : Nat) :
    ((PL L tb ((s : Nat) : Int) kn k).flatMap fun p => pushP L tb ((s : Nat) : Int) kn p.1 p.2).foldl addNew [] = PL L tb ((s : Nat) : Int) kn (k + 1) ∧
    ∀ F, ((PL L tb ((s : Nat) : Int) kn k).flatMap fun p => hitsP L tb ((s : Nat) : Int) p.1 p.2).foldl addNew F = ((LL L tb ((s : Nat) : Int) k).flatMap (hitsW L tb ((s : Nat) : Int))).foldl addNew F := by
  have o := fun a ha => ok_all ok hs k a ha
  have off : ∀ a ∈ LL L tb ((s : Nat) : Int) k, decide (a.now ∈ kn) = false → (∀ i, i < L.length → rowF tb a.now i ≠ ((s : Nat) : Int) ∧ rowF tb a.now i ∉ kn) := fun a ha h i hi =>
    ⟨fun z => (of_decide_eq_false h) (kn_back ok hk (o a ha) hi (.inl z)), fun z => (of_decide_eq_false h) (kn_back ok hk (o a ha) hi (.inr z))⟩
  constructor
  · unfold PL
    rw [List.flatMap_map, ← fold_dd (KW L tb) (fun a => pushP L tb ((s : Nat) : Int) kn (KW L tb a) a.w) (fun a b e => ?_)]
    · have e1 : ((LL L tb ((s : Nat) : Int) k).filter fun a => decide (a.now ∈ kn)).flatMap (fun a => pushP L tb ((s : Nat) : Int) kn (KW L tb a) a.w) = (((LL L tb ((s : Nat) : Int) (k + 1)).filter fun b => decide (b.now ∈ kn))).map fun b => (KW L tb b, b.w) := by
        show _ = (((LL L tb ((s : Nat) : Int) k).flatMap (pushW L tb ((s : Nat) : Int))).filter _).map _
        rw [filter_flat, flat_filter (fun a : Wlk => decide (a.now ∈ kn)) (fun a => (pushW L tb ((s : Nat) : Int) a).filter fun b => decide (b.now ∈ kn)) (LL L tb ((s : Nat) : Int) k) fun a ha h => ?_, List.map_flatMap]
        · refine fl_congr fun a ha => push_eq ok nd (o a (List.mem_filter.mp ha).1)
        · refine List.filter_eq_nil_iff.mpr fun b hb => ?_
          obtain ⟨i, hi, e⟩ := List.mem_filterMap.mp hb
          split at e
          · rw [← Option.some.inj e]
            exact fun z => (off a ha h i (List.mem_range.mp hi)).2 (of_decide_eq_true z)
          · cases e
      rw [e1, dd_keys]
    · unfold pushP
      rw [e, List.map_filterMap, List.map_filterMap]
      refine fm_congr fun i _ => ?_
      split <;> rfl
  · intro F
    unfold PL
    rw [List.flatMap_map, flat_filter (fun a : Wlk => decide (a.now ∈ kn)) (hitsW L tb ((s : Nat) : Int)) _ fun a ha h => ?_, fold_dd (KW L tb) (hitsW L tb ((s : Nat) : Int)) (fun a b e => ?_)]
    · congr 1
      exact fl_congr fun a _ => hits_eq nd _ a
    · have e1 : a.now = b.now := congrArg Rk.here e
      have e2 : cntI L a.w = cntI L b.w := congrArg Rk.cnt e
      unfold hitsW
      rw [List.map_filterMap, List.map_filterMap, e1]
      refine fm_congr fun i _ => ?_
      split
      · exact congrArg some (cnt_ext e2 _)
      · rfl
    · refine List.filterMap_eq_nil_iff.mpr fun i hi => ?_
      rw [if_neg (off a ha h i (List.mem_range.mp hi)).1]
/-- once there are no walks more, no rings come -/
theorem lf_stay {st : Int} {k : Nat} (h : LL L tb st k = []) : ∀ j, LL L tb st (k + j) = [] ∧ LF L tb st (k + j) = LF L tb st k
  | 0 => ⟨h, rfl⟩
  | j + 1 => by
    obtain ⟨h1, h2⟩ := lf_stay h j
    refine ⟨?_, ?_⟩
    · show (LL L tb st (k + j)).flatMap _ = []
      rw [h1] <;> rfl
    · show ((LL L tb st (k + j)).flatMap _).foldl addNew (LF L tb st (k + j)) = _
      rw [h1, h2] <;> rfl
theorem pl_stay (ok : TabOk tb L.length n) (nd : L.Nodup) (hs : s < tb.length) {kn : List Int} (hk : Kn tb s kn) {k : Nat} (h : PL L tb ((s : Nat) : Int) kn k = []) : ∀ j, PL L tb ((s : Nat) : Int) kn (k + j) = [] ∧ LF L tb ((s : Nat) : Int) (k + j) = LF L tb ((s : Nat) : Int) k
  | 0 => ⟨h, rfl⟩
  | j + 1 => by
    obtain ⟨h1, h2⟩ := pl_stay ok nd hs hk h j
    have nx := lay_next ok nd hs hk (k + j)
    refine ⟨?_, ?_⟩
    · rw [← Nat.add_assoc, ← nx.1, h1] <;> rfl
    · show ((LL L tb ((s : Nat) : Int) (k + j)).flatMap _).foldl addNew (LF L tb ((s : Nat) : Int) (k + j)) = _
      rw [← nx.2, h1, h2] <;> rfl
theorem pl_end (ok : TabOk tb L.length n) (hs : s < tb.length) {kn : List Int} : PL L tb ((s : Nat) : Int) kn tb.length = [] := by
  unfold PL
  rw [ll_end ok hs] <;> rfl
/-- the rings: counts and first words -/
def ringsN (L : W) (tb : List (List Int)) (s : Nat) : List (List Int × W) := LF L tb ((s : Nat) : Int) tb.length
theorem rings_prog (ok : TabOk tb L.length n) (nd : L.Nodup) (hs : s < tb.length) {kn : List Int} (hk : Kn tb s kn) {k : Nat} (hle : k ≤ tb.length) (h : PL L tb ((s : Nat) : Int) kn k = []) : LF L tb ((s : Nat) : Int) k = ringsN L tb s := by
  have := (pl_stay ok nd hs hk h (tb.length - k)).2
  rw [show k + (tb.length - k) = tb.length by omega] at this
  exact this.symm
theorem rings_law {k : Nat} (hle : k ≤ tb.length) (h : LL L tb ((s : Nat) : Int) k = []) : LF L tb ((s : Nat) : Int) k = ringsN L tb s := by
  have := (lf_stay h (tb.length - k)).2
  rw [show k + (tb.length - k) = tb.length by omega] at this
  exact this.symm
end
end RX
set_option Elab.async false
set_option linter.all false
set_option maxRecDepth 100000
set_option maxHeartbeats 8000000
namespace ZR
open PySem PySem.Spec PyProof.Rows L2
open ZPT (tup_is)
/-- each sign with the tuple's and the list's item, in a new triple -/
def Zi3 (K : PySem.W.Frag) (x : Str) (a : Addr) (ys : List V) (b : Addr) (zs : List V) : It :=
  ⟨fun i H => (SqT K H a ys ∧ SqL K H b zs) ∧ i < x.cps.size ∧ i < ys.length ∧ i < zs.length, fun i H v H' => ∃ T c y q, v = .ref T ∧ H T = none ∧ H' = upd H T (.tup [.str ⟨#[c]⟩, y, q]) ∧ x.cps[i]? = some c ∧ ys[i]? = some y ∧ zs[i]? = some q,
   fun i H => (SqT K H a ys ∧ SqL K H b zs) ∧ i = x.cps.size ∧ i ≤ ys.length ∧ i ≤ zs.length⟩
/-- where it stands, i triples out -/
def At (x : Str) (t : Tok) (a b z TI TO i1 i2 i3 : Addr) (i : Nat) (h : Heap) : Prop :=
  IsZip h z TI TO .none ∧ IsTupOf3 h TI (.ref i1) (.ref i2) (.ref i3) ∧ (∃ p q r, IsTupOf3 h TO p q r) ∧ h.IsStrIter i1 (strIterType x) x t i ∧ h.IsTupleIter i2 a i ∧ h.IsListIter i3 b i
section
variable {x : Str} {t : Tok} {a b z TI TO i1 i2 i3 : Addr}
theorem At.obj {i : Nat} {h : Heap} (st : At x t a b z TI TO i1 i2 i3 i h) : ∀ c ∈ [z, TI, TO, i1, i2, i3], ∃ o, h.get? c = some o ∧ ∀ v, o.data ≠ .cell v := by
  obtain ⟨hz, h1, ⟨p, q, r, h2⟩, ⟨o3, h3, _, d3⟩, ⟨o4, h4, _, d4⟩, ⟨o5, h5, _, d5⟩⟩ := st
  intro c hc
  simp only [List.mem_cons, List.not_mem_nil, or_false] at hc
  rcases hc with rfl | rfl | rfl | rfl | rfl | rfl
  · exact ⟨_, hz, fun v q => nomatch q⟩
  · exact ⟨_, h1, fun v q => nomatch q⟩
  · exact ⟨_, h2, fun v q => nomatch q⟩
  · exact ⟨o3, h3, fun v q => nomatch d3.symm.trans q⟩
  · exact ⟨o4, h4, fun v q => nomatch d4.symm.trans q⟩
  · exact ⟨o5, h5, fun v q => nomatch d5.symm.trans q⟩
theorem At.old {i : Nat} {h : Heap} (st : At x t a b z TI TO i1 i2 i3 i h) : ∀ c ∈ [z, TI, TO, i1, i2, i3], c < h.objs.size := fun c hc => let ⟨_, e, _⟩ := st.obj c hc; Heap.lt_size e
theorem turn3 {P : Program} {w : World} {K : PySem.W.Frag} {elts : List Expr} {kk : Nat} {tpos : Pos} {ys zs : List V} (S : ZipSep3 z TI TO i1 i2 i3 [i1] [i2, a] [i3, b]) (hai : a ≠ i2) (hbi : b ≠ i3) :
    Turn P w K (.Tuple elts kk tpos) (Zi3 K x a ys b zs) [z, TI, TO, i1, i2, i3] z (At x t a b z TI TO i1 i2 i3) where
  mem := .head _
  obj := fun i h st => st.obj
  keep := fun i h h' ⟨hz, h1, ⟨p, q, r, h2⟩, ⟨o3, e3, r3⟩, h4, ⟨o5, e5, r5⟩⟩ k => ⟨k z (by simp) _ hz, k TI (by simp) _ h1, ⟨p, q, r, k TO (by simp) _ h2⟩, ⟨o3, k i1 (by simp) _ e3, r3⟩, h4.at fun o e => k i2 (by simp) o e, ⟨o5, k i3 (by simp) _ e5, r5⟩⟩
  item := by
    intro X hP hw hK hc i pins s σ H E I hf st ⟨⟨hT, hL⟩, hi1, hi2, hi3⟩
    subst hP hw hK
    have old := st.old
    obtain ⟨hz, h1, ⟨p, q, r, h2⟩, h3, h4, h5⟩ := st
    obtain ⟨its, rv, pt, _⟩ := I.tuple hT
    have hl : its.toArray.size = ys.length := by rw [List.size_toArray, rv.length]
    obtain ⟨jts, rw_, pl, _⟩ := I.list hL
    have hj : jts.toArray.size = zs.length := by rw [List.size_toArray, rw_.length]
    have D1 := Draws.text (prog := X.prog) (w := X.w) (A := X.A.in1) (I.ok.hd hc) i1 x t
    have D2 := Draws.tuple (prog := X.prog) (w := X.w) (A := X.A.in1) (I.ok.hd hc) i2 a hai its.toArray
    have D3 := Draws.list (prog := X.prog) (w := X.w) (A := X.A.in1) (I.ok.hd hc) i3 b hbi jts.toArray
    refine wpAny_pyNext_zipD3_item S D1 D2 D3 hz h1 h2 h3 ⟨h4, tup_is pt⟩ ⟨h5, pl.isList⟩ hi1 (by rw [hl]; exact hi2) (by rw [hj]; exact hi3) fun u v e h' tk hu hv he z1 TO1 n1 n2 n3 made size kp => ?_
    obtain ⟨c, tc, hc', rfl⟩ := hu
    obtain ⟨y, hy⟩ : ∃ y, ys[i]? = some y := ⟨_, List.getElem?_eq_getElem hi2⟩
    obtain ⟨v2, e2, ry⟩ := rv.get hy
    have ev : v2 = v := Option.some.inj (e2.symm.trans (by rw [← List.getElem?_toArray]; exact hv))
    subst ev
    obtain ⟨y3, hy3⟩ : ∃ y, zs[i]? = some y := ⟨_, List.getElem?_eq_getElem hi3⟩
    obtain ⟨v3, e3, ry3⟩ := rw_.get hy3
    have ev : v3 = e := Option.some.inj (e3.symm.trans (by rw [← List.getElem?_toArray]; exact he))
    subst ev
    refine ⟨_, rfl, wpAny_letOwnedTupleGo_zip (s := { s with heap := h', toks := tk }) z1 fun h'' z2 sb => ?_⟩
    have zlt : z < s.heap.objs.size := old z (.head _)
    have free : H s.heap.objs.size = none := I.hok.fresh (Nat.le_refl _)
    have trip : h''.get? s.heap.objs.size = some { cls := .type "tuple", data := .seq #[.str ⟨#[c]⟩ tc, v2, v3] } := (sb.2 _ (Nat.ne_of_gt zlt)).trans made
    have new : ObjOk X.prog X.w (upd H s.heap.objs.size (.tup [.str ⟨#[c]⟩, y, y3])) h'' s.heap.objs.size (.tup [.str ⟨#[c]⟩, y, y3]) := ⟨by show 3 ≤ sizeLine; decide, [.str ⟨#[c]⟩ tc, v2, v3], .cons ⟨tc, rfl⟩ (.cons ry (.cons ry3 .nil)), _, trip, rfl, _, rfl⟩
    have stay : ∀ b o, b ∉ [z, TI, TO, i1, i2, i3] → s.heap.get? b = some o → h''.get? b = some o := fun b o hb e => (sb.2 b fun w => hb (by simp [w])).trans (kp b o (fun w => hb (by simp [w])) (fun w => hb (by simp [w])) (fun w => hb (by simp [w])) (fun w => hb (by simp [w])) (fun w => hb (by simp [w])) e)
    refine ⟨.ref s.heap.objs.size, _, I.turnedNew (ch := [z, TI, TO, i1, i2, i3]) stay hf (Nat.le_refl _) new, rfl, ⟨_, c, y, y3, rfl, free, rfl, hc', hy, hy3⟩, ⟨z2, ?_, ⟨_, _, _, (sb.2 _ S.TOz).trans TO1⟩, ?_, ?_, ?_⟩, fun b hb => ?_⟩
    · exact (sb.2 _ S.TIz).trans (kp _ _ S.TIz S.TITO S.TIi1 S.TIi2 S.TIi3 h1)
    · obtain ⟨o, e, r⟩ := n1
      exact ⟨o, (sb.2 _ S.zi1.symm).trans e, r⟩
    · exact n2.1.at fun o e => (sb.2 _ S.zi2.symm).trans e
    · obtain ⟨⟨o, e, r⟩, _⟩ := n3
      exact ⟨o, (sb.2 _ S.zi3.symm).trans e, r⟩
    · rw [upd_ne (Nat.ne_of_lt (old b hb))]
      exact (hf b hb).1
  done := by
    intro X hP hw hK hc i pins s σ H E I hf ⟨hz, h1, ⟨p, q, r, h2⟩, h3, h4, h5⟩ ⟨⟨hT, hL⟩, hi1, hi2, hi3⟩
    subst hP hw hK
    obtain ⟨its, rv, pt, _⟩ := I.tuple hT
    have hl : its.toArray.size = ys.length := by rw [List.size_toArray, rv.length]
    obtain ⟨jts, rw_, pl, _⟩ := I.list hL
    have hj : jts.toArray.size = zs.length := by rw [List.size_toArray, rw_.length]
    have D1 := Draws.text (prog := X.prog) (w := X.w) (A := X.A.in1) (I.ok.hd hc) i1 x t
    have D2 := Draws.tuple (prog := X.prog) (w := X.w) (A := X.A.in1) (I.ok.hd hc) i2 a hai its.toArray
    have D3 := Draws.list (prog := X.prog) (w := X.w) (A := X.A.in1) (I.ok.hd hc) i3 b hbi jts.toArray
    exact wpAny_pyNext_zipD3_end S D1 D2 D3 hz h1 h2 h3 ⟨h4, tup_is pt⟩ ⟨h5, pl.isList⟩ (Nat.le_of_eq hi1) (by rw [hl]; exact hi2) (by rw [hj]; exact hi3) (.inl hi1) fun h' tk kp => ⟨rfl, I.turnedL (t' := tk) (ch := [z, TI, TO, i1, i2, i3]) (fun b o hb e =>
      kp b o (fun w => hb (by simp [w])) (fun w => hb (by simp [w])) (fun w => hb (by simp [w])) (fun w => hb (by simp [w])) (fun w => hb (by simp [w])) e) hf⟩
  self := fun _ _ _ _ _ st q => wpAny_pyIter_zip st.1 q
end
def iZip3 (K : PySem.W.Frag) (ta : TA) : TI := fun σ H R => ta σ H fun vs H1 => ∃ x a ys b zs, vs = [.str x, .ref a, .ref b] ∧ SqT K H1 a ys ∧ SqL K H1 b zs ∧ R (Zi3 K x a ys b zs) H1
theorem pi_zip3 {X : Cx} {e e2 e3 : Expr} {ta : TA} {p pos tpos : Pos} {elts : List Expr} {kk : Nat} (hg : Gl X "zip") (hm : X.mg "zip" = none) (ha : PA X [e, e2, e3] ta)
    (hs : starEach [e, e2, e3] X.env = (false, eval e X.env) :: starEach [e2, e3] X.env := by rfl) (hpl : (backTo pos (starEach [e2, e3] X.env)).any (·.1) = false := by rfl) :
    PI X (.Tuple elts kk tpos) (.Call (.Name "zip" p) [e, e2, e3] [] pos) (iZip3 X.K ta) := by
  refine ⟨fun pins s σ H R I h => Call_ (ld_blt I hg hm PyProof.Rows.boot_zip (PyProof.Rows.callWith_type1 (thn (ha.run pos pins s σ H _ I h) fun us s1 ⟨vs, H1, I1, r1, x, a, ys, b, zs, ex, hT, hL, q⟩ => ?_) hs hpl))⟩
  subst ex
  cases r1 with
  | cons r rr =>
   cases rr with
   | cons r' rr =>
    cases rr with
    | cons r'' rr =>
     cases rr
     obtain ⟨t, rfl⟩ := r
     cases r'
     cases r''
     obtain ⟨its, rv, pt, _⟩ := I1.tuple hT
     obtain ⟨jts, rw_, pl, _⟩ := I1.list hL
     obtain ⟨o, ho, _⟩ := id pt
     have lt := Heap.lt_size ho
     obtain ⟨o2, ho2, _⟩ := pl.isList
     have lt2 := Heap.lt_size ho2
     refine zip_begins3 (begins_text x t) (begins_tuple a its.toArray) (begins_list b jts.toArray) trivial (tup_is pt) pl.isList fun h' hz hTI hTO g1 g2 g3 size kp => wpAny_pyIter_zip hz ?_
     have fresh : ∀ c ∈ [s1.heap.objs.size + 5, s1.heap.objs.size + 3, s1.heap.objs.size + 4, s1.heap.objs.size, s1.heap.objs.size + 1, s1.heap.objs.size + 2], FpOk X pins H1 c := fun c hc => by
       have le : s1.heap.objs.size ≤ c := by
         have hb' : c = s1.heap.objs.size + 5 ∨ c = s1.heap.objs.size + 3 ∨ c = s1.heap.objs.size + 4 ∨ c = s1.heap.objs.size ∨ c = s1.heap.objs.size + 1 ∨ c = s1.heap.objs.size + 2 := by simpa using hc
         rcases hb' with z | z | z | z | z | z <;> rw [z] <;> first | exact Nat.le_refl _ | exact Nat.le_add_right _ _
       exact I1.fpOk le (I1.hok.fresh le)
     have S := zip_sep3 (N := s1.heap.objs.size) (fp1 := []) (fp2 := [a]) (fp3 := [b]) (fun _ h => (List.not_mem_nil h).elim) (fun c hc => by rw [List.mem_singleton.mp hc]; exact lt) fun c hc => by rw [List.mem_singleton.mp hc]; exact lt2
     exact ⟨s1.heap.objs.size + 5, [s1.heap.objs.size + 5, s1.heap.objs.size + 3, s1.heap.objs.size + 4, s1.heap.objs.size, s1.heap.objs.size + 1, s1.heap.objs.size + 2], _, _, H1, rfl, I1.kept (t' := s1.toks) kp, turn3 S (Nat.ne_of_lt (Nat.lt_succ_of_lt lt)) (Nat.ne_of_lt (Nat.lt_succ_of_lt (Nat.lt_succ_of_lt lt2))), ⟨hz, hTI, ⟨_, _, _, hTO⟩, ⟨_, g1, rfl, rfl⟩, ⟨_, g2, rfl, rfl⟩, ⟨_, g3, rfl, rfl⟩⟩, fresh, q⟩
def Y3 (x : Str) (ys zs : List V) : Nat → Hp → V → Hp → Prop := fun i H v H' => ∃ T c y q, v = .ref T ∧ H T = none ∧ H' = upd H T (.tup [.str ⟨#[c]⟩, y, q]) ∧ x.cps[i]? = some c ∧ ys[i]? = some y ∧ zs[i]? = some q
theorem walk3 {K : PySem.W.Frag} {x : Str} {a b : Addr} {ys zs : List V} (h1 : ys.length = x.cps.size) (h2 : zs.length = x.cps.size) : Walk (Zi3 K x a ys b zs) x.cps.size (fun H => SqT K H a ys ∧ SqL K H b zs) (Y3 x ys zs) :=
  ⟨fun i H hi q => ⟨q, hi, by omega, by omega⟩, fun H q => ⟨q, rfl, by omega, by omega⟩, fun i H v H' _ _ h => h⟩
end ZR
set_option Elab.async false
set_option linter.all false
set_option maxRecDepth 100000
set_option maxHeartbeats 8000000
namespace WK
open PySem L2 PyProof.Rows LCX K1
open TX (sg sigs)
open PySem.W (Frag kitOne)
open RZ (ItzT pi_zipA)
open RX (unitV plusV cntI)
abbrev sPlus : Stmt := top 50
abbrev sUnits : Stmt := top 52
/-- tuples of numbers at these places -/
theorem size_L (L : W) : ((tx L).cps.size : Nat) = L.length := size_tx L
abbrev rLenZ : List V → Hp → VK → Prop := fun xs H Q => ∃ z, xs = [.str z] ∧ z.length ≤ sizeLine ∧ Q (.int z.length) H
theorem walk_zipTT {K : Frag} {a b : Addr} {xs ys : List V} (hl : xs.length = ys.length) : Walk (ItzT K a b) xs.length (fun H => SqT K H a xs ∧ SqT K H b ys) (YPair (fun i => xs[i]?) (fun i => ys[i]?)) := by
  refine ⟨fun i _ hi q => ?_, fun _ q => ⟨xs, ys, q.1, q.2, .inl (Nat.le_refl _)⟩, fun i H v H' _ q y => ?_⟩
  · exact ⟨xs, ys, _, _, q.1, q.2, List.getElem?_eq_getElem hi, List.getElem?_eq_getElem (hl ▸ hi)⟩
  · obtain ⟨pr, c, d, e1, e2, e3, e4, e5⟩ := y
    exact ⟨pr, c, d, e1, e2, e3, e4 _ q.1, e5 _ q.2⟩
def spUnits : Sp := fun vs H Q _ => ∃ L : W, vs = [.str (tx L)] ∧ L.length ≤ 26 ∧ ∀ (l : Addr) (as : List Addr) (H' : Hp), H l = none → Same H H' → H' l = some (.lst (as.map V.ref)) → Objs oTup H' as ((List.range L.length).map (unitV L.length)) → Q (.ref l) H'
def spPlus : Sp := fun vs H Q _ => ∃ (a b : Addr) (u v : List Int), vs = [.ref a, .ref b, .int 1] ∧ H a = some (oTup u) ∧ H b = some (oTup v) ∧ u.length = v.length ∧ u.length ≤ 26 ∧ (∀ x ∈ u, 0 ≤ x ∧ x < 1000000) ∧ (∀ x ∈ v, 0 ≤ x ∧ x < 1000000) ∧ ∀ (t : Addr) (H' : Hp), H t = none → Same H H' → H' t = some (oTup (plusV u v)) → Q (.ref t) H'
abbrev NUn : List Str := ["letters", "letter", "at"]
abbrev NPl : List Str := ["one", "other", "times", "left", "right"]
abbrev scUI : Scope := { kind := .function, names := [(".0", .local), ("letter", .cell), ("tuple", .globalImplicit), ("range", .globalImplicit), ("len", .globalImplicit), ("letters", .cell)], isGenerator := false, isCoroutine := false }
section
variable {P : Program} {w : World} {K : PySem.W.Frag} {mg : Str → Option Value} {base : Heap}
theorem scUn : FnScope NUn ["letters"] (defScope sUnits) := ⟨rfl, rfl, rfl, by decide +kernel, rfl, by decide +kernel, by decide +kernel⟩
theorem scPl : FnScope NPl ["one", "other", "times"] (defScope sPlus) := ⟨rfl, rfl, rfl, by decide +kernel, rfl, by decide +kernel, by decide +kernel⟩
theorem ok_units {f : Addr} {fd : FuncData} (F : Fun K "units_of" "units_of" sUnits f fd) (T : TN mg) : FnOk P w K mg base CX0 1 f fd ["letters"] spUnits := by
  refine F.ok scUn (fun vs H Q E h => ?_) (fun cdv A outer s H vs Q E hr h => ?_)
  · obtain ⟨L, rfl, _⟩ := h
    rfl
  · obtain ⟨L, rfl, hL, q⟩ := h
    refine ⟨_, pss_one (ps_ret (pe_lc (own := [("letter", 1)]) (g := gName 1) (tt := tYes) (te := tCB (rTupL K) (tCons (tLc (iRng1 (tCons (tCB rLenZ (tCons (tVar 0) tNil)) tNil)) (gName 2) tYes (tIf (tTest (tOp rEq (tVar 2) (tVar 1))) (tC (.int 1)) (tC (.int 0))) [2]) tNil)) rfl scUn.nd (pi_range1 rfl T.rng (pa_cons (pe_callB call_len_str (by rfl) T.len PySem.boot_len (pa_cons (pv 0) pa_nil)) pa_nil))
        (blkOk_by (own := [("letter", 1)]) (N := NUn) (sc := defScope sUnits) (by decide +kernel)) (fun _ _ _ _ _ => pg_name (i := 1) scUn.nd rfl (Or.inr rfl)) (fun _ _ _ _ _ => pts_nil)
        (fun _ _ _ _ _ => pe_callTy call_tuple_of (by rfl) T.tuple (by decide +kernel) (pa_cons (pe_lc (own := [("at", 2)]) (g := gName 2) (tt := tYes) rfl scUn.nd (pi_range1 rfl T.rng (pa_cons (pe_callB call_len_str (by rfl) T.len PySem.boot_len (pa_cons (pv 0) pa_nil)) pa_nil))
          (blkOk_by (own := [("at", 2)]) (N := NUn) (sc := scUI) (by decide +kernel)) (fun _ _ _ _ _ => pg_name (i := 2) scUn.nd rfl (Or.inl rfl)) (fun _ _ _ _ _ => pts_nil)
          (fun _ _ _ _ _ => pe_ifExp (pt_cmpR op_eq (pv 2) (pv 1) (nomark _)) pe_int pe_int)) pa_nil)))), ?_⟩
    have hz : (tx L).length = L.length := tx_len L
    have zl : (tx L).length ≤ sizeLine := by rw [hz, sizeLine_eq]; omega
    refine ⟨_, rfl, tx L, rfl, zl, _, rfl, by rw [hz]; omega, by rw [hz]; omega, fun D hD => ?_⟩
    rw [hz]
    refine lc_range (lo := 0) (n := L.length) (fun i H3 => Same H H3 ∧ ∃ (as : List Addr), as.length = i ∧ H3 D = some (.lst (as.map V.ref)) ∧ Objs oTup H3 as ((List.range i).map (unitV L.length)))
      ⟨same_upd hD, [], rfl, upd_same, trivial⟩ ?_ ?_
    · rintro i H3 hi ⟨s3, as, hl, hd, ho⟩
      refine ⟨rfl, _, rfl, tx L, rfl, zl, _, rfl, by rw [hz]; omega, by rw [hz]; omega, fun D2 hD2 => ?_⟩
      rw [hz]
      refine lc_range (lo := 0) (n := L.length) (fun j H4 => Same H3 H4 ∧ H4 D2 = some (.lst (((List.range j).map fun x => if x = i then (1 : Int) else 0).map V.int))) ⟨same_upd hD2, upd_same⟩ ?_ ?_
      · rintro j H4 hj ⟨s4, hd4⟩
        have nx : ∀ b : Int, b = (if j = i then (1 : Int) else 0) → ∃ acc, H4 D2 = some (.lst acc) ∧ acc.length < sizeLine ∧ Same H3 (upd H4 D2 (.lst (acc ++ [V.int b]))) ∧ upd H4 D2 (.lst (acc ++ [V.int b])) D2 = some (.lst (((List.range (j + 1)).map fun x => if x = i then (1 : Int) else 0).map V.int)) := fun b hb => by
          refine ⟨_, hd4, by rw [List.length_map, List.length_map, List.length_range, sizeLine_eq]; omega, same_at s4 hD2, ?_⟩
          rw [upd_same, List.range_succ, List.map_append, List.map_append, hb] <;> rfl
        refine ⟨rfl, _, rfl, _, rfl, ?_⟩
        refine ⟨rfl, _, rfl, ite2 (fun c => nx 1 ?_) (fun c => nx 0 ?_)⟩
        · have := of_decide_eq_true c
          injection this with this
          rw [if_pos (by omega)]
        · rw [if_neg fun z => c (decide_eq_true (by rw [z]))]
      · rintro H4 ⟨s4, hd4⟩
        refine ⟨D2, _, rfl, .inl ⟨SqL.of hd4, fun t ht => ?_⟩⟩
        have s5 : Same H3 (upd H4 t (oTup ((List.range L.length).map fun x => if x = i then (1 : Int) else 0))) := same_two s4 ht
        refine ⟨_, s5 _ _ hd, by rw [List.length_map, hl, sizeLine_eq]; omega, same_at (s3.trans s5) hD, as ++ [t], by rw [List.length_append, hl] <;> rfl, by rw [upd_same, List.map_append] <;> rfl, ?_⟩
        have tD : t ≠ D := fun z => by rw [z, s4 _ _ hd] at ht; cases ht
        rw [List.range_succ, List.map_append]
        refine Objs.snoc (ho.to fun a ha r e => ?_) (by rw [upd_ne tD, upd_same]; rfl)
        have aD : a ≠ D := fun z => by rw [z, hd] at e; cases e
        rw [upd_ne aD]
        exact s5 _ _ e
    · rintro H3 ⟨s3, as, hl, hd, ho⟩
      exact q D as H3 hD s3 hd ho
theorem ok_plus {f : Addr} {oc kV dc pm ct cd dV : Value} {an od : Option Addr} {sl : Array (Option Value)} (lk : K.lookup f = some ⟨oc, od, .func (PySem.W.fnOf "plus" "plus" (defArgs sPlus) (defBody sPlus) (defScope sPlus) dV kV dc pm an cd ct), sl⟩) (hcd : PySem.W.codeIn K cd "plus" = true) (T : TN mg) :
    FnOk P w K mg base CX0 1 f (PySem.W.fnOf "plus" "plus" (defArgs sPlus) (defBody sPlus) (defScope sPlus) dV kV dc pm an cd ct) ["one", "other", "times"] spPlus := by
  refine fn_of lk hcd scPl (fun vs H Q E h => ?_) (fun A outer s H vs Q E hr h => ?_)
  · obtain ⟨a, b, u, v, rfl, _⟩ := h
    rfl
  · obtain ⟨a, b, u, v, rfl, ha, hb, hl, hn, hu, hv, q⟩ := h
    refine ⟨_, pss_one (ps_ret (pe_callTy call_tuple_of (by rfl) T.tuple (by decide +kernel) (pa_cons (pe_lc (own := [("left", 3), ("right", 4)]) (g := gTup K 2 (gCons (gName 3) (gCons (gName 4) gNil))) (tt := tYes) rfl scPl.nd (pi_zipA rfl T.zip (pa_cons (pv 0) (pa_cons (pv 1) pa_nil)))
        (blkOk_by (own := [("left", 3), ("right", 4)]) (N := NPl) (sc := defScope sPlus) (by decide +kernel)) (fun _ _ _ _ _ => pg_tup (by rfl) (pgs_cons (pg_name (i := 3) scPl.nd rfl (Or.inl rfl)) (pgs_cons (pg_name (i := 4) scPl.nd rfl (Or.inl rfl)) pgs_nil))) (fun _ _ _ _ _ => pts_nil)
        (fun _ _ _ _ _ => pe_op op_add (pv 3) (pe_op op_mul (pv 2) (pv 4)))) pa_nil))), ?_⟩
    have hz : (u.map V.int).length = (v.map V.int).length := by rw [List.length_map, List.length_map, hl]
    refine ⟨_, rfl, _, rfl, a, b, _, _, rfl, .inr ⟨SqT.of ha, SqT.of hb, fun D hD => ?_⟩⟩
    have ul : (u.map V.int).length = u.length := List.length_map _
    refine lc_it (walk_zipTT hz) (fun i H3 => Same H H3 ∧ H3 D = some (.lst ((plusV (u.take i) (v.take i)).map V.int))) ⟨same_upd hD, upd_same⟩ (fun i H3 _ p => ⟨SqT.of (p.1 _ _ ha), SqT.of (p.1 _ _ hb)⟩) ?_ ?_
    · rintro i x H3 H4 hi ⟨s3, hd⟩ ⟨T, y, z, rfl, hT, rfl, hy, hz'⟩
      rw [ul] at hi
      have hiv : i < v.length := hl ▸ hi
      replace hy : (u.map V.int)[i]? = some y := hy
      replace hz' : (v.map V.int)[i]? = some z := hz'
      rw [List.getElem?_map, List.getElem?_eq_getElem hi] at hy
      rw [List.getElem?_map, List.getElem?_eq_getElem hiv] at hz'
      cases hy
      cases hz'
      have b1 := hu _ (List.getElem_mem hi)
      have b2 := hv _ (List.getElem_mem hiv)
      have TD : T ≠ D := fun z => by rw [z, hd] at hT; cases hT
      have e1 : u[i] + 1 * v[i] = u[i] + v[i] := by omega
      have e2 : plusV (u.take (i + 1)) (v.take (i + 1)) = plusV (u.take i) (v.take i) ++ [u[i] + v[i]] := by
        unfold plusV
        rw [List.take_add_one, List.take_add_one, List.getElem?_eq_getElem hi, List.getElem?_eq_getElem hiv, List.zipWith_append (by rw [List.length_take, List.length_take, hl])]
        rfl
      refine ⟨T, _, rfl, SqT.of upd_same, rfl, _, _, rfl, _, _, rfl, rfl, rfl, ?_⟩
      refine ⟨_, rfl, _, rfl, _, rfl, _, _, rfl, rfl, .inl ⟨by decide, by decide⟩, _, _, rfl, rfl, ?_⟩
      refine ⟨_, by rw [upd_ne TD.symm]; exact hd, by rw [List.length_map, plusV, List.length_zipWith, List.length_take, sizeLine_eq]; omega, same_at (same_at s3 (s3.free hT)) hD, ?_⟩
      rw [upd_same, e2, List.map_append, ← e1] <;> rfl
    · rintro H3 ⟨s3, hd⟩
      rw [ul, List.take_length, hl, List.take_length] at hd
      refine ⟨D, _, rfl, .inl ⟨SqL.of hd, fun t ht => ?_⟩⟩
      exact q t _ (s3.free ht) (same_two s3 ht) upd_same
end
end WK
set_option Elab.async false
set_option linter.all false
set_option maxRecDepth 100000
set_option maxHeartbeats 8000000
namespace WK
open PySem L2 PyProof.Rows LCX K1
open TX (sg sigs)
open PySem.W (Frag kitOne)
open RZ (ItzT pi_zipA)
def plusT (k : Int) (u v : List Int) : List Int := List.zipWith (fun x y => x + k * y) u v
def spPlusT : Sp := fun vs H Q _ => ∃ (a b : Addr) (u v : List Int) (k : Int), vs = [.ref a, .ref b, .int k] ∧ H a = some (oTup u) ∧ H b = some (oTup v) ∧ u.length = v.length ∧ u.length ≤ 26 ∧ (-(2 ^ 64) < k ∧ k < 2 ^ 64) ∧ ∀ (t : Addr) (H' : Hp), H t = none → Same H H' → H' t = some (oTup (plusT k u v)) → Q (.ref t) H'
section
variable {P : Program} {w : World} {K : PySem.W.Frag} {mg : Str → Option Value} {base : Heap}
theorem ok_plusT {f : Addr} {oc kV dc pm ct cd dV : Value} {an od : Option Addr} {sl : Array (Option Value)} (lk : K.lookup f = some ⟨oc, od, .func (PySem.W.fnOf "plus" "plus" (defArgs sPlus) (defBody sPlus) (defScope sPlus) dV kV dc pm an cd ct), sl⟩) (hcd : PySem.W.codeIn K cd "plus" = true) (T : TN mg) :
    FnOk P w K mg base CX0 1 f (PySem.W.fnOf "plus" "plus" (defArgs sPlus) (defBody sPlus) (defScope sPlus) dV kV dc pm an cd ct) ["one", "other", "times"] spPlusT := by
  refine fn_of lk hcd scPl (fun vs H Q E h => ?_) (fun A outer s H vs Q E hr h => ?_)
  · obtain ⟨a, b, u, v, k, rfl, _⟩ := h
    rfl
  · obtain ⟨a, b, u, v, k, rfl, ha, hb, hl, hn, hk, q⟩ := h
    refine ⟨_, pss_one (ps_ret (pe_callTy call_tuple_of (by rfl) T.tuple (by decide +kernel) (pa_cons (pe_lc (own := [("left", 3), ("right", 4)]) (g := gTup K 2 (gCons (gName 3) (gCons (gName 4) gNil))) (tt := tYes) rfl scPl.nd (pi_zipA rfl T.zip (pa_cons (pv 0) (pa_cons (pv 1) pa_nil)))
        (blkOk_by (own := [("left", 3), ("right", 4)]) (N := NPl) (sc := defScope sPlus) (by decide +kernel)) (fun _ _ _ _ _ => pg_tup (by rfl) (pgs_cons (pg_name (i := 3) scPl.nd rfl (Or.inl rfl)) (pgs_cons (pg_name (i := 4) scPl.nd rfl (Or.inl rfl)) pgs_nil))) (fun _ _ _ _ _ => pts_nil)
        (fun _ _ _ _ _ => pe_op op_add (pv 3) (pe_op op_mul (pv 2) (pv 4)))) pa_nil))), ?_⟩
    have hz : (u.map V.int).length = (v.map V.int).length := by rw [List.length_map, List.length_map, hl]
    refine ⟨_, rfl, _, rfl, a, b, _, _, rfl, .inr ⟨SqT.of ha, SqT.of hb, fun D hD => ?_⟩⟩
    have ul : (u.map V.int).length = u.length := List.length_map _
    refine lc_it (walk_zipTT hz) (fun i H3 => Same H H3 ∧ H3 D = some (.lst ((plusT k (u.take i) (v.take i)).map V.int))) ⟨same_upd hD, upd_same⟩ (fun i H3 _ p => ⟨SqT.of (p.1 _ _ ha), SqT.of (p.1 _ _ hb)⟩) ?_ ?_
    · rintro i x H3 H4 hi ⟨s3, hd⟩ ⟨T, y, z, rfl, hT, rfl, hy, hz'⟩
      rw [ul] at hi
      have hiv : i < v.length := hl ▸ hi
      replace hy : (u.map V.int)[i]? = some y := hy
      replace hz' : (v.map V.int)[i]? = some z := hz'
      rw [List.getElem?_map, List.getElem?_eq_getElem hi] at hy
      rw [List.getElem?_map, List.getElem?_eq_getElem hiv] at hz'
      cases hy
      cases hz'
      have TD : T ≠ D := fun z => by rw [z, hd] at hT; cases hT
      have e2 : plusT k (u.take (i + 1)) (v.take (i + 1)) = plusT k (u.take i) (v.take i) ++ [u[i] + k * v[i]] := by
        unfold plusT
        rw [List.take_add_one, List.take_add_one, List.getElem?_eq_getElem hi, List.getElem?_eq_getElem hiv, List.zipWith_append (by rw [List.length_take, List.length_take, hl])]
        rfl
      refine ⟨T, _, rfl, SqT.of upd_same, rfl, _, _, rfl, _, _, rfl, rfl, rfl, ?_⟩
      refine ⟨_, rfl, _, rfl, _, rfl, _, _, rfl, rfl, .inl hk, _, _, rfl, rfl, ?_⟩
      refine ⟨_, by rw [upd_ne TD.symm]; exact hd, by rw [List.length_map, plusT, List.length_zipWith, List.length_take, sizeLine_eq]; omega, same_at (same_at s3 (s3.free hT)) hD, ?_⟩
      rw [upd_same, e2, List.map_append] <;> rfl
    · rintro H3 ⟨s3, hd⟩
      rw [ul, List.take_length, hl, List.take_length] at hd
      refine ⟨D, _, rfl, .inl ⟨SqL.of hd, fun t ht => ?_⟩⟩
      exact q t _ (s3.free ht) (same_two s3 ht) upd_same
end
end WK
set_option Elab.async false
set_option linter.all false
set_option maxRecDepth 100000
set_option maxHeartbeats 8000000
namespace WK
open PySem L2 PyProof.Rows K1
open TX (sg sigs)
open Walks
open PySem.W (Frag kitOne)
abbrev sCounts : Stmt := top 40
def spCounts : Sp := fun vs H Q _ => ∃ L u : W, vs = [.str (tx L), .str (tx u)] ∧ Let L ∧ Low u ∧ u.length < 64 ∧ (∀ c ∈ u, c ∈ L) ∧ ∀ t H', H t = none → Same H H' → H' t = some (.tup (L.map fun c => .int (u.count c : Int))) → Q (.ref t) H'
theorem mulOk_w {u : W} {n : Int} (hu : u.length ≤ 60) (h0 : 0 ≤ n) (h1 : n ≤ 60) : MulOk (tx u) n := mulOk_of 60 60 (by rw [tx_len]; exact hu) h1 (by omega) (by decide) (by decide)
theorem cut_to (u : W) (i : Nat) : cutS (tx u) none (some (i : Int)) = tx (u.take i) := by
  unfold cutS
  rw [tx_len, tx_list]
  have h1 : HT.sIx u.length 0 none = 0 := rfl
  have h2 : HT.sIx u.length u.length (some (i : Int)) = min i u.length := by
    unfold HT.sIx
    simp
    try omega
  rw [h1, h2, List.drop_zero, Nat.sub_zero]
  show (⟨_⟩ : Str) = ⟨_⟩
  congr 2
  by_cases h : i ≤ u.length
  · rw [Nat.min_eq_left h]
  · rw [Nat.min_eq_right (by omega), List.take_of_length_le (Nat.le_refl _), List.take_of_length_le (by omega)]
section
variable {P : Program} {w : World} {K : PySem.W.Frag} {mg : Str → Option Value} {base : Heap}
variable {fNL fNW fNO fNN : Addr} {dNL dNW dNO dNN : FuncData}
theorem scCo : FnScope ["letters", "word", "letter"] ["letters", "word"] (defScope sCounts) := ⟨rfl, rfl, rfl, by decide +kernel, rfl, by decide +kernel, by decide +kernel⟩
theorem ok_counts {f : Addr} {fd : FuncData} (F : Fun K "counts" "counts" sCounts f fd) (T : TN mg) (AL : Fn K mg "need_letters" sNeedLet ["letters"] fNL dNL) (GL : FnOk P w K mg base CX0 3 fNL dNL ["letters"] spNeedLet)
    (AW : Fn K mg "need_word" sNeedWord ["word"] fNW dNW) (GW : FnOk P w K mg base CX0 2 fNW dNW ["word"] spNeedWord)
    (AO : Fn K mg "need_over" sNeedOver ["letters", "word"] fNO dNO) (GO : FnOk P w K mg base CX0 2 fNO dNO ["letters", "word"] spNeedOver) : FnOk P w K mg base CX0 4 f fd ["letters", "word"] spCounts := by
  refine F.ok scCo (fun vs H Q E h => ?_) (fun cdv A outer s H vs Q E hr h => ?_)
  · obtain ⟨L, u, rfl, _⟩ := h
    rfl
  · obtain ⟨L, u, rfl, hL, hu, hl, hc, q⟩ := h
    have hr2 : Room 2 _ := hr.mono (by decide)
    refine ⟨_, pss_cons (ps_expr (pe_call GL hr rfl AL.g AL.F.kp AL.b .nil pass0 (pa_cons (pv 0) pa_nil)))
      (pss_cons (ps_expr (pe_call GW hr2 rfl AW.g AW.F.kp AW.b .nil pass0 (pa_cons (pv 1) pa_nil)))
      (pss_cons (ps_expr (pe_call GO hr2 rfl AO.g AO.F.kp AO.b .nil pass0 (pa_cons (pv 0) (pa_cons (pv 1) pa_nil))))
      (pss_one (ps_ret (pe_callTy call_tuple_of (by rfl) T.tuple (by decide +kernel) (pa_cons (pe_lc (own := [("letter", 2)]) (g := gName 2) (tt := tYes) rfl scCo.nd (pi_str (pv 0))
        (blkOk_by (own := [("letter", 2)]) (N := ["letters", "word", "letter"]) (sc := defScope sCounts) (by decide +kernel)) (fun _ _ _ _ _ => pg_name (i := 2) scCo.nd rfl (Or.inl rfl)) (fun _ _ _ _ _ => pts_nil)
        (fun _ _ _ _ _ => pe_m1 PySem.F.slot_str_count PySem.F.type_str_count mt_count (pv 1) (pv 2))) pa_nil)))))), ?_⟩
    refine ⟨_, rfl, L, rfl, hL, fun H1 s1 => ⟨_, rfl, u, rfl, hu, _, rfl, _, rfl, L, u, rfl, hl, hc, fun H2 s2 => ?_⟩⟩
    refine ⟨_, rfl, tx L, rfl, fun D hD => ?_⟩
    have sz : (tx L).cps.size = L.length := size_tx L
    refine lc_it walk_str (fun i H3 => Same H2 H3 ∧ H3 D = some (.lst ((L.take i).map fun c => .int (u.count c : Int)))) ⟨same_upd hD, upd_same⟩ (fun _ _ _ _ => trivial) ?_ ?_
    · rintro i x H3 H4 hi ⟨s3, hd⟩ ⟨rfl, c, hx, rfl⟩
      have hx' : L[i]? = some c := by
        rw [← Array.getElem?_toList, tx_list] at hx
        exact hx
      refine ⟨rfl, _, rfl, ⟨_, rfl⟩, _, rfl, tx u, sg c, rfl, rfl, _, hd, ?_, same_at s3 hD, ?_⟩
      · rw [List.length_map, List.length_take, sizeLine_eq]
        have := hL.few
        omega
      · rw [count_tx, upd_same, List.take_add_one, hx', List.map_append] <;> rfl
    · rintro H3 ⟨s3, hd⟩
      rw [sz, List.take_length] at hd
      have sD : Same H H3 := s1.trans (s2.trans s3)
      exact ⟨D, _, rfl, .inl ⟨SqL.of hd, fun t ht => q t _ (sD.free ht) (same_two sD ht) upd_same⟩⟩
end
end WK
set_option Elab.async false
set_option linter.all false
set_option maxRecDepth 100000
set_option maxHeartbeats 8000000
namespace WK
open PySem L2 PyProof.Rows LCX
open PySem.W (Frag kitOne)
abbrev sMInit : Stmt := inClass (top 44) 0
def plainTys : List String := ["tuple", "list", "str", "NoneType", "int", "bool"]
theorem NT.ty2 {K : Frag} {H : Hp} {v : V} (h : NT H v) : ∃ t, t ∈ plainTys ∧ TyX K H v (.type t) ∧ kitOne K (.type t) (.type "tuple") = some false := by
  rcases h with ⟨x, rfl⟩ | rfl | ⟨i, rfl⟩ | ⟨b, rfl⟩ | ⟨a, xs, rfl, q⟩
  · exact ⟨_, by decide, .base (.str _), kit_ty (by decide +kernel)⟩
  · exact ⟨_, by decide, .base .non, kit_ty (by decide +kernel)⟩
  · exact ⟨_, by decide, .base (.int _), kit_ty (by decide +kernel)⟩
  · exact ⟨_, by decide, .base (.bl _), kit_ty (by decide +kernel)⟩
  · exact ⟨_, by decide, .base (.lst q), kit_ty (by decide +kernel)⟩
/-- the class Machine at C, the class Made at cD, the error at cM -/
structure TMc (K : Frag) (mg : Str → Option Value) (C cD cM : Addr) : Prop where
  cl : Cls K C
  nT : NoAttr K C "_table"
  nL : NoAttr K C "_letters"
  nE : NoAttr K C "_ends"
  gC : mg "Machine" = some (.ref C)
  gD : mg "Made" = some (.ref cD)
  iD : ∀ t ∈ plainTys, kitOne K (.type t) (.ref cD) = some false
  gM : mg "InvalidMachine" = some (.ref cM)
  xM : PySem.W.excIn K cM [.type "ValueError", .type "Exception", .type "BaseException", .type "object"] "ValueError.__new__" = true
  kM : PySem.W.keepIn K (.ref cM) = true
  bM : PySem.W.subIn K (.ref cM) (.type "BaseException") = some true
  tM : PySem.W.typeIn K (.ref cM) = some (.type "type")
  most : ∃ t, mg "MAX_STATES" = some (.int 4 t)
/-- its fields -/
def mfl (lt tb en : V) : List (Str × V) := [("_table", tb), ("_letters", lt), ("_ends", en)]
/-- what is handed in: letters (none: no text), a table (none: no tuple), ends (none: no tuple) -/
def LetV (v : V) : Option Str → Prop
  | some x => v = .str x ∧ x.length ≤ 1000
  | none => v = .non
def TabV (K : Frag) (H : Hp) (v : V) : Option (List (Option (List V))) → Prop
  | some rs => ∃ a xs, v = .ref a ∧ SqT K H a xs ∧ xs.length ≤ 100 ∧ Rows K H xs rs
  | none => NT H v
def letO : Option Str → Bool
  | some x => letB x
  | none => false
def tabO (wd : Int) : Option (List (Option (List V))) → Bool
  | some rs => tabB rs wd 4
  | none => false
def ascO (m : Int) : Option (List V) → Bool
  | some xs => ascV xs m
  | none => false
def lenO {α : Type} : Option (List α) → Int
  | some l => l.length
  | none => 0
def lenX : Option Str → Int
  | some x => x.length
  | none => 0
def madeB (lt : Option Str) (tb : Option (List (Option (List V)))) (en : Option (List V)) : Bool := letO lt && tabO (lenX lt) tb && ascO (lenO tb) en
def spMInit (K : Frag) (C cM : Addr) : Sp := fun vs H Q E => ∃ p dx l t e lt tb en, vs = [.ref p, l, t, e] ∧ H p = some (.ins C dx []) ∧ LetV l lt ∧ TabV K H t tb ∧ RowV K H e en ∧
  ((madeB lt tb en = true ∧ ∀ H', H' p = some (.ins C dx (mfl l t e)) → (∀ b o, H b = some o → b ≠ p → H' b = some o) → Q .non H') ∨ (madeB lt tb en = false ∧ ∀ H', (∀ b o, H b = some o → b ≠ p → H' b = some o) → E (.ref cM) none H'))
theorem put2 (l t : V) : putF "_letters" l (putF "_table" t []) = ([("_table", t), ("_letters", l)] : List (Str × V)) := by
  show (if ("_table" : Str) = "_letters" then [(("_table" : Str), l)] else (("_table" : Str), t) :: putF "_letters" l []) = ([("_table", t), ("_letters", l)] : List (Str × V))
  rw [if_neg (by decide +kernel)]
  all_goals rfl
theorem put3 (l t e : V) : putF "_ends" e ([("_table", t), ("_letters", l)] : List (Str × V)) = mfl l t e := by
  show (if ("_table" : Str) = "_ends" then [(("_table" : Str), e), ("_letters", l)] else (("_table" : Str), t) :: (if ("_letters" : Str) = "_ends" then [(("_letters" : Str), e)] else (("_letters" : Str), l) :: putF "_ends" e [])) = mfl l t e
  rw [if_neg (by decide +kernel), if_neg (by decide +kernel)]
  all_goals rfl
theorem made_s (x : Str) (tb : Option (List (Option (List V)))) (en : Option (List V)) : madeB (some x) tb en = (letB x && tabO x.length tb && ascO (lenO tb) en) := rfl
theorem made_t (x : Str) (rs : List (Option (List V))) (en : Option (List V)) : madeB (some x) (some rs) en = (letB x && tabB rs x.length 4 && ascO rs.length en) := rfl
theorem sq_ins {K : Frag} {H : Hp} {a p C dx : Addr} {xs : List V} {fs : List (Str × V)} {o : HO} (h : SqT K H a xs) (hp : H p = some (.ins C dx fs)) : SqT K (upd H p o) a xs := by
  rcases h with h | h
  · rcases h with h | ⟨ob, h⟩
    · exact .inl (.inl (by rw [upd_ne (ne_of h hp (fun z => nomatch z))]; exact h))
    · exact .inl (.inr ⟨ob, by rw [upd_ne (ne_of h hp (fun z => nomatch z))]; exact h⟩)
  · exact .inr h
theorem NT.ins {H : Hp} {v : V} {p C dx : Addr} {fs : List (Str × V)} {o : HO} (h : NT H v) (hp : H p = some (.ins C dx fs)) : NT (upd H p o) v := by
  rcases h with h | h | h | h | ⟨a, xs, h, q⟩
  · exact .inl h
  · exact .inr (.inl h)
  · exact .inr (.inr (.inl h))
  · exact .inr (.inr (.inr (.inl h)))
  · exact .inr (.inr (.inr (.inr ⟨a, xs, h, by rw [upd_ne (ne_of q hp (fun z => nomatch z))]; exact q⟩)))
theorem RowV.ins {K : Frag} {H : Hp} {v : V} {r : Option (List V)} {p C dx : Addr} {fs : List (Str × V)} {o : HO} (h : RowV K H v r) (hp : H p = some (.ins C dx fs)) : RowV K (upd H p o) v r := by
  cases r with
  | none => exact NT.ins h hp
  | some xs =>
    obtain ⟨a, e, t, l, q⟩ := h
    exact ⟨a, e, sq_ins t hp, l, q⟩
section
variable {P : Program} {w : World} {K : PySem.W.Frag} {mg : Str → Option Value} {base : Heap} {C cD cM fL fT fA : Addr} {dL dT dA : FuncData}
theorem scMI : FnScope ["self", "letters", "table", "ends"] ["self", "letters", "table", "ends"] (defScope sMInit) := ⟨rfl, rfl, rfl, by decide +kernel, rfl, by decide +kernel, by decide +kernel⟩
theorem ok_minit {f : Addr} {oc kV dc pm ct cd dV : Value} {an od : Option Addr} {sl : Array (Option Value)} (lk : K.lookup f = some ⟨oc, od, .func (PySem.W.fnOf "__init__" "Machine.__init__" (defArgs sMInit) (defBody sMInit) (defScope sMInit) dV kV dc pm an cd ct), sl⟩) (hcd : PySem.W.codeIn K cd "Machine.__init__" = true)
    (T : TN mg) (M : TMc K mg C cD cM) (AL : Fn K mg "is_letters" sIsLet ["value"] fL dL) (GL : FnOk P w K mg base CX0 2 fL dL ["value"] (spIsLet K)) (AT : Fn K mg "is_table" sIsTab ["value", "width", "most"] fT dT) (GT : FnOk P w K mg base CX0 4 fT dT ["value", "width", "most"] (spTab K))
    (AA : Fn K mg "is_ascending" sIsAsc ["value", "many"] fA dA) (GA : FnOk P w K mg base CX0 3 fA dA ["value", "many"] (spIsAsc K)) :
    FnOk P w K mg base (L2.CX P w) 5 f (PySem.W.fnOf "__init__" "Machine.__init__" (defArgs sMInit) (defBody sMInit) (defScope sMInit) dV kV dc pm an cd ct) ["self", "letters", "table", "ends"] (spMInit K C cM) := by
  obtain ⟨tm, most⟩ := M.most
  refine fn_of lk hcd scMI (fun vs H Q E h => ?_) (fun A outer s H vs Q E hr h => ?_)
  · obtain ⟨p, dx, l, t, e, _, _, _, rfl, _⟩ := h
    rfl
  · obtain ⟨p, dx, l, t, e, lt, tb, en, rfl, hp, hl, ht, he, q⟩ := h
    have hr3 : Room 3 _ := hr.mono (by decide)
    have hr2 : Room 2 _ := hr.mono (by decide)
    refine ⟨_, pss_cons (ps_if (pt_not (pt_val (pe_call GL hr2 rfl AL.g AL.F.kp AL.b .nil pass0 (pa_cons (pv 1) pa_nil)))) (pss_one (ps_raise rfl (takes_of rfl rfl rfl rfl) (pmk_own PySem.F.excBase_ValueError M.xM M.gM M.kM (raises_own M.bM M.tM) rfl))) pss_nil)
      (pss_cons (ps_if (pt_val (pe_callB call_isi (by rfl) T.isi (by decide +kernel) (pa_cons (pv 2) (pa_cons (pe_glob rfl M.gD (show RelV (.ref cD) (.ref cD) from rfl)) pa_nil)))) (pss_one (ps_fld (pv 0) (pe_fld (pv 2) rfl) rfl))
        (pss_one (ps_if (pt_val (pe_call GT hr rfl AT.g AT.F.kp AT.b .nil pass0 (pa_cons (pv 2) (pa_cons (pe_callB call_len_str (by rfl) T.len PySem.boot_len (pa_cons (pv 1) pa_nil)) (pa_cons (pe_glob rfl most (show RelV (.int 4) (.int 4 tm) from ⟨tm, rfl⟩)) pa_nil)))))
          (pss_one (ps_fld (pv 0) (pv 2) rfl)) (pss_one (ps_raise rfl (takes_of rfl rfl rfl rfl) (pmk_own PySem.F.excBase_ValueError M.xM M.gM M.kM (raises_own M.bM M.tM) rfl))))))
      (pss_cons (ps_if (pt_not (pt_val (pe_call GA hr3 rfl AA.g AA.F.kp AA.b .nil pass0 (pa_cons (pv 3) (pa_cons (pe_callB call_len_seq (by rfl) T.len PySem.boot_len (pa_cons (pe_fld (pv 0) rfl) pa_nil)) pa_nil))))) (pss_one (ps_raise rfl (takes_of rfl rfl rfl rfl) (pmk_own PySem.F.excBase_ValueError M.xM M.gM M.kM (raises_own M.bM M.tM) rfl))) pss_nil)
      (pss_cons (ps_fld (pv 0) (pv 1) rfl) (pss_one (ps_fld (pv 0) (pv 3) rfl))))), ?_⟩
    have qT : madeB lt tb en = true → ∀ H', H' p = some (.ins C dx (mfl l t e)) → (∀ b o, H b = some o → b ≠ p → H' b = some o) → Q .non H' := fun h => q.elim (·.2) fun z => absurd (h.symm.trans z.1) (fun y => nomatch y)
    have qF : madeB lt tb en = false → ∀ H', (∀ b o, H b = some o → b ≠ p → H' b = some o) → E (.ref cM) none H' := fun h => q.elim (fun z => absurd (z.1.symm.trans h) (fun y => nomatch y)) (·.2)
    clear q
    cases lt with
    | none =>
      obtain rfl : l = .non := hl
      exact ⟨_, rfl, _, rfl, .inr ⟨⟨"NoneType", .base .non, kit_ty (by decide +kernel)⟩, _, rfl, qF rfl _ fun b o z _ => z⟩⟩
    | some x =>
      obtain ⟨rfl, hx⟩ := hl
      refine ⟨_, rfl, _, rfl, .inl ⟨x, rfl, hx, fun H1 s1 => ⟨_, rfl, ?_⟩⟩⟩
      cases e1 : letB x with
      | false => exact qF (by rw [made_s, e1] <;> rfl) _ fun b o z _ => s1 _ _ z
      | true =>
        have hz : x.length ≤ sizeLine := by rw [sizeLine_eq]; omega
        cases tb with
        | none =>
          obtain ⟨ty, ht1, ht2, ht3⟩ := NT.ty2 (K := K) (NT.ext (show NT H t from ht) s1)
          refine ⟨_, rfl, _, _, _, _, false, rfl, .own cD, ht2, M.iD ty ht1, false, rfl, ?_⟩
          refine ⟨_, rfl, _, rfl, _, rfl, hz, t, _, _, rfl, .inr ⟨NT.ext (show NT H t from ht) s1, _, rfl, ?_⟩⟩
          exact qF (by rw [made_s, show tabO x.length none = false from rfl, Bool.and_false] <;> rfl) _ fun b o z _ => s1 _ _ z
        | some rs =>
          obtain ⟨a, xs, rfl, hT, hxl, hR⟩ := ht
          refine ⟨_, rfl, _, _, _, _, false, rfl, .own cD, tyT (seqT s1 hT), M.iD _ (by decide), false, rfl, ?_⟩
          refine ⟨_, rfl, _, rfl, _, rfl, hz, .ref a, _, _, rfl, .inl ⟨a, xs, rs, rfl, seqT s1 hT, hxl, hR.ext s1, fun H2 s2 => ⟨_, rfl, ?_⟩⟩⟩
          have s02 : Same H H2 := s1.trans s2
          cases e2 : tabB rs x.length 4 with
          | false => exact qF (by rw [made_t, e2, Bool.and_false] <;> rfl) _ fun b o z _ => s02 _ _ z
          | true =>
            have hp2 : H2 p = some (.ins C dx []) := s02 _ _ hp
            refine ⟨_, rfl, _, rfl, p, C, dx, [], rfl, hp2, M.cl, M.nT, (by decide), ?_⟩
            refine ⟨_, rfl, _, rfl, p, C, dx, _, _, rfl, upd_same, M.cl, M.nT, rfl, a, xs, rfl, .inr (sq_ins (seqT s02 hT) hp2), ?_⟩
            have hN : ∀ H3, Same (upd H2 p (.ins C dx (putF "_table" (V.ref a) []))) H3 → ∀ b o, H b = some o → b ≠ p → H3 b = some o := fun H3 s3 b o z n => s3 _ _ (by rw [upd_ne n]; exact s02 _ _ z)
            have he2 : RowV K (upd H2 p (.ins C dx (putF "_table" (V.ref a) []))) e en := (RowV.ext he s02).ins hp2
            have hlen : xs.length = rs.length := hR.len
            have hp3 : (upd H2 p (.ins C dx (putF "_table" (V.ref a) []))) p = some (.ins C dx (putF "_table" (V.ref a) [])) := upd_same
            cases en with
            | none => exact ⟨e, _, rfl, .inr ⟨he2, _, rfl, qF (by rw [made_t, show ascO rs.length none = false from rfl, Bool.and_false]) _ (hN _ (Same.refl _))⟩⟩
            | some ys =>
              obtain ⟨b, rfl, hE, hyl, hyn⟩ := he2
              refine ⟨_, _, rfl, .inl ⟨b, ys, rfl, hE, hyl, hyn, fun H3 s3 => ⟨_, rfl, ?_⟩⟩⟩
              rw [hlen]
              cases e3 : ascV ys (rs.length : Int) with
              | false => exact qF (by rw [made_t, show ascO rs.length (some ys) = ascV ys rs.length from rfl, e3, Bool.and_false]) _ (hN _ s3)
              | true =>
                refine ⟨_, rfl, _, rfl, p, C, dx, _, rfl, s3 _ _ hp3, M.cl, M.nL, (by show 1 < 1000; decide), ?_⟩
                refine ⟨_, rfl, _, rfl, p, C, dx, _, rfl, upd_same, M.cl, M.nE, (by rw [put2]; show 2 < 1000; decide), ?_⟩
                refine qT (by rw [made_t, show ascO rs.length (some ys) = ascV ys rs.length from rfl, e1, e2, e3] <;> rfl) _ (by rw [upd_same, put2, put3]) fun c o z n => ?_
                rw [upd_ne n, upd_ne n]
                exact hN _ s3 c o z n
end
end WK
set_option Elab.async false
set_option linter.all false
set_option maxRecDepth 100000
set_option maxHeartbeats 8000000
namespace WK
open PySem L2 PyProof.Rows LCX K1
open TX (sg sigs)
open PySem.W (Frag kitOne)
abbrev kL : Key := Sum.inr "letters"
abbrev kTb : Key := Sum.inr "table"
abbrev kE : Key := Sum.inr "ends"
/-- a plain machine's dict -/
def pkv (L : W) (lt le : Addr) : List (Key × V) := [(kL, .str (tx L)), (kTb, .ref lt), (kE, .ref le)]
/-- ascending numbers from 0 to n -/
def Asc (n : Int) (es : List Int) : Prop := Bel n es ∧ es.Pairwise (· < ·)
structure PlainM (H : Hp) (m : Addr) (L : W) (tb : List (List Int)) (es : List Int) : Prop where
  ex : ∃ lt le, H m = some (.dK (pkv L lt le)) ∧ PTab H lt tb ∧ H le = some (.lst (es.map V.int))
structure MacOk (L : W) (tb : List (List Int)) (es : List Int) (n : Int) : Prop where
  tab : TabOk tb L.length n
  asc : Asc n es
  one : 1 ≤ n
/-- a plain machine's lists are not at p -/
def OffP (H : Hp) (m p : Addr) (L : W) : Prop := ∀ lt l, H m = some (.dK (pkv L lt l)) → lt ≠ p ∧ l ≠ p
theorem pkv_inj {L : W} {a b c d : Addr} (h : pkv L a b = pkv L c d) : a = c ∧ b = d := by
  injection h with _ h
  injection h with h1 h
  injection h with h2 _
  injection h1 with _ h1
  injection h2 with _ h2
  injection h1 with h1
  injection h2 with h2
  exact ⟨h1, h2⟩
def spLMac : Sp := fun vs H Q _ => ∃ (p : Addr) (L : W) (n : Int), vs = [.ref p, .str (tx L), .int n] ∧ DiceAt H p ∧ L ≠ [] ∧ L.length ≤ 26 ∧ 1 ≤ n ∧ n ≤ 50 ∧
  ∀ (m : Addr) (tb : List (List Int)) (es : List Int) (z : Int) (H' : Hp), H m = none → m ≠ p → DiceAt H' p → But p H H' → PlainM H' m L tb es → OffP H' m p L → MacOk L tb es z → z ≤ n → Q (.ref m) H'
abbrev NMa : List Str := ["_law_dice_here", "_law_letters_here", "_law_states", "_law_size", "_law_table_here", "_law_ends", "_law_state"]
theorem PTab.same {H H' : Hp} {l : Addr} {tb : List (List Int)} (h : PTab H l tb) (s : Same H H') : PTab H' l tb := by
  obtain ⟨as, h1, h2⟩ := h
  exact ⟨as, s _ _ h1, h2.to fun a _ r e => s _ _ e⟩
theorem merge3 (a b c : V) : mergeK [] ([(kL, a), (kTb, b), (kE, c)] : List (Key × V)) = [(kL, a), (kTb, b), (kE, c)] := by
  have h1 : decide ((kL : Key) = kTb) = false := by decide +kernel
  have h2 : decide ((kL : Key) = kE) = false := by decide +kernel
  have h3 : decide ((kTb : Key) = kE) = false := by decide +kernel
  show putK (putK (putK [] kL a) kTb b) kE c = _
  have e1 : putK ([] : List (Key × V)) kL a = [(kL, a)] := rfl
  have e2 : putK [(kL, a)] kTb b = [(kL, a), (kTb, b)] := by
    unfold putK
    rw [List.any_cons, h1]
    rfl
  have e3 : putK [(kL, a), (kTb, b)] kE c = [(kL, a), (kTb, b), (kE, c)] := by
    unfold putK
    rw [List.any_cons, List.any_cons, h2, h3]
    rfl
  rw [e1, e2, e3]
section
variable {P : Program} {w : World} {K : PySem.W.Frag} {mg : Str → Option Value} {base : Heap} {fR fO fA fT : Addr} {dR dO dA dT : FuncData}
theorem scMa : FnScope NMa ["_law_dice_here", "_law_letters_here", "_law_states"] (defScope sLMac) := ⟨rfl, rfl, rfl, by decide +kernel, rfl, by decide +kernel, by decide +kernel⟩
theorem ok_lmac {f : Addr} {fd : FuncData} (F : Fun K "_law_machine" "_law_machine" sLMac f fd) (T : TN mg) (AR : Fn K mg "_law_roll" sRoll ["_law_dice_here", "_law_total"] fR dR) (AT : Fn K mg "_law_table" sLTab ["_law_dice_here", "_law_letters_here", "_law_size", "_law_sorts"] fT dT)
    (GT : FnOk P w K mg base CX0 3 fT dT ["_law_dice_here", "_law_letters_here", "_law_size", "_law_sorts"] spLTab) : FnOk P w K mg base CX0 4 f fd ["_law_dice_here", "_law_letters_here", "_law_states"] spLMac := by
  have GR : FnOk P w K mg base CX0 1 fR dR ["_law_dice_here", "_law_total"] spRoll := ok_roll AR.F T.dice
  refine F.ok scMa (fun vs H Q E h => ?_) (fun cdv A outer s H vs Q E hr h => ?_)
  · obtain ⟨p, L, n, rfl, _⟩ := h
    rfl
  · obtain ⟨p, L, n, rfl, hD, hL, hL2, h1, h50, k⟩ := h
    have hr1 : Room 1 _ := hr.mono (by decide)
    refine ⟨_, pss_cons (ps_set (i := 3) scMa.nd rfl (Or.inl rfl) (pe_op op_add pe_int (pe_call GR hr1 rfl AR.g AR.F.kp AR.b .nil pass0 (pa_cons (pv 0) (pa_cons (pv 2) pa_nil)))))
      (pss_cons (ps_set (i := 4) scMa.nd rfl (Or.inl rfl) (pe_call GT hr rfl AT.g AT.F.kp AT.b .nil pass0 (pa_cons (pv 0) (pa_cons (pv 1) (pa_cons (pv 3) (pa_cons (pe_lst (pa_cons pe_int (pa_cons pe_int (pa_cons pe_int (pa_cons pe_int (pa_cons pe_int (pa_cons pe_int (pa_cons pe_int (pa_cons pe_int pa_nil))))))))) pa_nil))))))
      (pss_cons (ps_setLc (i := 5) (own := [("_law_state", 6)]) (g := gName 6) (tt := tTest (tOp rEq (tCall spRoll [] E0 (tCons (tVar 0) (tCons (tC (.int 2)) tNil))) (tC (.int 0)))) rfl scMa.nd rfl rfl (sw_true rfl rfl rfl (by decide +kernel)) (pi_range1 rfl T.rng (pa_cons (pv 3) pa_nil))
        (blkOk_by (own := [("_law_state", 6)]) (N := NMa) (sc := defScope sLMac) (by decide +kernel)) (fun _ _ _ _ _ => pg_name (i := 6) scMa.nd rfl (Or.inl rfl))
        (fun _ _ _ _ _ => pts_one (pt_cmpR op_eq (pe_call GR hr1 rfl AR.g AR.F.kp AR.b .nil pass0 (pa_cons (pv 0) (pa_cons pe_int pa_nil))) pe_int (nomark _))) (fun _ _ _ _ _ => pv 6))
      (pss_one (ps_ret (pe_disp (pps_cons pe_str (pv 1) (pps_cons pe_str (pv 4) (pps_cons pe_str (pv 5) pps_nil))) (by rfl) (by rfl) (fun z => by cases z) (by decide)))))), ?_⟩
    refine ⟨_, rfl, _, rfl, p, _, rfl, hD, by omega, by omega, fun r H1 r0 r1 hD1 hB1 => ⟨_, _, rfl, rfl, ?_⟩⟩
    refine ⟨_, rfl, _, rfl, _, rfl, by decide, fun q hq => ?_⟩
    refine ⟨p, q, L, 1 + r, [0, 1, 2, 3, 3, 4, 5, 6], rfl, hD1.new hq, hL, hL2, by omega, by omega, hD1.ne hq, upd_same, by decide, by decide, fun lt tb H3 hl lp hD3 hB3 ht tok => ?_⟩
    refine ⟨_, rfl, _, rfl, by omega, by omega, fun D hD4 => ?_⟩
    have Dp := hD3.ne hD4
    refine lc_range (lo := 0) (n := (1 + r).toNat) (fun i H4 => DiceAt H4 p ∧ But p H3 H4 ∧ ∃ es : List Int, es.length ≤ i ∧ H4 D = some (.lst (es.map V.int)) ∧ Asc i es) ⟨hD3.new hD4, but_two (But.refl p H3) hD4, [], Nat.le_refl _, upd_same, fun e he => (nomatch he), List.Pairwise.nil⟩ ?_ ?_
    · rintro i H4 hi ⟨hD4', hB4, es, hl4, hd, ha⟩
      refine ⟨rfl, _, rfl, p, _, rfl, hD4', by decide, by decide, fun c H5 c0 c1 hD5 hB5 => ⟨rfl, _, rfl, ?_⟩⟩
      have hd5 := hB5 _ _ hd Dp
      refine ite2 (fun _ => ?_) (fun _ => ?_)
      · refine ⟨_, rfl, _, hd5, by rw [List.length_map, sizeLine_eq]; omega, hD5.keep fun o e => by rw [upd_ne (Ne.symm Dp)]; exact e, but_at (hB4.trans hB5) hD4, es ++ [0 + (i : Int)], by rw [List.length_append, List.length_singleton]; omega, by rw [upd_same, List.map_append] <;> rfl, fun e he => ?_, ?_⟩
        · rcases List.mem_append.mp he with z | z
          · have := ha.1 e z
            omega
          · rw [List.mem_singleton.mp z]
            omega
        · refine List.pairwise_append.mpr ⟨ha.2, List.pairwise_singleton _ _, fun x hx y hy => ?_⟩
          rw [List.mem_singleton.mp hy]
          have := ha.1 x hx
          omega
      · exact ⟨hD5, hB4.trans hB5, es, by omega, hd5, fun e he => by have := ha.1 e he; omega, ha.2⟩
    · rintro H4 ⟨hD4', hB4, es, hl4, hd, ha⟩
      refine fun m hm => ⟨_, rfl, _, rfl, _, rfl, upd_same, pkv L lt D, rfl, (by show 3 ≤ 15; decide), ?_⟩
      have Dm : D ≠ m := ne_of_none hd hm
      have ht4 : PTab H4 lt tb := ht.but lp hD3 hB4
      have hBm : But p H (upd (upd H4 m (.dK [])) m (.dK (mergeK [] (pkv L lt D)))) := by
        rw [upd_upd]
        exact but_two (((hB1.trans (but_two (But.refl _ _) hq)).trans hB3).trans hB4) hm
      have nm : H m = none := but_free (((hB1.trans (but_two (But.refl _ _) hq)).trans hB3).trans hB4) hm (hD4'.ne hm)
      refine k m tb es (1 + r) _ nm (hD4'.ne hm) (by rw [upd_upd]; exact hD4'.new hm) hBm ⟨lt, D, ?_, ?_, ?_⟩ (fun a b e => ?_) ⟨tok, ⟨fun e he => by have := ha.1 e he; omega, ha.2⟩, by omega⟩ (by omega)
      · rw [upd_same, pkv, merge3]
      · rw [upd_upd]
        exact ht4.same (same_upd hm)
      · rw [upd_upd, upd_ne Dm]
        exact hd
      · rw [upd_same, pkv, merge3] at e
        injection e with e
        injection e with e
        obtain ⟨rfl, rfl⟩ := pkv_inj (L := L) e
        exact ⟨lp, Dp⟩
end
end WK
set_option Elab.async false
set_option linter.all false
set_option maxRecDepth 100000
set_option maxHeartbeats 8000000
namespace WK
open PySem L2 PyProof.Rows LCX K1
open TX (sg sigs)
open PySem.W (Frag kitOne)
abbrev sMade : Stmt := top 73
theorem no_pass {P : Program} {w : World} {X : Cx} : Passes (L2.CX P w) X (fun _ _ _ => False) := fun _ _ _ _ _ _ _ hc => by
  obtain ⟨a, B, H', cls, d, z1, fl, z2, ub, z3, z4, z5, z6⟩ := hc
  exact z6.elim
theorem numB_in {i m : Int} (h : 0 ≤ i ∧ i < m) : numB (.int i) 0 (m - 1) = true := by
  show (decide (0 ≤ i) && decide (i ≤ m - 1)) = true
  rw [decide_eq_true h.1, decide_eq_true (by omega)]
  rfl
theorem nums_in {is : List Int} {m : Int} (h : Bel m is) : ((is.map V.int).map fun x => numB x 0 (m - 1)).all id = true := by
  rw [List.map_map, List.all_eq_true]
  intro b hb
  obtain ⟨i, hi, rfl⟩ := List.mem_map.mp hb
  exact numB_in (h i hi)
theorem int_of (is : List Int) : (is.map V.int).map intOf = is := by
  rw [List.map_map]
  exact (List.map_congr_left fun _ _ => rfl).trans (List.map_id is)
theorem ascV_in {es : List Int} {n : Int} (h : Asc n es) : ascV (es.map V.int) n = true := by
  unfold ascV
  rw [nums_in h.1, int_of]
  exact decide_eq_true h.2
theorem rowB_in {r : List Int} {wd : Nat} {m : Int} (h1 : r.length = wd) (h2 : Bel m r) : rowB (r.map V.int) wd m = true := by
  unfold rowB
  rw [nums_in h2, decide_eq_true (by rw [List.length_map, h1])]
  rfl
abbrev rsOf (tb : List (List Int)) : List (Option (List V)) := tb.map fun r => some (r.map V.int)
theorem tabB_in {tb : List (List Int)} {wd : Nat} {n most : Int} (h : TabOk tb wd n) (h1 : 1 ≤ n) (h2 : n ≤ most) : tabB (rsOf tb) wd most = true := by
  have e : ((rsOf tb).length : Int) = n := by rw [List.length_map]; exact h.len
  unfold tabB
  rw [e, decide_eq_true h1, decide_eq_true h2]
  show ((rsOf tb).map _).all id = true
  rw [List.map_map, List.all_eq_true]
  intro b hb
  obtain ⟨r, hr, rfl⟩ := List.mem_map.mp hb
  exact rowB_in (h.row r hr).1 (h.row r hr).2
theorem rows_of {K : Frag} {H : Hp} {wd : Nat} (hw : wd ≤ 100) : ∀ {ts : List Addr} {tb : List (List Int)}, Objs oTup H ts tb → (∀ r ∈ tb, r.length = wd) → Rows K H (ts.map V.ref) (rsOf tb)
  | [], [], _, _ => trivial
  | t :: ts, r :: tb, h, k => ⟨⟨t, rfl, SqT.of h.1, by rw [List.length_map, k r (.head _)]; exact hw, fun x hx => by obtain ⟨i, _, rfl⟩ := List.mem_map.mp hx; exact .inl ⟨i, rfl⟩⟩, rows_of hw h.2 fun r hr => k r (.tail _ hr)⟩
  | [], _ :: _, h, _ => h.elim
  | _ :: _, [], h, _ => h.elim
theorem asc_from {n : Int} : ∀ (es : List Int) (a : Int), a ≤ n → (∀ i ∈ es, a ≤ i ∧ i < n) → es.Pairwise (· < ·) → (es.length : Int) ≤ n - a
  | [], _, h, _, _ => by
    show (0 : Int) ≤ _
    omega
  | e :: es, a, _, hb, hp => by
    obtain ⟨h1, h2⟩ := List.pairwise_cons.mp hp
    have he := hb e (.head _)
    have := asc_from es (e + 1) (by omega) (fun i hi => ⟨h1 i hi, (hb i (.tail _ hi)).2⟩) h2
    rw [List.length_cons]
    omega
theorem asc_len {n : Int} {es : List Int} (h : Asc n es) (h0 : 0 ≤ n) : (es.length : Int) ≤ n := by
  have := asc_from es 0 h0 h.1 h.2
  omega
/-- a machine stands at o -/
structure MacAt (C : Addr) (H : Hp) (o : Addr) (L : W) (tb : List (List Int)) (es : List Int) : Prop where
  ex : ∃ (dx t e : Addr) (ts : List Addr), H o = some (.ins C dx (mfl (.str (tx L)) (.ref t) (.ref e))) ∧ H t = some (.tup (ts.map V.ref)) ∧ Objs oTup H ts tb ∧ H e = some (.tup (es.map V.int))
theorem MacAt.same {C : Addr} {H H' : Hp} {o : Addr} {L : W} {tb : List (List Int)} {es : List Int} (h : MacAt C H o L tb es) (s : Same H H') : MacAt C H' o L tb es := by
  obtain ⟨dx, t, e, ts, h1, h2, h3, h4⟩ := h.ex
  exact ⟨dx, t, e, ts, s _ _ h1, s _ _ h2, h3.to fun a _ r z => s _ _ z, s _ _ h4⟩
def spMade (C : Addr) : Sp := fun vs H Q _ => ∃ (m : Addr) (L : W) (tb : List (List Int)) (es : List Int) (n : Int), vs = [.ref m] ∧ PlainM H m L tb es ∧ MacOk L tb es n ∧ n ≤ 4 ∧ Let L ∧ ∀ (o : Addr) (H' : Hp), H o = none → Same H H' → MacAt C H' o L tb es → Q (.ref o) H'
theorem pkv_L (L : W) (lt le : Addr) : valV (pkv L lt le) kL = some (.str (tx L)) := rfl
theorem val_skip {k1 k : Key} {v : V} {r : List (Key × V)} (h : decide (k1 = k) = false) : valV ((k1, v) :: r) k = valV r k := by
  unfold valV
  rw [List.find?_cons, show decide ((k1, v).1 = k) = false from h]
theorem pkv_T (L : W) (lt le : Addr) : valV (pkv L lt le) kTb = some (.ref lt) := (val_skip (by decide +kernel)).trans rfl
theorem pkv_E (L : W) (lt le : Addr) : valV (pkv L lt le) kE = some (.ref le) := (val_skip (by decide +kernel)).trans ((val_skip (by decide +kernel)).trans rfl)
section
variable {P : Program} {w : World} {K : PySem.W.Frag} {mg : Str → Option Value} {base : Heap} {C cD cM fI : Addr} {dI : FuncData}
theorem scMd : FnScope ["_law_plain"] ["_law_plain"] (defScope sMade) := ⟨rfl, rfl, rfl, by decide +kernel, rfl, by decide +kernel, by decide +kernel⟩
theorem ok_made {f : Addr} {fd : FuncData} (F : Fun K "_law_made_machine" "_law_made_machine" sMade f fd) (T : TN mg) (M : TMc K mg C cD cM) (MI : Mk K C fI) (GI : FnOk P w K mg base (L2.CX P w) 5 fI dI ["self", "letters", "table", "ends"] (spMInit K C cM)) (bI : Binds K dI ["self", "letters", "table", "ends"] []) :
    FnOk P w K mg base CX0 7 f fd ["_law_plain"] (spMade C) := by
  refine F.ok scMd (fun vs H Q E h => ?_) (fun cdv A outer s H vs Q E hr h => ?_)
  · obtain ⟨m, L, tb, es, n, rfl, _⟩ := h
    rfl
  · obtain ⟨m, L, tb, es, n, rfl, hp, ok, h4, hL, k⟩ := h
    have hu := hu_of hr
    refine ⟨_, pss_one (ps_ret (pe_make (E := fun _ _ _ => False) MI GI hr rfl M.gC bI .nil no_pass (pa_cons (pe_dget hu (pv 0) pe_str (fun _ _ => rfl))
      (pa_cons (pe_callTy call_tuple_of (by rfl) T.tuple (by decide +kernel) (pa_cons (pe_dget hu (pv 0) pe_str (fun _ _ => rfl)) pa_nil))
      (pa_cons (pe_callTy call_tuple_of (by rfl) T.tuple (by decide +kernel) (pa_cons (pe_dget hu (pv 0) pe_str (fun _ _ => rfl)) pa_nil)) pa_nil))))), ?_⟩
    obtain ⟨lt, le, h1, ⟨ts, h2, h3⟩, h5⟩ := hp.ex
    have g : ∀ (H' : Hp) (kk : Key) (v : V), Same H H' → valV (pkv L lt le) kk = some v → DGet H' m (kV kk) (some v) := fun H' kk v s e => e ▸ DGet.k (s _ _ h1)
    refine ⟨_, rfl, m, _, rfl, g H kL _ (Same.refl H) (pkv_L L lt le), ?_⟩
    refine ⟨_, rfl, m, _, rfl, g H kTb _ (Same.refl H) (pkv_T L lt le), lt, _, rfl, .inl ⟨SqL.of h2, fun t ht => ?_⟩⟩
    have s1 : Same H (upd H t (.tup (ts.map V.ref))) := same_upd ht
    refine ⟨_, rfl, m, _, rfl, g _ kE _ s1 (pkv_E L lt le), le, _, rfl, .inl ⟨SqL.of (s1 _ _ h5), fun e he => ?_⟩⟩
    have s2 : Same H (upd (upd H t (.tup (ts.map V.ref))) e (.tup (es.map V.int))) := same_two s1 he
    have ht2 : (upd (upd H t (.tup (ts.map V.ref))) e (.tup (es.map V.int))) t = some (.tup (ts.map V.ref)) := same_upd he _ _ upd_same
    have he2 : (upd (upd H t (.tup (ts.map V.ref))) e (.tup (es.map V.int))) e = some (.tup (es.map V.int)) := upd_same
    generalize upd (upd H t (.tup (ts.map V.ref))) e (.tup (es.map V.int)) = H2 at s2 ht2 he2 ⊢
    intro x dx hx hdx ne
    have s3 : Same H2 (upd (upd H2 dx (.own x)) x (.ins C dx [])) := fun b o z => by rw [upd_ne (ne_of_none z hx), upd_ne (ne_of_none z hdx)]; exact z
    have o3 : Objs oTup (upd (upd H2 dx (.own x)) x (.ins C dx [])) ts tb := h3.to fun a _ r z => s3 _ _ (s2 _ _ z)
    have hlen := h3.len
    have htl := ok.tab.len
    refine ⟨x, dx, .str (tx L), .ref t, .ref e, some (tx L), some (rsOf tb), some (es.map V.int), rfl, upd_same, ⟨rfl, by rw [tx_len]; have := hL.few; omega⟩, ⟨t, _, rfl, SqT.of (s3 _ _ ht2), by rw [List.length_map]; omega, rows_of (by have := hL.few; omega) o3 fun r hr => (ok.tab.row r hr).1⟩, ⟨e, rfl, SqT.of (s3 _ _ he2), ?_, ?_⟩, .inl ⟨?_, fun H4 h4' k4 => ⟨rfl, ?_⟩⟩⟩
    · have := asc_len ok.asc (by have := ok.one; omega)
      rw [List.length_map]
      omega
    · intro y hy
      obtain ⟨i, _, rfl⟩ := List.mem_map.mp hy
      exact .inl ⟨i, rfl⟩
    · have e1 : ((rsOf tb).length : Int) = n := by rw [List.length_map]; exact htl
      rw [made_t, letB_let hL, tx_len, tabB_in ok.tab ok.one h4, e1]
      exact ascV_in ok.asc
    · have s4 : Same H2 H4 := fun b o z => k4 b o (s3 _ _ z) (ne_of_none z hx)
      exact k x H4 (s2.free hx) (s2.trans s4) ⟨dx, t, e, ts, h4', s4 _ _ ht2, h3.to fun a _ r z => s4 _ _ (s2 _ _ z), s4 _ _ he2⟩
end
end WK
set_option Elab.async false
set_option linter.all false
set_option maxRecDepth 100000
set_option maxHeartbeats 8000000
namespace WK
open PySem L2 PyProof.Rows LCX K1
open TX (sg sigs)
open PySem.W (Frag kitOne)
end WK
set_option Elab.async false
set_option linter.all false
set_option maxRecDepth 100000
set_option maxHeartbeats 4000000
namespace RD
open PySem PySem.Spec PyProof.Rows L2 ND WK
section
variable {X : Cx} {pins : List (Addr × Obj)} {σ : L2.St} {H : Hp} {s : Shared} {d : Addr} {o : Obj}
theorem frzR {l : List Ent} (I : Inv X pins σ H s) (h : H d = some (.frz o (RdO X.prog X.w d l))) : (d == sysModules) = false ∧ ∃ (es : Array DictEntry) (ep : Nat), DT.Raw s.heap d es ep ∧ o.data = .dict es ep ∧ es.size = l.length ∧
    ∀ (i : Nat) (e : Ent), l[i]? = some e → ∃ hi : i < es.size, es[i].key = .ref e.2.1 ∧ ∃ t, es[i].val = .str e.2.2 t := by
  obtain ⟨at_d, told⟩ := I.hok d _ h
  obtain ⟨notMods, _, _, xs, fit, o', es, ep, at_d', exact_, dat, ents⟩ := told.1
  cases at_d.symm.trans at_d'
  have l1 : es.size = xs.length := size_of_entries ents
  have l2 : l.length = xs.length := Paired.length fit
  refine ⟨notMods, es, ep, ⟨o, at_d, exact_, dat⟩, dat, l1.trans l2.symm, fun i e he => ?_⟩
  obtain ⟨b, at_b, _, e2, t, e3⟩ := L2.paired_get fit he
  have got := entry_at ents i
  rw [at_b] at got
  obtain ⟨hi, ei⟩ := Array.getElem?_eq_some_iff.mp got
  exact ⟨hi, by rw [ei, ← e2] <;> rfl, t, by rw [ei, ← e3] <;> rfl⟩
end
/-- the pairs of the locked dict at d, each in a new tuple -/
def ItR (P : Program) (w : World) (d : Addr) (o : Obj) (l : List Ent) : It :=
  ⟨fun i H => H d = some (.frz o (RdO P w d l)) ∧ i < l.length, fun i H x H' => ∃ T e, l[i]? = some e ∧ x = .ref T ∧ H T = none ∧ H' = upd H T (.tup [.ref e.2.1, .str e.2.2]), fun i H => H d = some (.frz o (RdO P w d l)) ∧ l.length ≤ i⟩
theorem turn_R {P : Program} {w : World} {K : PySem.W.Frag} {d : Addr} {o : Obj} {es : Array DictEntry} {ep : Nat} {l : List Ent} {elts : List Expr} {kk : Nat} {tpos : Pos} (it : Addr) (dat : o.data = .dict es ep) :
    Turn P w K (.Tuple elts kk tpos) (ItR P w d o l) [it] it (fun i h => ∃ a b, IsItemIter h it d i l.length ep a b) where
  mem := .head _
  obj := fun i h ⟨a, b, e⟩ c hc => by
    rw [List.mem_singleton.mp hc]
    exact ⟨_, e, fun v z => nomatch z⟩
  keep := fun i h h' ⟨a, b, e⟩ k => ⟨a, b, k it (.head _) _ e⟩
  item := by
    intro X hP hw hK hc i pins s σ H E I hf ⟨a, b, st⟩ ⟨hd, hi⟩
    subst hP hw hK
    obtain ⟨notMods, es', ep', raw, dat', size, ents⟩ := frzR I hd
    cases dat.symm.trans dat'
    obtain ⟨e, he⟩ : ∃ e, l[i]? = some e := ⟨_, List.getElem?_eq_getElem hi⟩
    obtain ⟨lt, ek, t, ev⟩ := ents i e he
    rw [← size] at st
    have below : it < s.heap.objs.size := Heap.lt_size st
    refine DT.nextI st raw lt fun g out made grown keep => ⟨_, rfl, wpAny_letOwnedTupleGo_items (s := { s with heap := g }) out fun g2 st2 sb => ?_⟩
    have made2 : g2.get? s.heap.objs.size = some { cls := .type "tuple", data := .seq #[es[i].key, es[i].val] } := (sb.2 _ (Nat.ne_of_gt below)).trans made
    have new : ObjOk X.prog X.w (upd H s.heap.objs.size (.tup [.ref e.2.1, .str e.2.2])) g2 s.heap.objs.size (.tup [.ref e.2.1, .str e.2.2]) :=
      ⟨by show 2 ≤ sizeLine; decide, [es[i].key, es[i].val], .cons (show es[i].key = .ref e.2.1 from ek) (.cons ⟨t, ev⟩ .nil), _, made2, rfl, _, rfl⟩
    have one : ∀ {c : Addr}, c ∉ [it] → c ≠ it := fun h e => h (e ▸ .head _)
    refine ⟨.ref s.heap.objs.size, _, I.turnedNew (t' := s.toks) (ch := [it]) (fun c u hc e => (sb.2 c (one hc)).trans (keep c u (one hc) e)) hf (Nat.le_refl _) new, rfl, ⟨_, e, he, rfl, I.hok.fresh (Nat.le_refl _), rfl⟩, ⟨_, _, size ▸ st2⟩, fun c hc => ?_⟩
    rw [List.mem_singleton.mp hc, upd_ne (Nat.ne_of_lt below)]
    exact (hf it (.head _)).1
  done := by
    intro X hP hw hK hc i pins s σ H E I hf ⟨a, b, st⟩ ⟨hd, hi⟩
    subst hP hw hK
    obtain ⟨notMods, es', ep', raw, dat', size, ents⟩ := frzR I hd
    cases dat.symm.trans dat'
    rw [← size] at st hi
    exact DT.endI (I.ok.hd hc) st raw hi fun g eb => ⟨rfl, I.turnedL (t' := s.toks) (ch := [it]) (fun c u hc e => eb c u (fun z => hc (z ▸ .head _)) e) hf⟩
  self := fun A i s Q E ⟨_, _, e⟩ h => PySem.W.kcp_self e h
def iItemsR (P : Program) (w : World) (td : TE) : TI := fun σ H R => td σ H fun x H1 => ∃ d o l, x = .ref d ∧ H1 d = some (.frz o (RdO P w d l)) ∧ R (ItR P w d o l) H1
theorem pi_itemsR {X : Cx} {e : Expr} {td : TE} {apos cpos : Pos} {elts : List Expr} {kk : Nat} {tpos : Pos} (he : PE X e td) (hbase : attributeBase e "items" X.env (eval e X.env) = eval e X.env := by rfl) (hline : (apos.endLine == cpos.line) = true := by rfl) :
    PI X (.Tuple elts kk tpos) (.Call (.Attribute e "items" apos) [] [] cpos) (iItemsR X.prog X.w td) := by
  refine ⟨fun pins s σ H R I h => wpAny_Call_method (T := "dict") (id := "dict.items") hbase rfl hline F.plainAttrs_dict F.slot_dict_items F.type_dict_items (thn (he.run pins s σ H _ I h) fun u s1 ⟨x, H1, I1, rx, d, o, l, ex, hd, q⟩ => ?_)⟩
  subst ex
  cases (show u = Value.ref d from rx)
  obtain ⟨notMods, es, ep, raw, dat, size, ents⟩ := frzR I1 hd
  have noDict : ∀ a, Value.ref d = Value.ref a → ∃ o, s1.heap.get? a = some o ∧ o.dict = none := fun a e => by
    cases e
    exact let ⟨o, e, x, _⟩ := raw; ⟨o, e, x.2.1⟩
  refine ⟨raw.typeIs, noDict, ?_⟩
  have grown : Inv X pins σ H1 { s1 with heap := s1.heap.push { cls := .type "dict_items", data := .fields #[.ref d] } } := I1.kept (t' := s1.toks) fun b ob q => Heap.get?_push_of_some _ q
  have fin : wpAny (model X.prog X.w) X.A (pyIter (.ref s1.heap.objs.size)) (PIE X pins σ (.Tuple elts kk tpos) R) X.xe { s1 with heap := s1.heap.push { cls := .type "dict_items", data := .fields #[.ref d] } } :=
    DT.iterI (es := es) (ep := ep) ⟨_, Heap.get?_push_size _ rfl, rfl, rfl⟩ (raw.push _) (pi_one (tk := s1.toks) grown _ (turn_R _ dat) ⟨.none, .none, size ▸ Heap.get?_push_size _ rfl⟩ q)
  change wpAny _ _ (callWith cpos _ [.ref d] [] []) _ X.xe s1
  exact method_meetsIn F.slot_dict_items F.entry_dict_items rfl (PySem.evalArgs_none ⟨rfl, raw.typeIs, F.args_dict_items_1 _, _, DT.meetsItems (es := es) (ep := ep) notMods, raw, fin⟩)
def YR (l : List Ent) : Nat → Hp → V → Hp → Prop := fun i H x H' => ∃ T e, l[i]? = some e ∧ x = .ref T ∧ H T = none ∧ H' = upd H T (.tup [.ref e.2.1, .str e.2.2])
theorem walk_R {P : Program} {w : World} {d : Addr} {o : Obj} {l : List Ent} : Walk (ItR P w d o l) l.length (fun H => H d = some (.frz o (RdO P w d l))) (YR l) :=
  ⟨fun i _ lt at_d => ⟨at_d, lt⟩, fun _ at_d => ⟨at_d, Nat.le_refl _⟩, fun _ _ _ _ _ _ told => told⟩
section
variable {K : Type} [DecidableEq K] {prog : Program} {w : World} {knd : HeapKind prog w K} {A : Around} {E : Value → Shared → Prop} {s : Shared}
theorem truth_of {d : Addr} {xs : List (K × Addr × Value)} {Q : Bool → Shared → Prop} (hd : (d == sysModules) = false) (m : s.heap.DictOfH knd d xs) (fit : (xs.length : Int) < 2 ^ 63) (q : Q (!xs.isEmpty) { s with toks := s.toks + 1 + 1 }) : wpAny (model prog w) A (truthy (.ref d)) Q E s := by
  have many : wpAny (model prog w) A (runValue (.builtin "len" ⟨[.ref d], []⟩)) (fun r s' => r = .int xs.length (s.toks + 1) ∧ Q (!xs.isEmpty) s') E s := by
    apply wpAny_runValue
    refine codeAny_builtin entry_len ?_
    rw [Around.under_plainId plain_len]
    refine wpAny_mono (wpAny_len_body_dictH (Q := fun r s' => r = .int xs.length (s.toks + 1) ∧ Q (!xs.isEmpty) s') hd m fit ⟨rfl, q⟩) (fun fl s' ⟨r, e, z⟩ => ?_) fun _ _ e => e
    subst e
    exact z
  have same : ((xs.length : Int) != 0) = !xs.isEmpty := by
    cases xs with
    | nil => rfl
    | cons x xs =>
      rw [List.length_cons]
      exact bne_iff_ne.mpr (by omega)
  unfold truthy
  refine wpAny_bind (wpAny_callSpecial?_none (name := Str.ofString "__bool__") m.typeIs noBool_dict (wpAny_bind (wpAny_specialOf (name := Str.ofString "__len__") m.typeIs F.slot_dict_len.lookup (wpAny_bind (wpAny_mono many (fun r s' z => ?_) fun _ _ e => e)))))
  obtain ⟨rfl, z⟩ := z
  exact wpAny_pure (same ▸ z)
end
def tTruR (P : Program) (w : World) (td : TE) : TT := fun σ H Q => td σ H fun x H1 => ∃ D l, x = .ref D ∧ H1 D = some (RdO P w D l) ∧ keysAt H1 l ∧ Q (!l.isEmpty) H1
theorem pt_truR {X : Cx} {e : Expr} {td : TE} (h : PE X e td) (he : ∀ whole, isTrue e X.env whole = (do let v ← whole; standAt e.pos; holding [v] (truthy v)) := by intro _; rfl) : PT X e (tTruR X.prog X.w td) := by
  refine ⟨fun pins s σ H Q I hw => isTrue_plain (thn (h.run pins s σ H _ I hw) fun v s1 ⟨x, H1, I1, r1, D, l, ex, at_D, at_K, q⟩ => ?_) (he _)⟩
  subst ex
  cases (show v = Value.ref D from r1)
  obtain ⟨notMods, hz, nd, xs, fit, d⟩ := rdO_get I1 at_D at_K
  have len := Paired.length fit
  refine truth_of notMods d (by rw [← len]; rw [sizeLine_eq] at hz; omega) ⟨H1, I1.tok _, ?_⟩
  have e : xs.isEmpty = l.isEmpty := by cases fit <;> rfl
  rw [e]
  exact q
end RD
set_option Elab.async false
set_option linter.all false
set_option maxRecDepth 100000
set_option maxHeartbeats 4000000
namespace VT
open PySem PySem.Spec PyProof.Rows L2
def ViewO (v d : Addr) : HO := .ext fun h => h.IsValuesView v d
section
variable {X : Cx} {o e f : Expr} {td ty tv : TE} {apos cpos : Pos}
theorem raw_of {pins : List (Addr × Obj)} {σ : L2.St} {H : Hp} {s : Shared} {d : Addr} {kvs : List (List Key × V)} (I : Inv X pins σ H s) (hd : Rd H d (.dT kvs)) : (d == sysModules) = false ∧ kvs.length ≤ sizeLine ∧ ∃ es ep, s.heap.DictRaw d es ep ∧ es.size = kvs.length ∧ ∀ (i : Nat) (p : List Key × V), kvs[i]? = some p → ∃ hi : i < es.size, RelV p.2 es[i].val := by
  obtain ⟨hz, notMods, xs, rel, ob, es, ep, at_, ex, dat, ents, _, _⟩ := dt_rd I.hok hd
  have l1 : es.size = xs.length := size_of_entries ents
  have l2 : kvs.length = xs.length := Paired.length rel
  refine ⟨notMods, hz, es, ep, ⟨ob, at_, ex, dat⟩, l1.trans l2.symm, fun i p e => ?_⟩
  obtain ⟨b, at_b, _, _, rv⟩ := L2.paired_get rel e
  have got := entry_at ents i
  rw [at_b] at got
  obtain ⟨hi, ei⟩ := Array.getElem?_eq_some_iff.mp got
  exact ⟨hi, by rw [ei]; exact rv⟩
/-- d.values() -/
def tVals (td : TE) : TE := fun σ H Q => td σ H fun x H1 => ∃ d kvs, x = .ref d ∧ Rd H1 d (.dT kvs) ∧ ∀ v, H1 v = none → Q (.ref v) (upd H1 v (ViewO v d))
theorem pe_vals (he : PE X e td) (hbase : attributeBase e "values" X.env (eval e X.env) = eval e X.env := by rfl) (hline : (apos.endLine == cpos.line) = true := by rfl) : PE X (.Call (.Attribute e "values" apos) [] [] cpos) (tVals td) := by
  refine ⟨fun pins s σ H Q I h => wpAny_Call_method (T := "dict") (id := "dict.values") hbase rfl hline F.plainAttrs_dict F.slot_dict_values F.type_dict_values (thn (he.run pins s σ H _ I h) fun u s1 ⟨x, H1, I1, rx, d, kvs, ex, hd, q⟩ => ?_)⟩
  subst ex
  cases (show u = Value.ref d from rx)
  obtain ⟨notMods, _, es, ep, raw, _⟩ := raw_of I1 hd
  have noDict : ∀ a, Value.ref d = Value.ref a → ∃ o, s1.heap.get? a = some o ∧ o.dict = none := fun a e => by
    cases e
    exact let ⟨o, e, x, _⟩ := raw; ⟨o, e, x.2.1⟩
  refine ⟨raw.typeIs, noDict, ?_⟩
  have isV : (s1.heap.push { cls := .type "dict_values", data := .fields #[.ref d] }).IsValuesView s1.heap.objs.size d := ⟨_, Heap.get?_push_size _ rfl, rfl, rfl⟩
  have grown : Inv X pins σ (upd H1 s1.heap.objs.size (ViewO s1.heap.objs.size d)) { s1 with heap := s1.heap.push { cls := .type "dict_values", data := .fields #[.ref d] } } :=
    I1.laid (t' := s1.toks) (fun _ _ q => Heap.get?_push_of_some _ q) (Nat.le_refl _) ⟨isV, ⟨_, Heap.get?_push_size _ rfl⟩, fun _ _ ⟨o, e, r⟩ k => ⟨o, k _ e, r⟩⟩
  have fin := q _ (I1.hok.fresh (Nat.le_refl s1.heap.objs.size))
  change wpAny _ _ (callWith cpos _ [.ref d] [] []) _ X.xe s1
  exact method_meetsIn F.slot_dict_values F.entry_dict_values rfl (PySem.evalArgs_none ⟨rfl, raw.typeIs, F.args_dict_values_1 _, _, meets_dict_values_raw d notMods, ⟨es, ep, raw⟩, ⟨.ref s1.heap.objs.size, _, grown, rfl, fin⟩⟩)
/-- list(view) -/
def rListV : List V → Hp → VK → Prop := fun xs H Q => ∃ v d kvs, xs = [.ref v] ∧ H v = some (ViewO v d) ∧ Rd H d (.dT kvs) ∧ ∀ p, H p = none → Q (.ref p) (upd H p (.lst (kvs.map (·.2))))
theorem cr_listV (hc : X.calm = true) : CallR X (.type "list") rListV := by
  rintro pins s σ H xs us Q I r ⟨v, d, kvs, rfl, hv, hd, q⟩
  rw [Vals.ref1 r]
  obtain ⟨notMods, hz, es, ep, raw, size, ents⟩ := raw_of I hd
  have isV : s.heap.IsValuesView v d := (I.hok _ _ hv).1
  refine PySem.W.kdl_call (KdlSrc.rawValues (r := v) (d := d) (es := es) (ep := ep)) (I.ok.hd hc) ⟨isV, raw⟩ (by rw [size]; exact hz) fun g tk acc c keep made its => ?_
  have vals : Vals (kvs.map (·.2)) acc.toList := by
    have len : acc.toList.length = kvs.length := by rw [Array.length_toList, its.1, size]
    have go : ∀ (ks : List V) (us : List Value), us.length = ks.length → (∀ (i : Nat) (x : V) (u : Value), ks[i]? = some x → us[i]? = some u → RelV x u) → Vals ks us := by
      intro ks
      induction ks with
      | nil =>
        intro us h _
        rw [List.length_eq_zero_iff.mp h]
        exact .nil
      | cons x ks ih =>
        intro us h k
        cases us with
        | nil => cases h
        | cons u us => exact .cons (k 0 x u rfl rfl) (ih us (Nat.succ.inj h) fun i y w e1 e2 => k (i + 1) y w e1 e2)
    refine go _ _ (by rw [List.length_map, len]) fun i x u e1 e2 => ?_
    rw [List.getElem?_map] at e1
    obtain ⟨p, ep', rfl⟩ := Option.map_eq_some_iff.mp e1
    obtain ⟨hi, rv⟩ := ents i p ep'
    obtain ⟨_, e3⟩ := its.2 i u (by rw [← Array.getElem?_toList]; exact e2)
    rw [e3]
    exact rv
  exact ⟨.ref s.heap.objs.size, upd H s.heap.objs.size (.lst (kvs.map (·.2))), I.laid (t' := tk) keep (Nat.le_refl _) ⟨by rw [List.length_map]; exact hz, acc.toList, c, vals, by simpa using made⟩, rfl, q _ (I.hok.fresh (Nat.le_refl _))⟩
/-- d.setdefault(k, v), k a tuple -/
def tSetT (td ty tv : TE) : TE := fun σ H Q => td σ H fun x H1 => (∃ D kvs, x = .ref D ∧ H1 D = some (.dT kvs)) ∧ ty σ H1 fun y H2 => tv σ H2 fun z H3 => ∃ (D b : Addr) (kvs : List (List Key × V)) (k : List Key), x = .ref D ∧ y = .ref b ∧ H3 D = some (.dT kvs) ∧ H3 b = some (.tup (k.map kV)) ∧ kvs.length < sizeLine ∧
  (∀ v, valV kvs k = some v → Q v H3) ∧ (valV kvs k = none → Q z (upd H3 D (.dT (putK kvs k z))))
theorem pe_setT (hu : X.A.units + 64 < cLine) (ho : PE X o td) (he : PE X e ty) (hf : PE X f tv) (m : M2 X o "setdefault" apos e f cpos) : PE X (.Call (.Attribute o "setdefault" apos) [e, f] [] cpos) (tSetT td ty tv) := by
  refine ⟨fun pins s σ H Q I h => ?_⟩
  refine wpAny_Call_method m.base m.few m.line PySem.F.plainAttrs_dict PySem.F.slot_dict_setdefault PySem.F.type_dict_setdefault (thn (ho.run pins s σ H _ I h) fun u s1 ⟨x, H1, I1, rx, ⟨D, kvs, ex, at_D⟩, q1⟩ => ?_)
  subst ex
  cases (show u = Value.ref D from rx)
  obtain ⟨_, _, es, ep, raw, _⟩ := raw_of I1 (.inl at_D)
  refine ⟨raw.typeIs, fun a z => by cases z; exact let ⟨o, e, x, _⟩ := raw; ⟨o, e, x.2.1⟩, ?_⟩
  rw [m.trees]
  refine Calls.callWith_builtin rfl (Calls.evalArgs_plain (Calls.spliced_cons (thn (he.run pins s1 σ H1 _ I1 q1) fun key s2 ⟨y, H2, I2, ry, q2⟩ =>
    Calls.spliced_cons (thn (hf.run pins s2 σ H2 _ I2 q2) fun fv s3 ⟨z, H3, I3, rz, D', b, kvs', k, eD, ey, at_D', at_b, few, q3, q4⟩ => Calls.spliced_nil ?_))))
  cases eD
  subst ey
  cases (show key = Value.ref b from ry)
  obtain ⟨hz, notMods, xs, rel, d3⟩ := dt_of I3.hok at_D'
  refine call_meetsIn PySem.F.slot_dict_setdefault d3.typeIs PySem.F.entry_dict_setdefault (PySem.F.args_dict_setdefault_3 _ _ _) (meetsH_dict_setdefault (tupleKind (mixKind X.prog X.w)) D b notMods fv) ⟨by show X.A.units + 1 < cLine; omega, k, xs, key_of I3.hok at_b, d3, by rw [← Paired.length rel]; exact hz, fun p hp => ?_, fun no g d' same => ?_⟩
  · have rv := rel.val k
    rw [hp] at rv
    cases e0 : valV kvs' k with
    | none =>
      rw [e0] at rv
      exact (show False from rv).elim
    | some v0 =>
      rw [e0] at rv
      exact ⟨v0, H3, I3.tok _, rv, q3 v0 e0⟩
  · have rv := rel.val k
    rw [no] at rv
    cases e0 : valV kvs' k with
    | some v0 =>
      rw [e0] at rv
      exact (show False from rv).elim
    | none =>
      have few2 := length_putK kvs' k z
      obtain ⟨q, es', ep', hq, h2, h3, h4, _, h5⟩ := d'
      refine ⟨z, upd H3 D (.dT (putK kvs' k z)), d_write (t' := s3.toks + (tupleKind (mixKind X.prog X.w)).draws k) I3 (by rw [at_D']; exact True.intro) same ⟨q, hq⟩ ⟨by omega, notMods, _, (rel.put k at_b rz).keeps fun c ys ec => ?_, q, es', ep', hq, h2, h3, h4, h5⟩, rz, q4 e0⟩
      rw [upd_ne (ne_of ec at_D' fun z => nomatch z)]
      exact ec
end
end VT
set_option Elab.async false
set_option linter.all false
set_option maxRecDepth 100000
set_option maxHeartbeats 4000000
namespace FZ
open PySem L2 PyProof.Rows
def tFrz (td : TE) : TE := fun σ H Q => td σ H fun x H1 => ∃ d u, x = .ref d ∧ H1 d = some u ∧ Mut (some u) ∧ ∀ od, Q x (upd H1 d (.frz od u))
theorem pe_frz {X : Cx} {e : Expr} {td : TE} (h : PE X e td) : PE X e (tFrz td) := by
  refine ⟨fun pins s σ H Q I z => ?_⟩
  refine thn (h.run pins s σ H _ I z) fun v s1 ⟨x, H1, I1, rx, d, u, ex, hd, mu, q⟩ => ?_
  obtain ⟨od, I2⟩ := I1.lock hd mu
  exact ⟨x, _, I2, rx, q od⟩
end FZ
set_option Elab.async false
set_option linter.all false
set_option maxRecDepth 100000
set_option maxHeartbeats 4000000
namespace L2
open PySem PySem.Spec PyProof.Rows
end L2
set_option Elab.async false
set_option linter.all false
set_option maxRecDepth 100000
set_option maxHeartbeats 8000000
namespace WK
open PySem L2 PyProof.Rows LCX K1 FV DP
open TX (sg sigs)
open PySem.W (Frag kitOne)
open RX RD
/-- the rings as a dict -/
def kvR (l : List (List Int × W)) : List (List Key × V) := l.map fun p => (p.1.map (Sum.inl : Int → Key), V.str (tx p.2))
theorem inl_inj {a b : List Int} (h : a.map (Sum.inl : Int → Key) = b.map Sum.inl) : a = b := List.map_inj_right (fun _ _ e => Sum.inl.inj e) |>.mp h
theorem key_tup (r : List Int) : (oTup r : HO) = .tup ((r.map (Sum.inl : Int → Key)).map kV) := by
  rw [List.map_map] <;> rfl
theorem kvR_val (r : List Int) : ∀ l : List (List Int × W), (valV (kvR l) (r.map (Sum.inl : Int → Key))).isSome = decide (r ∈ l.map (·.1))
  | [] => rfl
  | p :: l => by
    have ih := kvR_val r l
    show (valV ((p.1.map (Sum.inl : Int → Key), V.str (tx p.2)) :: kvR l) _).isSome = _
    by_cases e : p.1 = r
    · rw [valV_pos (by rw [e]), List.map_cons, e]
      simp
    · rw [valV_neg (fun z => e (inl_inj z)), ih, List.map_cons]
      refine decide_eq_decide.mpr ⟨fun h => .tail _ h, fun h => ?_⟩
      rcases List.mem_cons.mp h with z | z
      · exact absurd z.symm e
      · exact z
theorem kvR_put {l : List (List Int × W)} {r : List Int} {u : W} (h : r ∉ l.map (·.1)) : putK (kvR l) (r.map (Sum.inl : Int → Key)) (.str (tx u)) = kvR (addNew l (r, u)) := by
  have e0 : valV (kvR l) (r.map (Sum.inl : Int → Key)) = none := by
    have := kvR_val r l
    rw [decide_eq_false h] at this
    cases e : valV (kvR l) (r.map (Sum.inl : Int → Key)) with
    | none => rfl
    | some x => rw [e] at this; cases this
  rw [putK_new _ e0]
  unfold addNew
  rw [if_neg h]
  unfold kvR
  rw [List.map_append] <;> rfl
/-- entries told by key and word -/
def SameEnt (g : List Ent) (gl : List (Rk × W)) : Prop := g.map (fun e => (e.1, e.2.2)) = gl.map fun p => (p.1, tx p.2)
theorem SameEnt.keys {g : List Ent} {gl : List (Rk × W)} (h : SameEnt g gl) : g.map (·.1) = gl.map (·.1) := by
  have := congrArg (List.map (·.1)) h
  rw [List.map_map, List.map_map] at this
  exact this
theorem SameEnt.len {g : List Ent} {gl : List (Rk × W)} (h : SameEnt g gl) : g.length = gl.length := by
  have := congrArg List.length h
  rw [List.length_map, List.length_map] at this
  exact this
theorem SameEnt.new {g : List Ent} {gl : List (Rk × W)} (h : SameEnt g gl) {k : Rk} {b : Addr} {u : W} (m : k ∉ g.map (·.1)) : SameEnt (g ++ [(k, b, tx u)]) (addNew gl (k, u)) := by
  unfold SameEnt addNew
  rw [if_neg (by rw [← h.keys]; exact m), List.map_append, List.map_append, show g.map _ = _ from h] <;> rfl
theorem SameEnt.old {g : List Ent} {gl : List (Rk × W)} (h : SameEnt g gl) {k : Rk} {u : W} (m : k ∈ g.map (·.1)) : SameEnt g (addNew gl (k, u)) := by
  unfold addNew
  rw [if_pos (by rw [← h.keys]; exact m)]
  exact h
/-- how things stand: what stood stays, the layer locked at D, rings at F, what comes next at G -/
structure Mid (P : Program) (w : World) (H2 : Hp) (D F G : Addr) (od : Obj) (l : List Ent) (fl : List (List Int × W)) (gl : List (Rk × W)) (H : Hp) : Prop where
  same : Same H2 H
  lay : H D = some (.frz od (RdO P w D l))
  keys : keysAt H l
  fnd : H F = some (.dT (kvR fl))
  lng : ∃ g, H G = some (RdO P w G g) ∧ keysAt H g ∧ SameEnt g gl
section
variable {P : Program} {w : World} {H2 : Hp} {D F G : Addr} {od : Obj} {l : List Ent} {fl : List (List Int × W)} {gl : List (Rk × W)} {H : Hp}
theorem Mid.step (m : Mid P w H2 D F G od l fl gl H) {H' : Hp} (s : Same H H') : Mid P w H2 D F G od l fl gl H' :=
  let ⟨g, h1, h2, h3⟩ := m.lng
  ⟨m.same.trans s, s _ _ m.lay, m.keys.keep (Same.tup' s), s _ _ m.fnd, g, s _ _ h1, h2.keep (Same.tup' s), h3⟩
theorem Mid.ring (m : Mid P w H2 D F G od l fl gl H) (nF : H2 F = none) {r : List Int} {u : W} (h : r ∉ fl.map (·.1)) : Mid P w H2 D F G od l (addNew fl (r, u)) gl (upd H F (.dT (putK (kvR fl) (r.map (Sum.inl : Int → Key)) (.str (tx u))))) := by
  obtain ⟨g, h1, h2, h3⟩ := m.lng
  have nt : KeepsTup H (upd H F (.dT (putK (kvR fl) (r.map (Sum.inl : Int → Key)) (.str (tx u))))) := fun b o e => by
    rw [upd_ne (fun z => by rw [z, m.fnd] at e; cases e)]
    exact e
  refine ⟨same_at m.same nF, ?_, m.keys.keep nt, ?_, g, ?_, h2.keep nt, h3⟩
  · rw [upd_ne (fun z => by have := m.lay; rw [z, m.fnd] at this; cases this)]
    exact m.lay
  · rw [upd_same, kvR_put h]
  · rw [upd_ne (fun z => by rw [z, m.fnd] at h1; cases h1)]
    exact h1
theorem Mid.walk (m : Mid P w H2 D F G od l fl gl H) (nG : H2 G = none) {g : List Ent} {k : Rk} {b : Addr} {u : W} (h1 : H G = some (RdO P w G g)) (h2 : keysAt H g) (h3 : SameEnt g gl) (hb : RkAt H b k) (h : k ∉ g.map (·.1)) : Mid P w H2 D F G od l fl (addNew gl (k, u)) (upd H G (RdO P w G (g ++ [(k, b, tx u)]))) := by
  have nt : KeepsTup H (upd H G (RdO P w G (g ++ [(k, b, tx u)]))) := fun b o e => by
    rw [upd_ne (fun z => by rw [z, h1] at e; cases e)]
    exact e
  refine ⟨same_at m.same nG, ?_, m.keys.keep nt, ?_, g ++ [(k, b, tx u)], upd_same, ?_, h3.new h⟩
  · rw [upd_ne (fun z => by have := m.lay; rw [z, h1] at this; cases this)]
    exact m.lay
  · rw [upd_ne (fun z => by have := m.fnd; rw [z, h1] at this; cases this)]
    exact m.fnd
  · intro e he
    rcases List.mem_append.mp he with z | z
    · exact (h2 e z).keep nt
    · rw [List.mem_singleton.mp z]
      exact hb.keep nt
end
end WK
set_option Elab.async false
set_option linter.all false
set_option maxRecDepth 100000
set_option maxHeartbeats 8000000
namespace WK
open PySem L2 PyProof.Rows LCX K1 FV DP
open TX (sg sigs)
open PySem.W (Frag kitOne)
open RX RD
theorem in_ints (r : Int) (es : List Int) : inV (.int r) (es.map V.int) = decide (r ∈ es) := by
  unfold inV
  rw [Bool.eq_iff_iff, List.any_eq_true, decide_eq_true_iff]
  constructor
  · rintro ⟨y, hy, e⟩
    obtain ⟨x, hx, rfl⟩ := List.mem_map.mp hy
    have : x = r := by simpa [eqV] using e
    exact this ▸ hx
  · exact fun h => ⟨.int r, List.mem_map_of_mem h, by simp [eqV]⟩
theorem all_flat (es : List Int) : (es.map V.int).all flatV = true := by
  rw [List.all_eq_true]
  intro x hx
  obtain ⟨i, _, rfl⟩ := List.mem_map.mp hx
  rfl
theorem ins_sorted {n : Nat} {p : Int → Bool} {to : Int} {ns : List Int} (h : 0 ≤ to ∧ to < (n : Nat)) (hv : to ∉ (rngI n).filter p) (perm : ns.Perm (to :: (rngI n).filter p)) (asc : ns.Pairwise (· ≤ ·)) : ns = (rngI n).filter fun x => decide (x = to ∨ x ∈ (rngI n).filter p) := by
  have r1 : (rngI n).Pairwise (· < ·) := by
    unfold rngI
    exact List.pairwise_map.mpr (List.pairwise_lt_range.imp fun h => by omega)
  have nd : ns.Nodup := perm.nodup_iff.mpr (List.nodup_cons.mpr ⟨hv, (r1.filter p).imp fun h => by omega⟩)
  have lt : ns.Pairwise (· < ·) := (asc.and nd).imp fun h => by
    obtain ⟨h1, h2⟩ := h
    omega
  refine asc_eq lt (r1.filter _) fun x => ?_
  rw [perm.mem_iff, List.mem_cons, List.mem_filter (p := fun x => decide (x = to ∨ x ∈ (rngI n).filter p)), decide_eq_true_iff]
  constructor
  · intro h2
    refine ⟨?_, h2⟩
    rcases h2 with rfl | h2
    · exact List.mem_map.mpr ⟨x.toNat, List.mem_range.mpr (by omega), by omega⟩
    · exact (List.mem_filter.mp h2).1
  · exact fun h2 => h2.2
abbrev tSums : TS := tAsg (tCall spPlus [V.int 1] E0 (tCons (tVar 10) (tCons (tVar 14) tNil))) (gName 15)
abbrev tKey (K : Frag) : TS := tAsg (tTup (tCons (tVar 13) (tCons (tCB (rTupL K) (tCons (tCB (rSortedI K) (tCons (tLst (tCons (tVar 13) (StX.tStar K (tVar 9) tNil))) tNil)) tNil)) (tCons (tVar 15) tNil)))) (gName 16)
abbrev rCatS : R2 := fun x y H Q => ∃ i j, x = .str i ∧ y = .str j ∧ i.length + j.length ≤ sizeLine ∧ Q (.str (i ++ j)) H
abbrev tTurn (P : Program) (w : World) (K : Frag) (tl : TE) : TS := tSeq tSums
  (tIfS (tAnd (tTest (tOp rEq (tVar 13) (tVar 2))) (tB (tDNotIn (tVar 15) (tVar 5)))) (sDPut (tVar 5) (tVar 15) (tOp rCatS (tVar 11) (tVar 12)))
    (tIfS (tAnd (tTest (tOp rNe (tVar 13) (tVar 2))) (tAnd (tTest (tOp (rIn K false) (tVar 13) (tVar 3))) (tTest (tOp (rIn K true) (tVar 13) (tVar 9)))))
      (tSeq (tKey K) (tDrop tl)) tNext))
abbrev tSd (P : Program) (w : World) : TE := tSetR P w (tVar 7) (tVar 16) (tOp rCatS (tVar 11) (tVar 12))
section
variable {P : Program} {w : World} {K : Frag} {H2 : Hp} {D F G : Addr} {od : Obj} {l : List Ent} {fl : List (List Int × W)} {gl : List (Rk × W)} {H : Hp}
theorem turn_ok {L u : W} {tb : List (List Int)} {s i : Nat} {k : Rk} {kn : List Int} {c : Nat} {t kp U b9 b10 ai : Addr} {x15 x16 x17 x18 : Option V} {Dn : Ends}
    (m : Mid P w H2 D F G od l fl gl H) (nF : H2 F = none) (nG : H2 G = none) (hkn : H2 kp = some (oTup kn)) (h9 : H b9 = some (oTup k.vis)) (h10 : H b10 = some (oTup k.cnt)) (hai : H ai = some (oTup (unitV L.length i)))
    (hc : L.getD i 0 = c) (hl : k.cnt.length = L.length) (hL : L.length ≤ 3) (hcnt : ∀ x ∈ k.cnt, 0 ≤ x ∧ x < 1000000) (vis : ∃ p, k.vis = (rngI tb.length).filter p) (to_in : 0 ≤ rowF tb k.here i ∧ rowF tb k.here i < (tb.length : Nat)) (few : tb.length ≤ 5)
    (hu : u.length ≤ 100) (hf : fl.length ≤ 10000) (hg : gl.length ≤ 10000)
    (q : ∀ x15 x16 H', Mid P w H2 D F G od l (if rowF tb k.here i = ((s : Nat) : Int) then addNew fl (plusV k.cnt (unitV L.length i), u ++ [c]) else fl)
      (if rowF tb k.here i ≠ ((s : Nat) : Int) ∧ rowF tb k.here i ∈ kn ∧ rowF tb k.here i ∉ k.vis then addNew gl (⟨rowF tb k.here i, insN tb k.vis (rowF tb k.here i), plusV k.cnt (unitV L.length i)⟩, u ++ [c]) else gl) H' → KeepsTup H H' →
      Dn.nx [some (.str (tx L)), some (.ref t), some (.int ((s : Nat) : Int)), some (.ref kp), some (.ref U), some (.ref F), some (.ref D), some (.ref G), some (.int k.here), some (.ref b9), some (.ref b10), some (.str (tx u)), some (.str ⟨#[c]⟩), some (.int (rowF tb k.here i)), some (.ref ai), x15, x16, x17, x18] H') :
    tTurn P w K (tSd P w) Dn [some (.str (tx L)), some (.ref t), some (.int ((s : Nat) : Int)), some (.ref kp), some (.ref U), some (.ref F), some (.ref D), some (.ref G), some (.int k.here), some (.ref b9), some (.ref b10), some (.str (tx u)), some (.str ⟨#[c]⟩), some (.int (rowF tb k.here i)), some (.ref ai), x15, x16, x17, x18] H := by
  have ul : (unitV L.length i).length = L.length := by unfold unitV; rw [List.length_map, List.length_range]
  refine ⟨_, rfl, _, rfl, b10, ai, k.cnt, unitV L.length i, rfl, h10, hai, by rw [ul]; exact hl, by omega, hcnt, fun x hx => ?_, fun T H3 nT s3 hT => ?_⟩
  · unfold unitV at hx
    obtain ⟨j, _, rfl⟩ := List.mem_map.mp hx
    split <;> omega
  have m3 := m.step s3
  have wl : (tx u).length + (⟨#[c]⟩ : Str).length ≤ sizeLine := by
    rw [tx_len, sizeLine_eq]
    show u.length + 1 ≤ _
    omega
  have wc : tx u ++ (⟨#[c]⟩ : Str) = tx (u ++ [c]) := tx_app u [c]
  generalize rowF tb k.here i = to at *
  generalize hr : plusV k.cnt (unitV L.length i) = r at *
  have k3 : KeepsTup H H3 := Same.tup' s3
  have vint : ∀ {a b : Int}, (V.int a = V.int b) ↔ a = b := ⟨fun z => by injection z, fun z => by rw [z]⟩
  refine ⟨_, rfl, _, rfl, rfl, _, rfl, ite2 (fun e => ?_) (fun e => ?_)⟩
  · have e := vint.mp (of_decide_eq_true e)
    rw [if_pos e, if_neg (fun z => z.1 e)] at q
    refine ⟨_, rfl, _, rfl, F, _, rfl, DGet.t m3.fnd (hT.trans (congrArg some (key_tup r))), _, rfl, ite2 (fun h => ?_) (fun h => ?_)⟩
    · rw [kvR_val] at h
      have h : r ∉ fl.map (·.1) := fun z => by rw [decide_eq_true z] at h; cases h
      refine ⟨_, rfl, _, rfl, _, _, rfl, rfl, wl, ?_⟩
      rw [wc]
      refine ⟨_, rfl, _, rfl, F, _, rfl, DPut.t m3.fnd (hT.trans (congrArg some (key_tup r))) (by unfold kvR; rw [List.length_map, sizeLine_eq]; omega), ?_⟩
      refine q _ _ _ (m3.ring nF h) fun b o z => ?_
      rw [upd_ne (fun z2 => by rw [z2, m.fnd] at z; cases z)]
      exact k3 _ _ z
    · rw [kvR_val] at h
      have h : r ∈ fl.map (·.1) := Classical.byContradiction fun z => by rw [decide_eq_false z] at h; exact h rfl
      refine ⟨_, rfl, _, rfl, rfl, _, rfl, ite2 (fun e2 => ?_) (fun e2 => ?_)⟩
      · rw [decide_eq_true (vint.mpr e)] at e2
        cases e2
      · refine ite2 (fun z => by cases z) (fun _ => ?_)
        refine q _ _ H3 ?_ k3
        unfold addNew
        rw [if_pos h]
        exact m3
  · have e : ¬ to = ((s : Nat) : Int) := fun z => e (decide_eq_true (vint.mpr z))
    rw [if_neg e] at q
    refine ite2 (fun z => by cases z) (fun _ => ?_)
    refine ⟨_, rfl, _, rfl, rfl, _, rfl, ite2 (fun e2 => ?_) (fun e2 => absurd (by rw [decide_eq_false (fun z => e (vint.mp z))]; rfl) e2)⟩
    refine ⟨_, rfl, _, rfl, kp, _, rfl, .inr (SqT.of (m3.same _ _ hkn)), rfl, all_flat kn, _, rfl, ite2 (fun hk => ?_) (fun hk => ?_)⟩
    · rw [if_neg (by decide), in_ints] at hk
      have hk := of_decide_eq_true hk
      refine ⟨_, rfl, _, rfl, b9, _, rfl, .inr (SqT.of (k3 _ _ h9)), rfl, all_flat k.vis, _, rfl, ite2 (fun hv => ?_) (fun hv => ?_)⟩
      · rw [if_pos rfl, in_ints] at hv
        have hv : to ∉ k.vis := fun z => by rw [decide_eq_true z] at hv; cases hv
        rw [if_pos ⟨e, hk, hv⟩] at q
        obtain ⟨vp, hvp⟩ := vis
        have vl : k.vis.length ≤ tb.length := by
          rw [hvp]
          refine Nat.le_trans (List.length_filter_le _ _) ?_
          unfold rngI
          rw [List.length_map, List.length_range]
          exact Nat.le_refl _
        refine ⟨_, rfl, _, rfl, _, rfl, b9, _, rfl, .inl (SqT.of (k3 _ _ h9)), ?_, fun p hp => ⟨p, to :: k.vis, rfl, ?_, fun ns p2 perm asc hp2 => ⟨p2, _, rfl, .inl ⟨SqL.of upd_same, fun b hb => ⟨_, rfl, by show 3 ≤ sizeLine; decide, fun T2 hT2 => ?_⟩⟩⟩⟩⟩
        · rw [List.append_nil, List.length_cons, List.length_map, sizeLine_eq]
          omega
        · rw [List.append_nil]
          exact SqL.of upd_same
        · have ens : ns = insN tb k.vis to := by
            have := ins_sorted to_in (by rw [← hvp]; exact hv) (by rw [← hvp]; exact perm) asc
            rw [this]
            unfold insN
            rw [hvp]
          subst ens
          have a1 := same_upd (H := H3) (o := .lst (V.int to :: (k.vis.map V.int ++ []))) hp
          have a2 := same_two (o := .lst ((insN tb k.vis to).map V.int)) a1 hp2
          have a3 := same_two (o := oTup (insN tb k.vis to)) a2 hb
          have s7 := same_two (o := .tup [V.int to, .ref b, .ref T]) a3 hT2
          have at_b := same_upd (o := .tup [V.int to, .ref b, .ref T]) hT2 b _ upd_same
          have at_T := s7 _ _ hT
          have rk : RkAt _ T2 ⟨to, insN tb k.vis to, r⟩ := ⟨b, T, upd_same, at_b, at_T⟩
          revert rk s7
          generalize upd (upd (upd (upd H3 p (.lst (V.int to :: (k.vis.map V.int ++ [])))) p2 (.lst ((insN tb k.vis to).map V.int))) b (oTup (insN tb k.vis to))) T2 (.tup [V.int to, .ref b, .ref T]) = H7
          intro s7 rk
          have m7 := m3.step s7
          have k7 : KeepsTup H H7 := fun b o z => Same.tup' s7 _ _ (k3 _ _ z)
          obtain ⟨g, g1, g2, g3⟩ := m7.lng
          refine ⟨_, rfl, ⟨G, g, rfl, g1, g2⟩, _, rfl, _, rfl, _, rfl, _, _, rfl, rfl, wl, ?_⟩
          rw [wc]
          refine ⟨G, T2, g, _, _, rfl, rfl, rfl, g1, g2, rk, by rw [g3.len, sizeLine_eq]; omega, fun mem u' => ?_, fun out => ?_⟩
          · refine q _ _ H7 ?_ k7
            exact ⟨m7.same, m7.lay, m7.keys, m7.fnd, g, g1, g2, g3.old mem⟩
          · refine q _ _ _ (m7.walk nG g1 g2 g3 rk out) fun b o z => ?_
            have z7 := k7 _ _ z
            rw [upd_ne (fun z2 => by rw [z2, g1] at z7; cases z7)]
            exact z7
      · rw [if_pos rfl, in_ints] at hv
        have hv : to ∈ k.vis := Classical.byContradiction fun z => by rw [decide_eq_false z] at hv; exact hv rfl
        rw [if_neg fun z => z.2.2 hv] at q
        exact q _ _ H3 m3 k3
    · rw [if_neg (by decide), in_ints] at hk
      have hk : to ∉ kn := fun z => hk (decide_eq_true z)
      rw [if_neg fun z => hk z.2.1] at q
      exact q _ _ H3 m3 k3
end
end WK
set_option Elab.async false
set_option linter.all false
set_option maxRecDepth 100000
set_option maxHeartbeats 4000000
namespace RX
open PySem L2 PyProof.Rows K1 WK RD KN
theorem addNew_len {α β : Type} [DecidableEq α] (d : List (α × β)) (p : α × β) : (addNew d p).length ≤ d.length + 1 := by
  unfold addNew
  split
  · omega
  · rw [List.length_append]
    exact Nat.le_refl _
theorem fold_len {α β : Type} [DecidableEq α] : ∀ (l d : List (α × β)), (l.foldl addNew d).length ≤ d.length + l.length
  | [], _ => Nat.le_refl _
  | p :: l, d => by
    rw [List.foldl_cons, List.length_cons]
    have := fold_len l (addNew d p)
    have := addNew_len d p
    omega
theorem flat_most {α β : Type} {m : Nat} {f : α → List β} (h : ∀ a, (f a).length ≤ m) : ∀ l : List α, (l.flatMap f).length ≤ l.length * m
  | [] => by simp
  | a :: l => by
    rw [List.flatMap_cons, List.length_append, List.length_cons, Nat.add_mul, Nat.one_mul]
    have := flat_most h l
    have := h a
    omega
theorem fm_len {β : Type} (f : Nat → Option β) (n : Nat) : ((List.range n).filterMap f).length ≤ n := Nat.le_trans (List.length_filterMap_le _ _) (Nat.le_of_eq List.length_range)
theorem dd1_len {α κ : Type} [DecidableEq κ] (K : α → κ) (l : List α) : (dd1 K l).length ≤ l.length := by
  have h : ∀ (l acc : List α), (l.foldl (step1 K) acc).length ≤ acc.length + l.length := by
    intro l
    induction l with
    | nil => exact fun acc => Nat.le_refl _
    | cons a l ih =>
      intro acc
      rw [List.foldl_cons, List.length_cons]
      have h1 := ih (step1 K acc a)
      have h2 : (step1 K acc a).length ≤ acc.length + 1 := by
        unfold step1
        split
        · omega
        · rw [List.length_append]
          exact Nat.le_refl _
      omega
  have := h l []
  rw [List.length_nil] at this
  unfold dd1
  omega
section
variable {L : W} {tb : List (List Int)} {st : Int}
theorem ll_len (hL : L.length ≤ 3) : ∀ k, (LL L tb st k).length ≤ 3 ^ k
  | 0 => Nat.le_refl _
  | k + 1 => by
    have := flat_most (f := pushW L tb st) (m := 3) (fun a => Nat.le_trans (fm_len _ _) hL) (LL L tb st k)
    have ih := ll_len hL k
    show ((LL L tb st k).flatMap (pushW L tb st)).length ≤ _
    rw [Nat.pow_succ]
    exact Nat.le_trans this (Nat.mul_le_mul_right _ ih)
theorem lf_len (hL : L.length ≤ 3) : ∀ k, (LF L tb st k).length ≤ 3 ^ (k + 1)
  | 0 => Nat.zero_le _
  | k + 1 => by
    have h1 := flat_most (f := hitsW L tb st) (m := 3) (fun a => Nat.le_trans (fm_len _ _) hL) (LL L tb st k)
    have h2 := ll_len (tb := tb) (st := st) hL k
    have h3 := fold_len ((LL L tb st k).flatMap (hitsW L tb st)) (LF L tb st k)
    have ih := lf_len hL k
    show (((LL L tb st k).flatMap (hitsW L tb st)).foldl addNew (LF L tb st k)).length ≤ _
    rw [Nat.pow_succ] at ih ⊢
    rw [Nat.pow_succ]
    have := Nat.mul_le_mul_right 3 h2
    omega
theorem pl_len (hL : L.length ≤ 3) (kn : List Int) (k : Nat) : (PL L tb st kn k).length ≤ 3 ^ k := by
  unfold PL
  rw [List.length_map]
  exact Nat.le_trans (dd1_len _ _) (Nat.le_trans (List.length_filter_le _ _) (ll_len hL k))
theorem pow3 {k : Nat} (h : k ≤ 5) : 3 ^ k ≤ 243 := Nat.le_trans (Nat.pow_le_pow_right (by decide) h) (by decide)
/-- what stands in a layer -/
theorem pl_mem {s : Nat} {n : Int} (ok : TabOk tb L.length n) (hs : s < tb.length) {kn : List Int} {k : Nat} {p : Rk × W} (h : p ∈ PL L tb ((s : Nat) : Int) kn k) :
    p.2.length = k ∧ 0 ≤ p.1.here ∧ p.1.here < (tb.length : Nat) ∧ p.1.cnt = cntI L p.2 ∧ ∃ q, p.1.vis = (rngI tb.length).filter q := by
  unfold PL at h
  obtain ⟨a, ha, rfl⟩ := List.mem_map.mp h
  have o := ok_all ok hs k a (List.mem_filter.mp (dd1_sub _ _ a ha)).1
  exact ⟨o.len, o.rng.1, o.rng.2, rfl, _, rfl⟩
theorem cnt_in (L u : W) : ∀ x ∈ cntI L u, 0 ≤ x ∧ x ≤ (u.length : Nat) := fun x hx => by
  obtain ⟨c, _, rfl⟩ := List.mem_map.mp hx
  have := List.count_le_length (a := c) (l := u)
  omega
end
end RX
set_option Elab.async false
set_option linter.all false
set_option maxRecDepth 100000
set_option maxHeartbeats 8000000
namespace WK
open PySem L2 PyProof.Rows LCX K1 FV DP
open TX (sg sigs)
open PySem.W (Frag kitOne)
open RX RD
abbrev tInner (P : Program) (w : World) (K : Frag) : TS := tFor (ZR.iZip3 K (tCons (tVar 0) (tCons (tOp (rIxT K) (tVar 1) (tVar 8)) (tCons (tVar 4) tNil)))) (gTup K 3 (gCons (gName 12) (gCons (gName 13) (gCons (gName 14) gNil)))) (tTurn P w K (tSd P w))
abbrev tOuter (P : Program) (w : World) (K : Frag) : TS := tFor (iItemsR P w (FZ.tFrz (tVar 6))) (gTup K 2 (gCons (gTup K 3 (gCons (gName 8) (gCons (gName 9) (gCons (gName 10) gNil)))) (gCons (gName 11) gNil))) (tInner P w K)
theorem range_fm {β : Type} (f : Nat → Option β) (i : Nat) : (List.range (i + 1)).filterMap f = (List.range i).filterMap f ++ (f i).toList := by
  rw [List.range_succ, List.filterMap_append]
  cases e : f i with
  | none => rw [List.filterMap_cons_none e] <;> rfl
  | some x => rw [List.filterMap_cons_some e] <;> rfl
section
variable {P : Program} {w : World} {K : Frag} {H2 : Hp} {D F G : Addr} {od : Obj} {l : List Ent} {fl : List (List Int × W)} {gl : List (Rk × W)} {H : Hp}
theorem inner_ok {L u : W} {tb : List (List Int)} {s : Nat} {k : Rk} {kn : List Int} {n : Int} {t kp U b9 b10 : Addr} {as : List Addr} {x12 x13 x14 x15 x16 x17 x18 : Option V} {Dn : Ends}
    (m : Mid P w H2 D F G od l fl gl H) (nF : H2 F = none) (nG : H2 G = none) (hkn : H2 kp = some (oTup kn)) (hT : TTab K H2 t tb) (hU : H2 U = some (.lst (as.map V.ref))) (hUo : Objs oTup H2 as ((List.range L.length).map (unitV L.length)))
    (h9 : H b9 = some (oTup k.vis)) (h10 : H b10 = some (oTup k.cnt)) (ok : TabOk tb L.length n) (hL : L.length ≤ 3) (few : tb.length ≤ 5) (hh : 0 ≤ k.here ∧ k.here < (tb.length : Nat)) (hcnt : k.cnt = cntI L u) (vis : ∃ p, k.vis = (rngI tb.length).filter p)
    (hu : u.length ≤ 5) (hf : fl.length ≤ 5000) (hg : gl.length ≤ 5000)
    (q : ∀ x12 x13 x14 x15 x16 x17 x18 H', Mid P w H2 D F G od l ((hitsP L tb ((s : Nat) : Int) k u).foldl addNew fl) ((pushP L tb ((s : Nat) : Int) kn k u).foldl addNew gl) H' → KeepsTup H H' →
      Dn.nx [some (.str (tx L)), some (.ref t), some (.int ((s : Nat) : Int)), some (.ref kp), some (.ref U), some (.ref F), some (.ref D), some (.ref G), some (.int k.here), some (.ref b9), some (.ref b10), some (.str (tx u)), x12, x13, x14, x15, x16, x17, x18] H') :
    tInner P w K Dn [some (.str (tx L)), some (.ref t), some (.int ((s : Nat) : Int)), some (.ref kp), some (.ref U), some (.ref F), some (.ref D), some (.ref G), some (.int k.here), some (.ref b9), some (.ref b10), some (.str (tx u)), x12, x13, x14, x15, x16, x17, x18] H := by
  obtain ⟨ts, hts, hobj⟩ := hT
  have hlt : k.here.toNat < tb.length := by omega
  obtain ⟨ra, e1, e2⟩ := hobj.get hlt
  have rw_ := (ok.row _ (List.getElem_mem hlt)).1
  have eg : tb.getD k.here.toNat [] = tb[k.here.toNat] := by rw [List.getD_eq_getElem?_getD, List.getElem?_eq_getElem hlt] <;> rfl
  have szL : (tx L).cps.size = L.length := size_tx L
  have l1 : ((tb.getD k.here.toNat []).map V.int).length = (tx L).cps.size := by rw [List.length_map, eg, rw_, szL]
  have lu : as.length = L.length := by rw [hUo.len, List.length_map, List.length_range]
  have l2 : (as.map V.ref).length = (tx L).cps.size := by rw [List.length_map, lu, szL]
  have atr : atI (ts.map V.ref) k.here = some (.ref ra) := by
    rw [show k.here = ((k.here.toNat : Nat) : Int) by omega]
    refine atI_nat ?_
    rw [List.getElem?_map, e1] <;> rfl
  refine ⟨_, rfl, _, rfl, _, rfl, t, _, _, _, rfl, rfl, seqT m.same hts, atr, _, rfl, tx L, ra, _, U, _, rfl, SqT.of (m.same _ _ e2), SqL.of (m.same _ _ hU), ?_⟩
  refine for_it (ZR.walk3 l1 l2) (fun i σ H' => ∃ x12 x13 x14 x15 x16 x17 x18, σ = [some (.str (tx L)), some (.ref t), some (.int ((s : Nat) : Int)), some (.ref kp), some (.ref U), some (.ref F), some (.ref D), some (.ref G), some (.int k.here), some (.ref b9), some (.ref b10), some (.str (tx u)), x12, x13, x14, x15, x16, x17, x18] ∧
    Mid P w H2 D F G od l (((List.range i).filterMap fun i => if rowF tb k.here i = ((s : Nat) : Int) then some (plusV k.cnt (unitV L.length i), u ++ [L.getD i 0]) else none).foldl addNew fl)
      (((List.range i).filterMap fun i => if rowF tb k.here i ≠ ((s : Nat) : Int) ∧ rowF tb k.here i ∈ kn ∧ rowF tb k.here i ∉ k.vis then some ((⟨rowF tb k.here i, insN tb k.vis (rowF tb k.here i), plusV k.cnt (unitV L.length i)⟩ : Rk), u ++ [L.getD i 0]) else none).foldl addNew gl) H' ∧ KeepsTup H H')
    ⟨_, _, _, _, _, _, _, rfl, m, fun _ _ e => e⟩ (fun i σ H' _ ⟨_, _, _, _, _, _, _, _, m', _⟩ => ⟨SqT.of (m'.same _ _ e2), SqL.of (m'.same _ _ hU)⟩) ?_ ?_
  · rintro i x σ H3 H4 hi ⟨y12, y13, y14, y15, y16, y17, y18, rfl, m3, k3⟩ ⟨T, c, y, z, rfl, hT, rfl, hx, hy, hz⟩
    rw [szL] at hi
    have m4 := m3.step (same_upd (o := .tup [V.str ⟨#[c]⟩, y, z]) hT)
    have k4 : KeepsTup H (upd H3 T (.tup [V.str ⟨#[c]⟩, y, z])) := fun b o e => Same.tup' (same_upd hT) _ _ (k3 _ _ e)
    have hx : L[i]? = some c := by
      rw [← Array.getElem?_toList, tx_list] at hx
      exact hx
    have hil : i < (tb.getD k.here.toNat []).length := by rw [eg, rw_]; exact hi
    have ey : y = .int (rowF tb k.here i) := by
      rw [List.getElem?_map, List.getElem?_eq_getElem hil] at hy
      rw [← Option.some.inj hy]
      unfold rowF
      rw [List.getD_eq_getElem?_getD (l := tb.getD k.here.toNat []), List.getElem?_eq_getElem hil] <;> rfl
    have hiu : i < ((List.range L.length).map (unitV L.length)).length := by rw [List.length_map, List.length_range]; exact hi
    obtain ⟨ai, f1, f2⟩ := hUo.get hiu
    have f2 : H2 ai = some (oTup (unitV L.length i)) := by
      rw [List.getD_eq_getElem?_getD, List.getElem?_map, List.getElem?_range hi] at f2
      exact f2
    have ez : z = .ref ai := by
      rw [List.getElem?_map, f1] at hz
      exact (Option.some.inj hz).symm
    subst ey ez
    have hr := rowF_in ok (k := k.here) ⟨hh.1, by have := ok.len; omega⟩ hi
    have hn := ok.len
    have gc : L.getD i 0 = c := by rw [List.getD_eq_getElem?_getD, hx] <;> rfl
    refine ⟨T, _, rfl, SqT.of upd_same, rfl, _, _, rfl, _, _, rfl, _, _, rfl, rfl, ?_⟩
    have b1 := fold_len ((List.range i).filterMap fun i => if rowF tb k.here i = ((s : Nat) : Int) then some (plusV k.cnt (unitV L.length i), u ++ [L.getD i 0]) else none) fl
    have b2 := fold_len ((List.range i).filterMap fun i => if rowF tb k.here i ≠ ((s : Nat) : Int) ∧ rowF tb k.here i ∈ kn ∧ rowF tb k.here i ∉ k.vis then some ((⟨rowF tb k.here i, insN tb k.vis (rowF tb k.here i), plusV k.cnt (unitV L.length i)⟩ : Rk), u ++ [L.getD i 0]) else none) gl
    have c1 := fm_len (fun i => if rowF tb k.here i = ((s : Nat) : Int) then some (plusV k.cnt (unitV L.length i), u ++ [L.getD i 0]) else none) i
    have c2 := fm_len (fun i => if rowF tb k.here i ≠ ((s : Nat) : Int) ∧ rowF tb k.here i ∈ kn ∧ rowF tb k.here i ∉ k.vis then some ((⟨rowF tb k.here i, insN tb k.vis (rowF tb k.here i), plusV k.cnt (unitV L.length i)⟩ : Rk), u ++ [L.getD i 0]) else none) i
    refine turn_ok (tb := tb) (s := s) (i := i) (kn := kn) m4 nF nG hkn (k4 _ _ h9) (k4 _ _ h10) (m4.same _ _ f2) gc (by rw [hcnt, cnt_len]) hL (fun x hx => ?_) vis (by omega) few (by omega) (by omega) (by omega) fun y15 y16 H' m' k' => ?_
    · rw [hcnt] at hx
      have := cnt_in L u x hx
      omega
    · refine ⟨_, _, _, _, _, _, _, rfl, ?_, fun b o e => k' _ _ (k4 _ _ e)⟩
      rw [range_fm, range_fm, List.foldl_append, List.foldl_append, gc]
      by_cases e : rowF tb k.here i = ((s : Nat) : Int)
      · rw [if_pos e, if_neg (fun z => z.1 e)] at m' ⊢
        exact m'
      · rw [if_neg e] at m' ⊢
        by_cases e2 : rowF tb k.here i ≠ ((s : Nat) : Int) ∧ rowF tb k.here i ∈ kn ∧ rowF tb k.here i ∉ k.vis
        · rw [if_pos e2] at m' ⊢
          exact m'
        · rw [if_neg e2] at m' ⊢
          exact m'
  · rintro σ H3 ⟨y12, y13, y14, y15, y16, y17, y18, rfl, m3, k3⟩
    rw [szL] at m3
    exact q _ _ _ _ _ _ _ _ m3 k3
end
end WK
set_option Elab.async false
set_option linter.all false
set_option maxRecDepth 100000
set_option maxHeartbeats 8000000
namespace WK
open PySem L2 PyProof.Rows LCX K1 FV DP
open TX (sg sigs)
open PySem.W (Frag kitOne)
open RX RD
section
variable {P : Program} {w : World} {K : Frag} {H2 : Hp} {D F G : Addr} {od : Obj} {l : List Ent} {fl : List (List Int × W)} {lay : List (Rk × W)} {H : Hp}
theorem outer_ok {L : W} {tb : List (List Int)} {s : Nat} {kn : List Int} {n : Int} {t kp U : Addr} {as : List Addr} {x8 x9 x10 x11 x12 x13 x14 x15 x16 x17 x18 : Option V} {Dn : Ends}
    (sm : Same H2 H) (hD : H D = some (RdO P w D l)) (keys : keysAt H l) (se : SameEnt l lay) (nD : H2 D = none) (nF : H2 F = none) (nG : H2 G = none) (hF : H F = some (.dT (kvR fl))) (hG : H G = some (RdO P w G [])) (GD : G ≠ D)
    (hkn : H2 kp = some (oTup kn)) (hT : TTab K H2 t tb) (hU : H2 U = some (.lst (as.map V.ref))) (hUo : Objs oTup H2 as ((List.range L.length).map (unitV L.length)))
    (ok : TabOk tb L.length n) (hL : L.length ≤ 3) (few : tb.length ≤ 5) (pr : ∀ p ∈ lay, p.2.length ≤ 5 ∧ (0 ≤ p.1.here ∧ p.1.here < (tb.length : Nat)) ∧ p.1.cnt = cntI L p.2 ∧ ∃ q, p.1.vis = (rngI tb.length).filter q)
    (hl : lay.length ≤ 243) (hf : fl.length ≤ 3000)
    (q : ∀ x8 x9 x10 x11 x12 x13 x14 x15 x16 x17 x18 H' g, Same H2 H' → H' F = some (.dT (kvR ((lay.flatMap fun p => hitsP L tb ((s : Nat) : Int) p.1 p.2).foldl addNew fl))) → H' G = some (RdO P w G g) → keysAt H' g → SameEnt g ((lay.flatMap fun p => pushP L tb ((s : Nat) : Int) kn p.1 p.2).foldl addNew []) →
      Dn.nx [some (.str (tx L)), some (.ref t), some (.int ((s : Nat) : Int)), some (.ref kp), some (.ref U), some (.ref F), some (.ref D), some (.ref G), x8, x9, x10, x11, x12, x13, x14, x15, x16, x17, x18] H') :
    tOuter P w K Dn [some (.str (tx L)), some (.ref t), some (.int ((s : Nat) : Int)), some (.ref kp), some (.ref U), some (.ref F), some (.ref D), some (.ref G), x8, x9, x10, x11, x12, x13, x14, x15, x16, x17, x18] H := by
  refine ⟨_, rfl, D, _, rfl, hD, True.intro, fun od => ⟨D, od, l, rfl, upd_same, ?_⟩⟩
  have FD : F ≠ D := fun z => by rw [z, hD] at hF; cases hF
  have kt : KeepsTup H (upd H D (.frz od (RdO P w D l))) := fun b o e => by
    rw [upd_ne (fun z => by rw [z, hD] at e; cases e)]
    exact e
  have m0 : Mid P w H2 D F G od l fl [] (upd H D (.frz od (RdO P w D l))) := ⟨same_at sm nD, upd_same, keys.keep kt, by rw [upd_ne FD]; exact hF, [], by rw [upd_ne GD]; exact hG, fun e he => absurd he List.not_mem_nil, rfl⟩
  have len := se.len
  refine for_it walk_R (fun i σ H' => ∃ x8 x9 x10 x11 x12 x13 x14 x15 x16 x17 x18, σ = [some (.str (tx L)), some (.ref t), some (.int ((s : Nat) : Int)), some (.ref kp), some (.ref U), some (.ref F), some (.ref D), some (.ref G), x8, x9, x10, x11, x12, x13, x14, x15, x16, x17, x18] ∧
    Mid P w H2 D F G od l (((lay.take i).flatMap fun p => hitsP L tb ((s : Nat) : Int) p.1 p.2).foldl addNew fl) (((lay.take i).flatMap fun p => pushP L tb ((s : Nat) : Int) kn p.1 p.2).foldl addNew []) H')
    ⟨_, _, _, _, _, _, _, _, _, _, _, rfl, m0⟩ (fun i σ H' _ ⟨_, _, _, _, _, _, _, _, _, _, _, _, m'⟩ => m'.lay) ?_ ?_
  · rintro i x σ H3 H4 hi ⟨y8, y9, y10, y11, y12, y13, y14, y15, y16, y17, y18, rfl, m3⟩ ⟨T, e, he, rfl, hT', rfl⟩
    have m4 := m3.step (same_upd (o := .tup [.ref e.2.1, .str e.2.2]) hT')
    have hil : i < lay.length := by omega
    have el : (e.1, e.2.2) = (lay[i].1, tx lay[i].2) := by
      have h1 := congrArg (fun z => z[i]?) se
      simp only [List.getElem?_map, he, List.getElem?_eq_getElem hil, Option.map_some] at h1
      exact Option.some.inj h1
    injection el with el1 el2
    obtain ⟨b9, b10, r1, r2, r3⟩ := m4.keys e (List.mem_of_getElem? he)
    rw [el1] at r1 r2 r3
    rw [el2]
    obtain ⟨p1, p2, p3, p4⟩ := pr lay[i] (List.getElem_mem hil)
    refine ⟨T, _, rfl, SqT.of upd_same, rfl, _, _, rfl, ⟨e.2.1, _, rfl, SqT.of (by rw [← el2]; exact r1), rfl, _, _, rfl, _, _, rfl, _, _, rfl, rfl, _, _, rfl, rfl, ?_⟩⟩
    rw [el2] at m4
    have tk : lay.take (i + 1) = lay.take i ++ [lay[i]] := by rw [List.take_add_one, List.getElem?_eq_getElem hil] <;> rfl
    have tl : (lay.take i).length ≤ 243 := by rw [List.length_take]; omega
    have b1 := fold_len ((lay.take i).flatMap fun p => hitsP L tb ((s : Nat) : Int) p.1 p.2) fl
    have b2 := fold_len ((lay.take i).flatMap fun p => pushP L tb ((s : Nat) : Int) kn p.1 p.2) []
    have c1 := flat_most (f := fun p : Rk × W => hitsP L tb ((s : Nat) : Int) p.1 p.2) (m := 3) (fun p => Nat.le_trans (fm_len _ _) hL) (lay.take i)
    have c2 := flat_most (f := fun p : Rk × W => pushP L tb ((s : Nat) : Int) kn p.1 p.2) (m := 3) (fun p => Nat.le_trans (fm_len _ _) hL) (lay.take i)
    rw [List.length_nil] at b2
    rw [el2] at r2 r3
    refine inner_ok (tb := tb) (s := s) (kn := kn) m4 nF nG hkn hT hU hUo r2 r3 ok hL few p2 p3 p4 p1 (by omega) (by omega) fun y12 y13 y14 y15 y16 y17 y18 H' m' _ => ?_
    refine ⟨_, _, _, _, _, _, _, _, _, _, _, rfl, ?_⟩
    rw [tk, List.flatMap_append, List.flatMap_append, List.foldl_append, List.foldl_append, List.flatMap_singleton, List.flatMap_singleton]
    exact m'
  · rintro σ H3 ⟨y8, y9, y10, y11, y12, y13, y14, y15, y16, y17, y18, rfl, m3⟩
    rw [len, List.take_length] at m3
    obtain ⟨g, g1, g2, g3⟩ := m3.lng
    exact q _ _ _ _ _ _ _ _ _ _ _ _ g m3.same m3.fnd g1 g2 g3
end
end WK
set_option Elab.async false
set_option linter.all false
set_option maxRecDepth 100000
set_option maxHeartbeats 8000000
namespace WK
open PySem L2 PyProof.Rows LCX K1 FV DP
open TX (sg sigs)
open PySem.W (Frag kitOne)
open RX RD
abbrev sRings : Stmt := top 53
abbrev NRb : List Str := ["letters", "table", "state", "knot", "units", "found", "layer", "longer", "here", "met", "counted", "word", "letter", "after", "unit", "sums", "key", "held", "_"]
def spRings (K : Frag) : Sp := fun vs H Q _ => ∃ (t : Addr) (L : W) (tb : List (List Int)) (n : Int) (s : Nat), vs = [.str (tx L), .ref t, .int ((s : Nat) : Int)] ∧ TTab K H t tb ∧ TabOk tb L.length n ∧ Let L ∧ L.length ≤ 3 ∧ tb.length ≤ 5 ∧ s < tb.length ∧
  ∀ (f : Addr) (H' : Hp), H f = none → Same H H' → H' f = some (.dT (kvR (ringsN L tb s))) → Q (.ref f) H'
theorem KnotsOk.len {n : Nat} {row : Nat → List Nat} {ks : List (List Int)} (h : KnotsOk n row ks) : ks.length ≤ n := by
  have sub : ks ⊆ (List.range n).map fun s => Classical.epsilon fun k : List Int => k.Pairwise (· < ·) ∧ ∀ x : Int, x ∈ k ↔ ∃ y : Nat, x = ((y : Nat) : Int) ∧ KN.Scc row s y := fun k hk => by
    obtain ⟨asc, s, sn, e⟩ := h.each k hk
    refine List.mem_map.mpr ⟨s, List.mem_range.mpr sn, ?_⟩
    have sp := Classical.epsilon_spec (p := fun k : List Int => k.Pairwise (· < ·) ∧ ∀ x : Int, x ∈ k ↔ ∃ y : Nat, x = ((y : Nat) : Int) ∧ KN.Scc row s y) ⟨k, asc, e⟩
    exact asc_eq sp.1 asc fun x => (sp.2 x).trans (e x).symm
  have := h.nd.length_le_of_subset sub
  rw [List.length_map, List.length_range] at this
  exact this
theorem KnotsOk.kn {tb : List (List Int)} {ks : List (List Int)} (h : KnotsOk tb.length (rowN tb) ks) {k : List Int} (hk : k ∈ ks) {s : Nat} (m : ((s : Nat) : Int) ∈ k) : RX.Kn tb s k := fun x => by
  obtain ⟨_, s', _, e⟩ := h.each k hk
  obtain ⟨y, ey, g⟩ := (e _).mp m
  obtain rfl : s = y := Int.ofNat.inj ey
  exact (e x).trans ⟨fun ⟨z, a, b⟩ => ⟨z, a, g.symm.trans b⟩, fun ⟨z, a, b⟩ => ⟨z, a, g.trans b⟩⟩
abbrev tWh (P : Program) (w : World) (K : Frag) : TS := tWhile (tTruR P w (tVar 6)) (tSeq (tAsg (tNewR P w) (gName 7)) (tSeq (tOuter P w K) (tAsg (tVar 7) (gName 6))))
section
variable {P : Program} {w : World} {K : Frag} {H2 : Hp} {D F : Addr} {l : List Ent} {H : Hp}
theorem while_ok {L : W} {tb : List (List Int)} {s : Nat} {kn : List Int} {n : Int} {t kp U : Addr} {as : List Addr} {x7 x8 x9 x10 x11 x12 x13 x14 x15 x16 x17 x18 : Option V} {Dn : Ends}
    (sm : Same H2 H) (hD : H D = some (RdO P w D l)) (keys : keysAt H l) (se : SameEnt l (PL L tb ((s : Nat) : Int) kn 0)) (nD : H2 D = none) (nF : H2 F = none) (hF : H F = some (.dT (kvR (LF L tb ((s : Nat) : Int) 0))))
    (hkn : H2 kp = some (oTup kn)) (hT : TTab K H2 t tb) (hU : H2 U = some (.lst (as.map V.ref))) (hUo : Objs oTup H2 as ((List.range L.length).map (unitV L.length)))
    (ok : TabOk tb L.length n) (hL : Let L) (few : tb.length ≤ 5) (hs : s < tb.length) (hk : RX.Kn tb s kn)
    (q : ∀ x6 x7 x8 x9 x10 x11 x12 x13 x14 x15 x16 x17 x18 H', Same H2 H' → H' F = some (.dT (kvR (ringsN L tb s))) →
      Dn.nx [some (.str (tx L)), some (.ref t), some (.int ((s : Nat) : Int)), some (.ref kp), some (.ref U), some (.ref F), x6, x7, x8, x9, x10, x11, x12, x13, x14, x15, x16, x17, x18] H') :
    tWh P w K Dn [some (.str (tx L)), some (.ref t), some (.int ((s : Nat) : Int)), some (.ref kp), some (.ref U), some (.ref F), some (.ref D), x7, x8, x9, x10, x11, x12, x13, x14, x15, x16, x17, x18] H := by
  have nd : L.Nodup := nodup_of hL
  refine ⟨fun m σ H' => ∃ k D l x7 x8 x9 x10 x11 x12 x13 x14 x15 x16 x17 x18, m = tb.length - k ∧ k ≤ tb.length ∧ σ = [some (.str (tx L)), some (.ref t), some (.int ((s : Nat) : Int)), some (.ref kp), some (.ref U), some (.ref F), some (.ref D), x7, x8, x9, x10, x11, x12, x13, x14, x15, x16, x17, x18] ∧
    Same H2 H' ∧ H' D = some (RdO P w D l) ∧ keysAt H' l ∧ SameEnt l (PL L tb ((s : Nat) : Int) kn k) ∧ H2 D = none ∧ H' F = some (.dT (kvR (LF L tb ((s : Nat) : Int) k))), ⟨_, 0, D, l, _, _, _, _, _, _, _, _, _, _, _, _, rfl, Nat.zero_le _, rfl, sm, hD, keys, se, nD, hF⟩, ?_⟩
  rintro m σ H3 ⟨k, D, l, x7, x8, x9, x10, x11, x12, x13, x14, x15, x16, x17, x18, rfl, hk5, rfl, sm, hD, keys, se, nD, hF⟩
  refine ⟨_, rfl, D, l, rfl, hD, keys, ite2 (fun e => ?_) (fun e => ?_)⟩
  · have hne : PL L tb ((s : Nat) : Int) kn k ≠ [] := fun z => by
      have := se.len
      rw [z, List.length_nil] at this
      rw [List.length_eq_zero_iff.mp this] at e
      cases e
    have hlt : k < tb.length := by
      rcases Nat.lt_or_ge k tb.length with h | h
      · exact h
      · exact absurd (by rw [show k = tb.length by omega]; exact pl_end ok hs) hne
    refine ⟨_, fun σ' H' h => h, ?_⟩
    refine fun G nG => ?_
    have s4 := same_upd (o := RdO P w G []) nG
    have GD : G ≠ D := fun z => by rw [z, hD] at nG; cases nG
    have p3 := pow3 (show k ≤ 5 by omega)
    have p4 := Nat.pow_le_pow_right (n := 3) (by decide) (show k + 1 ≤ 6 by omega)
    refine outer_ok (lay := PL L tb ((s : Nat) : Int) kn k) (tb := tb) (s := s) (kn := kn) (sm.trans s4) (s4 _ _ hD) (keys.keep (Same.tup' s4)) se nD nF (sm.free nG) (s4 _ _ hF) upd_same GD hkn hT hU hUo ok hL.few few (fun p hp => ?_) (Nat.le_trans (pl_len hL.few kn k) p3) (Nat.le_trans (lf_len hL.few k) (Nat.le_trans p4 (by decide))) ?_
    · obtain ⟨a1, a2, a3, a4, a5⟩ := pl_mem ok hs hp
      exact ⟨by omega, ⟨a2, a3⟩, a4, a5⟩
    · intro y8 y9 y10 y11 y12 y13 y14 y15 y16 y17 y18 H' g sm' hF' hG' kg sg'
      obtain ⟨c1, c2⟩ := lay_next ok nd hs hk k
      rw [c2] at hF'
      rw [c1] at sg'
      exact ⟨_, rfl, tb.length - (k + 1), by omega, k + 1, G, g, _, _, _, _, _, _, _, _, _, _, _, _, rfl, hlt, rfl, sm', hG', kg, sg', sm.free nG, hF'⟩
  · have h0 : PL L tb ((s : Nat) : Int) kn k = [] := by
      refine List.length_eq_zero_iff.mp ?_
      rw [← se.len]
      cases l with
      | nil => rfl
      | cons a l => exact absurd rfl e
    rw [rings_prog ok nd hs hk hk5 h0] at hF
    exact q _ _ _ _ _ _ _ _ _ _ _ _ _ _ sm hF
end
section
variable {P : Program} {w : World} {K : PySem.W.Frag} {mg : Str → Option Value} {base : Heap} {fK fU fP : Addr} {dK dU dP : FuncData}
theorem scRb : FnScope NRb ["letters", "table", "state"] (defScope sRings) := ⟨rfl, rfl, rfl, by decide +kernel, rfl, by decide +kernel, by decide +kernel⟩
theorem ok_rings {f : Addr} {fd : FuncData} {v0 : Value} {t0 : Tok} (ev : v0 = .int 1 t0) (F : Fun K "rings_by_counts" "rings_by_counts" sRings f fd) (T : TN mg) (AK : Fn K mg "knots_of" sKnotsOf ["table"] fK dK) (GK : FnOk P w K mg base CX0 2 fK dK ["table"] (spKnotsOf K))
    (AU : Fn K mg "units_of" sUnits ["letters"] fU dU) (gP : mg "plus" = some (.ref fP)) (kP : PySem.W.keepIn K (.ref fP) = true) (GP : FnOk P w K mg base CX0 1 fP dP ["one", "other", "times"] spPlus) (bP : Binds K dP ["one", "other", "times"] [v0]) :
    FnOk P w K mg base CX0 3 f fd ["letters", "table", "state"] (spRings K) := by
  have GU : FnOk P w K mg base CX0 1 fU dU ["letters"] spUnits := ok_units AU.F T
  refine F.ok scRb (fun vs H Q E h => ?_) (fun cdv A outer s H vs Q E hr h => ?_)
  · obtain ⟨t, L, tb, n, s, rfl, _⟩ := h
    rfl
  · obtain ⟨t, L, tb, n, s, rfl, hT, ok, hL, hw, hn, hs, q⟩ := h
    have hr1 : Room 1 _ := hr.mono (by decide)
    have hub := hu_of hr
    have hu64 := hr.units
    refine ⟨_, pss_cons (ps_set (i := 3) scRb.nd rfl (Or.inl rfl) (pe_ix ix_list (pe_lc (own := [("held", 17)]) (g := gName 17) (tt := tTest (tOp (rIn K false) (tVar 2) (tVar 17))) rfl scRb.nd (pi_tup (pe_call (E := E0) GK hr rfl AK.g AK.F.kp AK.b .nil pass0 (pa_cons (pv 1) pa_nil)))
          (blkOk_by (own := [("held", 17)]) (N := NRb) (sc := defScope sRings) (by decide +kernel)) (fun _ _ _ _ _ => pg_name (i := 17) scRb.nd rfl (Or.inl rfl)) (fun _ _ _ _ _ => pts_one (pt_cmpR op_in_seq (pv 2) (pv 17) (by rfl))) (fun _ _ _ _ _ => pv 17)) pe_int (fun _ _ => rfl)))
      (pss_cons (ps_set (i := 4) scRb.nd rfl (Or.inl rfl) (pe_call (E := E0) GU hr1 rfl AU.g AU.F.kp AU.b .nil pass0 (pa_cons (pv 0) pa_nil)))
      (pss_cons (ps_set (i := 5) scRb.nd rfl (Or.inl rfl) pe_dnewT)
      (pss_cons (ps_set (i := 6) scRb.nd rfl (Or.inl rfl) (pe_oneR hu64 (pe_tup (pa_cons (pv 2) (pa_cons (pe_tup pa_nil) (pa_cons (pe_callTy call_tuple_of (by rfl) T.tuple (by decide +kernel) (pa_cons (pe_lc (own := [("_", 18)]) (g := gName 18) (tt := tYes) (te := tC (.int 0)) rfl scRb.nd (pi_str (pv 0))
          (blkOk_by (own := [("_", 18)]) (N := NRb) (sc := defScope sRings) (by decide +kernel)) (fun _ _ _ _ _ => pg_name (i := 18) scRb.nd rfl (Or.inl rfl)) (fun _ _ _ _ _ => pts_nil) (fun _ _ _ _ _ => pe_int)) pa_nil)) pa_nil)))) pe_str))
      (pss_cons (ps_while PassesOwn.never (pt_truR (pv 6) (by intro _; rfl))
        (pss_cons (ps_set (i := 7) scRb.nd rfl (Or.inl rfl) pe_newR)
        (pss_cons (ps_for PassesOwn.never rfl (pi_itemsR (FZ.pe_frz (pv 6))) (pg_tup (n := 2) (by rfl) (pgs_cons (pg_tup (n := 3) (by rfl) (pgs_cons (pg_name (i := 8) scRb.nd rfl (Or.inl rfl)) (pgs_cons (pg_name (i := 9) scRb.nd rfl (Or.inl rfl)) (pgs_cons (pg_name (i := 10) scRb.nd rfl (Or.inl rfl)) pgs_nil)))) (pgs_cons (pg_name (i := 11) scRb.nd rfl (Or.inl rfl)) pgs_nil)))
          (pss_one (ps_for PassesOwn.never rfl (ZR.pi_zip3 rfl T.zip (pa_cons (pv 0) (pa_cons (pe_ix ix_tup (pv 1) (pv 8) (fun _ _ => rfl)) (pa_cons (pv 4) pa_nil)))) (pg_tup (n := 3) (by rfl) (pgs_cons (pg_name (i := 12) scRb.nd rfl (Or.inl rfl)) (pgs_cons (pg_name (i := 13) scRb.nd rfl (Or.inl rfl)) (pgs_cons (pg_name (i := 14) scRb.nd rfl (Or.inl rfl)) pgs_nil))))
            (pss_cons (ps_set (i := 15) scRb.nd rfl (Or.inl rfl) (pe_call (E := E0) GP hr1 rfl gP kP bP (dvs := [.int 1]) (.cons ⟨t0, ev⟩ .nil) pass0 (pa_cons (pv 10) (pa_cons (pv 14) pa_nil))))
            (pss_one (ps_if (PW.pt (pw_and (pt_cmpR op_eq (pv 13) (pv 2) (nomark _)) (pw_and1 (pt_cmp (pc_dnotin hub (pv 15) (pv 5))))))
              (pss_one (ps_dput hub (pv 5) (pv 15) (pe_op op_add_str (pv 11) (pv 12)) rfl))
              (pss_one (ps_if (PW.pt (pw_and (pt_cmpR op_ne (pv 13) (pv 2) (nomark _)) (pw_and (pt_cmpR op_in_seq (pv 13) (pv 3) (by rfl)) (pw_and1 (pt_cmpR op_notIn_seq (pv 13) (pv 9) (by rfl))))))
                (pss_cons (ps_set (i := 16) scRb.nd rfl (Or.inl rfl) (pe_tup (pa_cons (pv 13) (pa_cons (pe_callTy call_tuple_of (by rfl) T.tuple (by decide +kernel) (pa_cons (pe_callB cr_sortedI (by rfl) T.sorted (by decide +kernel) (pa_cons (pe_lst (pa_cons (pv 13) (StX.pa_star (pv 9) pa_nil))) pa_nil)) pa_nil)) (pa_cons (pv 15) pa_nil)))))
                (pss_one (ps_expr (pe_setR hu64 (pv 7) (pv 16) (pe_op op_add_str (pv 11) (pv 12)) ⟨by rfl, by rfl, by rfl, by rfl⟩)))) pss_nil))))))))
        (pss_one (ps_set (i := 6) scRb.nd rfl (Or.inl rfl) (pv 7))))))
      (pss_one (ps_ret (pv 5))))))), ?_⟩
    refine ⟨_, rfl, t, tb, L.length, n, rfl, hT, ok, by omega, by omega, fun kz zs H1 nkz s1 hkz tus kok => ⟨kz, rfl, ⟨_, SqT.of hkz⟩, fun D0 nD0 => ?_⟩⟩
    have zl : zs.length < sizeLine := by
      have h1 := kok.len
      rw [List.length_map] at h1
      rw [sizeLine_eq]
      omega
    refine same_tup (l := zs) (val := fun z => V.ref z.1) (r := fun z => if decide (((s : Nat) : Int) ∈ z.2) = true then [V.ref z.1] else []) nD0 (SqT.of hkz) zl (fun z => by split <;> simp) (fun z hz H3 acc s3 hacc hlen N hN => ?_) (fun H3 s3 hd => ?_)
    · refine ⟨rfl, _, rfl, _, rfl, z.1, _, rfl, .inr (SqT.of (s3 _ _ (tus z hz))), rfl, all_flat z.2, _, rfl, ite2 (fun hin => ?_) (fun hin => ?_)⟩
      · rw [if_neg (by decide), in_ints] at hin
        rw [if_pos hin] at hN
        exact ⟨_, rfl, acc, hacc, hlen, hN _ (same_at s3 nD0) upd_same⟩
      · rw [if_neg (by decide), in_ints] at hin
        rw [if_neg hin, List.append_nil] at hN
        exact hN _ s3 hacc
    · rw [LCX.flat_filter] at hd
      obtain ⟨k0, hk0, m0⟩ := kok.all s hs
      obtain ⟨z0, hz0, rfl⟩ := List.mem_map.mp hk0
      have hne : zs.filter (fun z => decide (((s : Nat) : Int) ∈ z.2)) ≠ [] := fun e => by
        have : z0 ∈ zs.filter (fun z => decide (((s : Nat) : Int) ∈ z.2)) := List.mem_filter.mpr ⟨hz0, decide_eq_true m0⟩
        rw [e] at this
        exact absurd this List.not_mem_nil
      obtain ⟨z1, zr, ez⟩ := List.exists_cons_of_ne_nil hne
      have hz1 : z1 ∈ zs.filter (fun z => decide (((s : Nat) : Int) ∈ z.2)) := by rw [ez]; exact .head _
      obtain ⟨hz1, m1⟩ := List.mem_filter.mp hz1
      have m1 := of_decide_eq_true m1
      have hk : RX.Kn tb s z1.2 := kok.kn (List.mem_map_of_mem hz1) m1
      rw [ez] at hd
      refine ⟨D0, _, _, .ref z1.1, rfl, rfl, SqL.of hd, (show atI _ ((0 : Nat) : Int) = _ from atI_nat rfl), ?_⟩
      refine ⟨_, rfl, L, rfl, by omega, fun U as H4 nU s4 hU hUo => ?_⟩
      have s14 : Same H1 H4 := s3.trans s4
      have sH4 : Same H H4 := s1.trans s14
      refine fun F nF => fun D nD => ?_
      have sa := same_upd (o := .dT []) nF
      have nD4 : H4 D = none := sa.free nD
      have sb := same_two (o := RdO P w D []) sa nD
      have Fb : upd (upd H4 F (.dT [])) D (RdO P w D []) F = some (.dT []) := by
        rw [upd_ne (fun z => by rw [← z, upd_same] at nD; cases nD)]
        exact upd_same
      have Db : upd (upd H4 F (.dT [])) D (RdO P w D []) D = some (RdO P w D []) := upd_same
      refine ⟨_, rfl, Nat.zero_le _, fun e0 he0 => ?_⟩
      refine ⟨_, rfl, tx L, rfl, fun D2 hD2 => ?_⟩
      refine lc_it walk_str (fun i H5 => Same (upd (upd (upd H4 F (.dT [])) D (RdO P w D [])) e0 (.tup [])) H5 ∧ H5 D2 = some (.lst ((List.replicate i (0 : Int)).map V.int))) ⟨same_upd hD2, upd_same⟩ (fun _ _ _ _ => trivial) ?_ ?_
      · rintro i x H5 H6 hi ⟨s5, hd5⟩ ⟨rfl, c, hx, rfl⟩
        rw [size_L] at hi
        refine ⟨rfl, _, hd5, by rw [List.length_map, List.length_replicate, sizeLine_eq]; omega, same_at s5 hD2, ?_⟩
        rw [upd_same, List.replicate_succ', List.map_append] <;> rfl
      · rintro H5 ⟨s5, hd5⟩
        rw [size_L] at hd5
        refine ⟨D2, _, rfl, .inl ⟨SqL.of hd5, fun z hz => ⟨by show 3 ≤ sizeLine; decide, fun b hb => ?_⟩⟩⟩
        have ez : (List.replicate L.length (0 : Int)) = cntI L [] := by
          unfold cntI
          rw [← List.map_const']
          rfl
        rw [ez] at hb
        rw [ez]
        have s6 := same_two (o := oTup (cntI L [])) s5 hz
        have s7 := same_two (o := .tup [V.int ((s : Nat) : Int), .ref e0, .ref z]) s6 hb
        have s8 : Same (upd (upd H4 F (.dT [])) D (RdO P w D [])) _ := (same_upd (o := .tup []) he0).trans s7
        have e7 := s7 _ _ (upd_same (a := e0) (o := .tup []) (H := upd (upd H4 F (.dT [])) D (RdO P w D [])))
        have z7 := same_upd (o := .tup [V.int ((s : Nat) : Int), .ref e0, .ref z]) hb z _ upd_same
        have rk : RkAt _ b ⟨((s : Nat) : Int), [], cntI L []⟩ := ⟨e0, z, upd_same, e7, z7⟩
        revert rk s8
        generalize upd (upd H5 z (oTup (cntI L []))) b (.tup [V.int ((s : Nat) : Int), .ref e0, .ref z]) = H8
        intro s8 rk
        refine ⟨b, _, tx [], rfl, rfl, s8 _ _ Db, rk, ?_⟩
        have FD : F ≠ D := fun z => by rw [← z, upd_same] at nD; cases nD
        have nt : KeepsTup H8 (upd H8 D (RdO P w D [(⟨((s : Nat) : Int), [], cntI L []⟩, b, tx [])])) := fun b o e => by
          rw [upd_ne (fun z => by rw [z, s8 _ _ Db] at e; cases e)]
          exact e
        have skn : ((s : Nat) : Int) ∈ z1.2 := m1
        refine while_ok (H2 := H4) (kn := z1.2) (as := as) (tb := tb) (s := s) (same_at (sb.trans s8) nD4) upd_same (fun e he => ?_) ?_ nD4 nF (by rw [upd_ne FD]; exact s8 _ _ Fb) (s14 _ _ (tus z1 hz1)) (hT.same sH4) hU hUo ok hL hn hs hk fun y6 y7 y8 y9 y10 y11 y12 y13 y14 y15 y16 y17 y18 H' sm' hF' => ?_
        · rw [List.mem_singleton.mp he]
          exact rk.keep nt
        · have e0 : PL L tb ((s : Nat) : Int) z1.2 0 = [(⟨((s : Nat) : Int), [], cntI L []⟩, [])] := by
            unfold PL LL
            have ef : List.filter (fun a : Wlk => decide (a.now ∈ z1.2)) [⟨[], ((s : Nat) : Int), []⟩] = [⟨[], ((s : Nat) : Int), []⟩] := List.filter_eq_self.mpr fun a ha => by
              rw [List.mem_singleton.mp ha]
              exact decide_eq_true skn
            rw [ef]
            show [(KW L tb ⟨[], ((s : Nat) : Int), []⟩, ([] : W))] = _
            unfold KW
            rw [List.filter_eq_nil_iff.mpr fun x _ => by simp]
          rw [e0] <;> rfl
        · exact ⟨_, rfl, q F H' (sH4.free nF) (sH4.trans sm') hF'⟩
end
end WK
set_option Elab.async false
set_option linter.all false
set_option maxRecDepth 100000
set_option maxHeartbeats 8000000
namespace WK
open PySem L2 PyProof.Rows LCX K1 FV DP
open TX (sg sigs)
open PySem.W (Frag kitOne)
abbrev sNeedMs : Stmt := top 46
abbrev sMLen : Stmt := inClass (top 44) 15
abbrev sMLet : Stmt := inClass (top 44) 1
abbrev sMTab : Stmt := inClass (top 44) 2
def InsAt (C : Addr) (H : Hp) (a : Addr) : Prop := ∃ dx fs, H a = some (.ins C dx fs)
def spNeedM1 (K : Frag) (C : Addr) : Sp := fun vs H Q _ => ∃ (t a : Addr), vs = [.ref t] ∧ SqT K H t [.ref a] ∧ InsAt C H a ∧ Q .non H
def spMLen (C : Addr) : Sp := fun vs H Q _ => ∃ (o : Addr) (L : W) (tb : List (List Int)) (es : List Int), vs = [.ref o] ∧ MacAt C H o L tb es ∧ Q (.int (tb.length : Int)) H
def overB (L u : W) : Bool := decide (∀ c ∈ u, c ∈ L)
def spOver2 : Sp := fun vs H Q _ => ∃ L u : W, vs = [.str (tx L), .str (tx u)] ∧ u.length < 64 ∧ ∀ H', Same H H' → Q (.bl (overB L u)) H'
theorem over_all (L u : W) : ((sigs u).map fun c => decide (c ∈ L)).all id = overB L u := by
  unfold overB
  rw [Bool.eq_iff_iff, decide_eq_true_eq, List.all_map, List.all_eq_true]
  exact ⟨fun h c hc => of_decide_eq_true (h c ((TX.mem_sigs c u).mpr hc)), fun h c hc => decide_eq_true (h c ((TX.mem_sigs c u).mp hc))⟩
section
variable {P : Program} {w : World} {K : PySem.W.Frag} {mg : Str → Option Value} {base : Heap} {C cD cM aCS : Addr}
theorem scNM : FnScope ["machines", "machine"] ["machines"] (defScope sNeedMs) := ⟨rfl, rfl, rfl, by decide +kernel, rfl, by decide +kernel, by decide +kernel⟩
theorem scML : FnScope ["self"] ["self"] (defScope sMLen) := ⟨rfl, rfl, rfl, by decide +kernel, rfl, by decide +kernel, by decide +kernel⟩
theorem ok_needm1 {f : Addr} {fd : FuncData} (F : Fun K "need_machines" "need_machines" sNeedMs f fd) (T : TN mg) (M : TMc K mg C cD cM) (is : SlX.SIsi K C) (kC : kitOne K (.ref C) (.ref C) = some true) : FnOk P w K mg base CX0 1 f fd ["machines"] (spNeedM1 K C) := by
  refine F.ok scNM (fun vs H Q E h => ?_) (fun cdv A outer s H vs Q E hr h => ?_)
  · obtain ⟨t, _, rfl, _⟩ := h
    rfl
  · obtain ⟨t, a, rfl, hT, ha, q⟩ := h
    refine ⟨_, pss_one (ps_for PassesOwn.never rfl (pi_tup (pv 0)) (pg_name (i := 1) scNM.nd rfl (Or.inl rfl))
      (pss_one (ps_if (pt_not (pt_val (pe_callB call_isi (by rfl) T.isi (by decide +kernel) (pa_cons (pv 1) (pa_cons (pe_glob rfl M.gC (show RelV (.ref C) (.ref C) from rfl)) pa_nil))))) (pss_one ps_never) pss_nil))), ?_⟩
    refine ⟨_, rfl, t, rfl, ⟨_, hT⟩, ?_⟩
    refine for_tup (xs := [.ref a]) (fun i σ H' => (∃ x, σ = [some (.ref t), x]) ∧ H' = H) ⟨⟨_, rfl⟩, rfl⟩ (fun _ _ H' _ h => by rw [h.2]; exact hT) ?_ ?_
    · rintro i x σ H2 hx ⟨⟨y, rfl⟩, rfl⟩
      obtain ⟨dx, fs, hz⟩ := ha
      obtain rfl : x = .ref a := by
        rcases i with _ | i
        · exact (Option.some.inj hx).symm
        · cases hx
      exact ⟨_, rfl, _, _, _, _, true, rfl, .own C, .base (.ins hz M.cl is.ca is.cn is.ct is.cm), kC, _, rfl, ⟨_, rfl⟩, rfl⟩
    · rintro σ H2 ⟨⟨y, rfl⟩, rfl⟩
      exact q
theorem ok_mlen {f : Addr} {fd : FuncData} (F : Fun K "__len__" "Machine.__len__" sMLen f fd) (T : TN mg) (M : TMc K mg C cD cM) : FnOk P w K mg base CX0 1 f fd ["self"] (spMLen C) := by
  refine F.ok scML (fun vs H Q E h => ?_) (fun cdv A outer s H vs Q E hr h => ?_)
  · obtain ⟨o, _, _, _, rfl, _⟩ := h
    rfl
  · obtain ⟨o, L, tb, es, rfl, ⟨dx, t, e, ts, h1, h2, h3, h4⟩, q⟩ := h
    refine ⟨_, pss_one (ps_ret (pe_callB call_len_seq (by rfl) T.len PySem.boot_len (pa_cons (pe_fld (pv 0) rfl) pa_nil))), ?_⟩
    refine ⟨_, rfl, o, C, dx, _, _, rfl, h1, M.cl, M.nT, rfl, t, _, rfl, .inr (SqT.of h2), ?_⟩
    rw [List.length_map, h3.len]
    exact q
theorem ok_over2 {f : Addr} {fd : FuncData} (F : Fun K "is_over" "is_over" sIsOver f fd) (T : TN mg) : FnOk P w K mg base CX0 1 f fd ["letters", "word"] spOver2 := by
  refine F.ok scIO (fun vs H Q E h => ?_) (fun cdv A outer s H vs Q E hr h => ?_)
  · obtain ⟨L, u, rfl, _⟩ := h
    rfl
  · obtain ⟨L, u, rfl, hu, q⟩ := h
    refine ⟨_, pss_one (ps_ret (pe_callB (cr_all rfl) (by rfl) T.all (by decide +kernel) (pa_cons (pe_lc (own := [("letter", 2)]) (g := gName 2) (tt := tYes) rfl scIO.nd
      (pi_list (pe_callB (TX.cr_sortX rfl) (by rfl) T.sorted (by decide +kernel) (pa_cons (pe_callTy (TX.call_setX rfl) (by rfl) T.set (by decide +kernel) (pa_cons (pv 1) pa_nil)) pa_nil)))
      (blkOk_by (own := [("letter", 2)]) (N := ["letters", "word", "letter"]) (sc := defScope sIsOver) (by decide +kernel)) (fun _ _ _ _ _ => pg_name (i := 2) scIO.nd rfl (Or.inl rfl)) (fun _ _ _ _ _ => pts_nil)
      (fun _ _ _ _ _ => pe_cmpR op_in_sign (pv 2) (pv 0) rfl)) pa_nil))), ?_⟩
    have hz : (tx u).cps.size < 64 := by rw [size_tx]; exact hu
    refine ⟨_, rfl, tx u, rfl, hz, fun a o ha ho => ⟨a, tx u, o, rfl, upd_same, ho, hz, fun p hp => ?_⟩⟩
    rw [tx_list]
    refine ⟨p, rfl, ⟨_, SqL.of upd_same⟩, fun D hD => ?_⟩
    have sp : Same H (upd (upd H a o) p (.lst ((sigs u).map fun c => V.str (sg c)))) := same_two (same_upd ha) hp
    have hq : (upd (upd H a o) p (.lst ((sigs u).map fun c => V.str (sg c)))) p = some (.lst ((sigs u).map fun c => V.str (sg c))) := upd_same
    generalize upd (upd H a o) p (.lst ((sigs u).map fun c => V.str (sg c))) = G at sp hq hD ⊢
    have hi2 := TX.len_sigs u
    refine same_list (l := sigs u) (val := fun c => V.str (sg c)) (r := fun c => [V.bl (decide (c ∈ L))]) hD (SqL.of hq) (by rw [sizeLine_eq]; omega) (fun _ => Nat.le_refl _) (fun c hc H1 acc s1 hacc hlen N hN => ?_) (fun H1 s1 hd => ?_)
    · refine ⟨rfl, _, rfl, _, rfl, c, tx L, rfl, rfl, acc, hacc, hlen, hN _ (same_at s1 hD) ?_⟩
      rw [upd_same, tx_list]
    · rw [flat_map] at hd
      have e : (sigs u).map (fun c => V.bl (decide (c ∈ L))) = ((sigs u).map fun c => decide (c ∈ L)).map V.bl := by rw [List.map_map] <;> rfl
      rw [e] at hd
      refine ⟨D, _, rfl, SqL.of hd, ?_⟩
      rw [over_all]
      exact q _ (sp.trans s1)
end
end WK
set_option Elab.async false
set_option linter.all false
set_option maxRecDepth 100000
set_option maxHeartbeats 8000000
namespace OWN
open PySem PySem.Spec L2 PyProof.Rows
/-- an instance that stands in H -/
theorem inst_at {X : Cx} {pins : List (Addr × Obj)} {σ : L2.St} {H : Hp} {s : Shared} {a C dx : Addr} {fs : List (Str × V)} (I : Inv X pins σ H s) (at_ : H a = some (.ins C dx fs)) : ∃ od : Obj, PySem.W.InstAt s.heap a (PySem.W.instObj C dx) C (some od) :=
  let ⟨_, j, _⟩ := ins_get I.hok at_
  let ⟨od, k, _⟩ := j.look
  ⟨od, k⟩
section
variable {X : Cx} {C g : Addr} {n : Nat} {sp : Sp}
def rLenO (C : Addr) (sp : Sp) : List V → Hp → VK → Prop := fun xs H Q => ∃ a dx fs, xs = [.ref a] ∧ H a = some (.ins C dx fs) ∧ sp [.ref a] H (fun z H' => ∃ k : Nat, z = .int k ∧ (k : Int) < 2 ^ 62 ∧ Q z H') E0
theorem call_lenO (hs : PySem.W.findIn X.K (.ref C) "__len__" = some (some (.ref g))) (hf : PySem.W.isFn X.K (.ref g) = true) (F : FnR X.prog X.w X.K X.mg X.base CX0 n g sp) (hr : Room (n + 1) X.A) : CallR X (.builtin "len") (rLenO C sp) := by
  intro _ s _ _ _ _ _ I r ⟨a, dx, fs, ex, ha, q⟩
  subst ex
  obtain ⟨u, rfl, ru⟩ := r.one
  obtain rfl : u = .ref a := ru
  obtain ⟨od, J⟩ := inst_at I ha
  obtain ⟨m, hF⟩ := I.fr
  refine PySem.W.len_K hF I.ok.mod.kin J hs hf (wpAny_mono (wpAny_call (SlX.run_at (us := [.ref a]) (ws := [.ref a]) F (Room.in1 hr) I.env0.in1 pass0 I (.cons rfl .nil) q)) (fun w s' z => ?_) fun _ _ x => x)
  obtain ⟨z', H', I', rz, k, ez, hk, qz⟩ := z
  subst ez
  obtain ⟨t, e⟩ := (show ∃ t, w = Value.int k t from rz)
  cases e
  exact ⟨⟨by omega, by omega⟩, .int k, H', I'.tok _, ⟨_, rfl⟩, qz⟩
/-- x in o, x not in o -/
def rInO (C : Addr) (sp : Sp) (neg : Bool) : R2 := fun x y H Q => ∃ a dx fs, y = .ref a ∧ H a = some (.ins C dx fs) ∧ sp [.ref a, x] H (fun z H' => ∃ b : Bool, z = .bl b ∧ Q (.bl (if neg = true then !b else b)) H') E0
theorem op_notinO (hs : PySem.W.findIn X.K (.ref C) "__contains__" = some (some (.ref g))) (hf : PySem.W.isFn X.K (.ref g) = true) (F : FnR X.prog X.w X.K X.mg X.base CX0 n g sp) (hr : Room n X.A) : OpR X (compareOp .NotIn) (rInO C sp true) := by
  intro pins s σ H x _ v _ Q I rx ry ⟨a, dx, fs, ey, ha, q⟩
  subst ey
  obtain rfl : _ = Value.ref a := ry
  obtain ⟨od, J⟩ := inst_at I ha
  obtain ⟨m, hF⟩ := I.fr
  refine PySem.W.notIn_K hF I.ok.mod.kin J hs hf (wpAny_mono (wpAny_call (run_fnR (us := [.ref a, v]) (vs := [.ref a, x]) F hr pass0 I (.cons rfl (.cons rx .nil)) q)) (fun w s' z => ?_) fun _ _ x => x)
  obtain ⟨z', H', I', rz, b, ez, qz⟩ := z
  subst ez
  cases (show w = Value.bool b from rz)
  exact wpAny_truthy_bool ⟨.bl !b, H', I', rfl, qz⟩
end
end OWN
set_option Elab.async false
set_option linter.all false
set_option maxRecDepth 100000
set_option maxHeartbeats 8000000
namespace WK
open PySem L2 PyProof.Rows LCX K1 FV DP
open TX (sg sigs)
open PySem.W (Frag kitOne)
open RX (ringsN)
abbrev sMet : Stmt := top 55
abbrev sSimple : Stmt := top 56
/-- the states on the way -/
def spotsN (L : W) (tb : List (List Int)) (u : W) (k : Nat) : List Int := (List.range (k + 1)).map fun i => ledL L tb (u.take i) 0
def spMet (C : Addr) : Sp := fun vs H Q _ => ∃ (o : Addr) (L u : W) (tb : List (List Int)) (es : List Int) (n : Int), vs = [.ref o, .str (tx u)] ∧ Let L ∧ MacAt C H o L tb es ∧ TabOk tb L.length n ∧ 1 ≤ n ∧ n ≤ 1000 ∧ Low u ∧ u.length ≤ 40 ∧ (∀ c ∈ u, c ∈ L) ∧
  ∀ (t : Addr) (ns : List Int) (H' : Hp), H t = none → Same H H' → H' t = some (oTup ns) → ns.Pairwise (· < ·) → (∀ k, k ∈ ns ↔ k ∈ spotsN L tb u u.length) → Q (.ref t) H'
def spSimple (C : Addr) : Sp := fun vs H Q _ => ∃ (o : Addr) (L : W) (tb : List (List Int)) (es : List Int) (n : Int) (s : Nat), vs = [.ref o, .int ((s : Nat) : Int)] ∧ Let L ∧ MacAt C H o L tb es ∧ TabOk tb L.length n ∧ tb.length ≤ 5 ∧ s < tb.length ∧
  ∀ (t : Addr) (H' : Hp), H t = none → Same H H' → H' t = some (.tup ((ringsN L tb s).map fun p => V.str (tx p.2))) → Q (.ref t) H'
abbrev NMt : List Str := ["machine", "word", "states", "letter"]
section
variable {P : Program} {w : World} {K : PySem.W.Frag} {mg : Str → Option Value} {base : Heap} {C cD cM pT gT pL gL gN fN fW fO fE fK : Addr} {dT dL dN dW dO dE dK : FuncData}
theorem scMt : FnScope NMt ["machine", "word"] (defScope sMet) := ⟨rfl, rfl, rfl, by decide +kernel, rfl, by decide +kernel, by decide +kernel⟩
theorem scSi : FnScope ["machine", "state"] ["machine", "state"] (defScope sSimple) := ⟨rfl, rfl, rfl, by decide +kernel, rfl, by decide +kernel, by decide +kernel⟩
theorem ok_met {f : Addr} {fd : FuncData} (F : Fun K "met" "met" sMet f fd) (T : TN mg) (M : TMc K mg C cD cM) (AN : Fn K mg "need_machines" sNeedMs ["machines"] fN dN) (GN : FnOk P w K mg base CX0 1 fN dN ["machines"] (spNeedM1 K C))
    (AW : Fn K mg "need_word" sNeedWord ["word"] fW dW) (GW : FnOk P w K mg base CX0 2 fW dW ["word"] spNeedWord) (AO : Fn K mg "need_over" sNeedOver ["letters", "word"] fO dO) (GO : FnOk P w K mg base CX0 2 fO dO ["letters", "word"] spNeedOver)
    (AL : Fn K mg "led" sLed ["letters", "table", "word", "start"] fE dE) (GL : FnOk P w K mg base CX0 1 fE dE ["letters", "table", "word", "start"] (spLed K))
    (RT : PropOf K C "table" pT gT) (GT : FnOk P w K mg base CX0 1 gT dT ["self"] (getSp C "_table")) (bT : Binds K dT ["self"] []) (RL : PropOf K C "letters" pL gL) (GLe : FnOk P w K mg base CX0 1 gL dL ["self"] (getSp C "_letters")) (bL : Binds K dL ["self"] []) :
    FnOk P w K mg base CX0 3 f fd ["machine", "word"] (spMet C) := by
  refine F.ok scMt (fun vs H Q E h => ?_) (fun cdv A outer s H vs Q E hr h => ?_)
  · obtain ⟨o, L, u, _, _, _, rfl, _⟩ := h
    rfl
  · obtain ⟨o, L, u, tb, es, n, rfl, hL, mac, ok, n1, n2, lu, hu, hc, q⟩ := h
    have hr1 : Room 1 _ := hr.mono (by decide)
    refine ⟨_, pss_cons (ps_expr (pe_call (E := E0) GN hr1 rfl AN.g AN.F.kp AN.b .nil pass0 (pa_cons (pe_tup (pa_cons (pv 0) pa_nil)) pa_nil)))
      (pss_cons (ps_expr (pe_call (E := E0) GW hr rfl AW.g AW.F.kp AW.b .nil pass0 (pa_cons (pv 1) pa_nil)))
      (pss_cons (ps_expr (pe_call (E := E0) GO hr rfl AO.g AO.F.kp AO.b .nil pass0 (pa_cons (pe_prop (E := E0) (pv 0) M.cl RL GLe hr bL .nil pass0 rfl) (pa_cons (pv 1) pa_nil))))
      (pss_cons (ps_set (i := 2) scMt.nd rfl (Or.inl rfl) (pe_lst (pa_cons pe_int pa_nil)))
      (pss_cons (ps_for PassesOwn.never rfl (pi_str (pv 1)) (pg_name (i := 3) scMt.nd rfl (Or.inl rfl))
        (pss_one (ps_expr (pe_bm PySem.F.plainAttrs_list PySem.F.slot_list_append PySem.F.type_list_append mt_append (pv 2) (pa_cons (pe_call (E := E0) GL hr1 rfl AL.g AL.F.kp AL.b .nil pass0
          (pa_cons (pe_prop (E := E0) (pv 0) M.cl RL GLe hr bL .nil pass0 rfl) (pa_cons (pe_prop (E := E0) (pv 0) M.cl RT GT hr bT .nil pass0 rfl) (pa_cons (pv 3) (pa_cons (pe_ix ix_list (pv 2) (pe_un un_neg pe_int) (fun _ _ => rfl)) pa_nil))))) pa_nil)))))
      (pss_one (ps_ret (pe_callTy call_tuple_of (by rfl) T.tuple (by decide +kernel) (pa_cons (pe_callB (cr_sortedSet rfl) (by rfl) T.sorted (by decide +kernel) (pa_cons (pe_callTy (DL.cr_setI rfl) (by rfl) T.set (by decide +kernel) (pa_cons (pv 2) pa_nil)) pa_nil)) pa_nil)))))))), ?_⟩
    obtain ⟨dx, t, e, ts, hm, h2, h3, h4⟩ := id mac.ex
    refine ⟨_, rfl, (by show 1 ≤ sizeLine; decide), fun p1 hp1 => ⟨p1, o, rfl, SqT.of upd_same, ⟨dx, _, same_upd hp1 _ _ hm⟩, ?_⟩⟩
    have s1 := same_upd (o := .tup [.ref o]) hp1
    have hm1 := s1 _ _ hm
    refine ⟨_, rfl, u, rfl, lu, ?_⟩
    refine ⟨_, rfl, o, dx, _, rfl, hm1, o, dx, _, _, rfl, hm1, rfl, _, rfl, L, u, rfl, by omega, hc, fun H2 s2 => ?_⟩
    have s12 := s1.trans s2
    refine ⟨by show 1 ≤ sizeLine; decide, fun p hp => ⟨_, rfl, tx u, rfl, ?_⟩⟩
    have spz : (spotsN L tb u 0).map V.int = [V.int 0] := rfl
    refine for_it walk_str (fun i σ H3 => (∃ x, σ = [some (.ref o), some (.str (tx u)), some (.ref p), x]) ∧ Same H H3 ∧ H3 p = some (.lst ((spotsN L tb u i).map V.int))) ⟨⟨_, rfl⟩, same_at s12 (s12.free hp), upd_same⟩ (fun _ _ _ _ _ => trivial) ?_ ?_
    · rintro i x σ H3 H4 hi ⟨⟨y, rfl⟩, s3, hp3⟩ ⟨rfl, c, hx, rfl⟩
      have hx' : u[i]? = some c := by
        rw [← Array.getElem?_toList, tx_list] at hx
        exact hx
      have hcL : c ∈ L := hc c (List.mem_of_getElem? hx')
      have hil : i < u.length := (List.getElem?_eq_some_iff.mp hx').1
      have hm3 := s3 _ _ hm
      have e1 : spotsN L tb u i = (List.range i).map (fun j => ledL L tb (u.take j) 0) ++ [ledL L tb (u.take i) 0] := by
        unfold spotsN
        rw [List.range_succ, List.map_append] <;> rfl
      have e2 : spotsN L tb u (i + 1) = spotsN L tb u i ++ [ledL L tb (u.take (i + 1)) 0] := by
        unfold spotsN
        rw [List.range_succ, List.map_append] <;> rfl
      have hl := ledL_in ok (u := u.take i) (st := 0) ⟨Int.le_refl _, by omega⟩ fun d hd => hc d (List.mem_of_mem_take hd)
      have at1 : atI ((spotsN L tb u i).map V.int) (-1) = some (.int (ledL L tb (u.take i) 0)) := by
        rw [e1, List.map_append]
        exact atI_last _ _
      refine ⟨_, rfl, .inl ⟨rfl, _, SqL.of hp3⟩, _, rfl, o, dx, _, rfl, hm3, o, dx, _, _, rfl, hm3, rfl, ?_⟩
      refine ⟨_, rfl, o, dx, _, rfl, hm3, o, dx, _, _, rfl, hm3, rfl, _, rfl, _, rfl, 1, rfl, p, _, _, _, rfl, rfl, SqL.of hp3, at1, ?_⟩
      refine ⟨t, L, [c], tb, n, _, rfl, ⟨ts, SqT.of (s3 _ _ h2), h3.to fun a _ r e => s3 _ _ e⟩, hL, ok, n2, hl.1, hl.2, by show 1 ≤ 1000; decide, fun d hd => List.mem_singleton.mp hd ▸ hcL, fun H5 s5 => ?_⟩
      have e3 : ledL L tb [c] (ledL L tb (u.take i) 0) = ledL L tb (u.take (i + 1)) 0 := by
        rw [List.take_add_one, hx']
        show _ = ledL L tb (u.take i ++ [c]) 0
        rw [ledL_snoc] <;> rfl
      rw [e3]
      refine ⟨p, _, _, rfl, rfl, s5 _ _ hp3, ?_, ⟨_, rfl⟩, same_at (s3.trans s5) (s12.free hp), ?_⟩
      · unfold spotsN
        rw [List.length_map, List.length_map, List.length_range, sizeLine_eq]
        omega
      · rw [upd_same, e2, List.map_append] <;> rfl
    · rintro σ H3 ⟨⟨y, rfl⟩, s3, hp3⟩
      rw [size_L] at hp3
      have sl : (spotsN L tb u u.length).length = u.length + 1 := by
        unfold spotsN
        rw [List.length_map, List.length_range]
      refine ⟨_, rfl, p, _, rfl, SqL.of hp3, by rw [sl]; omega, fun a c ha hcn => ⟨a, _, c, rfl, upd_same, by omega, fun ns p2 asc mem len hp2 => ⟨p2, _, rfl, .inl ⟨SqL.of upd_same, fun t2 ht2 => ?_⟩⟩⟩⟩
      have sa := same_two (o := SetO w a (fun k => decide (k ∈ spotsN L tb u u.length)) c) s3 ha
      have sb := same_two (o := .lst (ns.map V.int)) sa hp2
      exact q t2 ns _ (sb.free ht2) (same_two sb ht2) upd_same asc fun k => (mem k).trans decide_eq_true_iff
theorem ok_simple {f : Addr} {fd : FuncData} (F : Fun K "simple_rings" "simple_rings" sSimple f fd) (T : TN mg) (M : TMc K mg C cD cM) (AN : Fn K mg "need_machines" sNeedMs ["machines"] fN dN) (GN : FnOk P w K mg base CX0 1 fN dN ["machines"] (spNeedM1 K C))
    (AW : Fn K mg "need_number" sNeedNum ["value", "least", "most"] fW dW) (GW : FnOk P w K mg base CX0 3 fW dW ["value", "least", "most"] spNeedNum) (hN : PySem.W.findIn K (.ref C) "__len__" = some (some (.ref gN))) (iN : PySem.W.isFn K (.ref gN) = true) (GLn : FnR P w K mg base CX0 1 gN (spMLen C))
    (AK : Fn K mg "rings_by_counts" sRings ["letters", "table", "state"] fK dK) (GK : FnOk P w K mg base CX0 3 fK dK ["letters", "table", "state"] (spRings K))
    (RT : PropOf K C "table" pT gT) (GT : FnOk P w K mg base CX0 1 gT dT ["self"] (getSp C "_table")) (bT : Binds K dT ["self"] []) (RL : PropOf K C "letters" pL gL) (GLe : FnOk P w K mg base CX0 1 gL dL ["self"] (getSp C "_letters")) (bL : Binds K dL ["self"] []) :
    FnOk P w K mg base CX0 4 f fd ["machine", "state"] (spSimple C) := by
  refine F.ok scSi (fun vs H Q E h => ?_) (fun cdv A outer s H vs Q E hr h => ?_)
  · obtain ⟨o, _, _, _, _, _, rfl, _⟩ := h
    rfl
  · obtain ⟨o, L, tb, es, n, s, rfl, hL, mac, ok, n5, hs, q⟩ := h
    have hr1 : Room 1 _ := hr.mono (by decide)
    have hr2 : Room 2 _ := hr.mono (by decide)
    refine ⟨_, pss_cons (ps_expr (pe_call (E := E0) GN hr1 rfl AN.g AN.F.kp AN.b .nil pass0 (pa_cons (pe_tup (pa_cons (pv 0) pa_nil)) pa_nil)))
      (pss_cons (ps_expr (pe_call (E := E0) GW hr rfl AW.g AW.F.kp AW.b .nil pass0 (pa_cons (pv 1) (pa_cons pe_int (pa_cons (pe_op op_sub (pe_callB (OWN.call_lenO hN iN GLn hr2) (by rfl) T.len PySem.boot_len (pa_cons (pv 0) pa_nil)) pe_int) pa_nil)))))
      (pss_one (ps_ret (pe_callTy call_tuple_of (by rfl) T.tuple (by decide +kernel) (pa_cons (pe_callTy (VT.cr_listV rfl) (by rfl) T.list (by decide +kernel) (pa_cons (VT.pe_vals (pe_call (E := E0) GK hr rfl AK.g AK.F.kp AK.b .nil pass0
        (pa_cons (pe_prop (E := E0) (pv 0) M.cl RL GLe hr2 bL .nil pass0 rfl) (pa_cons (pe_prop (E := E0) (pv 0) M.cl RT GT hr2 bT .nil pass0 rfl) (pa_cons (pv 1) pa_nil))))) pa_nil)) pa_nil))))), ?_⟩
    obtain ⟨dx, t, e, ts, hm, h2, h3, h4⟩ := id mac.ex
    refine ⟨_, rfl, (by show 1 ≤ sizeLine; decide), fun p1 hp1 => ⟨p1, o, rfl, SqT.of upd_same, ⟨dx, _, same_upd hp1 _ _ hm⟩, ?_⟩⟩
    have s1 := same_upd (o := .tup [.ref o]) hp1
    have hm1 := s1 _ _ hm
    refine ⟨_, rfl, _, rfl, o, dx, _, rfl, hm1, o, L, tb, es, rfl, mac.same s1, tb.length, rfl, by omega, _, _, rfl, rfl, _, _, _, rfl, by omega, by omega, ?_⟩
    refine ⟨_, rfl, o, dx, _, rfl, hm1, o, dx, _, _, rfl, hm1, rfl, _, rfl, o, dx, _, rfl, hm1, o, dx, _, _, rfl, hm1, rfl, _, rfl, ?_⟩
    refine ⟨t, L, tb, n, s, rfl, ⟨ts, SqT.of (s1 _ _ h2), h3.to fun a _ r e => s1 _ _ e⟩, ok, hL, hL.few, n5, hs, fun d H2 nd s2 hd => ?_⟩
    refine ⟨d, _, rfl, .inl hd, fun v hv => ⟨v, d, _, rfl, upd_same, .inl (same_upd hv _ _ hd), fun p hp => ⟨p, _, rfl, .inl ⟨SqL.of upd_same, fun t2 ht2 => ?_⟩⟩⟩⟩
    have s3 := same_two (o := VT.ViewO v d) s2 hv
    have s4 := same_two (o := .lst ((kvR (ringsN L tb s)).map (·.2))) s3 hp
    refine q t2 _ (s1.free (s4.free ht2)) (s1.trans (same_two s4 ht2)) ?_
    rw [upd_same]
    unfold kvR
    rw [List.map_map] <;> rfl
end
end WK
set_option Elab.async false
set_option linter.all false
set_option maxRecDepth 100000
set_option maxHeartbeats 8000000
namespace WK
open PySem L2 PyProof.Rows LCX K1 FV DP
open TX (sg sigs)
open PySem.W (Frag kitOne)
open RX (cntI)
abbrev sLCounts : Stmt := top 77
def spLCounts : Sp := fun vs H Q _ => ∃ L u : W, vs = [.str (tx L), .str (tx u)] ∧ L.length ≤ 26 ∧ u.length ≤ 1000 ∧ ∀ (l : Addr) (H' : Hp), H l = none → Same H H' → H' l = some (.lst ((cntI L u).map V.int)) → Q (.ref l) H'
abbrev NLc : List Str := ["_law_letters_here", "_law_word_here", "_law_letter", "_law_sign"]
abbrev rLenQ (K : Frag) : List V → Hp → VK → Prop := fun xs H Q => ∃ p ys, xs = [.ref p] ∧ (SqL K H p ys ∨ SqT K H p ys) ∧ Q (.int ys.length) H
abbrev scLcI : Scope := { kind := .function, names := [(".0", .local), ("_law_letter", .cell), ("len", .globalImplicit), ("_law_word_here", .cell)], isGenerator := false, isCoroutine := false }
section
variable {P : Program} {w : World} {K : PySem.W.Frag} {mg : Str → Option Value} {base : Heap}
theorem scLc : FnScope NLc ["_law_letters_here", "_law_word_here"] (defScope sLCounts) := ⟨rfl, rfl, rfl, by decide +kernel, rfl, by decide +kernel, by decide +kernel⟩
theorem ok_lcounts {f : Addr} {fd : FuncData} (F : Fun K "_law_counts" "_law_counts" sLCounts f fd) (T : TN mg) : FnOk P w K mg base CX0 1 f fd ["_law_letters_here", "_law_word_here"] spLCounts := by
  refine F.ok scLc (fun vs H Q E h => ?_) (fun cdv A outer s H vs Q E hr h => ?_)
  · obtain ⟨L, u, rfl, _⟩ := h
    rfl
  · obtain ⟨L, u, rfl, hL, hu, q⟩ := h
    refine ⟨_, pss_one (ps_ret (pe_lc (own := [("_law_letter", 2)]) (g := gName 2) (tt := tYes) (te := tCB (rLenQ K) (tCons (tLc (iStr (tVar 1)) (gName 3) (tTest (tOp rEq (tVar 3) (tVar 2))) (tC (.int 1)) [3]) tNil)) rfl scLc.nd (pi_str (pv 0))
        (blkOk_by (own := [("_law_letter", 2)]) (N := NLc) (sc := defScope sLCounts) (by decide +kernel)) (fun _ _ _ _ _ => pg_name (i := 2) scLc.nd rfl (Or.inr rfl)) (fun _ _ _ _ _ => pts_nil)
        (fun _ _ _ _ _ => pe_callB call_len_seq (by rfl) T.len PySem.boot_len (pa_cons (pe_lc (own := [("_law_sign", 3)]) (g := gName 3) (tt := tTest (tOp rEq (tVar 3) (tVar 2))) (te := tC (.int 1)) rfl scLc.nd (pi_str (pv 1))
          (blkOk_by (own := [("_law_sign", 3)]) (N := NLc) (sc := scLcI) (by decide +kernel)) (fun _ _ _ _ _ => pg_name (i := 3) scLc.nd rfl (Or.inl rfl)) (fun _ _ _ _ _ => pts_one (pt_cmpR op_eq (pv 3) (pv 2) (nomark _)))
          (fun _ _ _ _ _ => pe_int)) pa_nil)))), ?_⟩
    refine ⟨_, rfl, tx L, rfl, fun D hD => ?_⟩
    refine lc_it walk_str (fun i H3 => Same H H3 ∧ H3 D = some (.lst ((cntI (L.take i) u).map V.int))) ⟨same_upd hD, upd_same⟩ (fun _ _ _ _ => trivial) ?_ ?_
    · rintro i x H3 H4 hi ⟨s3, hd⟩ ⟨rfl, c, hx, rfl⟩
      have hx' : L[i]? = some c := by
        rw [← Array.getElem?_toList, tx_list] at hx
        exact hx
      refine ⟨rfl, _, rfl, tx u, rfl, fun D2 hD2 => ?_⟩
      refine lc_it walk_str (fun j H7 => Same H4 H7 ∧ H7 D2 = some (.lst (List.replicate ((u.take j).count c) (V.int 1)))) ⟨same_upd hD2, upd_same⟩ (fun _ _ _ _ => trivial) ?_ ?_
      · rintro j y H5 H6 hj ⟨s5, hd5⟩ ⟨rfl, d, hy, rfl⟩
        have hy' : u[j]? = some d := by
          rw [← Array.getElem?_toList, tx_list] at hy
          exact hy
        have ec : (u.take (j + 1)).count c = (u.take j).count c + if d = c then 1 else 0 := by
          rw [List.take_add_one, hy', List.count_append]
          show _ + List.count c [d] = _
          rw [List.count_singleton]
          by_cases e : d = c
          · rw [if_pos e, if_pos (by rw [beq_iff_eq]; exact e)]
          · rw [if_neg e, if_neg (by rw [beq_iff_eq]; exact e)]
        have vs : (V.str ⟨#[d]⟩ = V.str ⟨#[c]⟩) ↔ d = c := ⟨fun z => by injection z with z; injection z with z; simpa using z, fun z => by rw [z]⟩
        have lt : (u.take j).count c ≤ 1000 := Nat.le_trans (List.count_le_length) (by rw [List.length_take]; omega)
        refine ⟨rfl, _, rfl, _, rfl, rfl, _, rfl, ite2 (fun e => ?_) (fun e => ?_)⟩
        · have e := vs.mp (of_decide_eq_true e)
          refine ⟨_, hd5, by rw [List.length_replicate, sizeLine_eq]; omega, same_at s5 hD2, ?_⟩
          rw [upd_same, ec, if_pos e, List.replicate_succ'] <;> rfl
        · have e : ¬ d = c := fun z => e (decide_eq_true (vs.mpr z))
          refine ⟨s5, ?_⟩
          rw [ec, if_neg e]
          exact hd5
      · rintro H5 ⟨s5, hd5⟩
        rw [size_L, List.take_length] at hd5
        refine ⟨D2, _, rfl, .inl (SqL.of hd5), ?_⟩
        rw [List.length_replicate]
        refine ⟨_, s5 _ _ hd, ?_, same_at (s3.trans s5) hD, ?_⟩
        · unfold cntI
          rw [List.length_map, List.length_map, List.length_take, sizeLine_eq]
          omega
        · rw [upd_same, List.take_add_one, hx']
          unfold cntI
          rw [List.map_append, List.map_append] <;> rfl
    · rintro H3 ⟨s3, hd⟩
      rw [size_L, List.take_length] at hd
      exact q D H3 hD s3 hd
end
end WK
set_option Elab.async false
set_option linter.all false
set_option maxRecDepth 100000
set_option maxHeartbeats 8000000
namespace WK
open PySem L2 PyProof.Rows LCX K1
open TX (sg sigs)
open PySem.W (Frag kitOne)
abbrev sLLed : Stmt := top 74
theorem index_tx {L : W} {c : Nat} (hnd : L.Nodup) (hc : c ∈ L) : Txt.index0 (tx L) (sg c) = some (L.idxOf c) := by
  unfold Txt.index0
  rcases StrLaws.occ_head_from (tx L) ⟨#[c]⟩ 0 1 (Nat.le_refl 1) with ⟨h0, hn⟩ | ⟨k, r, h0, hlo, hk, hn⟩
  · obtain ⟨j, hj⟩ := List.getElem?_of_mem hc
    refine absurd ((StrLaws.subAt_one (tx L) c j).mpr ?_) (hn j (Nat.zero_le _))
    rw [tx_list]
    exact hj
  · rw [show sg c = ⟨#[c]⟩ from rfl, h0]
    have e := (StrLaws.subAt_one (tx L) c k).mp hk
    rw [tx_list] at e
    rw [idx_of hnd e] <;> rfl
def spLLed : Sp := fun vs H Q _ => ∃ (l : Addr) (L u : W) (tb : List (List Int)) (n st : Int), vs = [.ref l, .str (tx L), .str (tx u), .int st] ∧ PTab H l tb ∧ Let L ∧ TabOk tb L.length n ∧ 0 ≤ st ∧ st < n ∧ (∀ c ∈ u, c ∈ L) ∧ Q (.int (ledL L tb u st)) H
abbrev NLl : List Str := ["_law_table_here", "_law_letters_here", "_law_word_here", "_law_start", "_law_place", "_law_letter"]
section
variable {P : Program} {w : World} {K : PySem.W.Frag} {mg : Str → Option Value} {base : Heap} {fL : Addr} {dL : FuncData}
theorem scLl : FnScope NLl ["_law_table_here", "_law_letters_here", "_law_word_here", "_law_start"] (defScope sLLed) := ⟨rfl, rfl, rfl, by decide +kernel, rfl, by decide +kernel, by decide +kernel⟩
theorem ok_lled {f : Addr} {fd : FuncData} (F : Fun K "_law_led" "_law_led" sLLed f fd) : FnOk P w K mg base CX0 1 f fd ["_law_table_here", "_law_letters_here", "_law_word_here", "_law_start"] spLLed := by
  refine F.ok scLl (fun vs H Q E h => ?_) (fun cdv A outer s H vs Q E hr h => ?_)
  · obtain ⟨l, L, u, tb, n, st, rfl, _⟩ := h
    rfl
  · obtain ⟨l, L, u, tb, n, st, rfl, hT, hL, ok, s0, s1, hc, q⟩ := h
    refine ⟨_, pss_cons (ps_set (i := 4) scLl.nd rfl (Or.inl rfl) (pv 3))
      (pss_cons (ps_for PassesOwn.never rfl (pi_str (pv 2)) (pg_name (i := 5) scLl.nd rfl (Or.inl rfl))
        (pss_one (ps_set (i := 4) scLl.nd rfl (Or.inl rfl) (pe_ix ix_tup (pe_ix ix_list (pv 0) (pv 4) (fun _ _ => rfl)) (pe_bmS PySem.F.plainAttrs_str PySem.F.slot_str_index PySem.F.type_str_index (mt_indexX rfl takes0) (pv 1) (pa_cons (pv 5) pa_nil)) (fun _ _ => rfl)))))
      (pss_one (ps_ret (pv 4)))), ?_⟩
    have hnd := nodup_of hL
    refine ⟨_, rfl, _, rfl, tx u, rfl, ?_⟩
    refine for_it walk_str (fun i σ H1 => H1 = H ∧ ∃ x : Option V, σ = [some (.ref l), some (.str (tx L)), some (.str (tx u)), some (.int st), some (.int (ledL L tb (u.take i) st)), x]) ⟨rfl, none, rfl⟩ (fun _ _ _ _ _ => trivial) ?_ ?_
    · rintro i x σ H1 H2 hi ⟨rfl, x0, rfl⟩ ⟨rfl, c, hx, rfl⟩
      have hx' : u[i]? = some c := by
        rw [← Array.getElem?_toList, tx_list] at hx
        exact hx
      have hcL : c ∈ L := hc c (List.mem_of_getElem? hx')
      have hin := ledL_in ok (u := u.take i) (st := st) ⟨s0, s1⟩ fun d hd => hc d (List.mem_of_mem_take hd)
      obtain ⟨as, h1, h2⟩ := hT
      have hrl : (ledL L tb (u.take i) st).toNat < tb.length := by have := ok.len; omega
      obtain ⟨a, e1, e2⟩ := h2.get hrl
      have at1 : atI (as.map V.ref) (ledL L tb (u.take i) st) = some (.ref a) := by
        have e3 : ledL L tb (u.take i) st = (((ledL L tb (u.take i) st).toNat : Nat) : Int) := by omega
        rw [e3]
        exact atI_nat (by rw [List.getElem?_map, e1] <;> rfl)
      have e4 : tb.getD (ledL L tb (u.take i) st).toNat [] = tb[(ledL L tb (u.take i) st).toNat] := by rw [List.getD_eq_getElem?_getD, List.getElem?_eq_getElem hrl] <;> rfl
      have hil : L.idxOf c < (tb.getD (ledL L tb (u.take i) st).toNat []).length := by rw [e4, (ok.row _ (List.getElem_mem hrl)).1]; exact List.idxOf_lt_length_of_mem hcL
      have at2 : atI ((tb.getD (ledL L tb (u.take i) st).toNat []).map V.int) ((L.idxOf c : Nat) : Int) = some (.int (stepL L tb (ledL L tb (u.take i) st) c)) := by
        refine atI_nat ?_
        unfold stepL
        rw [List.getElem?_map, List.getD_eq_getElem?_getD (l := tb.getD _ _), List.getElem?_eq_getElem hil] <;> rfl
      refine ⟨_, rfl, _, rfl, l, _, _, _, rfl, rfl, SqL.of h1, at1, _, rfl, rfl, _, rfl, tx L, sg c, rfl, rfl, fun k hk => ?_, fun hk => ?_⟩
      · rw [index_tx hnd hcL] at hk
        obtain rfl := Option.some.inj hk
        refine ⟨a, _, _, _, rfl, rfl, SqT.of e2, at2, rfl, some (.str (sg c)), ?_⟩
        rw [List.take_add_one, hx']
        show _ = [_, _, _, _, some (V.int (ledL L tb (u.take i ++ [c]) st)), _]
        rw [ledL_snoc] <;> rfl
      · rw [index_tx hnd hcL] at hk
        cases hk
    · rintro σ H1 ⟨rfl, x0, rfl⟩
      rw [size_tx, List.take_length]
      exact ⟨_, rfl, q⟩
end
end WK
set_option Elab.async false
set_option linter.all false
set_option maxRecDepth 100000
set_option maxHeartbeats 4000000
namespace RX
open PySem L2 PyProof.Rows K1 WK RD KN
theorem lex_one (u : W) {c d : Nat} (h : c < d) : u ++ [c] < u ++ [d] := by
  induction u with
  | nil => exact List.cons_lt_cons_iff.mpr (.inl h)
  | cons a u ih => exact List.cons_lt_cons_iff.mpr (.inr ⟨rfl, ih⟩)
theorem lex_two : ∀ {u v : W}, u.length = v.length → u < v → ∀ c d : Nat, u ++ [c] < v ++ [d]
  | [], [], _, h, _, _ => absurd h (List.not_lt_nil [])
  | a :: u, b :: v, e, h, c, d => by
    rcases List.cons_lt_cons_iff.mp h with z | ⟨z1, z2⟩
    · exact List.cons_lt_cons_iff.mpr (.inl z)
    · exact List.cons_lt_cons_iff.mpr (.inr ⟨z1, lex_two (Nat.succ.inj e) z2 c d⟩)
  | [], _ :: _, e, _, _, _ => nomatch e
  | _ :: _, [], e, _, _, _ => nomatch e
/-- by length, then by letters -/
def before (u v : W) : Prop := u.length < v.length ∨ (u.length = v.length ∧ u < v)
section
variable {L : W} {tb : List (List Int)} {st : Int}
theorem let_lt (asc : L.Pairwise (· < ·)) {i j : Nat} (h : i < j) (hj : j < L.length) : L.getD i 0 < L.getD j 0 := by
  rw [List.getD_eq_getElem?_getD, List.getD_eq_getElem?_getD, List.getElem?_eq_getElem (Nat.lt_trans h hj), List.getElem?_eq_getElem hj]
  exact List.pairwise_iff_getElem.mp asc i j _ hj h
theorem ll_len_w : ∀ (k : Nat) (a : Wlk), a ∈ LL L tb st k → a.w.length = k
  | 0, a, h => by rw [List.mem_singleton.mp h] <;> rfl
  | k + 1, a, h => by
    obtain ⟨b, hb, h⟩ := List.mem_flatMap.mp h
    obtain ⟨i, hi, e⟩ := List.mem_filterMap.mp h
    split at e
    · rw [← Option.some.inj e, List.length_append, ll_len_w k b hb] <;> rfl
    · cases e
theorem ll_asc (asc : L.Pairwise (· < ·)) : ∀ k, (LL L tb st k).Pairwise fun a b => a.w < b.w
  | 0 => List.pairwise_singleton _ _
  | k + 1 => by
    refine List.pairwise_flatMap.mpr ⟨fun a ha => ?_, (ll_asc asc k).imp_of_mem fun {a b} ha hb h x hx y hy => ?_⟩
    · unfold pushW
      refine List.Pairwise.filterMap _ (R := fun i j : Nat => i < j ∧ j < L.length) (fun i j hij x hx y hy => ?_) ?_
      · split at hx
        · split at hy
          · rw [← Option.some.inj hx, ← Option.some.inj hy]
            exact lex_one a.w (let_lt asc hij.1 hij.2)
          · cases hy
        · cases hx
      · exact List.pairwise_lt_range.imp_of_mem fun {i j} hi hj h => ⟨h, List.mem_range.mp hj⟩
    · obtain ⟨i, hi, e⟩ := List.mem_filterMap.mp hx
      obtain ⟨j, hj, e2⟩ := List.mem_filterMap.mp hy
      split at e
      · split at e2
        · rw [← Option.some.inj e, ← Option.some.inj e2]
          exact lex_two ((ll_len_w k a ha).trans (ll_len_w k b hb).symm) h _ _
        · cases e2
      · cases e
theorem hits_asc (asc : L.Pairwise (· < ·)) (k : Nat) : ((LL L tb st k).flatMap (hitsW L tb st)).Pairwise fun p q => p.2.length = k + 1 ∧ q.2.length = k + 1 ∧ p.2 < q.2 := by
  refine List.pairwise_flatMap.mpr ⟨fun a ha => ?_, (ll_asc asc k).imp_of_mem fun {a b} ha hb h x hx y hy => ?_⟩
  · unfold hitsW
    refine List.Pairwise.filterMap _ (R := fun i j : Nat => i < j ∧ j < L.length) (fun i j hij x hx y hy => ?_) ?_
    · split at hx
      · split at hy
        · rw [← Option.some.inj hx, ← Option.some.inj hy]
          refine ⟨?_, ?_, lex_one a.w (let_lt asc hij.1 hij.2)⟩
          · show (a.w ++ _).length = _
            rw [List.length_append, ll_len_w k a ha] <;> rfl
          · show (a.w ++ _).length = _
            rw [List.length_append, ll_len_w k a ha] <;> rfl
        · cases hy
      · cases hx
    · exact List.pairwise_lt_range.imp_of_mem fun {i j} hi hj h => ⟨h, List.mem_range.mp hj⟩
  · obtain ⟨i, hi, e⟩ := List.mem_filterMap.mp hx
    obtain ⟨j, hj, e2⟩ := List.mem_filterMap.mp hy
    split at e
    · split at e2
      · rw [← Option.some.inj e, ← Option.some.inj e2]
        refine ⟨?_, ?_, lex_two ((ll_len_w k a ha).trans (ll_len_w k b hb).symm) h _ _⟩
        · show (a.w ++ _).length = _
          rw [List.length_append, ll_len_w k a ha] <;> rfl
        · show (b.w ++ _).length = _
          rw [List.length_append, ll_len_w k b hb] <;> rfl
      · cases e2
    · cases e
theorem hits_len (k : Nat) : ∀ p ∈ (LL L tb st k).flatMap (hitsW L tb st), p.2.length = k + 1 := fun p hp => by
  obtain ⟨a, ha, h⟩ := List.mem_flatMap.mp hp
  obtain ⟨i, hi, e⟩ := List.mem_filterMap.mp h
  split at e
  · rw [← Option.some.inj e]
    show (a.w ++ _).length = _
    rw [List.length_append, ll_len_w k a ha] <;> rfl
  · cases e
theorem fold_sublist {α β : Type} [DecidableEq α] : ∀ (l d : List (α × β)), (l.foldl addNew d).Sublist (d ++ l)
  | [], d => by rw [List.append_nil]; exact List.Sublist.refl d
  | p :: l, d => by
    refine (fold_sublist l (addNew d p)).trans ?_
    rw [show d ++ p :: l = (d ++ [p]) ++ l by rw [List.append_assoc] <;> rfl]
    refine List.Sublist.append ?_ (List.Sublist.refl l)
    unfold addNew
    split
    · exact List.sublist_append_left d [p]
    · exact List.Sublist.refl _
/-- the rings in order -/
theorem lf_before (asc : L.Pairwise (· < ·)) : ∀ k, (LF L tb st k).Pairwise (fun p q => before p.2 q.2) ∧ ∀ p ∈ LF L tb st k, p.2.length ≤ k
  | 0 => ⟨.nil, fun p hp => absurd hp List.not_mem_nil⟩
  | k + 1 => by
    obtain ⟨h1, h2⟩ := lf_before asc k
    have sub := fold_sublist ((LL L tb st k).flatMap (hitsW L tb st)) (LF L tb st k)
    constructor
    · refine List.Pairwise.sublist sub (List.pairwise_append.mpr ⟨h1, (hits_asc asc k).imp fun {p q} ⟨a, b, c⟩ => .inr ⟨a.trans b.symm, c⟩, fun p hp q hq => .inl ?_⟩)
      have := h2 p hp
      have := hits_len k q hq
      omega
    · intro p hp
      rcases List.mem_append.mp (sub.subset hp) with z | z
      · have := h2 p z
        omega
      · exact Nat.le_of_eq (hits_len k p z)
end
end RX
set_option Elab.async false
set_option linter.all false
set_option maxRecDepth 100000
set_option maxHeartbeats 8000000
namespace WK
open PySem L2 PyProof.Rows LCX K1 FV DP
open TX (sg sigs)
open PySem.W (Frag kitOne)
open RX
/-- a walk as the law keeps it -/
def WkAt (st : Int) (H : Hp) (a : Addr) (x : Wlk) : Prop := ∃ q : Addr, H a = some (.tup [.str (tx x.w), .ref q]) ∧ H q = some (oLst (st :: x.vis))
def WksAt (st : Int) (H : Hp) : List Addr → List Wlk → Prop
  | [], [] => True
  | a :: as, x :: xs => WkAt st H a x ∧ WksAt st H as xs
  | _, _ => False
/-- what stands elsewhere than at F and Z stays -/
def Kp (F Z : Addr) (H H' : Hp) : Prop := ∀ b o, H b = some o → b ≠ F → b ≠ Z → H' b = some o
theorem Kp.refl (F Z : Addr) (H : Hp) : Kp F Z H H := fun _ _ e _ _ => e
theorem Kp.of {F Z : Addr} {H H' : Hp} (s : Same H H') : Kp F Z H H' := fun b o e _ _ => s b o e
theorem Kp.trans {F Z : Addr} {H H1 H2 : Hp} (k : Kp F Z H H1) (l : Kp F Z H1 H2) : Kp F Z H H2 := fun b o e f z => l b o (k b o e f z) f z
theorem WkAt.keep {st : Int} {F Z : Addr} {fl : List (List Key × V)} {as : List Addr} {H H' : Hp} {a : Addr} {x : Wlk} (h : WkAt st H a x) (hF : H F = some (.dT fl)) (hZ : H Z = some (.lst (as.map V.ref))) (k : Kp F Z H H') : WkAt st H' a x := by
  obtain ⟨q, h1, h2⟩ := h
  refine ⟨q, k _ _ h1 (fun z => by rw [z, hF] at h1; cases h1) (fun z => by rw [z, hZ] at h1; cases h1), k _ _ h2 (fun z => by rw [z, hF] at h2; cases h2) fun z => ?_⟩
  rw [z, hZ] at h2
  injection h2 with h2
  injection h2 with h2
  cases as with
  | nil => cases h2
  | cons b as => injection h2 with h2; cases h2
theorem WksAt.keep {st : Int} {F Z : Addr} {fl : List (List Key × V)} {bs : List Addr} {H H' : Hp} (hF : H F = some (.dT fl)) (hZ : H Z = some (.lst (bs.map V.ref))) (k : Kp F Z H H') : ∀ {as : List Addr} {xs : List Wlk}, WksAt st H as xs → WksAt st H' as xs
  | [], [], _ => trivial
  | _ :: _, _ :: _, h => ⟨h.1.keep hF hZ k, h.2.keep hF hZ k⟩
theorem WksAt.snoc {st : Int} {H : Hp} {a : Addr} {x : Wlk} (w : WkAt st H a x) : ∀ {as : List Addr} {xs : List Wlk}, WksAt st H as xs → WksAt st H (as ++ [a]) (xs ++ [x])
  | [], [], _ => ⟨w, trivial⟩
  | _ :: _, _ :: _, h => ⟨h.1, h.2.snoc w⟩
theorem WksAt.len {st : Int} {H : Hp} : ∀ {as : List Addr} {xs : List Wlk}, WksAt st H as xs → as.length = xs.length
  | [], [], _ => rfl
  | _ :: _, _ :: _, h => congrArg Nat.succ h.2.len
theorem WksAt.get {st : Int} {H : Hp} : ∀ {as : List Addr} {xs : List Wlk} {i : Nat} {x : Wlk}, WksAt st H as xs → xs[i]? = some x → ∃ a, as[i]? = some a ∧ WkAt st H a x
  | _ :: _, _ :: _, 0, _, h, e => ⟨_, rfl, Option.some.inj e ▸ h.1⟩
  | _ :: _, _ :: _, _ + 1, _, h, e => h.2.get e
  | [], [], _, _, _, e => by cases e
/-- how things stand: what stood stays, rings at F, what comes next at Z -/
structure MidL (H0 : Hp) (st : Int) (F Z : Addr) (fl : List (List Int × W)) (zs : List Wlk) (H : Hp) : Prop where
  same : Same H0 H
  fnd : H F = some (.dT (kvR fl))
  lat : ∃ as : List Addr, H Z = some (.lst (as.map V.ref)) ∧ WksAt st H as zs
abbrev tWordS : TE := tOp rCatS (tVar 5) (tVar 7)
abbrev tTurnS (K : Frag) : TS := tIfS (tTest (tOp rEq (tVar 8) (tVar 1))) (tDrop (VT.tSetT (tVar 2) (tCB (rTupL K) (tCons (tCall spLCounts [] E0 (tCons (tDGet (tVar 0) (tC (.str "letters"))) (tCons tWordS tNil))) tNil)) tWordS))
  (tIfS (tTest (tOp (rIn K true) (tVar 8) (tVar 6))) (tDrop (tBM K "list" rAppend (tVar 4) (tCons (tTup (tCons tWordS (tCons (tOp rCat (tVar 6) (tLst (tCons (tVar 8) tNil))) tNil))) tNil))) tNext)
theorem get_let {H : Hp} {m : Addr} {L : W} {lt le : Addr} (e : H m = some (.dK (pkv L lt le))) : DGet H m (.str "letters") (some (.str (tx L))) := by
  have := DGet.k (k := kL) e
  rw [pkv_L] at this
  exact this
section
variable {K : Frag} {H0 : Hp} {st : Int} {F Z : Addr} {fl : List (List Int × W)} {zs : List Wlk} {H : Hp}
theorem MidL.step (m : MidL H0 st F Z fl zs H) {H' : Hp} (s : Same H H') : MidL H0 st F Z fl zs H' :=
  let ⟨as, h1, h2⟩ := m.lat
  ⟨m.same.trans s, s _ _ m.fnd, as, s _ _ h1, h2.keep m.fnd h1 (Kp.of s)⟩
theorem turnS_ok {L : W} {tb : List (List Int)} {i : Nat} {x : Wlk} {c : Nat} {mm Y q8 lt le : Addr} {Dn : Ends}
    (m : MidL H0 st F Z fl zs H) (nF : H0 F = none) (nZ : H0 Z = none) (hm : H0 mm = some (.dK (pkv L lt le))) (hq : H q8 = some (oLst (st :: x.vis))) (hc : L.getD i 0 = c) (hL : L.length ≤ 3) (hu : x.w.length ≤ 100) (hv : x.vis.length ≤ 100) (hf : fl.length ≤ 10000) (hz : zs.length ≤ 10000)
    (q : ∀ H', MidL H0 st F Z (if rowF tb x.now i = st then addNew fl (cntI L (x.w ++ [c]), x.w ++ [c]) else fl)
      (if rowF tb x.now i ≠ st ∧ rowF tb x.now i ∉ x.vis then zs ++ [⟨x.w ++ [c], rowF tb x.now i, x.vis ++ [rowF tb x.now i]⟩] else zs) H' → Kp F Z H H' →
      Dn.nx [some (.ref mm), some (.int st), some (.ref F), some (.ref Y), some (.ref Z), some (.str (tx x.w)), some (.ref q8), some (.str ⟨#[c]⟩), some (.int (rowF tb x.now i))] H') :
    tTurnS K Dn [some (.ref mm), some (.int st), some (.ref F), some (.ref Y), some (.ref Z), some (.str (tx x.w)), some (.ref q8), some (.str ⟨#[c]⟩), some (.int (rowF tb x.now i))] H := by
  have wl : (tx x.w).length + (⟨#[c]⟩ : Str).length ≤ sizeLine := by
    rw [tx_len, sizeLine_eq]
    show x.w.length + 1 ≤ _
    omega
  have wc : tx x.w ++ (⟨#[c]⟩ : Str) = tx (x.w ++ [c]) := tx_app x.w [c]
  have vint : ∀ {a b : Int}, (V.int a = V.int b) ↔ a = b := ⟨fun z => by injection z, fun z => by rw [z]⟩
  generalize rowF tb x.now i = to at *
  refine ⟨_, rfl, _, rfl, rfl, _, rfl, ite2 (fun e => ?_) (fun e => ?_)⟩
  · have e := vint.mp (of_decide_eq_true e)
    rw [if_pos e, if_neg (fun z => z.1 e)] at q
    refine ⟨_, rfl, ⟨F, _, rfl, m.fnd⟩, _, rfl, mm, _, rfl, get_let (m.same _ _ hm), _, rfl, _, rfl, _, _, rfl, rfl, wl, ?_⟩
    rw [wc]
    refine ⟨L, x.w ++ [c], rfl, by omega, by rw [List.length_append]; show _ + 1 ≤ _; omega, fun l H1 nl s1 hl => ⟨l, _, rfl, .inl ⟨SqL.of hl, fun k nk => ?_⟩⟩⟩
    have s2 := same_two (o := oTup (cntI L (x.w ++ [c]))) s1 nk
    have m2 := m.step s2
    have kt : Kp F Z H _ := Kp.of s2
    refine ⟨_, rfl, _, rfl, _, _, rfl, rfl, wl, ?_⟩
    rw [wc]
    refine ⟨F, k, kvR fl, (cntI L (x.w ++ [c])).map Sum.inl, rfl, rfl, m2.fnd, (upd_same (o := oTup (cntI L (x.w ++ [c])))).trans (congrArg some (key_tup _)), by unfold kvR; rw [List.length_map, sizeLine_eq]; omega, fun v hv => ?_, fun hv => ?_⟩
    · have mem : cntI L (x.w ++ [c]) ∈ fl.map (·.1) := by
        have := kvR_val (cntI L (x.w ++ [c])) fl
        rw [hv] at this
        exact of_decide_eq_true this.symm
      refine q _ ?_ kt
      unfold addNew
      rw [if_pos mem]
      exact m2
    · have out : cntI L (x.w ++ [c]) ∉ fl.map (·.1) := fun z => by
        have := kvR_val (cntI L (x.w ++ [c])) fl
        rw [hv, decide_eq_true z] at this
        cases this
      have k2 : Kp F Z (upd H1 k (oTup (cntI L (x.w ++ [c])))) (upd (upd H1 k (oTup (cntI L (x.w ++ [c])))) F (.dT (putK (kvR fl) ((cntI L (x.w ++ [c])).map Sum.inl) (V.str (tx (x.w ++ [c])))))) := fun b o z nf _ => by
        rw [upd_ne nf]
        exact z
      obtain ⟨as, l1, l2⟩ := m2.lat
      refine q _ ⟨same_at m2.same nF, ?_, as, ?_, l2.keep m2.fnd l1 k2⟩ (kt.trans k2)
      · rw [upd_same, kvR_put out]
      · rw [upd_ne (fun z => by rw [z, m2.fnd] at l1; cases l1)]
        exact l1
  · have e : ¬ to = st := fun z => e (decide_eq_true (vint.mpr z))
    rw [if_neg e] at q
    refine ⟨_, rfl, _, rfl, q8, _, rfl, .inl (SqL.of hq), rfl, all_flat _, _, rfl, ite2 (fun hk => ?_) (fun hk => ?_)⟩
    · rw [if_pos rfl, in_ints] at hk
      have hk : to ∉ st :: x.vis := fun z => by rw [decide_eq_true z] at hk; cases hk
      rw [if_pos ⟨e, fun z => hk (.tail _ z)⟩] at q
      obtain ⟨as, l1, l2⟩ := m.lat
      refine ⟨_, rfl, .inl ⟨rfl, _, SqL.of l1⟩, _, rfl, _, rfl, _, _, rfl, rfl, wl, ?_⟩
      rw [wc]
      refine ⟨_, rfl, _, rfl, (by show 1 ≤ sizeLine; decide), fun a ha => ⟨q8, a, _, _, rfl, rfl, same_upd ha _ _ hq, upd_same, by rw [List.length_map, List.length_cons, sizeLine_eq]; show _ + 1 + 1 ≤ _; omega, fun b hb => ⟨(by show 2 ≤ sizeLine; decide), fun p hp => ?_⟩⟩⟩
      have eb : (HO.lst ((st :: x.vis).map V.int ++ [V.int to]) : HO) = oLst (st :: (x.vis ++ [to])) := by
        show _ = HO.lst ((st :: (x.vis ++ [to])).map V.int)
        rw [← List.cons_append, List.map_append] <;> rfl
      rw [eb] at hp ⊢
      have s1 := same_upd (o := .lst [V.int to]) ha
      have s2 := same_two (o := oLst (st :: (x.vis ++ [to]))) s1 hb
      have s3 := same_two (o := .tup [V.str (tx (x.w ++ [c])), V.ref b]) s2 hp
      have atb := same_upd (o := .tup [V.str (tx (x.w ++ [c])), V.ref b]) hp b _ upd_same
      have wk : WkAt st _ p ⟨x.w ++ [c], to, x.vis ++ [to]⟩ := ⟨b, upd_same, atb⟩
      revert s3 wk
      generalize upd (upd (upd H a (.lst [V.int to])) b (oLst (st :: (x.vis ++ [to])))) p (.tup [V.str (tx (x.w ++ [c])), V.ref b]) = H4
      intro s3 wk
      have lz := l2.len
      have k4 : Kp F Z H4 (upd H4 Z (.lst ((as ++ [p]).map V.ref))) := fun d o z _ nz => by
        rw [upd_ne nz]
        exact z
      refine ⟨Z, _, _, rfl, rfl, s3 _ _ l1, by rw [List.length_map, sizeLine_eq]; omega, ?_⟩
      have el : as.map V.ref ++ [V.ref p] = (as ++ [p]).map V.ref := by rw [List.map_append] <;> rfl
      rw [el]
      have f4 := s3 _ _ m.fnd
      have z4 := s3 _ _ l1
      refine q _ ⟨same_at (m.same.trans s3) nZ, ?_, as ++ [p], upd_same, WksAt.snoc (wk.keep f4 z4 k4) ((l2.keep m.fnd l1 (Kp.of s3)).keep f4 z4 k4)⟩ ((Kp.of s3).trans k4)
      rw [upd_ne (fun z => by rw [← z, f4] at z4; cases z4)]
      exact f4
    · rw [if_pos rfl, in_ints] at hk
      have hk : to ∈ st :: x.vis := Classical.byContradiction fun z => by rw [decide_eq_false z] at hk; exact hk rfl
      have hv : to ∈ x.vis := (List.mem_cons.mp hk).elim (fun z => absurd z e) fun z => z
      rw [if_neg fun z => z.2 hv] at q
      exact q H m (Kp.refl F Z H)
end
end WK
set_option Elab.async false
set_option linter.all false
set_option maxRecDepth 100000
set_option maxHeartbeats 8000000
namespace WK
open PySem L2 PyProof.Rows LCX K1 FV DP
open TX (sg sigs)
open PySem.W (Frag kitOne)
open RX
abbrev gLs : TGs := gCons (gName 7) (gCons (gName 8) gNil)
abbrev tLast (K : Frag) : TE := tOp (rIxL K) (tVar 6) (tUn (rU fun i => V.int (-i)) (tC (.int 1)))
abbrev tInnerS (K : Frag) : TS := tFor (ZPT.iZipST K (tCons (tDGet (tVar 0) (tC (.str "letters"))) (tCons (tOp (rIxL K) (tDGet (tVar 0) (tC (.str "table"))) (tLast K)) tNil))) (gTup K 2 gLs) (tTurnS K)
abbrev rCopy (K : Frag) : List V → Hp → VK → Prop := fun xs H Q => ∃ p ys, xs = [V.ref p] ∧ (SqL K H p ys ∨ SqT K H p ys) ∧ ∀ (l : Addr), H l = none → Q (V.ref l) (upd H l (HO.lst ys))
abbrev tOuterS (K : Frag) : TS := tFor (iList K (tCB (rCopy K) (tCons (tVar 3) tNil))) (gTup K 2 (gCons (gName 5) (gCons (gName 6) gNil))) (tInnerS K)
theorem range_fm2 {β : Type} (f : Nat → Option β) (i : Nat) : (List.range (i + 1)).filterMap f = (List.range i).filterMap f ++ (f i).toList := by
  rw [List.range_succ, List.filterMap_append]
  cases e : f i with
  | none => rw [List.filterMap_cons_none e] <;> rfl
  | some x => rw [List.filterMap_cons_some e] <;> rfl
theorem get_tab {H : Hp} {m : Addr} {L : W} {lt le : Addr} (e : H m = some (.dK (pkv L lt le))) : DGet H m (.str "table") (some (.ref lt)) := by
  have := DGet.k (k := kTb) e
  rw [pkv_T] at this
  exact this
section
variable {K : Frag} {H0 : Hp} {st : Int} {F Z : Addr} {fl : List (List Int × W)} {zs : List Wlk} {H : Hp}
theorem innerS_ok {L : W} {tb : List (List Int)} {n : Int} {x : Wlk} {mm Y q8 lt le : Addr} {ts : List Addr} {x9 x10 : Option V} {Dn : Ends}
    (m : MidL H0 st F Z fl zs H) (nF : H0 F = none) (nZ : H0 Z = none) (hm : H0 mm = some (.dK (pkv L lt le))) (hlt : H0 lt = some (.lst (ts.map V.ref))) (hobj : Objs oTup H0 ts tb) (hq : H q8 = some (oLst (st :: x.vis))) (hla : ∃ pre, st :: x.vis = pre ++ [x.now]) (ok : TabOk tb L.length n) (hh : 0 ≤ x.now ∧ x.now < (tb.length : Nat))
    (hL : L.length ≤ 3) (hu : x.w.length ≤ 50) (hv : x.vis.length ≤ 50) (hf : fl.length ≤ 5000) (hz : zs.length ≤ 5000)
    (q : ∀ x9 x10 H', MidL H0 st F Z ((hitsW L tb st x).foldl addNew fl) (zs ++ pushW L tb st x) H' → Kp F Z H H' →
      Dn.nx [some (.ref mm), some (.int st), some (.ref F), some (.ref Y), some (.ref Z), some (.str (tx x.w)), some (.ref q8), x9, x10] H') :
    tInnerS K Dn [some (.ref mm), some (.int st), some (.ref F), some (.ref Y), some (.ref Z), some (.str (tx x.w)), some (.ref q8), x9, x10] H := by
  have nqF : q8 ≠ F := fun z => by rw [z, m.fnd] at hq; cases hq
  have nqZ : q8 ≠ Z := fun z => by
    obtain ⟨as, l1, _⟩ := m.lat
    rw [z, l1] at hq
    injection hq with hq
    injection hq with hq
    cases as with
    | nil => cases hq
    | cons b as => injection hq with hq; cases hq
  have hltb : x.now.toNat < tb.length := by omega
  obtain ⟨ra, e1, e2⟩ := hobj.get hltb
  have rw_ := (ok.row _ (List.getElem_mem hltb)).1
  have eg : tb.getD x.now.toNat [] = tb[x.now.toNat] := by rw [List.getD_eq_getElem?_getD, List.getElem?_eq_getElem hltb] <;> rfl
  have szL : (tx L).cps.size = L.length := size_tx L
  have l1 : (tx L).cps.size = ((tb.getD x.now.toNat []).map V.int).length := by rw [List.length_map, eg, rw_, szL]
  have atr : atI (ts.map V.ref) x.now = some (.ref ra) := by
    rw [show x.now = ((x.now.toNat : Nat) : Int) by omega]
    refine atI_nat ?_
    rw [List.getElem?_map, e1] <;> rfl
  have atl : atI ((st :: x.vis).map V.int) (-1) = some (.int x.now) := by
    obtain ⟨pre, e⟩ := hla
    rw [e, List.map_append]
    exact atI_last _ _
  refine ⟨_, rfl, mm, _, rfl, get_let (m.same _ _ hm), _, rfl, mm, _, rfl, get_tab (m.same _ _ hm), _, rfl, _, rfl, q8, _, _, _, rfl, rfl, SqL.of hq, atl, lt, _, _, _, rfl, rfl, SqL.of (m.same _ _ hlt), atr, tx L, ra, _, rfl, SqT.of (m.same _ _ e2), ?_⟩
  refine for_it (ZPT.walk_st l1) (fun i σ H' => ∃ x9 x10, σ = [some (.ref mm), some (.int st), some (.ref F), some (.ref Y), some (.ref Z), some (.str (tx x.w)), some (.ref q8), x9, x10] ∧
    MidL H0 st F Z (((List.range i).filterMap fun i => if rowF tb x.now i = st then some (cntI L (x.w ++ [L.getD i 0]), x.w ++ [L.getD i 0]) else none).foldl addNew fl)
      (zs ++ (List.range i).filterMap fun i => if rowF tb x.now i ≠ st ∧ rowF tb x.now i ∉ x.vis then some (⟨x.w ++ [L.getD i 0], rowF tb x.now i, x.vis ++ [rowF tb x.now i]⟩ : Wlk) else none) H' ∧ Kp F Z H H')
    ⟨_, _, rfl, by rw [List.range_zero, List.filterMap_nil, List.filterMap_nil, List.append_nil]; exact m, Kp.refl F Z H⟩ (fun i σ H' _ ⟨_, _, _, m', _⟩ => SqT.of (m'.same _ _ e2)) ?_ ?_
  · rintro i y σ H3 H4 hi ⟨y9, y10, rfl, m3, k3⟩ ⟨T, v1, v2, rfl, hT, rfl, hx, hy⟩
    rw [szL] at hi
    have m4 := m3.step (same_upd (o := .tup [v1, v2]) hT)
    have k4 : Kp F Z H (upd H3 T (.tup [v1, v2])) := k3.trans (Kp.of (same_upd hT))
    have q4 : (upd H3 T (.tup [v1, v2])) q8 = some (oLst (st :: x.vis)) := k4 _ _ hq nqF nqZ
    have hil : i < (tb.getD x.now.toNat []).length := by rw [eg, rw_]; exact hi
    obtain ⟨c, hc⟩ : ∃ c, L[i]? = some c := ⟨_, List.getElem?_eq_getElem hi⟩
    have hx' : v1 = .str ⟨#[c]⟩ := by
      replace hx : ((tx L).cps[i]?).map (fun c => V.str ⟨#[c]⟩) = some v1 := hx
      rw [← Array.getElem?_toList, tx_list, hc] at hx
      exact (Option.some.inj hx).symm
    have ey : v2 = .int (rowF tb x.now i) := by
      replace hy : ((tb.getD x.now.toNat []).map V.int)[i]? = some v2 := hy
      rw [List.getElem?_map, List.getElem?_eq_getElem hil] at hy
      rw [← Option.some.inj hy]
      unfold rowF
      rw [List.getD_eq_getElem?_getD (l := tb.getD x.now.toNat []), List.getElem?_eq_getElem hil] <;> rfl
    subst hx' ey
    have gc : L.getD i 0 = c := by rw [List.getD_eq_getElem?_getD, hc] <;> rfl
    have b1 := fold_len ((List.range i).filterMap fun i => if rowF tb x.now i = st then some (cntI L (x.w ++ [L.getD i 0]), x.w ++ [L.getD i 0]) else none) fl
    have c1 := fm_len (fun i => if rowF tb x.now i = st then some (cntI L (x.w ++ [L.getD i 0]), x.w ++ [L.getD i 0]) else none) i
    have c2 := fm_len (fun i => if rowF tb x.now i ≠ st ∧ rowF tb x.now i ∉ x.vis then some (⟨x.w ++ [L.getD i 0], rowF tb x.now i, x.vis ++ [rowF tb x.now i]⟩ : Wlk) else none) i
    refine ⟨T, _, rfl, SqT.of upd_same, rfl, _, _, rfl, _, _, rfl, rfl, ?_⟩
    refine turnS_ok (tb := tb) (i := i) m4 nF nZ hm q4 gc hL (by omega) (by omega) (by omega) (by rw [List.length_append]; omega) fun H' m' k' => ⟨_, _, rfl, ?_, k4.trans k'⟩
    rw [range_fm2, range_fm2, List.foldl_append, gc]
    by_cases e : rowF tb x.now i = st
    · rw [if_pos e, if_neg (fun z => z.1 e)] at m' ⊢
      rw [Option.toList_none, List.append_nil]
      exact m'
    · rw [if_neg e] at m' ⊢
      by_cases e2 : rowF tb x.now i ≠ st ∧ rowF tb x.now i ∉ x.vis
      · rw [if_pos e2] at m' ⊢
        rw [← List.append_assoc]
        exact m'
      · rw [if_neg e2] at m' ⊢
        rw [Option.toList_none, Option.toList_none, List.append_nil]
        exact m'
  · rintro σ H3 ⟨y9, y10, rfl, m3, k3⟩
    rw [szL] at m3
    exact q _ _ _ m3 k3
theorem outerS_ok {L : W} {tb : List (List Int)} {n : Int} {mm Y lt le : Addr} {ts as : List Addr} {xs : List Wlk} {x6 x7 x8 x9 : Option V} {Dn : Ends}
    (sm : Same H0 H) (hF : H F = some (.dT (kvR fl))) (hY : H Y = some (.lst (as.map V.ref))) (hw : WksAt st H as xs) (hZ : H Z = some (.lst [])) (nF : H0 F = none) (nZ : H0 Z = none) (hm : H0 mm = some (.dK (pkv L lt le))) (hlt : H0 lt = some (.lst (ts.map V.ref))) (hobj : Objs oTup H0 ts tb) (ok : TabOk tb L.length n)
    (hL : L.length ≤ 3) (pr : ∀ x ∈ xs, x.w.length ≤ 50 ∧ x.vis.length ≤ 50 ∧ 0 ≤ x.now ∧ x.now < (tb.length : Nat) ∧ ∃ pre, st :: x.vis = pre ++ [x.now]) (hx : xs.length ≤ 243) (hf : fl.length ≤ 3000)
    (q : ∀ x6 x7 x8 x9 H' bs, Same H0 H' → H' F = some (.dT (kvR ((xs.flatMap (hitsW L tb st)).foldl addNew fl))) → H' Z = some (.lst (bs.map V.ref)) → WksAt st H' bs (xs.flatMap (pushW L tb st)) →
      Dn.nx [some (.ref mm), some (.int st), some (.ref F), some (.ref Y), some (.ref Z), x6, x7, x8, x9] H') :
    tOuterS K Dn [some (.ref mm), some (.int st), some (.ref F), some (.ref Y), some (.ref Z), x6, x7, x8, x9] H := by
  refine ⟨_, rfl, Y, _, rfl, .inl (SqL.of hY), fun C nC => ⟨C, rfl, ⟨_, SqL.of upd_same⟩, ?_⟩⟩
  have nC0 : H0 C = none := sm.free nC
  have s1 := same_upd (o := .lst (as.map V.ref)) nC
  have CF : F ≠ C := fun z => by rw [← z, hF] at nC; cases nC
  have CZ : Z ≠ C := fun z => by rw [← z, hZ] at nC; cases nC
  have sC : Same (upd H0 C (.lst (as.map V.ref))) (upd H C (.lst (as.map V.ref))) := fun b o e => by
    by_cases z : b = C
    · rw [z, upd_same] at e ⊢
      exact e
    · rw [upd_ne z] at e ⊢
      exact sm _ _ e
  have sH : Same H0 (upd H0 C (.lst (as.map V.ref))) := same_upd nC0
  have m0 : MidL (upd H0 C (.lst (as.map V.ref))) st F Z fl [] (upd H C (.lst (as.map V.ref))) := ⟨sC, s1 _ _ hF, [], s1 _ _ hZ, trivial⟩
  have nF2 : upd H0 C (.lst (as.map V.ref)) F = none := by rw [upd_ne CF]; exact nF
  have nZ2 : upd H0 C (.lst (as.map V.ref)) Z = none := by rw [upd_ne CZ]; exact nZ
  have lx := hw.len
  have hw1 := hw.keep hF (bs := []) hZ (Kp.of s1)
  refine for_list (xs := as.map V.ref) (fun i σ H' => ∃ x6 x7 x8 x9, σ = [some (.ref mm), some (.int st), some (.ref F), some (.ref Y), some (.ref Z), x6, x7, x8, x9] ∧
    MidL (upd H0 C (.lst (as.map V.ref))) st F Z (((xs.take i).flatMap (hitsW L tb st)).foldl addNew fl) ((xs.take i).flatMap (pushW L tb st)) H' ∧ WksAt st H' as xs)
    ⟨_, _, _, _, rfl, m0, hw1⟩ (fun i σ H' _ ⟨_, _, _, _, _, m', _⟩ => SqL.of (m'.same _ _ upd_same)) ?_ ?_
  · rintro i v σ H3 hv ⟨y6, y7, y8, y9, rfl, m3, w3⟩
    rw [List.getElem?_map] at hv
    obtain ⟨a, ha, rfl⟩ := Option.map_eq_some_iff.mp hv
    have hia := (List.getElem?_eq_some_iff.mp ha).1
    have hix : i < xs.length := by omega
    obtain ⟨a', ha', q8, r1, r2⟩ := w3.get (List.getElem?_eq_getElem hix)
    obtain rfl : a = a' := Option.some.inj (ha.symm.trans ha')
    obtain ⟨p1, p2, p3, p4, p5⟩ := pr xs[i] (List.getElem_mem hix)
    have tl : (xs.take i).length ≤ 243 := by rw [List.length_take]; omega
    have b1 := fold_len ((xs.take i).flatMap (hitsW L tb st)) fl
    have c1 := flat_most (f := hitsW L tb st) (m := 3) (fun p => Nat.le_trans (fm_len _ _) hL) (xs.take i)
    have c2 := flat_most (f := pushW L tb st) (m := 3) (fun p => Nat.le_trans (fm_len _ _) hL) (xs.take i)
    have tk : xs.take (i + 1) = xs.take i ++ [xs[i]] := by rw [List.take_add_one, List.getElem?_eq_getElem hix] <;> rfl
    obtain ⟨cs, z1, _⟩ := id m3.lat
    refine ⟨a, _, rfl, SqT.of r1, rfl, _, _, rfl, _, _, rfl, rfl, ?_⟩
    refine innerS_ok m3 nF2 nZ2 (sH _ _ hm) (sH _ _ hlt) (hobj.to fun _ _ _ e => sH _ _ e) r2 p5 ok ⟨p3, p4⟩ hL p1 p2 (by omega) (by omega) fun y9 y10 H' m' k' => ⟨_, _, _, _, rfl, ?_, w3.keep m3.fnd z1 k'⟩
    rw [tk, List.flatMap_append, List.flatMap_append, List.foldl_append, List.flatMap_singleton, List.flatMap_singleton]
    exact m'
  · rintro σ H3 ⟨y6, y7, y8, y9, rfl, m3, w3⟩
    rw [List.length_map, lx, List.take_length] at m3
    obtain ⟨bs, l1, l2⟩ := m3.lat
    exact q _ _ _ _ H3 bs (sH.trans m3.same) m3.fnd l1 l2
end
end WK
set_option Elab.async false
set_option linter.all false
set_option maxRecDepth 100000
set_option maxHeartbeats 8000000
namespace WK
open PySem L2 PyProof.Rows LCX K1 FV DP
open TX (sg sigs)
open PySem.W (Frag kitOne)
abbrev sWay : Stmt := top 78
abbrev NWy2 : List Str := ["_law_plain", "_law_word_here", "_law_found", "_law_letter"]
def spWay : Sp := fun vs H Q _ => ∃ (m : Addr) (L u : W) (tb : List (List Int)) (es : List Int) (n : Int), vs = [.ref m, .str (tx u)] ∧ PlainM H m L tb es ∧ TabOk tb L.length n ∧ Let L ∧ 1 ≤ n ∧ u.length ≤ 1000 ∧ (∀ c ∈ u, c ∈ L) ∧
  ∀ (l : Addr) (H' : Hp), H l = none → Same H H' → H' l = some (oLst (spotsN L tb u u.length)) → Q (.ref l) H'
section
variable {P : Program} {w : World} {K : PySem.W.Frag} {mg : Str → Option Value} {base : Heap} {fLd : Addr} {dLd : FuncData}
theorem scWy2 : FnScope NWy2 ["_law_plain", "_law_word_here"] (defScope sWay) := ⟨rfl, rfl, rfl, by decide +kernel, rfl, by decide +kernel, by decide +kernel⟩
theorem ok_way {f : Addr} {fd : FuncData} (F : Fun K "_law_way" "_law_way" sWay f fd) (ALd : Fn K mg "_law_led" sLLed ["_law_table_here", "_law_letters_here", "_law_word_here", "_law_start"] fLd dLd) : FnOk P w K mg base CX0 2 f fd ["_law_plain", "_law_word_here"] spWay := by
  have GLd : FnOk P w K mg base CX0 1 fLd dLd ["_law_table_here", "_law_letters_here", "_law_word_here", "_law_start"] spLLed := ok_lled ALd.F
  refine F.ok scWy2 (fun vs H Q E h => ?_) (fun cdv A outer s H vs Q E hr h => ?_)
  · obtain ⟨m, L, u, _, _, _, rfl, _⟩ := h
    rfl
  · obtain ⟨m, L, u, tb, es, n, rfl, pm, ok, hL, n1, hu, hc, q⟩ := h
    have hub := hu_of hr
    refine ⟨_, pss_cons (ps_set (i := 2) scWy2.nd rfl (Or.inl rfl) (pe_lst (pa_cons pe_int pa_nil)))
      (pss_cons (ps_for PassesOwn.never rfl (pi_str (pv 1)) (pg_name (i := 3) scWy2.nd rfl (Or.inl rfl))
        (pss_one (ps_expr (pe_bm PySem.F.plainAttrs_list PySem.F.slot_list_append PySem.F.type_list_append mt_append (pv 2) (pa_cons (pe_call (E := E0) GLd hr rfl ALd.g ALd.F.kp ALd.b .nil pass0
          (pa_cons (pe_dget hub (pv 0) pe_str (fun _ _ => rfl)) (pa_cons (pe_dget hub (pv 0) pe_str (fun _ _ => rfl)) (pa_cons (pv 3) (pa_cons (pe_ix ix_list (pv 2) (pe_un un_neg pe_int) (fun _ _ => rfl)) pa_nil))))) pa_nil)))))
      (pss_one (ps_ret (pv 2)))), ?_⟩
    obtain ⟨lt, le, hm, htab, hle⟩ := pm.ex
    refine ⟨(by show 1 ≤ sizeLine; decide), fun p hp => ⟨_, rfl, tx u, rfl, ?_⟩⟩
    refine for_it walk_str (fun i σ H3 => (∃ x, σ = [some (.ref m), some (.str (tx u)), some (.ref p), x]) ∧ Same H H3 ∧ H3 p = some (.lst ((spotsN L tb u i).map V.int))) ⟨⟨_, rfl⟩, same_upd hp, upd_same⟩ (fun _ _ _ _ _ => trivial) ?_ ?_
    · rintro i x σ H3 H4 hi ⟨⟨y, rfl⟩, s3, hp3⟩ ⟨rfl, c, hx, rfl⟩
      have hx' : u[i]? = some c := by
        rw [← Array.getElem?_toList, tx_list] at hx
        exact hx
      have hcL : c ∈ L := hc c (List.mem_of_getElem? hx')
      have hil : i < u.length := (List.getElem?_eq_some_iff.mp hx').1
      have hm3 := s3 _ _ hm
      have e1 : spotsN L tb u i = (List.range i).map (fun j => ledL L tb (u.take j) 0) ++ [ledL L tb (u.take i) 0] := by
        unfold spotsN
        rw [List.range_succ, List.map_append, List.map_singleton]
      have e2 : spotsN L tb u (i + 1) = spotsN L tb u i ++ [ledL L tb (u.take (i + 1)) 0] := by
        unfold spotsN
        rw [List.range_succ, List.map_append, List.map_singleton]
      have hl := ledL_in ok (u := u.take i) (st := 0) ⟨Int.le_refl _, by omega⟩ fun d hd => hc d (List.mem_of_mem_take hd)
      have at1 : atI ((spotsN L tb u i).map V.int) (-1) = some (.int (ledL L tb (u.take i) 0)) := by
        rw [e1, List.map_append]
        exact atI_last _ _
      refine ⟨_, rfl, .inl ⟨rfl, _, SqL.of hp3⟩, _, rfl, m, _, rfl, get_tab hm3, _, rfl, m, _, rfl, get_let hm3, _, rfl, _, rfl, _, rfl, p, _, _, _, rfl, rfl, SqL.of hp3, at1, ?_⟩
      refine ⟨lt, L, [c], tb, n, _, rfl, htab.same s3, hL, ok, hl.1, hl.2, fun d hd => List.mem_singleton.mp hd ▸ hcL, ?_⟩
      have e3 : ledL L tb [c] (ledL L tb (u.take i) 0) = ledL L tb (u.take (i + 1)) 0 := by
        rw [List.take_add_one, hx']
        show _ = ledL L tb (u.take i ++ [c]) 0
        rw [ledL_snoc] <;> rfl
      rw [e3]
      refine ⟨p, _, _, rfl, rfl, hp3, ?_, ⟨_, rfl⟩, same_at s3 hp, ?_⟩
      · unfold spotsN
        rw [List.length_map, List.length_map, List.length_range, sizeLine_eq]
        omega
      · rw [upd_same, e2, List.map_append] <;> rfl
    · rintro σ H3 ⟨⟨y, rfl⟩, s3, hp3⟩
      rw [size_L] at hp3
      exact ⟨_, rfl, q p H3 hp s3 hp3⟩
end
end WK
set_option Elab.async false
set_option linter.all false
set_option maxRecDepth 100000
set_option maxHeartbeats 8000000
namespace WK
open PySem L2 PyProof.Rows LCX K1 FV DP
open TX (sg sigs)
open PySem.W (Frag kitOne)
theorem fold_rep (u : W) : ∀ (k : Nat) (acc : Array Nat), (List.replicate k u.toArray).foldl (· ++ ·) acc = acc ++ ((List.replicate k u).flatten).toArray
  | 0, acc => by simp
  | k + 1, acc => by
    rw [List.replicate_succ, List.foldl_cons, fold_rep u k, List.replicate_succ, List.flatten_cons]
    simp
theorem mul_tx (u : W) (n : Int) : Txt.mul (tx u) n = tx ((List.replicate n.toNat u).flatten) := by
  unfold Txt.mul
  by_cases h : n < 1
  · rw [if_pos h, show n.toNat = 0 by omega] <;> rfl
  · rw [if_neg h]
    by_cases h2 : (n == 1 || (tx u).length == 0) = true
    · rw [if_pos h2]
      rcases Bool.or_eq_true_iff.mp h2 with e | e
      · rw [show n = 1 from of_decide_eq_true e]
        show tx u = tx ([u].flatten)
        rw [List.flatten_singleton]
      · rw [tx_len] at e
        have : u = [] := List.length_eq_zero_iff.mp (of_decide_eq_true e)
        subst this
        have : ∀ k, (List.replicate k ([] : W)).flatten = [] := fun k => by
          induction k with
          | zero => rfl
          | succ k ih => rw [List.replicate_succ, List.flatten_cons, ih] <;> rfl
        rw [this]
    · rw [if_neg h2]
      show (⟨(List.replicate n.toNat u.toArray).foldl (· ++ ·) #[]⟩ : Str) = ⟨((List.replicate n.toNat u).flatten).toArray⟩
      rw [fold_rep]
      simp
theorem flat_rep {u : W} {k : Nat} : ((List.replicate k u).flatten).length = k * u.length ∧ ∀ c ∈ (List.replicate k u).flatten, c ∈ u := by
  constructor
  · simp
  · intro c hc
    obtain ⟨l, hl, h⟩ := List.mem_flatten.mp hc
    rw [List.eq_of_mem_replicate hl] at h
    exact h
/-- what the rings at one place give, one behind the other -/
def goneAt (rs : List (Int × W × Int)) (at_ : Int) : W := (rs.map fun r => if r.1 = at_ then (List.replicate r.2.2.toNat r.2.1).flatten else []).flatten
/-- the word in which each ring is gone round so often, its first places -/
def goneN (u : W) (rs : List (Int × W × Int)) (k : Nat) : W := ((List.range k).map fun (i : Nat) => goneAt rs (i : Int) ++ (u.drop i).take 1).flatten
theorem goneN_zero (u : W) (rs : List (Int × W × Int)) : goneN u rs 0 = [] := rfl
theorem goneN_succ (u : W) (rs : List (Int × W × Int)) (k : Nat) : goneN u rs (k + 1) = goneN u rs k ++ (goneAt rs k ++ (u.drop k).take 1) := by
  unfold goneN
  rw [List.range_succ, List.map_append, List.flatten_append, List.map_singleton, List.flatten_singleton]
theorem goneAt_nil (k : Int) : goneAt [] k = [] := rfl
theorem goneAt_snoc (rs : List (Int × W × Int)) (r : Int × W × Int) (k : Int) : goneAt (rs ++ [r]) k = goneAt rs k ++ (if r.1 = k then (List.replicate r.2.2.toNat r.2.1).flatten else []) := by
  unfold goneAt
  rw [List.map_append, List.flatten_append, List.map_singleton, List.flatten_singleton]
theorem mem_goneAt {rs : List (Int × W × Int)} {k : Int} {c : Nat} (h : c ∈ goneAt rs k) : ∃ r ∈ rs, c ∈ r.2.1 := by
  obtain ⟨v, hv, hc⟩ := List.mem_flatten.mp h
  obtain ⟨r, hr, e⟩ := List.mem_map.mp hv
  by_cases z : r.1 = k
  · rw [if_pos z] at e
    rw [← e] at hc
    exact ⟨r, hr, flat_rep.2 c hc⟩
  · rw [if_neg z] at e
    rw [← e] at hc
    exact absurd hc (by simp)
theorem mem_goneN {u : W} {rs : List (Int × W × Int)} {k : Nat} {c : Nat} (h : c ∈ goneN u rs k) : c ∈ u ∨ ∃ r ∈ rs, c ∈ r.2.1 := by
  obtain ⟨v, hv, hc⟩ := List.mem_flatten.mp h
  obtain ⟨i, _, e⟩ := List.mem_map.mp hv
  rw [← e] at hc
  rcases List.mem_append.mp hc with z | z
  · exact .inr (mem_goneAt z)
  · exact .inl (List.mem_of_mem_drop (List.mem_of_mem_take z))
end WK
set_option Elab.async false
set_option linter.all false
set_option maxRecDepth 100000
set_option maxHeartbeats 8000000
namespace WK
open PySem L2 PyProof.Rows LCX K1 FV DP
open TX (sg sigs)
open PySem.W (Frag kitOne)
abbrev sGone : Stmt := top 81
abbrev NGn : List Str := ["_law_word_here", "_law_rings", "_law_found", "_law_at", "_law_spot", "_law_ring", "_law_times"]
abbrev oRg (r : Int × W × Int) : HO := .tup [.int r.1, .str (tx r.2.1), .int r.2.2]
def RgAt (H : Hp) (as : List Addr) (rs : List (Int × W × Int)) : Prop := as.length = rs.length ∧ ∀ (i : Nat) (r : Int × W × Int), rs[i]? = some r → ∃ a, as[i]? = some a ∧ H a = some (oRg r)
theorem cut_mid (u : W) (i : Nat) : cutS (tx u) (some (i : Int)) (some ((i : Int) + 1)) = tx ((u.drop i).take 1) := by
  unfold cutS
  rw [tx_len, tx_list]
  have h1 : HT.sIx u.length u.length (some ((i : Int) + 1)) = min (i + 1) u.length := by
    unfold HT.sIx
    simp
    try omega
  have h2 : HT.sIx u.length 0 (some (i : Int)) = min i u.length := by
    unfold HT.sIx
    simp
    try omega
  rw [h1, h2]
  show (⟨_⟩ : Str) = ⟨_⟩
  congr 2
  by_cases h : i < u.length
  · rw [Nat.min_eq_left (by omega), Nat.min_eq_left (by omega), show i + 1 - i = 1 by omega]
  · rw [Nat.min_eq_right (by omega), Nat.min_eq_right (by omega), List.drop_of_length_le (Nat.le_refl _), List.drop_of_length_le (by omega)]
    simp
theorem goneAt_len {rs : List (Int × W × Int)} (h : ∀ r ∈ rs, r.2.1.length ≤ 60 ∧ r.2.2 ≤ 60) (k : Int) : (goneAt rs k).length ≤ rs.length * 3600 := by
  induction rs with
  | nil => simp [goneAt]
  | cons r rs ih =>
    have e : goneAt (r :: rs) k = (if r.1 = k then (List.replicate r.2.2.toNat r.2.1).flatten else []) ++ goneAt rs k := rfl
    have b : (if r.1 = k then (List.replicate r.2.2.toNat r.2.1).flatten else []).length ≤ 3600 := by
      by_cases z : r.1 = k
      · rw [if_pos z, flat_rep.1]
        obtain ⟨h1, h2⟩ := h r (.head _)
        exact Nat.le_trans (Nat.mul_le_mul (show r.2.2.toNat ≤ 60 by omega) h1) (by decide)
      · rw [if_neg z]
        simp
    have := ih fun r hr => h r (.tail _ hr)
    rw [e, List.length_append, List.length_cons]
    omega
theorem goneN_len {u : W} {rs : List (Int × W × Int)} (h : ∀ r ∈ rs, r.2.1.length ≤ 60 ∧ r.2.2 ≤ 60) (k : Nat) : (goneN u rs k).length ≤ k * (rs.length * 3600 + 1) := by
  induction k with
  | zero => rw [goneN_zero]; simp
  | succ k ih =>
    rw [goneN_succ, List.length_append, List.length_append, List.length_take, Nat.add_mul, Nat.one_mul]
    have := goneAt_len h k
    omega
def spGone : Sp := fun vs H Q _ => ∃ (pl : Addr) (u : W) (rs : List (Int × W × Int)) (as : List Addr), vs = [.str (tx u), .ref pl] ∧ H pl = some (.lst (as.map V.ref)) ∧ RgAt H as rs ∧ u.length ≤ 60 ∧ rs.length ≤ 20 ∧ (∀ r ∈ rs, r.2.1.length ≤ 60 ∧ 0 ≤ r.2.2 ∧ r.2.2 ≤ 60) ∧
  Q (.str (tx (goneN u rs (u.length + 1)))) H
section
variable {P : Program} {w : World} {K : PySem.W.Frag} {mg : Str → Option Value} {base : Heap}
theorem scGn : FnScope NGn ["_law_word_here", "_law_rings"] (defScope sGone) := ⟨rfl, rfl, rfl, by decide +kernel, rfl, by decide +kernel, by decide +kernel⟩
theorem ok_gone {f : Addr} {fd : FuncData} (F : Fun K "_law_gone" "_law_gone" sGone f fd) (T : TN mg) : FnOk P w K mg base CX0 1 f fd ["_law_word_here", "_law_rings"] spGone := by
  refine F.ok scGn (fun vs H Q E h => ?_) (fun cdv A outer s H vs Q E hr h => ?_)
  · obtain ⟨pl, u, _, _, rfl, _⟩ := h
    rfl
  · obtain ⟨pl, u, rs, as, rfl, hpl, hra, hu, hrs, hrb, q⟩ := h
    refine ⟨_, pss_cons (ps_set (i := 2) scGn.nd rfl (Or.inl rfl) pe_str)
      (pss_cons (ps_for PassesOwn.never rfl (pi_range1 rfl T.rng (pa_cons (pe_op op_add (pe_callB call_len_str (by rfl) T.len PySem.boot_len (pa_cons (pv 0) pa_nil)) pe_int) pa_nil)) (pg_name (i := 3) scGn.nd rfl (Or.inl rfl))
        (pss_cons (ps_for PassesOwn.never rfl (pi_list (pv 1)) (pg_tup (by rfl) (pgs_cons (pg_name (i := 4) scGn.nd rfl (Or.inl rfl)) (pgs_cons (pg_name (i := 5) scGn.nd rfl (Or.inl rfl)) (pgs_cons (pg_name (i := 6) scGn.nd rfl (Or.inl rfl)) pgs_nil))))
          (pss_one (ps_set (i := 2) scGn.nd rfl (Or.inl rfl) (pe_op op_add_str (pv 2) (pe_ifExp (pt_cmpR op_eq (pv 4) (pv 3) (nomark _)) (pe_op op_mulS (pv 5) (pv 6)) pe_str)))))
        (pss_one (ps_set (i := 2) scGn.nd rfl (Or.inl rfl) (pe_op op_add_str (pv 2) (pe_slice sl_str (pv 0) (po_some (pv 3)) (po_some (pe_op op_add (pv 3) pe_int))))))))
      (pss_one (ps_ret (pv 2)))), ?_⟩
    have hrb' : ∀ r ∈ rs, r.2.1.length ≤ 60 ∧ r.2.2 ≤ 60 := fun r hr => ⟨(hrb r hr).1, (hrb r hr).2.2⟩
    have hul : (tx u).length ≤ sizeLine := by rw [tx_len, sizeLine_eq]; omega
    refine ⟨_, rfl, _, rfl, hul, _, _, rfl, rfl, _, rfl, ?_⟩
    rw [tx_len]
    have e1 : ((u.length : Int) + 1) = ((u.length + 1 : Nat) : Int) := by omega
    rw [e1]
    refine ⟨by omega, by omega, ?_⟩
    refine for_it walk_range (fun i σ H3 => H3 = H ∧ ∃ y3 y4 y5 y6, σ = [some (.str (tx u)), some (.ref pl), some (.str (tx (goneN u rs i))), y3, y4, y5, y6]) ⟨rfl, _, _, _, _, rfl⟩ (fun _ _ _ _ _ => trivial) ?_ ?_
    · rintro i xi σ H3 H4 hi ⟨e3, y3, y4, y5, y6, rfl⟩ ⟨rfl, exi⟩
      subst e3
      obtain rfl : xi = .int ((i : Nat) : Int) := exi.trans (congrArg V.int (Int.zero_add _))
      have gl := goneN_len (u := u) hrb' i
      refine ⟨_, rfl, pl, rfl, ⟨_, SqL.of hpl⟩, ?_⟩
      refine for_it walk_list (fun j σ H3 => H3 = H4 ∧ ∃ y4 y5 y6, σ = [some (.str (tx u)), some (.ref pl), some (.str (tx (goneN u rs i ++ goneAt (rs.take j) i))), some (.int (i : Nat)), y4, y5, y6]) ⟨rfl, _, _, _, by rw [List.take_zero, goneAt_nil, List.append_nil] <;> rfl⟩ (fun _ _ _ _ h => by rw [h.1]; exact SqL.of hpl) ?_ ?_
      · rintro j x σ H3 H5 hj ⟨e5, y4, y5, y6, rfl⟩ ⟨rfl, hx⟩
        subst e5
        rw [List.getElem?_map] at hx
        obtain ⟨a, ha, rfl⟩ := Option.map_eq_some_iff.mp hx
        have hja := (List.getElem?_eq_some_iff.mp ha).1
        have hjr : j < rs.length := by rw [← hra.1]; exact hja
        obtain ⟨a', ha', hA⟩ := hra.2 j rs[j] (List.getElem?_eq_getElem hjr)
        obtain rfl : a = a' := Option.some.inj (ha.symm.trans ha')
        obtain ⟨b1, b2, b3⟩ := hrb rs[j] (List.getElem_mem hjr)
        have tk : rs.take (j + 1) = rs.take j ++ [rs[j]] := by rw [List.take_add_one, List.getElem?_eq_getElem hjr] <;> rfl
        have gl2 := goneAt_len (rs := rs.take j) (fun r hr => hrb' r (List.mem_of_mem_take hr)) i
        refine ⟨a, _, rfl, SqT.of hA, rfl, _, _, rfl, _, _, rfl, _, _, rfl, rfl, ?_⟩
        have tl : (rs.take j).length ≤ 20 := by rw [List.length_take]; omega
        have ap : ∀ v : W, goneN u rs i ++ goneAt (rs.take j) i ++ v = goneN u rs i ++ (goneAt (rs.take j) i ++ v) := fun v => List.append_assoc _ _ _
        have bd : i * (rs.length * 3600 + 1) ≤ 61 * (20 * 3600 + 1) := Nat.mul_le_mul (by omega) (by omega)
        refine ⟨_, rfl, _, rfl, _, rfl, rfl, _, rfl, ite2 (fun z => ?_) (fun z => ?_)⟩
        · have z : V.int rs[j].1 = V.int ((i : Nat) : Int) := of_decide_eq_true z
          injection z with z
          have fl := flat_rep (u := rs[j].2.1) (k := rs[j].2.2.toNat)
          have fb : rs[j].2.2.toNat * rs[j].2.1.length ≤ 60 * 60 := Nat.mul_le_mul (by omega) b1
          refine ⟨_, rfl, _, rfl, _, _, rfl, rfl, mulOk_w b1 b2 b3, ?_⟩
          rw [mul_tx]
          refine ⟨_, _, rfl, rfl, by rw [tx_len, tx_len, List.length_append, fl.1, sizeLine_eq]; omega, ?_⟩
          rw [tx_app, ap]
          refine ⟨rfl, some (.int rs[j].1), some (.str (tx rs[j].2.1)), some (.int rs[j].2.2), ?_⟩
          rw [tk, goneAt_snoc, if_pos z]
          rfl
        · have z : ¬ rs[j].1 = ((i : Nat) : Int) := fun e => z (decide_eq_true (congrArg V.int e))
          refine ⟨_, _, rfl, rfl, by rw [tx_len, List.length_append, sizeLine_eq]; show _ + 0 ≤ _; omega, ?_⟩
          refine ⟨rfl, some (.int rs[j].1), some (.str (tx rs[j].2.1)), some (.int rs[j].2.2), ?_⟩
          rw [tk, goneAt_snoc, if_neg z, List.append_nil, show (Str.ofString "") = tx [] from rfl, tx_app, List.append_nil]
          rfl
      · rintro σ H3 ⟨e5, y4, y5, y6, rfl⟩
        subst e5
        rw [List.length_map, hra.1, List.take_length]
        have gl2 := goneAt_len (rs := rs) hrb' i
        have bd : i * (rs.length * 3600 + 1) ≤ 61 * (20 * 3600 + 1) := Nat.mul_le_mul (by omega) (by omega)
        refine ⟨_, rfl, _, rfl, _, rfl, _, rfl, _, rfl, _, _, rfl, rfl, _, rfl, tx u, rfl, hul, ?_⟩
        rw [cut_mid]
        refine ⟨_, _, rfl, rfl, by rw [tx_len, tx_len, List.length_append, List.length_take, sizeLine_eq]; omega, ?_⟩
        rw [tx_app, List.append_assoc, ← goneN_succ]
        exact ⟨rfl, some (.int ((i : Nat) : Int)), y4, y5, y6, rfl⟩
    · rintro σ H3 ⟨rfl, y3, y4, y5, y6, rfl⟩
      exact ⟨_, rfl, q⟩
end
end WK
set_option Elab.async false
set_option linter.all false
set_option maxRecDepth 100000
set_option maxHeartbeats 8000000
namespace WK
open PySem L2 PyProof.Rows LCX K1 FV DP
open TX (sg sigs)
open PySem.W (Frag kitOne)
open RX (cntI)
abbrev sSumOf : Stmt := top 62
abbrev NSo : List Str := ["letters", "side", "sums", "_", "ring", "times"]
def sumN (L u : W) (rs : List (Int × W × Int)) : List Int := rs.foldl (fun s r => plusT r.2.2 s (cntI L r.2.1)) (cntI L u)
/-- a word with its rings -/
def SideAt (H : Hp) (p : Addr) (u : W) (rs : List (Int × W × Int)) : Prop := ∃ (q : Addr) (as : List Addr), H p = some (.tup [.str (tx u), .ref q]) ∧ H q = some (.tup (as.map V.ref)) ∧ RgAt H as rs
theorem RgAt.same {H H' : Hp} {as : List Addr} {rs : List (Int × W × Int)} (h : RgAt H as rs) (s : Same H H') : RgAt H' as rs := ⟨h.1, fun i r e => by
  obtain ⟨a, e1, e2⟩ := h.2 i r e
  exact ⟨a, e1, s _ _ e2⟩⟩
theorem SideAt.same {H H' : Hp} {p : Addr} {u : W} {rs : List (Int × W × Int)} (h : SideAt H p u rs) (s : Same H H') : SideAt H' p u rs := by
  obtain ⟨q, as, h1, h2, h3⟩ := h
  exact ⟨q, as, s _ _ h1, s _ _ h2, h3.same s⟩
/-- rings that may be summed -/
def RgOk (L : W) (r : Int × W × Int) : Prop := r.2.1.length < 64 ∧ (∀ c ∈ r.2.1, c ∈ L) ∧ 0 ≤ r.2.2 ∧ r.2.2 ≤ 60
def spSumOf : Sp := fun vs H Q _ => ∃ (p : Addr) (L u : W) (rs : List (Int × W × Int)), vs = [.str (tx L), .ref p] ∧ SideAt H p u rs ∧ Let L ∧ u.length < 64 ∧ (∀ c ∈ u, c ∈ L) ∧ (∀ r ∈ rs, RgOk L r) ∧
  ∀ (t : Addr) (H' : Hp), H t = none → Same H H' → H' t = some (oTup (sumN L u rs)) → Q (.ref t) H'
theorem cnt_oTup (L u : W) : (HO.tup (L.map fun c => V.int (u.count c : Int)) : HO) = oTup (cntI L u) := by
  show _ = HO.tup ((cntI L u).map V.int)
  unfold cntI
  rw [List.map_map] <;> rfl
theorem sumN_len (L u : W) : ∀ rs : List (Int × W × Int), (sumN L u rs).length = L.length := fun rs => by
  unfold sumN
  have : ∀ (rs : List (Int × W × Int)) (v : List Int), v.length = L.length → (rs.foldl (fun s r => plusT r.2.2 s (cntI L r.2.1)) v).length = L.length := by
    intro rs
    induction rs with
    | nil => exact fun v h => h
    | cons r rs ih => exact fun v h => ih _ (by unfold plusT; rw [List.length_zipWith, h, RX.cnt_len, Nat.min_self])
  exact this rs _ (RX.cnt_len L u)
section
variable {P : Program} {w : World} {K : PySem.W.Frag} {mg : Str → Option Value} {base : Heap} {fC fP : Addr} {dC dP : FuncData}
theorem scSo : FnScope NSo ["letters", "side"] (defScope sSumOf) := ⟨rfl, rfl, rfl, by decide +kernel, rfl, by decide +kernel, by decide +kernel⟩
theorem ok_sumof {f : Addr} {fd : FuncData} (F : Fun K "_sum_of" "_sum_of" sSumOf f fd) (AC : Fn K mg "counts" sCounts ["letters", "word"] fC dC) (GC : FnOk P w K mg base CX0 5 fC dC ["letters", "word"] spCounts)
    (mP : mg "plus" = some (.ref fP)) (kP : PySem.W.keepIn K (.ref fP) = true) (GP : FnOk P w K mg base CX0 1 fP dP ["one", "other", "times"] spPlusT) (bP : Binds K dP ["one", "other", "times"] []) :
    FnOk P w K mg base CX0 6 f fd ["letters", "side"] spSumOf := by
  refine F.ok scSo (fun vs H Q E h => ?_) (fun cdv A outer s H vs Q E hr h => ?_)
  · obtain ⟨p, L, _, _, rfl, _⟩ := h
    rfl
  · obtain ⟨p, L, u, rs, rfl, sd, hL, hu, hc, hrs, q⟩ := h
    have hr1 : Room 1 _ := hr.mono (by decide)
    refine ⟨_, pss_cons (ps_set (i := 2) scSo.nd rfl (Or.inl rfl) (pe_call (E := E0) GC hr rfl AC.g AC.F.kp AC.b .nil pass0 (pa_cons (pv 0) (pa_cons (pe_ix ix_tup (pv 1) pe_int (fun _ _ => rfl)) pa_nil))))
      (pss_cons (ps_for PassesOwn.never rfl (pi_tup (pe_ix ix_tup (pv 1) pe_int (fun _ _ => rfl))) (pg_tup (n := 3) (by rfl) (pgs_cons (pg_name (i := 3) scSo.nd rfl (Or.inl rfl)) (pgs_cons (pg_name (i := 4) scSo.nd rfl (Or.inl rfl)) (pgs_cons (pg_name (i := 5) scSo.nd rfl (Or.inl rfl)) pgs_nil))))
        (pss_one (ps_set (i := 2) scSo.nd rfl (Or.inl rfl) (pe_call (E := E0) GP hr1 rfl mP kP bP .nil pass0 (pa_cons (pv 2) (pa_cons (pe_call (E := E0) GC hr rfl AC.g AC.F.kp AC.b .nil pass0 (pa_cons (pv 0) (pa_cons (pv 4) pa_nil))) (pa_cons (pv 5) pa_nil)))))))
      (pss_one (ps_ret (pv 2)))), ?_⟩
    obtain ⟨pq, as, h1, h2, h3⟩ := sd
    refine ⟨_, rfl, _, rfl, p, _, _, _, rfl, rfl, SqT.of h1, rfl, ?_⟩
    refine ⟨L, u, rfl, hL, fun c hc' => hL.low c (hc c hc'), hu, hc, fun t H1 nt s1 ht => ?_⟩
    refine ⟨_, rfl, p, _, _, _, rfl, rfl, SqT.of (s1 _ _ h1), rfl, pq, rfl, ⟨_, SqT.of (s1 _ _ h2)⟩, ?_⟩
    rw [cnt_oTup] at ht
    refine for_it walk_tup (fun j σ H3 => ∃ (t : Addr) (x3 x4 x5 : Option V), σ = [some (.str (tx L)), some (.ref p), some (.ref t), x3, x4, x5] ∧ Same H H3 ∧ H t = none ∧ H3 t = some (oTup (sumN L u (rs.take j))))
      ⟨t, _, _, _, rfl, s1, nt, ht⟩ (fun _ _ _ _ ⟨_, _, _, _, _, s3, _⟩ => SqT.of (s3 _ _ h2)) ?_ ?_
    · rintro j x σ H3 H4 hj ⟨t, x3, x4, x5, rfl, s3, nt, ht⟩ ⟨rfl, hx⟩
      rw [List.length_map] at hj
      rw [List.getElem?_map] at hx
      obtain ⟨a, ha, rfl⟩ := Option.map_eq_some_iff.mp hx
      have hjr : j < rs.length := by rw [← h3.1]; exact hj
      obtain ⟨a', ha', hA⟩ := h3.2 j rs[j] (List.getElem?_eq_getElem hjr)
      obtain rfl : a = a' := Option.some.inj (ha.symm.trans ha')
      obtain ⟨b1, b2, b3, b4⟩ := hrs rs[j] (List.getElem_mem hjr)
      refine ⟨a, _, rfl, SqT.of (s3 _ _ hA), rfl, _, _, rfl, _, _, rfl, _, _, rfl, rfl, ?_⟩
      refine ⟨_, rfl, _, rfl, _, rfl, L, rs[j].2.1, rfl, hL, fun c hc' => hL.low c (b2 c hc'), b1, b2, fun d H5 nd s5 hd => ⟨_, rfl, ?_⟩⟩
      rw [cnt_oTup] at hd
      refine ⟨t, d, _, _, _, rfl, s5 _ _ ht, hd, by rw [sumN_len, RX.cnt_len], by rw [sumN_len]; have := hL.few; omega, by omega, fun e H6 ne s6 he => ?_⟩
      refine ⟨e, _, _, _, rfl, s3.trans (s5.trans s6), (s3.trans s5).free ne, ?_⟩
      rw [he, List.take_add_one, List.getElem?_eq_getElem hjr]
      unfold sumN
      rw [List.foldl_append] <;> rfl
    · rintro σ H3 ⟨t, x3, x4, x5, rfl, s3, nt, ht⟩
      rw [List.length_map, h3.1, List.take_length] at ht
      exact ⟨_, rfl, q t H3 nt s3 ht⟩
end
end WK
set_option Elab.async false
set_option linter.all false
set_option maxRecDepth 100000
set_option maxHeartbeats 8000000
namespace WK
open PySem L2 PyProof.Rows LCX K1 FV DP
open TX (sg sigs)
open PySem.W (Frag kitOne)
abbrev sIsRing : Stmt := top 57
abbrev sLeads : Stmt := top 59
def leadsB (L : W) (tb : List (List Int)) (s : Nat) (u : W) : Bool := !decide (u = []) && overB L u && decide (ledL L tb u ((s : Nat) : Int) = ((s : Nat) : Int))
def spLeads (K : Frag) (C : Addr) : Sp := fun vs H Q _ => ∃ (o : Addr) (L : W) (tb : List (List Int)) (es : List Int) (n : Int) (s : Nat) (v : V), vs = [.ref o, .int ((s : Nat) : Int), v] ∧ Let L ∧ MacAt C H o L tb es ∧ TabOk tb L.length n ∧ n ≤ 1000 ∧ s < tb.length ∧
  ((∃ u : W, v = .str (tx u) ∧ Low u ∧ u.length < 64 ∧ ∀ H', Same H H' → Q (.bl (leadsB L tb s u)) H') ∨ (NoText K H v ∧ Q (.bl false) H))
def spIsRing (K : Frag) (C : Addr) : Sp := fun vs H Q _ => ∃ (o : Addr) (L : W) (tb : List (List Int)) (es : List Int) (n : Int) (s : Nat) (v : V), vs = [.ref o, .int ((s : Nat) : Int), v] ∧ Let L ∧ MacAt C H o L tb es ∧ TabOk tb L.length n ∧ n ≤ 1000 ∧ s < tb.length ∧
  ((∃ u : W, v = .str (tx u) ∧ Low u ∧ u.length < 64 ∧ ∀ H', Same H H' → Q (.bl (leadsB L tb s u)) H') ∨ ((∀ H', Same H H' → NoText K H' v) ∧ ∀ H', Same H H' → Q (.bl false) H'))
section
variable {P : Program} {w : World} {K : PySem.W.Frag} {mg : Str → Option Value} {base : Heap} {C cD cM pT gT pL gL gN fN fW fO fE fK : Addr} {dT dL dN dW dO dE dK : FuncData}
theorem scLe2 : FnScope ["machine", "state", "value"] ["machine", "state", "value"] (defScope sLeads) := ⟨rfl, rfl, rfl, by decide +kernel, rfl, by decide +kernel, by decide +kernel⟩
theorem scIR : FnScope ["machine", "state", "value"] ["machine", "state", "value"] (defScope sIsRing) := ⟨rfl, rfl, rfl, by decide +kernel, rfl, by decide +kernel, by decide +kernel⟩
theorem ok_leads {f : Addr} {fd : FuncData} (F : Fun K "_leads_back" "_leads_back" sLeads f fd) (T : TN mg) (M : TMc K mg C cD cM)
    (AW : Fn K mg "is_word" sIsWord ["value"] fW dW) (GW : FnOk P w K mg base CX0 1 fW dW ["value"] (spIsWord K)) (AO : Fn K mg "is_over" sIsOver ["letters", "word"] fO dO) (GO : FnOk P w K mg base CX0 1 fO dO ["letters", "word"] spOver2)
    (AL : Fn K mg "led" sLed ["letters", "table", "word", "start"] fE dE) (GL : FnOk P w K mg base CX0 1 fE dE ["letters", "table", "word", "start"] (spLed K))
    (RT : PropOf K C "table" pT gT) (GT : FnOk P w K mg base CX0 1 gT dT ["self"] (getSp C "_table")) (bT : Binds K dT ["self"] []) (RL : PropOf K C "letters" pL gL) (GLe : FnOk P w K mg base CX0 1 gL dL ["self"] (getSp C "_letters")) (bL : Binds K dL ["self"] []) :
    FnOk P w K mg base CX0 3 f fd ["machine", "state", "value"] (spLeads K C) := by
  refine F.ok scLe2 (fun vs H Q E h => ?_) (fun cdv A outer s H vs Q E hr h => ?_)
  · obtain ⟨o, L, _, _, _, s, v, rfl, _⟩ := h
    rfl
  · obtain ⟨o, L, tb, es, n, s, v, rfl, hL, mac, ok, n2, hs, h⟩ := h
    have hr1 : Room 1 _ := hr.mono (by decide)
    refine ⟨_, pss_cons (ps_if (PW.pt (pw_or (pt_not (pt_val (pe_call (E := E0) GW hr1 rfl AW.g AW.F.kp AW.b .nil pass0 (pa_cons (pv 2) pa_nil))))
        (pw_or (pt_cmpR op_eq (pv 2) pe_str (nomark _)) (pw_or1 (pt_not (pt_val (pe_call (E := E0) GO hr1 rfl AO.g AO.F.kp AO.b .nil pass0 (pa_cons (pe_prop (E := E0) (pv 0) M.cl RL GLe hr bL .nil pass0 rfl) (pa_cons (pv 2) pa_nil))))))))) (pss_one (ps_ret pe_bl)) pss_nil)
      (pss_one (ps_ret (pe_cmpR op_eq (pe_call (E := E0) GL hr1 rfl AL.g AL.F.kp AL.b .nil pass0 (pa_cons (pe_prop (E := E0) (pv 0) M.cl RL GLe hr bL .nil pass0 rfl) (pa_cons (pe_prop (E := E0) (pv 0) M.cl RT GT hr bT .nil pass0 rfl) (pa_cons (pv 2) (pa_cons (pv 1) pa_nil))))) (pv 1) (nomark _)))), ?_⟩
    obtain ⟨dx, t, e, ts, hm, h2, h3, h4⟩ := id mac.ex
    rcases h with ⟨u, rfl, lu, hu, q⟩ | ⟨nt, q⟩
    · refine ⟨_, rfl, _, rfl, .inl ⟨tx u, rfl, ?_⟩⟩
      rw [wordB_low lu]
      refine ⟨_, rfl, ite2 (fun z => by cases z) (fun _ => ?_)⟩
      refine ⟨_, rfl, rfl, _, rfl, ite2 (fun e => ?_) (fun e => ?_)⟩
      · refine ite2 (fun _ => ?_) (fun z => absurd rfl z)
        have eu : u = [] := by
          have := of_decide_eq_true e
          injection this with this
          exact tx_inj this
        have el : leadsB L tb s u = false := by
          unfold leadsB
          rw [decide_eq_true eu] <;> rfl
        rw [← el]
        exact q H (Same.refl H)
      · have ne : u ≠ [] := fun z => e (decide_eq_true (by rw [z]; rfl))
        refine ⟨_, rfl, o, dx, _, rfl, hm, o, dx, _, _, rfl, hm, rfl, _, rfl, L, u, rfl, hu, fun H1 s1 => ⟨_, rfl, ite2 (fun e2 => ?_) (fun e2 => ?_)⟩⟩
        · have el : leadsB L tb s u = false := by
            unfold leadsB
            rw [show overB L u = false by revert e2; cases overB L u <;> simp, Bool.and_false] <;> rfl
          rw [← el]
          exact q H1 s1
        · have eo : overB L u = true := by revert e2; cases overB L u <;> simp
          have hc : ∀ c ∈ u, c ∈ L := of_decide_eq_true eo
          have hm1 := s1 _ _ hm
          have okl := ok.len
          refine ⟨_, rfl, o, dx, _, rfl, hm1, o, dx, _, _, rfl, hm1, rfl, _, rfl, o, dx, _, rfl, hm1, o, dx, _, _, rfl, hm1, rfl, _, rfl, _, rfl, ?_⟩
          refine ⟨t, L, u, tb, n, _, rfl, ⟨ts, SqT.of (s1 _ _ h2), h3.to fun a _ r e => s1 _ _ e⟩, hL, ok, n2, by omega, by omega, by omega, hc, fun H2 s2 => ⟨_, rfl, rfl, ?_⟩⟩
          have el : leadsB L tb s u = decide (V.int (ledL L tb u ((s : Nat) : Int)) = V.int ((s : Nat) : Int)) := by
            unfold leadsB
            rw [eo, decide_eq_false ne]
            show decide _ = _
            exact decide_eq_decide.mpr ⟨fun z => by rw [z], fun z => by injection z⟩
          rw [← el]
          exact q H2 (s1.trans s2)
    · refine ⟨_, rfl, _, rfl, .inr ⟨nt, ⟨_, rfl, ite2 (fun _ => ite2 (fun _ => q) (fun z => absurd rfl z)) (fun z => absurd rfl z)⟩⟩⟩
theorem ok_isring {f : Addr} {fd : FuncData} (F : Fun K "is_ring" "is_ring" sIsRing f fd) (T : TN mg) (M : TMc K mg C cD cM) (AN : Fn K mg "need_machines" sNeedMs ["machines"] fN dN) (GN : FnOk P w K mg base CX0 1 fN dN ["machines"] (spNeedM1 K C))
    (AW : Fn K mg "need_number" sNeedNum ["value", "least", "most"] fW dW) (GW : FnOk P w K mg base CX0 3 fW dW ["value", "least", "most"] spNeedNum) (hN : PySem.W.findIn K (.ref C) "__len__" = some (some (.ref gN))) (iN : PySem.W.isFn K (.ref gN) = true) (GLn : FnR P w K mg base CX0 1 gN (spMLen C))
    (AK : Fn K mg "_leads_back" sLeads ["machine", "state", "value"] fK dK) (GK : FnOk P w K mg base CX0 3 fK dK ["machine", "state", "value"] (spLeads K C)) :
    FnOk P w K mg base CX0 4 f fd ["machine", "state", "value"] (spIsRing K C) := by
  refine F.ok scIR (fun vs H Q E h => ?_) (fun cdv A outer s H vs Q E hr h => ?_)
  · obtain ⟨o, L, _, _, _, s, v, rfl, _⟩ := h
    rfl
  · obtain ⟨o, L, tb, es, n, s, v, rfl, hL, mac, ok, n2, hs, h⟩ := h
    have hr1 : Room 1 _ := hr.mono (by decide)
    have hr2 : Room 2 _ := hr.mono (by decide)
    refine ⟨_, pss_cons (ps_expr (pe_call (E := E0) GN hr1 rfl AN.g AN.F.kp AN.b .nil pass0 (pa_cons (pe_tup (pa_cons (pv 0) pa_nil)) pa_nil)))
      (pss_cons (ps_expr (pe_call (E := E0) GW hr rfl AW.g AW.F.kp AW.b .nil pass0 (pa_cons (pv 1) (pa_cons pe_int (pa_cons (pe_op op_sub (pe_callB (OWN.call_lenO hN iN GLn hr2) (by rfl) T.len PySem.boot_len (pa_cons (pv 0) pa_nil)) pe_int) pa_nil)))))
      (pss_one (ps_ret (pe_call (E := E0) GK hr rfl AK.g AK.F.kp AK.b .nil pass0 (pa_cons (pv 0) (pa_cons (pv 1) (pa_cons (pv 2) pa_nil))))))), ?_⟩
    obtain ⟨dx, t, e, ts, hm, h2, h3, h4⟩ := id mac.ex
    have okl := ok.len
    refine ⟨_, rfl, (by show 1 ≤ sizeLine; decide), fun p1 hp1 => ⟨p1, o, rfl, SqT.of upd_same, ⟨dx, _, same_upd hp1 _ _ hm⟩, ?_⟩⟩
    have s1 := same_upd (o := .tup [.ref o]) hp1
    have hm1 := s1 _ _ hm
    refine ⟨_, rfl, _, rfl, o, dx, _, rfl, hm1, o, L, tb, es, rfl, mac.same s1, tb.length, rfl, by omega, _, _, rfl, rfl, _, _, _, rfl, by omega, by omega, ?_⟩
    refine ⟨_, rfl, _, rfl, _, rfl, o, L, tb, es, n, s, v, rfl, hL, mac.same s1, ok, n2, hs, ?_⟩
    rcases h with ⟨u, rfl, lu, hu, q⟩ | ⟨nt, q⟩
    · exact .inl ⟨u, rfl, lu, hu, fun H' s' => q H' (s1.trans s')⟩
    · exact .inr ⟨nt _ s1, q _ s1⟩
end
end WK
set_option Elab.async false
set_option linter.all false
set_option maxRecDepth 100000
set_option maxHeartbeats 8000000
namespace WK
open PySem L2 PyProof.Rows LCX K1 FV DP
open TX (sg sigs)
open PySem.W (Frag kitOne)
abbrev sMHas : Stmt := inClass (top 44) 14
def spMHas (C : Addr) : Sp := fun vs H Q _ => ∃ (o : Addr) (L u : W) (tb : List (List Int)) (es : List Int) (n : Int), vs = [.ref o, .str (tx u)] ∧ Let L ∧ MacAt C H o L tb es ∧ TabOk tb L.length n ∧ 1 ≤ n ∧ n ≤ 1000 ∧ Low u ∧ u.length < 64 ∧ (∀ c ∈ u, c ∈ L) ∧
  ∀ H', Same H H' → Q (.bl (decide (ledL L tb u 0 ∈ es))) H'
section
variable {P : Program} {w : World} {K : PySem.W.Frag} {mg : Str → Option Value} {base : Heap} {C cD cM fW fO fL : Addr} {dW dO dL : FuncData}
theorem scMH : FnScope ["self", "x"] ["self", "x"] (defScope sMHas) := ⟨rfl, rfl, rfl, by decide +kernel, rfl, by decide +kernel, by decide +kernel⟩
theorem ok_mhas {f : Addr} {fd : FuncData} (F : Fun K "__contains__" "Machine.__contains__" sMHas f fd) (M : TMc K mg C cD cM) (AW : Fn K mg "is_word" sIsWord ["value"] fW dW) (GW : FnOk P w K mg base CX0 1 fW dW ["value"] (spIsWord K))
    (AO : Fn K mg "is_over" sIsOver ["letters", "word"] fO dO) (GO : FnOk P w K mg base CX0 1 fO dO ["letters", "word"] spOver) (AL : Fn K mg "led" sLed ["letters", "table", "word", "start"] fL dL) (GL : FnOk P w K mg base CX0 1 fL dL ["letters", "table", "word", "start"] (spLed K)) :
    FnOk P w K mg base CX0 2 f fd ["self", "x"] (spMHas C) := by
  refine F.ok scMH (fun vs H Q E h => ?_) (fun cdv A outer s H vs Q E hr h => ?_)
  · obtain ⟨o, _, _, _, _, _, rfl, _⟩ := h
    rfl
  · obtain ⟨o, L, u, tb, es, n, rfl, hL, ⟨dx, t, e, ts, h1, h2, h3, h4⟩, ok, n1, n2, lo, hu, hc, q⟩ := h
    refine ⟨_, pss_cons (ps_if (PW.pt (pw_or (pt_not (pt_val (pe_call (E := E0) GW hr rfl AW.g AW.F.kp AW.b .nil pass0 (pa_cons (pv 1) pa_nil))))
        (pw_or1 (pt_not (pt_val (pe_call (E := E0) GO hr rfl AO.g AO.F.kp AO.b .nil pass0 (pa_cons (pe_fld (pv 0) rfl) (pa_cons (pv 1) pa_nil)))))))) (pss_one (ps_ret pe_bl)) pss_nil)
      (pss_one (ps_ret (pe_cmpR op_in_seq (pe_call (E := E0) GL hr rfl AL.g AL.F.kp AL.b .nil pass0 (pa_cons (pe_fld (pv 0) rfl) (pa_cons (pe_fld (pv 0) rfl) (pa_cons (pv 1) (pa_cons pe_int pa_nil))))) (pe_fld (pv 0) rfl) (by rfl)))), ?_⟩
    refine ⟨_, rfl, _, rfl, .inl ⟨tx u, rfl, _, rfl, ?_⟩⟩
    rw [wordB_low lo]
    refine ⟨_, rfl, o, C, dx, _, _, rfl, h1, M.cl, M.nL, rfl, _, rfl, L, u, rfl, hu, hc, fun H1 s1 => ⟨_, rfl, ?_⟩⟩
    have h1' := s1 _ _ h1
    refine ⟨_, rfl, o, C, dx, _, _, rfl, h1', M.cl, M.nL, rfl, _, rfl, o, C, dx, _, _, rfl, h1', M.cl, M.nT, rfl, _, rfl, t, L, u, tb, n, 0, rfl, ⟨ts, SqT.of (s1 _ _ h2), h3.to fun a _ r e => s1 _ _ e⟩, hL, ok, n2, Int.le_refl _, by omega, by omega, hc, fun H2 s2 => ?_⟩
    have s12 := s1.trans s2
    refine ⟨_, rfl, o, C, dx, _, _, rfl, s12 _ _ h1, M.cl, M.nE, rfl, e, _, rfl, .inr (SqT.of (s12 _ _ h4)), rfl, all_flat es, ?_⟩
    rw [if_neg (by decide), in_ints]
    exact q _ s12
end
end WK
set_option Elab.async false
set_option linter.all false
set_option maxRecDepth 100000
set_option maxHeartbeats 8000000
namespace WK
open PySem L2 PyProof.Rows LCX K1 FV DP
open TX (sg sigs)
open PySem.W (Frag kitOne)
abbrev sIsPair : Stmt := top 26
abbrev sIsTurn : Stmt := top 61
abbrev NIt : List Str := ["machine", "word", "value", "at", "ring", "times"]
def spIsPair (K : Frag) : Sp := fun vs H Q _ => ∃ (v : Addr) (x y : V), vs = [.ref v] ∧ SqT K H v [x, y] ∧ Q (.bl true) H
def spIsTurn (C : Addr) : Sp := fun vs H Q _ => ∃ (o a : Addr) (L u : W) (tb : List (List Int)) (es : List Int) (n : Int) (r : Int × W × Int), vs = [.ref o, .str (tx u), .ref a] ∧ Let L ∧ MacAt C H o L tb es ∧ TabOk tb L.length n ∧ 1 ≤ n ∧ n ≤ 1000 ∧ u.length < 64 ∧ (∀ c ∈ u, c ∈ L) ∧
  H a = some (oRg r) ∧ 0 ≤ r.1 ∧ r.1 ≤ u.length ∧ Low r.2.1 ∧ r.2.1.length < 64 ∧ ∀ H', Same H H' → Q (.bl (leadsB L tb (ledL L tb (u.take r.1.toNat) 0).toNat r.2.1)) H'
section
variable {P : Program} {w : World} {K : PySem.W.Frag} {mg : Str → Option Value} {base : Heap} {C cD cM pT gT pL gL fN fI fE fK : Addr} {dT dL dN dI dE dK : FuncData}
theorem scIP : FnScope ["value"] ["value"] (defScope sIsPair) := ⟨rfl, rfl, rfl, by decide +kernel, rfl, by decide +kernel, by decide +kernel⟩
theorem scIt : FnScope NIt ["machine", "word", "value"] (defScope sIsTurn) := ⟨rfl, rfl, rfl, by decide +kernel, rfl, by decide +kernel, by decide +kernel⟩
theorem ok_ispair {f : Addr} {fd : FuncData} (F : Fun K "is_pair" "is_pair" sIsPair f fd) (T : TN mg) : FnOk P w K mg base CX0 1 f fd ["value"] (spIsPair K) := by
  refine F.ok scIP (fun vs H Q E h => ?_) (fun cdv A outer s H vs Q E hr h => ?_)
  · obtain ⟨v, _, _, rfl, _⟩ := h
    rfl
  · obtain ⟨v, x, y, rfl, hT, q⟩ := h
    refine ⟨_, pss_one (ps_ret (pe_and (pe_callB call_isi (by rfl) T.isi (by decide +kernel) (pa_cons (pv 0) (pa_cons (pe_ty "tuple" T.tuple (by decide +kernel)) pa_nil))) (pe_one (pe_cmpR op_eq (pe_callB call_len_seq (by rfl) T.len PySem.boot_len (pa_cons (pv 0) pa_nil)) pe_int (nomark _))))), ?_⟩
    refine ⟨_, rfl, _, _, _, _, true, rfl, .ty "tuple", tyT hT, kit_ty (by decide +kernel), true, rfl, ?_⟩
    refine ⟨_, rfl, v, _, rfl, .inr hT, ?_⟩
    refine ⟨rfl, ?_⟩
    rw [decide_eq_true (show V.int (([x, y].length : Nat) : Int) = V.int 2 from rfl)]
    exact q
theorem ok_isturn {f : Addr} {fd : FuncData} (F : Fun K "_is_turn" "_is_turn" sIsTurn f fd) (T : TN mg) (M : TMc K mg C cD cM)
    (AN : Fn K mg "is_number" sIsNum ["value", "least", "most"] fN dN) (GN : FnOk P w K mg base CX0 2 fN dN ["value", "least", "most"] spIsNum) (AI : Fn K mg "is_integer" sIsInt ["value"] fI dI) (GI : FnOk P w K mg base CX0 1 fI dI ["value"] spIsInt)
    (AL : Fn K mg "led" sLed ["letters", "table", "word", "start"] fE dE) (GL : FnOk P w K mg base CX0 1 fE dE ["letters", "table", "word", "start"] (spLed K)) (AK : Fn K mg "_leads_back" sLeads ["machine", "state", "value"] fK dK) (GK : FnOk P w K mg base CX0 3 fK dK ["machine", "state", "value"] (spLeads K C))
    (RT : PropOf K C "table" pT gT) (GT : FnOk P w K mg base CX0 1 gT dT ["self"] (getSp C "_table")) (bT : Binds K dT ["self"] []) (RL : PropOf K C "letters" pL gL) (GLe : FnOk P w K mg base CX0 1 gL dL ["self"] (getSp C "_letters")) (bL : Binds K dL ["self"] []) :
    FnOk P w K mg base CX0 4 f fd ["machine", "word", "value"] (spIsTurn C) := by
  refine F.ok scIt (fun vs H Q E h => ?_) (fun cdv A outer s H vs Q E hr h => ?_)
  · obtain ⟨o, a, _, u, _, _, _, _, rfl, _⟩ := h
    rfl
  · obtain ⟨o, a, L, u, tb, es, n, r, rfl, hL, mac, ok, n1, n2, hu, hc, ha, r0, r1, lr, lr2, q⟩ := h
    have hr1 : Room 1 _ := hr.mono (by decide)
    have hr2 : Room 2 _ := hr.mono (by decide)
    refine ⟨_, pss_cons (ps_if (PW.pt (pw_or (pt_not (pt_val (pe_callB call_isi (by rfl) T.isi (by decide +kernel) (pa_cons (pv 2) (pa_cons (pe_ty "tuple" T.tuple (by decide +kernel)) pa_nil)))))
        (pw_or1 (pt_cmpR op_ne (pe_callB call_len_seq (by rfl) T.len PySem.boot_len (pa_cons (pv 2) pa_nil)) pe_int (nomark _))))) (pss_one (ps_ret pe_bl)) pss_nil)
      (pss_cons (ps_asg (pv 2) (pg_tup (n := 3) (by rfl) (pgs_cons (pg_name (i := 3) scIt.nd rfl (Or.inl rfl)) (pgs_cons (pg_name (i := 4) scIt.nd rfl (Or.inl rfl)) (pgs_cons (pg_name (i := 5) scIt.nd rfl (Or.inl rfl)) pgs_nil)))))
      (pss_cons (ps_if (PW.pt (pw_or (pt_not (pt_val (pe_call (E := E0) GN hr2 rfl AN.g AN.F.kp AN.b .nil pass0 (pa_cons (pv 3) (pa_cons pe_int (pa_cons (pe_callB call_len_str (by rfl) T.len PySem.boot_len (pa_cons (pv 1) pa_nil)) pa_nil))))))
        (pw_or1 (pt_not (pt_val (pe_call (E := E0) GI hr1 rfl AI.g AI.F.kp AI.b .nil pass0 (pa_cons (pv 5) pa_nil))))))) (pss_one (ps_ret pe_bl)) pss_nil)
      (pss_one (ps_ret (pe_call (E := E0) GK hr rfl AK.g AK.F.kp AK.b .nil pass0 (pa_cons (pv 0) (pa_cons
        (pe_call (E := E0) GL hr1 rfl AL.g AL.F.kp AL.b .nil pass0 (pa_cons (pe_prop (E := E0) (pv 0) M.cl RL GLe hr2 bL .nil pass0 rfl) (pa_cons (pe_prop (E := E0) (pv 0) M.cl RT GT hr2 bT .nil pass0 rfl) (pa_cons (pe_slice sl_str (pv 1) po_none (po_some (pv 3))) (pa_cons pe_int pa_nil)))))
        (pa_cons (pv 4) pa_nil)))))))), ?_⟩
    obtain ⟨dx, t, e, ts, hm, h2, h3, h4⟩ := id mac.ex
    have hT : SqT K H a [.int r.1, .str (tx r.2.1), .int r.2.2] := SqT.of ha
    refine ⟨_, rfl, _, _, _, _, true, rfl, .ty "tuple", tyT hT, kit_ty (by decide +kernel), true, rfl, ite2 (fun z => by cases z) (fun _ => ?_)⟩
    refine ⟨_, rfl, a, _, rfl, .inr hT, rfl, _, rfl, ite2 (fun z => absurd z (by show ¬ (!decide (V.int 3 = V.int 3)) = true; simp)) (fun _ => ?_)⟩
    refine ⟨_, rfl, a, _, rfl, hT, rfl, _, _, rfl, _, _, rfl, _, _, rfl, rfl, ?_⟩
    refine ⟨_, rfl, _, rfl, tx u, rfl, by rw [tx_len, sizeLine_eq]; omega, r.1, 0, _, rfl, ?_⟩
    rw [tx_len, decide_eq_true r0, decide_eq_true r1]
    refine ⟨_, rfl, ite2 (fun z => by cases z) (fun _ => ?_)⟩
    refine ⟨_, rfl, r.2.2, rfl, _, rfl, ite2 (fun z => by cases z) (fun _ => ?_)⟩
    refine ⟨_, rfl, _, rfl, o, dx, _, rfl, hm, o, dx, _, _, rfl, hm, rfl, _, rfl, o, dx, _, rfl, hm, o, dx, _, _, rfl, hm, rfl, ?_⟩
    refine ⟨_, rfl, _, rfl, _, rfl, tx u, rfl, by rw [tx_len, sizeLine_eq]; omega, ?_⟩
    rw [show r.1 = ((r.1.toNat : Nat) : Int) by omega, cut_to]
    have hct : ∀ c ∈ u.take r.1.toNat, c ∈ L := fun c z => hc c (List.mem_of_mem_take z)
    have hl := ledL_in ok (u := u.take r.1.toNat) (st := 0) ⟨Int.le_refl _, by omega⟩ hct
    have okl := ok.len
    refine ⟨t, L, u.take r.1.toNat, tb, n, 0, rfl, ⟨ts, SqT.of h2, h3⟩, hL, ok, n2, Int.le_refl _, by omega, by rw [List.length_take]; omega, hct, fun H1 s1 => ⟨_, rfl, ?_⟩⟩
    refine ⟨o, L, tb, es, n, (ledL L tb (u.take r.1.toNat) 0).toNat, _, by rw [Int.toNat_of_nonneg hl.1] <;> rfl, hL, mac.same s1, ok, n2, by omega, .inl ⟨r.2.1, rfl, lr, lr2, fun H' s' => ?_⟩⟩
    exact q H' (s1.trans s')
end
end WK
set_option Elab.async false
set_option linter.all false
set_option maxRecDepth 100000
set_option maxHeartbeats 8000000
namespace WK
open PySem L2 PyProof.Rows LCX K1 FV DP
open TX (sg sigs)
open PySem.W (Frag kitOne)
abbrev sIsSide : Stmt := top 60
abbrev sSideSum : Stmt := top 58
/-- rings that lead back on the way of a word -/
def RgIn (L : W) (tb : List (List Int)) (u : W) (r : Int × W × Int) : Prop := RgOk L r ∧ 0 ≤ r.1 ∧ r.1 ≤ u.length ∧ leadsB L tb (ledL L tb (u.take r.1.toNat) 0).toNat r.2.1 = true
def spIsSide (C : Addr) : Sp := fun vs H Q _ => ∃ (o p : Addr) (L u : W) (tb : List (List Int)) (es : List Int) (n : Int) (rs : List (Int × W × Int)), vs = [.ref o, .ref p] ∧ Let L ∧ MacAt C H o L tb es ∧ TabOk tb L.length n ∧ 1 ≤ n ∧ n ≤ 1000 ∧ u.length < 64 ∧ (∀ c ∈ u, c ∈ L) ∧ ledL L tb u 0 ∈ es ∧
  SideAt H p u rs ∧ rs.length ≤ 100 ∧ (∀ r ∈ rs, RgIn L tb u r) ∧ ∀ H', Same H H' → Q (.bl true) H'
def spSideSum (C : Addr) : Sp := fun vs H Q _ => ∃ (o p : Addr) (L u : W) (tb : List (List Int)) (es : List Int) (n : Int) (rs : List (Int × W × Int)), vs = [.ref o, .ref p] ∧ Let L ∧ MacAt C H o L tb es ∧ TabOk tb L.length n ∧ 1 ≤ n ∧ n ≤ 1000 ∧ u.length < 64 ∧ (∀ c ∈ u, c ∈ L) ∧ ledL L tb u 0 ∈ es ∧
  SideAt H p u rs ∧ rs.length ≤ 100 ∧ (∀ r ∈ rs, RgIn L tb u r) ∧ ∀ (t : Addr) (H' : Hp), H t = none → Same H H' → H' t = some (oTup (sumN L u rs)) → Q (.ref t) H'
section
variable {P : Program} {w : World} {K : PySem.W.Frag} {mg : Str → Option Value} {base : Heap} {C cD cM pL gL gH fN fP fT fS fIS : Addr} {dL dN dP dT dS dIS : FuncData}
theorem scIs : FnScope ["machine", "value", "part"] ["machine", "value"] (defScope sIsSide) := ⟨rfl, rfl, rfl, by decide +kernel, rfl, by decide +kernel, by decide +kernel⟩
theorem scSs : FnScope ["machine", "side"] ["machine", "side"] (defScope sSideSum) := ⟨rfl, rfl, rfl, by decide +kernel, rfl, by decide +kernel, by decide +kernel⟩
theorem ok_isside {f : Addr} {fd : FuncData} (F : Fun K "_is_side" "_is_side" sIsSide f fd) (T : TN mg) (AP : Fn K mg "is_pair" sIsPair ["value"] fP dP) (GP : FnOk P w K mg base CX0 1 fP dP ["value"] (spIsPair K))
    (hN : PySem.W.findIn K (.ref C) "__contains__" = some (some (.ref gH))) (iN : PySem.W.isFn K (.ref gH) = true) (GH : FnR P w K mg base CX0 2 gH (spMHas C)) (AT : Fn K mg "_is_turn" sIsTurn ["machine", "word", "value"] fT dT) (GT : FnOk P w K mg base CX0 4 fT dT ["machine", "word", "value"] (spIsTurn C)) :
    FnOk P w K mg base CX0 5 f fd ["machine", "value"] (spIsSide C) := by
  refine F.ok scIs (fun vs H Q E h => ?_) (fun cdv A outer s H vs Q E hr h => ?_)
  · obtain ⟨o, p, _, _, _, _, _, _, rfl, _⟩ := h
    rfl
  · obtain ⟨o, p, L, u, tb, es, n, rs, rfl, hL, mac, ok, n1, n2, hu, hc, he, sd, hr100, hrs, q⟩ := h
    have hr1 : Room 1 _ := hr.mono (by decide)
    have hr2 : Room 2 _ := hr.mono (by decide)
    refine ⟨_, pss_cons (ps_if (PW.pt (pw_or (pt_not (pt_val (pe_call (E := E0) GP hr1 rfl AP.g AP.F.kp AP.b .nil pass0 (pa_cons (pv 1) pa_nil))))
        (pw_or (pt_cmpR (OWN.op_notinO hN iN GH hr2) (pe_ix ix_tup (pv 1) pe_int (fun _ _ => rfl)) (pv 0) (by rfl)) (pw_or1 (pt_not (pt_val (pe_callB call_isi (by rfl) T.isi (by decide +kernel) (pa_cons (pe_ix ix_tup (pv 1) pe_int (fun _ _ => rfl)) (pa_cons (pe_ty "tuple" T.tuple (by decide +kernel)) pa_nil))))))))) (pss_one (ps_ret pe_bl)) pss_nil)
      (pss_one (ps_ret (pe_callB (cr_all rfl) (by rfl) T.all (by decide +kernel) (pa_cons (pe_lc (own := [("part", 2)]) (g := gName 2) (tt := tYes) (te := tCall (spIsTurn C) [] E0 (tCons (tVar 0) (tCons (tOp (rIxT K) (tVar 1) (tC (.int 0))) (tCons (tVar 2) tNil)))) rfl scIs.nd (pi_tup (pe_ix ix_tup (pv 1) pe_int (fun _ _ => rfl)))
        (blkOk_by (own := [("part", 2)]) (N := ["machine", "value", "part"]) (sc := defScope sIsSide) (by decide +kernel)) (fun _ _ _ _ _ => pg_name (i := 2) scIs.nd rfl (Or.inl rfl)) (fun _ _ _ _ _ => pts_nil)
        (fun _ _ _ _ _ => pe_call (E := E0) GT hr rfl AT.g AT.F.kp AT.b .nil pass0 (pa_cons (pv 0) (pa_cons (pe_ix ix_tup (pv 1) pe_int (fun _ _ => rfl)) (pa_cons (pv 2) pa_nil))))) pa_nil)))), ?_⟩
    obtain ⟨pq, as, h1, h2, h3⟩ := id sd
    obtain ⟨dx, t, e, ts, hm, _⟩ := id mac.ex
    have hT : SqT K H p [.str (tx u), .ref pq] := SqT.of h1
    have hT2 : SqT K H pq (as.map V.ref) := SqT.of h2
    refine ⟨_, rfl, p, _, _, rfl, hT, _, rfl, ite2 (fun z => by cases z) (fun _ => ?_)⟩
    refine ⟨_, rfl, p, _, _, _, rfl, rfl, hT, rfl, _, rfl, o, dx, _, rfl, hm, o, L, u, tb, es, n, rfl, hL, mac, ok, n1, n2, fun c z => hL.low c (hc c z), hu, hc, fun H1 s1 => ⟨_, rfl, _, rfl, ?_⟩⟩
    rw [decide_eq_true he]
    refine ite2 (fun z => by cases z) (fun _ => ?_)
    refine ⟨_, rfl, p, _, _, _, rfl, rfl, SqT.of (s1 _ _ h1), rfl, _, _, _, _, true, rfl, .ty "tuple", tyT (SqT.of (s1 _ _ h2)), kit_ty (by decide +kernel), true, rfl, ite2 (fun z => by cases z) (fun _ => ?_)⟩
    have h3 := h3.same s1
    have mac := mac.same s1
    have h1 := s1 _ _ h1
    have h2 := s1 _ _ h2
    refine ⟨_, rfl, p, _, _, _, rfl, rfl, SqT.of h1, rfl, pq, rfl, ⟨_, SqT.of h2⟩, fun D hD => ?_⟩
    refine lc_it walk_tup (fun j H3 => Same H1 H3 ∧ H3 D = some (.lst ((List.replicate j true).map V.bl))) ⟨same_upd hD, upd_same⟩ (fun _ _ _ h => SqT.of (h.1 _ _ h2)) ?_ ?_
    · rintro j x H3 H4 hj ⟨s3, hd⟩ ⟨rfl, hx⟩
      rw [List.length_map] at hj
      rw [List.getElem?_map] at hx
      obtain ⟨a, ha, rfl⟩ := Option.map_eq_some_iff.mp hx
      have hjr : j < rs.length := by rw [← h3.1]; exact hj
      obtain ⟨a', ha', hA⟩ := h3.2 j rs[j] (List.getElem?_eq_getElem hjr)
      obtain rfl : a = a' := Option.some.inj (ha.symm.trans ha')
      obtain ⟨⟨b1, b2, b3, b4⟩, c1, c2, c3⟩ := hrs rs[j] (List.getElem_mem hjr)
      refine ⟨rfl, _, rfl, _, rfl, p, _, _, _, rfl, rfl, SqT.of (s3 _ _ h1), rfl, _, rfl, o, a, L, u, tb, es, n, rs[j], rfl, hL, mac.same s3, ok, n1, n2, hu, hc, s3 _ _ hA, c1, c2, fun c z => hL.low c (b2 c z), b1, fun H5 s5 => ?_⟩
      rw [c3]
      refine ⟨_, s5 _ _ hd, by rw [List.length_map, List.length_replicate, sizeLine_eq]; omega, same_at (s3.trans s5) hD, ?_⟩
      rw [upd_same, List.replicate_succ', List.map_append] <;> rfl
    · rintro H3 ⟨s3, hd⟩
      refine ⟨D, _, rfl, SqL.of hd, ?_⟩
      rw [show ((List.replicate (List.map V.ref as).length true).all id) = true from List.all_eq_true.mpr fun b hb => by rw [List.eq_of_mem_replicate hb] <;> rfl]
      exact q _ (s1.trans s3)
theorem ok_sidesum {f : Addr} {fd : FuncData} (F : Fun K "side_sum" "side_sum" sSideSum f fd) (M : TMc K mg C cD cM) (AN : Fn K mg "need_machines" sNeedMs ["machines"] fN dN) (GN : FnOk P w K mg base CX0 1 fN dN ["machines"] (spNeedM1 K C))
    (AS : Fn K mg "_is_side" sIsSide ["machine", "value"] fIS dIS) (GS : FnOk P w K mg base CX0 5 fIS dIS ["machine", "value"] (spIsSide C)) (AU : Fn K mg "_sum_of" sSumOf ["letters", "side"] fS dS) (GU : FnOk P w K mg base CX0 6 fS dS ["letters", "side"] spSumOf)
    (RL : PropOf K C "letters" pL gL) (GLe : FnOk P w K mg base CX0 1 gL dL ["self"] (getSp C "_letters")) (bL : Binds K dL ["self"] []) :
    FnOk P w K mg base CX0 7 f fd ["machine", "side"] (spSideSum C) := by
  refine F.ok scSs (fun vs H Q E h => ?_) (fun cdv A outer s H vs Q E hr h => ?_)
  · obtain ⟨o, p, _, _, _, _, _, _, rfl, _⟩ := h
    rfl
  · obtain ⟨o, p, L, u, tb, es, n, rs, rfl, hL, mac, ok, n1, n2, hu, hc, he, sd, hr100, hrs, q⟩ := h
    have hr1 : Room 1 _ := hr.mono (by decide)
    have hr2 : Room 2 _ := hr.mono (by decide)
    have hr5 : Room 5 _ := hr.mono (by decide)
    refine ⟨_, pss_cons (ps_expr (pe_call (E := E0) GN hr1 rfl AN.g AN.F.kp AN.b .nil pass0 (pa_cons (pe_tup (pa_cons (pv 0) pa_nil)) pa_nil)))
      (pss_cons (ps_if (pt_not (pt_val (pe_call (E := E0) GS hr5 rfl AS.g AS.F.kp AS.b .nil pass0 (pa_cons (pv 0) (pa_cons (pv 1) pa_nil))))) (pss_one ps_never) pss_nil)
      (pss_one (ps_ret (pe_call (E := E0) GU hr rfl AU.g AU.F.kp AU.b .nil pass0 (pa_cons (pe_prop (E := E0) (pv 0) M.cl RL GLe hr2 bL .nil pass0 rfl) (pa_cons (pv 1) pa_nil)))))), ?_⟩
    obtain ⟨dx, t, e, ts, hm, _⟩ := id mac.ex
    refine ⟨_, rfl, (by show 1 ≤ sizeLine; decide), fun p1 hp1 => ⟨p1, o, rfl, SqT.of upd_same, ⟨dx, _, same_upd hp1 _ _ hm⟩, ?_⟩⟩
    have s1 := same_upd (o := .tup [.ref o]) hp1
    refine ⟨_, rfl, _, rfl, o, p, L, u, tb, es, n, rs, rfl, hL, mac.same s1, ok, n1, n2, hu, hc, he, sd.same s1, hr100, hrs, fun H2 s2 => ⟨_, rfl, ite2 (fun z => by cases z) (fun _ => ?_)⟩⟩
    have s12 := s1.trans s2
    have hm2 := s12 _ _ hm
    refine ⟨_, rfl, o, dx, _, rfl, hm2, o, dx, _, _, rfl, hm2, rfl, _, rfl, p, L, u, rs, rfl, sd.same s12, hL, hu, hc, fun r hr => (hrs r hr).1, fun t H' nt s' ht => ?_⟩
    exact q t H' (s12.free nt) (s12.trans s') ht
end
end WK
set_option Elab.async false
set_option linter.all false
set_option maxRecDepth 100000
set_option maxHeartbeats 8000000
namespace WK
open PySem L2 PyProof.Rows LCX K1 FV DP
open TX (sg sigs)
open PySem.W (Frag kitOne)
open RX
theorem WksAt.sm {st : Int} {H H' : Hp} (s : Same H H') : ∀ {as : List Addr} {xs : List Wlk}, WksAt st H as xs → WksAt st H' as xs
  | [], [], _ => trivial
  | _ :: _, _ :: _, ⟨⟨q, h1, h2⟩, h⟩ => ⟨⟨q, s _ _ h1, s _ _ h2⟩, h.sm s⟩
/-- where a walk is, is the last of its states -/
theorem ll_last {L : W} {tb : List (List Int)} {st : Int} : ∀ (k : Nat) (a : Wlk), a ∈ LL L tb st k → ∃ pre, st :: a.vis = pre ++ [a.now]
  | 0, a, h => by
    rw [List.mem_singleton.mp h]
    exact ⟨[], rfl⟩
  | k + 1, a, h => by
    obtain ⟨b, hb, h⟩ := List.mem_flatMap.mp h
    obtain ⟨i, hi, e⟩ := List.mem_filterMap.mp h
    split at e
    · rw [← Option.some.inj e]
      exact ⟨st :: b.vis, rfl⟩
    · cases e
/-- a walk as data -/
def dWk (st : Int) (x : Wlk) : PyData := .tuple [.str (tx x.w), .list ((st :: x.vis).map PyData.int)]
theorem dp_ints {K : Frag} {H : Hp} : ∀ l : List Int, DpAll K H (l.map V.int) (l.map PyData.int)
  | [] => .nil
  | a :: l => .cons (.int a) (dp_ints l)
theorem dp_wks {K : Frag} {st : Int} {H : Hp} : ∀ {as : List Addr} {xs : List Wlk}, WksAt st H as xs → DpAll K H (as.map V.ref) (xs.map (dWk st))
  | [], [], _ => .nil
  | _ :: _, _ :: _, ⟨⟨q, h1, h2⟩, h⟩ => .cons (.tup (SqT.of h1) (.cons (.str _) (.cons (.lst (SqL.of h2) (dp_ints _)) .nil))) (dp_wks h)
theorem lay_ints : ∀ l : List Int, PyData.canLayAll0 (l.map PyData.int) = true
  | [] => rfl
  | a :: l => by
    show (PyData.canLay0 (.int a) && PyData.canLayAll0 (l.map PyData.int)) = true
    rw [lay_ints l] <;> rfl
theorem deep_ints : ∀ l : List Int, PyData.depthAll (l.map PyData.int) = 0
  | [] => rfl
  | a :: l => by
    show max (PyData.depth (.int a)) (PyData.depthAll (l.map PyData.int)) = 0
    rw [deep_ints l] <;> rfl
theorem shaped_wks {st : Int} {xs : List Wlk} (h : ∀ x ∈ xs, Low x.w) : SeqAt.shaped (.list (xs.map (dWk st))) = true := by
  have lay : ∀ xs : List Wlk, (∀ x ∈ xs, Low x.w) → PyData.canLayAll0 (xs.map (dWk st)) = true := by
    intro xs
    induction xs with
    | nil => exact fun _ => rfl
    | cons x xs ih =>
      intro h
      show ((PyData.canLay0 (.str (tx x.w)) && (PyData.canLayAll0 ((st :: x.vis).map PyData.int) && true)) && PyData.canLayAll0 (xs.map (dWk st))) = true
      rw [low_lay (h x (.head _)), lay_ints, ih fun y hy => h y (.tail _ hy)] <;> rfl
  have deep : ∀ xs : List Wlk, PyData.depthAll (xs.map (dWk st)) ≤ 2 := by
    intro xs
    induction xs with
    | nil => exact Nat.zero_le _
    | cons x xs ih =>
      show max (max 0 (max (PyData.depthAll ((st :: x.vis).map PyData.int) + 1) 0) + 1) (PyData.depthAll (xs.map (dWk st))) ≤ 2
      rw [deep_ints]
      omega
  have := deep xs
  unfold SeqAt.shaped
  show (PyData.canLayAll0 _ && decide (PyData.depthAll _ + 1 ≤ 64)) = true
  rw [lay xs h, decide_eq_true (by omega)] <;> rfl
theorem eqv_wks (st : Int) (xs : List Wlk) : PyData.eqv (.list (xs.map (dWk st))) (.list []) = xs.isEmpty := by
  cases xs <;> rfl
abbrev tWhS (K : Frag) : TS := tWhile (tTest (tOp (rNeD K) (tVar 3) (tLst tNil))) (tSeq (tAsg (tLst tNil) (gName 4)) (tSeq (tOuterS K) (tAsg (tVar 4) (gName 3))))
section
variable {K : Frag} {H0 : Hp} {F : Addr} {H : Hp}
theorem whileS_ok {L : W} {tb : List (List Int)} {n : Int} {s : Nat} {mm Y lt le : Addr} {ts as : List Addr} {x5 x6 x7 x8 x9 : Option V} {Dn : Ends}
    (sm : Same H0 H) (hF : H F = some (.dT [])) (hY : H Y = some (.lst (as.map V.ref))) (hw : WksAt ((s : Nat) : Int) H as (LL L tb ((s : Nat) : Int) 0)) (nF : H0 F = none) (hm : H0 mm = some (.dK (pkv L lt le))) (hlt : H0 lt = some (.lst (ts.map V.ref))) (hobj : Objs oTup H0 ts tb) (ok : TabOk tb L.length n)
    (hL : Let L) (few : tb.length ≤ 5) (hs : s < tb.length)
    (q : ∀ x4 x5 x6 x7 x8 x9 H', Same H0 H' → H' F = some (.dT (kvR (ringsN L tb s))) →
      Dn.nx [some (.ref mm), some (.int ((s : Nat) : Int)), some (.ref F), x4, x5, x6, x7, x8, x9] H') :
    tWhS K Dn [some (.ref mm), some (.int ((s : Nat) : Int)), some (.ref F), some (.ref Y), x5, x6, x7, x8, x9] H := by
  refine ⟨fun m σ H' => ∃ k Y as x5 x6 x7 x8 x9, m = tb.length - k ∧ k ≤ tb.length ∧ σ = [some (.ref mm), some (.int ((s : Nat) : Int)), some (.ref F), some (.ref Y), x5, x6, x7, x8, x9] ∧
    Same H0 H' ∧ H' Y = some (.lst (as.map V.ref)) ∧ WksAt ((s : Nat) : Int) H' as (LL L tb ((s : Nat) : Int) k) ∧ H' F = some (.dT (kvR (LF L tb ((s : Nat) : Int) k))), ⟨_, 0, Y, as, _, _, _, _, _, rfl, Nat.zero_le _, rfl, sm, hY, hw, hF⟩, ?_⟩
  rintro m σ H3 ⟨k, Y, as, x5, x6, x7, x8, x9, rfl, hk5, rfl, sm, hY, hw, hF⟩
  have low : ∀ x ∈ LL L tb ((s : Nat) : Int) k, Low x.w := fun x hx => fun c hc => hL.low c ((ok_all ok hs k x hx).ov c hc)
  refine ⟨_, rfl, (by show 0 ≤ sizeLine; decide), fun e he => ⟨.list ((LL L tb ((s : Nat) : Int) k).map (dWk ((s : Nat) : Int))), .list [], .lst (SqL.of (same_upd he _ _ hY)) (dp_wks (hw.sm (same_upd he))), .lst (SqL.of upd_same) .nil, shaped_wks low, by decide, _, rfl, ?_⟩⟩
  rw [eqv_wks]
  have s1 := same_upd (o := .lst []) he
  have sm1 := sm.trans s1
  have hY1 := s1 _ _ hY
  have hw1 := hw.sm s1
  have hF1 := s1 _ _ hF
  generalize upd H3 e (.lst []) = H4 at s1 sm1 hY1 hw1 hF1 ⊢
  refine ite2 (fun ne => ?_) (fun ne => ?_)
  · have hne : LL L tb ((s : Nat) : Int) k ≠ [] := fun z => by rw [z] at ne; cases ne
    have hlt2 : k < tb.length := by
      rcases Nat.lt_or_ge k tb.length with h | h
      · exact h
      · exact absurd (by rw [show k = tb.length by omega]; exact ll_end ok hs) hne
    refine ⟨_, fun σ' H' h => h, ?_⟩
    refine ⟨(by show 0 ≤ sizeLine; decide), fun Z nZ => ?_⟩
    have s2 := same_upd (o := .lst []) nZ
    have p3 := pow3 (show k ≤ 5 by omega)
    have p4 := Nat.pow_le_pow_right (n := 3) (by decide) (show k + 1 ≤ 6 by omega)
    refine outerS_ok (sm1.trans s2) (s2 _ _ hF1) (s2 _ _ hY1) (hw1.sm s2) upd_same nF (sm1.free nZ) hm hlt hobj ok hL.few (fun x hx => ?_) (Nat.le_trans (ll_len hL.few k) p3) (Nat.le_trans (lf_len hL.few k) (Nat.le_trans p4 (by decide))) ?_
    · have o := ok_all ok hs k x hx
      exact ⟨by rw [o.len]; omega, by rw [o.vl]; omega, o.rng.1, o.rng.2, ll_last k x hx⟩
    · intro y6 y7 y8 y9 H' bs sm' hF' hZ' hb'
      exact ⟨_, rfl, tb.length - (k + 1), by omega, k + 1, Z, bs, _, _, _, _, _, rfl, hlt2, rfl, sm', hZ', hb', hF'⟩
  · have h0 : LL L tb ((s : Nat) : Int) k = [] := by
      cases e0 : LL L tb ((s : Nat) : Int) k with
      | nil => rfl
      | cons a l => rw [e0] at ne; exact absurd rfl ne
    rw [rings_law hk5 h0] at hF1
    exact q _ _ _ _ _ _ _ sm1 hF1
end
end WK
set_option Elab.async false
set_option linter.all false
set_option maxRecDepth 100000
set_option maxHeartbeats 8000000
namespace WK
open PySem L2 PyProof.Rows LCX K1 FV DP
open PySem.W (Frag kitOne KeyPure)
abbrev sKey : Stmt := top 80
theorem scKey : FnScope ["_law_word_here"] ["_law_word_here"] (defScope sKey) := ⟨rfl, rfl, rfl, by decide +kernel, rfl, by decide +kernel, by decide +kernel⟩
section
variable {P : Program} {w : World} {K : PySem.W.Frag} {mg : Str → Option Value}
abbrev keyD (z : Str) : PyData := .tuple [.int z.length, .str z]
theorem key_pure {f : Addr} {fd : FuncData} (F : Fun K "_law_key" "_law_key" sKey f fd) {A : Around} {s : Shared} {z : Str} {t : Tok} (hr : Room 1 A) (M : Mod K mg s.heap) (mL : mg "len" = none) (hz : z.length ≤ sizeLine) :
    wpAny (model P w) A (call (.ref f) [.str z t]) (KeyPure (keyD z) s) (fun _ _ => False) s := by
  have bi : Binds K fd ["_law_word_here"] [] := F.binds fun _ _ _ _ _ _ us hl => match us, hl with | [_], _ => rfl
  obtain ⟨oc, od, kV, doc, pm, an, cdv, ct, osl, rfl, lk, hcd⟩ := F.ex
  have bs := bi s [.str z t] M.kin rfl
  refine PySem.wpAny_call (codeAny_call_function hr.depth (M.kin _ _ lk) rfl scKey.co scKey.gen rfl (PySem.W.codeRec_of M.kin hcd) (bs _ _ _ _ ?_))
  refine wpAny_newFunctionEnv_cells scKey.kind (fun ⟨n, v⟩ hy => ?_) fun env he s1 x => ?_
  · obtain rfl : n = "_law_word_here" := by
      have := List.mem_singleton.mp hy
      injection this
    exact .inl rfl
  subst he
  refine ⟨M.nolimit.keeps x.toInCall.keep, codeAny_func ?_⟩
  obtain ⟨h1, tk, rfl, kept⟩ := x.done
  have hk := kept
  have M1 : Mod K mg h1 := ⟨M.kin.keeps hk, M.glob.keeps hk, M.blt.elim fun mb q => ⟨mb, q.1.keeps hk, q.2⟩, M.nolimit.keeps hk⟩
  obtain ⟨mb, b1, b2⟩ := M1.blt
  have nm : ∀ (Q : Value → Shared → Prop) (tk : Nat) (E : Value → Shared → Prop) (pos : Pos) (A : Around), Q (.str z t) { s with heap := h1, toks := tk } →
      wpAny (model P w) A (eval (.Name "_law_word_here" pos) (envOfC "_law_key" (defScope sKey) s.heap.objs.size f cdv)) Q E { s with heap := h1, toks := tk } := fun Q tk E pos A q =>
    wpAny_Name (wpAny_loadName_local scKey.kind rfl x.toInCall.ns (bindL_get (show (["_law_word_here"] : List Str).Nodup by decide) (i := 0) rfl rfl rfl) q)
  refine wpAny_execs_cons (wpAny_Return_some (wpAny_Tuple_spliced ?_))
  refine Calls.spliced_cons (wpAny_Call_Name_kw (Calls.Name_function_global scKey.kind rfl (Calls.loadGlobal_builtin M1.glob mL b1 (b2 _ (by decide)) ?_)))
  refine PyProof.Rows.callWith_builtin1 (Calls.spliced_cons (nm _ _ _ _ _ (Calls.spliced_nil ?_)))
  refine len_str (by have := line63; omega) (Calls.spliced_cons (nm _ _ _ _ _ (Calls.spliced_nil ?_)))
  refine ⟨(show 2 ≤ sizeLine by decide), ?_⟩
  refine ⟨_, _, rfl, fun b o e => Heap.get?_push_of_some _ (hk b o e), ?_⟩
  exact .tuple (Heap.get?_push_size _ rfl) rfl rfl (.cons (.int _ _) (.cons (.str _ _) .nil))
/-- in order: by length, then by letters -/
def ordW (u v : W) : Prop := u.length < v.length ∨ (u.length = v.length ∧ (u < v ∨ u = v))
theorem key_le {u v : W} (h : ordW u v) : PySem.W.dataLe false (fun u : W => keyD (tx u)) u v = true := by
  rw [PySem.W.dataLe_eq]
  show (!PySem.W.dataLt (keyD (tx v)) (keyD (tx u))) = true
  rw [PySem.W.dataLt_pair (by simp [PySem.W.alike]) (by simp [PySem.W.alike]), PySem.W.dataLt_int, PySem.W.dataLt_str, tx_len, tx_len, tx_list, tx_list]
  rcases h with h | ⟨h1, h2⟩
  · rw [if_neg (by simp only [PyData.eqv, beq_iff_eq]; omega)]
    simp
    omega
  · rw [if_pos (by simp only [PyData.eqv, beq_iff_eq]; omega)]
    split
    · rfl
    · rename_i ne
      rw [Bool.not_eq_true', decide_eq_false_iff_not]
      rcases h2 with h2 | rfl
      · exact fun z => List.lt_irrefl u (List.lt_trans h2 z)
      · exact List.lt_irrefl u
variable {X : Cx}
abbrev rKeyS (f : Addr) : List V → List V → Hp → VK → Prop := fun vs zs H Q => ∃ (a : Addr) (us : List W), vs = [V.ref a] ∧ zs = [V.ref f] ∧ SqL X.K H a (us.map fun u => V.str (tx u)) ∧ us.Pairwise ordW ∧ (∀ u ∈ us, u.length ≤ 1000) ∧
  ∀ p : Addr, H p = none → Q (.ref p) (upd H p (.lst (us.map fun u => V.str (tx u))))
theorem each_str : ∀ {us : List W} {its : List Value}, Vals (us.map fun u => V.str (tx u)) its → PySem.W.EachIs (fun v (u : W) => ∃ t, v = Value.str (tx u) t) its us
  | [], _, .nil => .nil
  | u :: us, _, .cons ⟨t, e⟩ r => .cons ⟨t, e⟩ (each_str r)
theorem vals_str : ∀ {us : List W} {its : List Value}, PySem.W.EachIs (fun v (u : W) => ∃ t, v = Value.str (tx u) t) its us → Vals (us.map fun u => V.str (tx u)) its
  | [], _, .nil => .nil
  | u :: us, _, .cons ⟨t, e⟩ r => .cons ⟨t, e⟩ (vals_str r)
theorem cr_keyS {f : Addr} {fd : FuncData} (F : Fun X.K "_law_key" "_law_key" sKey f fd) (hr : Room 3 X.A) (mL : X.mg "len" = none) : CallRK X (.builtin "sorted") [Str.ofString "key"] (rKeyS (X := X) f) := by
  intro pins s σ H vs zs us ws Q I rx rz h
  obtain ⟨a, us, rfl, rfl, hs, ho, hb, q⟩ := h
  obtain rfl := Vals.ref1 rx
  obtain rfl := Vals.ref1 rz
  obtain ⟨its, rv, ls, hz⟩ := I.list hs
  have hn : us.length ≤ sizeLine := by rw [List.length_map] at hz; exact hz
  refine PySem.W.sorted_key_data (b := false) (fun u : W => keyD (tx u)) ls.isList (each_str rv) (PySem.W.AllAlike.of fun _ _ => by simp [PySem.W.alike, PySem.W.alikeAll]) (PySem.W.Sortable.tuples fun _ => ⟨_, _, rfl⟩) hn (fun u _ => ?_) (ksk_s1 _ _) (fun _ => ksk_l1 _ _) (fun _ => ksk_t1 _ _)
    (fun v u ⟨t, e⟩ hu h tk kp => ?_) fun out c h' tk kp fr hD hlen eo => ?_
  · have hd : (keyD (tx u)).depth = 1 := by simp [PyData.depth, PyData.depthAll]
    have := hr.units
    omega
  · subst e
    refine key_pure F hr.in1.in1 ⟨I.mod.kin.keeps fun b o e => kp b o (I.bk b o e), I.mod.glob.keeps fun b o e => kp b o (I.bk b o e), I.mod.blt.elim fun mb z => ⟨mb, z.1.keeps fun b o e => kp b o (I.bk b o e), z.2⟩, I.mod.nolimit.keeps fun b o e => kp b o (I.bk b o e)⟩ mL ?_
    rw [tx_len, sizeLine_eq]
    have := hb u hu
    omega
  · rw [List.mergeSort_of_pairwise (ho.imp fun h => key_le h)] at eo
    have hv := vals_str eo
    refine ⟨.ref _, upd H (s.heap.objs.size + 1) (.lst (us.map fun u => V.str (tx u))), I.laid (t' := tk) kp (Nat.le_succ _) ⟨hz, out, c, hv, hD⟩, rfl, q _ (I.hok.fresh (Nat.le_succ _))⟩
end
end WK
set_option Elab.async false
set_option linter.all false
set_option maxRecDepth 100000
set_option maxHeartbeats 8000000
namespace WK
open PySem L2 PyProof.Rows LCX K1 FV DP
open TX (sg sigs)
open PySem.W (Frag kitOne)
open RX
abbrev sSimp : Stmt := top 79
abbrev NSm : List Str := ["_law_plain", "_law_state", "_law_found", "_law_waiting", "_law_longer", "_law_word_here", "_law_states", "_law_letter", "_law_later"]
def spSimp : Sp := fun vs H Q _ => ∃ (m : Addr) (L : W) (tb : List (List Int)) (es : List Int) (n : Int) (s : Nat), vs = [.ref m, .int ((s : Nat) : Int)] ∧ PlainM H m L tb es ∧ TabOk tb L.length n ∧ Let L ∧ tb.length ≤ 5 ∧ s < tb.length ∧
  ∀ (l : Addr) (H' : Hp), H l = none → Same H H' → H' l = some (.lst ((ringsN L tb s).map fun p => V.str (tx p.2))) → Q (.ref l) H'
theorem rings_ord {L : W} {tb : List (List Int)} {s : Nat} (hL : Let L) : ((ringsN L tb s).map (·.2)).Pairwise ordW := by
  rw [List.pairwise_map]
  exact (lf_before hL.asc tb.length).1.imp fun h => h.elim .inl fun z => .inr ⟨z.1, .inl z.2⟩
theorem rings_len {L : W} {tb : List (List Int)} {s : Nat} (hL : Let L) : ∀ u ∈ (ringsN L tb s).map (·.2), u.length ≤ tb.length := fun u hu => by
  obtain ⟨p, hp, rfl⟩ := List.mem_map.mp hu
  exact (lf_before hL.asc tb.length).2 p hp
section
variable {P : Program} {w : World} {K : PySem.W.Frag} {mg : Str → Option Value} {base : Heap} {fC fK : Addr} {dC dK : FuncData}
theorem scSm : FnScope NSm ["_law_plain", "_law_state"] (defScope sSimp) := ⟨rfl, rfl, rfl, by decide +kernel, rfl, by decide +kernel, by decide +kernel⟩
theorem ok_simp {f : Addr} {fd : FuncData} (F : Fun K "_law_simple" "_law_simple" sSimp f fd) (T : TN mg) (AC : Fn K mg "_law_counts" sLCounts ["_law_letters_here", "_law_word_here"] fC dC) (AK : Fn K mg "_law_key" sKey ["_law_word_here"] fK dK) :
    FnOk P w K mg base CX0 4 f fd ["_law_plain", "_law_state"] spSimp := by
  have GC : FnOk P w K mg base CX0 3 fC dC ["_law_letters_here", "_law_word_here"] spLCounts := (ok_lcounts AC.F T).mono (by decide)
  refine F.ok scSm (fun vs H Q E h => ?_) (fun cdv A outer s H vs Q E hr h => ?_)
  · obtain ⟨m, _, _, _, _, s, rfl, _⟩ := h
    rfl
  · obtain ⟨m, L, tb, es, n, s, rfl, pm, ok, hL, n5, hs, q⟩ := h
    have hub := hu_of hr
    have hu64 := hr.units
    refine ⟨_, pss_cons (ps_par (i := 2) (j := 3) (by rfl) scSm.nd rfl rfl (by decide) rfl rfl (pa_cons pe_dnewT (pa_cons (pe_lst (pa_cons (pe_tup (pa_cons pe_str (pa_cons (pe_lst (pa_cons (pv 1) pa_nil)) pa_nil))) pa_nil)) pa_nil)) (by rfl))
      (pss_cons (ps_while PassesOwn.never (pt_cmpR (op_neD hr.units) (pv 3) (pe_lst pa_nil) (nomark _))
        (pss_cons (ps_set (i := 4) scSm.nd rfl (Or.inl rfl) (pe_lst pa_nil))
        (pss_cons (ps_for PassesOwn.never rfl (pi_list (pe_callTy call_list_of (by rfl) T.list (by decide +kernel) (pa_cons (pv 3) pa_nil))) (pg_tup (n := 2) (by rfl) (pgs_cons (pg_name (i := 5) scSm.nd rfl (Or.inl rfl)) (pgs_cons (pg_name (i := 6) scSm.nd rfl (Or.inl rfl)) pgs_nil)))
          (pss_one (ps_for PassesOwn.never rfl (ZPT.pi_zipST rfl T.zip (pa_cons (pe_dget hub (pv 0) pe_str (fun _ _ => rfl)) (pa_cons (pe_ix ix_list (pe_dget hub (pv 0) pe_str (fun _ _ => rfl)) (pe_ix ix_list (pv 6) (pe_un un_neg pe_int) (fun _ _ => rfl)) (fun _ _ => rfl)) pa_nil))) (pg_tup (n := 2) (by rfl) (pgs_cons (pg_name (i := 7) scSm.nd rfl (Or.inl rfl)) (pgs_cons (pg_name (i := 8) scSm.nd rfl (Or.inl rfl)) pgs_nil)))
            (pss_one (ps_if (pt_cmpR op_eq (pv 8) (pv 1) (nomark _))
              (pss_one (ps_expr (VT.pe_setT hu64 (pv 2) (pe_callTy call_tuple_of (by rfl) T.tuple (by decide +kernel) (pa_cons (pe_call (E := E0) GC hr rfl AC.g AC.F.kp AC.b .nil pass0 (pa_cons (pe_dget hub (pv 0) pe_str (fun _ _ => rfl)) (pa_cons (pe_op op_add_str (pv 5) (pv 7)) pa_nil))) pa_nil)) (pe_op op_add_str (pv 5) (pv 7)) ⟨by rfl, by rfl, by rfl, by rfl⟩)))
              (pss_one (ps_if (pt_cmpR op_notIn_seq (pv 8) (pv 6) (by rfl))
                (pss_one (ps_expr (pe_bm PySem.F.plainAttrs_list PySem.F.slot_list_append PySem.F.type_list_append mt_append (pv 4) (pa_cons (pe_tup (pa_cons (pe_op op_add_str (pv 5) (pv 7)) (pa_cons (pe_op op_cat (pv 6) (pe_lst (pa_cons (pv 8) pa_nil))) pa_nil))) pa_nil)))) pss_nil)))))))
        (pss_one (ps_set (i := 3) scSm.nd rfl (Or.inl rfl) (pv 4))))))
      (pss_one (ps_ret (pe_callBK (cr_keyS AK.F hr T.len) (by rfl) T.sorted (by decide +kernel) (pa_cons (pe_callTy (VT.cr_listV rfl) (by rfl) T.list (by decide +kernel) (pa_cons (VT.pe_vals (pv 2)) pa_nil)) pa_nil) (pk_cons (pe_glob (v := V.ref fK) (by rfl) AK.g rfl) pk_nil))))), ?_⟩
    obtain ⟨lt, le, hm, ⟨ts, hlt, hobj⟩, hle⟩ := pm.ex
    refine fun F nF => ?_
    have s1 := same_upd (o := .dT []) nF
    refine ⟨_, rfl, (by show 1 ≤ sizeLine; decide), fun a ha => ⟨(by show 2 ≤ sizeLine; decide), fun b hb => ⟨(by show 1 ≤ sizeLine; decide), fun Y nY => ⟨_, _, rfl, ?_⟩⟩⟩⟩
    have s2 := same_two (o := oLst [((s : Nat) : Int)]) s1 ha
    have s3 := same_two (o := .tup [V.str "", V.ref a]) s2 hb
    have s4 := same_two (o := .lst [V.ref b]) s3 nY
    have hF := (same_upd (o := oLst [((s : Nat) : Int)]) ha) _ _ (upd_same (a := F) (o := .dT []) (H := H))
    have ha3 := (same_upd (o := .tup [V.str "", V.ref a]) hb) _ _ (upd_same (a := a) (o := oLst [((s : Nat) : Int)]) (H := upd H F (.dT [])))
    have hF3 := (same_upd (o := .tup [V.str "", V.ref a]) hb) _ _ hF
    have s5 := same_upd (o := .lst [V.ref b]) nY
    refine whileS_ok (H0 := H) (as := [b]) s4 (s5 _ _ hF3) upd_same ⟨⟨a, s5 _ _ upd_same, s5 _ _ ha3⟩, trivial⟩ nF hm hlt hobj ok hL n5 hs fun y4 y5 y6 y7 y8 y9 H' sm' hF' => ?_
    refine ⟨_, rfl, F, _, rfl, .inl hF', fun v hv => ⟨v, F, _, rfl, upd_same, .inl (same_upd hv _ _ hF'), fun p hp => ?_⟩⟩
    have s6 := same_two (o := VT.ViewO v F) sm' hv
    have s7 := same_two (o := .lst ((kvR (ringsN L tb s)).map (·.2))) s6 hp
    have e7 : (kvR (ringsN L tb s)).map (·.2) = ((ringsN L tb s).map (·.2)).map fun u => V.str (tx u) := by
      unfold kvR
      rw [List.map_map, List.map_map] <;> rfl
    refine ⟨p, (ringsN L tb s).map (·.2), rfl, rfl, SqL.of (by rw [upd_same, e7]), rings_ord hL, fun u hu => Nat.le_trans (rings_len hL u hu) (by omega), fun l hl => ?_⟩
    refine q l _ (s7.free hl) (same_two s7 hl) ?_
    rw [upd_same, List.map_map] <;> rfl
end
end WK
set_option Elab.async false
set_option linter.all false
set_option maxRecDepth 100000
set_option maxHeartbeats 8000000
namespace WK
open PySem L2 PyProof.Rows LCX K1
open RX (cntI)
/-- something that adds up over words -/
structure Addn (φ : W → Nat) : Prop where
  nil : φ [] = 0
  app : ∀ a b, φ (a ++ b) = φ a + φ b
theorem Addn.rep {φ : W → Nat} (h : Addn φ) (u : W) : ∀ k, φ ((List.replicate k u).flatten) = k * φ u
  | 0 => by rw [List.replicate_zero, List.flatten_nil, h.nil, Nat.zero_mul]
  | k + 1 => by rw [List.replicate_succ, List.flatten_cons, h.app, h.rep u k, Nat.succ_mul, Nat.add_comm]
theorem addn_len : Addn List.length := ⟨rfl, fun _ _ => List.length_append⟩
theorem addn_count (c : Nat) : Addn (List.count c) := ⟨rfl, fun _ _ => List.count_append⟩
theorem take_drop1 (u : W) (k : Nat) : u.take k ++ (u.drop k).take 1 = u.take (k + 1) := List.take_add.symm
theorem gone_nil (u : W) : ∀ k, goneN u [] k = u.take k
  | 0 => rfl
  | k + 1 => by rw [goneN_succ, gone_nil u k, goneAt_nil, List.nil_append, take_drop1]
theorem gone_snoc {φ : W → Nat} (h : Addn φ) (u : W) (rs : List (Int × W × Int)) (r : Int × W × Int) : ∀ k : Nat, φ (goneN u (rs ++ [r]) k) = φ (goneN u rs k) + if 0 ≤ r.1 ∧ r.1 < (k : Nat) then r.2.2.toNat * φ r.2.1 else 0
  | 0 => by
    rw [goneN_zero, goneN_zero, if_neg (by omega)] <;> rfl
  | k + 1 => by
    rw [goneN_succ, goneN_succ, h.app, h.app, h.app, h.app, gone_snoc h u rs r k, goneAt_snoc, h.app]
    by_cases e : r.1 = ((k : Nat) : Int)
    · rw [if_pos e, if_neg (by omega), if_pos (by omega), h.rep]
      omega
    · rw [if_neg e, h.nil]
      by_cases e2 : 0 ≤ r.1 ∧ r.1 < (k : Nat)
      · rw [if_pos e2, if_pos (by omega)]
        omega
      · rw [if_neg e2, if_neg (by omega)]
        omega
/-- what a whole adds up to -/
theorem gone_add {φ : W → Nat} (h : Addn φ) (u : W) (rs : List (Int × W × Int)) : (∀ r ∈ rs, 0 ≤ r.1 ∧ r.1 ≤ u.length) → φ (goneN u rs (u.length + 1)) = φ u + (rs.map fun r => r.2.2.toNat * φ r.2.1).sum := by
  refine RX.rev_ind (P := fun rs : List (Int × W × Int) => (∀ r ∈ rs, 0 ≤ r.1 ∧ r.1 ≤ u.length) → φ (goneN u rs (u.length + 1)) = φ u + (rs.map fun r => r.2.2.toNat * φ r.2.1).sum) (fun _ => ?_) (fun rs r ih hr => ?_) rs
  · rw [gone_nil, List.take_of_length_le (by omega)] <;> rfl
  · have := hr r (List.mem_append_right _ (.head _))
    rw [gone_snoc h, if_pos (by omega), ih fun r' hr' => hr r' (List.mem_append_left _ hr'), List.map_append, List.sum_append, List.map_singleton, List.sum_singleton]
    omega
theorem plus_map {L : W} (f : Nat → Int) (v : W) (k : Int) : plusT k (L.map f) (cntI L v) = L.map fun c => f c + k * ((v.count c : Nat) : Int) := by
  unfold plusT cntI
  induction L with
  | nil => rfl
  | cons c L ih => rw [List.map_cons, List.map_cons, List.map_cons, List.zipWith_cons_cons, ih]
theorem sum_map {L : W} (u : W) (rs : List (Int × W × Int)) : (∀ r ∈ rs, 0 ≤ r.2.2) → sumN L u rs = L.map fun c => (((u.count c + (rs.map fun r => r.2.2.toNat * r.2.1.count c).sum : Nat) : Nat) : Int) := by
  refine RX.rev_ind (P := fun rs : List (Int × W × Int) => (∀ r ∈ rs, 0 ≤ r.2.2) → sumN L u rs = L.map fun c => (((u.count c + (rs.map fun r => r.2.2.toNat * r.2.1.count c).sum : Nat) : Nat) : Int)) (fun _ => ?_) (fun rs r ih hr => ?_) rs
  · rfl
  · have h0 := hr r (List.mem_append_right _ (.head _))
    have e : sumN L u (rs ++ [r]) = plusT r.2.2 (sumN L u rs) (cntI L r.2.1) := by
      unfold sumN
      rw [List.foldl_append] <;> rfl
    rw [e, ih fun r' hr' => hr r' (List.mem_append_left _ hr'), plus_map]
    refine List.map_congr_left fun c _ => ?_
    rw [List.map_append, List.sum_append, List.map_singleton, List.sum_singleton]
    have : r.2.2 = ((r.2.2.toNat : Nat) : Int) := by omega
    generalize r.2.2.toNat = k at *
    rw [this]
    push_cast
    omega
/-- counts of the whole are the sum -/
theorem sum_gone {L u : W} {rs : List (Int × W × Int)} (h : ∀ r ∈ rs, 0 ≤ r.1 ∧ r.1 ≤ u.length ∧ 0 ≤ r.2.2) : sumN L u rs = cntI L (goneN u rs (u.length + 1)) := by
  rw [sum_map u rs fun r hr => (h r hr).2.2]
  unfold cntI
  refine List.map_congr_left fun c _ => ?_
  rw [gone_add (addn_count c) u rs fun r hr => ⟨(h r hr).1, (h r hr).2.1⟩]
theorem gone_short {u : W} {rs : List (Int × W × Int)} {a b : Nat} (h : ∀ r ∈ rs, 0 ≤ r.1 ∧ r.1 ≤ u.length ∧ 0 ≤ r.2.2 ∧ r.2.2.toNat ≤ a ∧ r.2.1.length ≤ b) : (goneN u rs (u.length + 1)).length ≤ u.length + rs.length * (a * b) := by
  rw [gone_add addn_len u rs fun r hr => ⟨(h r hr).1, (h r hr).2.1⟩]
  have : ∀ rs : List (Int × W × Int), (∀ r ∈ rs, r.2.2.toNat ≤ a ∧ r.2.1.length ≤ b) → (rs.map fun r => r.2.2.toNat * r.2.1.length).sum ≤ rs.length * (a * b) := by
    intro rs
    induction rs with
    | nil => exact fun _ => Nat.zero_le _
    | cons r rs ih =>
      intro h
      have := ih fun r' hr' => h r' (.tail _ hr')
      have := Nat.mul_le_mul (h r (.head _)).1 (h r (.head _)).2
      rw [List.map_cons, List.sum_cons, List.length_cons, Nat.succ_mul]
      omega
  have := this rs fun r hr => (h r hr).2.2.2
  omega
theorem led_app (L : W) (tb : List (List Int)) (u v : W) (s : Int) : ledL L tb (u ++ v) s = ledL L tb v (ledL L tb u s) := by
  unfold ledL
  rw [List.foldl_append]
theorem led_rep {L : W} {tb : List (List Int)} {u : W} {s : Int} (h : ledL L tb u s = s) : ∀ k, ledL L tb ((List.replicate k u).flatten) s = s
  | 0 => rfl
  | k + 1 => by rw [List.replicate_succ, List.flatten_cons, led_app, h, led_rep h k]
theorem led_at {L : W} {tb : List (List Int)} {k s : Int} : ∀ rs : List (Int × W × Int), (∀ r ∈ rs, r.1 = k → ledL L tb r.2.1 s = s) → ledL L tb (goneAt rs k) s = s
  | [], _ => rfl
  | r :: rs, h => by
    have e : goneAt (r :: rs) k = (if r.1 = k then (List.replicate r.2.2.toNat r.2.1).flatten else []) ++ goneAt rs k := rfl
    rw [e, led_app]
    have : ledL L tb (if r.1 = k then (List.replicate r.2.2.toNat r.2.1).flatten else []) s = s := by
      split
      · exact led_rep (h r (.head _) (by assumption)) _
      · rfl
    rw [this, led_at rs fun r' hr' => h r' (.tail _ hr')]
theorem led_gone {L u : W} {tb : List (List Int)} {rs : List (Int × W × Int)} (h : ∀ r ∈ rs, ledL L tb r.2.1 (ledL L tb (u.take r.1.toNat) 0) = ledL L tb (u.take r.1.toNat) 0) : ∀ k, ledL L tb (goneN u rs k) 0 = ledL L tb (u.take k) 0
  | 0 => rfl
  | k + 1 => by
    rw [goneN_succ, led_app, led_gone h k, led_app, led_at rs fun r hr e => ?_, ← led_app, take_drop1]
    have := h r hr
    rw [e, Int.toNat_natCast] at this
    exact this
end WK
set_option Elab.async false
set_option linter.all false
set_option maxRecDepth 100000
set_option maxHeartbeats 8000000
namespace WK
open PySem L2 PyProof.Rows K1 RX
variable {L : W} {tb : List (List Int)} {n : Int} {s : Nat}
theorem step_at (hL : Let L) (x : Int) {i : Nat} (hi : i < L.length) : stepL L tb x (L.getD i 0) = rowF tb x i := by
  have nd : L.Nodup := hL.asc.imp fun h => Nat.ne_of_lt h
  unfold stepL rowF
  rw [List.getD_eq_getElem?_getD (l := L), List.getElem?_eq_getElem hi, Option.getD_some, nd.idxOf_getElem i hi]
theorem fold_sub2 {α β : Type} [DecidableEq α] {p : α × β} : ∀ (l d : List (α × β)), p ∈ l.foldl addNew d → p ∈ d ∨ p ∈ l
  | [], _, h => .inl h
  | a :: l, d, h => by
    rcases fold_sub2 l (addNew d a) h with z | z
    · unfold addNew at z
      split at z
      · exact .inl z
      · exact (List.mem_append.mp z).elim .inl fun z => .inr (List.mem_singleton.mp z ▸ .head _)
    · exact .inr (.tail _ z)
theorem ll_led (hL : Let L) : ∀ (k : Nat) (a : Wlk), a ∈ LL L tb ((s : Nat) : Int) k → ledL L tb a.w ((s : Nat) : Int) = a.now
  | 0, a, h => by rw [List.mem_singleton.mp h] <;> rfl
  | k + 1, a, h => by
    obtain ⟨b, hb, h⟩ := List.mem_flatMap.mp h
    obtain ⟨i, hi, e⟩ := List.mem_filterMap.mp h
    split at e
    · rw [← Option.some.inj e]
      show ledL L tb (b.w ++ [L.getD i 0]) _ = _
      rw [ledL_snoc, ll_led hL k b hb, step_at hL _ (List.mem_range.mp hi)]
    · cases e
theorem lf_back (ok : TabOk tb L.length n) (hL : Let L) (hs : s < tb.length) : ∀ k, ∀ p ∈ LF L tb ((s : Nat) : Int) k, p.2 ≠ [] ∧ (∀ c ∈ p.2, c ∈ L) ∧ ledL L tb p.2 ((s : Nat) : Int) = ((s : Nat) : Int)
  | 0, p, h => absurd h List.not_mem_nil
  | k + 1, p, h => by
    rcases fold_sub2 _ _ h with z | z
    · exact lf_back ok hL hs k p z
    · obtain ⟨a, ha, z⟩ := List.mem_flatMap.mp z
      have o := ok_all ok hs k a ha
      obtain ⟨i, hi, e⟩ := List.mem_filterMap.mp z
      have hi := List.mem_range.mp hi
      split at e
      · rename_i hr
        rw [← Option.some.inj e]
        refine ⟨fun z => ?_, fun c hc => ?_, ?_⟩
        · have := congrArg List.length z
          rw [List.length_append] at this
          exact absurd this (Nat.succ_ne_zero _)
        · rcases List.mem_append.mp hc with y | y
          · exact o.ov c y
          · rw [List.mem_singleton.mp y, List.getD_eq_getElem?_getD, List.getElem?_eq_getElem hi]
            exact List.getElem_mem hi
        · show ledL L tb (a.w ++ [L.getD i 0]) _ = _
          rw [ledL_snoc, ll_led hL k a ha, step_at hL _ hi]
          exact hr
      · cases e
theorem leads_true {r : W} (h1 : r ≠ []) (h2 : ∀ c ∈ r, c ∈ L) (h3 : ledL L tb r ((s : Nat) : Int) = ((s : Nat) : Int)) : leadsB L tb s r = true := by
  unfold leadsB overB
  rw [decide_eq_false h1, decide_eq_true h2, decide_eq_true h3] <;> rfl
theorem leads_iff {r : W} : leadsB L tb s r = true ↔ r ≠ [] ∧ (∀ c ∈ r, c ∈ L) ∧ ledL L tb r ((s : Nat) : Int) = ((s : Nat) : Int) := by
  constructor
  · intro h
    unfold leadsB overB at h
    simp only [Bool.and_eq_true, Bool.not_eq_true', decide_eq_false_iff_not, decide_eq_true_eq] at h
    exact ⟨h.1.1, h.1.2, h.2⟩
  · exact fun h => leads_true h.1 h.2.1 h.2.2
theorem rings_leads (ok : TabOk tb L.length n) (hL : Let L) (hs : s < tb.length) : ∀ u ∈ (ringsN L tb s).map (·.2), leadsB L tb s u = true ∧ (∀ c ∈ u, c ∈ L) ∧ u.length ≤ tb.length := fun u hu => by
  obtain ⟨p, hp, rfl⟩ := List.mem_map.mp hu
  obtain ⟨a, b, c⟩ := lf_back ok hL hs tb.length p hp
  exact ⟨leads_true a b c, b, rings_len hL _ hu⟩
end WK
set_option Elab.async false
set_option linter.all false
set_option maxRecDepth 100000
set_option maxHeartbeats 4000000
namespace RZG
open PySem PySem.Spec PyProof.Rows L2
open PySem.Sem (wp)
section
variable {prog : Program} {w : World} {A : Around} {E : Value → Shared → Prop} {s : Shared} {z TI TO i1 i2 : Addr} {fp1 fp2 : List Addr} {n : Nat} {P1 P2 : Nat → Value → Prop} {St1 St2 : Nat → Heap → Prop}
/-- a zip that holds the pair given before, asked again -/
theorem heldD {T : Addr} {f : Bool} {old : Obj} {m : Nat} {Q : Fin → Shared → Prop} (S : ZipSep2 z TI TO i1 i2 fp1 fp2) (D1 : Draws prog w A i1 fp1 n P1 St1) (D2 : Draws prog w A i2 fp2 n P2 St2)
    (isZ : IsZipHeld s.heap z TI TO T f) (oldAt : s.heap.get? T = some old) (its : IsTupOf2 s.heap TI (.ref i1) (.ref i2)) (st1 : St1 m s.heap) (st2 : St2 m s.heap) (hm : m ≤ n)
    (pair : m < n → ∀ u v g tk, P1 m u → P2 m v → IsZipHeld g z TI TO T true → St1 (m + 1) g → St2 (m + 1) g → IsTupOf2 g s.heap.objs.size u v → g.objs.size = s.heap.objs.size + 1 →
      (∀ b q, b ≠ z → b ≠ i1 → b ≠ i2 → s.heap.get? b = some q → g.get? b = some q) → Q (.done (.ret (.ref s.heap.objs.size))) { s with heap := g, toks := tk })
    (over : m = n → ∀ g err, (∀ b q, b ≠ z → b ≠ i1 → b ≠ i2 → s.heap.get? b = some q → g.get? b = some q) → (∃ q, g.get? err = some q ∧ q.cls = .type "StopIteration") → E (.ref err) { s with heap := g }) :
    wpAny (model prog w) A (Builtin.«zip.__next__» ⟨[.ref z], []⟩) Q E s := by
  refine wpAny_bind (m := field (.ref z) 2) (wpAny_field isZ rfl (x := .bool false) rfl ?_)
  refine wpAny_bind (m := field (.ref z) 3) (wpAny_field isZ rfl (x := .ref TI) rfl (wpAny_bind (wpAny_seqItems its rfl ?_)))
  refine wpAny_bind (m := Builtin.SmallTypes.ownedTupleIsFree (.ref z)) (wpAny_tupleHeld_zip isZ oldAt fun g1 z1 same1 => ?_)
  simp only [← Array.forIn_toList, List.forIn_cons, List.forIn_nil, Bool.false_eq_true, if_false]
  have a1 := D1.over st1 same1 S.zf1
  have b1 := D2.over st2 same1 S.zf2
  refine wpAny_bind (wpAny_bind (wpAny_bind (wpAny_holding (wpAny_bind (m := Builtin.SmallTypes.nextOf (.ref i1)) ?_))))
  rcases Nat.lt_or_ge m n with hlt | hge
  · refine D1.item m { s with heap := g1 } _ _ hlt a1 fun u g2 tk2 pu a2 same2 => wpAny_pure (wpAny_pure ?_)
    refine wpAny_bind (wpAny_bind (wpAny_holding (wpAny_bind (m := Builtin.SmallTypes.nextOf (.ref i2)) ?_)))
    refine D2.item m { s with heap := g2, toks := tk2 } _ _ hlt (D2.over b1 same2 S.sep1_2) fun v g3 tk3 pv' b3 same3 => ?_
    refine wpAny_pure (wpAny_pure (wpAny_pure (wpAny_bind (m := newTuple [u, v]) (wpAny_newTuple ?_))))
    have size3 : g3.objs.size = s.heap.objs.size := same3.1.trans (same2.1.trans same1.1)
    refine wpAny_pure ?_
    show Q (.done (.ret (.ref g3.objs.size))) _
    have made : IsTupOf2 (g3.push { cls := .type "tuple", data := .seq #[u, v] }) g3.objs.size u v := Heap.get?_push_size _ rfl
    have grown : (g3.push { cls := .type "tuple", data := .seq #[u, v] }).objs.size = g3.objs.size + 1 := Heap.size_push ..
    rw [size3] at made grown ⊢
    refine pair hlt u v _ tk3 pu pv' (Heap.get?_push_of_some _ (same3.extBut _ _ S.zi2 (same2.extBut _ _ S.zi1 z1))) (D1.frame _ _ _ (D1.over a2 same3 S.sep2_1) fun b _ o e => Heap.get?_push_of_some _ e)
      (D2.frame _ _ _ b3 fun b _ o e => Heap.get?_push_of_some _ e) made grown fun b q bz b1 b2 at_b => ?_
    exact Heap.get?_push_of_some _ (same3.extBut _ _ b2 (same2.extBut _ _ b1 (same1.extBut _ _ bz at_b)))
  · obtain rfl : m = n := Nat.le_antisymm hm hge
    exact D1.done { s with heap := g1 } _ _ a1 fun g err keep isStop => over rfl g err (fun b q bz b1 _ at_b => keep _ _ b1 (same1.extBut _ _ bz at_b)) isStop
/-- where it stands, i pairs out -/
def ZSt (z TI TO i1 i2 : Addr) (St1 St2 : Nat → Heap → Prop) (h : Heap) (i : Nat) : Prop := IsTupOf2 h TI (.ref i1) (.ref i2) ∧ St1 i h ∧ St2 i h ∧
  ((IsZip h z TI TO .none ∧ ∃ a b, IsTupOf2 h TO a b) ∨ ∃ T f oT, IsZipHeld h z TI TO T f ∧ h.get? T = some oT)
theorem ZSt.typeIs {i : Nat} (h : ZSt z TI TO i1 i2 St1 St2 s.heap i) : s.TypeIs (.ref z) "zip" := by
  obtain ⟨_, _, _, ⟨h, _⟩ | ⟨T, f, oT, h, _⟩⟩ := h
  · exact ⟨_, h, rfl⟩
  · exact ⟨_, h, rfl⟩
theorem ZSt.keep {h h' : Heap} {B : Addr} {i : Nat} (x : ZSt z TI TO i1 i2 St1 St2 h i) (D1 : Draws prog w A i1 fp1 n P1 St1) (D2 : Draws prog w A i2 fp2 n P2 St2) (B1 : B ∉ fp1) (B2 : B ∉ fp2)
    (hS : ∃ acc c, h.get? B = some { cls := .type "list", dict := none, data := .seq acc c, slots := #[] }) (k : ∀ b o, b ≠ B → h.get? b = some o → h'.get? b = some o) (kS : ∃ o, h'.get? B = some o) : ZSt z TI TO i1 i2 St1 St2 h' i := by
  obtain ⟨acc, c, hS⟩ := hS
  obtain ⟨h1, h2, h3, h4⟩ := x
  have ne : ∀ b o, h.get? b = some o → o.cls ≠ .type "list" → b ≠ B := fun b o e q z => by
    rw [z, hS] at e
    cases e
    exact q rfl
  refine ⟨k _ _ (ne _ _ h1 (fun z => by simp at z)) h1, D1.frame _ _ _ h2 fun b hb o e => k b o (fun z => B1 (z ▸ hb)) e, D2.frame _ _ _ h3 fun b hb o e => k b o (fun z => B2 (z ▸ hb)) e, ?_⟩
  rcases h4 with ⟨h4, a, b, h5⟩ | ⟨T, f, oT, h4, h5⟩
  · exact .inl ⟨k _ _ (ne _ _ h4 (fun z => by simp at z)) h4, a, b, k _ _ (ne _ _ h5 (fun z => by simp at z)) h5⟩
  · by_cases hT : T = B
    · obtain ⟨o, kS⟩ := kS
      exact .inr ⟨T, f, o, k _ _ (ne _ _ h4 (fun z => by simp at z)) h4, by rw [hT]; exact kS⟩
    · exact .inr ⟨T, f, oT, k _ _ (ne _ _ h4 (fun z => by simp at z)) h4, k _ _ hT h5⟩
theorem nextD_item {i : Nat} {Q : Option Value → Shared → Prop} (S : ZipSep2 z TI TO i1 i2 fp1 fp2) (D1 : Draws prog w A.in1 i1 fp1 n P1 St1) (D2 : Draws prog w A.in1 i2 fp2 n P2 St2) (st : ZSt z TI TO i1 i2 St1 St2 s.heap i) (hi : i < n)
    (hQ : ∀ x y g tk, P1 i x → P2 i y → ZSt z TI TO i1 i2 St1 St2 g (i + 1) → IsTupOf2 g s.heap.objs.size x y → g.objs.size = s.heap.objs.size + 1 →
      (∀ b q, b ≠ z → b ≠ TO → b ≠ i1 → b ≠ i2 → s.heap.get? b = some q → g.get? b = some q) → Q (some (.ref s.heap.objs.size)) { s with heap := g, toks := tk }) : wpAny (model prog w) A (pyNext (.ref z)) Q E s := by
  have isTy := st.typeIs
  obtain ⟨h1, h2, h3, ⟨new, a, b, bare⟩ | ⟨T, f, oT, held, atT⟩⟩ := st
  · refine wpAny_pyNext_zipD2_item S D1 D2 new h1 bare h2 h3 hi hi fun x y g tk px py z' to1 w1 w2 made grown keep => hQ x y g tk px py ⟨keep _ _ S.TIz S.TITO S.TIi1 S.TIi2 h1, w1, w2, .inr ⟨s.heap.objs.size, false, _, z', made⟩⟩ made grown keep
  · unfold pyNext
    refine wpAny_bind (wpAny_attempt (wpAny_callSpecial?_slot (name := Str.ofString "__next__") isTy F.slot_zip_next (wpAny_call_entry F.slot_zip_next isTy F.entry_zip_next ?_ (F.args_zip_next_1 _))))
    refine heldD S D1 D2 held atT h1 h2 h3 (Nat.le_of_lt hi) (fun _ u v g tk hu hv z' w1 w2 made grown keep => ?_) (fun no => absurd no (Nat.ne_of_lt hi))
    refine ⟨_, rfl, wpAny_pure (hQ u v g tk hu hv ⟨keep _ _ S.TIz S.TIi1 S.TIi2 h1, w1, w2, .inr ?_⟩ made grown fun b q bz _ b1 b2 at_b => keep b q bz b1 b2 at_b)⟩
    by_cases eT : T = z ∨ T = i1 ∨ T = i2
    · rcases eT with rfl | rfl | rfl
      · exact ⟨_, true, _, z', z'⟩
      · exact let ⟨o, at_o⟩ := D1.live _ _ w1; ⟨_, true, o, z', at_o⟩
      · exact let ⟨o, at_o⟩ := D2.live _ _ w2; ⟨_, true, o, z', at_o⟩
    · obtain ⟨nz, n1, n2⟩ : T ≠ z ∧ T ≠ i1 ∧ T ≠ i2 := by simpa [not_or] using eT
      exact ⟨T, true, oT, z', keep T oT nz n1 n2 atT⟩
theorem nextD_end {Q : Option Value → Shared → Prop} (S : ZipSep2 z TI TO i1 i2 fp1 fp2) (D1 : Draws prog w A.in1 i1 fp1 n P1 St1) (D2 : Draws prog w A.in1 i2 fp2 n P2 St2) (st : ZSt z TI TO i1 i2 St1 St2 s.heap n)
    (hQ : ∀ g tk, (∀ b q, b ≠ z → b ≠ TO → b ≠ i1 → b ≠ i2 → s.heap.get? b = some q → g.get? b = some q) → Q none { s with heap := g, toks := tk }) : wpAny (model prog w) A (pyNext (.ref z)) Q E s := by
  have isTy := st.typeIs
  obtain ⟨h1, h2, h3, ⟨new, a, b, bare⟩ | ⟨T, f, oT, held, atT⟩⟩ := st
  · exact wpAny_pyNext_zipD2_end S D1 D2 new h1 bare h2 h3 (Nat.le_refl _) (Nat.le_refl _) (.inl rfl) fun g tk k => hQ g tk k
  · unfold pyNext
    refine wpAny_bind (wpAny_attempt (wpAny_callSpecial?_slot (name := Str.ofString "__next__") isTy F.slot_zip_next (wpAny_call_entry F.slot_zip_next isTy F.entry_zip_next ?_ (F.args_zip_next_1 _))))
    refine heldD S D1 D2 held atT h1 h2 h3 (Nat.le_refl _) (fun no => absurd no (Nat.lt_irrefl _)) fun _ g err keep isStop => ?_
    obtain ⟨o, at_o, cls_o⟩ := isStop
    exact wpAny_bind (wpAny_isInstance (T := "StopIteration") (b := true) ⟨o, at_o, cls_o⟩ isSubtype_stop (wpAny_pure (hQ g s.toks fun b q bz _ b1 b2 at_b => keep b q bz b1 b2 at_b)))
end
end RZG
set_option Elab.async false
set_option linter.all false
set_option maxRecDepth 100000
set_option maxHeartbeats 4000000
namespace RZG
open PySem PySem.Spec PyProof.Rows L2
open PySem.Sem (wp)
theorem hok_away {P : Program} {w : World} {H : Hp} {h h' : Heap} (x : HOk P w H h) (ch : List Addr) (hn : ∀ c ∈ ch, H c = none) (k : ∀ b u, b ∉ ch → h.get? b = some u → h'.get? b = some u) : HOk P w H h' := fun a o e =>
  (x a o e).stay (fun b u hd q => k b u (fun hm => by
    have h0 := hn b hm
    rcases hd with z | z
    · rw [z, e] at h0; cases h0
    · rw [z] at h0; cases h0) q) (fun _ q => q) fun _ _ q => q
abbrev bufO (acc : Array Value) (c : Nat) : Obj := { cls := .type "list", dict := none, data := .seq acc c, slots := #[] }
/-- what is drawn stands for items -/
def Stand (Pd : Nat → Value → Prop) (xs : List V) : Prop := ∀ i u, Pd i u → i < xs.length → ∃ x, xs[i]? = some x ∧ RelV x u
/-- the pairs made so far -/
def Made (H : Hp) (xs ys : List V) (Ts : List Addr) : Prop := ∀ (j : Nat) (T : Addr), Ts[j]? = some T → ∃ x y, xs[j]? = some x ∧ ys[j]? = some y ∧ H T = some (.tup [x, y])
section
variable {P : Program} {w : World} {A : Around} {R : Result → Shared → Prop} {z TI TO i1 i2 B : Addr} {fp1 fp2 : List Addr} {n : Nat} {P1 P2 : Nat → Value → Prop} {St1 St2 : Nat → Heap → Prop} {xs ys : List V}
theorem loopD (S : ZipSep2 z TI TO i1 i2 fp1 fp2) (D1 : Draws P w A.in1.in1 i1 fp1 n P1 St1) (D2 : Draws P w A.in1.in1 i2 fp2 n P2 St2) (hx : xs.length = n) (hy : ys.length = n) (r1 : Stand P1 xs) (r2 : Stand P2 ys) (hz : n ≤ sizeLine) (res : Value)
    (Bz : B ≠ z) (BTO : B ≠ TO) (B1 : B ∉ fp1) (B2 : B ∉ fp2) :
    ∀ (m i : Nat) (s : Shared) (H : Hp) (acc : Array Value) (c : Nat) (Ts : List Addr), n - i = m → i ≤ n → ZSt z TI TO i1 i2 St1 St2 s.heap i →
      TO < s.heap.objs.size → H z = none → H TO = none → H i1 = none → H i2 = none → H B = none → HOk P w H s.heap → s.heap.get? B = some (bufO acc c) → acc.toList = Ts.map Value.ref → Ts.length = i → Made H xs ys Ts →
      (∀ (h' : Heap) (tk : Nat) (H' : Hp) (acc' : Array Value) (c' : Nat) (Ts' : List Addr), (∀ b o, b ≠ B → b ≠ z → b ≠ TO → b ≠ i1 → b ≠ i2 → s.heap.get? b = some o → h'.get? b = some o) → (∀ b, b < s.heap.objs.size → H' b = H b) → HOk P w H' h' → h'.get? B = some (bufO acc' c') → H' B = none →
        acc'.toList = Ts'.map Value.ref → Ts'.length = n → Made H' xs ys Ts' → R (.ok (.ret res)) { s with heap := h', toks := tk }) →
      codeAny (model P w) A (.builtin "list.extend.loop" ⟨[.ref B, .ref z, res], []⟩) R s := by
  have Bi1 : B ≠ i1 := fun e => B1 (e ▸ S.mem1)
  have Bi2 : B ≠ i2 := fun e => B2 (e ▸ S.mem2)
  intro m
  induction m with
  | zero =>
    intro i s H acc c Ts hm hi st tolt nz nTO n1 n2 nS hok hS hacc hlen hTs hR
    obtain rfl : i = n := by omega
    refine codeAny_builtin F.entry_extend_loop (Around.under_plainId F.plain_extend_loop _ ▸ wpAny_bind (m := pyNext (.ref z)) ?_)
    refine nextD_end S D1 D2 st fun h' tk hk => ?_
    refine wpAny_pure (hR h' tk H acc c Ts (fun b o _ b1 b2 b3 b4 e => hk b o b1 b2 b3 b4 e) (fun _ _ => rfl) ?_ (hk _ _ Bz BTO Bi1 Bi2 hS) nS hacc hlen hTs)
    refine hok_away hok [z, TO, i1, i2] (fun c hc => ?_) fun b u hb q => hk b u (fun e => hb (by simp [e])) (fun e => hb (by simp [e])) (fun e => hb (by simp [e])) (fun e => hb (by simp [e])) q
    have e' : c = z ∨ c = TO ∨ c = i1 ∨ c = i2 := by simpa using hc
    rcases e' with e | e | e | e <;> rw [e] <;> assumption
  | succ m ih =>
    intro i s H acc c Ts hm hi st tolt nz nTO n1 n2 nS hok hS hacc hlen hTs hR
    have hlt : i < n := by omega
    refine codeAny_builtin F.entry_extend_loop (Around.under_plainId F.plain_extend_loop _ ▸ wpAny_bind (m := pyNext (.ref z)) ?_)
    refine nextD_item S D1 D2 st hlt fun u u2 h' tk pu pu2 st' pr hsz hk => ?_
    obtain ⟨x, ex, ru⟩ := r1 i u pu (hx ▸ hlt)
    obtain ⟨y, ey, ru2⟩ := r2 i u2 pu2 (hy ▸ hlt)
    have nT : H s.heap.objs.size = none := hok.fresh (Nat.le_refl _)
    have hS' := hk _ _ Bz BTO Bi1 Bi2 hS
    have Slt : B < s.heap.objs.size := Heap.lt_size hS
    have ok1 : HOk P w H h' := hok_away hok [z, TO, i1, i2] (fun c hc => by
      have e' : c = z ∨ c = TO ∨ c = i1 ∨ c = i2 := by simpa using hc
      rcases e' with e | e | e | e <;> rw [e] <;> assumption) fun b u hb q => hk b u (fun e => hb (by simp [e])) (fun e => hb (by simp [e])) (fun e => hb (by simp [e])) (fun e => hb (by simp [e])) q
    have ok2 : HOk P w (upd H s.heap.objs.size (.tup [x, y])) h' := ok1.laidN (fun _ _ q => q) nT ⟨by show 2 ≤ sizeLine; decide, [u, u2], .cons ru (.cons ru2 .nil), ⟨_, pr, rfl, _, rfl⟩⟩
    have acl : acc.size = i := by rw [← Array.length_toList, hacc, List.length_map]; exact hlen
    have keepS : ∀ b o, b ≠ B → h'.get? b = some o → (h'.update B (Obj.mapSeq (·.push (.ref s.heap.objs.size)))).get? b = some o := fun b o hb e => (Heap.get?_update_other _ _ (Ne.symm hb)).trans e
    have Sx := Heap.get?_update_self (Obj.mapSeq (·.push (Value.ref s.heap.objs.size))) hS' rfl
    have lt5 : ∀ {b : Addr}, H b = none → b < s.heap.objs.size → (upd H s.heap.objs.size (.tup [x, y])) b = none := fun {b} hb hl => by rw [upd_ne (Nat.ne_of_lt hl)]; exact hb
    obtain ⟨hTI, q1, q2, hzz⟩ := id st
    obtain ⟨o1, ho1⟩ := D1.live _ _ q1
    obtain ⟨o2, ho2⟩ := D2.live _ _ q2
    have zlt : z < s.heap.objs.size := by
      obtain ⟨o, ho, _⟩ := st.typeIs
      exact Heap.lt_size ho
    show wpAny _ A.in1 (updateSeq B (·.push (.ref s.heap.objs.size)) >>= _) _ _ _
    refine wpAny_bind ?_
    refine wpAny_updateSeq hS' rfl (wpAny_pure ⟨plainId_quiet F.plain_extend_loop _, ?_⟩) (by rw [acl]; omega) (by show (acc.push _).size ≤ sizeLine + 1; rw [Array.size_push, acl]; omega)
    have sz2 : (h'.update B (Obj.mapSeq (·.push (.ref s.heap.objs.size)))).objs.size = s.heap.objs.size + 1 := by rw [Heap.size_after_update]; exact hsz
    refine ih (i + 1) { s with heap := h'.update B (Obj.mapSeq (·.push (.ref s.heap.objs.size))), toks := tk } (upd H s.heap.objs.size (.tup [x, y])) (acc.push (.ref s.heap.objs.size)) _ (Ts ++ [s.heap.objs.size]) (by omega) hlt (st'.keep D1 D2 B1 B2 ⟨_, _, hS'⟩ keepS ⟨_, Sx⟩) (by show TO < (h'.update B _).objs.size; rw [sz2]; exact Nat.lt_succ_of_lt tolt) (lt5 nz zlt) (lt5 nTO tolt) (lt5 n1 (Heap.lt_size ho1)) (lt5 n2 (Heap.lt_size ho2)) (lt5 nS Slt) ?_ Sx ?_ ?_ ?_ fun h3 tk3 H3 acc3 c3 Ts3 k3 e3 ok3 S3 nS3 a3 len3 T3 => ?_
    · exact hok_away ok2 [B] (fun c hc => by rw [List.mem_singleton.mp hc]; exact lt5 nS Slt) fun b u hb q => keepS b u (fun e => hb (by simp [e])) q
    · rw [Array.toList_push, hacc, List.map_append] <;> rfl
    · rw [List.length_append, hlen] <;> rfl
    · intro j T hj
      by_cases hji : j < Ts.length
      · rw [List.getElem?_append_left hji] at hj
        obtain ⟨x', y', e1, e2, e4⟩ := hTs j T hj
        exact ⟨x', y', e1, e2, by rw [upd_ne (ne_of_none e4 nT)]; exact e4⟩
      · have hj2 : j = Ts.length := by
          have := (List.getElem?_eq_some_iff.mp hj).1
          rw [List.length_append, List.length_singleton] at this
          omega
        rw [hj2, List.getElem?_append_right (Nat.le_refl _), Nat.sub_self] at hj
        have : s.heap.objs.size = T := Option.some.inj hj
        refine ⟨x, y, by rw [hj2, hlen]; exact ex, by rw [hj2, hlen]; exact ey, ?_⟩
        rw [← this, upd_same]
    · refine hR h3 tk3 H3 acc3 c3 Ts3 (fun b o b0 b1 b2 b3 b4 e => k3 b o b0 b1 b2 b3 b4 (keepS b o b0 (hk b o b1 b2 b3 b4 e))) (fun b hb => ?_) ok3 S3 nS3 a3 len3 T3
      rw [e3 b (by show b < (h'.update B _).objs.size; rw [sz2]; exact Nat.lt_succ_of_lt hb), upd_ne (Nat.ne_of_lt hb)]
theorem initD {s : Shared} (S : ZipSep2 z TI TO i1 i2 fp1 fp2) (D1 : Draws P w A.in1.in1 i1 fp1 n P1 St1) (D2 : Draws P w A.in1.in1 i2 fp2 n P2 St2) (hx : xs.length = n) (hy : ys.length = n) (r1 : Stand P1 xs) (r2 : Stand P2 ys) (hz : n ≤ sizeLine)
    (Bz : B ≠ z) (BTO : B ≠ TO) (BTI : B ≠ TI) (B1 : B ∉ fp1) (B2 : B ∉ fp2) (H : Hp) (z0 : IsZip s.heap z TI TO .none) (pTI : IsTupOf2 s.heap TI (.ref i1) (.ref i2)) (pTO : IsTupOf2 s.heap TO .none .none)
    (t1 : St1 0 s.heap) (t2 : St2 0 s.heap) (nz : H z = none) (nTO : H TO = none) (n1 : H i1 = none) (n2 : H i2 = none) (nS : H B = none) (hok : HOk P w H s.heap)
    (hS : s.heap.get? B = some ({ cls := .type "list", data := .seq #[] } : Obj))
    (hR : ∀ (h' : Heap) (tk : Nat) (H' : Hp) (acc' : Array Value) (c' : Nat) (Ts' : List Addr), (∀ b o, b ≠ B → b ≠ z → b ≠ TO → b ≠ i1 → b ≠ i2 → s.heap.get? b = some o → h'.get? b = some o) → (∀ b, b < s.heap.objs.size → H' b = H b) → HOk P w H' h' → h'.get? B = some (bufO acc' c') → H' B = none →
        acc'.toList = Ts'.map Value.ref → Ts'.length = n → Made H' xs ys Ts' → R (.ok (.ret .none)) { s with heap := h', toks := tk }) :
    wpAny (model P w) A.in1 (Builtin.«list.__init__» ⟨[.ref B, .ref z], []⟩)
      (fun fin s' => match fin with | .done f => R (.ok f) s' | .again c' => c'.quiet = true ∧ codeAny (model P w) A c' R s') (fun e s' => R (.error e) s') s := by
  have emptied := Heap.get?_update_self (Obj.mapSeq (fun _ => (#[] : Array Value))) hS rfl
  have pushed := Heap.get?_update_self (Obj.mapSeq fun us : Array Value => us.push Value.none) emptied rfl
  have hS4 := Heap.get?_update_self (Obj.mapSeq fun us : Array Value => us.pop) pushed rfl
  have past : ∀ {g : Heap} {F : Obj → Obj} (b : Addr) (q : Obj), b ≠ B → g.get? b = some q → (g.update B F).get? b = some q := fun b q bS at_b => (Heap.get?_update_other _ _ (Ne.symm bS)).trans at_b
  have z2 : IsZip (s.heap.update B (Obj.mapSeq (fun _ => (#[] : Array Value)))) z TI TO .none := past _ _ (Ne.symm Bz) z0
  have isTy : Shared.TypeIs { s with heap := s.heap.update B (Obj.mapSeq (fun _ => (#[] : Array Value))) } (.ref z) "zip" := ⟨_, z2, rfl⟩
  refine wpAny_bind (m := Builtin.List.listItems (.ref B)) (wpAny_bind (m := seqItems? (.ref B)) (wpAny_seqItems hS rfl (wpAny_pure ?_)))
  refine wpAny_bind (m := updateSeq B fun _ => #[]) (wpAny_updateSeq hS rfl (wpAny_bind (m := letGo _) (wpAny_letGo ?_)))
  refine wpAny_bind (m := typeOf (.ref z)) (wpAny_typeOf isTy ?_)
  have itself : Builtin.List.listSameRef (.ref B) (.ref z) = false := by simp [Builtin.List.listSameRef, Bz]
  simp only [itself, show (Value.type "zip" == Value.type "list") = false by decide, show (Value.type "zip" == Value.type "tuple") = false by decide, Bool.or_false, Bool.false_eq_true, if_false]
  refine wpAny_bind (wpAny_pyIter_zip z2 (wpAny_bind (wpAny_holding (wpAny_bind (m := specialOf _ _) (wpAny_specialOf isTy RZ.zip_no_len ?_)))))
  refine wpAny_bind (m := specialOf (Value.ref z) (Str.ofString "__length_hint__")) (wpAny_specialOf isTy RZ.zip_no_hint (wpAny_pure ?_))
  refine wpAny_bind (m := rule "list.extend.makes-room") (wpAny_rule (wpAny_bind (m := Builtin.List.listTouch (.ref B)) ?_))
  refine wpAny_bind (m := updateSeq B fun us => us.push .none) (wpAny_updateSeq emptied rfl (wpAny_updateSeq pushed rfl ?_))
  have oth4 : ∀ b q, b ≠ B → s.heap.get? b = some q → (((s.heap.update B (Obj.mapSeq (fun _ => (#[] : Array Value)))).update B (Obj.mapSeq (·.push Value.none))).update B (Obj.mapSeq (·.pop))).get? b = some q :=
    fun b q bS at_b => past b q bS (past b q bS (past b q bS at_b))
  have szz : (((s.heap.update B (Obj.mapSeq (fun _ => (#[] : Array Value)))).update B (Obj.mapSeq (·.push Value.none))).update B (Obj.mapSeq (·.pop))).objs.size = s.heap.objs.size := by
    rw [Heap.size_after_update, Heap.size_after_update, Heap.size_after_update]
  have ok4 : HOk P w H (((s.heap.update B (Obj.mapSeq (fun _ => (#[] : Array Value)))).update B (Obj.mapSeq (·.push Value.none))).update B (Obj.mapSeq (·.pop))) :=
    hok_away hok [B] (fun c hc => by rw [List.mem_singleton.mp hc]; exact nS) fun b u hb q => oth4 b u (fun e => hb (by simp [e])) q
  generalize ((s.heap.update B (Obj.mapSeq (fun _ => (#[] : Array Value)))).update B (Obj.mapSeq (·.push Value.none))).update B (Obj.mapSeq (·.pop)) = h4 at hS4 oth4 szz ok4 ⊢
  refine wpAny_pure ⟨plainId_quiet F.plain_extend_loop _, loopD S D1 D2 hx hy r1 r2 hz .none Bz BTO B1 B2 _ 0 { s with heap := h4 } H #[] _ [] rfl (Nat.zero_le _)
    ⟨oth4 _ _ (Ne.symm BTI) pTI, D1.frame _ _ _ t1 fun b hb o e => oth4 b o (fun z => B1 (z ▸ hb)) e, D2.frame _ _ _ t2 fun b hb o e => oth4 b o (fun z => B2 (z ▸ hb)) e, .inl ⟨oth4 _ _ (Ne.symm Bz) z0, _, _, oth4 _ _ (Ne.symm BTO) pTO⟩⟩
    (by show TO < h4.objs.size; rw [szz]; exact Heap.lt_size pTO) nz nTO n1 n2 nS ok4 hS4 rfl rfl (fun j T e => by simp at e) fun h' tk H' acc' c' Ts' k e ok S' nS' a l t => ?_⟩
  exact hR h' tk H' acc' c' Ts' (fun b o b0 b1 b2 b3 b4 q => k b o b0 b1 b2 b3 b4 (oth4 b o b0 q)) (fun b hb => e b (by show b < h4.objs.size; rw [szz]; exact hb)) ok S' nS' a l t
end
end RZG
set_option Elab.async false
set_option linter.all false
set_option maxRecDepth 100000
set_option maxHeartbeats 4000000
namespace RZG
open PySem PySem.Spec PyProof.Rows L2
section
variable {X : Cx} {e e2 : Expr} {ta : TA} {pl p pos posl : Pos}
def tListZipLT (K : PySem.W.Frag) (ta : TA) : TE := fun σ H Q => ta σ H fun vs H1 => ∃ a b xs ys, vs = [V.ref a, V.ref b] ∧ SqL K H1 a xs ∧ SqT K H1 b ys ∧ xs.length = ys.length ∧
  ∀ (B : Addr) (Ts : List Addr) (H' : Hp), H1 B = none → (∀ b o, H1 b = some o → H' b = some o) → H' B = some (.lst (Ts.map V.ref)) → Ts.length = xs.length → Made H' xs ys Ts → Q (.ref B) H'
theorem vals_refs3 : ∀ Ts : List Addr, Vals (Ts.map V.ref) (Ts.map Value.ref)
  | [] => .nil
  | T :: Ts => .cons rfl (vals_refs3 Ts)
theorem stand_of {xs : List V} {its : List Value} (r : Vals xs its) : Stand (fun i v => its.toArray[i]? = some v) xs := fun i u hu hi => by
  obtain ⟨u', e1, e2⟩ := r.get (List.getElem?_eq_getElem hi)
  have : its[i]? = some u := by simpa using hu
  obtain rfl : u' = u := Option.some.inj (e1.symm.trans this)
  exact ⟨_, List.getElem?_eq_getElem hi, e2⟩
theorem tup_is3 {h : Heap} {a : Addr} {its : Array Value} (p : IsTup h a its) : h.IsTuple a its := let ⟨o, e, c, n, d⟩ := p; ⟨o, e, c, n, d⟩
theorem pe_listZipLT (hc : X.calm = true) (hgl : Gl X "list") (hml : X.mg "list" = none) (hg : Gl X "zip") (hm : X.mg "zip" = none) (ha : PA X [e, e2] ta)
    (hs : starEach [e, e2] X.env = (false, eval e X.env) :: starEach [e2] X.env := by rfl) (hpl : (backTo pos (starEach [e2] X.env)).any (·.1) = false := by rfl)
    (he : starEach [Expr.Call (.Name "zip" p) [e, e2] [] pos] X.env = (false, eval (.Call (.Name "zip" p) [e, e2] [] pos) X.env) :: starEach [] X.env := by rfl) :
    PE X (.Call (.Name "list" pl) [.Call (.Name "zip" p) [e, e2] [] pos] [] posl) (tListZipLT X.K ta) := by
  constructor
  intro pins s σ H Q I h
  refine wpAny_Call_Name_kw (ld_blt I hgl hml (by decide +kernel : bootBuiltins "list" = some (.type "list")) ?_)
  refine PyProof.Rows.callWith_type1 (he ▸ ?_) he rfl
  show wpAny _ _ (spliced ((false, eval (.Call (.Name "zip" p) [e, e2] [] pos) X.env) :: backTo posl (starEach [] X.env))) _ _ s
  refine Calls.spliced_cons (Call_ (ld_blt I hg hm PyProof.Rows.boot_zip (PyProof.Rows.callWith_type1 (thn (ha.run pos pins s σ H _ I h) fun us s1 ⟨vs, H1, I1, r1, q1⟩ => ?_) hs hpl)))
  obtain ⟨a, b, xs, ys, ex, hqx, hqy, hxy, q⟩ := q1
  subst ex
  cases r1 with
  | cons r rr =>
    cases rr with
    | cons r' rr =>
      cases rr
      cases r
      cases r'
      obtain ⟨its, rv, p1, hz1⟩ := I1.list hqx
      obtain ⟨its2, rv2, p2, zz2⟩ := I1.tuple hqy
      have p1 := p1.isList
      obtain ⟨o1, ho1, _⟩ := id p1
      obtain ⟨o2, ho2, _⟩ := id p2
      have alt : a < s1.heap.objs.size := Heap.lt_size ho1
      have blt : b < s1.heap.objs.size := Heap.lt_size ho2
      have nz1 : its.toArray.size = xs.length := by rw [List.size_toArray, rv.length]
      have nz2 : its2.toArray.size = xs.length := by rw [List.size_toArray, hxy, rv2.length]
      refine zip_begins2 (begins_list a its.toArray) (begins_tuple b its2.toArray) p1 (tup_is3 p2) fun h' hz hTI hTO g1 g2 hsz hk => ?_
      refine Calls.spliced_nil ?_
      have S := zip_sep2 (N := s1.heap.objs.size) (fp1 := [a]) (fp2 := [b]) (fun b hb => by rw [List.mem_singleton.mp hb]; exact alt) fun c hb => by rw [List.mem_singleton.mp hb]; exact blt
      have D1 := Draws.list (prog := X.prog) (w := X.w) (A := X.A.in1.in1.in1) (by simp [I1.ok.hd hc]) s1.heap.objs.size a (Nat.ne_of_lt alt) its.toArray
      have D2 := Draws.tuple (prog := X.prog) (w := X.w) (A := X.A.in1.in1.in1) (by simp [I1.ok.hd hc]) (s1.heap.objs.size + 1) b (Nat.ne_of_lt (Nat.lt_succ_of_lt blt)) its2.toArray
      rw [nz1] at D1
      rw [nz2] at D2
      have fr : ∀ c, s1.heap.objs.size ≤ c → H1 c = none := fun c hc => I1.hok.fresh hc
      refine callType_codes (Q₁ := fun obj s₁ => obj = .ref h'.objs.size ∧ s₁ = { s1 with heap := h'.push { cls := .type "list", data := .seq #[] } }) F.called_list (F.typeCall_list_1 _) F.entry_list_init
        (code_list_new _ ⟨rfl, rfl⟩) fun obj s₁ hob => ?_
      obtain ⟨rfl, rfl⟩ := hob
      have hS : (h'.push { cls := .type "list", data := .seq #[] }).get? h'.objs.size = some { cls := .type "list", data := .seq #[] } := Heap.get?_push_size _ rfl
      have kp : ∀ c o, h'.get? c = some o → (h'.push { cls := .type "list", data := .seq #[] }).get? c = some o := fun c o q => Heap.get?_push_of_some _ q
      have nB : ∀ c, c < s1.heap.objs.size + 5 → h'.objs.size ≠ c := fun c hc => by rw [hsz]; exact Nat.ne_of_gt hc
      refine ⟨⟨_, hS, rfl⟩, F.args_list_init_2 _ _, initD (A := X.A.in1) (P := X.prog) (w := X.w) (s := { s1 with heap := h'.push { cls := .type "list", data := .seq #[] } }) S D1 D2 rfl hxy.symm (stand_of rv) (stand_of rv2) hz1
        (nB _ (by omega)) (nB _ (by omega)) (nB _ (by omega)) ?_ ?_ H1 (kp _ _ hz) (kp _ _ hTI) (kp _ _ hTO) ⟨⟨_, kp _ _ g1, rfl, rfl⟩, ?_⟩ ⟨⟨_, kp _ _ g2, rfl, rfl⟩, ?_⟩ (fr _ (by omega)) (fr _ (by omega)) (fr _ (by omega)) (fr _ (by omega)) (fr _ (by omega)) ?_ hS fun h3 tk3 H3 acc c Ts k3 e3 ok3 S3 nS3 a3 len3 T3 => ?_⟩
      · intro hb
        rcases List.mem_cons.mp hb with z | z
        · exact nB _ (by omega) z
        · exact nB a (Nat.lt_of_lt_of_le alt (Nat.le_add_right _ _)) (List.mem_singleton.mp z)
      · intro hb
        rcases List.mem_cons.mp hb with z | z
        · exact nB _ (by omega) z
        · exact nB b (Nat.lt_of_lt_of_le blt (Nat.le_add_right _ _)) (List.mem_singleton.mp z)
      · exact p1.at fun o ho => kp _ _ (hk _ _ ho)
      · exact (tup_is3 p2).at fun o ho => kp _ _ (hk _ _ ho)
      · exact I1.hok.kept fun c o q => kp _ _ (hk c o q)
      · have sz5 : (h'.push { cls := .type "list", data := .seq #[] }).objs.size = s1.heap.objs.size + 6 := by rw [Heap.size_push, hsz]
        have ex3 : ∀ c, c < s1.heap.objs.size → H3 c = H1 c := fun c hc' => e3 c (by show c < (h'.push _).objs.size; rw [sz5]; omega)
        have nS : H1 h'.objs.size = none := fr _ (by omega)
        have old3 : ∀ c o, s1.heap.get? c = some o → h3.get? c = some o := fun c o q => by
          have hl := Heap.lt_size q
          have up : ∀ d : Nat, c < s1.heap.objs.size + d := fun d => Nat.lt_of_lt_of_le hl (Nat.le_add_right _ _)
          exact k3 c o (Ne.symm (nB c (up 5))) (Nat.ne_of_lt (up 4)) (Nat.ne_of_lt (up 3)) (Nat.ne_of_lt hl) (Nat.ne_of_lt (up 1)) (kp _ _ (hk _ _ q))
        have tr3 : ∀ c o, H1 c = some o → H3 c = some o := fun c o q => by
          rw [ex3 c (I1.hok.lt q)]
          exact q
        have lS : (Ts.map V.ref).length ≤ sizeLine := by rw [List.length_map, len3]; exact hz1
        have ok4 : HOk X.prog X.w (upd H3 h'.objs.size (.lst (Ts.map V.ref))) h3 := ok3.laidN (fun _ _ q => q) nS3 ⟨lS, acc.toList, c, by rw [a3]; exact vals_refs3 Ts, by simpa using S3⟩
        have J : Inv X pins σ (upd H3 h'.objs.size (.lst (Ts.map V.ref))) { s1 with heap := h3, toks := tk3 } := by
          refine I1.call (ch := []) (g' := s1.gens) (d' := s1.drawn) (t' := tk3) ?_ ok4 I1.bare (fun _ z => nomatch z)
          have up : ∀ c, c < s1.heap.objs.size → (upd H3 h'.objs.size (.lst (Ts.map V.ref))) c = H1 c := fun c hc' => by rw [upd_ne (by rw [hsz]; exact Nat.ne_of_lt (by omega))]; exact ex3 c hc'
          exact ⟨fun c u q _ _ _ => old3 c u q, fun c u q _ _ _ => ⟨u.slots, old3 c u q⟩, fun c u q n _ => by rw [up c (Heap.lt_size q)]; exact n, fun c u q _ => ⟨u, old3 c u q⟩,
            fun c xs q => by rw [up c (I1.hok.lt q)]; exact q, fun c o u q => by rw [up c (I1.hok.lt q)]; exact q, fun c ps q => ⟨#[], by rw [up c (I1.hok.lt q), q]; simp⟩⟩
        refine ⟨rfl, .ref h'.objs.size, _, J, rfl, q h'.objs.size Ts _ nS (fun c o q => ?_) upd_same len3 fun j T hj => ?_⟩
        · rw [upd_ne (ne_of_none q nS)]
          exact tr3 c o q
        · obtain ⟨x, y, g1, g2, g3⟩ := T3 j T hj
          exact ⟨x, y, g1, g2, by rw [upd_ne (ne_of_none g3 nS3)]; exact g3⟩
end
end RZG
set_option Elab.async false
set_option linter.all false
set_option maxRecDepth 100000
set_option maxHeartbeats 8000000
namespace WK
open PySem L2 PyProof.Rows LCX K1 FV DP
open TX (sg sigs)
open PySem.W (Frag kitOne)
abbrev sLHas : Stmt := top 75
def spLHas : Sp := fun vs H Q _ => ∃ (m : Addr) (L u : W) (tb : List (List Int)) (es : List Int) (n : Int), vs = [.ref m, .str (tx u)] ∧ PlainM H m L tb es ∧ TabOk tb L.length n ∧ Let L ∧ 1 ≤ n ∧ (∀ c ∈ u, c ∈ L) ∧ Q (.bl (decide (ledL L tb u 0 ∈ es))) H
theorem get_ends {H : Hp} {m : Addr} {L : W} {lt le : Addr} (e : H m = some (.dK (pkv L lt le))) : DGet H m (.str "ends") (some (.ref le)) := by
  have := DGet.k (k := kE) e
  rw [pkv_E] at this
  exact this
section
variable {P : Program} {w : World} {K : PySem.W.Frag} {mg : Str → Option Value} {base : Heap} {fLd : Addr} {dLd : FuncData}
theorem scLH9 : FnScope ["_law_plain", "_law_word_here"] ["_law_plain", "_law_word_here"] (defScope sLHas) := ⟨rfl, rfl, rfl, by decide +kernel, rfl, by decide +kernel, by decide +kernel⟩
theorem ok_lhas {f : Addr} {fd : FuncData} (F : Fun K "_law_has" "_law_has" sLHas f fd) (ALd : Fn K mg "_law_led" sLLed ["_law_table_here", "_law_letters_here", "_law_word_here", "_law_start"] fLd dLd) : FnOk P w K mg base CX0 2 f fd ["_law_plain", "_law_word_here"] spLHas := by
  have GLd : FnOk P w K mg base CX0 1 fLd dLd ["_law_table_here", "_law_letters_here", "_law_word_here", "_law_start"] spLLed := ok_lled ALd.F
  refine F.ok scLH9 (fun vs H Q E h => ?_) (fun cdv A outer s H vs Q E hr h => ?_)
  · obtain ⟨m, L, u, _, _, _, rfl, _⟩ := h
    rfl
  · obtain ⟨m, L, u, tb, es, n, rfl, pm, ok, hL, n1, hc, q⟩ := h
    have hub := hu_of hr
    refine ⟨_, pss_one (ps_ret (pe_cmpR op_in_seq (pe_call (E := E0) GLd hr rfl ALd.g ALd.F.kp ALd.b .nil pass0 (pa_cons (pe_dget hub (pv 0) pe_str (fun _ _ => rfl)) (pa_cons (pe_dget hub (pv 0) pe_str (fun _ _ => rfl)) (pa_cons (pv 1) (pa_cons pe_int pa_nil)))))
      (pe_dget hub (pv 0) pe_str (fun _ _ => rfl)) (by rfl))), ?_⟩
    obtain ⟨lt, le, hm, htab, hle⟩ := pm.ex
    refine ⟨_, rfl, m, _, rfl, get_tab hm, _, rfl, m, _, rfl, get_let hm, _, rfl, lt, L, u, tb, n, 0, rfl, htab, hL, ok, Int.le_refl _, by omega, hc, ?_⟩
    refine ⟨_, rfl, m, _, rfl, get_ends hm, le, _, rfl, .inl (SqL.of hle), rfl, all_flat es, ?_⟩
    rw [if_neg (by decide), in_ints]
    exact q
end
end WK
set_option Elab.async false
set_option linter.all false
set_option maxRecDepth 100000
set_option maxHeartbeats 8000000
namespace WK
open PySem L2 PyProof.Rows LCX K1 FV DP
open TX (sg sigs)
open PySem.W (Frag kitOne)
abbrev sLWords : Stmt := top 76
abbrev NLw : List Str := ["_law_plain", "_law_most", "_law_found", "_law_layer", "_law_size", "_law_later", "_law_word_here", "_law_state", "_law_letter"]
/-- a word of the machine, of some size -/
def WordOf (L : W) (tb : List (List Int)) (es : List Int) (k : Nat) (u : W) : Prop := (∀ c ∈ u, c ∈ L) ∧ u.length ≤ k ∧ ledL L tb u 0 ∈ es
def spLWords : Sp := fun vs H Q _ => ∃ (m : Addr) (L : W) (tb : List (List Int)) (es : List Int) (n : Int) (k : Nat), vs = [.ref m, .int ((k : Nat) : Int)] ∧ PlainM H m L tb es ∧ TabOk tb L.length n ∧ Let L ∧ 1 ≤ n ∧ n ≤ 1000 ∧ k ≤ 5 ∧
  ∀ (l : Addr) (us : List W) (H' : Hp), H l = none → Same H H' → H' l = some (.lst (us.map fun u => V.str (tx u))) → (∀ u ∈ us, WordOf L tb es k u) → us.length ≤ 3 ^ (k + 1) → Q (.ref l) H'
/-- words with the states that they lead to -/
def LayAt (L : W) (tb : List (List Int)) (k : Nat) (H : Hp) (as : List Addr) : Prop := ∀ a ∈ as, ∃ u : W, H a = some (.tup [.str (tx u), .int (ledL L tb u 0)]) ∧ (∀ c ∈ u, c ∈ L) ∧ u.length = k
theorem LayAt.keep {L : W} {tb : List (List Int)} {k : Nat} {H H' : Hp} {as : List Addr} (h : LayAt L tb k H as) (s : ∀ a xs, H a = some (.tup xs) → H' a = some (.tup xs)) : LayAt L tb k H' as := fun a ha => by
  obtain ⟨u, e, r⟩ := h a ha
  exact ⟨u, s _ _ e, r⟩
abbrev tInnerW (K : Frag) : TS := tFor (iList K (tCB (rCopy K) (tCons (tVar 3) tNil))) (gTup K 2 (gCons (gName 6) (gCons (gName 7) gNil)))
  (tDrop (tBM K "list" rExtend (tVar 5) (tCons (RZG.tListZipLT K (tCons (tLc (iStr (tDGet (tVar 0) (tC (.str "letters")))) (gName 8) tYes (tOp rCatS (tVar 6) (tVar 8)) [8]) (tCons (tOp (rIxL K) (tDGet (tVar 0) (tC (.str "table"))) (tVar 7)) tNil))) tNil)))
theorem step_row {L : W} {tb : List (List Int)} {n : Int} (ok : TabOk tb L.length n) (hL : Let L) {x : Int} (hx : 0 ≤ x ∧ x < n) {i c : Nat} (hc : L[i]? = some c) : (tb.getD x.toNat [])[i]? = some (stepL L tb x c) := by
  have hl := ok.len
  have h1 : x.toNat < tb.length := by omega
  have e1 : tb.getD x.toNat [] = tb[x.toNat] := by rw [List.getD_eq_getElem?_getD, List.getElem?_eq_getElem h1] <;> rfl
  have hi := (List.getElem?_eq_some_iff.mp hc).1
  have hc' := (List.getElem?_eq_some_iff.mp hc).2
  have hw := (ok.row _ (List.getElem_mem h1)).1
  have ix : L.idxOf c = i := by
    have nd : L.Nodup := hL.asc.imp fun h => Nat.ne_of_lt h
    rw [← hc']
    exact nd.idxOf_getElem i hi
  unfold stepL
  rw [e1, ix, List.getD_eq_getElem?_getD, List.getElem?_eq_getElem (by omega : i < tb[x.toNat].length)] <;> rfl
section
variable {K : Frag} {H0 H : Hp}
theorem innerW_ok {L : W} {tb : List (List Int)} {n : Int} {i : Nat} {mm F Y Z lt le : Addr} {ts as : List Addr} {x1 x4 x6 x7 x8 : Option V} {Dn : Ends}
    (sm : Same H0 H) (hY : H Y = some (.lst (as.map V.ref))) (hw : LayAt L tb i H as) (hZ : H Z = some (.lst [])) (nZ : H0 Z = none) (hm : H0 mm = some (.dK (pkv L lt le))) (hlt : H0 lt = some (.lst (ts.map V.ref))) (hobj : Objs oTup H0 ts tb) (ok : TabOk tb L.length n) (n1 : 1 ≤ n)
    (hL : Let L) (hi : i ≤ 10) (hx : as.length ≤ 1000)
    (q : ∀ x6 x7 x8 H' bs, (∀ b o, H b = some o → b ≠ Z → H' b = some o) → H' Z = some (.lst (bs.map V.ref)) → LayAt L tb (i + 1) H' bs → bs.length = as.length * L.length →
      Dn.nx [some (.ref mm), x1, some (.ref F), some (.ref Y), x4, some (.ref Z), x6, x7, x8] H') :
    tInnerW K Dn [some (.ref mm), x1, some (.ref F), some (.ref Y), x4, some (.ref Z), x6, x7, x8] H := by
  refine ⟨_, rfl, Y, _, rfl, .inl (SqL.of hY), fun C nC => ⟨C, rfl, ⟨_, SqL.of upd_same⟩, ?_⟩⟩
  have s1 := same_upd (o := .lst (as.map V.ref)) nC
  have CZ : Z ≠ C := fun z => by rw [← z, hZ] at nC; cases nC
  have mne : ∀ {b o}, H0 b = some o → b ≠ Z := fun {b o} e z => by rw [z, nZ] at e; cases e
  refine for_list (xs := as.map V.ref) (fun j σ H' => ∃ x6 x7 x8 bs, σ = [some (.ref mm), x1, some (.ref F), some (.ref Y), x4, some (.ref Z), x6, x7, x8] ∧
    (∀ b o, upd H C (.lst (as.map V.ref)) b = some o → b ≠ Z → H' b = some o) ∧ H' Z = some (.lst (bs.map V.ref)) ∧ LayAt L tb (i + 1) H' bs ∧ bs.length = j * L.length)
    ⟨_, _, _, [], rfl, fun _ _ e _ => e, s1 _ _ hZ, (fun a ha => absurd ha List.not_mem_nil), by simp⟩ (fun j σ H' _ ⟨_, _, _, _, _, k, _⟩ => SqL.of (k _ _ upd_same (Ne.symm CZ))) ?_ ?_
  · rintro j v σ H3 hv ⟨y6, y7, y8, bs, rfl, k3, hZ3, w3, l3⟩
    rw [List.getElem?_map] at hv
    obtain ⟨a, ha, rfl⟩ := Option.map_eq_some_iff.mp hv
    obtain ⟨u, hA, hu, hul⟩ := hw a (List.mem_of_getElem? ha)
    have hA3 := k3 _ _ (s1 _ _ hA) (fun z => by rw [z, hZ] at hA; cases hA)
    have up : ∀ {b o}, H0 b = some o → H3 b = some o := fun {b o} e => k3 _ _ (s1 _ _ (sm _ _ e)) (mne e)
    refine ⟨a, _, rfl, SqT.of hA3, rfl, _, _, rfl, _, _, rfl, rfl, ?_⟩
    refine ⟨_, rfl, .inl ⟨rfl, _, SqL.of hZ3⟩, ?_⟩
    refine ⟨_, rfl, mm, _, rfl, get_let (up hm), tx L, rfl, fun D hD => ?_⟩
    refine lc_it walk_str (fun t H5 => Same H3 H5 ∧ H5 D = some (.lst ((L.take t).map fun c => V.str (tx (u ++ [c]))))) ⟨same_upd hD, upd_same⟩ (fun _ _ _ _ => trivial) ?_ ?_
    · rintro t x H5 H6 ht ⟨s5, hd5⟩ ⟨rfl, c, hx, rfl⟩
      have hx' : L[t]? = some c := by
        rw [← Array.getElem?_toList, tx_list] at hx
        exact hx
      refine ⟨rfl, _, rfl, _, rfl, _, _, rfl, rfl, by rw [tx_len, sizeLine_eq]; show _ + 1 ≤ _; omega, ?_⟩
      refine ⟨_, hd5, by rw [List.length_map, List.length_take, sizeLine_eq]; have := hL.few; omega, same_at s5 hD, ?_⟩
      rw [upd_same, List.take_add_one, hx', show (⟨#[c]⟩ : Str) = tx [c] from rfl, tx_app, List.map_append] <;> rfl
    · rintro H5 ⟨s5, hd5⟩
      rw [size_L, List.take_length] at hd5
      have hl := ledL_in ok (u := u) (st := 0) ⟨Int.le_refl _, by omega⟩ hu
      have hn := ok.len
      have hltb : (ledL L tb u 0).toNat < tb.length := by omega
      obtain ⟨ra, e1, e2⟩ := hobj.get hltb
      have atr : atI (ts.map V.ref) (ledL L tb u 0) = some (.ref ra) := by
        rw [show ledL L tb u 0 = (((ledL L tb u 0).toNat : Nat) : Int) by omega]
        refine atI_nat ?_
        rw [List.getElem?_map, e1] <;> rfl
      have up5 : ∀ {b o}, H0 b = some o → H5 b = some o := fun {b o} e => s5 _ _ (up e)
      have eg : tb.getD (ledL L tb u 0).toNat [] = tb[(ledL L tb u 0).toNat] := by rw [List.getD_eq_getElem?_getD, List.getElem?_eq_getElem hltb] <;> rfl
      have rl : (tb.getD (ledL L tb u 0).toNat []).length = L.length := by rw [eg]; exact (ok.row _ (List.getElem_mem hltb)).1
      refine ⟨_, rfl, mm, _, rfl, get_tab (up5 hm), _, rfl, lt, _, _, _, rfl, rfl, SqL.of (up5 hlt), atr, ?_⟩
      refine ⟨D, ra, _, _, rfl, SqL.of hd5, SqT.of (up5 e2), by rw [List.length_map, List.length_map, rl], fun B Ts H6 nB s6 hB lT mk => ?_⟩
      rw [List.length_map] at lT
      have hja := (List.getElem?_eq_some_iff.mp ha).1
      have few := hL.few
      have jl : j * L.length ≤ 1000 * 3 := Nat.mul_le_mul (by omega) few
      refine ⟨Z, B, _, _, rfl, rfl, s6 _ _ (s5 _ _ hZ3), hB, by rw [List.length_map, List.length_map, sizeLine_eq]; omega, ?_⟩
      rw [← List.map_append]
      have k7 : ∀ b o, H6 b = some o → b ≠ Z → (upd H6 Z (.lst ((bs ++ Ts).map V.ref))) b = some o := fun b o e z => by rw [upd_ne z]; exact e
      refine ⟨_, _, _, bs ++ Ts, rfl, fun b o e z => k7 b o (s6 _ _ (s5 _ _ (k3 b o e z))) z, upd_same, fun b hb => ?_, by rw [List.length_append, l3, lT, Nat.succ_mul]⟩
      rcases List.mem_append.mp hb with hb | hb
      · obtain ⟨u', e', r'⟩ := w3 b hb
        exact ⟨u', k7 _ _ (s6 _ _ (s5 _ _ e')) (fun z => by rw [z, hZ3] at e'; cases e'), r'⟩
      · obtain ⟨t, ht, e⟩ := List.mem_iff_getElem.mp hb
        obtain ⟨x, y, ex, ey, eT⟩ := mk t b (by rw [← e]; exact List.getElem?_eq_getElem ht)
        rw [List.getElem?_map] at ex ey
        obtain ⟨c, hc, rfl⟩ := Option.map_eq_some_iff.mp ex
        rw [step_row ok hL hl hc] at ey
        obtain rfl : V.int (stepL L tb (ledL L tb u 0) c) = y := Option.some.inj ey
        rw [← ledL_snoc] at eT
        exact ⟨u ++ [c], k7 _ _ eT (fun z => by rw [z, s6 _ _ (s5 _ _ hZ3)] at eT; cases eT), fun d hd => (List.mem_append.mp hd).elim (hu d) fun z => List.mem_singleton.mp z ▸ List.mem_of_getElem? hc, by rw [List.length_append, hul] <;> rfl⟩
  · rintro σ H3 ⟨y6, y7, y8, bs, rfl, k3, hZ3, w3, l3⟩
    rw [List.length_map] at l3
    exact q _ _ _ _ bs (fun b o e z => k3 _ _ (s1 _ _ e) z) hZ3 w3 l3
end
section
variable {P : Program} {w : World} {K : PySem.W.Frag} {mg : Str → Option Value} {base : Heap}
theorem scLW : FnScope NLw ["_law_plain", "_law_most"] (defScope sLWords) := ⟨rfl, rfl, rfl, by decide +kernel, rfl, by decide +kernel, by decide +kernel⟩
theorem ok_lwords {f : Addr} {fd : FuncData} (F : Fun K "_law_words" "_law_words" sLWords f fd) (T : TN mg) : FnOk P w K mg base CX0 1 f fd ["_law_plain", "_law_most"] spLWords := by
  refine F.ok scLW (fun vs H Q E h => ?_) (fun cdv A outer s H vs Q E hr h => ?_)
  · obtain ⟨m, _, _, _, _, k, rfl, _⟩ := h
    rfl
  · obtain ⟨m, L, tb, es, n, k, rfl, pm, ok, hL, n1, n2, hk, q⟩ := h
    have hub := hu_of hr
    refine ⟨_, pss_cons (ps_par (i := 2) (j := 3) (by rfl) scLW.nd rfl rfl (by decide) rfl rfl (pa_cons (pe_lst pa_nil) (pa_cons (pe_lst (pa_cons (pe_tup (pa_cons pe_str (pa_cons pe_int pa_nil))) pa_nil)) pa_nil)) (by rfl))
      (pss_cons (ps_for PassesOwn.never rfl (pi_range1 rfl T.rng (pa_cons (pe_op op_add (pv 1) pe_int) pa_nil)) (pg_name (i := 4) scLW.nd rfl (Or.inl rfl))
        (pss_cons (ps_expr (pe_bm PySem.F.plainAttrs_list PySem.F.slot_list_extend PySem.F.type_list_extend mt_extend (pv 2) (pa_cons (pe_lc (own := [("_law_word_here", 6), ("_law_state", 7)]) (g := gTup K 2 (gCons (gName 6) (gCons (gName 7) gNil)))
            (tt := tTest (tOp (rIn K false) (tVar 7) (tDGet (tVar 0) (tC (.str "ends"))))) (te := tVar 6) rfl scLW.nd (pi_list (pv 3))
            (blkOk_by (own := [("_law_word_here", 6), ("_law_state", 7)]) (N := NLw) (sc := defScope sLWords) (by decide +kernel)) (fun _ _ _ _ _ => pg_tup (by rfl) (pgs_cons (pg_name (i := 6) scLW.nd rfl (Or.inl rfl)) (pgs_cons (pg_name (i := 7) scLW.nd rfl (Or.inl rfl)) pgs_nil)))
            (fun _ _ _ _ _ => pts_one (pt_cmpR op_in_seq (pv 7) (pe_dget hub (pv 0) pe_str (fun _ _ => rfl)) (by rfl))) (fun _ _ _ _ _ => pv 6)) pa_nil)))
        (pss_cons (ps_set (i := 5) scLW.nd rfl (Or.inl rfl) (pe_lst pa_nil))
        (pss_cons (ps_for PassesOwn.never rfl (pi_list (pe_callTy call_list_of (by rfl) T.list (by decide +kernel) (pa_cons (pv 3) pa_nil))) (pg_tup (n := 2) (by rfl) (pgs_cons (pg_name (i := 6) scLW.nd rfl (Or.inr rfl)) (pgs_cons (pg_name (i := 7) scLW.nd rfl (Or.inl rfl)) pgs_nil)))
          (pss_one (ps_expr (pe_bm PySem.F.plainAttrs_list PySem.F.slot_list_extend PySem.F.type_list_extend mt_extend (pv 5) (pa_cons (RZG.pe_listZipLT rfl (by rfl) T.list (by rfl) T.zip (pa_cons
            (pe_lc (own := [("_law_letter", 8)]) (g := gName 8) (tt := tYes) (te := tOp rCatS (tVar 6) (tVar 8)) rfl scLW.nd (pi_str (pe_dget hub (pv 0) pe_str (fun _ _ => rfl)))
              (blkOk_by (own := [("_law_letter", 8)]) (N := NLw) (sc := defScope sLWords) (by decide +kernel)) (fun _ _ _ _ _ => pg_name (i := 8) scLW.nd rfl (Or.inl rfl)) (fun _ _ _ _ _ => pts_nil) (fun _ _ _ _ _ => pe_op op_add_str (pv 6) (pv 8)))
            (pa_cons (pe_ix ix_list (pe_dget hub (pv 0) pe_str (fun _ _ => rfl)) (pv 7) (fun _ _ => rfl)) pa_nil))) pa_nil)))))
        (pss_one (ps_set (i := 3) scLW.nd rfl (Or.inl rfl) (pv 5)))))))
      (pss_one (ps_ret (pv 2)))), ?_⟩
    obtain ⟨lt, le, hm, ⟨ts, hlt, hobj⟩, hle⟩ := pm.ex
    have p5 : 3 ^ (k + 1) ≤ 3 ^ 6 := Nat.pow_le_pow_right (by decide) (by omega)
    have few := hL.few
    refine ⟨(by show 0 ≤ sizeLine; decide), fun Fo nF => ⟨(by show 2 ≤ sizeLine; decide), fun a ha => ⟨(by show 1 ≤ sizeLine; decide), fun Y nY => ⟨_, _, rfl, ?_⟩⟩⟩⟩
    have s1 := same_upd (o := .lst []) nF
    have s2 := same_two (o := .tup [V.str "", V.int 0]) s1 ha
    have s3 := same_two (o := .lst [V.ref a]) s2 nY
    have hF0 := (same_upd (o := .lst [V.ref a]) nY) _ _ ((same_upd (o := .tup [V.str "", V.int 0]) ha) _ _ (upd_same (a := Fo) (o := .lst []) (H := H)))
    have hA0 := (same_upd (o := .lst [V.ref a]) nY) _ _ (upd_same (a := a) (o := .tup [V.str "", V.int 0]) (H := upd H Fo (.lst [])))
    have YF : Y ≠ Fo := fun z => by
      rw [z] at nY
      have := (same_upd (o := .tup [V.str "", V.int 0]) ha) _ _ (upd_same (a := Fo) (o := .lst []) (H := H))
      rw [nY] at this
      cases this
    refine ⟨_, rfl, _, _, rfl, rfl, _, rfl, ?_⟩
    rw [show ((k : Int) + 1) = ((k + 1 : Nat) : Int) by omega]
    refine ⟨by omega, by omega, ?_⟩
    refine for_it walk_range (fun i σ H3 => ∃ (us : List W) (as : List Addr) (Y : Addr) (x4 x5 x6 x7 x8 : Option V), σ = [some (.ref m), some (.int ((k : Nat) : Int)), some (.ref Fo), some (.ref Y), x4, x5, x6, x7, x8] ∧ Same H H3 ∧
      H3 Fo = some (.lst (us.map fun u => V.str (tx u))) ∧ H3 Y = some (.lst (as.map V.ref)) ∧ Y ≠ Fo ∧ LayAt L tb i H3 as ∧ (∀ u ∈ us, WordOf L tb es k u) ∧ us.length ≤ 3 ^ i ∧ as.length ≤ 3 ^ i)
      ⟨[], [a], Y, _, _, _, _, _, rfl, s3, hF0, upd_same, YF, fun b hb => ⟨[], List.mem_singleton.mp hb ▸ hA0, (fun c hc => absurd hc List.not_mem_nil), rfl⟩, (fun u hu => absurd hu List.not_mem_nil), Nat.zero_le _, Nat.le_refl _⟩ (fun _ _ _ _ _ => trivial) ?_ ?_
    · rintro i xi σ H3 H4 hi ⟨us, as, Y, x4, x5, x6, x7, x8, rfl, s3, hF, hY, YF, hw, hu, ul, al⟩ ⟨e3, exi⟩
      subst e3
      have p6 : 3 ^ i ≤ 3 ^ 5 := Nat.pow_le_pow_right (by decide) (by omega)
      refine ⟨_, rfl, .inl ⟨rfl, _, SqL.of hF⟩, ?_⟩
      refine ⟨_, rfl, Y, rfl, ⟨_, SqL.of hY⟩, fun D hD => ?_⟩
      refine lc_it walk_list (fun j H5 => Same H4 H5 ∧ ∃ ws : List W, H5 D = some (.lst (ws.map fun u => V.str (tx u))) ∧ (∀ u ∈ ws, WordOf L tb es k u) ∧ ws.length ≤ j) ⟨same_upd hD, [], upd_same, (fun u hu => absurd hu List.not_mem_nil), Nat.le_refl _⟩ (fun _ _ _ h => SqL.of (h.1 _ _ hY)) ?_ ?_
      · rintro j x H5 H6 hj ⟨s5, ws, hd5, g5, l5⟩ ⟨rfl, hx⟩
        rw [List.length_map] at hj
        rw [List.getElem?_map] at hx
        obtain ⟨a, ha, rfl⟩ := Option.map_eq_some_iff.mp hx
        obtain ⟨u, hA, hul, hue⟩ := hw a (List.mem_of_getElem? ha)
        refine ⟨a, _, rfl, SqT.of (s5 _ _ hA), rfl, _, _, rfl, _, _, rfl, rfl, rfl, ?_⟩
        refine ⟨_, rfl, _, rfl, m, _, rfl, get_ends (s5 _ _ (s3 _ _ hm)), le, _, rfl, .inl (SqL.of (s5 _ _ (s3 _ _ hle))), rfl, all_flat es, _, rfl, ite2 (fun z => ?_) (fun z => ?_)⟩
        · rw [if_neg (by decide), in_ints] at z
          have z := of_decide_eq_true z
          refine ⟨_, rfl, _, hd5, by rw [List.length_map, sizeLine_eq]; omega, same_at s5 hD, ws ++ [u], ?_, fun v hv => (List.mem_append.mp hv).elim (g5 v) fun w => List.mem_singleton.mp w ▸ ⟨hul, by omega, z⟩, by rw [List.length_append]; show _ + 1 ≤ _; omega⟩
          rw [upd_same, List.map_append] <;> rfl
        · exact ⟨s5, ws, hd5, g5, by omega⟩
      · rintro H5 ⟨s5, ws, hd5, g5, l5⟩
        rw [List.length_map] at l5
        have DF : D ≠ Fo := fun z => by rw [z, hF] at hD; cases hD
        have DY : D ≠ Y := fun z => by rw [z, hY] at hD; cases hD
        refine ⟨Fo, D, _, _, rfl, rfl, s5 _ _ hF, hd5, by rw [List.length_map, List.length_map, sizeLine_eq]; omega, ?_⟩
        rw [← List.map_append]
        have k6 : ∀ b o, H4 b = some o → b ≠ Fo → (upd H5 Fo (.lst ((us ++ ws).map fun u => V.str (tx u)))) b = some o := fun b o e z => by rw [upd_ne z]; exact s5 _ _ e
        have s6 : Same H (upd H5 Fo (.lst ((us ++ ws).map fun u => V.str (tx u)))) := fun b o e => k6 b o (s3 _ _ e) fun z => by rw [z, nF] at e; cases e
        have hF6 : (upd H5 Fo (.lst ((us ++ ws).map fun u => V.str (tx u)))) Fo = some (.lst ((us ++ ws).map fun u => V.str (tx u))) := upd_same
        have hY6 := k6 _ _ hY YF
        have hw6 : LayAt L tb i (upd H5 Fo (.lst ((us ++ ws).map fun u => V.str (tx u)))) as := hw.keep fun b xs e => k6 _ _ e fun z => by rw [z, hF] at e; cases e
        revert s6 hF6 hY6 hw6
        generalize upd H5 Fo (.lst ((us ++ ws).map fun u => V.str (tx u))) = H6
        intro s6 hF6 hY6 hw6
        refine ⟨(by show 0 ≤ sizeLine; decide), fun Z nZ => ?_⟩
        have s7 := same_upd (o := .lst []) nZ
        have ZF : Z ≠ Fo := fun z => by rw [z, hF6] at nZ; cases nZ
        refine innerW_ok (H0 := H) (i := i) (as := as) (s6.trans s7) (s7 _ _ hY6) (hw6.keep fun b xs e => s7 _ _ e) upd_same (s6.free nZ) hm hlt hobj ok n1 hL (by omega) (by omega) fun y6 y7 y8 H' bs k' hZ' hw' lb => ?_
        have keepH : Same H H' := fun b o e => k' _ _ (s7 _ _ (s6 _ _ e)) fun z => by rw [z, s6.free nZ] at e; cases e
        refine ⟨_, rfl, us ++ ws, bs, Z, _, _, _, _, _, rfl, keepH, k' _ _ (s7 _ _ hF6) (Ne.symm ZF), hZ', ZF, hw', fun v hv => (List.mem_append.mp hv).elim (hu v) (g5 v), ?_, ?_⟩
        · rw [List.length_append, Nat.pow_succ]
          omega
        · rw [lb, Nat.pow_succ]
          exact Nat.mul_le_mul al few
    · rintro σ H3 ⟨us, as, Y, x4, x5, x6, x7, x8, rfl, s3, hF, hY, YF, hw, hu, ul, al⟩
      exact ⟨_, rfl, q Fo us H3 nF s3 hF hu ul⟩
end
end WK
set_option Elab.async false
set_option linter.all false
set_option maxRecDepth 100000
set_option maxHeartbeats 8000000
namespace WK
open PySem L2 PyProof.Rows LCX K1 FV DP
open TX (sg sigs)
open PySem.W (Frag kitOne)
open RX (cntI ringsN)
abbrev sLR : Stmt := top 82
abbrev NR9 : List Str := ["_law_dice_here", "_law_letters_here", "_law_plain", "_law_machine_here", "_law_state", "_law_words_here", "_law_word_here", "_law_rings", "_law_way_here", "_law_turn", "_law_at", "_law_drawn", "_law_led_here", "_law_comes_back", "_law_some", "_law_gone_here", "_law_more", "_law_ring", "_law_times"]
theorem PlainM.but {H H' : Hp} {m p : Addr} {L : W} {tm : List (List Int)} {es : List Int} (h : PlainM H m L tm es) (off : OffP H m p L) (hD : DiceAt H p) (b : But p H H') : PlainM H' m L tm es ∧ OffP H' m p L := by
  obtain ⟨lt, l, h1, h2, h3⟩ := h.ex
  obtain ⟨n1, n2⟩ := off _ _ h1
  have nm : m ≠ p := fun n => by
    obtain ⟨_, _, _, e, _⟩ := hD
    rw [n, e] at h1
    cases h1
  have g1 := b _ _ h1 nm
  refine ⟨⟨lt, l, g1, h2.but n1 hD b, b _ _ h3 n2⟩, fun a c e => ?_⟩
  rw [g1] at e
  injection e with e
  injection e with e
  obtain ⟨rfl, rfl⟩ := pkv_inj e
  exact ⟨n1, n2⟩
theorem PlainM.same {H H' : Hp} {m : Addr} {L : W} {tm : List (List Int)} {es : List Int} (h : PlainM H m L tm es) (s : Same H H') : PlainM H' m L tm es := by
  obtain ⟨lt, le, h1, h2, h3⟩ := h.ex
  exact ⟨lt, le, s _ _ h1, h2.same s, s _ _ h3⟩
theorem MacAt.but {C : Addr} {H H' : Hp} {o p : Addr} {L : W} {tb : List (List Int)} {es : List Int} (h : MacAt C H o L tb es) (hD : DiceAt H p) (b : But p H H') : MacAt C H' o L tb es := by
  obtain ⟨dx, t, e, ts, h1, h2, h3, h4⟩ := h.ex
  obtain ⟨_, _, _, ep, _⟩ := hD
  have keep : ∀ {c : Addr} {u : HO}, H c = some u → (∀ xs, u ≠ .lst xs) → H' c = some u := fun hc no => b _ _ hc fun n => no _ (Option.some.inj (hc.symm.trans (n ▸ ep)))
  exact ⟨dx, t, e, ts, keep h1 (fun _ z => nomatch z), keep h2 (fun _ z => nomatch z), h3.to fun _ _ _ z => keep z (fun _ z => nomatch z), keep h4 (fun _ z => nomatch z)⟩
/-- a drawn machine, told and made -/
structure Scn (C : Addr) (H : Hp) (p m o : Addr) (L : W) (tb : List (List Int)) (es : List Int) : Prop where
  dice : DiceAt H p
  plain : PlainM H m L tb es
  off : OffP H m p L
  mac : MacAt C H o L tb es
theorem DiceAt.sm {H H' : Hp} {p : Addr} (h : DiceAt H p) (s : Same H H') : DiceAt H' p := h.keep fun o e => s _ _ e
theorem Scn.but {C : Addr} {H H' : Hp} {p m o : Addr} {L : W} {tb : List (List Int)} {es : List Int} (h : Scn C H p m o L tb es) (hD : DiceAt H' p) (b : But p H H') : Scn C H' p m o L tb es :=
  let ⟨a, c⟩ := h.plain.but h.off h.dice b
  ⟨hD, a, c, h.mac.but h.dice b⟩
theorem Scn.same {C : Addr} {H H' : Hp} {p m o : Addr} {L : W} {tb : List (List Int)} {es : List Int} (h : Scn C H p m o L tb es) (s : Same H H') : Scn C H' p m o L tb es := h.but (h.dice.sm s) (But.ofSame s)
/-- rings that were drawn -/
def RgD (L : W) (tb : List (List Int)) (u : W) (a : Int) (r : Int × W × Int) : Prop := RgIn L tb u r ∧ r.2.2 ≤ a ∧ r.2.1.length ≤ 4
theorem RgD.gone {L : W} {tb : List (List Int)} {u : W} {a : Int} {rs : List (Int × W × Int)} (h : ∀ r ∈ rs, RgD L tb u a r) (ha : 0 ≤ a ∧ a ≤ 4) (hu : u.length ≤ 4) (hr : rs.length ≤ 3) (uc : ∀ c ∈ u, c ∈ L) :
    (goneN u rs (u.length + 1)).length ≤ 52 ∧ (∀ c ∈ goneN u rs (u.length + 1), c ∈ L) ∧ sumN L u rs = cntI L (goneN u rs (u.length + 1)) := by
  refine ⟨?_, fun c hc => ?_, sum_gone fun r hr => ⟨(h r hr).1.2.1, (h r hr).1.2.2.1, (h r hr).1.1.2.2.1⟩⟩
  · have := gone_short (u := u) (rs := rs) (a := 4) (b := 4) fun r hr => ⟨(h r hr).1.2.1, (h r hr).1.2.2.1, (h r hr).1.1.2.2.1, by have := (h r hr).2.1; omega, (h r hr).2.2⟩
    omega
  · exact (mem_goneN hc).elim (uc c) fun ⟨r, hr, z⟩ => (h r hr).1.1.2.1 c z
theorem RgD.led {L : W} {tb : List (List Int)} {n : Int} {u : W} {a : Int} {rs : List (Int × W × Int)} (ok : TabOk tb L.length n) (n1 : 1 ≤ n) (uc : ∀ c ∈ u, c ∈ L) (h : ∀ r ∈ rs, RgD L tb u a r) : ledL L tb (goneN u rs (u.length + 1)) 0 = ledL L tb u 0 := by
  rw [led_gone fun r hr => ?_, List.take_of_length_le (by omega)]
  have z := (leads_iff.mp (h r hr).1.2.2.2).2.2
  have b := ledL_in ok (u := u.take r.1.toNat) (st := 0) ⟨Int.le_refl _, by omega⟩ fun c hc => uc c (List.mem_of_mem_take hc)
  rw [Int.toNat_of_nonneg b.1] at z
  exact z
def moreR (r : Int × W × Int) : Int × W × Int := (r.1, r.2.1, r.2.2 + 1)
theorem RgD.more {L : W} {tb : List (List Int)} {u : W} {rs : List (Int × W × Int)} (h : ∀ r ∈ rs, RgD L tb u 3 r) : ∀ r ∈ rs.map moreR, RgD L tb u 4 r := fun r hr => by
  obtain ⟨r', hr', rfl⟩ := List.mem_map.mp hr
  obtain ⟨⟨⟨a1, a2, a3, a4⟩, a5, a6, a7⟩, a8, a9⟩ := h r' hr'
  exact ⟨⟨⟨a1, a2, (by show 0 ≤ r'.2.2 + 1; omega), (by show r'.2.2 + 1 ≤ 60; omega)⟩, a5, a6, a7⟩, (by show r'.2.2 + 1 ≤ 4; omega), a9⟩
theorem lay_il (l : List Int) : SeqAt.shaped (.tuple (l.map PyData.int)) = true ∧ SeqAt.shaped (.list (l.map PyData.int)) = true := by
  constructor <;>
  · unfold SeqAt.shaped
    show (PyData.canLayAll0 _ && decide (PyData.depthAll _ + 1 ≤ 64)) = true
    rw [lay_ints, deep_ints] <;> rfl
theorem RgAt.snoc {H : Hp} {as : List Addr} {rs : List (Int × W × Int)} {a : Addr} {r : Int × W × Int} (h : RgAt H as rs) (e : H a = some (oRg r)) : RgAt H (as ++ [a]) (rs ++ [r]) := by
  refine ⟨by rw [List.length_append, List.length_append, h.1] <;> rfl, fun i x hx => ?_⟩
  by_cases hi : i < rs.length
  · rw [List.getElem?_append_left hi] at hx
    rw [List.getElem?_append_left (by rw [h.1]; exact hi)]
    exact h.2 i x hx
  · have hi2 := (List.getElem?_eq_some_iff.mp hx).1
    rw [List.length_append, List.length_singleton] at hi2
    have : i = rs.length := by omega
    subst this
    rw [List.getElem?_append_right (Nat.le_refl _), Nat.sub_self] at hx
    rw [List.getElem?_append_right (Nat.le_of_eq h.1), h.1, Nat.sub_self]
    exact ⟨a, rfl, Option.some.inj hx ▸ e⟩
/-- what the end of right speaks of -/
structure EndS (C : Addr) (H : Hp) (p m o Rg : Addr) (L : W) (tb : List (List Int)) (es : List Int) (n : Int) (u : W) (rs : List (Int × W × Int)) : Prop where
  scn : Scn C H p m o L tb es
  tab : TabOk tb L.length n
  one : 1 ≤ n
  few : n ≤ 4
  lt : Let L
  short : u.length ≤ 4
  over : ∀ c ∈ u, c ∈ L
  word : ledL L tb u 0 ∈ es
  rg : ∃ as : List Addr, H Rg = some (.lst (as.map V.ref)) ∧ RgAt H as rs
  rl : rs.length ≤ 3
  rd : ∀ r ∈ rs, RgD L tb u 3 r
theorem EndS.same {C : Addr} {H H' : Hp} {p m o Rg : Addr} {L : W} {tb : List (List Int)} {es : List Int} {n : Int} {u : W} {rs : List (Int × W × Int)} (h : EndS C H p m o Rg L tb es n u rs) (s : Same H H') : EndS C H' p m o Rg L tb es n u rs :=
  ⟨h.scn.same s, h.tab, h.one, h.few, h.lt, h.short, h.over, h.word, let ⟨as, e1, e2⟩ := h.rg; ⟨as, s _ _ e1, e2.same s⟩, h.rl, h.rd⟩
section
variable {P : Program} {w : World} {K : PySem.W.Frag} {mg : Str → Option Value} {base : Heap} {C cD cM gH fGn fHs fSS fC : Addr} {dGn dHs dSS dC : FuncData}
theorem scR9 : FnScope NR9 ["_law_dice_here"] (defScope sLR) := ⟨rfl, rfl, rfl, by decide +kernel, rfl, by decide +kernel, by decide +kernel⟩
theorem right_end {cdv : Value} {A : Around} {outer : List Env} {s : Shared} {H : Hp} {E : XK} {f : Addr} (T : TN mg)
    (hr : Room 7 (A.deeper (envOfC "_law_right" (defScope sLR) s.heap.objs.size f cdv)))
    (hN : PySem.W.findIn K (.ref C) "__contains__" = some (some (.ref gH))) (iN : PySem.W.isFn K (.ref gH) = true) (GH : FnR P w K mg base CX0 2 gH (spMHas C))
    (AGn : Fn K mg "_law_gone" sGone ["_law_word_here", "_law_rings"] fGn dGn) (GGn : FnOk P w K mg base CX0 1 fGn dGn ["_law_word_here", "_law_rings"] spGone) (AHs : Fn K mg "_law_has" sLHas ["_law_plain", "_law_word_here"] fHs dHs) (GHs : FnOk P w K mg base CX0 2 fHs dHs ["_law_plain", "_law_word_here"] spLHas)
    (ASS : Fn K mg "side_sum" sSideSum ["machine", "side"] fSS dSS) (GSS : FnOk P w K mg base CX0 7 fSS dSS ["machine", "side"] (spSideSum C)) (AC : Fn K mg "counts" sCounts ["letters", "word"] fC dC) (GC : FnOk P w K mg base CX0 4 fC dC ["letters", "word"] spCounts) :
    ∃ t, PSs (cxOf CX0 P w K mg base NR9 "_law_right" (defScope sLR) f cdv A outer s H E).nox ((defBody sLR).drop 10) t ∧
      ∀ (D : Ends) (H1 : Hp) (p m o Rg : Addr) (L : W) (tb : List (List Int)) (es : List Int) (n : Int) (u : W) (rs : List (Int × W × Int)) (x4 x5 x8 x9 x10 x11 x12 x13 x14 x15 x16 x17 x18 : Option V), EndS C H1 p m o Rg L tb es n u rs → (∀ H', Same H1 H' → D.rt (.bl true) H') →
        t D [some (.ref p), some (.str (tx L)), some (.ref m), some (.ref o), x4, x5, some (.str (tx u)), some (.ref Rg), x8, x9, x10, x11, x12, x13, x14, x15, x16, x17, x18] H1 := by
  have hr1 : Room 1 _ := hr.mono (by decide)
  have hr2 : Room 2 _ := hr.mono (by decide)
  have hr4 : Room 4 _ := hr.mono (by decide)
  refine ⟨_, pss_cons (ps_par (i := 15) (j := 16) (by rfl) scR9.nd rfl rfl (by decide) rfl rfl (pa_cons (pe_call (E := E0) GGn hr1 rfl AGn.g AGn.F.kp AGn.b .nil pass0 (pa_cons (pv 6) (pa_cons (pv 7) pa_nil)))
      (pa_cons (pe_lc (own := [("_law_at", 10), ("_law_ring", 17), ("_law_times", 18)]) (g := gTup K 3 (gCons (gName 10) (gCons (gName 17) (gCons (gName 18) gNil)))) (tt := tYes) (te := tTup (tCons (tVar 10) (tCons (tVar 17) (tCons (tOp rAdd (tVar 18) (tC (.int 1))) tNil)))) rfl scR9.nd (pi_list (pv 7))
        (blkOk_by (own := [("_law_at", 10), ("_law_ring", 17), ("_law_times", 18)]) (N := NR9) (sc := defScope sLR) (by decide +kernel)) (fun _ _ _ _ _ => pg_tup (by rfl) (pgs_cons (pg_name (i := 10) scR9.nd rfl (Or.inl rfl)) (pgs_cons (pg_name (i := 17) scR9.nd rfl (Or.inl rfl)) (pgs_cons (pg_name (i := 18) scR9.nd rfl (Or.inl rfl)) pgs_nil))))
        (fun _ _ _ _ _ => pts_nil) (fun _ _ _ _ _ => pe_tup (pa_cons (pv 10) (pa_cons (pv 17) (pa_cons (pe_op op_add (pv 18) pe_int) pa_nil))))) pa_nil)) (by rfl))
    (pss_cons (ps_if (PW.pt (pw_or (pt_not (pt_val (pe_call (E := E0) GHs hr2 rfl AHs.g AHs.F.kp AHs.b .nil pass0 (pa_cons (pv 2) (pa_cons (pv 15) pa_nil))))) (pw_or1 (pt_cmpR (OWN.op_notinO hN iN GH hr2) (pv 15) (pv 3) (by rfl))))) (pss_one (ps_ret pe_bl)) pss_nil)
    (pss_cons (ps_if (pt_cmpR (op_neD hr.units) (pe_call (E := E0) GSS hr rfl ASS.g ASS.F.kp ASS.b .nil pass0 (pa_cons (pv 3) (pa_cons (pe_tup (pa_cons (pv 6) (pa_cons (pe_callTy call_tuple_of (by rfl) T.tuple (by decide +kernel) (pa_cons (pv 7) pa_nil)) pa_nil))) pa_nil))) (pe_call (E := E0) GC hr4 rfl AC.g AC.F.kp AC.b .nil pass0 (pa_cons (pv 1) (pa_cons (pv 15) pa_nil))) (nomark _)) (pss_one (ps_ret pe_bl)) pss_nil)
    (pss_one (ps_ret (pe_cmpR (op_eqD hr.units) (pe_call (E := E0) GSS hr rfl ASS.g ASS.F.kp ASS.b .nil pass0 (pa_cons (pv 3) (pa_cons (pe_tup (pa_cons (pv 6) (pa_cons (pe_callTy call_tuple_of (by rfl) T.tuple (by decide +kernel) (pa_cons (pv 16) pa_nil)) pa_nil))) pa_nil)))
      (pe_call (E := E0) GC hr4 rfl AC.g AC.F.kp AC.b .nil pass0 (pa_cons (pv 1) (pa_cons (pe_call (E := E0) GGn hr1 rfl AGn.g AGn.F.kp AGn.b .nil pass0 (pa_cons (pv 6) (pa_cons (pv 16) pa_nil))) pa_nil))) (nomark _)))))), ?_⟩
  intro D H1 p m o Rg L tb es n u rs x4 x5 x8 x9 x10 x11 x12 x13 x14 x15 x16 x17 x18 S q
  obtain ⟨g1, g2, g3⟩ := RgD.gone S.rd ⟨by decide, by decide⟩ S.short S.rl S.over
  have md := RgD.more S.rd
  obtain ⟨h1, h2, h3⟩ := RgD.gone md ⟨by decide, by decide⟩ S.short (by rw [List.length_map]; exact S.rl) S.over
  have el := RgD.led S.tab S.one S.over S.rd
  have low : ∀ {v : W}, (∀ c ∈ v, c ∈ L) → Low v := fun h c hc => S.lt.low c (h c hc)
  obtain ⟨as, hRg, hra⟩ := S.rg
  have sh := S.short
  have rl := S.rl
  have n4 := S.few
  refine ⟨_, rfl, _, rfl, Rg, u, rs, as, rfl, hRg, hra, by omega, by omega, fun r hr => ⟨by have := (S.rd r hr).2.2; omega, (S.rd r hr).1.1.2.2.1, (S.rd r hr).1.1.2.2.2⟩, ?_⟩
  generalize eg : goneN u rs (u.length + 1) = g at *
  refine ⟨_, rfl, Rg, rfl, ⟨_, SqL.of hRg⟩, fun D2 hD2 => ?_⟩
  refine lc_it walk_list (fun j H' => Same H1 H' ∧ ∃ bs : List Addr, H' D2 = some (.lst (bs.map V.ref)) ∧ RgAt H' bs ((rs.take j).map moreR)) ⟨same_upd hD2, [], upd_same, rfl, fun i r hr => by simp at hr⟩ (fun _ _ _ h => SqL.of (h.1 _ _ hRg)) ?_ ?_
  · rintro j x H3 H4 hj ⟨s3, bs, hd, hb⟩ ⟨rfl, hx⟩
    rw [List.length_map] at hj
    rw [List.getElem?_map] at hx
    obtain ⟨a, ha, rfl⟩ := Option.map_eq_some_iff.mp hx
    have hjr : j < rs.length := by rw [← hra.1]; exact hj
    obtain ⟨a', ha', hA⟩ := hra.2 j rs[j] (List.getElem?_eq_getElem hjr)
    obtain rfl : a = a' := Option.some.inj (ha.symm.trans ha')
    refine ⟨a, _, rfl, SqT.of (s3 _ _ hA), rfl, _, _, rfl, _, _, rfl, _, _, rfl, rfl, rfl, ?_⟩
    refine ⟨_, rfl, _, rfl, _, rfl, _, _, rfl, rfl, (by show 3 ≤ sizeLine; decide), fun t ht => ?_⟩
    have st := same_upd (o := oRg (moreR rs[j])) ht
    have bl : bs.length ≤ 3 := by rw [hb.1, List.length_map, List.length_take]; omega
    refine ⟨_, st _ _ hd, by rw [List.length_map, sizeLine_eq]; omega, same_at (s3.trans st) hD2, bs ++ [t], ?_, ?_⟩
    · rw [upd_same, List.map_append] <;> rfl
    · rw [List.take_add_one, List.getElem?_eq_getElem hjr, List.map_append]
      have k : ∀ b xs, (upd H4 t (oRg (moreR rs[j]))) b = some (.tup xs) → (upd (upd H4 t (oRg (moreR rs[j]))) D2 (.lst (bs.map V.ref ++ [V.ref t]))) b = some (.tup xs) := fun b xs e => by
        rw [upd_ne (fun z => by rw [z, st _ _ hd] at e; cases e)]
        exact e
      have hb2 : RgAt (upd (upd H4 t (oRg (moreR rs[j]))) D2 (.lst (bs.map V.ref ++ [V.ref t]))) bs ((rs.take j).map moreR) := ⟨hb.1, fun i r hr => by
        obtain ⟨b, e1, e2⟩ := hb.2 i r hr
        exact ⟨b, e1, k _ _ (st _ _ e2)⟩⟩
      exact hb2.snoc (k _ _ upd_same)
  rintro H3 ⟨s3, bs, hd, hb⟩
  rw [List.length_map, hra.1, List.take_length] at hb
  have S3 := S.same s3
  have hRg3 := s3 _ _ hRg
  have hra3 := hra.same s3
  obtain ⟨dx, t0, e0, ts0, hm, _⟩ := id S3.scn.mac.ex
  refine ⟨_, _, rfl, ?_⟩
  refine ⟨_, rfl, _, rfl, m, L, g, tb, es, n, rfl, S3.scn.plain, S.tab, S.lt, S.one, g2, _, rfl, ite2 (fun z => ?_) (fun _ => ?_)⟩
  · rw [el, decide_eq_true S.word] at z
    cases z
  refine ⟨_, rfl, _, rfl, o, dx, _, rfl, hm, o, L, g, tb, es, n, rfl, S.lt, S3.scn.mac, S.tab, S.one, by omega, low g2, by omega, g2, fun H4 s4 => ⟨_, rfl, _, rfl, ?_⟩⟩
  rw [el, decide_eq_true S.word]
  refine ite2 (fun z => by cases z) (fun _ => ?_)
  have S4 := S3.same s4
  have hRg4 := s4 _ _ hRg3
  refine ⟨_, rfl, _, rfl, _, rfl, Rg, _, rfl, .inl ⟨SqL.of hRg4, fun t1 ht1 => ⟨(by show 2 ≤ sizeLine; decide), fun p1 hp1 => ?_⟩⟩⟩
  have s5 := same_upd (o := .tup (as.map V.ref)) ht1
  have s6 := same_upd (o := .tup [V.str (tx u), V.ref t1]) hp1
  have s56 := s4.trans (s5.trans s6)
  have S6 := S3.same s56
  refine ⟨o, p1, L, u, tb, es, n, rs, rfl, S.lt, S6.scn.mac, S.tab, S.one, by omega, by omega, S.over, S.word, ⟨t1, as, upd_same, s6 _ _ upd_same, hra3.same s56⟩, by omega, fun r hr => (S.rd r hr).1, fun t2 H7 nt2 s7 ht2 => ?_⟩
  have S7 := S6.same s7
  refine ⟨_, rfl, _, rfl, L, g, rfl, S.lt, low g2, by omega, g2, fun t3 H8 nt3 s8 ht3 => ?_⟩
  rw [cnt_oTup, ← g3] at ht3
  refine ⟨.tuple ((sumN L u rs).map PyData.int), .tuple ((sumN L u rs).map PyData.int), .tup (SqT.of (s8 _ _ ht2)) (dp_ints _), .tup (SqT.of ht3) (dp_ints _), (lay_il _).1, (lay_il _).1, _, rfl, ite2 (fun e => ?_) (fun _ => ?_)⟩
  · rw [SeqAt.eqv_refl _ (SeqAt.canLay_of_shaped (lay_il _).1)] at e
    cases e
  have S8 := S7.same s8
  have s38 := s56.trans (s7.trans s8)
  have hd8 := s38 _ _ hd
  have hb8 := hb.same s38
  refine ⟨_, rfl, _, rfl, _, rfl, D2, _, rfl, .inl ⟨SqL.of hd8, fun t4 ht4 => ⟨(by show 2 ≤ sizeLine; decide), fun p4 hp4 => ?_⟩⟩⟩
  have s9 := same_upd (o := .tup (bs.map V.ref)) ht4
  have s10 := same_upd (o := .tup [V.str (tx u), V.ref t4]) hp4
  have s910 := s9.trans s10
  have S10 := S8.same s910
  refine ⟨o, p4, L, u, tb, es, n, rs.map moreR, rfl, S.lt, S10.scn.mac, S.tab, S.one, by omega, by omega, S.over, S.word, ⟨t4, bs, upd_same, s10 _ _ upd_same, hb8.same s910⟩, by rw [List.length_map]; omega, fun r hr => (md r hr).1, fun t5 H11 nt5 s11 ht5 => ?_⟩
  have s811 := s910.trans s11
  refine ⟨_, rfl, _, rfl, _, rfl, D2, u, rs.map moreR, bs, rfl, s811 _ _ hd8, hb8.same s811, by omega, by rw [List.length_map]; omega, fun r hr => ⟨by have := (md r hr).2.2; omega, (md r hr).1.1.2.2.1, (md r hr).1.1.2.2.2⟩, ?_⟩
  refine ⟨L, _, rfl, S.lt, low h2, by omega, h2, fun t6 H12 nt6 s12 ht6 => ?_⟩
  rw [cnt_oTup, ← h3] at ht6
  refine ⟨.tuple ((sumN L u (rs.map moreR)).map PyData.int), .tuple ((sumN L u (rs.map moreR)).map PyData.int), .tup (SqT.of (s12 _ _ ht5)) (dp_ints _), .tup (SqT.of ht6) (dp_ints _), (lay_il _).1, (lay_il _).1, ?_⟩
  rw [SeqAt.eqv_refl _ (SeqAt.canLay_of_shaped (lay_il _).1)]
  exact q H12 (s3.trans (s38.trans (s811.trans s12)))
end
end WK
set_option Elab.async false
set_option linter.all false
set_option maxRecDepth 100000
set_option maxHeartbeats 8000000
namespace WK
open PySem L2 PyProof.Rows LCX K1 FV DP
open TX (sg sigs)
open PySem.W (Frag kitOne)
open RX (cntI ringsN)
/-- rings are being drawn; H6: ahead of their list -/
structure LoopS (C : Addr) (H6 H : Hp) (p m o Rg Wy : Addr) (L : W) (tb : List (List Int)) (es : List Int) (u : W) (rs : List (Int × W × Int)) : Prop where
  base : Scn C H6 p m o L tb es
  but : But p H6 H
  dice : DiceAt H p
  nrg : H6 Rg = none
  way : H Wy = some (.lst ((spotsN L tb u u.length).map V.int))
  wp : Wy ≠ p
  wr : Wy ≠ Rg
  rp : Rg ≠ p
  rg : ∃ as : List Addr, H Rg = some (.lst (as.map V.ref)) ∧ RgAt H as rs
  rd : ∀ r ∈ rs, RgD L tb u 3 r
section
variable {C : Addr} {H6 H H' : Hp} {p m o Rg Wy : Addr} {L u : W} {tb : List (List Int)} {es : List Int} {n : Int} {rs : List (Int × W × Int)}
theorem RgAt.but {as : List Addr} (h : RgAt H as rs) (hD : DiceAt H p) (b : But p H H') : RgAt H' as rs := ⟨h.1, fun i r e => by
  obtain ⟨a, e1, e2⟩ := h.2 i r e
  exact ⟨a, e1, b _ _ e2 (hD.tup e2)⟩⟩
theorem LoopS.to (h : LoopS C H6 H p m o Rg Wy L tb es u rs) (hD : DiceAt H' p) (b : But p H H') : LoopS C H6 H' p m o Rg Wy L tb es u rs :=
  ⟨h.base, h.but.trans b, hD, h.nrg, b _ _ h.way h.wp, h.wp, h.wr, h.rp, let ⟨as, e1, e2⟩ := h.rg; ⟨as, b _ _ e1 h.rp, e2.but h.dice b⟩, h.rd⟩
theorem LoopS.sm (h : LoopS C H6 H p m o Rg Wy L tb es u rs) (s : Same H H') : LoopS C H6 H' p m o Rg Wy L tb es u rs := h.to (h.dice.sm s) (But.ofSame s)
theorem LoopS.scn (h : LoopS C H6 H p m o Rg Wy L tb es u rs) : Scn C H p m o L tb es := h.base.but h.dice h.but
theorem spots_at (u : W) {r : Int} (h : 0 ≤ r ∧ r ≤ u.length) : atI ((spotsN L tb u u.length).map V.int) r = some (.int (ledL L tb (u.take r.toNat) 0)) := by
  rw [show r = ((r.toNat : Nat) : Int) by omega]
  refine atI_nat ?_
  unfold spotsN
  rw [List.getElem?_map, List.getElem?_map, List.getElem?_range (by omega)] <;> rfl
/-- one ring more -/
theorem LoopS.add (h : LoopS C H6 H p m o Rg Wy L tb es u rs) {a : Addr} {as : List Addr} {r : Int × W × Int} (e1 : H Rg = some (.lst (as.map V.ref))) (e2 : RgAt H as rs) (ha : H a = some (oRg r)) (hd : RgD L tb u 3 r) :
    LoopS C H6 (upd H Rg (.lst ((as ++ [a]).map V.ref))) p m o Rg Wy L tb es u (rs ++ [r]) := by
  have k : ∀ b xs, H b = some (.tup xs) → (upd H Rg (.lst ((as ++ [a]).map V.ref))) b = some (.tup xs) := fun b xs e => by
    rw [upd_ne (fun z => by rw [z, e1] at e; cases e)]
    exact e
  refine ⟨h.base, fun b ob e z => ?_, h.dice.keep fun ob e => ?_, h.nrg, ?_, h.wp, h.wr, h.rp, ⟨as ++ [a], upd_same, ?_⟩, fun x hx => (List.mem_append.mp hx).elim (h.rd x) fun z => List.mem_singleton.mp z ▸ hd⟩
  · rw [upd_ne (fun z => by rw [z, h.nrg] at e; cases e)]
    exact h.but b ob e z
  · rw [upd_ne (Ne.symm h.rp)]
    exact e
  · rw [upd_ne h.wr]
    exact h.way
  · have e2' : RgAt (upd H Rg (.lst ((as ++ [a]).map V.ref))) as rs := ⟨e2.1, fun i x hx => by
      obtain ⟨b, z1, z2⟩ := e2.2 i x hx
      exact ⟨b, z1, k _ _ z2⟩⟩
    exact e2'.snoc (k _ _ ha)
end
section
variable {K : Frag} {σ : L2.St} {H : Hp} {Qv : VK} {L d : W} {tb : List (List Int)} {s : Nat} {Wy : Addr} {xs : List V} {a : Int}
theorem t_back (h8 : σ[8]? = some (some (V.ref Wy))) (h10 : σ[10]? = some (some (V.int a))) (h11 : σ[11]? = some (some (V.str (tx d)))) (h12 : σ[12]? = some (some (V.int (ledL L tb d ((s : Nat) : Int))))) (hw : H Wy = some (.lst xs)) (at1 : atI xs a = some (.int ((s : Nat) : Int))) (dc : ∀ c ∈ d, c ∈ L)
    (q : Qv (.bl (leadsB L tb s d)) H) : tAndV (tOp rEq (tVar 12) (tOp (rIxL K) (tVar 8) (tVar 10))) (tOp rNe (tVar 11) (tC (.str ""))) σ H Qv := by
  refine ⟨_, h12, _, h8, _, h10, Wy, _, _, _, rfl, rfl, SqL.of hw, at1, rfl, _, rfl, ite2 (fun e => ?_) (fun e => ?_)⟩
  · have e := of_decide_eq_true e
    injection e with e
    refine ⟨_, h11, rfl, ?_⟩
    have el : leadsB L tb s d = !decide (V.str (tx d) = V.str "") := by
      unfold leadsB overB
      rw [decide_eq_true dc, decide_eq_true e, Bool.and_true, Bool.and_true]
      congr 1
      exact decide_eq_decide.mpr ⟨fun z => by rw [z] <;> rfl, fun z => tx_inj (by injection z)⟩
    rw [← el]
    exact q
  · have e' : ¬ ledL L tb d ((s : Nat) : Int) = ((s : Nat) : Int) := fun z => e (decide_eq_true (by rw [z]))
    have el : leadsB L tb s d = false := by
      unfold leadsB
      rw [decide_eq_false e', Bool.and_false]
    rw [← el]
    exact q
theorem t_some {b : Bool} (h13 : σ[13]? = some (some (V.bl b))) (h11 : σ[11]? = some (some (V.str (tx d)))) (q : ∀ (t : Addr) (H' : Hp), H t = none → Same H H' → H' t = some (.lst ((if b = true then [d] else []).map fun u => V.str (tx u))) → Qv (.ref t) H') :
    tIf (tB (tVar 13)) (tLst (tCons (tVar 11) tNil)) (tLst tNil) σ H Qv := by
  refine ⟨_, h13, b, rfl, ite2 (fun e => ?_) (fun e => ?_)⟩
  · rw [if_pos e] at q
    exact ⟨_, h11, (by show 1 ≤ sizeLine; decide), fun t ht => q t _ ht (same_upd ht) upd_same⟩
  · rw [if_neg e] at q
    exact ⟨(by show 0 ≤ sizeLine; decide), fun t ht => q t _ ht (same_upd ht) upd_same⟩
theorem eqv_strs (ds : List W) : PyData.eqv (.list ((ds.map tx).map PyData.str)) (.list []) = ds.isEmpty := by
  cases ds <;> rfl
end
section
variable {P : Program} {w : World} {K : PySem.W.Frag} {mg : Str → Option Value} {base : Heap} {C fR fO fWd fLd fIr fSm : Addr} {dR dO dWd dLd dIr dSm : FuncData}
theorem right_loop {cdv : Value} {A : Around} {outer : List Env} {s : Shared} {H : Hp} {E : XK} {f : Addr} (T : TN mg)
    (hr : Room 4 (A.deeper (envOfC "_law_right" (defScope sLR) s.heap.objs.size f cdv)))
    (AR : Fn K mg "_law_roll" sRoll ["_law_dice_here", "_law_total"] fR dR) (GR : FnOk P w K mg base CX0 1 fR dR ["_law_dice_here", "_law_total"] spRoll) (AO : Fn K mg "_law_one_of" sOne ["_law_dice_here", "_law_items"] fO dO) (GO : FnOk P w K mg base CX0 2 fO dO ["_law_dice_here", "_law_items"] spOne)
    (AWd : Fn K mg "_law_word" sWord ["_law_dice_here", "_law_letters_here", "_law_most"] fWd dWd) (GWd : FnOk P w K mg base CX0 3 fWd dWd ["_law_dice_here", "_law_letters_here", "_law_most"] spWordL)
    (ALd : Fn K mg "_law_led" sLLed ["_law_table_here", "_law_letters_here", "_law_word_here", "_law_start"] fLd dLd) (GLd : FnOk P w K mg base CX0 1 fLd dLd ["_law_table_here", "_law_letters_here", "_law_word_here", "_law_start"] spLLed)
    (AIr : Fn K mg "is_ring" sIsRing ["machine", "state", "value"] fIr dIr) (GIr : FnOk P w K mg base CX0 4 fIr dIr ["machine", "state", "value"] (spIsRing K C)) (ASm : Fn K mg "_law_simple" sSimp ["_law_plain", "_law_state"] fSm dSm) (GSm : FnOk P w K mg base CX0 4 fSm dSm ["_law_plain", "_law_state"] spSimp) :
    ∃ t, PS (cxOf CX0 P w K mg base NR9 "_law_right" (defScope sLR) f cdv A outer s H E).nox ((defBody sLR).getD 9 (.Pass ⟨0, 0, 0, 0⟩)) t ∧
      ∀ (D : Ends) (H6 H1 : Hp) (p m o Rg Wy : Addr) (L : W) (tb : List (List Int)) (es : List Int) (n : Int) (u : W) (x4 x5 x9 x10 x11 x12 x13 x14 x15 x16 x17 x18 : Option V), LoopS C H6 H1 p m o Rg Wy L tb es u [] → TabOk tb L.length n → 1 ≤ n → n ≤ 4 → Let L → u.length ≤ 4 → (∀ c ∈ u, c ∈ L) → ledL L tb u 0 ∈ es →
        (∀ (rs : List (Int × W × Int)) (x9 x10 x11 x12 x13 x14 : Option V) (H' : Hp), EndS C H' p m o Rg L tb es n u rs → But p H6 H' → D.nx [some (.ref p), some (.str (tx L)), some (.ref m), some (.ref o), x4, x5, some (.str (tx u)), some (.ref Rg), some (.ref Wy), x9, x10, x11, x12, x13, x14, x15, x16, x17, x18] H') →
        t D [some (.ref p), some (.str (tx L)), some (.ref m), some (.ref o), x4, x5, some (.str (tx u)), some (.ref Rg), some (.ref Wy), x9, x10, x11, x12, x13, x14, x15, x16, x17, x18] H1 := by
  have hr1 : Room 1 _ := hr.mono (by decide)
  have hr2 : Room 2 _ := hr.mono (by decide)
  have hr3 : Room 3 _ := hr.mono (by decide)
  have hub := hu_of hr
  refine ⟨_, ps_for PassesOwn.never rfl (pi_range1 rfl T.rng (pa_cons (pe_call (E := E0) GR hr1 rfl AR.g AR.F.kp AR.b .nil pass0 (pa_cons (pv 0) (pa_cons pe_int pa_nil))) pa_nil)) (pg_name (i := 9) scR9.nd rfl (Or.inl rfl))
    (pss_cons (ps_par (i := 10) (j := 11) (by rfl) scR9.nd rfl rfl (by decide) rfl rfl (pa_cons (pe_call (E := E0) GR hr1 rfl AR.g AR.F.kp AR.b .nil pass0 (pa_cons (pv 0) (pa_cons (pe_op op_add (pe_callB call_len_str (by rfl) T.len PySem.boot_len (pa_cons (pv 6) pa_nil)) pe_int) pa_nil)))
      (pa_cons (pe_call (E := E0) GWd hr3 rfl AWd.g AWd.F.kp AWd.b .nil pass0 (pa_cons (pv 0) (pa_cons (pv 1) (pa_cons pe_int pa_nil)))) pa_nil)) (by rfl))
    (pss_cons (ps_set (i := 12) scR9.nd rfl (Or.inl rfl) (pe_call (E := E0) GLd hr1 rfl ALd.g ALd.F.kp ALd.b .nil pass0 (pa_cons (pe_dget hub (pv 2) pe_str (fun _ _ => rfl)) (pa_cons (pv 1) (pa_cons (pv 11) (pa_cons (pe_ix ix_list (pv 8) (pv 10) (fun _ _ => rfl)) pa_nil))))))
    (pss_cons (ps_set (i := 13) scR9.nd rfl (Or.inl rfl) (pe_and (pe_cmpR op_eq (pv 12) (pe_ix ix_list (pv 8) (pv 10) (fun _ _ => rfl)) (nomark _)) (pe_one (pe_cmpR op_ne (pv 11) pe_str (nomark _)))))
    (pss_cons (ps_if (pt_cmpR op_ne (pe_call (E := E0) GIr hr rfl AIr.g AIr.F.kp AIr.b .nil pass0 (pa_cons (pv 3) (pa_cons (pe_ix ix_list (pv 8) (pv 10) (fun _ _ => rfl)) (pa_cons (pv 11) pa_nil)))) (pv 13) (nomark _)) (pss_one (ps_ret pe_bl)) pss_nil)
    (pss_cons (ps_set (i := 14) scR9.nd rfl (Or.inl rfl) (pe_op op_cat (pe_call (E := E0) GSm hr rfl ASm.g ASm.F.kp ASm.b .nil pass0 (pa_cons (pv 2) (pa_cons (pe_ix ix_list (pv 8) (pv 10) (fun _ _ => rfl)) pa_nil))) (pe_ifExp (pt_val (pv 13)) (pe_lst (pa_cons (pv 11) pa_nil)) (pe_lst pa_nil))))
    (pss_one (ps_if (pt_cmpR (op_neD hr.units) (pv 14) (pe_lst pa_nil) (nomark _)) (pss_one (ps_expr (pe_bm PySem.F.plainAttrs_list PySem.F.slot_list_append PySem.F.type_list_append mt_append (pv 7) (pa_cons (pe_tup (pa_cons (pv 10)
      (pa_cons (pe_call (E := E0) GO hr2 rfl AO.g AO.F.kp AO.b .nil pass0 (pa_cons (pv 0) (pa_cons (pv 14) pa_nil))) (pa_cons (pe_call (E := E0) GR hr1 rfl AR.g AR.F.kp AR.b .nil pass0 (pa_cons (pv 0) (pa_cons pe_int pa_nil))) pa_nil)))) pa_nil)))) pss_nil))))))), ?_⟩
  intro D H6 H1 p m o Rg Wy L tb es n u x4 x5 x9 x10 x11 x12 x13 x14 x15 x16 x17 x18 S ok n1 n4 hL hu uc ue q
  have okl := ok.len
  refine ⟨_, rfl, p, 4, rfl, S.dice, by decide, by decide, fun r H2 r0 r1 hD2 hB2 => ⟨_, rfl, by omega, by omega, ?_⟩⟩
  refine for_it walk_range (fun i σ H' => ∃ (rs : List (Int × W × Int)) (x9 x10 x11 x12 x13 x14 : Option V), σ = [some (.ref p), some (.str (tx L)), some (.ref m), some (.ref o), x4, x5, some (.str (tx u)), some (.ref Rg), some (.ref Wy), x9, x10, x11, x12, x13, x14, x15, x16, x17, x18] ∧
    LoopS C H6 H' p m o Rg Wy L tb es u rs ∧ rs.length ≤ i) ⟨[], _, _, _, _, _, _, rfl, S.to hD2 hB2, Nat.le_refl _⟩ (fun _ _ _ _ _ => trivial) ?_ ?_
  · rintro i xi σ H3 H4 hi ⟨rs, x9, x10, x11, x12, x13, x14, rfl, S4, rl⟩ ⟨e3, exi⟩
    subst e3
    refine ⟨_, rfl, _, rfl, tx u, rfl, by rw [tx_len, sizeLine_eq]; omega, _, _, rfl, rfl, p, _, rfl, S4.dice, by omega, by rw [tx_len]; omega, fun a H5 a0 a1 hD5 hB5 => ?_⟩
    rw [tx_len] at a1
    refine ⟨_, rfl, _, rfl, p, L, 3, rfl, hD5, hL, by decide, by decide, fun d H7 dl dc hD7 hB7 => ⟨_, _, rfl, ?_⟩⟩
    have S7 := (S4.to hD5 hB5).to hD7 hB7
    have ab : 0 ≤ a ∧ a ≤ u.length := ⟨a0, by omega⟩
    have at1 := spots_at (L := L) (tb := tb) u ab
    have lb := ledL_in ok (u := u.take a.toNat) (st := 0) ⟨Int.le_refl _, by omega⟩ fun c hc => uc c (List.mem_of_mem_take hc)
    have es_ : (ledL L tb (u.take a.toNat) 0).toNat < tb.length ∧ ledL L tb (u.take a.toNat) 0 = (((ledL L tb (u.take a.toNat) 0).toNat : Nat) : Int) := ⟨by omega, by omega⟩
    obtain ⟨hs, es_⟩ := es_
    rw [es_] at at1
    generalize es2 : (ledL L tb (u.take a.toNat) 0).toNat = sN at at1 hs
    obtain ⟨lt, le, hm, htab, _⟩ := S7.scn.plain.ex
    refine ⟨_, rfl, m, _, rfl, get_tab hm, _, rfl, _, rfl, _, rfl, _, rfl, Wy, _, _, _, rfl, rfl, SqL.of S7.way, at1, lt, L, d, tb, n, _, rfl, htab, hL, ok, by omega, by omega, dc, ?_⟩
    refine t_back (L := L) (tb := tb) (d := d) (s := sN) rfl rfl rfl rfl S7.way at1 dc ?_
    have ld : Low d := fun c hc => hL.low c (dc c hc)
    refine ⟨_, rfl, _, rfl, _, rfl, Wy, _, _, _, rfl, rfl, SqL.of S7.way, at1, _, rfl, o, L, tb, es, n, sN, _, rfl, hL, S7.scn.mac, ok, by omega, hs, .inl ⟨d, rfl, ld, by omega, fun H8 s8 => ⟨_, rfl, rfl, _, rfl, ite2 (fun e => ?_) (fun _ => ?_)⟩⟩⟩
    · rw [decide_eq_true rfl] at e
      cases e
    have S8 := S7.sm s8
    refine ⟨_, rfl, _, rfl, _, rfl, Wy, _, _, _, rfl, rfl, SqL.of S8.way, at1, m, L, tb, es, n, sN, rfl, S8.scn.plain, ok, hL, by omega, hs, fun l H9 nl s9 hl => ?_⟩
    refine t_some (d := d) (b := leadsB L tb sN d) rfl rfl fun t H10 nt s10 ht => ?_
    have rlen : (ringsN L tb sN).length ≤ 3 ^ 5 := Nat.le_trans (RX.lf_len hL.few tb.length) (Nat.pow_le_pow_right (by decide) (by omega))
    have dl1 : (if leadsB L tb sN d = true then [d] else []).length ≤ 1 := by
      split
      · exact Nat.le_refl _
      · exact Nat.zero_le _
    refine ⟨l, t, _, _, rfl, rfl, s10 _ _ hl, ht, by rw [List.length_map, List.length_map, sizeLine_eq]; omega, fun c hc => ?_⟩
    have eds : (ringsN L tb sN).map (fun p => V.str (tx p.2)) ++ (if leadsB L tb sN d = true then [d] else []).map (fun u => V.str (tx u)) = (((ringsN L tb sN).map (·.2) ++ (if leadsB L tb sN d = true then [d] else [])).map tx).map V.str := by
      rw [List.map_map, List.map_append, List.map_map] <;> rfl
    rw [eds]
    have good : ∀ v ∈ (ringsN L tb sN).map (·.2) ++ (if leadsB L tb sN d = true then [d] else []), leadsB L tb sN v = true ∧ (∀ c ∈ v, c ∈ L) ∧ v.length ≤ 4 := fun v hv => by
      rcases List.mem_append.mp hv with z | z
      · obtain ⟨a1, a2, a3⟩ := rings_leads ok hL hs v z
        exact ⟨a1, a2, by omega⟩
      · split at z
        · rename_i hb
          rw [List.mem_singleton.mp z]
          exact ⟨hb, dc, by omega⟩
        · exact absurd z List.not_mem_nil
    have dsl : ((ringsN L tb sN).map (·.2) ++ (if leadsB L tb sN d = true then [d] else [])).length ≤ 3 ^ 5 + 1 := by
      rw [List.length_append, List.length_map]
      omega
    generalize (ringsN L tb sN).map (·.2) ++ (if leadsB L tb sN d = true then [d] else []) = ds at good dsl ⊢
    have cp : c ≠ p := (S8.sm (s9.trans s10)).dice.ne hc
    have s12 := s9.trans (s10.trans (same_upd (o := .lst ((ds.map tx).map V.str)) hc))
    have S12 := S8.sm s12
    have at12 : (upd H10 c (.lst ((ds.map tx).map V.str))) c = some (.lst ((ds.map tx).map V.str)) := upd_same
    generalize upd H10 c (.lst ((ds.map tx).map V.str)) = H12 at S12 at12 ⊢
    have lowR : ∀ y ∈ ds.map tx, PyData.canLay0 (.str y) = true := fun y hy => by
      obtain ⟨v, hv, rfl⟩ := List.mem_map.mp hy
      exact low_lay fun c hc => hL.low c ((good v hv).2.1 c hc)
    refine ⟨_, rfl, (by show 0 ≤ sizeLine; decide), fun e he => ⟨.list ((ds.map tx).map PyData.str), .list [], .lst (SqL.of (same_upd he _ _ at12)) (dp_strs _), .lst (SqL.of upd_same) .nil, (shaped_strs _ lowR).1, by decide, _, rfl, ?_⟩⟩
    rw [eqv_strs]
    have S13 := S12.sm (same_upd (o := .lst []) he)
    have at13 := same_upd (o := .lst []) he _ _ at12
    generalize upd H12 e (.lst []) = H13 at S13 at13 ⊢
    refine ite2 (fun ne => ?_) (fun ne => ?_)
    · have pos : 0 < ds.length := by
        cases ds with
        | nil => cases ne
        | cons a l => exact Nat.succ_pos _
      obtain ⟨as, hRg, hra⟩ := S13.rg
      refine ⟨_, rfl, .inl ⟨rfl, _, SqL.of hRg⟩, _, rfl, _, rfl, _, rfl, p, c, _, rfl, S13.dice, cp, at13, by rw [List.length_map, List.length_map]; exact pos, by rw [List.length_map, List.length_map]; omega, fun v H14 hv hD14 hB14 => ?_⟩
      obtain ⟨y, hy, rfl⟩ := List.mem_map.mp hv
      obtain ⟨v, hv2, rfl⟩ := List.mem_map.mp hy
      obtain ⟨g1, g2, g3⟩ := good v hv2
      have S14 := S13.to hD14 hB14
      refine ⟨_, rfl, p, 4, rfl, hD14, by decide, by decide, fun t H15 t0 t1 hD15 hB15 => ⟨(by show 3 ≤ sizeLine; decide), fun Ta hTa => ?_⟩⟩
      have sT := same_upd (o := oRg (a, v, t)) hTa
      have S16 := (S14.to hD15 hB15).sm sT
      have atT : (upd H15 Ta (oRg (a, v, t))) Ta = some (oRg (a, v, t)) := upd_same
      have hRg16 := sT _ _ (hB15 _ _ (hB14 _ _ hRg S13.rp) S13.rp)
      have hra16 := ((hra.but S13.dice hB14).but hD14 hB15).same sT
      refine ⟨Rg, _, _, rfl, rfl, hRg16, by rw [List.length_map, hra.1, sizeLine_eq]; omega, ?_⟩
      have rd : RgD L tb u 3 (a, v, t) := ⟨⟨⟨by show v.length < 64; omega, g2, t0, by show t ≤ 60; omega⟩, ab.1, ab.2, by rw [es2]; exact g1⟩, by show t ≤ 3; omega, g3⟩
      have fin := S16.add hRg16 hra16 atT rd
      have el : as.map V.ref ++ [V.ref Ta] = (as ++ [Ta]).map V.ref := by rw [List.map_append] <;> rfl
      rw [el]
      exact ⟨rs ++ [(a, v, t)], _, _, _, _, _, _, rfl, fin, by rw [List.length_append]; show _ + 1 ≤ _; omega⟩
    · exact ⟨rs, _, _, _, _, _, _, rfl, S13, by omega⟩
  · rintro σ H3 ⟨rs, x9, x10, x11, x12, x13, x14, rfl, S3, rl⟩
    refine q rs _ _ _ _ _ _ H3 ⟨S3.scn, ok, n1, n4, hL, hu, uc, ue, S3.rg, by omega, S3.rd⟩ S3.but
end
end WK
set_option Elab.async false
set_option linter.all false
set_option maxRecDepth 100000
set_option maxHeartbeats 8000000
namespace WK
open PySem L2 PyProof.Rows LCX K1 FV DP
open TX (sg sigs)
open PySem.W (Frag kitOne)
open RX (cntI ringsN)
def spLR90 : Sp := fun vs H Q _ => ∃ p : Addr, vs = [.ref p] ∧ DiceAt H p ∧ ∀ H', DiceAt H' p → But p H H' → Q (.bl true) H'
abbrev rLenT : List V → Hp → VK → Prop := fun xs H Q => ∃ z : Str, xs = [.str z] ∧ z.length ≤ sizeLine ∧ Q (.int z.length) H
theorem t_most {σ : L2.St} {H : Hp} {Qv : VK} {L : W} (h1 : σ[1]? = some (some (V.str (tx L)))) (hl : L.length ≤ 3) (q : ∀ k : Nat, k = 3 ∨ k = 4 → Qv (.int (k : Nat)) H) :
    tIf (tTest (tOp (rI0 fun i j => .bl (decide (i < j))) (tCB rLenT (tCons (tVar 1) tNil)) (tC (.int 3)))) (tC (.int 4)) (tC (.int 3)) σ H Qv := by
  refine ⟨_, h1, tx L, rfl, by rw [tx_len, sizeLine_eq]; omega, _, _, rfl, rfl, _, rfl, ite2 (fun _ => ?_) (fun _ => ?_)⟩
  · exact q 4 (.inr rfl)
  · exact q 3 (.inl rfl)
section
variable {P : Program} {w : World} {K : PySem.W.Frag} {mg : Str → Option Value} {base : Heap} {C cD cM gH fR fO fLt fMa fMd fSi fSm fWs fWy fMt fWd fLd fIr fGn fHs fSS fC : Addr} {dR dO dLt dMa dMd dSi dSm dWs dWy dMt dWd dLd dIr dGn dHs dSS dC : FuncData}
theorem ok_r90 {f : Addr} {fd : FuncData} (F : Fun K "_law_right" "_law_right" sLR f fd) (T : TN mg)
    (hN : PySem.W.findIn K (.ref C) "__contains__" = some (some (.ref gH))) (iN : PySem.W.isFn K (.ref gH) = true) (GH : FnR P w K mg base CX0 2 gH (spMHas C))
    (AR : Fn K mg "_law_roll" sRoll ["_law_dice_here", "_law_total"] fR dR) (AO : Fn K mg "_law_one_of" sOne ["_law_dice_here", "_law_items"] fO dO)
    (ALt : Fn K mg "_law_letters" sLetters ["_law_dice_here", "_law_total"] fLt dLt) (GLt : FnOk P w K mg base CX0 3 fLt dLt ["_law_dice_here", "_law_total"] spLetters) (AWd : Fn K mg "_law_word" sWord ["_law_dice_here", "_law_letters_here", "_law_most"] fWd dWd) (GWd : FnOk P w K mg base CX0 3 fWd dWd ["_law_dice_here", "_law_letters_here", "_law_most"] spWordL)
    (AMa : Fn K mg "_law_machine" sLMac ["_law_dice_here", "_law_letters_here", "_law_states"] fMa dMa) (GMa : FnOk P w K mg base CX0 4 fMa dMa ["_law_dice_here", "_law_letters_here", "_law_states"] spLMac) (AMd : Fn K mg "_law_made_machine" sMade ["_law_plain"] fMd dMd) (GMd : FnOk P w K mg base CX0 7 fMd dMd ["_law_plain"] (spMade C))
    (ASi : Fn K mg "simple_rings" sSimple ["machine", "state"] fSi dSi) (GSi : FnOk P w K mg base CX0 4 fSi dSi ["machine", "state"] (spSimple C)) (ASm : Fn K mg "_law_simple" sSimp ["_law_plain", "_law_state"] fSm dSm) (GSm : FnOk P w K mg base CX0 4 fSm dSm ["_law_plain", "_law_state"] spSimp)
    (AWs : Fn K mg "_law_words" sLWords ["_law_plain", "_law_most"] fWs dWs) (GWs : FnOk P w K mg base CX0 1 fWs dWs ["_law_plain", "_law_most"] spLWords) (AWy : Fn K mg "_law_way" sWay ["_law_plain", "_law_word_here"] fWy dWy) (GWy : FnOk P w K mg base CX0 2 fWy dWy ["_law_plain", "_law_word_here"] spWay)
    (AMt : Fn K mg "met" sMet ["machine", "word"] fMt dMt) (GMt : FnOk P w K mg base CX0 3 fMt dMt ["machine", "word"] (spMet C))
    (ALd : Fn K mg "_law_led" sLLed ["_law_table_here", "_law_letters_here", "_law_word_here", "_law_start"] fLd dLd) (AIr : Fn K mg "is_ring" sIsRing ["machine", "state", "value"] fIr dIr) (GIr : FnOk P w K mg base CX0 4 fIr dIr ["machine", "state", "value"] (spIsRing K C))
    (AGn : Fn K mg "_law_gone" sGone ["_law_word_here", "_law_rings"] fGn dGn) (GGn : FnOk P w K mg base CX0 1 fGn dGn ["_law_word_here", "_law_rings"] spGone) (AHs : Fn K mg "_law_has" sLHas ["_law_plain", "_law_word_here"] fHs dHs) (GHs : FnOk P w K mg base CX0 2 fHs dHs ["_law_plain", "_law_word_here"] spLHas)
    (ASS : Fn K mg "side_sum" sSideSum ["machine", "side"] fSS dSS) (GSS : FnOk P w K mg base CX0 7 fSS dSS ["machine", "side"] (spSideSum C)) (AC : Fn K mg "counts" sCounts ["letters", "word"] fC dC) (GC : FnOk P w K mg base CX0 4 fC dC ["letters", "word"] spCounts) :
    FnOk P w K mg base CX0 8 f fd ["_law_dice_here"] spLR90 := by
  have GR : FnOk P w K mg base CX0 1 fR dR ["_law_dice_here", "_law_total"] spRoll := ok_roll AR.F T.dice
  have GO : FnOk P w K mg base CX0 2 fO dO ["_law_dice_here", "_law_items"] spOne := ok_one AO.F T.dice AR.g AR.F AR.b
  have GLd : FnOk P w K mg base CX0 1 fLd dLd ["_law_table_here", "_law_letters_here", "_law_word_here", "_law_start"] spLLed := ok_lled ALd.F
  refine F.ok scR9 (fun vs H Q E h => ?_) (fun cdv A outer s H vs Q E hr h => ?_)
  · obtain ⟨p, rfl, _⟩ := h
    rfl
  · obtain ⟨p, rfl, hD, q⟩ := h
    have hr1 : Room 1 _ := hr.mono (by decide)
    have hr2 : Room 2 _ := hr.mono (by decide)
    have hr3 : Room 3 _ := hr.mono (by decide)
    have hr4 : Room 4 _ := hr.mono (by decide)
    have hub := hu_of hr
    obtain ⟨te, he, qe⟩ := right_end (E := E) (s := s) (H := H) (outer := outer) T hr hN iN GH AGn GGn AHs GHs ASS GSS AC GC
    obtain ⟨tl, hl, ql⟩ := right_loop (E := E) (s := s) (H := H) (outer := outer) T hr4 AR GR AO GO AWd GWd ALd GLd AIr GIr ASm GSm
    have hle : PSs (cxOf CX0 P w K mg base NR9 "_law_right" (defScope sLR) f cdv A outer s H E).nox ((defBody sLR).drop 9) (tSeq tl te) := pss_cons hl he
    refine ⟨_, pss_cons (ps_set (i := 1) scR9.nd rfl (Or.inl rfl) (pe_call (E := E0) GLt hr3 rfl ALt.g ALt.F.kp ALt.b .nil pass0 (pa_cons (pv 0) (pa_cons (pe_call (E := E0) GO hr2 rfl AO.g AO.F.kp AO.b .nil pass0 (pa_cons (pv 0) (pa_cons (pe_lst (pa_cons pe_int (pa_cons pe_int (pa_cons pe_int (pa_cons pe_int pa_nil))))) pa_nil))) pa_nil))))
      (pss_cons (ps_set (i := 2) scR9.nd rfl (Or.inl rfl) (pe_call (E := E0) GMa hr4 rfl AMa.g AMa.F.kp AMa.b .nil pass0 (pa_cons (pv 0) (pa_cons (pv 1) (pa_cons (pe_ifExp (pt_cmpR op_lt (pe_callB call_len_str (by rfl) T.len PySem.boot_len (pa_cons (pv 1) pa_nil)) pe_int (nomark _)) pe_int pe_int) pa_nil)))))
      (pss_cons (ps_par (i := 3) (j := 4) (by rfl) scR9.nd rfl rfl (by decide) rfl rfl (pa_cons (pe_call (E := E0) GMd hr rfl AMd.g AMd.F.kp AMd.b .nil pass0 (pa_cons (pv 2) pa_nil)) (pa_cons (pe_call (E := E0) GR hr1 rfl AR.g AR.F.kp AR.b .nil pass0 (pa_cons (pv 0) (pa_cons (pe_callB call_len_seq (by rfl) T.len PySem.boot_len (pa_cons (pe_dget hub (pv 2) pe_str (fun _ _ => rfl)) pa_nil)) pa_nil))) pa_nil)) (by rfl))
      (pss_cons (ps_if (pt_cmpR (op_neD hr.units) (pe_callTy call_list_of (by rfl) T.list (by decide +kernel) (pa_cons (pe_call (E := E0) GSi hr4 rfl ASi.g ASi.F.kp ASi.b .nil pass0 (pa_cons (pv 3) (pa_cons (pv 4) pa_nil))) pa_nil)) (pe_call (E := E0) GSm hr4 rfl ASm.g ASm.F.kp ASm.b .nil pass0 (pa_cons (pv 2) (pa_cons (pv 4) pa_nil))) (nomark _)) (pss_one (ps_ret pe_bl)) pss_nil)
      (pss_cons (ps_set (i := 5) scR9.nd rfl (Or.inl rfl) (pe_call (E := E0) GWs hr1 rfl AWs.g AWs.F.kp AWs.b .nil pass0 (pa_cons (pv 2) (pa_cons (pe_ifExp (pt_cmpR op_lt (pe_callB call_len_str (by rfl) T.len PySem.boot_len (pa_cons (pv 1) pa_nil)) pe_int (nomark _)) pe_int pe_int) pa_nil))))
      (pss_cons (ps_if (pt_cmpR (op_eqD hr.units) (pv 5) (pe_lst pa_nil) (nomark _)) (pss_one (ps_ret pe_bl)) pss_nil)
      (pss_cons (ps_par (i := 6) (j := 7) (by rfl) scR9.nd rfl rfl (by decide) rfl rfl (pa_cons (pe_call (E := E0) GO hr2 rfl AO.g AO.F.kp AO.b .nil pass0 (pa_cons (pv 0) (pa_cons (pv 5) pa_nil))) (pa_cons (pe_lst pa_nil) pa_nil)) (by rfl))
      (pss_cons (ps_set (i := 8) scR9.nd rfl (Or.inl rfl) (pe_call (E := E0) GWy hr2 rfl AWy.g AWy.F.kp AWy.b .nil pass0 (pa_cons (pv 2) (pa_cons (pv 6) pa_nil))))
      (pss_cons (ps_if (pt_cmpR (op_neD hr.units) (pe_callTy call_list_of (by rfl) T.list (by decide +kernel) (pa_cons (pe_call (E := E0) GMt hr3 rfl AMt.g AMt.F.kp AMt.b .nil pass0 (pa_cons (pv 3) (pa_cons (pv 6) pa_nil))) pa_nil)) (pe_callB (cr_sortedSet rfl) (by rfl) T.sorted (by decide +kernel) (pa_cons (pe_callTy (DL.cr_setI rfl) (by rfl) T.set (by decide +kernel) (pa_cons (pv 8) pa_nil)) pa_nil)) (nomark _)) (pss_one (ps_ret pe_bl)) pss_nil)
      hle)))))))), ?_⟩
    refine ⟨_, rfl, _, rfl, (by show 4 ≤ sizeLine; decide), fun l hl => ⟨p, l, [.int 1, .int 2, .int 2, .int 3], rfl, hD.new hl, hD.ne hl, upd_same, (by show 0 < 4; decide), (by show 4 < 1000000; decide), fun nv H1 hnv hD1 hB1 => ?_⟩⟩
    obtain ⟨k, rfl, k1, k3⟩ : ∃ k : Int, nv = .int k ∧ 1 ≤ k ∧ k ≤ 3 := by
      simp only [List.mem_cons, List.not_mem_nil, or_false] at hnv
      rcases hnv with rfl | rfl | rfl | rfl <;> exact ⟨_, rfl, by decide, by decide⟩
    have B1 := (But.ofSame (p := p) (same_upd hl)).trans hB1
    refine ⟨p, k, rfl, hD1, k1, k3, fun L H2 hL h6 hD2 hB2 => ?_⟩
    have few := hL.few
    refine ⟨_, rfl, _, rfl, t_most rfl few fun k hk => ?_⟩
    refine ⟨p, L, k, rfl, hD2, hL.ne, by omega, by omega, by omega, fun m tb es n H3 nm mp hD3 hB3 pl off mo zn => ?_⟩
    have n4 : n ≤ 4 := by omega
    have n1 := mo.one
    have ok := mo.tab
    have okl := ok.len
    have B3 := (B1.trans hB2).trans hB3
    refine ⟨_, rfl, m, L, tb, es, n, rfl, pl, mo, n4, hL, fun o H4 no s4 mac => ?_⟩
    have S4 : Scn C H4 p m o L tb es := ⟨hD3.sm s4, pl.same s4, (pl.but off hD3 (But.ofSame s4)).2, mac⟩
    obtain ⟨lt, le, hm, ⟨ts, hlt, hobj⟩, hle⟩ := id S4.plain.ex
    have tsl : (ts.map V.ref).length = tb.length := by rw [List.length_map, hobj.len]
    refine ⟨_, rfl, _, rfl, m, _, rfl, get_tab hm, lt, _, rfl, .inl (SqL.of hlt), p, _, rfl, S4.dice, by rw [tsl]; omega, by rw [tsl]; omega, fun st H5 st0 st1 hD5 hB5 => ⟨_, _, rfl, ?_⟩⟩
    rw [tsl] at st1
    obtain ⟨i, rfl⟩ : ∃ i : Nat, st = ((i : Nat) : Int) := ⟨st.toNat, by omega⟩
    have hi : i < tb.length := by omega
    have S5 := S4.but hD5 hB5
    have B5 := B3.trans ((But.ofSame s4).trans hB5)
    have lowR : ∀ y ∈ (ringsN L tb i).map (fun p => tx p.2), PyData.canLay0 (.str y) = true := fun y hy => by
      obtain ⟨q', hq', rfl⟩ := List.mem_map.mp hy
      exact low_lay fun c hc => hL.low c ((lf_back ok hL hi _ q' hq').2.1 c hc)
    have em : (ringsN L tb i).map (fun p => V.str (tx p.2)) = ((ringsN L tb i).map fun p => tx p.2).map V.str := by rw [List.map_map] <;> rfl
    refine ⟨_, rfl, _, rfl, o, L, tb, es, n, i, rfl, hL, S5.mac, ok, by omega, hi, fun t3 H9 nt3 s9 ht3 => ⟨t3, _, rfl, .inr (SqT.of ht3), fun l3 hl3 => ?_⟩⟩
    have s10 := same_two (o := .lst ((ringsN L tb i).map fun p => V.str (tx p.2))) s9 hl3
    have S10 := S5.same s10
    refine ⟨_, rfl, _, rfl, m, L, tb, es, n, i, rfl, S10.plain, ok, hL, by omega, hi, fun l4 H11 nl4 s11 hl4 => ?_⟩
    have S11 := S10.same s11
    rw [em] at hl4
    have sh := (shaped_strs _ lowR).1
    refine ⟨.list (((ringsN L tb i).map fun p => tx p.2).map PyData.str), .list (((ringsN L tb i).map fun p => tx p.2).map PyData.str), .lst (SqL.of (by rw [← em]; exact s11 _ _ upd_same)) (dp_strs _), .lst (SqL.of hl4) (dp_strs _), sh, sh, _, rfl, ite2 (fun e => ?_) (fun _ => ?_)⟩
    · rw [SeqAt.eqv_refl _ (SeqAt.canLay_of_shaped sh)] at e
      cases e
    have B11 := B5.trans (But.ofSame (s10.trans s11))
    clear em lowR sh
    refine ⟨_, rfl, t_most rfl few fun k hk => ?_⟩
    refine ⟨m, L, tb, es, n, k, rfl, S11.plain, ok, hL, n1, by omega, by omega, fun Ws us H12 nW s12 hWs hus usl => ?_⟩
    have S12 := S11.same s12
    have B12 := B11.trans (But.ofSame s12)
    have WsP : Ws ≠ p := S11.dice.ne nW
    have usn : us.length ≤ 3 ^ 5 := Nat.le_trans usl (Nat.pow_le_pow_right (by decide) (by omega))
    have ew : us.map (fun u => V.str (tx u)) = (us.map tx).map V.str := by rw [List.map_map] <;> rfl
    rw [ew] at hWs
    have lowU : ∀ y ∈ us.map tx, PyData.canLay0 (.str y) = true := fun y hy => by
      obtain ⟨v, hv, rfl⟩ := List.mem_map.mp hy
      exact low_lay fun c hc => hL.low c ((hus v hv).1 c hc)
    refine ⟨_, rfl, (by show 0 ≤ sizeLine; decide), fun e he => ⟨.list ((us.map tx).map PyData.str), .list [], .lst (SqL.of (same_upd he _ _ hWs)) (dp_strs _), .lst (SqL.of upd_same) .nil, (shaped_strs _ lowU).1, by decide, _, rfl, ?_⟩⟩
    rw [eqv_strs]
    have s13 := same_upd (o := .lst []) he
    have S13 := S12.same s13
    have B13 := B12.trans (But.ofSame s13)
    have hWs13 := s13 _ _ hWs
    generalize upd H12 e (.lst []) = H13 at S13 B13 hWs13 ⊢
    refine ite2 (fun _ => q _ S13.dice B13) (fun ne => ?_)
    have pos : 0 < us.length := by
      cases us with
      | nil => exact absurd rfl ne
      | cons a l => exact Nat.succ_pos _
    refine ⟨_, rfl, _, rfl, p, Ws, _, rfl, S13.dice, WsP, hWs13, by rw [List.length_map, List.length_map]; exact pos, by rw [List.length_map, List.length_map]; omega, fun v H14 hv hD14 hB14 => ⟨(by show 0 ≤ sizeLine; decide), fun Rg nRg => ⟨_, _, rfl, ?_⟩⟩⟩
    obtain ⟨y, hy, rfl⟩ := List.mem_map.mp hv
    obtain ⟨u, hu2, rfl⟩ := List.mem_map.mp hy
    obtain ⟨uc, ul, ue⟩ := hus u hu2
    have lu : Low u := fun c hc => hL.low c (uc c hc)
    have S14 := S13.but hD14 hB14
    have B14 := B13.trans hB14
    have rp : Rg ≠ p := S14.dice.ne nRg
    have s15 := same_upd (o := .lst []) nRg
    have at15 : (upd H14 Rg (.lst [])) Rg = some (.lst []) := upd_same
    refine ⟨_, rfl, _, rfl, m, L, u, tb, es, n, rfl, (S14.same s15).plain, ok, hL, n1, by omega, uc, fun Wy H16 nWy s16 hWy => ?_⟩
    have S16 := (S14.same s15).same s16
    have wp : Wy ≠ p := (S14.same s15).dice.ne nWy
    have wr : Wy ≠ Rg := fun z => by rw [z, at15] at nWy; cases nWy
    have sl : (spotsN L tb u u.length).length = u.length + 1 := by
      unfold spotsN
      rw [List.length_map, List.length_range]
    refine ⟨_, rfl, _, rfl, o, L, u, tb, es, n, rfl, hL, S16.mac, ok, n1, by omega, lu, by omega, uc, fun t1 ns H17 nt1 s17 ht1 asc mem => ⟨t1, _, rfl, .inr (SqT.of ht1), fun l7 hl7 => ?_⟩⟩
    have s18 := same_upd (o := .lst (ns.map V.int)) hl7
    refine ⟨_, rfl, Wy, _, rfl, SqL.of (s18 _ _ (s17 _ _ hWy)), by rw [sl]; omega, fun a2 c ha2 hcn => ⟨a2, _, c, rfl, upd_same, by omega, fun ns2 p2 asc2 mem2 len2 hp2 => ?_⟩⟩
    have en : ns2 = ns := asc_eq asc2 asc fun k => ((mem2 k).trans decide_eq_true_iff).trans (mem k).symm
    subst en
    have s19 := same_upd (o := SetO w a2 (fun k => decide (k ∈ spotsN L tb u u.length)) c) ha2
    have s20 := same_two (o := .lst (ns2.map V.int)) s19 hp2
    refine ⟨.list (ns2.map PyData.int), .list (ns2.map PyData.int), .lst (SqL.of (s20 _ _ upd_same)) (dp_ints ns2), .lst (SqL.of upd_same) (dp_ints ns2), (lay_il _).2, (lay_il _).2, _, rfl, ite2 (fun e => ?_) (fun _ => ?_)⟩
    · rw [SeqAt.eqv_refl _ (SeqAt.canLay_of_shaped (lay_il _).2)] at e
      cases e
    have s21 := s17.trans (s18.trans s20)
    have S21 := S16.same s21
    have b21 : But p H14 _ := But.ofSame (s15.trans (s16.trans s21))
    have LS : LoopS C H14 _ p m o Rg Wy L tb es u [] := ⟨S14, b21, S21.dice, nRg, s21 _ _ hWy, wp, wr, rp, ⟨[], s21 _ _ (s16 _ _ at15), rfl, fun i r hr => by simp at hr⟩, fun r hr => absurd hr List.not_mem_nil⟩
    refine ql _ H14 _ p m o Rg Wy L tb es n u _ _ _ _ _ _ _ _ _ _ _ _ LS ok n1 n4 hL (by omega) uc ue fun rs x9 x10 x11 x12 x13 x14 H' ES BH => ?_
    refine qe _ H' p m o Rg L tb es n u rs _ _ _ _ _ _ _ _ _ _ _ _ _ ES fun H'' s'' => ?_
    exact q H'' (ES.scn.dice.sm s'') (B14.trans (BH.trans (But.ofSame s'')))
end
end WK
set_option Elab.async false
set_option linter.all false
set_option maxRecDepth 100000
set_option maxHeartbeats 8000000
namespace WK
open PySem L2 PyProof.Rows LCX K1 FV DP LamX
open TX (sg sigs)
open PySem.W (Frag kitOne)
abbrev sLaw90 : Stmt := top 83
abbrev NL90 : List Str := ["_law_script", "_law_spot", "_law_dice_here", "_law_turn"]
def spLaw90 (K : Frag) : Sp := fun vs H Q _ => ∃ (s : Addr) (ns : List Int), vs = [.ref s] ∧ SqL K H s (ns.map V.int) ∧ ns.length ≤ 63 ∧ ∀ H', Q (.bl true) H'
theorem seq90 {K : Frag} {H H' : Hp} {a : Addr} {xs : List V} (e : ExtN H H') (h : SqL K H a xs) : SqL K H' a xs := by
  rcases h with (h | ⟨o, h⟩) | h
  · exact .inl (.inl (e _ _ h fun _ z => nomatch z))
  · exact .inl (.inr ⟨o, e _ _ h fun _ z => nomatch z⟩)
  · exact .inr h
section
variable {P : Program} {w : World} {K : PySem.W.Frag} {mg : Str → Option Value} {base : Heap}
variable {fD fRi : Addr} {dD dRi : FuncData}
theorem scL90 : FnScope NL90 ["_law_script"] (defScope sLaw90) := ⟨rfl, rfl, rfl, by decide +kernel, rfl, by decide +kernel, by decide +kernel⟩
theorem ok_law90 {f : Addr} {fd : FuncData} (F : Fun K "law" "law" sLaw90 f fd) (TT : TN mg)
    (AD : Fn K mg "_law_dice" sDice ["_law_script", "_law_at"] fD dD) (GD : FnOk P w K mg base CX0 1 fD dD ["_law_script", "_law_at"] (spDice K))
    (ARi : Fn K mg "_law_right" sLR ["_law_dice_here"] fRi dRi) (GRi : FnOk P w K mg base CX0 8 fRi dRi ["_law_dice_here"] spLR90) : FnOk P w K mg base CX0 9 f fd ["_law_script"] (spLaw90 K) := by
  refine F.ok scL90 (fun vs H Q E h => ?_) (fun cdv A outer s H vs Q E hr h => ?_)
  · obtain ⟨s, ns, rfl, _⟩ := h
    rfl
  · obtain ⟨sc, ns, rfl, hS, hl, q⟩ := h
    have hr1 : Room 1 _ := hr.mono (by decide)
    refine ⟨_, pss_cons (ps_for PassesOwn.never rfl (pi_range1 rfl TT.rng (pa_cons (pe_callB (call_max2 rfl) (by rfl) TT.max (by decide +kernel) (pa_cons pe_int (pa_cons (pe_callB (call_min2 rfl) (by rfl) TT.min (by decide +kernel) (pa_cons pe_int (pa_cons (pe_callB call_len_seq (by rfl) TT.len PySem.boot_len (pa_cons (pv 0) pa_nil)) pa_nil))) pa_nil))) pa_nil)) (pg_name (i := 1) scL90.nd rfl (Or.inl rfl))
        (pss_cons (ps_set (i := 2) scL90.nd rfl (Or.inl rfl) (pe_call (E := E0) GD hr1 rfl AD.g AD.F.kp AD.b .nil pass0 (pa_cons (pv 0) (pa_cons (pv 1) pa_nil))))
        (pss_one (ps_for PassesOwn.never rfl (pi_range1 rfl TT.rng (pa_cons pe_int pa_nil)) (pg_name (i := 3) scL90.nd rfl (Or.inl rfl))
          (pss_one (ps_if (pt_not (pt_val (pe_call (E := E0) GRi hr rfl ARi.g ARi.F.kp ARi.b .nil pass0 (pa_cons (pv 2) pa_nil)))) (pss_one (ps_ret pe_bl)) pss_nil))))))
      (pss_one (ps_ret pe_bl)), ?_⟩
    have len : ((ns.map V.int).length : Int) ≤ 63 := by
      rw [List.length_map]
      omega
    have len0 : (0 : Int) ≤ ((ns.map V.int).length : Int) := Int.natCast_nonneg _
    refine ⟨_, rfl, sc, _, rfl, .inl hS, _, _, rfl, _, _, rfl, _, rfl, by split <;> split <;> omega, by split <;> split <;> omega, ?_⟩
    refine for_range (lo := 0) (fun i σ H1 => (∃ a b c, σ = [some (.ref sc), a, b, c]) ∧ ExtN H H1) ⟨⟨_, _, _, rfl⟩, ExtN.refl H⟩ ?_ ?_
    · rintro i σ H1 hi ⟨⟨a, b, c, rfl⟩, s1⟩
      refine ⟨_, rfl, _, rfl, sc, ns, _, rfl, seq90 s1 hS, by omega, fun p H2 hp s2 hD => ?_⟩
      have free : ∀ b o, H b = some o → (∀ ps, o ≠ .tbl ps) → b ≠ p := fun b o e n => ne_of_none (s1 b o e n) hp
      refine ⟨2, rfl, by decide, by decide, ?_⟩
      refine for_range (lo := 0) (n := 2) (fun j σ H3 => (∃ x, σ = [some (.ref sc), some (.int (0 + (i : Nat))), some (.ref p), x]) ∧ DiceAt H3 p ∧ But p H2 H3) ⟨⟨_, rfl⟩, hD, But.refl p H2⟩ ?_ ?_
      · rintro j σ H3 hj ⟨⟨x, rfl⟩, hD3, b3⟩
        exact ⟨_, rfl, p, rfl, hD3, fun H4 hD4 b4 => ⟨_, rfl, ite2 (fun e => by cases e) (fun _ => ⟨⟨_, rfl⟩, hD4, b3.trans b4⟩)⟩⟩
      · rintro σ H3 ⟨⟨x, rfl⟩, hD3, b3⟩
        exact ⟨⟨_, _, _, rfl⟩, fun b o e n => b3 _ _ (s2 _ _ (s1 b o e n)) (free b o e n)⟩
    rintro σ H1 ⟨⟨a, b, c, rfl⟩, _⟩
    exact q _
end
end WK
set_option Elab.async false
set_option linter.all false
set_option maxRecDepth 100000
set_option maxHeartbeats 8000000
namespace WK
open PySem L2 PyProof.Rows LCX K1 FV DP DL LamX
open TX (sg sigs)
open PySem.W (Frag kitOne)
theorem binds_one {K : Frag} {f T : Addr} {e : Value} {j : Option Addr} {u : Value} {m : Nat} {wv : Array (Option Value)} (lt : K.lookup T = some ⟨e, j, .seq #[u] m, wv⟩) {fd : FuncData} {a b c d : Str} (hd : fd.defaults = .ref T)
    (hb : ∀ x1 x2 x3 x4 : Value, ∃ k, bindArgs fd ⟨[x1, x2, x3, x4], []⟩ = seqItems? fd.defaults >>= k ∧ k (some #[u]) = pure [(a, x1), (b, x2), (c, x3), (d, x4)]) : L2.Binds K fd [a, b, c, d] [] := fun s us hin hl => by
  match us, hl with
  | [x1, x2, x3, x4], _ =>
    obtain ⟨k, h1, h2⟩ := hb x1 x2 x3 x4
    exact PySem.W.binds_K hin hd lt rfl h1 h2
theorem binds_dfl {K : Frag} {f T : Addr} {e : Value} {j : Option Addr} {u : Value} {m : Nat} {wv : Array (Option Value)} (lt : K.lookup T = some ⟨e, j, .seq #[u] m, wv⟩) {fd : FuncData} {a b c : Str} (hd : fd.defaults = .ref T)
    (hb : ∀ x1 x2 : Value, ∃ k, bindArgs fd ⟨[x1, x2], []⟩ = seqItems? fd.defaults >>= k ∧ k (some #[u]) = pure [(a, x1), (b, x2), (c, u)]) : L2.Binds K fd [a, b, c] [u] := fun s us hin hl => by
  have two : us.length = 2 := by
    rw [List.length_append] at hl
    exact Nat.succ.inj hl
  match us, two with
  | [x1, x2], _ =>
    obtain ⟨k, h1, h2⟩ := hb x1 x2
    exact PySem.W.binds_K hin hd lt rfl h1 h2
theorem binds_three {K : Frag} {f T : Addr} {e : Value} {j : Option Addr} {u : Value} {m : Nat} {wv : Array (Option Value)} (lt : K.lookup T = some ⟨e, j, .seq #[u] m, wv⟩) {fd : FuncData} {a b c : Str} (hd : fd.defaults = .ref T)
    (hb : ∀ x1 x2 x3 : Value, ∃ k, bindArgs fd ⟨[x1, x2, x3], []⟩ = seqItems? fd.defaults >>= k ∧ k (some #[u]) = pure [(a, x1), (b, x2), (c, x3)]) : L2.Binds K fd [a, b, c] [] := fun s us hin hl => by
  match us, hl with
  | [x1, x2, x3], _ =>
    obtain ⟨k, h1, h2⟩ := hb x1 x2 x3
    exact PySem.W.binds_K hin hd lt rfl h1 h2
theorem all_mk {l : PySem.W.OpenLaw} {w : World} {K : Frag} {h : Heap} {mg : Str → Option Value} {cD CM cI fa pml pmt t21 t53 f0 f1 f2 f3 f4 f5 f6 f7 f8 f9 f10 f11 f12 f13 f14 f15 f16 f17 f18 f19 f20 f21 f22 f23 f24 f25 f26 f27 f28 f29 f30 f31 f32 f33 f34 f35 f36 f37 f38 f39 f40 f41 f42 f43 f44 f45 f46 f47 f48 f49 f50 f51 f52 f53 f54 f55 f56 f57 : Addr} (X : K.In h) (G : h.Ns mainGlobals mg) (hfa : mg "law" = some (.ref fa))
    {rml rmt : List Value} {xLM xMAX_LETTERS xMAX_STATES : Tok} {e21 e53 u53 : Value} {j21 j53 : Option Addr} {m21 m53 : Nat} {w21 w53 : Array (Option Value)} {od0 an0 od1 an1 od2 an2 od3 an3 od4 an4 od5 an5 od6 an6 od7 an7 od8 an8 od9 an9 od10 an10 od11 an11 od12 an12 od13 an13 od14 an14 od15 an15 od16 an16 od17 an17 od18 an18 od19 an19 od20 an20 od21 an21 od22 an22 od23 an23 od24 an24 od25 an25 od26 an26 od27 an27 od28 an28 od29 an29 od30 an30 od31 an31 od32 an32 od33 an33 od34 an34 od35 an35 od36 an36 od37 an37 od38 an38 od39 an39 od40 an40 od41 an41 od42 an42 od43 an43 od44 an44 od45 an45 od46 an46 od47 an47 od48 an48 od49 an49 od50 an50 od51 an51 od52 an52 od53 an53 od54 an54 od55 an55 od56 an56 od57 an57 : Option Addr} {sl0 sl1 sl2 sl3 sl4 sl5 sl6 sl7 sl8 sl9 sl10 sl11 sl12 sl13 sl14 sl15 sl16 sl17 sl18 sl19 sl20 sl21 sl22 sl23 sl24 sl25 sl26 sl27 sl28 sl29 sl30 sl31 sl32 sl33 sl34 sl35 sl36 sl37 sl38 sl39 sl40 sl41 sl42 sl43 sl44 sl45 sl46 sl47 sl48 sl49 sl50 sl51 sl52 sl53 sl54 sl55 sl56 sl57 : Array (Option Value)} {oc0 kV0 dc0 pm0 ct0 cd0 oc1 kV1 dc1 pm1 ct1 cd1 oc2 kV2 dc2 pm2 ct2 cd2 oc3 kV3 dc3 pm3 ct3 cd3 oc4 kV4 dc4 pm4 ct4 cd4 oc5 kV5 dc5 pm5 ct5 cd5 oc6 kV6 dc6 pm6 ct6 cd6 oc7 kV7 dc7 pm7 ct7 cd7 oc8 kV8 dc8 pm8 ct8 cd8 oc9 kV9 dc9 pm9 ct9 cd9 oc10 kV10 dc10 pm10 ct10 cd10 oc11 kV11 dc11 pm11 ct11 cd11 oc12 kV12 dc12 pm12 ct12 cd12 oc13 kV13 dc13 pm13 ct13 cd13 oc14 kV14 dc14 pm14 ct14 cd14 oc15 kV15 dc15 pm15 ct15 cd15 oc16 kV16 dc16 pm16 ct16 cd16 oc17 kV17 dc17 pm17 ct17 cd17 oc18 kV18 dc18 pm18 ct18 cd18 oc19 kV19 dc19 pm19 ct19 cd19 oc20 kV20 dc20 pm20 ct20 cd20 oc21 kV21 dc21 pm21 ct21 cd21 oc22 kV22 dc22 pm22 ct22 cd22 oc23 kV23 dc23 pm23 ct23 cd23 oc24 kV24 dc24 pm24 ct24 cd24 oc25 kV25 dc25 pm25 ct25 cd25 oc26 kV26 dc26 pm26 ct26 cd26 oc27 kV27 dc27 pm27 ct27 cd27 oc28 kV28 dc28 pm28 ct28 cd28 oc29 kV29 dc29 pm29 ct29 cd29 oc30 kV30 dc30 pm30 ct30 cd30 oc31 kV31 dc31 pm31 ct31 cd31 oc32 kV32 dc32 pm32 ct32 cd32 oc33 kV33 dc33 pm33 ct33 cd33 oc34 kV34 dc34 pm34 ct34 cd34 oc35 kV35 dc35 pm35 ct35 cd35 oc36 kV36 dc36 pm36 ct36 cd36 oc37 kV37 dc37 pm37 ct37 cd37 oc38 kV38 dc38 pm38 ct38 cd38 oc39 kV39 dc39 pm39 ct39 cd39 oc40 kV40 dc40 pm40 ct40 cd40 oc41 kV41 dc41 pm41 ct41 cd41 oc42 kV42 dc42 pm42 ct42 cd42 oc43 kV43 dc43 pm43 ct43 cd43 oc44 kV44 dc44 pm44 ct44 cd44 oc45 kV45 dc45 pm45 ct45 cd45 oc46 kV46 dc46 pm46 ct46 cd46 oc47 kV47 dc47 pm47 ct47 cd47 oc48 kV48 dc48 pm48 ct48 cd48 oc49 kV49 dc49 pm49 ct49 cd49 oc50 kV50 dc50 pm50 ct50 cd50 oc51 kV51 dc51 pm51 ct51 cd51 oc52 kV52 dc52 pm52 ct52 cd52 oc53 kV53 dc53 pm53 ct53 cd53 oc54 kV54 dc54 pm54 ct54 cd54 oc55 kV55 dc55 pm55 ct55 cd55 oc56 kV56 dc56 pm56 ct56 cd56 oc57 kV57 dc57 pm57 ct57 cd57 : Value}
    (gd : PySem.W.nsIn K mainGlobals "Made" = some (some (.ref cD)))
    (gm : PySem.W.nsIn K mainGlobals "Machine" = some (some (.ref CM)))
    (pgd : PySem.W.plainGet K cD Str.empty = true)
    (hdd : PySem.W.hasDictIn K cD = true)
    (pod : PySem.W.plainOver K cD = true)
    (sad : PySem.W.findIn K (.ref cD) "__setattr__" = some (some (.builtin "object.__setattr__")))
    (ccd : PySem.W.findIn K (.ref cD) "__class__" = some (some (.builtin "object.__class__")))
    (obd : PySem.W.mroIn K cD (.type "object") = some true)
    (mkd : PySem.W.makesIn K cD = true)
    (kCd : PySem.W.keepIn K (.ref cD) = true)
    (id : PySem.W.findIn K (.ref cD) "__init__" = some (some (.ref f52)))
    (nid : PySem.W.isFn K (.ref f52) = true)
    (pgm : PySem.W.plainGet K CM Str.empty = true)
    (hdm : PySem.W.hasDictIn K CM = true)
    (pom : PySem.W.plainOver K CM = true)
    (sam : PySem.W.findIn K (.ref CM) "__setattr__" = some (some (.builtin "object.__setattr__")))
    (ccm : PySem.W.findIn K (.ref CM) "__class__" = some (some (.builtin "object.__class__")))
    (obm : PySem.W.mroIn K CM (.type "object") = some true)
    (mkm : PySem.W.makesIn K CM = true)
    (kCm : PySem.W.keepIn K (.ref CM) = true)
    (im : PySem.W.findIn K (.ref CM) "__init__" = some (some (.ref f53)))
    (nim : PySem.W.isFn K (.ref f53) = true)
    (cn : PySem.W.specialIn K (.builtin "object.__class__") "__get__" = some (some (.builtin "getset_descriptor.__get__")))
    (ct : PySem.W.takesIn K (.builtin "object.__class__") = some true)
    (nR : PySem.W.findIn K (.ref cD) "rows" = some none)
    (nMT : PySem.W.findIn K (.ref CM) "_table" = some none)
    (nML : PySem.W.findIn K (.ref CM) "_letters" = some none)
    (nME : PySem.W.findIn K (.ref CM) "_ends" = some none)
    (paml : PySem.W.findIn K (.ref CM) "letters" = some (some (.ref pml)))
    (pg_ml : PySem.W.specialIn K (.ref pml) "__get__" = some (some (.builtin "property.__get__")))
    (pt_ml : PySem.W.takesIn K (.ref pml) = some true)
    (pr_ml : PySem.W.recIn K pml "property" = some (.ref f54 :: rml))
    (pamt : PySem.W.findIn K (.ref CM) "table" = some (some (.ref pmt)))
    (pg_mt : PySem.W.specialIn K (.ref pmt) "__get__" = some (some (.builtin "property.__get__")))
    (pt_mt : PySem.W.takesIn K (.ref pmt) = some true)
    (pr_mt : PySem.W.recIn K pmt "property" = some (.ref f55 :: rmt))
    (a56 : PySem.W.findIn K (.ref CM) "__len__" = some (some (.ref f56)))
    (n56 : PySem.W.isFn K (.ref f56) = true)
    (a57 : PySem.W.findIn K (.ref CM) "__contains__" = some (some (.ref f57)))
    (n57 : PySem.W.isFn K (.ref f57) = true)
    (kim : kitOne K (.ref CM) (.ref CM) = some true)
    (kitD : (plainTys.all fun t => kitOne K (.type t) (.ref cD) == some false) = true)
    (gI : PySem.W.nsIn K mainGlobals "InvalidMachine" = some (some (.ref cI)))
    (xI : PySem.W.excIn K cI [.type "ValueError", .type "Exception", .type "BaseException", .type "object"] "ValueError.__new__" = true)
    (kI : PySem.W.keepIn K (.ref cI) = true)
    (bI : PySem.W.subIn K (.ref cI) (.type "BaseException") = some true)
    (tI : PySem.W.typeIn K (.ref cI) = some (.type "type"))
    (d0 : PySem.W.nsIn K mainGlobals "led" = some (some (.ref f0)))
    (l0 : K.lookup f0 = some ⟨oc0, od0, .func (PySem.W.fnOf "led" "led" (defArgs sLed) (defBody sLed) (defScope sLed) .none kV0 dc0 pm0 an0 cd0 ct0), sl0⟩)
    (q0 : PySem.W.codeIn K cd0 "led" = true)
    (k0 : PySem.W.keepIn K (.ref f0) = true)
    (d1 : PySem.W.nsIn K mainGlobals "knots_of" = some (some (.ref f1)))
    (l1 : K.lookup f1 = some ⟨oc1, od1, .func (PySem.W.fnOf "knots_of" "knots_of" (defArgs sKnotsOf) (defBody sKnotsOf) (defScope sKnotsOf) .none kV1 dc1 pm1 an1 cd1 ct1), sl1⟩)
    (q1 : PySem.W.codeIn K cd1 "knots_of" = true)
    (k1 : PySem.W.keepIn K (.ref f1) = true)
    (d2 : PySem.W.nsIn K mainGlobals "_turned_round" = some (some (.ref f2)))
    (l2 : K.lookup f2 = some ⟨oc2, od2, .func (PySem.W.fnOf "_turned_round" "_turned_round" (defArgs sTurned) (defBody sTurned) (defScope sTurned) .none kV2 dc2 pm2 an2 cd2 ct2), sl2⟩)
    (q2 : PySem.W.codeIn K cd2 "_turned_round" = true)
    (k2 : PySem.W.keepIn K (.ref f2) = true)
    (d3 : PySem.W.nsIn K mainGlobals "_finished" = some (some (.ref f3)))
    (l3 : K.lookup f3 = some ⟨oc3, od3, .func (PySem.W.fnOf "_finished" "_finished" (defArgs sFinished) (defBody sFinished) (defScope sFinished) .none kV3 dc3 pm3 an3 cd3 ct3), sl3⟩)
    (q3 : PySem.W.codeIn K cd3 "_finished" = true)
    (k3 : PySem.W.keepIn K (.ref f3) = true)
    (d4 : PySem.W.nsIn K mainGlobals "_not_taken" = some (some (.ref f4)))
    (l4 : K.lookup f4 = some ⟨oc4, od4, .func (PySem.W.fnOf "_not_taken" "_not_taken" (defArgs sNotTaken) (defBody sNotTaken) (defScope sNotTaken) .none kV4 dc4 pm4 an4 cd4 ct4), sl4⟩)
    (q4 : PySem.W.codeIn K cd4 "_not_taken" = true)
    (k4 : PySem.W.keepIn K (.ref f4) = true)
    (d5 : PySem.W.nsIn K mainGlobals "is_integer" = some (some (.ref f5)))
    (l5 : K.lookup f5 = some ⟨oc5, od5, .func (PySem.W.fnOf "is_integer" "is_integer" (defArgs sIsInt) (defBody sIsInt) (defScope sIsInt) .none kV5 dc5 pm5 an5 cd5 ct5), sl5⟩)
    (q5 : PySem.W.codeIn K cd5 "is_integer" = true)
    (k5 : PySem.W.keepIn K (.ref f5) = true)
    (d6 : PySem.W.nsIn K mainGlobals "is_number" = some (some (.ref f6)))
    (l6 : K.lookup f6 = some ⟨oc6, od6, .func (PySem.W.fnOf "is_number" "is_number" (defArgs sIsNum) (defBody sIsNum) (defScope sIsNum) .none kV6 dc6 pm6 an6 cd6 ct6), sl6⟩)
    (q6 : PySem.W.codeIn K cd6 "is_number" = true)
    (k6 : PySem.W.keepIn K (.ref f6) = true)
    (d7 : PySem.W.nsIn K mainGlobals "need_number" = some (some (.ref f7)))
    (l7 : K.lookup f7 = some ⟨oc7, od7, .func (PySem.W.fnOf "need_number" "need_number" (defArgs sNeedNum) (defBody sNeedNum) (defScope sNeedNum) .none kV7 dc7 pm7 an7 cd7 ct7), sl7⟩)
    (q7 : PySem.W.codeIn K cd7 "need_number" = true)
    (k7 : PySem.W.keepIn K (.ref f7) = true)
    (d8 : PySem.W.nsIn K mainGlobals "is_pair" = some (some (.ref f8)))
    (l8 : K.lookup f8 = some ⟨oc8, od8, .func (PySem.W.fnOf "is_pair" "is_pair" (defArgs sIsPair) (defBody sIsPair) (defScope sIsPair) .none kV8 dc8 pm8 an8 cd8 ct8), sl8⟩)
    (q8 : PySem.W.codeIn K cd8 "is_pair" = true)
    (k8 : PySem.W.keepIn K (.ref f8) = true)
    (d9 : PySem.W.nsIn K mainGlobals "ascends" = some (some (.ref f9)))
    (l9 : K.lookup f9 = some ⟨oc9, od9, .func (PySem.W.fnOf "ascends" "ascends" (defArgs sAsc) (defBody sAsc) (defScope sAsc) .none kV9 dc9 pm9 an9 cd9 ct9), sl9⟩)
    (q9 : PySem.W.codeIn K cd9 "ascends" = true)
    (k9 : PySem.W.keepIn K (.ref f9) = true)
    (d10 : PySem.W.nsIn K mainGlobals "is_ascending" = some (some (.ref f10)))
    (l10 : K.lookup f10 = some ⟨oc10, od10, .func (PySem.W.fnOf "is_ascending" "is_ascending" (defArgs sIsAsc) (defBody sIsAsc) (defScope sIsAsc) .none kV10 dc10 pm10 an10 cd10 ct10), sl10⟩)
    (q10 : PySem.W.codeIn K cd10 "is_ascending" = true)
    (k10 : PySem.W.keepIn K (.ref f10) = true)
    (d11 : PySem.W.nsIn K mainGlobals "is_table" = some (some (.ref f11)))
    (l11 : K.lookup f11 = some ⟨oc11, od11, .func (PySem.W.fnOf "is_table" "is_table" (defArgs sIsTab) (defBody sIsTab) (defScope sIsTab) .none kV11 dc11 pm11 an11 cd11 ct11), sl11⟩)
    (q11 : PySem.W.codeIn K cd11 "is_table" = true)
    (k11 : PySem.W.keepIn K (.ref f11) = true)
    (d12 : PySem.W.nsIn K mainGlobals "_is_row" = some (some (.ref f12)))
    (l12 : K.lookup f12 = some ⟨oc12, od12, .func (PySem.W.fnOf "_is_row" "_is_row" (defArgs sIsRow) (defBody sIsRow) (defScope sIsRow) .none kV12 dc12 pm12 an12 cd12 ct12), sl12⟩)
    (q12 : PySem.W.codeIn K cd12 "_is_row" = true)
    (k12 : PySem.W.keepIn K (.ref f12) = true)
    (d13 : PySem.W.nsIn K mainGlobals "is_letters" = some (some (.ref f13)))
    (l13 : K.lookup f13 = some ⟨oc13, od13, .func (PySem.W.fnOf "is_letters" "is_letters" (defArgs sIsLet) (defBody sIsLet) (defScope sIsLet) .none kV13 dc13 pm13 an13 cd13 ct13), sl13⟩)
    (q13 : PySem.W.codeIn K cd13 "is_letters" = true)
    (k13 : PySem.W.keepIn K (.ref f13) = true)
    (d14 : PySem.W.nsIn K mainGlobals "is_word" = some (some (.ref f14)))
    (l14 : K.lookup f14 = some ⟨oc14, od14, .func (PySem.W.fnOf "is_word" "is_word" (defArgs sIsWord) (defBody sIsWord) (defScope sIsWord) .none kV14 dc14 pm14 an14 cd14 ct14), sl14⟩)
    (q14 : PySem.W.codeIn K cd14 "is_word" = true)
    (k14 : PySem.W.keepIn K (.ref f14) = true)
    (d15 : PySem.W.nsIn K mainGlobals "is_over" = some (some (.ref f15)))
    (l15 : K.lookup f15 = some ⟨oc15, od15, .func (PySem.W.fnOf "is_over" "is_over" (defArgs sIsOver) (defBody sIsOver) (defScope sIsOver) .none kV15 dc15 pm15 an15 cd15 ct15), sl15⟩)
    (q15 : PySem.W.codeIn K cd15 "is_over" = true)
    (k15 : PySem.W.keepIn K (.ref f15) = true)
    (d16 : PySem.W.nsIn K mainGlobals "need_letters" = some (some (.ref f16)))
    (l16 : K.lookup f16 = some ⟨oc16, od16, .func (PySem.W.fnOf "need_letters" "need_letters" (defArgs sNeedLet) (defBody sNeedLet) (defScope sNeedLet) .none kV16 dc16 pm16 an16 cd16 ct16), sl16⟩)
    (q16 : PySem.W.codeIn K cd16 "need_letters" = true)
    (k16 : PySem.W.keepIn K (.ref f16) = true)
    (d17 : PySem.W.nsIn K mainGlobals "need_word" = some (some (.ref f17)))
    (l17 : K.lookup f17 = some ⟨oc17, od17, .func (PySem.W.fnOf "need_word" "need_word" (defArgs sNeedWord) (defBody sNeedWord) (defScope sNeedWord) .none kV17 dc17 pm17 an17 cd17 ct17), sl17⟩)
    (q17 : PySem.W.codeIn K cd17 "need_word" = true)
    (k17 : PySem.W.keepIn K (.ref f17) = true)
    (d18 : PySem.W.nsIn K mainGlobals "need_over" = some (some (.ref f18)))
    (l18 : K.lookup f18 = some ⟨oc18, od18, .func (PySem.W.fnOf "need_over" "need_over" (defArgs sNeedOver) (defBody sNeedOver) (defScope sNeedOver) .none kV18 dc18 pm18 an18 cd18 ct18), sl18⟩)
    (q18 : PySem.W.codeIn K cd18 "need_over" = true)
    (k18 : PySem.W.keepIn K (.ref f18) = true)
    (d19 : PySem.W.nsIn K mainGlobals "counts" = some (some (.ref f19)))
    (l19 : K.lookup f19 = some ⟨oc19, od19, .func (PySem.W.fnOf "counts" "counts" (defArgs sCounts) (defBody sCounts) (defScope sCounts) .none kV19 dc19 pm19 an19 cd19 ct19), sl19⟩)
    (q19 : PySem.W.codeIn K cd19 "counts" = true)
    (k19 : PySem.W.keepIn K (.ref f19) = true)
    (d20 : PySem.W.nsIn K mainGlobals "need_machines" = some (some (.ref f20)))
    (l20 : K.lookup f20 = some ⟨oc20, od20, .func (PySem.W.fnOf "need_machines" "need_machines" (defArgs sNeedMs) (defBody sNeedMs) (defScope sNeedMs) .none kV20 dc20 pm20 an20 cd20 ct20), sl20⟩)
    (q20 : PySem.W.codeIn K cd20 "need_machines" = true)
    (k20 : PySem.W.keepIn K (.ref f20) = true)
    (d21 : PySem.W.nsIn K mainGlobals "plus" = some (some (.ref f21)))
    (l21 : K.lookup f21 = some ⟨oc21, od21, .func (PySem.W.fnOf "plus" "plus" (defArgs sPlus) (defBody sPlus) (defScope sPlus) (.ref t21) kV21 dc21 pm21 an21 cd21 ct21), sl21⟩)
    (q21 : PySem.W.codeIn K cd21 "plus" = true)
    (k21 : PySem.W.keepIn K (.ref f21) = true)
    (d22 : PySem.W.nsIn K mainGlobals "units_of" = some (some (.ref f22)))
    (l22 : K.lookup f22 = some ⟨oc22, od22, .func (PySem.W.fnOf "units_of" "units_of" (defArgs sUnits) (defBody sUnits) (defScope sUnits) .none kV22 dc22 pm22 an22 cd22 ct22), sl22⟩)
    (q22 : PySem.W.codeIn K cd22 "units_of" = true)
    (k22 : PySem.W.keepIn K (.ref f22) = true)
    (d23 : PySem.W.nsIn K mainGlobals "rings_by_counts" = some (some (.ref f23)))
    (l23 : K.lookup f23 = some ⟨oc23, od23, .func (PySem.W.fnOf "rings_by_counts" "rings_by_counts" (defArgs sRings) (defBody sRings) (defScope sRings) .none kV23 dc23 pm23 an23 cd23 ct23), sl23⟩)
    (q23 : PySem.W.codeIn K cd23 "rings_by_counts" = true)
    (k23 : PySem.W.keepIn K (.ref f23) = true)
    (d24 : PySem.W.nsIn K mainGlobals "met" = some (some (.ref f24)))
    (l24 : K.lookup f24 = some ⟨oc24, od24, .func (PySem.W.fnOf "met" "met" (defArgs sMet) (defBody sMet) (defScope sMet) .none kV24 dc24 pm24 an24 cd24 ct24), sl24⟩)
    (q24 : PySem.W.codeIn K cd24 "met" = true)
    (k24 : PySem.W.keepIn K (.ref f24) = true)
    (d25 : PySem.W.nsIn K mainGlobals "simple_rings" = some (some (.ref f25)))
    (l25 : K.lookup f25 = some ⟨oc25, od25, .func (PySem.W.fnOf "simple_rings" "simple_rings" (defArgs sSimple) (defBody sSimple) (defScope sSimple) .none kV25 dc25 pm25 an25 cd25 ct25), sl25⟩)
    (q25 : PySem.W.codeIn K cd25 "simple_rings" = true)
    (k25 : PySem.W.keepIn K (.ref f25) = true)
    (d26 : PySem.W.nsIn K mainGlobals "is_ring" = some (some (.ref f26)))
    (l26 : K.lookup f26 = some ⟨oc26, od26, .func (PySem.W.fnOf "is_ring" "is_ring" (defArgs sIsRing) (defBody sIsRing) (defScope sIsRing) .none kV26 dc26 pm26 an26 cd26 ct26), sl26⟩)
    (q26 : PySem.W.codeIn K cd26 "is_ring" = true)
    (k26 : PySem.W.keepIn K (.ref f26) = true)
    (d27 : PySem.W.nsIn K mainGlobals "side_sum" = some (some (.ref f27)))
    (l27 : K.lookup f27 = some ⟨oc27, od27, .func (PySem.W.fnOf "side_sum" "side_sum" (defArgs sSideSum) (defBody sSideSum) (defScope sSideSum) .none kV27 dc27 pm27 an27 cd27 ct27), sl27⟩)
    (q27 : PySem.W.codeIn K cd27 "side_sum" = true)
    (k27 : PySem.W.keepIn K (.ref f27) = true)
    (d28 : PySem.W.nsIn K mainGlobals "_leads_back" = some (some (.ref f28)))
    (l28 : K.lookup f28 = some ⟨oc28, od28, .func (PySem.W.fnOf "_leads_back" "_leads_back" (defArgs sLeads) (defBody sLeads) (defScope sLeads) .none kV28 dc28 pm28 an28 cd28 ct28), sl28⟩)
    (q28 : PySem.W.codeIn K cd28 "_leads_back" = true)
    (k28 : PySem.W.keepIn K (.ref f28) = true)
    (d29 : PySem.W.nsIn K mainGlobals "_is_side" = some (some (.ref f29)))
    (l29 : K.lookup f29 = some ⟨oc29, od29, .func (PySem.W.fnOf "_is_side" "_is_side" (defArgs sIsSide) (defBody sIsSide) (defScope sIsSide) .none kV29 dc29 pm29 an29 cd29 ct29), sl29⟩)
    (q29 : PySem.W.codeIn K cd29 "_is_side" = true)
    (k29 : PySem.W.keepIn K (.ref f29) = true)
    (d30 : PySem.W.nsIn K mainGlobals "_is_turn" = some (some (.ref f30)))
    (l30 : K.lookup f30 = some ⟨oc30, od30, .func (PySem.W.fnOf "_is_turn" "_is_turn" (defArgs sIsTurn) (defBody sIsTurn) (defScope sIsTurn) .none kV30 dc30 pm30 an30 cd30 ct30), sl30⟩)
    (q30 : PySem.W.codeIn K cd30 "_is_turn" = true)
    (k30 : PySem.W.keepIn K (.ref f30) = true)
    (d31 : PySem.W.nsIn K mainGlobals "_sum_of" = some (some (.ref f31)))
    (l31 : K.lookup f31 = some ⟨oc31, od31, .func (PySem.W.fnOf "_sum_of" "_sum_of" (defArgs sSumOf) (defBody sSumOf) (defScope sSumOf) .none kV31 dc31 pm31 an31 cd31 ct31), sl31⟩)
    (q31 : PySem.W.codeIn K cd31 "_sum_of" = true)
    (k31 : PySem.W.keepIn K (.ref f31) = true)
    (d32 : PySem.W.nsIn K mainGlobals "_law_dice" = some (some (.ref f32)))
    (l32 : K.lookup f32 = some ⟨oc32, od32, .func (PySem.W.fnOf "_law_dice" "_law_dice" (defArgs sDice) (defBody sDice) (defScope sDice) .none kV32 dc32 pm32 an32 cd32 ct32), sl32⟩)
    (q32 : PySem.W.codeIn K cd32 "_law_dice" = true)
    (k32 : PySem.W.keepIn K (.ref f32) = true)
    (d33 : PySem.W.nsIn K mainGlobals "_law_roll" = some (some (.ref f33)))
    (l33 : K.lookup f33 = some ⟨oc33, od33, .func (PySem.W.fnOf "_law_roll" "_law_roll" (defArgs sRoll) (defBody sRoll) (defScope sRoll) .none kV33 dc33 pm33 an33 cd33 ct33), sl33⟩)
    (q33 : PySem.W.codeIn K cd33 "_law_roll" = true)
    (k33 : PySem.W.keepIn K (.ref f33) = true)
    (d34 : PySem.W.nsIn K mainGlobals "_law_one_of" = some (some (.ref f34)))
    (l34 : K.lookup f34 = some ⟨oc34, od34, .func (PySem.W.fnOf "_law_one_of" "_law_one_of" (defArgs sOne) (defBody sOne) (defScope sOne) .none kV34 dc34 pm34 an34 cd34 ct34), sl34⟩)
    (q34 : PySem.W.codeIn K cd34 "_law_one_of" = true)
    (k34 : PySem.W.keepIn K (.ref f34) = true)
    (d35 : PySem.W.nsIn K mainGlobals "_law_mixed" = some (some (.ref f35)))
    (l35 : K.lookup f35 = some ⟨oc35, od35, .func (PySem.W.fnOf "_law_mixed" "_law_mixed" (defArgs sMixed) (defBody sMixed) (defScope sMixed) .none kV35 dc35 pm35 an35 cd35 ct35), sl35⟩)
    (q35 : PySem.W.codeIn K cd35 "_law_mixed" = true)
    (k35 : PySem.W.keepIn K (.ref f35) = true)
    (d36 : PySem.W.nsIn K mainGlobals "_law_letters" = some (some (.ref f36)))
    (l36 : K.lookup f36 = some ⟨oc36, od36, .func (PySem.W.fnOf "_law_letters" "_law_letters" (defArgs sLetters) (defBody sLetters) (defScope sLetters) .none kV36 dc36 pm36 an36 cd36 ct36), sl36⟩)
    (q36 : PySem.W.codeIn K cd36 "_law_letters" = true)
    (k36 : PySem.W.keepIn K (.ref f36) = true)
    (d37 : PySem.W.nsIn K mainGlobals "_law_word" = some (some (.ref f37)))
    (l37 : K.lookup f37 = some ⟨oc37, od37, .func (PySem.W.fnOf "_law_word" "_law_word" (defArgs sWord) (defBody sWord) (defScope sWord) .none kV37 dc37 pm37 an37 cd37 ct37), sl37⟩)
    (q37 : PySem.W.codeIn K cd37 "_law_word" = true)
    (k37 : PySem.W.keepIn K (.ref f37) = true)
    (d38 : PySem.W.nsIn K mainGlobals "_law_action" = some (some (.ref f38)))
    (l38 : K.lookup f38 = some ⟨oc38, od38, .func (PySem.W.fnOf "_law_action" "_law_action" (defArgs sAct) (defBody sAct) (defScope sAct) .none kV38 dc38 pm38 an38 cd38 ct38), sl38⟩)
    (q38 : PySem.W.codeIn K cd38 "_law_action" = true)
    (k38 : PySem.W.keepIn K (.ref f38) = true)
    (d39 : PySem.W.nsIn K mainGlobals "_law_table" = some (some (.ref f39)))
    (l39 : K.lookup f39 = some ⟨oc39, od39, .func (PySem.W.fnOf "_law_table" "_law_table" (defArgs sLTab) (defBody sLTab) (defScope sLTab) .none kV39 dc39 pm39 an39 cd39 ct39), sl39⟩)
    (q39 : PySem.W.codeIn K cd39 "_law_table" = true)
    (k39 : PySem.W.keepIn K (.ref f39) = true)
    (d40 : PySem.W.nsIn K mainGlobals "_law_machine" = some (some (.ref f40)))
    (l40 : K.lookup f40 = some ⟨oc40, od40, .func (PySem.W.fnOf "_law_machine" "_law_machine" (defArgs sLMac) (defBody sLMac) (defScope sLMac) .none kV40 dc40 pm40 an40 cd40 ct40), sl40⟩)
    (q40 : PySem.W.codeIn K cd40 "_law_machine" = true)
    (k40 : PySem.W.keepIn K (.ref f40) = true)
    (d41 : PySem.W.nsIn K mainGlobals "_law_made_machine" = some (some (.ref f41)))
    (l41 : K.lookup f41 = some ⟨oc41, od41, .func (PySem.W.fnOf "_law_made_machine" "_law_made_machine" (defArgs sMade) (defBody sMade) (defScope sMade) .none kV41 dc41 pm41 an41 cd41 ct41), sl41⟩)
    (q41 : PySem.W.codeIn K cd41 "_law_made_machine" = true)
    (k41 : PySem.W.keepIn K (.ref f41) = true)
    (d42 : PySem.W.nsIn K mainGlobals "_law_led" = some (some (.ref f42)))
    (l42 : K.lookup f42 = some ⟨oc42, od42, .func (PySem.W.fnOf "_law_led" "_law_led" (defArgs sLLed) (defBody sLLed) (defScope sLLed) .none kV42 dc42 pm42 an42 cd42 ct42), sl42⟩)
    (q42 : PySem.W.codeIn K cd42 "_law_led" = true)
    (k42 : PySem.W.keepIn K (.ref f42) = true)
    (d43 : PySem.W.nsIn K mainGlobals "_law_has" = some (some (.ref f43)))
    (l43 : K.lookup f43 = some ⟨oc43, od43, .func (PySem.W.fnOf "_law_has" "_law_has" (defArgs sLHas) (defBody sLHas) (defScope sLHas) .none kV43 dc43 pm43 an43 cd43 ct43), sl43⟩)
    (q43 : PySem.W.codeIn K cd43 "_law_has" = true)
    (k43 : PySem.W.keepIn K (.ref f43) = true)
    (d44 : PySem.W.nsIn K mainGlobals "_law_words" = some (some (.ref f44)))
    (l44 : K.lookup f44 = some ⟨oc44, od44, .func (PySem.W.fnOf "_law_words" "_law_words" (defArgs sLWords) (defBody sLWords) (defScope sLWords) .none kV44 dc44 pm44 an44 cd44 ct44), sl44⟩)
    (q44 : PySem.W.codeIn K cd44 "_law_words" = true)
    (k44 : PySem.W.keepIn K (.ref f44) = true)
    (d45 : PySem.W.nsIn K mainGlobals "_law_counts" = some (some (.ref f45)))
    (l45 : K.lookup f45 = some ⟨oc45, od45, .func (PySem.W.fnOf "_law_counts" "_law_counts" (defArgs sLCounts) (defBody sLCounts) (defScope sLCounts) .none kV45 dc45 pm45 an45 cd45 ct45), sl45⟩)
    (q45 : PySem.W.codeIn K cd45 "_law_counts" = true)
    (k45 : PySem.W.keepIn K (.ref f45) = true)
    (d46 : PySem.W.nsIn K mainGlobals "_law_way" = some (some (.ref f46)))
    (l46 : K.lookup f46 = some ⟨oc46, od46, .func (PySem.W.fnOf "_law_way" "_law_way" (defArgs sWay) (defBody sWay) (defScope sWay) .none kV46 dc46 pm46 an46 cd46 ct46), sl46⟩)
    (q46 : PySem.W.codeIn K cd46 "_law_way" = true)
    (k46 : PySem.W.keepIn K (.ref f46) = true)
    (d47 : PySem.W.nsIn K mainGlobals "_law_simple" = some (some (.ref f47)))
    (l47 : K.lookup f47 = some ⟨oc47, od47, .func (PySem.W.fnOf "_law_simple" "_law_simple" (defArgs sSimp) (defBody sSimp) (defScope sSimp) .none kV47 dc47 pm47 an47 cd47 ct47), sl47⟩)
    (q47 : PySem.W.codeIn K cd47 "_law_simple" = true)
    (k47 : PySem.W.keepIn K (.ref f47) = true)
    (d48 : PySem.W.nsIn K mainGlobals "_law_key" = some (some (.ref f48)))
    (l48 : K.lookup f48 = some ⟨oc48, od48, .func (PySem.W.fnOf "_law_key" "_law_key" (defArgs sKey) (defBody sKey) (defScope sKey) .none kV48 dc48 pm48 an48 cd48 ct48), sl48⟩)
    (q48 : PySem.W.codeIn K cd48 "_law_key" = true)
    (k48 : PySem.W.keepIn K (.ref f48) = true)
    (d49 : PySem.W.nsIn K mainGlobals "_law_gone" = some (some (.ref f49)))
    (l49 : K.lookup f49 = some ⟨oc49, od49, .func (PySem.W.fnOf "_law_gone" "_law_gone" (defArgs sGone) (defBody sGone) (defScope sGone) .none kV49 dc49 pm49 an49 cd49 ct49), sl49⟩)
    (q49 : PySem.W.codeIn K cd49 "_law_gone" = true)
    (k49 : PySem.W.keepIn K (.ref f49) = true)
    (d50 : PySem.W.nsIn K mainGlobals "_law_right" = some (some (.ref f50)))
    (l50 : K.lookup f50 = some ⟨oc50, od50, .func (PySem.W.fnOf "_law_right" "_law_right" (defArgs sLR) (defBody sLR) (defScope sLR) .none kV50 dc50 pm50 an50 cd50 ct50), sl50⟩)
    (q50 : PySem.W.codeIn K cd50 "_law_right" = true)
    (k50 : PySem.W.keepIn K (.ref f50) = true)
    (d51 : PySem.W.nsIn K mainGlobals "law" = some (some (.ref f51)))
    (l51 : K.lookup f51 = some ⟨oc51, od51, .func (PySem.W.fnOf "law" "law" (defArgs sLaw90) (defBody sLaw90) (defScope sLaw90) .none kV51 dc51 pm51 an51 cd51 ct51), sl51⟩)
    (q51 : PySem.W.codeIn K cd51 "law" = true)
    (k51 : PySem.W.keepIn K (.ref f51) = true)
    (l52 : K.lookup f52 = some ⟨oc52, od52, .func (PySem.W.fnOf "__init__" "Made.__init__" (defArgs sMadeI) (defBody sMadeI) (defScope sMadeI) .none kV52 dc52 pm52 an52 cd52 ct52), sl52⟩)
    (q52 : PySem.W.codeIn K cd52 "Made.__init__" = true)
    (k52 : PySem.W.keepIn K (.ref f52) = true)
    (l53 : K.lookup f53 = some ⟨oc53, od53, .func (PySem.W.fnOf "__init__" "Machine.__init__" (defArgs sMInit) (defBody sMInit) (defScope sMInit) (.ref t53) kV53 dc53 pm53 an53 cd53 ct53), sl53⟩)
    (q53 : PySem.W.codeIn K cd53 "Machine.__init__" = true)
    (k53 : PySem.W.keepIn K (.ref f53) = true)
    (l54 : K.lookup f54 = some ⟨oc54, od54, .func (PySem.W.fnOf "letters" "Machine.letters" (defArgs sMLet) (defBody sMLet) (defScope sMLet) .none kV54 dc54 pm54 an54 cd54 ct54), sl54⟩)
    (q54 : PySem.W.codeIn K cd54 "Machine.letters" = true)
    (k54 : PySem.W.keepIn K (.ref f54) = true)
    (l55 : K.lookup f55 = some ⟨oc55, od55, .func (PySem.W.fnOf "table" "Machine.table" (defArgs sMTab) (defBody sMTab) (defScope sMTab) .none kV55 dc55 pm55 an55 cd55 ct55), sl55⟩)
    (q55 : PySem.W.codeIn K cd55 "Machine.table" = true)
    (k55 : PySem.W.keepIn K (.ref f55) = true)
    (l56 : K.lookup f56 = some ⟨oc56, od56, .func (PySem.W.fnOf "__len__" "Machine.__len__" (defArgs sMLen) (defBody sMLen) (defScope sMLen) .none kV56 dc56 pm56 an56 cd56 ct56), sl56⟩)
    (q56 : PySem.W.codeIn K cd56 "Machine.__len__" = true)
    (k56 : PySem.W.keepIn K (.ref f56) = true)
    (l57 : K.lookup f57 = some ⟨oc57, od57, .func (PySem.W.fnOf "__contains__" "Machine.__contains__" (defArgs sMHas) (defBody sMHas) (defScope sMHas) .none kV57 dc57 pm57 an57 cd57 ct57), sl57⟩)
    (q57 : PySem.W.codeIn K cd57 "Machine.__contains__" = true)
    (k57 : PySem.W.keepIn K (.ref f57) = true)
    (y21 : K.lookup t21 = some ⟨e21, j21, .seq #[Value.int 1 xLM] m21, w21⟩)
    (y53 : K.lookup t53 = some ⟨e53, j53, .seq #[u53] m53, w53⟩)
    (vMAX_LETTERS : PySem.W.nsIn K mainGlobals "MAX_LETTERS" = some (some (.int 3 xMAX_LETTERS)))
    (vMAX_STATES : PySem.W.nsIn K mainGlobals "MAX_STATES" = some (some (.int 4 xMAX_STATES)))
    (z_len : PySem.W.nsIn K mainGlobals "len" = some none)
    (z_int : PySem.W.nsIn K mainGlobals "int" = some none)
    (z_abs : PySem.W.nsIn K mainGlobals "abs" = some none)
    (z_isinstance : PySem.W.nsIn K mainGlobals "isinstance" = some none)
    (z_bool : PySem.W.nsIn K mainGlobals "bool" = some none)
    (z_str : PySem.W.nsIn K mainGlobals "str" = some none)
    (z_all : PySem.W.nsIn K mainGlobals "all" = some none)
    (z_range : PySem.W.nsIn K mainGlobals "range" = some none)
    (z_sorted : PySem.W.nsIn K mainGlobals "sorted" = some none)
    (z_set : PySem.W.nsIn K mainGlobals "set" = some none)
    (z_tuple : PySem.W.nsIn K mainGlobals "tuple" = some none)
    (z_list : PySem.W.nsIn K mainGlobals "list" = some none)
    (z_max : PySem.W.nsIn K mainGlobals "max" = some none)
    (z_min : PySem.W.nsIn K mainGlobals "min" = some none)
    (z_zip : PySem.W.nsIn K mainGlobals "zip" = some none)
    (z_enumerate : PySem.W.nsIn K mainGlobals "enumerate" = some none) :
    LamX.LawAtS l w K CX0 9 63 "_law_script" mg fa h := by
  have e := hfa.symm.trans (PySem.W.mg_of X G d51)
  cases e
  have T : TN mg := ⟨PySem.W.mg_none_of X G z_len, PySem.W.mg_none_of X G z_int, PySem.W.mg_none_of X G z_abs, PySem.W.mg_none_of X G z_isinstance, PySem.W.mg_none_of X G z_bool, PySem.W.mg_none_of X G z_str, PySem.W.mg_none_of X G z_all, PySem.W.mg_none_of X G z_range, PySem.W.mg_none_of X G z_sorted, PySem.W.mg_none_of X G z_set, PySem.W.mg_none_of X G z_tuple, PySem.W.mg_none_of X G z_list, PySem.W.mg_none_of X G z_max, PySem.W.mg_none_of X G z_min, PySem.W.mg_none_of X G z_zip, ⟨_, PySem.W.mg_of X G vMAX_LETTERS⟩⟩
  have en := PySem.W.mg_none_of X G z_enumerate
  have clM : Cls K CM := ⟨pgm, hdm, pom, sam⟩
  have YM : SlX.SIsi K CM := ⟨ccm, cn, ct, obm⟩
  have MM : TMc K mg CM cD cI := ⟨clM, nMT, nML, nME, PySem.W.mg_of X G gm, PySem.W.mg_of X G gd, fun t ht => by simpa using List.all_eq_true.mp kitD t ht, PySem.W.mg_of X G gI, xI, kI, bI, tI, ⟨_, PySem.W.mg_of X G vMAX_STATES⟩⟩
  have Rml : PropOf K CM "letters" pml f54 := ⟨paml, pg_ml, pt_ml, _, pr_ml⟩
  have Rmt : PropOf K CM "table" pmt f55 := ⟨pamt, pg_mt, pt_mt, _, pr_mt⟩
  have F0 := fun_mk (st := sLed) l0 q0 k0
  have b0 := F0.binds (ps := ["letters", "table", "word", "start"]) fun _ _ _ _ _ _ us hl => match us, hl with | [_, _, _, _], _ => rfl
  have A0 : Fn K mg "led" sLed ["letters", "table", "word", "start"] f0 _ := ⟨PySem.W.mg_of X G d0, F0, b0⟩
  have F1 := fun_mk (st := sKnotsOf) l1 q1 k1
  have b1 := F1.binds (ps := ["table"]) fun _ _ _ _ _ _ us hl => match us, hl with | [_], _ => rfl
  have A1 : Fn K mg "knots_of" sKnotsOf ["table"] f1 _ := ⟨PySem.W.mg_of X G d1, F1, b1⟩
  have F2 := fun_mk (st := sTurned) l2 q2 k2
  have b2 := F2.binds (ps := ["table"]) fun _ _ _ _ _ _ us hl => match us, hl with | [_], _ => rfl
  have A2 : Fn K mg "_turned_round" sTurned ["table"] f2 _ := ⟨PySem.W.mg_of X G d2, F2, b2⟩
  have F3 := fun_mk (st := sFinished) l3 q3 k3
  have b3 := F3.binds (ps := ["table"]) fun _ _ _ _ _ _ us hl => match us, hl with | [_], _ => rfl
  have A3 : Fn K mg "_finished" sFinished ["table"] f3 _ := ⟨PySem.W.mg_of X G d3, F3, b3⟩
  have F4 := fun_mk (st := sNotTaken) l4 q4 k4
  have b4 := F4.binds (ps := ["back", "start", "taken"]) fun _ _ _ _ _ _ us hl => match us, hl with | [_, _, _], _ => rfl
  have A4 : Fn K mg "_not_taken" sNotTaken ["back", "start", "taken"] f4 _ := ⟨PySem.W.mg_of X G d4, F4, b4⟩
  have F5 := fun_mk (st := sIsInt) l5 q5 k5
  have b5 := F5.binds (ps := ["value"]) fun _ _ _ _ _ _ us hl => match us, hl with | [_], _ => rfl
  have A5 : Fn K mg "is_integer" sIsInt ["value"] f5 _ := ⟨PySem.W.mg_of X G d5, F5, b5⟩
  have F6 := fun_mk (st := sIsNum) l6 q6 k6
  have b6 := F6.binds (ps := ["value", "least", "most"]) fun _ _ _ _ _ _ us hl => match us, hl with | [_, _, _], _ => rfl
  have A6 : Fn K mg "is_number" sIsNum ["value", "least", "most"] f6 _ := ⟨PySem.W.mg_of X G d6, F6, b6⟩
  have F7 := fun_mk (st := sNeedNum) l7 q7 k7
  have b7 := F7.binds (ps := ["value", "least", "most"]) fun _ _ _ _ _ _ us hl => match us, hl with | [_, _, _], _ => rfl
  have A7 : Fn K mg "need_number" sNeedNum ["value", "least", "most"] f7 _ := ⟨PySem.W.mg_of X G d7, F7, b7⟩
  have F8 := fun_mk (st := sIsPair) l8 q8 k8
  have b8 := F8.binds (ps := ["value"]) fun _ _ _ _ _ _ us hl => match us, hl with | [_], _ => rfl
  have A8 : Fn K mg "is_pair" sIsPair ["value"] f8 _ := ⟨PySem.W.mg_of X G d8, F8, b8⟩
  have F9 := fun_mk (st := sAsc) l9 q9 k9
  have b9 := F9.binds (ps := ["values"]) fun _ _ _ _ _ _ us hl => match us, hl with | [_], _ => rfl
  have A9 : Fn K mg "ascends" sAsc ["values"] f9 _ := ⟨PySem.W.mg_of X G d9, F9, b9⟩
  have F10 := fun_mk (st := sIsAsc) l10 q10 k10
  have b10 := F10.binds (ps := ["value", "many"]) fun _ _ _ _ _ _ us hl => match us, hl with | [_, _], _ => rfl
  have A10 : Fn K mg "is_ascending" sIsAsc ["value", "many"] f10 _ := ⟨PySem.W.mg_of X G d10, F10, b10⟩
  have F11 := fun_mk (st := sIsTab) l11 q11 k11
  have b11 := F11.binds (ps := ["value", "width", "most"]) fun _ _ _ _ _ _ us hl => match us, hl with | [_, _, _], _ => rfl
  have A11 : Fn K mg "is_table" sIsTab ["value", "width", "most"] f11 _ := ⟨PySem.W.mg_of X G d11, F11, b11⟩
  have F12 := fun_mk (st := sIsRow) l12 q12 k12
  have b12 := F12.binds (ps := ["value", "width", "many"]) fun _ _ _ _ _ _ us hl => match us, hl with | [_, _, _], _ => rfl
  have A12 : Fn K mg "_is_row" sIsRow ["value", "width", "many"] f12 _ := ⟨PySem.W.mg_of X G d12, F12, b12⟩
  have F13 := fun_mk (st := sIsLet) l13 q13 k13
  have b13 := F13.binds (ps := ["value"]) fun _ _ _ _ _ _ us hl => match us, hl with | [_], _ => rfl
  have A13 : Fn K mg "is_letters" sIsLet ["value"] f13 _ := ⟨PySem.W.mg_of X G d13, F13, b13⟩
  have F14 := fun_mk (st := sIsWord) l14 q14 k14
  have b14 := F14.binds (ps := ["value"]) fun _ _ _ _ _ _ us hl => match us, hl with | [_], _ => rfl
  have A14 : Fn K mg "is_word" sIsWord ["value"] f14 _ := ⟨PySem.W.mg_of X G d14, F14, b14⟩
  have F15 := fun_mk (st := sIsOver) l15 q15 k15
  have b15 := F15.binds (ps := ["letters", "word"]) fun _ _ _ _ _ _ us hl => match us, hl with | [_, _], _ => rfl
  have A15 : Fn K mg "is_over" sIsOver ["letters", "word"] f15 _ := ⟨PySem.W.mg_of X G d15, F15, b15⟩
  have F16 := fun_mk (st := sNeedLet) l16 q16 k16
  have b16 := F16.binds (ps := ["letters"]) fun _ _ _ _ _ _ us hl => match us, hl with | [_], _ => rfl
  have A16 : Fn K mg "need_letters" sNeedLet ["letters"] f16 _ := ⟨PySem.W.mg_of X G d16, F16, b16⟩
  have F17 := fun_mk (st := sNeedWord) l17 q17 k17
  have b17 := F17.binds (ps := ["word"]) fun _ _ _ _ _ _ us hl => match us, hl with | [_], _ => rfl
  have A17 : Fn K mg "need_word" sNeedWord ["word"] f17 _ := ⟨PySem.W.mg_of X G d17, F17, b17⟩
  have F18 := fun_mk (st := sNeedOver) l18 q18 k18
  have b18 := F18.binds (ps := ["letters", "word"]) fun _ _ _ _ _ _ us hl => match us, hl with | [_, _], _ => rfl
  have A18 : Fn K mg "need_over" sNeedOver ["letters", "word"] f18 _ := ⟨PySem.W.mg_of X G d18, F18, b18⟩
  have F19 := fun_mk (st := sCounts) l19 q19 k19
  have b19 := F19.binds (ps := ["letters", "word"]) fun _ _ _ _ _ _ us hl => match us, hl with | [_, _], _ => rfl
  have A19 : Fn K mg "counts" sCounts ["letters", "word"] f19 _ := ⟨PySem.W.mg_of X G d19, F19, b19⟩
  have F20 := fun_mk (st := sNeedMs) l20 q20 k20
  have b20 := F20.binds (ps := ["machines"]) fun _ _ _ _ _ _ us hl => match us, hl with | [_], _ => rfl
  have A20 : Fn K mg "need_machines" sNeedMs ["machines"] f20 _ := ⟨PySem.W.mg_of X G d20, F20, b20⟩
  have bd21 := binds_dfl (fd := PySem.W.fnOf "plus" "plus" (defArgs sPlus) (defBody sPlus) (defScope sPlus) (.ref t21) kV21 dc21 pm21 an21 cd21 ct21) (f := f21) (a := "one") (b := "other") (c := "times") y21 rfl (fun _ _ => ⟨_, rfl, rfl⟩)
  have bt21 := binds_three (fd := PySem.W.fnOf "plus" "plus" (defArgs sPlus) (defBody sPlus) (defScope sPlus) (.ref t21) kV21 dc21 pm21 an21 cd21 ct21) (f := f21) (a := "one") (b := "other") (c := "times") y21 rfl (fun _ _ _ => ⟨_, rfl, rfl⟩)
  have g21 := PySem.W.mg_of X G d21
  have F22 := fun_mk (st := sUnits) l22 q22 k22
  have b22 := F22.binds (ps := ["letters"]) fun _ _ _ _ _ _ us hl => match us, hl with | [_], _ => rfl
  have A22 : Fn K mg "units_of" sUnits ["letters"] f22 _ := ⟨PySem.W.mg_of X G d22, F22, b22⟩
  have F23 := fun_mk (st := sRings) l23 q23 k23
  have b23 := F23.binds (ps := ["letters", "table", "state"]) fun _ _ _ _ _ _ us hl => match us, hl with | [_, _, _], _ => rfl
  have A23 : Fn K mg "rings_by_counts" sRings ["letters", "table", "state"] f23 _ := ⟨PySem.W.mg_of X G d23, F23, b23⟩
  have F24 := fun_mk (st := sMet) l24 q24 k24
  have b24 := F24.binds (ps := ["machine", "word"]) fun _ _ _ _ _ _ us hl => match us, hl with | [_, _], _ => rfl
  have A24 : Fn K mg "met" sMet ["machine", "word"] f24 _ := ⟨PySem.W.mg_of X G d24, F24, b24⟩
  have F25 := fun_mk (st := sSimple) l25 q25 k25
  have b25 := F25.binds (ps := ["machine", "state"]) fun _ _ _ _ _ _ us hl => match us, hl with | [_, _], _ => rfl
  have A25 : Fn K mg "simple_rings" sSimple ["machine", "state"] f25 _ := ⟨PySem.W.mg_of X G d25, F25, b25⟩
  have F26 := fun_mk (st := sIsRing) l26 q26 k26
  have b26 := F26.binds (ps := ["machine", "state", "value"]) fun _ _ _ _ _ _ us hl => match us, hl with | [_, _, _], _ => rfl
  have A26 : Fn K mg "is_ring" sIsRing ["machine", "state", "value"] f26 _ := ⟨PySem.W.mg_of X G d26, F26, b26⟩
  have F27 := fun_mk (st := sSideSum) l27 q27 k27
  have b27 := F27.binds (ps := ["machine", "side"]) fun _ _ _ _ _ _ us hl => match us, hl with | [_, _], _ => rfl
  have A27 : Fn K mg "side_sum" sSideSum ["machine", "side"] f27 _ := ⟨PySem.W.mg_of X G d27, F27, b27⟩
  have F28 := fun_mk (st := sLeads) l28 q28 k28
  have b28 := F28.binds (ps := ["machine", "state", "value"]) fun _ _ _ _ _ _ us hl => match us, hl with | [_, _, _], _ => rfl
  have A28 : Fn K mg "_leads_back" sLeads ["machine", "state", "value"] f28 _ := ⟨PySem.W.mg_of X G d28, F28, b28⟩
  have F29 := fun_mk (st := sIsSide) l29 q29 k29
  have b29 := F29.binds (ps := ["machine", "value"]) fun _ _ _ _ _ _ us hl => match us, hl with | [_, _], _ => rfl
  have A29 : Fn K mg "_is_side" sIsSide ["machine", "value"] f29 _ := ⟨PySem.W.mg_of X G d29, F29, b29⟩
  have F30 := fun_mk (st := sIsTurn) l30 q30 k30
  have b30 := F30.binds (ps := ["machine", "word", "value"]) fun _ _ _ _ _ _ us hl => match us, hl with | [_, _, _], _ => rfl
  have A30 : Fn K mg "_is_turn" sIsTurn ["machine", "word", "value"] f30 _ := ⟨PySem.W.mg_of X G d30, F30, b30⟩
  have F31 := fun_mk (st := sSumOf) l31 q31 k31
  have b31 := F31.binds (ps := ["letters", "side"]) fun _ _ _ _ _ _ us hl => match us, hl with | [_, _], _ => rfl
  have A31 : Fn K mg "_sum_of" sSumOf ["letters", "side"] f31 _ := ⟨PySem.W.mg_of X G d31, F31, b31⟩
  have F32 := fun_mk (st := sDice) l32 q32 k32
  have b32 := F32.binds (ps := ["_law_script", "_law_at"]) fun _ _ _ _ _ _ us hl => match us, hl with | [_, _], _ => rfl
  have A32 : Fn K mg "_law_dice" sDice ["_law_script", "_law_at"] f32 _ := ⟨PySem.W.mg_of X G d32, F32, b32⟩
  have F33 := fun_mk (st := sRoll) l33 q33 k33
  have b33 := F33.binds (ps := ["_law_dice_here", "_law_total"]) fun _ _ _ _ _ _ us hl => match us, hl with | [_, _], _ => rfl
  have A33 : Fn K mg "_law_roll" sRoll ["_law_dice_here", "_law_total"] f33 _ := ⟨PySem.W.mg_of X G d33, F33, b33⟩
  have F34 := fun_mk (st := sOne) l34 q34 k34
  have b34 := F34.binds (ps := ["_law_dice_here", "_law_items"]) fun _ _ _ _ _ _ us hl => match us, hl with | [_, _], _ => rfl
  have A34 : Fn K mg "_law_one_of" sOne ["_law_dice_here", "_law_items"] f34 _ := ⟨PySem.W.mg_of X G d34, F34, b34⟩
  have F35 := fun_mk (st := sMixed) l35 q35 k35
  have b35 := F35.binds (ps := ["_law_dice_here", "_law_items"]) fun _ _ _ _ _ _ us hl => match us, hl with | [_, _], _ => rfl
  have A35 : Fn K mg "_law_mixed" sMixed ["_law_dice_here", "_law_items"] f35 _ := ⟨PySem.W.mg_of X G d35, F35, b35⟩
  have F36 := fun_mk (st := sLetters) l36 q36 k36
  have b36 := F36.binds (ps := ["_law_dice_here", "_law_total"]) fun _ _ _ _ _ _ us hl => match us, hl with | [_, _], _ => rfl
  have A36 : Fn K mg "_law_letters" sLetters ["_law_dice_here", "_law_total"] f36 _ := ⟨PySem.W.mg_of X G d36, F36, b36⟩
  have F37 := fun_mk (st := sWord) l37 q37 k37
  have b37 := F37.binds (ps := ["_law_dice_here", "_law_letters_here", "_law_most"]) fun _ _ _ _ _ _ us hl => match us, hl with | [_, _, _], _ => rfl
  have A37 : Fn K mg "_law_word" sWord ["_law_dice_here", "_law_letters_here", "_law_most"] f37 _ := ⟨PySem.W.mg_of X G d37, F37, b37⟩
  have F38 := fun_mk (st := sAct) l38 q38 k38
  have b38 := F38.binds (ps := ["_law_dice_here", "_law_size", "_law_sort"]) fun _ _ _ _ _ _ us hl => match us, hl with | [_, _, _], _ => rfl
  have A38 : Fn K mg "_law_action" sAct ["_law_dice_here", "_law_size", "_law_sort"] f38 _ := ⟨PySem.W.mg_of X G d38, F38, b38⟩
  have F39 := fun_mk (st := sLTab) l39 q39 k39
  have b39 := F39.binds (ps := ["_law_dice_here", "_law_letters_here", "_law_size", "_law_sorts"]) fun _ _ _ _ _ _ us hl => match us, hl with | [_, _, _, _], _ => rfl
  have A39 : Fn K mg "_law_table" sLTab ["_law_dice_here", "_law_letters_here", "_law_size", "_law_sorts"] f39 _ := ⟨PySem.W.mg_of X G d39, F39, b39⟩
  have F40 := fun_mk (st := sLMac) l40 q40 k40
  have b40 := F40.binds (ps := ["_law_dice_here", "_law_letters_here", "_law_states"]) fun _ _ _ _ _ _ us hl => match us, hl with | [_, _, _], _ => rfl
  have A40 : Fn K mg "_law_machine" sLMac ["_law_dice_here", "_law_letters_here", "_law_states"] f40 _ := ⟨PySem.W.mg_of X G d40, F40, b40⟩
  have F41 := fun_mk (st := sMade) l41 q41 k41
  have b41 := F41.binds (ps := ["_law_plain"]) fun _ _ _ _ _ _ us hl => match us, hl with | [_], _ => rfl
  have A41 : Fn K mg "_law_made_machine" sMade ["_law_plain"] f41 _ := ⟨PySem.W.mg_of X G d41, F41, b41⟩
  have F42 := fun_mk (st := sLLed) l42 q42 k42
  have b42 := F42.binds (ps := ["_law_table_here", "_law_letters_here", "_law_word_here", "_law_start"]) fun _ _ _ _ _ _ us hl => match us, hl with | [_, _, _, _], _ => rfl
  have A42 : Fn K mg "_law_led" sLLed ["_law_table_here", "_law_letters_here", "_law_word_here", "_law_start"] f42 _ := ⟨PySem.W.mg_of X G d42, F42, b42⟩
  have F43 := fun_mk (st := sLHas) l43 q43 k43
  have b43 := F43.binds (ps := ["_law_plain", "_law_word_here"]) fun _ _ _ _ _ _ us hl => match us, hl with | [_, _], _ => rfl
  have A43 : Fn K mg "_law_has" sLHas ["_law_plain", "_law_word_here"] f43 _ := ⟨PySem.W.mg_of X G d43, F43, b43⟩
  have F44 := fun_mk (st := sLWords) l44 q44 k44
  have b44 := F44.binds (ps := ["_law_plain", "_law_most"]) fun _ _ _ _ _ _ us hl => match us, hl with | [_, _], _ => rfl
  have A44 : Fn K mg "_law_words" sLWords ["_law_plain", "_law_most"] f44 _ := ⟨PySem.W.mg_of X G d44, F44, b44⟩
  have F45 := fun_mk (st := sLCounts) l45 q45 k45
  have b45 := F45.binds (ps := ["_law_letters_here", "_law_word_here"]) fun _ _ _ _ _ _ us hl => match us, hl with | [_, _], _ => rfl
  have A45 : Fn K mg "_law_counts" sLCounts ["_law_letters_here", "_law_word_here"] f45 _ := ⟨PySem.W.mg_of X G d45, F45, b45⟩
  have F46 := fun_mk (st := sWay) l46 q46 k46
  have b46 := F46.binds (ps := ["_law_plain", "_law_word_here"]) fun _ _ _ _ _ _ us hl => match us, hl with | [_, _], _ => rfl
  have A46 : Fn K mg "_law_way" sWay ["_law_plain", "_law_word_here"] f46 _ := ⟨PySem.W.mg_of X G d46, F46, b46⟩
  have F47 := fun_mk (st := sSimp) l47 q47 k47
  have b47 := F47.binds (ps := ["_law_plain", "_law_state"]) fun _ _ _ _ _ _ us hl => match us, hl with | [_, _], _ => rfl
  have A47 : Fn K mg "_law_simple" sSimp ["_law_plain", "_law_state"] f47 _ := ⟨PySem.W.mg_of X G d47, F47, b47⟩
  have F48 := fun_mk (st := sKey) l48 q48 k48
  have b48 := F48.binds (ps := ["_law_word_here"]) fun _ _ _ _ _ _ us hl => match us, hl with | [_], _ => rfl
  have A48 : Fn K mg "_law_key" sKey ["_law_word_here"] f48 _ := ⟨PySem.W.mg_of X G d48, F48, b48⟩
  have F49 := fun_mk (st := sGone) l49 q49 k49
  have b49 := F49.binds (ps := ["_law_word_here", "_law_rings"]) fun _ _ _ _ _ _ us hl => match us, hl with | [_, _], _ => rfl
  have A49 : Fn K mg "_law_gone" sGone ["_law_word_here", "_law_rings"] f49 _ := ⟨PySem.W.mg_of X G d49, F49, b49⟩
  have F50 := fun_mk (st := sLR) l50 q50 k50
  have b50 := F50.binds (ps := ["_law_dice_here"]) fun _ _ _ _ _ _ us hl => match us, hl with | [_], _ => rfl
  have A50 : Fn K mg "_law_right" sLR ["_law_dice_here"] f50 _ := ⟨PySem.W.mg_of X G d50, F50, b50⟩
  have F51 := fun_mk (st := sLaw90) l51 q51 k51
  have F52 := fun_mk (st := sMadeI) l52 q52 k52
  have b52 := F52.binds (ps := ["self", "rows"]) fun _ _ _ _ _ _ us hl => match us, hl with | [_, _], _ => rfl
  have b53 := binds_one (fd := PySem.W.fnOf "__init__" "Machine.__init__" (defArgs sMInit) (defBody sMInit) (defScope sMInit) (.ref t53) kV53 dc53 pm53 an53 cd53 ct53) (f := f53) (a := "self") (b := "letters") (c := "table") (d := "ends") y53 rfl (fun _ _ _ _ => ⟨_, rfl, rfl⟩)
  have F54 := fun_mk (st := sMLet) l54 q54 k54
  have b54 := F54.binds (ps := ["self"]) fun _ _ _ _ _ _ us hl => match us, hl with | [_], _ => rfl
  have F55 := fun_mk (st := sMTab) l55 q55 k55
  have b55 := F55.binds (ps := ["self"]) fun _ _ _ _ _ _ us hl => match us, hl with | [_], _ => rfl
  have F56 := fun_mk (st := sMLen) l56 q56 k56
  have b56 := F56.binds (ps := ["self"]) fun _ _ _ _ _ _ us hl => match us, hl with | [_], _ => rfl
  have F57 := fun_mk (st := sMHas) l57 q57 k57
  have b57 := F57.binds (ps := ["self", "x"]) fun _ _ _ _ _ _ us hl => match us, hl with | [_, _], _ => rfl
  refine ⟨PySem.W.fnOf "law" "law" (defArgs sLaw90) (defBody sLaw90) (defScope sLaw90) .none kV51 dc51 pm51 an51 cd51 ct51, [], spLaw90 K, ?_, ?_, ?_, fun s v => .of_eq rfl, fun H a ns hl _ hT hS => ⟨a, ns, rfl, hS, hl, fun _ => rfl⟩, fun base _ _ hB => ?_⟩
  · intro p hp
    exact absurd hp List.not_mem_nil
  · intro p hp
    exact absurd hp List.not_mem_nil
  · intro p hp
    exact absurd hp List.not_mem_nil
  have G6 : FnOk l.prog w K mg base CX0 2 f6 (PySem.W.fnOf "is_number" "is_number" (defArgs sIsNum) (defBody sIsNum) (defScope sIsNum) .none kV6 dc6 pm6 an6 cd6 ct6) ["value", "least", "most"] (spNum2) := ok_num2 F6 T A5
  have G7 : FnOk l.prog w K mg base CX0 3 f7 (PySem.W.fnOf "need_number" "need_number" (defArgs sNeedNum) (defBody sNeedNum) (defScope sNeedNum) .none kV7 dc7 pm7 an7 cd7 ct7) ["value", "least", "most"] (spNeedNum) := ok_neednum F7 T A5 A6
  have G9 : FnOk l.prog w K mg base CX0 1 f9 (PySem.W.fnOf "ascends" "ascends" (defArgs sAsc) (defBody sAsc) (defScope sAsc) .none kV9 dc9 pm9 an9 cd9 ct9) ["values"] (spAscT K) := ok_ascT F9 T
  have G10 : FnOk l.prog w K mg base CX0 3 f10 (PySem.W.fnOf "is_ascending" "is_ascending" (defArgs sIsAsc) (defBody sIsAsc) (defScope sIsAsc) .none kV10 dc10 pm10 an10 cd10 ct10) ["value", "many"] (spIsAsc K) := ok_isasc F10 T A6 G6 A9 G9
  have G12 : FnOk l.prog w K mg base CX0 3 f12 (PySem.W.fnOf "_is_row" "_is_row" (defArgs sIsRow) (defBody sIsRow) (defScope sIsRow) .none kV12 dc12 pm12 an12 cd12 ct12) ["value", "width", "many"] (spRow K) := ok_row F12 T A6 G6
  have G11 : FnOk l.prog w K mg base CX0 4 f11 (PySem.W.fnOf "is_table" "is_table" (defArgs sIsTab) (defBody sIsTab) (defScope sIsTab) .none kV11 dc11 pm11 an11 cd11 ct11) ["value", "width", "most"] (spTab K) := ok_table F11 T A12 G12
  have G14 : FnOk l.prog w K mg base CX0 1 f14 (PySem.W.fnOf "is_word" "is_word" (defArgs sIsWord) (defBody sIsWord) (defScope sIsWord) .none kV14 dc14 pm14 an14 cd14 ct14) ["value"] (spIsWord K) := ok_isword F14 T
  have G13 : FnOk l.prog w K mg base CX0 2 f13 (PySem.W.fnOf "is_letters" "is_letters" (defArgs sIsLet) (defBody sIsLet) (defScope sIsLet) .none kV13 dc13 pm13 an13 cd13 ct13) ["value"] (spIsLet K) := ok_islet F13 T A14 A9
  have G15 : FnOk l.prog w K mg base CX0 1 f15 (PySem.W.fnOf "is_over" "is_over" (defArgs sIsOver) (defBody sIsOver) (defScope sIsOver) .none kV15 dc15 pm15 an15 cd15 ct15) ["letters", "word"] (spOver2) := ok_over2 F15 T
  have GO1 : FnOk l.prog w K mg base CX0 1 f15 (PySem.W.fnOf "is_over" "is_over" (defArgs sIsOver) (defBody sIsOver) (defScope sIsOver) .none kV15 dc15 pm15 an15 cd15 ct15) ["letters", "word"] (spOver) := ok_over F15 T
  have G16 : FnOk l.prog w K mg base CX0 3 f16 (PySem.W.fnOf "need_letters" "need_letters" (defArgs sNeedLet) (defBody sNeedLet) (defScope sNeedLet) .none kV16 dc16 pm16 an16 cd16 ct16) ["letters"] (spNeedLet) := ok_needlet F16 A13 G13
  have G17 : FnOk l.prog w K mg base CX0 2 f17 (PySem.W.fnOf "need_word" "need_word" (defArgs sNeedWord) (defBody sNeedWord) (defScope sNeedWord) .none kV17 dc17 pm17 an17 cd17 ct17) ["word"] (spNeedWord) := ok_needword F17 A14 G14
  have G18 : FnOk l.prog w K mg base CX0 2 f18 (PySem.W.fnOf "need_over" "need_over" (defArgs sNeedOver) (defBody sNeedOver) (defScope sNeedOver) .none kV18 dc18 pm18 an18 cd18 ct18) ["letters", "word"] (spNeedOver) := ok_needover F18 A15 GO1
  have G19 : FnOk l.prog w K mg base CX0 4 f19 (PySem.W.fnOf "counts" "counts" (defArgs sCounts) (defBody sCounts) (defScope sCounts) .none kV19 dc19 pm19 an19 cd19 ct19) ["letters", "word"] (spCounts) := ok_counts F19 T A16 G16 A17 G17 A18 G18
  have G53 : FnOk l.prog w K mg base (L2.CX l.prog w) 5 f53 (PySem.W.fnOf "__init__" "Machine.__init__" (defArgs sMInit) (defBody sMInit) (defScope sMInit) (.ref t53) kV53 dc53 pm53 an53 cd53 ct53) ["self", "letters", "table", "ends"] (spMInit K CM cI) := ok_minit l53 q53 T MM A13 G13 A11 G11 A10 G10
  have MIM : Mk K CM f53 := ⟨mkm, im, nim, kCm⟩
  have G0 : FnOk l.prog w K mg base CX0 1 f0 (PySem.W.fnOf "led" "led" (defArgs sLed) (defBody sLed) (defScope sLed) .none kV0 dc0 pm0 an0 cd0 ct0) ["letters", "table", "word", "start"] (spLed K) := ok_led F0 en
  have G20 : FnOk l.prog w K mg base CX0 1 f20 (PySem.W.fnOf "need_machines" "need_machines" (defArgs sNeedMs) (defBody sNeedMs) (defScope sNeedMs) .none kV20 dc20 pm20 an20 cd20 ct20) ["machines"] (spNeedM1 K CM) := ok_needm1 F20 T MM YM kim
  have G54 : FnOk l.prog w K mg base CX0 1 f54 (PySem.W.fnOf "letters" "Machine.letters" (defArgs sMLet) (defBody sMLet) (defScope sMLet) .none kV54 dc54 pm54 an54 cd54 ct54) ["self"] (getSp CM "_letters") := fn_getter (N := ["self"]) l54 q54 ⟨rfl, rfl, rfl, by decide +kernel, rfl, by decide +kernel, by decide +kernel⟩ rfl rfl clM nML
  have G55 : FnOk l.prog w K mg base CX0 1 f55 (PySem.W.fnOf "table" "Machine.table" (defArgs sMTab) (defBody sMTab) (defScope sMTab) .none kV55 dc55 pm55 an55 cd55 ct55) ["self"] (getSp CM "_table") := fn_getter (N := ["self"]) l55 q55 ⟨rfl, rfl, rfl, by decide +kernel, rfl, by decide +kernel, by decide +kernel⟩ rfl rfl clM nMT
  have G56 : FnOk l.prog w K mg base CX0 1 f56 (PySem.W.fnOf "__len__" "Machine.__len__" (defArgs sMLen) (defBody sMLen) (defScope sMLen) .none kV56 dc56 pm56 an56 cd56 ct56) ["self"] (spMLen CM) := ok_mlen F56 T MM
  have RI : FnR l.prog w K mg base CX0 1 f56 (spMLen CM) := by simpa only [List.append_nil] using G56.raw b56 .nil
  have G2 : FnOk l.prog w K mg base CX0 1 f2 (PySem.W.fnOf "_turned_round" "_turned_round" (defArgs sTurned) (defBody sTurned) (defScope sTurned) .none kV2 dc2 pm2 an2 cd2 ct2) ["table"] (spTurned K) := ok_turned F2 T en
  have G3 : FnOk l.prog w K mg base CX0 1 f3 (PySem.W.fnOf "_finished" "_finished" (defArgs sFinished) (defBody sFinished) (defScope sFinished) .none kV3 dc3 pm3 an3 cd3 ct3) ["table"] (spFinished K) := ok_finished F3 T
  have G4 : FnOk l.prog w K mg base CX0 1 f4 (PySem.W.fnOf "_not_taken" "_not_taken" (defArgs sNotTaken) (defBody sNotTaken) (defScope sNotTaken) .none kV4 dc4 pm4 an4 cd4 ct4) ["back", "start", "taken"] (spNotTaken) := ok_nottaken F4 T
  have G1 : FnOk l.prog w K mg base CX0 2 f1 (PySem.W.fnOf "knots_of" "knots_of" (defArgs sKnotsOf) (defBody sKnotsOf) (defScope sKnotsOf) .none kV1 dc1 pm1 an1 cd1 ct1) ["table"] (spKnotsOf K) := ok_knotsof F1 T A2 G2 A3 G3 A4 G4
  have G21 : FnOk l.prog w K mg base CX0 1 f21 (PySem.W.fnOf "plus" "plus" (defArgs sPlus) (defBody sPlus) (defScope sPlus) (.ref t21) kV21 dc21 pm21 an21 cd21 ct21) ["one", "other", "times"] (spPlus) := ok_plus l21 q21 T
  have G23 : FnOk l.prog w K mg base CX0 3 f23 (PySem.W.fnOf "rings_by_counts" "rings_by_counts" (defArgs sRings) (defBody sRings) (defScope sRings) .none kV23 dc23 pm23 an23 cd23 ct23) ["letters", "table", "state"] (spRings K) := ok_rings rfl F23 T A1 G1 A22 g21 k21 G21 bd21
  have G24 : FnOk l.prog w K mg base CX0 3 f24 (PySem.W.fnOf "met" "met" (defArgs sMet) (defBody sMet) (defScope sMet) .none kV24 dc24 pm24 an24 cd24 ct24) ["machine", "word"] (spMet CM) := ok_met F24 T MM A20 G20 A17 G17 A18 G18 A0 G0 Rmt G55 b55 Rml G54 b54
  have G25 : FnOk l.prog w K mg base CX0 4 f25 (PySem.W.fnOf "simple_rings" "simple_rings" (defArgs sSimple) (defBody sSimple) (defScope sSimple) .none kV25 dc25 pm25 an25 cd25 ct25) ["machine", "state"] (spSimple CM) := ok_simple F25 T MM A20 G20 A7 G7 a56 n56 RI A23 G23 Rmt G55 b55 Rml G54 b54
  have G28 : FnOk l.prog w K mg base CX0 3 f28 (PySem.W.fnOf "_leads_back" "_leads_back" (defArgs sLeads) (defBody sLeads) (defScope sLeads) .none kV28 dc28 pm28 an28 cd28 ct28) ["machine", "state", "value"] (spLeads K CM) := ok_leads F28 T MM A14 G14 A15 G15 A0 G0 Rmt G55 b55 Rml G54 b54
  have G26 : FnOk l.prog w K mg base CX0 4 f26 (PySem.W.fnOf "is_ring" "is_ring" (defArgs sIsRing) (defBody sIsRing) (defScope sIsRing) .none kV26 dc26 pm26 an26 cd26 ct26) ["machine", "state", "value"] (spIsRing K CM) := ok_isring F26 T MM A20 G20 A7 G7 a56 n56 RI A28 G28
  have GNum1 : FnOk l.prog w K mg base CX0 2 f6 (PySem.W.fnOf "is_number" "is_number" (defArgs sIsNum) (defBody sIsNum) (defScope sIsNum) .none kV6 dc6 pm6 an6 cd6 ct6) ["value", "least", "most"] (spIsNum) := ok_isnum F6 T A5
  have G5 : FnOk l.prog w K mg base CX0 1 f5 (PySem.W.fnOf "is_integer" "is_integer" (defArgs sIsInt) (defBody sIsInt) (defScope sIsInt) .none kV5 dc5 pm5 an5 cd5 ct5) ["value"] (spIsInt) := ok_isint F5 T
  have G57 : FnOk l.prog w K mg base CX0 2 f57 (PySem.W.fnOf "__contains__" "Machine.__contains__" (defArgs sMHas) (defBody sMHas) (defScope sMHas) .none kV57 dc57 pm57 an57 cd57 ct57) ["self", "x"] (spMHas CM) := ok_mhas F57 MM A14 G14 A15 GO1 A0 G0
  have RH : FnR l.prog w K mg base CX0 2 f57 (spMHas CM) := by simpa only [List.append_nil] using G57.raw b57 .nil
  have GPT : FnOk l.prog w K mg base CX0 1 f21 (PySem.W.fnOf "plus" "plus" (defArgs sPlus) (defBody sPlus) (defScope sPlus) (.ref t21) kV21 dc21 pm21 an21 cd21 ct21) ["one", "other", "times"] (spPlusT) := ok_plusT l21 q21 T
  have G8 : FnOk l.prog w K mg base CX0 1 f8 (PySem.W.fnOf "is_pair" "is_pair" (defArgs sIsPair) (defBody sIsPair) (defScope sIsPair) .none kV8 dc8 pm8 an8 cd8 ct8) ["value"] (spIsPair K) := ok_ispair F8 T
  have G31 : FnOk l.prog w K mg base CX0 6 f31 (PySem.W.fnOf "_sum_of" "_sum_of" (defArgs sSumOf) (defBody sSumOf) (defScope sSumOf) .none kV31 dc31 pm31 an31 cd31 ct31) ["letters", "side"] (spSumOf) := ok_sumof F31 A19 (G19.mono (by decide)) g21 k21 GPT bt21
  have G30 : FnOk l.prog w K mg base CX0 4 f30 (PySem.W.fnOf "_is_turn" "_is_turn" (defArgs sIsTurn) (defBody sIsTurn) (defScope sIsTurn) .none kV30 dc30 pm30 an30 cd30 ct30) ["machine", "word", "value"] (spIsTurn CM) := ok_isturn F30 T MM A6 GNum1 A5 G5 A0 G0 A28 G28 Rmt G55 b55 Rml G54 b54
  have G29 : FnOk l.prog w K mg base CX0 5 f29 (PySem.W.fnOf "_is_side" "_is_side" (defArgs sIsSide) (defBody sIsSide) (defScope sIsSide) .none kV29 dc29 pm29 an29 cd29 ct29) ["machine", "value"] (spIsSide CM) := ok_isside F29 T A8 G8 a57 n57 RH A30 G30
  have G27 : FnOk l.prog w K mg base CX0 7 f27 (PySem.W.fnOf "side_sum" "side_sum" (defArgs sSideSum) (defBody sSideSum) (defScope sSideSum) .none kV27 dc27 pm27 an27 cd27 ct27) ["machine", "side"] (spSideSum CM) := ok_sidesum F27 MM A20 G20 A29 G29 A31 G31 Rml G54 b54
  have G32 : FnOk l.prog w K mg base CX0 1 f32 (PySem.W.fnOf "_law_dice" "_law_dice" (defArgs sDice) (defBody sDice) (defScope sDice) .none kV32 dc32 pm32 an32 cd32 ct32) ["_law_script", "_law_at"] (spDice K) := ok_dice F32 T.dice
  have G33 : FnOk l.prog w K mg base CX0 1 f33 (PySem.W.fnOf "_law_roll" "_law_roll" (defArgs sRoll) (defBody sRoll) (defScope sRoll) .none kV33 dc33 pm33 an33 cd33 ct33) ["_law_dice_here", "_law_total"] (spRoll) := ok_roll F33 T.dice
  have G35 : FnOk l.prog w K mg base CX0 2 f35 (PySem.W.fnOf "_law_mixed" "_law_mixed" (defArgs sMixed) (defBody sMixed) (defScope sMixed) .none kV35 dc35 pm35 an35 cd35 ct35) ["_law_dice_here", "_law_items"] (spMixed) := ok_mixed F35 T A33
  have G36 : FnOk l.prog w K mg base CX0 3 f36 (PySem.W.fnOf "_law_letters" "_law_letters" (defArgs sLetters) (defBody sLetters) (defScope sLetters) .none kV36 dc36 pm36 an36 cd36 ct36) ["_law_dice_here", "_law_total"] (spLetters) := ok_letters F36 T A35 G35
  have G37 : FnOk l.prog w K mg base CX0 3 f37 (PySem.W.fnOf "_law_word" "_law_word" (defArgs sWord) (defBody sWord) (defScope sWord) .none kV37 dc37 pm37 an37 cd37 ct37) ["_law_dice_here", "_law_letters_here", "_law_most"] (spWordL) := ok_word F37 T A33 A34
  have G39 : FnOk l.prog w K mg base CX0 3 f39 (PySem.W.fnOf "_law_table" "_law_table" (defArgs sLTab) (defBody sLTab) (defScope sLTab) .none kV39 dc39 pm39 an39 cd39 ct39) ["_law_dice_here", "_law_letters_here", "_law_size", "_law_sorts"] (spLTab) := ok_ltab F39 T A33 A34 A38
  have G40 : FnOk l.prog w K mg base CX0 4 f40 (PySem.W.fnOf "_law_machine" "_law_machine" (defArgs sLMac) (defBody sLMac) (defScope sLMac) .none kV40 dc40 pm40 an40 cd40 ct40) ["_law_dice_here", "_law_letters_here", "_law_states"] (spLMac) := ok_lmac F40 T A33 A39 G39
  have G41 : FnOk l.prog w K mg base CX0 7 f41 (PySem.W.fnOf "_law_made_machine" "_law_made_machine" (defArgs sMade) (defBody sMade) (defScope sMade) .none kV41 dc41 pm41 an41 cd41 ct41) ["_law_plain"] (spMade CM) := ok_made F41 T MM MIM G53 b53
  have G47 : FnOk l.prog w K mg base CX0 4 f47 (PySem.W.fnOf "_law_simple" "_law_simple" (defArgs sSimp) (defBody sSimp) (defScope sSimp) .none kV47 dc47 pm47 an47 cd47 ct47) ["_law_plain", "_law_state"] (spSimp) := ok_simp F47 T A45 A48
  have G44 : FnOk l.prog w K mg base CX0 1 f44 (PySem.W.fnOf "_law_words" "_law_words" (defArgs sLWords) (defBody sLWords) (defScope sLWords) .none kV44 dc44 pm44 an44 cd44 ct44) ["_law_plain", "_law_most"] (spLWords) := ok_lwords F44 T
  have G46 : FnOk l.prog w K mg base CX0 2 f46 (PySem.W.fnOf "_law_way" "_law_way" (defArgs sWay) (defBody sWay) (defScope sWay) .none kV46 dc46 pm46 an46 cd46 ct46) ["_law_plain", "_law_word_here"] (spWay) := ok_way F46 A42
  have G43 : FnOk l.prog w K mg base CX0 2 f43 (PySem.W.fnOf "_law_has" "_law_has" (defArgs sLHas) (defBody sLHas) (defScope sLHas) .none kV43 dc43 pm43 an43 cd43 ct43) ["_law_plain", "_law_word_here"] (spLHas) := ok_lhas F43 A42
  have G49 : FnOk l.prog w K mg base CX0 1 f49 (PySem.W.fnOf "_law_gone" "_law_gone" (defArgs sGone) (defBody sGone) (defScope sGone) .none kV49 dc49 pm49 an49 cd49 ct49) ["_law_word_here", "_law_rings"] (spGone) := ok_gone F49 T
  have G50 : FnOk l.prog w K mg base CX0 8 f50 (PySem.W.fnOf "_law_right" "_law_right" (defArgs sLR) (defBody sLR) (defScope sLR) .none kV50 dc50 pm50 an50 cd50 ct50) ["_law_dice_here"] (spLR90) := ok_r90 F50 T a57 n57 RH A33 A34 A36 G36 A37 G37 A40 G40 A41 G41 A25 G25 A47 G47 A44 G44 A46 G46 A24 G24 A42 A26 G26 A49 G49 A43 G43 A27 G27 A19 G19
  exact ok_law90 F51 T A32 G32 A50 G50
end WK
set_option Elab.async false
set_option linter.all false
set_option maxRecDepth 100000
set_option maxHeartbeats 2000000
namespace HK
open PySem PySem.Spec PyProof.Rows L2
/-- a def as it was written, at an address -/
abbrev FnT : Type := Option (Str × Str × Arguments × FuncBody × Scope × Addr × List (Str × Addr) × Addr)
def fnAt (K : PySem.W.Frag) (f : Addr) : FnT := match K.lookup f with
  | some ⟨_, _, .func d, _⟩ => some (d.name, d.qualname, d.params, d.body, d.scope, d.globals, d.closure, d.builtins)
  | _ => none
def fnIs (nm q : Str) (st : Stmt) : FnT := some (nm, q, defArgs st, .stmts (defBody st), defScope st, mainGlobals, [], builtinsNs)
/-- none: nothing stands there; an address: that -/
def isV (d : Option Addr) (v : Value) : Bool := match d, v with
  | none, .none => true
  | some a, .ref b => Nat.beq a b
  | _, _ => false
def dV : Option Addr → Value
  | none => .none
  | some a => .ref a
theorem isV_ok {d : Option Addr} {v : Value} (h : isV d v = true) : v = dV d := by
  cases d with
  | none => cases v <;> first | rfl | cases h
  | some a =>
    cases v with
    | ref b => exact congrArg Value.ref (Nat.eq_of_beq_eq_true h).symm
    | _ => cases h
/-- an address, where one is asked -/
def anyV (d : Option Addr) (v : Value) : Bool := match d with
  | none => true
  | some _ => isV d v
/-- defaults, keyword defaults, the code object of the def at f -/
def fnB (K : PySem.W.Frag) (f : Addr) (q : Str) (d k o : Option Addr) : Bool := match K.lookup f with
  | some ⟨_, _, .func fd, _⟩ => isV d fd.defaults && (anyV k fd.kwdefaults && (anyV o fd.code && PySem.W.codeIn K fd.code q))
  | _ => false
theorem fn_ok {K : PySem.W.Frag} {f : Addr} {nm q : Str} {st : Stmt} {d k o : Option Addr} (e : fnAt K f = fnIs nm q st) (c : fnB K f q d k o = true) :
    ∃ (oc kV doc pm cd ct : Value) (od an : Option Addr) (sl : Array (Option Value)), K.lookup f = some ⟨oc, od, .func (PySem.W.fnOf nm q (defArgs st) (defBody st) (defScope st) (dV d) kV doc pm an cd ct), sl⟩ ∧ PySem.W.codeIn K cd q = true ∧ (∀ a, k = some a → kV = .ref a) ∧ (∀ a, o = some a → cd = .ref a) := by
  unfold fnAt fnIs at e
  unfold fnB at c
  cases l : K.lookup f with
  | none =>
    rw [l] at c
    cases c
  | some ob =>
    obtain ⟨oc, od, dt, sl⟩ := ob
    rw [l] at c e
    cases dt with
    | func fd =>
      obtain ⟨a1, a2, a3, a4, a5, a6, a7, a8, a9, b1, b2, b3, b4, b5, b6⟩ := fd
      have e2 : (some (a1, a2, a3, a4, a5, a6, a7, b6) : FnT) = some (nm, q, defArgs st, .stmts (defBody st), defScope st, mainGlobals, [], builtinsNs) := e
      simp only [Option.some.injEq, Prod.mk.injEq] at e2
      obtain ⟨rfl, rfl, rfl, rfl, rfl, rfl, rfl, rfl⟩ := e2
      have c2 : (isV d a8 && (anyV k a9 && (anyV o b4 && PySem.W.codeIn K b4 a2))) = true := c
      obtain ⟨c3, c6⟩ := Bool.and_eq_true_iff.mp c2
      obtain ⟨c4, c7⟩ := Bool.and_eq_true_iff.mp c6
      obtain ⟨c5, c8⟩ := Bool.and_eq_true_iff.mp c7
      have e3 := isV_ok c3
      subst e3
      refine ⟨oc, a9, b1, b2, b4, b5, od, b3, sl, rfl, c8, fun a h => ?_, fun a h => ?_⟩
      · subst h
        exact isV_ok c4
      · subst h
        exact isV_ok c5
    | _ => cases c
/-- what K says, as a Bool, and back -/
def intB (K : PySem.W.Frag) (D : Addr) (x : Str) (i : Int) : Bool := match PySem.W.nsIn K D x with
  | some (some (.int j _)) => decide (j = i)
  | _ => false
theorem int_ns {K : PySem.W.Frag} {D : Addr} {x : Str} {i : Int} (h : intB K D x i = true) : ∃ t, PySem.W.nsIn K D x = some (some (.int i t)) := by
  unfold intB at h
  cases l : PySem.W.nsIn K D x with
  | none =>
    rw [l] at h
    cases h
  | some u =>
    rw [l] at h
    cases u with
    | none => cases h
    | some v =>
      cases v with
      | int j t =>
        have e : j = i := of_decide_eq_true h
        exact ⟨t, by rw [e]⟩
      | _ => cases h
def recB (K : PySem.W.Frag) (p : Addr) (s : String) (f : Addr) : Bool := match PySem.W.recIn K p s with
  | some (.ref a :: _) => Nat.beq a f
  | _ => false
theorem rec_ns {K : PySem.W.Frag} {p f : Addr} {s : String} (h : recB K p s f = true) : ∃ r, PySem.W.recIn K p s = some (.ref f :: r) := by
  unfold recB at h
  cases l : PySem.W.recIn K p s with
  | none =>
    rw [l] at h
    cases h
  | some u =>
    rw [l] at h
    cases u with
    | nil => cases h
    | cons v r =>
      cases v with
      | ref a => exact ⟨r, by rw [Nat.eq_of_beq_eq_true h]⟩
      | _ => cases h
def oneB (K : PySem.W.Frag) (t : Addr) : Bool := match K.lookup t with
  | some ⟨_, _, .seq us _, _⟩ => decide (us.size = 1)
  | _ => false
theorem one_ns {K : PySem.W.Frag} {t : Addr} (h : oneB K t = true) : ∃ (e u : Value) (j : Option Addr) (m : Nat) (sl : Array (Option Value)), K.lookup t = some ⟨e, j, .seq #[u] m, sl⟩ := by
  unfold oneB at h
  cases l : K.lookup t with
  | none =>
    rw [l] at h
    cases h
  | some ob =>
    obtain ⟨oc, od, dt, sl⟩ := ob
    rw [l] at h
    cases dt with
    | seq us m =>
      have e : us.size = 1 := of_decide_eq_true h
      obtain ⟨us⟩ := us
      match us, e with
      | [u], _ => exact ⟨_, u, _, m, _, rfl⟩
    | _ => cases h
def tabB (g : Addr → Option Obj) (P : Addr) : Bool := match g P with
  | some ⟨.none, none, .fields ⟨[]⟩, ⟨[]⟩⟩ => true
  | _ => false
theorem tab_ns {g : Addr → Option Obj} {P : Addr} (h : tabB g P = true) : g P = some (PySem.W.tabObj #[]) := by
  unfold tabB at h
  split at h
  · rename_i e
    exact e
  · cases h
/-- the look: the Bool ex of the part at the addresses as, the tables ts empty, the defs fs -/
def look (as ts : List Addr) (ex : PySem.W.Frag → Bool) (fs : List (Addr × FnT)) (g : Addr → Option Obj) : Bool × List FnT := (ex (He.frG g as) && ts.all fun P => tabB g P && ((He.frG g as).lookup P).isNone, fs.map fun p => fnAt (He.frG g as) p.1)
structure Says (ts : List Addr) (ex : PySem.W.Frag → Bool) (fs : List (Addr × FnT)) (h : Heap) (K : PySem.W.Frag) : Prop where
  In : K.In h
  ex : ex K = true
  fns : fs.map (fun p => fnAt K p.1) = fs.map (·.2)
  tab : ∀ P ∈ ts, h.get? P = some (PySem.W.tabObj #[]) ∧ K.lookup P = none
theorem Says.fn {ts : List Addr} {ex : PySem.W.Frag → Bool} {fs : List (Addr × FnT)} {h : Heap} {K : PySem.W.Frag} (c : Says ts ex fs h K) (i : Nat) {f : Addr} {v : FnT} (e : fs[i]? = some (f, v)) : fnAt K f = v := by
  have z := congrArg (fun l : List FnT => l[i]?) c.fns
  simpa only [List.getElem?_map, e, Option.map_some, Option.some.injEq] using z
def hook (as ts : List Addr) (ex : PySem.W.Frag → Bool) (fs : List (Addr × FnT)) : PySem.W.Hook where
  α := Bool × List FnT
  obs := fun s => look as ts ex fs s.heap.get?
  val := fun _ => (true, fs.map (·.2))
  says := fun _ h => ∃ K : PySem.W.Frag, Says ts ex fs h K
  of := fun w s e => by
    have e1 := congrArg Prod.fst e
    have e2 := congrArg Prod.snd e
    obtain ⟨h1, h2⟩ := Bool.and_eq_true_iff.mp e1
    refine ⟨_, He.frG_in, h1, e2, fun P hP => ?_⟩
    obtain ⟨h3, h4⟩ := Bool.and_eq_true_iff.mp (List.all_eq_true.mp h2 P hP)
    exact ⟨tab_ns h3, Option.isNone_iff_eq_none.mp h4⟩
  keeps := fun _ _ _ ⟨K, c⟩ k => ⟨K, PySem.W.Frag.In.keeps c.In k, c.ex, c.fns, fun P hP => ⟨k _ _ (c.tab P hP).1, (c.tab P hP).2⟩⟩
theorem look_eq {as ts : List Addr} {ex : PySem.W.Frag → Bool} {fs : List (Addr × FnT)} (s : PySem.W.SharedT) : look as ts ex fs (HandSHeadRun.getT s) = (hook as ts ex fs).obs s.abs := by
  have e : HandSHeadRun.getT s = s.abs.heap.get? := funext (HandSHeadRun.getT_eq s)
  rw [e] <;> rfl
/-- two runs that looked at two things are one that looked at both -/
theorem run_join {r : PySem.W.OpenRow} {q : Program} {as ts : List Addr} {e1 e2 : PySem.W.Frag → Bool} {fs : List (Addr × FnT)} {M : Nat} {loose : List Str} {w : World}
    (h1 : HandSHeadRun.RunEq r q (hook as ts e1 fs) (fun s => look as ts e1 fs (HandSHeadRun.getT s)) M loose w) (h2 : HandSHeadRun.RunEq r q (hook as [] e2 []) (fun s => look as [] e2 [] (HandSHeadRun.getT s)) M loose w) :
    HandSHeadRun.RunEq r q (hook as ts (fun K => e1 K && e2 K) fs) (fun s => look as ts (fun K => e1 K && e2 K) fs (HandSHeadRun.getT s)) M loose w := by
  intro os
  obtain ⟨s, es, a⟩ := Option.map_eq_some_iff.mp (h1 os)
  obtain ⟨s2, es2, b⟩ := Option.map_eq_some_iff.mp (h2 os)
  obtain rfl : s = s2 := Option.some.inj (es.symm.trans es2)
  rw [es]
  have a1 := congrArg (fun z => z.2.2.1) a
  have a2 := congrArg (fun z => z.2.2.2) a
  have b1 := congrArg (fun z => z.2.2.1) b
  obtain ⟨a3, a4⟩ := Bool.and_eq_true_iff.mp (show (e1 (He.frG (HandSHeadRun.getT s) as) && ts.all fun P => tabB (HandSHeadRun.getT s) P && ((He.frG (HandSHeadRun.getT s) as).lookup P).isNone) = true from a1)
  obtain ⟨b3, _⟩ := Bool.and_eq_true_iff.mp (show (e2 (He.frG (HandSHeadRun.getT s) as) && List.all [] fun P => tabB (HandSHeadRun.getT s) P && ((He.frG (HandSHeadRun.getT s) as).lookup P).isNone) = true from b1)
  have l : look as ts (fun K => e1 K && e2 K) fs (HandSHeadRun.getT s) = (true, fs.map (·.2)) := by
    refine Prod.ext ?_ a2
    show ((e1 _ && e2 _) && List.all _ _) = true
    rw [a3, b3, a4] <;> rfl
  refine congrArg some ?_
  have c1 := congrArg (fun z => z.1) a
  have c2 := congrArg (fun z => z.2.1) a
  exact Prod.ext c1 (Prod.ext c2 l)
end HK
namespace HK
open PySem PySem.Spec PyProof.Rows L2
/-- a tuple of the number 1 alone -/
def unoB (K : PySem.W.Frag) (t : Addr) : Bool := match K.lookup t with
  | some ⟨_, _, .seq ⟨[.int 1 _]⟩ _, _⟩ => true
  | _ => false
theorem uno_ns {K : PySem.W.Frag} {t : Addr} (h : unoB K t = true) : ∃ (x : Tok) (e : Value) (j : Option Addr) (m : Nat) (sl : Array (Option Value)), K.lookup t = some ⟨e, j, .seq #[Value.int 1 x] m, sl⟩ := by
  unfold unoB at h
  split at h
  · rename_i e
    exact ⟨_, _, _, _, _, e⟩
  · cases h
end HK
set_option Elab.async false
set_option linter.all false
set_option maxRecDepth 100000
set_option maxHeartbeats 0
namespace WK
open PySem L2 PyProof.Rows LCX K1 FV DP DL LamX
open TX (sg sigs)
open PySem.W (Frag kitOne)
def ex0 (K : Frag) : Bool := He.eqO (PySem.W.nsIn K mainGlobals "Made") (some (some (.ref 127))) && (He.eqO (PySem.W.nsIn K mainGlobals "Machine") (some (some (.ref 444))) && ((PySem.W.plainGet K 127 Str.empty) && ((PySem.W.hasDictIn K 127) && ((PySem.W.plainOver K 127) && (He.eqO (PySem.W.findIn K (.ref 127) "__setattr__") (some (some (.builtin "object.__setattr__"))) && (He.eqO (PySem.W.findIn K (.ref 127) "__class__") (some (some (.builtin "object.__class__"))) && (decide (PySem.W.mroIn K 127 (.type "object") = some true) && ((PySem.W.makesIn K 127) && ((PySem.W.keepIn K (.ref 127)) && (He.eqO (PySem.W.findIn K (.ref 127) "__init__") (some (some (.ref 124))) && ((PySem.W.isFn K (.ref 124)) && ((PySem.W.plainGet K 444 Str.empty) && ((PySem.W.hasDictIn K 444) && ((PySem.W.plainOver K 444) && (He.eqO (PySem.W.findIn K (.ref 444) "__setattr__") (some (some (.builtin "object.__setattr__"))) && (He.eqO (PySem.W.findIn K (.ref 444) "__class__") (some (some (.builtin "object.__class__"))) && (decide (PySem.W.mroIn K 444 (.type "object") = some true) && ((PySem.W.makesIn K 444) && ((PySem.W.keepIn K (.ref 444)) && (He.eqO (PySem.W.findIn K (.ref 444) "__init__") (some (some (.ref 318))) && ((PySem.W.isFn K (.ref 318)) && (He.eqO (PySem.W.specialIn K (.builtin "object.__class__") "__get__") (some (some (.builtin "getset_descriptor.__get__"))) && (decide (PySem.W.takesIn K (.builtin "object.__class__") = some true) && (He.eqO (PySem.W.findIn K (.ref 127) "rows") (some none) && (He.eqO (PySem.W.findIn K (.ref 444) "_table") (some none) && (He.eqO (PySem.W.findIn K (.ref 444) "_letters") (some none) && (He.eqO (PySem.W.findIn K (.ref 444) "_ends") (some none) && (He.eqO (PySem.W.findIn K (.ref 444) "letters") (some (some (.ref 326))) && (He.eqO (PySem.W.specialIn K (.ref 326) "__get__") (some (some (.builtin "property.__get__"))) && true)))))))))))))))))))))))))))))
def ex1 (K : Frag) : Bool := decide (PySem.W.takesIn K (.ref 326) = some true) && (HK.recB K 326 "property" 325 && (He.eqO (PySem.W.findIn K (.ref 444) "table") (some (some (.ref 334))) && (He.eqO (PySem.W.specialIn K (.ref 334) "__get__") (some (some (.builtin "property.__get__"))) && (decide (PySem.W.takesIn K (.ref 334) = some true) && (HK.recB K 334 "property" 333 && (He.eqO (PySem.W.findIn K (.ref 444) "__len__") (some (some (.ref 427))) && ((PySem.W.isFn K (.ref 427)) && (He.eqO (PySem.W.findIn K (.ref 444) "__contains__") (some (some (.ref 420))) && ((PySem.W.isFn K (.ref 420)) && (decide (kitOne K (.ref 444) (.ref 444) = some true) && (((plainTys.all fun t => kitOne K (.type t) (.ref 127) == some false)) && (He.eqO (PySem.W.nsIn K mainGlobals "InvalidMachine") (some (some (.ref 56))) && ((PySem.W.excIn K 56 [.type "ValueError", .type "Exception", .type "BaseException", .type "object"] "ValueError.__new__") && ((PySem.W.keepIn K (.ref 56)) && (decide (PySem.W.subIn K (.ref 56) (.type "BaseException") = some true) && (decide (PySem.W.typeIn K (.ref 56) = some (.type "type")) && (He.eqO (PySem.W.nsIn K mainGlobals "led") (some (some (.ref 136))) && (HK.fnB K 136 "led" none none none && ((PySem.W.keepIn K (.ref 136)) && (He.eqO (PySem.W.nsIn K mainGlobals "knots_of") (some (some (.ref 185))) && (HK.fnB K 185 "knots_of" none none none && ((PySem.W.keepIn K (.ref 185)) && (He.eqO (PySem.W.nsIn K mainGlobals "_turned_round") (some (some (.ref 190))) && (HK.fnB K 190 "_turned_round" none none none && ((PySem.W.keepIn K (.ref 190)) && (He.eqO (PySem.W.nsIn K mainGlobals "_finished") (some (some (.ref 197))) && (HK.fnB K 197 "_finished" none none none && ((PySem.W.keepIn K (.ref 197)) && (He.eqO (PySem.W.nsIn K mainGlobals "_not_taken") (some (some (.ref 204))) && true)))))))))))))))))))))))))))))
def ex2 (K : Frag) : Bool := HK.fnB K 204 "_not_taken" none none none && ((PySem.W.keepIn K (.ref 204)) && (He.eqO (PySem.W.nsIn K mainGlobals "is_integer") (some (some (.ref 211))) && (HK.fnB K 211 "is_integer" none none none && ((PySem.W.keepIn K (.ref 211)) && (He.eqO (PySem.W.nsIn K mainGlobals "is_number") (some (some (.ref 218))) && (HK.fnB K 218 "is_number" none none none && ((PySem.W.keepIn K (.ref 218)) && (He.eqO (PySem.W.nsIn K mainGlobals "need_number") (some (some (.ref 225))) && (HK.fnB K 225 "need_number" none none none && ((PySem.W.keepIn K (.ref 225)) && (He.eqO (PySem.W.nsIn K mainGlobals "is_pair") (some (some (.ref 232))) && (HK.fnB K 232 "is_pair" none none none && ((PySem.W.keepIn K (.ref 232)) && (He.eqO (PySem.W.nsIn K mainGlobals "ascends") (some (some (.ref 237))) && (HK.fnB K 237 "ascends" none none none && ((PySem.W.keepIn K (.ref 237)) && (He.eqO (PySem.W.nsIn K mainGlobals "is_ascending") (some (some (.ref 242))) && (HK.fnB K 242 "is_ascending" none none none && ((PySem.W.keepIn K (.ref 242)) && (He.eqO (PySem.W.nsIn K mainGlobals "is_table") (some (some (.ref 247))) && (HK.fnB K 247 "is_table" none none none && ((PySem.W.keepIn K (.ref 247)) && (He.eqO (PySem.W.nsIn K mainGlobals "_is_row") (some (some (.ref 252))) && (HK.fnB K 252 "_is_row" none none none && ((PySem.W.keepIn K (.ref 252)) && (He.eqO (PySem.W.nsIn K mainGlobals "is_letters") (some (some (.ref 259))) && (HK.fnB K 259 "is_letters" none none none && ((PySem.W.keepIn K (.ref 259)) && (He.eqO (PySem.W.nsIn K mainGlobals "is_word") (some (some (.ref 266))) && true)))))))))))))))))))))))))))))
def ex3 (K : Frag) : Bool := HK.fnB K 266 "is_word" none none none && ((PySem.W.keepIn K (.ref 266)) && (He.eqO (PySem.W.nsIn K mainGlobals "is_over") (some (some (.ref 271))) && (HK.fnB K 271 "is_over" none none none && ((PySem.W.keepIn K (.ref 271)) && (He.eqO (PySem.W.nsIn K mainGlobals "need_letters") (some (some (.ref 278))) && (HK.fnB K 278 "need_letters" none none none && ((PySem.W.keepIn K (.ref 278)) && (He.eqO (PySem.W.nsIn K mainGlobals "need_word") (some (some (.ref 285))) && (HK.fnB K 285 "need_word" none none none && ((PySem.W.keepIn K (.ref 285)) && (He.eqO (PySem.W.nsIn K mainGlobals "need_over") (some (some (.ref 292))) && (HK.fnB K 292 "need_over" none none none && ((PySem.W.keepIn K (.ref 292)) && (He.eqO (PySem.W.nsIn K mainGlobals "counts") (some (some (.ref 302))) && (HK.fnB K 302 "counts" none none none && ((PySem.W.keepIn K (.ref 302)) && (He.eqO (PySem.W.nsIn K mainGlobals "need_machines") (some (some (.ref 463))) && (HK.fnB K 463 "need_machines" none none none && ((PySem.W.keepIn K (.ref 463)) && (He.eqO (PySem.W.nsIn K mainGlobals "plus") (some (some (.ref 481))) && (HK.fnB K 481 "plus" (some 476) none none && ((PySem.W.keepIn K (.ref 481)) && (He.eqO (PySem.W.nsIn K mainGlobals "units_of") (some (some (.ref 486))) && (HK.fnB K 486 "units_of" none none none && ((PySem.W.keepIn K (.ref 486)) && (He.eqO (PySem.W.nsIn K mainGlobals "rings_by_counts") (some (some (.ref 491))) && (HK.fnB K 491 "rings_by_counts" none none none && ((PySem.W.keepIn K (.ref 491)) && (He.eqO (PySem.W.nsIn K mainGlobals "met") (some (some (.ref 498))) && true)))))))))))))))))))))))))))))
def ex4 (K : Frag) : Bool := HK.fnB K 498 "met" none none none && ((PySem.W.keepIn K (.ref 498)) && (He.eqO (PySem.W.nsIn K mainGlobals "simple_rings") (some (some (.ref 505))) && (HK.fnB K 505 "simple_rings" none none none && ((PySem.W.keepIn K (.ref 505)) && (He.eqO (PySem.W.nsIn K mainGlobals "is_ring") (some (some (.ref 512))) && (HK.fnB K 512 "is_ring" none none none && ((PySem.W.keepIn K (.ref 512)) && (He.eqO (PySem.W.nsIn K mainGlobals "side_sum") (some (some (.ref 519))) && (HK.fnB K 519 "side_sum" none none none && ((PySem.W.keepIn K (.ref 519)) && (He.eqO (PySem.W.nsIn K mainGlobals "_leads_back") (some (some (.ref 526))) && (HK.fnB K 526 "_leads_back" none none none && ((PySem.W.keepIn K (.ref 526)) && (He.eqO (PySem.W.nsIn K mainGlobals "_is_side") (some (some (.ref 531))) && (HK.fnB K 531 "_is_side" none none none && ((PySem.W.keepIn K (.ref 531)) && (He.eqO (PySem.W.nsIn K mainGlobals "_is_turn") (some (some (.ref 538))) && (HK.fnB K 538 "_is_turn" none none none && ((PySem.W.keepIn K (.ref 538)) && (He.eqO (PySem.W.nsIn K mainGlobals "_sum_of") (some (some (.ref 545))) && (HK.fnB K 545 "_sum_of" none none none && ((PySem.W.keepIn K (.ref 545)) && (He.eqO (PySem.W.nsIn K mainGlobals "_law_dice") (some (some (.ref 552))) && (HK.fnB K 552 "_law_dice" none none none && ((PySem.W.keepIn K (.ref 552)) && (He.eqO (PySem.W.nsIn K mainGlobals "_law_roll") (some (some (.ref 559))) && (HK.fnB K 559 "_law_roll" none none none && ((PySem.W.keepIn K (.ref 559)) && (He.eqO (PySem.W.nsIn K mainGlobals "_law_one_of") (some (some (.ref 566))) && true)))))))))))))))))))))))))))))
def ex5 (K : Frag) : Bool := HK.fnB K 566 "_law_one_of" none none none && ((PySem.W.keepIn K (.ref 566)) && (He.eqO (PySem.W.nsIn K mainGlobals "_law_mixed") (some (some (.ref 573))) && (HK.fnB K 573 "_law_mixed" none none none && ((PySem.W.keepIn K (.ref 573)) && (He.eqO (PySem.W.nsIn K mainGlobals "_law_letters") (some (some (.ref 580))) && (HK.fnB K 580 "_law_letters" none none none && ((PySem.W.keepIn K (.ref 580)) && (He.eqO (PySem.W.nsIn K mainGlobals "_law_word") (some (some (.ref 585))) && (HK.fnB K 585 "_law_word" none none none && ((PySem.W.keepIn K (.ref 585)) && (He.eqO (PySem.W.nsIn K mainGlobals "_law_action") (some (some (.ref 590))) && (HK.fnB K 590 "_law_action" none none none && ((PySem.W.keepIn K (.ref 590)) && (He.eqO (PySem.W.nsIn K mainGlobals "_law_table") (some (some (.ref 595))) && (HK.fnB K 595 "_law_table" none none none && ((PySem.W.keepIn K (.ref 595)) && (He.eqO (PySem.W.nsIn K mainGlobals "_law_machine") (some (some (.ref 600))) && (HK.fnB K 600 "_law_machine" none none none && ((PySem.W.keepIn K (.ref 600)) && (He.eqO (PySem.W.nsIn K mainGlobals "_law_made_machine") (some (some (.ref 607))) && (HK.fnB K 607 "_law_made_machine" none none none && ((PySem.W.keepIn K (.ref 607)) && (He.eqO (PySem.W.nsIn K mainGlobals "_law_led") (some (some (.ref 614))) && (HK.fnB K 614 "_law_led" none none none && ((PySem.W.keepIn K (.ref 614)) && (He.eqO (PySem.W.nsIn K mainGlobals "_law_has") (some (some (.ref 621))) && (HK.fnB K 621 "_law_has" none none none && ((PySem.W.keepIn K (.ref 621)) && (He.eqO (PySem.W.nsIn K mainGlobals "_law_words") (some (some (.ref 626))) && true)))))))))))))))))))))))))))))
def ex6 (K : Frag) : Bool := HK.fnB K 626 "_law_words" none none none && ((PySem.W.keepIn K (.ref 626)) && (He.eqO (PySem.W.nsIn K mainGlobals "_law_counts") (some (some (.ref 631))) && (HK.fnB K 631 "_law_counts" none none none && ((PySem.W.keepIn K (.ref 631)) && (He.eqO (PySem.W.nsIn K mainGlobals "_law_way") (some (some (.ref 638))) && (HK.fnB K 638 "_law_way" none none none && ((PySem.W.keepIn K (.ref 638)) && (He.eqO (PySem.W.nsIn K mainGlobals "_law_simple") (some (some (.ref 645))) && (HK.fnB K 645 "_law_simple" none none none && ((PySem.W.keepIn K (.ref 645)) && (He.eqO (PySem.W.nsIn K mainGlobals "_law_key") (some (some (.ref 652))) && (HK.fnB K 652 "_law_key" none none none && ((PySem.W.keepIn K (.ref 652)) && (He.eqO (PySem.W.nsIn K mainGlobals "_law_gone") (some (some (.ref 659))) && (HK.fnB K 659 "_law_gone" none none none && ((PySem.W.keepIn K (.ref 659)) && (He.eqO (PySem.W.nsIn K mainGlobals "_law_right") (some (some (.ref 664))) && (HK.fnB K 664 "_law_right" none none none && ((PySem.W.keepIn K (.ref 664)) && (He.eqO (PySem.W.nsIn K mainGlobals "law") (some (some (.ref 671))) && (HK.fnB K 671 "law" none none none && ((PySem.W.keepIn K (.ref 671)) && (HK.fnB K 124 "Made.__init__" none none none && ((PySem.W.keepIn K (.ref 124)) && (HK.fnB K 318 "Machine.__init__" (some 311) none none && ((PySem.W.keepIn K (.ref 318)) && (HK.fnB K 325 "Machine.letters" none none none && ((PySem.W.keepIn K (.ref 325)) && (HK.fnB K 333 "Machine.table" none none none && true)))))))))))))))))))))))))))))
def ex7 (K : Frag) : Bool := (PySem.W.keepIn K (.ref 333)) && (HK.fnB K 427 "Machine.__len__" none none none && ((PySem.W.keepIn K (.ref 427)) && (HK.fnB K 420 "Machine.__contains__" none none none && ((PySem.W.keepIn K (.ref 420)) && (HK.unoB K 476 && (HK.oneB K 311 && (HK.intB K mainGlobals "MAX_LETTERS" 3 && (HK.intB K mainGlobals "MAX_STATES" 4 && (He.eqO (PySem.W.nsIn K mainGlobals "len") (some none) && (He.eqO (PySem.W.nsIn K mainGlobals "int") (some none) && (He.eqO (PySem.W.nsIn K mainGlobals "abs") (some none) && (He.eqO (PySem.W.nsIn K mainGlobals "isinstance") (some none) && (He.eqO (PySem.W.nsIn K mainGlobals "bool") (some none) && (He.eqO (PySem.W.nsIn K mainGlobals "str") (some none) && (He.eqO (PySem.W.nsIn K mainGlobals "all") (some none) && (He.eqO (PySem.W.nsIn K mainGlobals "range") (some none) && (He.eqO (PySem.W.nsIn K mainGlobals "sorted") (some none) && (He.eqO (PySem.W.nsIn K mainGlobals "set") (some none) && (He.eqO (PySem.W.nsIn K mainGlobals "tuple") (some none) && (He.eqO (PySem.W.nsIn K mainGlobals "list") (some none) && (He.eqO (PySem.W.nsIn K mainGlobals "max") (some none) && (He.eqO (PySem.W.nsIn K mainGlobals "min") (some none) && (He.eqO (PySem.W.nsIn K mainGlobals "zip") (some none) && (He.eqO (PySem.W.nsIn K mainGlobals "enumerate") (some none) && true))))))))))))))))))))))))
def exG0 (K : Frag) : Bool := ex0 K && (ex1 K && true)
def exG1 (K : Frag) : Bool := ex2 K && (ex3 K && true)
def exG2 (K : Frag) : Bool := ex4 K && (ex5 K && true)
def exG3 (K : Frag) : Bool := ex6 K && (ex7 K && true)
abbrev exAllK : Frag → Bool := fun K => (fun K => (fun K => (fun K => (fun _ => true) K && exG0 K) K && exG1 K) K && exG2 K) K && exG3 K
abbrev fs0 : List (Addr × HK.FnT) := [(136, HK.fnIs "led" "led" sLed), (185, HK.fnIs "knots_of" "knots_of" sKnotsOf), (190, HK.fnIs "_turned_round" "_turned_round" sTurned), (197, HK.fnIs "_finished" "_finished" sFinished), (204, HK.fnIs "_not_taken" "_not_taken" sNotTaken), (211, HK.fnIs "is_integer" "is_integer" sIsInt), (218, HK.fnIs "is_number" "is_number" sIsNum), (225, HK.fnIs "need_number" "need_number" sNeedNum), (232, HK.fnIs "is_pair" "is_pair" sIsPair), (237, HK.fnIs "ascends" "ascends" sAsc), (242, HK.fnIs "is_ascending" "is_ascending" sIsAsc), (247, HK.fnIs "is_table" "is_table" sIsTab), (252, HK.fnIs "_is_row" "_is_row" sIsRow), (259, HK.fnIs "is_letters" "is_letters" sIsLet), (266, HK.fnIs "is_word" "is_word" sIsWord), (271, HK.fnIs "is_over" "is_over" sIsOver), (278, HK.fnIs "need_letters" "need_letters" sNeedLet), (285, HK.fnIs "need_word" "need_word" sNeedWord), (292, HK.fnIs "need_over" "need_over" sNeedOver), (302, HK.fnIs "counts" "counts" sCounts), (463, HK.fnIs "need_machines" "need_machines" sNeedMs), (481, HK.fnIs "plus" "plus" sPlus), (486, HK.fnIs "units_of" "units_of" sUnits), (491, HK.fnIs "rings_by_counts" "rings_by_counts" sRings), (498, HK.fnIs "met" "met" sMet)]
abbrev fs1 : List (Addr × HK.FnT) := [(505, HK.fnIs "simple_rings" "simple_rings" sSimple), (512, HK.fnIs "is_ring" "is_ring" sIsRing), (519, HK.fnIs "side_sum" "side_sum" sSideSum), (526, HK.fnIs "_leads_back" "_leads_back" sLeads), (531, HK.fnIs "_is_side" "_is_side" sIsSide), (538, HK.fnIs "_is_turn" "_is_turn" sIsTurn), (545, HK.fnIs "_sum_of" "_sum_of" sSumOf), (552, HK.fnIs "_law_dice" "_law_dice" sDice), (559, HK.fnIs "_law_roll" "_law_roll" sRoll), (566, HK.fnIs "_law_one_of" "_law_one_of" sOne), (573, HK.fnIs "_law_mixed" "_law_mixed" sMixed), (580, HK.fnIs "_law_letters" "_law_letters" sLetters), (585, HK.fnIs "_law_word" "_law_word" sWord), (590, HK.fnIs "_law_action" "_law_action" sAct), (595, HK.fnIs "_law_table" "_law_table" sLTab), (600, HK.fnIs "_law_machine" "_law_machine" sLMac), (607, HK.fnIs "_law_made_machine" "_law_made_machine" sMade), (614, HK.fnIs "_law_led" "_law_led" sLLed), (621, HK.fnIs "_law_has" "_law_has" sLHas), (626, HK.fnIs "_law_words" "_law_words" sLWords), (631, HK.fnIs "_law_counts" "_law_counts" sLCounts), (638, HK.fnIs "_law_way" "_law_way" sWay), (645, HK.fnIs "_law_simple" "_law_simple" sSimp), (652, HK.fnIs "_law_key" "_law_key" sKey), (659, HK.fnIs "_law_gone" "_law_gone" sGone)]
abbrev fs2 : List (Addr × HK.FnT) := [(664, HK.fnIs "_law_right" "_law_right" sLR), (671, HK.fnIs "law" "law" sLaw90), (124, HK.fnIs "__init__" "Made.__init__" sMadeI), (318, HK.fnIs "__init__" "Machine.__init__" sMInit), (325, HK.fnIs "letters" "Machine.letters" sMLet), (333, HK.fnIs "table" "Machine.table" sMTab), (427, HK.fnIs "__len__" "Machine.__len__" sMLen), (420, HK.fnIs "__contains__" "Machine.__contains__" sMHas)]
abbrev fsAll : List (Addr × HK.FnT) := fs0 ++ (fs1 ++ (fs2))
def as0 : List Addr := [2, 3, 15, 17, 18, 20, 21, 22, 29, 30, 31, 32, 35, 42, 43, 44, 47, 54, 55, 56, 59, 66, 67, 68, 71, 78, 80, 81, 83, 84, 85, 86, 87, 88, 91, 98, 100, 101, 103, 104, 105, 106, 107, 108, 118, 120, 121, 123, 124, 125, 126, 127, 128, 129, 132, 135, 136, 137, 139, 140]
def as1 : List Addr := [142, 143, 144, 146, 147, 149, 150, 151, 154, 155, 156, 157, 159, 160, 162, 163, 164, 167, 168, 169, 172, 173, 174, 177, 178, 179, 181, 182, 184, 185, 186, 189, 190, 191, 193, 194, 196, 197, 198, 200, 201, 203, 204, 205, 207, 208, 210, 211, 212, 214, 215, 217, 218, 219, 221, 222, 224, 225, 226, 228]
def as2 : List Addr := [229, 231, 232, 233, 236, 237, 238, 241, 242, 243, 246, 247, 248, 251, 252, 253, 255, 256, 258, 259, 260, 262, 263, 265, 266, 267, 270, 271, 272, 274, 275, 277, 278, 279, 281, 282, 284, 285, 286, 288, 289, 291, 292, 293, 296, 297, 298, 301, 302, 310, 311, 312, 314, 315, 317, 318, 319, 321, 322, 324]
def as3 : List Addr := [325, 326, 327, 329, 330, 332, 333, 334, 335, 337, 338, 340, 341, 342, 343, 345, 346, 348, 349, 350, 351, 353, 354, 356, 357, 358, 359, 360, 362, 363, 365, 366, 367, 369, 370, 372, 373, 374, 376, 377, 379, 380, 381, 383, 384, 386, 387, 388, 391, 392, 393, 395, 396, 398, 399, 400, 402, 403, 405, 406]
def as4 : List Addr := [407, 409, 410, 412, 413, 414, 416, 417, 419, 420, 421, 423, 424, 426, 427, 428, 430, 431, 433, 434, 435, 437, 438, 440, 441, 442, 443, 444, 445, 446, 449, 450, 452, 453, 455, 456, 457, 459, 460, 462, 463, 464, 466, 467, 469, 470, 471, 474, 475, 476, 477, 480, 481, 482, 485, 486, 487, 490, 491, 492]
def as5 : List Addr := [494, 495, 497, 498, 499, 501, 502, 504, 505, 506, 508, 509, 511, 512, 513, 515, 516, 518, 519, 520, 522, 523, 525, 526, 527, 530, 531, 532, 534, 535, 537, 538, 539, 541, 542, 544, 545, 546, 548, 549, 551, 552, 553, 555, 556, 558, 559, 560, 562, 563, 565, 566, 567, 569, 570, 572, 573, 574, 576, 577]
def as6 : List Addr := [579, 580, 581, 584, 585, 586, 589, 590, 591, 594, 595, 596, 599, 600, 601, 603, 604, 606, 607, 608, 610, 611, 613, 614, 615, 617, 618, 620, 621, 622, 625, 626, 627, 630, 631, 632, 634, 635, 637, 638, 639, 641, 642, 644, 645, 646, 648, 649, 651, 652, 653, 655, 656, 658, 659, 660, 663, 664, 665, 667]
def as7 : List Addr := [668, 670, 671]
def asAll : List Addr := as0 ++ (as1 ++ (as2 ++ (as3 ++ (as4 ++ (as5 ++ (as6 ++ (as7)))))))
abbrev tsAll : List Addr := []
def nm0 : List Str := ["_wall", "WatchError", "InvalidWord", "InvalidMachine", "InvalidOperation", "InvalidNumber", "TooMany", "Made", "led", "led_often", "ways", "trimmed", "paired", "numbered", "refined", "least_parts", "knots_of", "_turned_round", "_finished", "_not_taken", "is_integer", "is_number", "need_number", "is_pair", "ascends", "is_ascending", "is_table", "_is_row", "MAX_LETTERS", "is_letters"]
def nm1 : List Str := ["is_word", "is_over", "need_letters", "need_word", "need_over", "all_words", "counts", "MAX_STATES", "MAX_TIMES", "Machine", "least_machine", "need_machines", "need_same_letters", "_combined", "plus", "units_of", "rings_by_counts", "met", "simple_rings", "is_ring", "side_sum", "_leads_back", "_is_side", "_is_turn", "_sum_of", "_law_dice", "_law_roll", "_law_one_of", "_law_mixed", "_law_letters"]
def nm2 : List Str := ["_law_word", "_law_action", "_law_table", "_law_machine", "_law_made_machine", "_law_led", "_law_has", "_law_words", "_law_counts", "_law_way", "_law_simple", "_law_key", "_law_gone", "_law_right"]
def nmAll : List Str := nm0 ++ (nm1 ++ (nm2))
abbrev Rw : PySem.W.OpenRow := PySem.W.OpenLaw.row PySem.Challenge.rw_watchkinds_k90_whole_rings_gone_round_mo
abbrev hkAll : PySem.W.Hook := HK.hook asAll tsAll exAllK fsAll
def obAll (s : PySem.W.SharedT) : Bool × List HK.FnT := HK.look asAll tsAll exAllK fsAll (HandSHeadRun.getT s)
theorem obAll_eq (s : PySem.W.SharedT) : obAll s = hkAll.obs s.abs := HK.look_eq s
theorem runF (w : World) : HandSHeadRun.RunEq Rw (PySem.W.view Rw.prog [83]) (HK.hook asAll tsAll (fun _ => true) fsAll) (fun s => HK.look asAll tsAll (fun _ => true) fsAll (HandSHeadRun.getT s)) 9000 nmAll w := by
  intro os
  kernel_rfl
theorem runG0 (w : World) : HandSHeadRun.RunEq Rw (PySem.W.view Rw.prog [83]) (HK.hook asAll [] (exG0) []) (fun s => HK.look asAll [] (exG0) [] (HandSHeadRun.getT s)) 9000 nmAll w := by
  intro os
  kernel_rfl
theorem runG1 (w : World) : HandSHeadRun.RunEq Rw (PySem.W.view Rw.prog [83]) (HK.hook asAll [] (exG1) []) (fun s => HK.look asAll [] (exG1) [] (HandSHeadRun.getT s)) 9000 nmAll w := by
  intro os
  kernel_rfl
theorem runG2 (w : World) : HandSHeadRun.RunEq Rw (PySem.W.view Rw.prog [83]) (HK.hook asAll [] (exG2) []) (fun s => HK.look asAll [] (exG2) [] (HandSHeadRun.getT s)) 9000 nmAll w := by
  intro os
  kernel_rfl
theorem runG3 (w : World) : HandSHeadRun.RunEq Rw (PySem.W.view Rw.prog [83]) (HK.hook asAll [] (exG3) []) (fun s => HK.look asAll [] (exG3) [] (HandSHeadRun.getT s)) 9000 nmAll w := by
  intro os
  kernel_rfl
theorem runAll (w : World) : HandSHeadRun.RunEq Rw (PySem.W.view Rw.prog [83]) hkAll obAll 9000 nmAll w := HK.run_join (HK.run_join (HK.run_join (HK.run_join (runF w) (runG0 w)) (runG1 w)) (runG2 w)) (runG3 w)
theorem facts {w : World} {K : Frag} {h : Heap} {mg : Str → Option Value} {fa : Addr} (c : HK.Says tsAll exAllK fsAll h K) (G : h.Ns mainGlobals mg) (hfa : mg "law" = some (.ref fa)) : LamX.LawAtS PySem.Challenge.rw_watchkinds_k90_whole_rings_gone_round_mo w K CX0 9 63 "_law_script" mg fa h := by
  have X := c.ex
  obtain ⟨X, Y3⟩ := Bool.and_eq_true_iff.mp X
  obtain ⟨X, Y2⟩ := Bool.and_eq_true_iff.mp X
  obtain ⟨X, Y1⟩ := Bool.and_eq_true_iff.mp X
  obtain ⟨X, Y0⟩ := Bool.and_eq_true_iff.mp X
  obtain ⟨E0, Y0⟩ := Bool.and_eq_true_iff.mp Y0
  have E0 : (He.eqO (PySem.W.nsIn K mainGlobals "Made") (some (some (.ref 127))) && (He.eqO (PySem.W.nsIn K mainGlobals "Machine") (some (some (.ref 444))) && ((PySem.W.plainGet K 127 Str.empty) && ((PySem.W.hasDictIn K 127) && ((PySem.W.plainOver K 127) && (He.eqO (PySem.W.findIn K (.ref 127) "__setattr__") (some (some (.builtin "object.__setattr__"))) && (He.eqO (PySem.W.findIn K (.ref 127) "__class__") (some (some (.builtin "object.__class__"))) && (decide (PySem.W.mroIn K 127 (.type "object") = some true) && ((PySem.W.makesIn K 127) && ((PySem.W.keepIn K (.ref 127)) && (He.eqO (PySem.W.findIn K (.ref 127) "__init__") (some (some (.ref 124))) && ((PySem.W.isFn K (.ref 124)) && ((PySem.W.plainGet K 444 Str.empty) && ((PySem.W.hasDictIn K 444) && ((PySem.W.plainOver K 444) && (He.eqO (PySem.W.findIn K (.ref 444) "__setattr__") (some (some (.builtin "object.__setattr__"))) && (He.eqO (PySem.W.findIn K (.ref 444) "__class__") (some (some (.builtin "object.__class__"))) && (decide (PySem.W.mroIn K 444 (.type "object") = some true) && ((PySem.W.makesIn K 444) && ((PySem.W.keepIn K (.ref 444)) && (He.eqO (PySem.W.findIn K (.ref 444) "__init__") (some (some (.ref 318))) && ((PySem.W.isFn K (.ref 318)) && (He.eqO (PySem.W.specialIn K (.builtin "object.__class__") "__get__") (some (some (.builtin "getset_descriptor.__get__"))) && (decide (PySem.W.takesIn K (.builtin "object.__class__") = some true) && (He.eqO (PySem.W.findIn K (.ref 127) "rows") (some none) && (He.eqO (PySem.W.findIn K (.ref 444) "_table") (some none) && (He.eqO (PySem.W.findIn K (.ref 444) "_letters") (some none) && (He.eqO (PySem.W.findIn K (.ref 444) "_ends") (some none) && (He.eqO (PySem.W.findIn K (.ref 444) "letters") (some (some (.ref 326))) && (He.eqO (PySem.W.specialIn K (.ref 326) "__get__") (some (some (.builtin "property.__get__"))) && true)))))))))))))))))))))))))))))) = true := E0
  obtain ⟨S, E0⟩ := Bool.and_eq_true_iff.mp E0
  have gd : PySem.W.nsIn K mainGlobals "Made" = some (some (.ref 127)) := He.eqO_ok S
  obtain ⟨S, E0⟩ := Bool.and_eq_true_iff.mp E0
  have gm : PySem.W.nsIn K mainGlobals "Machine" = some (some (.ref 444)) := He.eqO_ok S
  obtain ⟨S, E0⟩ := Bool.and_eq_true_iff.mp E0
  have pgd : PySem.W.plainGet K 127 Str.empty = true := S
  obtain ⟨S, E0⟩ := Bool.and_eq_true_iff.mp E0
  have hdd : PySem.W.hasDictIn K 127 = true := S
  obtain ⟨S, E0⟩ := Bool.and_eq_true_iff.mp E0
  have pod : PySem.W.plainOver K 127 = true := S
  obtain ⟨S, E0⟩ := Bool.and_eq_true_iff.mp E0
  have sad : PySem.W.findIn K (.ref 127) "__setattr__" = some (some (.builtin "object.__setattr__")) := He.eqO_ok S
  obtain ⟨S, E0⟩ := Bool.and_eq_true_iff.mp E0
  have ccd : PySem.W.findIn K (.ref 127) "__class__" = some (some (.builtin "object.__class__")) := He.eqO_ok S
  obtain ⟨S, E0⟩ := Bool.and_eq_true_iff.mp E0
  have obd : PySem.W.mroIn K 127 (.type "object") = some true := of_decide_eq_true S
  obtain ⟨S, E0⟩ := Bool.and_eq_true_iff.mp E0
  have mkd : PySem.W.makesIn K 127 = true := S
  obtain ⟨S, E0⟩ := Bool.and_eq_true_iff.mp E0
  have kCd : PySem.W.keepIn K (.ref 127) = true := S
  obtain ⟨S, E0⟩ := Bool.and_eq_true_iff.mp E0
  have id : PySem.W.findIn K (.ref 127) "__init__" = some (some (.ref 124)) := He.eqO_ok S
  obtain ⟨S, E0⟩ := Bool.and_eq_true_iff.mp E0
  have nid : PySem.W.isFn K (.ref 124) = true := S
  obtain ⟨S, E0⟩ := Bool.and_eq_true_iff.mp E0
  have pgm : PySem.W.plainGet K 444 Str.empty = true := S
  obtain ⟨S, E0⟩ := Bool.and_eq_true_iff.mp E0
  have hdm : PySem.W.hasDictIn K 444 = true := S
  obtain ⟨S, E0⟩ := Bool.and_eq_true_iff.mp E0
  have pom : PySem.W.plainOver K 444 = true := S
  obtain ⟨S, E0⟩ := Bool.and_eq_true_iff.mp E0
  have sam : PySem.W.findIn K (.ref 444) "__setattr__" = some (some (.builtin "object.__setattr__")) := He.eqO_ok S
  obtain ⟨S, E0⟩ := Bool.and_eq_true_iff.mp E0
  have ccm : PySem.W.findIn K (.ref 444) "__class__" = some (some (.builtin "object.__class__")) := He.eqO_ok S
  obtain ⟨S, E0⟩ := Bool.and_eq_true_iff.mp E0
  have obm : PySem.W.mroIn K 444 (.type "object") = some true := of_decide_eq_true S
  obtain ⟨S, E0⟩ := Bool.and_eq_true_iff.mp E0
  have mkm : PySem.W.makesIn K 444 = true := S
  obtain ⟨S, E0⟩ := Bool.and_eq_true_iff.mp E0
  have kCm : PySem.W.keepIn K (.ref 444) = true := S
  obtain ⟨S, E0⟩ := Bool.and_eq_true_iff.mp E0
  have im : PySem.W.findIn K (.ref 444) "__init__" = some (some (.ref 318)) := He.eqO_ok S
  obtain ⟨S, E0⟩ := Bool.and_eq_true_iff.mp E0
  have nim : PySem.W.isFn K (.ref 318) = true := S
  obtain ⟨S, E0⟩ := Bool.and_eq_true_iff.mp E0
  have cn : PySem.W.specialIn K (.builtin "object.__class__") "__get__" = some (some (.builtin "getset_descriptor.__get__")) := He.eqO_ok S
  obtain ⟨S, E0⟩ := Bool.and_eq_true_iff.mp E0
  have ct : PySem.W.takesIn K (.builtin "object.__class__") = some true := of_decide_eq_true S
  obtain ⟨S, E0⟩ := Bool.and_eq_true_iff.mp E0
  have nR : PySem.W.findIn K (.ref 127) "rows" = some none := He.eqO_ok S
  obtain ⟨S, E0⟩ := Bool.and_eq_true_iff.mp E0
  have nMT : PySem.W.findIn K (.ref 444) "_table" = some none := He.eqO_ok S
  obtain ⟨S, E0⟩ := Bool.and_eq_true_iff.mp E0
  have nML : PySem.W.findIn K (.ref 444) "_letters" = some none := He.eqO_ok S
  obtain ⟨S, E0⟩ := Bool.and_eq_true_iff.mp E0
  have nME : PySem.W.findIn K (.ref 444) "_ends" = some none := He.eqO_ok S
  obtain ⟨S, E0⟩ := Bool.and_eq_true_iff.mp E0
  have paml : PySem.W.findIn K (.ref 444) "letters" = some (some (.ref 326)) := He.eqO_ok S
  obtain ⟨S, E0⟩ := Bool.and_eq_true_iff.mp E0
  have pg_ml : PySem.W.specialIn K (.ref 326) "__get__" = some (some (.builtin "property.__get__")) := He.eqO_ok S
  obtain ⟨E1, Y0⟩ := Bool.and_eq_true_iff.mp Y0
  have E1 : (decide (PySem.W.takesIn K (.ref 326) = some true) && (HK.recB K 326 "property" 325 && (He.eqO (PySem.W.findIn K (.ref 444) "table") (some (some (.ref 334))) && (He.eqO (PySem.W.specialIn K (.ref 334) "__get__") (some (some (.builtin "property.__get__"))) && (decide (PySem.W.takesIn K (.ref 334) = some true) && (HK.recB K 334 "property" 333 && (He.eqO (PySem.W.findIn K (.ref 444) "__len__") (some (some (.ref 427))) && ((PySem.W.isFn K (.ref 427)) && (He.eqO (PySem.W.findIn K (.ref 444) "__contains__") (some (some (.ref 420))) && ((PySem.W.isFn K (.ref 420)) && (decide (kitOne K (.ref 444) (.ref 444) = some true) && (((plainTys.all fun t => kitOne K (.type t) (.ref 127) == some false)) && (He.eqO (PySem.W.nsIn K mainGlobals "InvalidMachine") (some (some (.ref 56))) && ((PySem.W.excIn K 56 [.type "ValueError", .type "Exception", .type "BaseException", .type "object"] "ValueError.__new__") && ((PySem.W.keepIn K (.ref 56)) && (decide (PySem.W.subIn K (.ref 56) (.type "BaseException") = some true) && (decide (PySem.W.typeIn K (.ref 56) = some (.type "type")) && (He.eqO (PySem.W.nsIn K mainGlobals "led") (some (some (.ref 136))) && (HK.fnB K 136 "led" none none none && ((PySem.W.keepIn K (.ref 136)) && (He.eqO (PySem.W.nsIn K mainGlobals "knots_of") (some (some (.ref 185))) && (HK.fnB K 185 "knots_of" none none none && ((PySem.W.keepIn K (.ref 185)) && (He.eqO (PySem.W.nsIn K mainGlobals "_turned_round") (some (some (.ref 190))) && (HK.fnB K 190 "_turned_round" none none none && ((PySem.W.keepIn K (.ref 190)) && (He.eqO (PySem.W.nsIn K mainGlobals "_finished") (some (some (.ref 197))) && (HK.fnB K 197 "_finished" none none none && ((PySem.W.keepIn K (.ref 197)) && (He.eqO (PySem.W.nsIn K mainGlobals "_not_taken") (some (some (.ref 204))) && true)))))))))))))))))))))))))))))) = true := E1
  obtain ⟨S, E1⟩ := Bool.and_eq_true_iff.mp E1
  have pt_ml : PySem.W.takesIn K (.ref 326) = some true := of_decide_eq_true S
  obtain ⟨S, E1⟩ := Bool.and_eq_true_iff.mp E1
  obtain ⟨_, pr_ml⟩ := HK.rec_ns S
  obtain ⟨S, E1⟩ := Bool.and_eq_true_iff.mp E1
  have pamt : PySem.W.findIn K (.ref 444) "table" = some (some (.ref 334)) := He.eqO_ok S
  obtain ⟨S, E1⟩ := Bool.and_eq_true_iff.mp E1
  have pg_mt : PySem.W.specialIn K (.ref 334) "__get__" = some (some (.builtin "property.__get__")) := He.eqO_ok S
  obtain ⟨S, E1⟩ := Bool.and_eq_true_iff.mp E1
  have pt_mt : PySem.W.takesIn K (.ref 334) = some true := of_decide_eq_true S
  obtain ⟨S, E1⟩ := Bool.and_eq_true_iff.mp E1
  obtain ⟨_, pr_mt⟩ := HK.rec_ns S
  obtain ⟨S, E1⟩ := Bool.and_eq_true_iff.mp E1
  have a56 : PySem.W.findIn K (.ref 444) "__len__" = some (some (.ref 427)) := He.eqO_ok S
  obtain ⟨S, E1⟩ := Bool.and_eq_true_iff.mp E1
  have n56 : PySem.W.isFn K (.ref 427) = true := S
  obtain ⟨S, E1⟩ := Bool.and_eq_true_iff.mp E1
  have a57 : PySem.W.findIn K (.ref 444) "__contains__" = some (some (.ref 420)) := He.eqO_ok S
  obtain ⟨S, E1⟩ := Bool.and_eq_true_iff.mp E1
  have n57 : PySem.W.isFn K (.ref 420) = true := S
  obtain ⟨S, E1⟩ := Bool.and_eq_true_iff.mp E1
  have kim : kitOne K (.ref 444) (.ref 444) = some true := of_decide_eq_true S
  obtain ⟨S, E1⟩ := Bool.and_eq_true_iff.mp E1
  have kitD : (plainTys.all fun t => kitOne K (.type t) (.ref 127) == some false) = true := S
  obtain ⟨S, E1⟩ := Bool.and_eq_true_iff.mp E1
  have gI : PySem.W.nsIn K mainGlobals "InvalidMachine" = some (some (.ref 56)) := He.eqO_ok S
  obtain ⟨S, E1⟩ := Bool.and_eq_true_iff.mp E1
  have xI : PySem.W.excIn K 56 [.type "ValueError", .type "Exception", .type "BaseException", .type "object"] "ValueError.__new__" = true := S
  obtain ⟨S, E1⟩ := Bool.and_eq_true_iff.mp E1
  have kI : PySem.W.keepIn K (.ref 56) = true := S
  obtain ⟨S, E1⟩ := Bool.and_eq_true_iff.mp E1
  have bI : PySem.W.subIn K (.ref 56) (.type "BaseException") = some true := of_decide_eq_true S
  obtain ⟨S, E1⟩ := Bool.and_eq_true_iff.mp E1
  have tI : PySem.W.typeIn K (.ref 56) = some (.type "type") := of_decide_eq_true S
  obtain ⟨S, E1⟩ := Bool.and_eq_true_iff.mp E1
  have d0 : PySem.W.nsIn K mainGlobals "led" = some (some (.ref 136)) := He.eqO_ok S
  obtain ⟨S, E1⟩ := Bool.and_eq_true_iff.mp E1
  obtain ⟨_, kv0, _, _, cd0, _, _, _, _, l0, q0, kk0, oo0⟩ := HK.fn_ok (c.fn 0 rfl) S
  obtain ⟨S, E1⟩ := Bool.and_eq_true_iff.mp E1
  have k0 : PySem.W.keepIn K (.ref 136) = true := S
  obtain ⟨S, E1⟩ := Bool.and_eq_true_iff.mp E1
  have d1 : PySem.W.nsIn K mainGlobals "knots_of" = some (some (.ref 185)) := He.eqO_ok S
  obtain ⟨S, E1⟩ := Bool.and_eq_true_iff.mp E1
  obtain ⟨_, kv1, _, _, cd1, _, _, _, _, l1, q1, kk1, oo1⟩ := HK.fn_ok (c.fn 1 rfl) S
  obtain ⟨S, E1⟩ := Bool.and_eq_true_iff.mp E1
  have k1 : PySem.W.keepIn K (.ref 185) = true := S
  obtain ⟨S, E1⟩ := Bool.and_eq_true_iff.mp E1
  have d2 : PySem.W.nsIn K mainGlobals "_turned_round" = some (some (.ref 190)) := He.eqO_ok S
  obtain ⟨S, E1⟩ := Bool.and_eq_true_iff.mp E1
  obtain ⟨_, kv2, _, _, cd2, _, _, _, _, l2, q2, kk2, oo2⟩ := HK.fn_ok (c.fn 2 rfl) S
  obtain ⟨S, E1⟩ := Bool.and_eq_true_iff.mp E1
  have k2 : PySem.W.keepIn K (.ref 190) = true := S
  obtain ⟨S, E1⟩ := Bool.and_eq_true_iff.mp E1
  have d3 : PySem.W.nsIn K mainGlobals "_finished" = some (some (.ref 197)) := He.eqO_ok S
  obtain ⟨S, E1⟩ := Bool.and_eq_true_iff.mp E1
  obtain ⟨_, kv3, _, _, cd3, _, _, _, _, l3, q3, kk3, oo3⟩ := HK.fn_ok (c.fn 3 rfl) S
  obtain ⟨S, E1⟩ := Bool.and_eq_true_iff.mp E1
  have k3 : PySem.W.keepIn K (.ref 197) = true := S
  obtain ⟨S, E1⟩ := Bool.and_eq_true_iff.mp E1
  have d4 : PySem.W.nsIn K mainGlobals "_not_taken" = some (some (.ref 204)) := He.eqO_ok S
  obtain ⟨E2, Y1⟩ := Bool.and_eq_true_iff.mp Y1
  have E2 : (HK.fnB K 204 "_not_taken" none none none && ((PySem.W.keepIn K (.ref 204)) && (He.eqO (PySem.W.nsIn K mainGlobals "is_integer") (some (some (.ref 211))) && (HK.fnB K 211 "is_integer" none none none && ((PySem.W.keepIn K (.ref 211)) && (He.eqO (PySem.W.nsIn K mainGlobals "is_number") (some (some (.ref 218))) && (HK.fnB K 218 "is_number" none none none && ((PySem.W.keepIn K (.ref 218)) && (He.eqO (PySem.W.nsIn K mainGlobals "need_number") (some (some (.ref 225))) && (HK.fnB K 225 "need_number" none none none && ((PySem.W.keepIn K (.ref 225)) && (He.eqO (PySem.W.nsIn K mainGlobals "is_pair") (some (some (.ref 232))) && (HK.fnB K 232 "is_pair" none none none && ((PySem.W.keepIn K (.ref 232)) && (He.eqO (PySem.W.nsIn K mainGlobals "ascends") (some (some (.ref 237))) && (HK.fnB K 237 "ascends" none none none && ((PySem.W.keepIn K (.ref 237)) && (He.eqO (PySem.W.nsIn K mainGlobals "is_ascending") (some (some (.ref 242))) && (HK.fnB K 242 "is_ascending" none none none && ((PySem.W.keepIn K (.ref 242)) && (He.eqO (PySem.W.nsIn K mainGlobals "is_table") (some (some (.ref 247))) && (HK.fnB K 247 "is_table" none none none && ((PySem.W.keepIn K (.ref 247)) && (He.eqO (PySem.W.nsIn K mainGlobals "_is_row") (some (some (.ref 252))) && (HK.fnB K 252 "_is_row" none none none && ((PySem.W.keepIn K (.ref 252)) && (He.eqO (PySem.W.nsIn K mainGlobals "is_letters") (some (some (.ref 259))) && (HK.fnB K 259 "is_letters" none none none && ((PySem.W.keepIn K (.ref 259)) && (He.eqO (PySem.W.nsIn K mainGlobals "is_word") (some (some (.ref 266))) && true)))))))))))))))))))))))))))))) = true := E2
  obtain ⟨S, E2⟩ := Bool.and_eq_true_iff.mp E2
  obtain ⟨_, kv4, _, _, cd4, _, _, _, _, l4, q4, kk4, oo4⟩ := HK.fn_ok (c.fn 4 rfl) S
  obtain ⟨S, E2⟩ := Bool.and_eq_true_iff.mp E2
  have k4 : PySem.W.keepIn K (.ref 204) = true := S
  obtain ⟨S, E2⟩ := Bool.and_eq_true_iff.mp E2
  have d5 : PySem.W.nsIn K mainGlobals "is_integer" = some (some (.ref 211)) := He.eqO_ok S
  obtain ⟨S, E2⟩ := Bool.and_eq_true_iff.mp E2
  obtain ⟨_, kv5, _, _, cd5, _, _, _, _, l5, q5, kk5, oo5⟩ := HK.fn_ok (c.fn 5 rfl) S
  obtain ⟨S, E2⟩ := Bool.and_eq_true_iff.mp E2
  have k5 : PySem.W.keepIn K (.ref 211) = true := S
  obtain ⟨S, E2⟩ := Bool.and_eq_true_iff.mp E2
  have d6 : PySem.W.nsIn K mainGlobals "is_number" = some (some (.ref 218)) := He.eqO_ok S
  obtain ⟨S, E2⟩ := Bool.and_eq_true_iff.mp E2
  obtain ⟨_, kv6, _, _, cd6, _, _, _, _, l6, q6, kk6, oo6⟩ := HK.fn_ok (c.fn 6 rfl) S
  obtain ⟨S, E2⟩ := Bool.and_eq_true_iff.mp E2
  have k6 : PySem.W.keepIn K (.ref 218) = true := S
  obtain ⟨S, E2⟩ := Bool.and_eq_true_iff.mp E2
  have d7 : PySem.W.nsIn K mainGlobals "need_number" = some (some (.ref 225)) := He.eqO_ok S
  obtain ⟨S, E2⟩ := Bool.and_eq_true_iff.mp E2
  obtain ⟨_, kv7, _, _, cd7, _, _, _, _, l7, q7, kk7, oo7⟩ := HK.fn_ok (c.fn 7 rfl) S
  obtain ⟨S, E2⟩ := Bool.and_eq_true_iff.mp E2
  have k7 : PySem.W.keepIn K (.ref 225) = true := S
  obtain ⟨S, E2⟩ := Bool.and_eq_true_iff.mp E2
  have d8 : PySem.W.nsIn K mainGlobals "is_pair" = some (some (.ref 232)) := He.eqO_ok S
  obtain ⟨S, E2⟩ := Bool.and_eq_true_iff.mp E2
  obtain ⟨_, kv8, _, _, cd8, _, _, _, _, l8, q8, kk8, oo8⟩ := HK.fn_ok (c.fn 8 rfl) S
  obtain ⟨S, E2⟩ := Bool.and_eq_true_iff.mp E2
  have k8 : PySem.W.keepIn K (.ref 232) = true := S
  obtain ⟨S, E2⟩ := Bool.and_eq_true_iff.mp E2
  have d9 : PySem.W.nsIn K mainGlobals "ascends" = some (some (.ref 237)) := He.eqO_ok S
  obtain ⟨S, E2⟩ := Bool.and_eq_true_iff.mp E2
  obtain ⟨_, kv9, _, _, cd9, _, _, _, _, l9, q9, kk9, oo9⟩ := HK.fn_ok (c.fn 9 rfl) S
  obtain ⟨S, E2⟩ := Bool.and_eq_true_iff.mp E2
  have k9 : PySem.W.keepIn K (.ref 237) = true := S
  obtain ⟨S, E2⟩ := Bool.and_eq_true_iff.mp E2
  have d10 : PySem.W.nsIn K mainGlobals "is_ascending" = some (some (.ref 242)) := He.eqO_ok S
  obtain ⟨S, E2⟩ := Bool.and_eq_true_iff.mp E2
  obtain ⟨_, kv10, _, _, cd10, _, _, _, _, l10, q10, kk10, oo10⟩ := HK.fn_ok (c.fn 10 rfl) S
  obtain ⟨S, E2⟩ := Bool.and_eq_true_iff.mp E2
  have k10 : PySem.W.keepIn K (.ref 242) = true := S
  obtain ⟨S, E2⟩ := Bool.and_eq_true_iff.mp E2
  have d11 : PySem.W.nsIn K mainGlobals "is_table" = some (some (.ref 247)) := He.eqO_ok S
  obtain ⟨S, E2⟩ := Bool.and_eq_true_iff.mp E2
  obtain ⟨_, kv11, _, _, cd11, _, _, _, _, l11, q11, kk11, oo11⟩ := HK.fn_ok (c.fn 11 rfl) S
  obtain ⟨S, E2⟩ := Bool.and_eq_true_iff.mp E2
  have k11 : PySem.W.keepIn K (.ref 247) = true := S
  obtain ⟨S, E2⟩ := Bool.and_eq_true_iff.mp E2
  have d12 : PySem.W.nsIn K mainGlobals "_is_row" = some (some (.ref 252)) := He.eqO_ok S
  obtain ⟨S, E2⟩ := Bool.and_eq_true_iff.mp E2
  obtain ⟨_, kv12, _, _, cd12, _, _, _, _, l12, q12, kk12, oo12⟩ := HK.fn_ok (c.fn 12 rfl) S
  obtain ⟨S, E2⟩ := Bool.and_eq_true_iff.mp E2
  have k12 : PySem.W.keepIn K (.ref 252) = true := S
  obtain ⟨S, E2⟩ := Bool.and_eq_true_iff.mp E2
  have d13 : PySem.W.nsIn K mainGlobals "is_letters" = some (some (.ref 259)) := He.eqO_ok S
  obtain ⟨S, E2⟩ := Bool.and_eq_true_iff.mp E2
  obtain ⟨_, kv13, _, _, cd13, _, _, _, _, l13, q13, kk13, oo13⟩ := HK.fn_ok (c.fn 13 rfl) S
  obtain ⟨S, E2⟩ := Bool.and_eq_true_iff.mp E2
  have k13 : PySem.W.keepIn K (.ref 259) = true := S
  obtain ⟨S, E2⟩ := Bool.and_eq_true_iff.mp E2
  have d14 : PySem.W.nsIn K mainGlobals "is_word" = some (some (.ref 266)) := He.eqO_ok S
  obtain ⟨E3, Y1⟩ := Bool.and_eq_true_iff.mp Y1
  have E3 : (HK.fnB K 266 "is_word" none none none && ((PySem.W.keepIn K (.ref 266)) && (He.eqO (PySem.W.nsIn K mainGlobals "is_over") (some (some (.ref 271))) && (HK.fnB K 271 "is_over" none none none && ((PySem.W.keepIn K (.ref 271)) && (He.eqO (PySem.W.nsIn K mainGlobals "need_letters") (some (some (.ref 278))) && (HK.fnB K 278 "need_letters" none none none && ((PySem.W.keepIn K (.ref 278)) && (He.eqO (PySem.W.nsIn K mainGlobals "need_word") (some (some (.ref 285))) && (HK.fnB K 285 "need_word" none none none && ((PySem.W.keepIn K (.ref 285)) && (He.eqO (PySem.W.nsIn K mainGlobals "need_over") (some (some (.ref 292))) && (HK.fnB K 292 "need_over" none none none && ((PySem.W.keepIn K (.ref 292)) && (He.eqO (PySem.W.nsIn K mainGlobals "counts") (some (some (.ref 302))) && (HK.fnB K 302 "counts" none none none && ((PySem.W.keepIn K (.ref 302)) && (He.eqO (PySem.W.nsIn K mainGlobals "need_machines") (some (some (.ref 463))) && (HK.fnB K 463 "need_machines" none none none && ((PySem.W.keepIn K (.ref 463)) && (He.eqO (PySem.W.nsIn K mainGlobals "plus") (some (some (.ref 481))) && (HK.fnB K 481 "plus" (some 476) none none && ((PySem.W.keepIn K (.ref 481)) && (He.eqO (PySem.W.nsIn K mainGlobals "units_of") (some (some (.ref 486))) && (HK.fnB K 486 "units_of" none none none && ((PySem.W.keepIn K (.ref 486)) && (He.eqO (PySem.W.nsIn K mainGlobals "rings_by_counts") (some (some (.ref 491))) && (HK.fnB K 491 "rings_by_counts" none none none && ((PySem.W.keepIn K (.ref 491)) && (He.eqO (PySem.W.nsIn K mainGlobals "met") (some (some (.ref 498))) && true)))))))))))))))))))))))))))))) = true := E3
  obtain ⟨S, E3⟩ := Bool.and_eq_true_iff.mp E3
  obtain ⟨_, kv14, _, _, cd14, _, _, _, _, l14, q14, kk14, oo14⟩ := HK.fn_ok (c.fn 14 rfl) S
  obtain ⟨S, E3⟩ := Bool.and_eq_true_iff.mp E3
  have k14 : PySem.W.keepIn K (.ref 266) = true := S
  obtain ⟨S, E3⟩ := Bool.and_eq_true_iff.mp E3
  have d15 : PySem.W.nsIn K mainGlobals "is_over" = some (some (.ref 271)) := He.eqO_ok S
  obtain ⟨S, E3⟩ := Bool.and_eq_true_iff.mp E3
  obtain ⟨_, kv15, _, _, cd15, _, _, _, _, l15, q15, kk15, oo15⟩ := HK.fn_ok (c.fn 15 rfl) S
  obtain ⟨S, E3⟩ := Bool.and_eq_true_iff.mp E3
  have k15 : PySem.W.keepIn K (.ref 271) = true := S
  obtain ⟨S, E3⟩ := Bool.and_eq_true_iff.mp E3
  have d16 : PySem.W.nsIn K mainGlobals "need_letters" = some (some (.ref 278)) := He.eqO_ok S
  obtain ⟨S, E3⟩ := Bool.and_eq_true_iff.mp E3
  obtain ⟨_, kv16, _, _, cd16, _, _, _, _, l16, q16, kk16, oo16⟩ := HK.fn_ok (c.fn 16 rfl) S
  obtain ⟨S, E3⟩ := Bool.and_eq_true_iff.mp E3
  have k16 : PySem.W.keepIn K (.ref 278) = true := S
  obtain ⟨S, E3⟩ := Bool.and_eq_true_iff.mp E3
  have d17 : PySem.W.nsIn K mainGlobals "need_word" = some (some (.ref 285)) := He.eqO_ok S
  obtain ⟨S, E3⟩ := Bool.and_eq_true_iff.mp E3
  obtain ⟨_, kv17, _, _, cd17, _, _, _, _, l17, q17, kk17, oo17⟩ := HK.fn_ok (c.fn 17 rfl) S
  obtain ⟨S, E3⟩ := Bool.and_eq_true_iff.mp E3
  have k17 : PySem.W.keepIn K (.ref 285) = true := S
  obtain ⟨S, E3⟩ := Bool.and_eq_true_iff.mp E3
  have d18 : PySem.W.nsIn K mainGlobals "need_over" = some (some (.ref 292)) := He.eqO_ok S
  obtain ⟨S, E3⟩ := Bool.and_eq_true_iff.mp E3
  obtain ⟨_, kv18, _, _, cd18, _, _, _, _, l18, q18, kk18, oo18⟩ := HK.fn_ok (c.fn 18 rfl) S
  obtain ⟨S, E3⟩ := Bool.and_eq_true_iff.mp E3
  have k18 : PySem.W.keepIn K (.ref 292) = true := S
  obtain ⟨S, E3⟩ := Bool.and_eq_true_iff.mp E3
  have d19 : PySem.W.nsIn K mainGlobals "counts" = some (some (.ref 302)) := He.eqO_ok S
  obtain ⟨S, E3⟩ := Bool.and_eq_true_iff.mp E3
  obtain ⟨_, kv19, _, _, cd19, _, _, _, _, l19, q19, kk19, oo19⟩ := HK.fn_ok (c.fn 19 rfl) S
  obtain ⟨S, E3⟩ := Bool.and_eq_true_iff.mp E3
  have k19 : PySem.W.keepIn K (.ref 302) = true := S
  obtain ⟨S, E3⟩ := Bool.and_eq_true_iff.mp E3
  have d20 : PySem.W.nsIn K mainGlobals "need_machines" = some (some (.ref 463)) := He.eqO_ok S
  obtain ⟨S, E3⟩ := Bool.and_eq_true_iff.mp E3
  obtain ⟨_, kv20, _, _, cd20, _, _, _, _, l20, q20, kk20, oo20⟩ := HK.fn_ok (c.fn 20 rfl) S
  obtain ⟨S, E3⟩ := Bool.and_eq_true_iff.mp E3
  have k20 : PySem.W.keepIn K (.ref 463) = true := S
  obtain ⟨S, E3⟩ := Bool.and_eq_true_iff.mp E3
  have d21 : PySem.W.nsIn K mainGlobals "plus" = some (some (.ref 481)) := He.eqO_ok S
  obtain ⟨S, E3⟩ := Bool.and_eq_true_iff.mp E3
  obtain ⟨_, kv21, _, _, cd21, _, _, _, _, l21, q21, kk21, oo21⟩ := HK.fn_ok (c.fn 21 rfl) S
  obtain ⟨S, E3⟩ := Bool.and_eq_true_iff.mp E3
  have k21 : PySem.W.keepIn K (.ref 481) = true := S
  obtain ⟨S, E3⟩ := Bool.and_eq_true_iff.mp E3
  have d22 : PySem.W.nsIn K mainGlobals "units_of" = some (some (.ref 486)) := He.eqO_ok S
  obtain ⟨S, E3⟩ := Bool.and_eq_true_iff.mp E3
  obtain ⟨_, kv22, _, _, cd22, _, _, _, _, l22, q22, kk22, oo22⟩ := HK.fn_ok (c.fn 22 rfl) S
  obtain ⟨S, E3⟩ := Bool.and_eq_true_iff.mp E3
  have k22 : PySem.W.keepIn K (.ref 486) = true := S
  obtain ⟨S, E3⟩ := Bool.and_eq_true_iff.mp E3
  have d23 : PySem.W.nsIn K mainGlobals "rings_by_counts" = some (some (.ref 491)) := He.eqO_ok S
  obtain ⟨S, E3⟩ := Bool.and_eq_true_iff.mp E3
  obtain ⟨_, kv23, _, _, cd23, _, _, _, _, l23, q23, kk23, oo23⟩ := HK.fn_ok (c.fn 23 rfl) S
  obtain ⟨S, E3⟩ := Bool.and_eq_true_iff.mp E3
  have k23 : PySem.W.keepIn K (.ref 491) = true := S
  obtain ⟨S, E3⟩ := Bool.and_eq_true_iff.mp E3
  have d24 : PySem.W.nsIn K mainGlobals "met" = some (some (.ref 498)) := He.eqO_ok S
  obtain ⟨E4, Y2⟩ := Bool.and_eq_true_iff.mp Y2
  have E4 : (HK.fnB K 498 "met" none none none && ((PySem.W.keepIn K (.ref 498)) && (He.eqO (PySem.W.nsIn K mainGlobals "simple_rings") (some (some (.ref 505))) && (HK.fnB K 505 "simple_rings" none none none && ((PySem.W.keepIn K (.ref 505)) && (He.eqO (PySem.W.nsIn K mainGlobals "is_ring") (some (some (.ref 512))) && (HK.fnB K 512 "is_ring" none none none && ((PySem.W.keepIn K (.ref 512)) && (He.eqO (PySem.W.nsIn K mainGlobals "side_sum") (some (some (.ref 519))) && (HK.fnB K 519 "side_sum" none none none && ((PySem.W.keepIn K (.ref 519)) && (He.eqO (PySem.W.nsIn K mainGlobals "_leads_back") (some (some (.ref 526))) && (HK.fnB K 526 "_leads_back" none none none && ((PySem.W.keepIn K (.ref 526)) && (He.eqO (PySem.W.nsIn K mainGlobals "_is_side") (some (some (.ref 531))) && (HK.fnB K 531 "_is_side" none none none && ((PySem.W.keepIn K (.ref 531)) && (He.eqO (PySem.W.nsIn K mainGlobals "_is_turn") (some (some (.ref 538))) && (HK.fnB K 538 "_is_turn" none none none && ((PySem.W.keepIn K (.ref 538)) && (He.eqO (PySem.W.nsIn K mainGlobals "_sum_of") (some (some (.ref 545))) && (HK.fnB K 545 "_sum_of" none none none && ((PySem.W.keepIn K (.ref 545)) && (He.eqO (PySem.W.nsIn K mainGlobals "_law_dice") (some (some (.ref 552))) && (HK.fnB K 552 "_law_dice" none none none && ((PySem.W.keepIn K (.ref 552)) && (He.eqO (PySem.W.nsIn K mainGlobals "_law_roll") (some (some (.ref 559))) && (HK.fnB K 559 "_law_roll" none none none && ((PySem.W.keepIn K (.ref 559)) && (He.eqO (PySem.W.nsIn K mainGlobals "_law_one_of") (some (some (.ref 566))) && true)))))))))))))))))))))))))))))) = true := E4
  obtain ⟨S, E4⟩ := Bool.and_eq_true_iff.mp E4
  obtain ⟨_, kv24, _, _, cd24, _, _, _, _, l24, q24, kk24, oo24⟩ := HK.fn_ok (c.fn 24 rfl) S
  obtain ⟨S, E4⟩ := Bool.and_eq_true_iff.mp E4
  have k24 : PySem.W.keepIn K (.ref 498) = true := S
  obtain ⟨S, E4⟩ := Bool.and_eq_true_iff.mp E4
  have d25 : PySem.W.nsIn K mainGlobals "simple_rings" = some (some (.ref 505)) := He.eqO_ok S
  obtain ⟨S, E4⟩ := Bool.and_eq_true_iff.mp E4
  obtain ⟨_, kv25, _, _, cd25, _, _, _, _, l25, q25, kk25, oo25⟩ := HK.fn_ok (c.fn 25 rfl) S
  obtain ⟨S, E4⟩ := Bool.and_eq_true_iff.mp E4
  have k25 : PySem.W.keepIn K (.ref 505) = true := S
  obtain ⟨S, E4⟩ := Bool.and_eq_true_iff.mp E4
  have d26 : PySem.W.nsIn K mainGlobals "is_ring" = some (some (.ref 512)) := He.eqO_ok S
  obtain ⟨S, E4⟩ := Bool.and_eq_true_iff.mp E4
  obtain ⟨_, kv26, _, _, cd26, _, _, _, _, l26, q26, kk26, oo26⟩ := HK.fn_ok (c.fn 26 rfl) S
  obtain ⟨S, E4⟩ := Bool.and_eq_true_iff.mp E4
  have k26 : PySem.W.keepIn K (.ref 512) = true := S
  obtain ⟨S, E4⟩ := Bool.and_eq_true_iff.mp E4
  have d27 : PySem.W.nsIn K mainGlobals "side_sum" = some (some (.ref 519)) := He.eqO_ok S
  obtain ⟨S, E4⟩ := Bool.and_eq_true_iff.mp E4
  obtain ⟨_, kv27, _, _, cd27, _, _, _, _, l27, q27, kk27, oo27⟩ := HK.fn_ok (c.fn 27 rfl) S
  obtain ⟨S, E4⟩ := Bool.and_eq_true_iff.mp E4
  have k27 : PySem.W.keepIn K (.ref 519) = true := S
  obtain ⟨S, E4⟩ := Bool.and_eq_true_iff.mp E4
  have d28 : PySem.W.nsIn K mainGlobals "_leads_back" = some (some (.ref 526)) := He.eqO_ok S
  obtain ⟨S, E4⟩ := Bool.and_eq_true_iff.mp E4
  obtain ⟨_, kv28, _, _, cd28, _, _, _, _, l28, q28, kk28, oo28⟩ := HK.fn_ok (c.fn 28 rfl) S
  obtain ⟨S, E4⟩ := Bool.and_eq_true_iff.mp E4
  have k28 : PySem.W.keepIn K (.ref 526) = true := S
  obtain ⟨S, E4⟩ := Bool.and_eq_true_iff.mp E4
  have d29 : PySem.W.nsIn K mainGlobals "_is_side" = some (some (.ref 531)) := He.eqO_ok S
  obtain ⟨S, E4⟩ := Bool.and_eq_true_iff.mp E4
  obtain ⟨_, kv29, _, _, cd29, _, _, _, _, l29, q29, kk29, oo29⟩ := HK.fn_ok (c.fn 29 rfl) S
  obtain ⟨S, E4⟩ := Bool.and_eq_true_iff.mp E4
  have k29 : PySem.W.keepIn K (.ref 531) = true := S
  obtain ⟨S, E4⟩ := Bool.and_eq_true_iff.mp E4
  have d30 : PySem.W.nsIn K mainGlobals "_is_turn" = some (some (.ref 538)) := He.eqO_ok S
  obtain ⟨S, E4⟩ := Bool.and_eq_true_iff.mp E4
  obtain ⟨_, kv30, _, _, cd30, _, _, _, _, l30, q30, kk30, oo30⟩ := HK.fn_ok (c.fn 30 rfl) S
  obtain ⟨S, E4⟩ := Bool.and_eq_true_iff.mp E4
  have k30 : PySem.W.keepIn K (.ref 538) = true := S
  obtain ⟨S, E4⟩ := Bool.and_eq_true_iff.mp E4
  have d31 : PySem.W.nsIn K mainGlobals "_sum_of" = some (some (.ref 545)) := He.eqO_ok S
  obtain ⟨S, E4⟩ := Bool.and_eq_true_iff.mp E4
  obtain ⟨_, kv31, _, _, cd31, _, _, _, _, l31, q31, kk31, oo31⟩ := HK.fn_ok (c.fn 31 rfl) S
  obtain ⟨S, E4⟩ := Bool.and_eq_true_iff.mp E4
  have k31 : PySem.W.keepIn K (.ref 545) = true := S
  obtain ⟨S, E4⟩ := Bool.and_eq_true_iff.mp E4
  have d32 : PySem.W.nsIn K mainGlobals "_law_dice" = some (some (.ref 552)) := He.eqO_ok S
  obtain ⟨S, E4⟩ := Bool.and_eq_true_iff.mp E4
  obtain ⟨_, kv32, _, _, cd32, _, _, _, _, l32, q32, kk32, oo32⟩ := HK.fn_ok (c.fn 32 rfl) S
  obtain ⟨S, E4⟩ := Bool.and_eq_true_iff.mp E4
  have k32 : PySem.W.keepIn K (.ref 552) = true := S
  obtain ⟨S, E4⟩ := Bool.and_eq_true_iff.mp E4
  have d33 : PySem.W.nsIn K mainGlobals "_law_roll" = some (some (.ref 559)) := He.eqO_ok S
  obtain ⟨S, E4⟩ := Bool.and_eq_true_iff.mp E4
  obtain ⟨_, kv33, _, _, cd33, _, _, _, _, l33, q33, kk33, oo33⟩ := HK.fn_ok (c.fn 33 rfl) S
  obtain ⟨S, E4⟩ := Bool.and_eq_true_iff.mp E4
  have k33 : PySem.W.keepIn K (.ref 559) = true := S
  obtain ⟨S, E4⟩ := Bool.and_eq_true_iff.mp E4
  have d34 : PySem.W.nsIn K mainGlobals "_law_one_of" = some (some (.ref 566)) := He.eqO_ok S
  obtain ⟨E5, Y2⟩ := Bool.and_eq_true_iff.mp Y2
  have E5 : (HK.fnB K 566 "_law_one_of" none none none && ((PySem.W.keepIn K (.ref 566)) && (He.eqO (PySem.W.nsIn K mainGlobals "_law_mixed") (some (some (.ref 573))) && (HK.fnB K 573 "_law_mixed" none none none && ((PySem.W.keepIn K (.ref 573)) && (He.eqO (PySem.W.nsIn K mainGlobals "_law_letters") (some (some (.ref 580))) && (HK.fnB K 580 "_law_letters" none none none && ((PySem.W.keepIn K (.ref 580)) && (He.eqO (PySem.W.nsIn K mainGlobals "_law_word") (some (some (.ref 585))) && (HK.fnB K 585 "_law_word" none none none && ((PySem.W.keepIn K (.ref 585)) && (He.eqO (PySem.W.nsIn K mainGlobals "_law_action") (some (some (.ref 590))) && (HK.fnB K 590 "_law_action" none none none && ((PySem.W.keepIn K (.ref 590)) && (He.eqO (PySem.W.nsIn K mainGlobals "_law_table") (some (some (.ref 595))) && (HK.fnB K 595 "_law_table" none none none && ((PySem.W.keepIn K (.ref 595)) && (He.eqO (PySem.W.nsIn K mainGlobals "_law_machine") (some (some (.ref 600))) && (HK.fnB K 600 "_law_machine" none none none && ((PySem.W.keepIn K (.ref 600)) && (He.eqO (PySem.W.nsIn K mainGlobals "_law_made_machine") (some (some (.ref 607))) && (HK.fnB K 607 "_law_made_machine" none none none && ((PySem.W.keepIn K (.ref 607)) && (He.eqO (PySem.W.nsIn K mainGlobals "_law_led") (some (some (.ref 614))) && (HK.fnB K 614 "_law_led" none none none && ((PySem.W.keepIn K (.ref 614)) && (He.eqO (PySem.W.nsIn K mainGlobals "_law_has") (some (some (.ref 621))) && (HK.fnB K 621 "_law_has" none none none && ((PySem.W.keepIn K (.ref 621)) && (He.eqO (PySem.W.nsIn K mainGlobals "_law_words") (some (some (.ref 626))) && true)))))))))))))))))))))))))))))) = true := E5
  obtain ⟨S, E5⟩ := Bool.and_eq_true_iff.mp E5
  obtain ⟨_, kv34, _, _, cd34, _, _, _, _, l34, q34, kk34, oo34⟩ := HK.fn_ok (c.fn 34 rfl) S
  obtain ⟨S, E5⟩ := Bool.and_eq_true_iff.mp E5
  have k34 : PySem.W.keepIn K (.ref 566) = true := S
  obtain ⟨S, E5⟩ := Bool.and_eq_true_iff.mp E5
  have d35 : PySem.W.nsIn K mainGlobals "_law_mixed" = some (some (.ref 573)) := He.eqO_ok S
  obtain ⟨S, E5⟩ := Bool.and_eq_true_iff.mp E5
  obtain ⟨_, kv35, _, _, cd35, _, _, _, _, l35, q35, kk35, oo35⟩ := HK.fn_ok (c.fn 35 rfl) S
  obtain ⟨S, E5⟩ := Bool.and_eq_true_iff.mp E5
  have k35 : PySem.W.keepIn K (.ref 573) = true := S
  obtain ⟨S, E5⟩ := Bool.and_eq_true_iff.mp E5
  have d36 : PySem.W.nsIn K mainGlobals "_law_letters" = some (some (.ref 580)) := He.eqO_ok S
  obtain ⟨S, E5⟩ := Bool.and_eq_true_iff.mp E5
  obtain ⟨_, kv36, _, _, cd36, _, _, _, _, l36, q36, kk36, oo36⟩ := HK.fn_ok (c.fn 36 rfl) S
  obtain ⟨S, E5⟩ := Bool.and_eq_true_iff.mp E5
  have k36 : PySem.W.keepIn K (.ref 580) = true := S
  obtain ⟨S, E5⟩ := Bool.and_eq_true_iff.mp E5
  have d37 : PySem.W.nsIn K mainGlobals "_law_word" = some (some (.ref 585)) := He.eqO_ok S
  obtain ⟨S, E5⟩ := Bool.and_eq_true_iff.mp E5
  obtain ⟨_, kv37, _, _, cd37, _, _, _, _, l37, q37, kk37, oo37⟩ := HK.fn_ok (c.fn 37 rfl) S
  obtain ⟨S, E5⟩ := Bool.and_eq_true_iff.mp E5
  have k37 : PySem.W.keepIn K (.ref 585) = true := S
  obtain ⟨S, E5⟩ := Bool.and_eq_true_iff.mp E5
  have d38 : PySem.W.nsIn K mainGlobals "_law_action" = some (some (.ref 590)) := He.eqO_ok S
  obtain ⟨S, E5⟩ := Bool.and_eq_true_iff.mp E5
  obtain ⟨_, kv38, _, _, cd38, _, _, _, _, l38, q38, kk38, oo38⟩ := HK.fn_ok (c.fn 38 rfl) S
  obtain ⟨S, E5⟩ := Bool.and_eq_true_iff.mp E5
  have k38 : PySem.W.keepIn K (.ref 590) = true := S
  obtain ⟨S, E5⟩ := Bool.and_eq_true_iff.mp E5
  have d39 : PySem.W.nsIn K mainGlobals "_law_table" = some (some (.ref 595)) := He.eqO_ok S
  obtain ⟨S, E5⟩ := Bool.and_eq_true_iff.mp E5
  obtain ⟨_, kv39, _, _, cd39, _, _, _, _, l39, q39, kk39, oo39⟩ := HK.fn_ok (c.fn 39 rfl) S
  obtain ⟨S, E5⟩ := Bool.and_eq_true_iff.mp E5
  have k39 : PySem.W.keepIn K (.ref 595) = true := S
  obtain ⟨S, E5⟩ := Bool.and_eq_true_iff.mp E5
  have d40 : PySem.W.nsIn K mainGlobals "_law_machine" = some (some (.ref 600)) := He.eqO_ok S
  obtain ⟨S, E5⟩ := Bool.and_eq_true_iff.mp E5
  obtain ⟨_, kv40, _, _, cd40, _, _, _, _, l40, q40, kk40, oo40⟩ := HK.fn_ok (c.fn 40 rfl) S
  obtain ⟨S, E5⟩ := Bool.and_eq_true_iff.mp E5
  have k40 : PySem.W.keepIn K (.ref 600) = true := S
  obtain ⟨S, E5⟩ := Bool.and_eq_true_iff.mp E5
  have d41 : PySem.W.nsIn K mainGlobals "_law_made_machine" = some (some (.ref 607)) := He.eqO_ok S
  obtain ⟨S, E5⟩ := Bool.and_eq_true_iff.mp E5
  obtain ⟨_, kv41, _, _, cd41, _, _, _, _, l41, q41, kk41, oo41⟩ := HK.fn_ok (c.fn 41 rfl) S
  obtain ⟨S, E5⟩ := Bool.and_eq_true_iff.mp E5
  have k41 : PySem.W.keepIn K (.ref 607) = true := S
  obtain ⟨S, E5⟩ := Bool.and_eq_true_iff.mp E5
  have d42 : PySem.W.nsIn K mainGlobals "_law_led" = some (some (.ref 614)) := He.eqO_ok S
  obtain ⟨S, E5⟩ := Bool.and_eq_true_iff.mp E5
  obtain ⟨_, kv42, _, _, cd42, _, _, _, _, l42, q42, kk42, oo42⟩ := HK.fn_ok (c.fn 42 rfl) S
  obtain ⟨S, E5⟩ := Bool.and_eq_true_iff.mp E5
  have k42 : PySem.W.keepIn K (.ref 614) = true := S
  obtain ⟨S, E5⟩ := Bool.and_eq_true_iff.mp E5
  have d43 : PySem.W.nsIn K mainGlobals "_law_has" = some (some (.ref 621)) := He.eqO_ok S
  obtain ⟨S, E5⟩ := Bool.and_eq_true_iff.mp E5
  obtain ⟨_, kv43, _, _, cd43, _, _, _, _, l43, q43, kk43, oo43⟩ := HK.fn_ok (c.fn 43 rfl) S
  obtain ⟨S, E5⟩ := Bool.and_eq_true_iff.mp E5
  have k43 : PySem.W.keepIn K (.ref 621) = true := S
  obtain ⟨S, E5⟩ := Bool.and_eq_true_iff.mp E5
  have d44 : PySem.W.nsIn K mainGlobals "_law_words" = some (some (.ref 626)) := He.eqO_ok S
  obtain ⟨E6, Y3⟩ := Bool.and_eq_true_iff.mp Y3
  have E6 : (HK.fnB K 626 "_law_words" none none none && ((PySem.W.keepIn K (.ref 626)) && (He.eqO (PySem.W.nsIn K mainGlobals "_law_counts") (some (some (.ref 631))) && (HK.fnB K 631 "_law_counts" none none none && ((PySem.W.keepIn K (.ref 631)) && (He.eqO (PySem.W.nsIn K mainGlobals "_law_way") (some (some (.ref 638))) && (HK.fnB K 638 "_law_way" none none none && ((PySem.W.keepIn K (.ref 638)) && (He.eqO (PySem.W.nsIn K mainGlobals "_law_simple") (some (some (.ref 645))) && (HK.fnB K 645 "_law_simple" none none none && ((PySem.W.keepIn K (.ref 645)) && (He.eqO (PySem.W.nsIn K mainGlobals "_law_key") (some (some (.ref 652))) && (HK.fnB K 652 "_law_key" none none none && ((PySem.W.keepIn K (.ref 652)) && (He.eqO (PySem.W.nsIn K mainGlobals "_law_gone") (some (some (.ref 659))) && (HK.fnB K 659 "_law_gone" none none none && ((PySem.W.keepIn K (.ref 659)) && (He.eqO (PySem.W.nsIn K mainGlobals "_law_right") (some (some (.ref 664))) && (HK.fnB K 664 "_law_right" none none none && ((PySem.W.keepIn K (.ref 664)) && (He.eqO (PySem.W.nsIn K mainGlobals "law") (some (some (.ref 671))) && (HK.fnB K 671 "law" none none none && ((PySem.W.keepIn K (.ref 671)) && (HK.fnB K 124 "Made.__init__" none none none && ((PySem.W.keepIn K (.ref 124)) && (HK.fnB K 318 "Machine.__init__" (some 311) none none && ((PySem.W.keepIn K (.ref 318)) && (HK.fnB K 325 "Machine.letters" none none none && ((PySem.W.keepIn K (.ref 325)) && (HK.fnB K 333 "Machine.table" none none none && true)))))))))))))))))))))))))))))) = true := E6
  obtain ⟨S, E6⟩ := Bool.and_eq_true_iff.mp E6
  obtain ⟨_, kv44, _, _, cd44, _, _, _, _, l44, q44, kk44, oo44⟩ := HK.fn_ok (c.fn 44 rfl) S
  obtain ⟨S, E6⟩ := Bool.and_eq_true_iff.mp E6
  have k44 : PySem.W.keepIn K (.ref 626) = true := S
  obtain ⟨S, E6⟩ := Bool.and_eq_true_iff.mp E6
  have d45 : PySem.W.nsIn K mainGlobals "_law_counts" = some (some (.ref 631)) := He.eqO_ok S
  obtain ⟨S, E6⟩ := Bool.and_eq_true_iff.mp E6
  obtain ⟨_, kv45, _, _, cd45, _, _, _, _, l45, q45, kk45, oo45⟩ := HK.fn_ok (c.fn 45 rfl) S
  obtain ⟨S, E6⟩ := Bool.and_eq_true_iff.mp E6
  have k45 : PySem.W.keepIn K (.ref 631) = true := S
  obtain ⟨S, E6⟩ := Bool.and_eq_true_iff.mp E6
  have d46 : PySem.W.nsIn K mainGlobals "_law_way" = some (some (.ref 638)) := He.eqO_ok S
  obtain ⟨S, E6⟩ := Bool.and_eq_true_iff.mp E6
  obtain ⟨_, kv46, _, _, cd46, _, _, _, _, l46, q46, kk46, oo46⟩ := HK.fn_ok (c.fn 46 rfl) S
  obtain ⟨S, E6⟩ := Bool.and_eq_true_iff.mp E6
  have k46 : PySem.W.keepIn K (.ref 638) = true := S
  obtain ⟨S, E6⟩ := Bool.and_eq_true_iff.mp E6
  have d47 : PySem.W.nsIn K mainGlobals "_law_simple" = some (some (.ref 645)) := He.eqO_ok S
  obtain ⟨S, E6⟩ := Bool.and_eq_true_iff.mp E6
  obtain ⟨_, kv47, _, _, cd47, _, _, _, _, l47, q47, kk47, oo47⟩ := HK.fn_ok (c.fn 47 rfl) S
  obtain ⟨S, E6⟩ := Bool.and_eq_true_iff.mp E6
  have k47 : PySem.W.keepIn K (.ref 645) = true := S
  obtain ⟨S, E6⟩ := Bool.and_eq_true_iff.mp E6
  have d48 : PySem.W.nsIn K mainGlobals "_law_key" = some (some (.ref 652)) := He.eqO_ok S
  obtain ⟨S, E6⟩ := Bool.and_eq_true_iff.mp E6
  obtain ⟨_, kv48, _, _, cd48, _, _, _, _, l48, q48, kk48, oo48⟩ := HK.fn_ok (c.fn 48 rfl) S
  obtain ⟨S, E6⟩ := Bool.and_eq_true_iff.mp E6
  have k48 : PySem.W.keepIn K (.ref 652) = true := S
  obtain ⟨S, E6⟩ := Bool.and_eq_true_iff.mp E6
  have d49 : PySem.W.nsIn K mainGlobals "_law_gone" = some (some (.ref 659)) := He.eqO_ok S
  obtain ⟨S, E6⟩ := Bool.and_eq_true_iff.mp E6
  obtain ⟨_, kv49, _, _, cd49, _, _, _, _, l49, q49, kk49, oo49⟩ := HK.fn_ok (c.fn 49 rfl) S
  obtain ⟨S, E6⟩ := Bool.and_eq_true_iff.mp E6
  have k49 : PySem.W.keepIn K (.ref 659) = true := S
  obtain ⟨S, E6⟩ := Bool.and_eq_true_iff.mp E6
  have d50 : PySem.W.nsIn K mainGlobals "_law_right" = some (some (.ref 664)) := He.eqO_ok S
  obtain ⟨S, E6⟩ := Bool.and_eq_true_iff.mp E6
  obtain ⟨_, kv50, _, _, cd50, _, _, _, _, l50, q50, kk50, oo50⟩ := HK.fn_ok (c.fn 50 rfl) S
  obtain ⟨S, E6⟩ := Bool.and_eq_true_iff.mp E6
  have k50 : PySem.W.keepIn K (.ref 664) = true := S
  obtain ⟨S, E6⟩ := Bool.and_eq_true_iff.mp E6
  have d51 : PySem.W.nsIn K mainGlobals "law" = some (some (.ref 671)) := He.eqO_ok S
  obtain ⟨S, E6⟩ := Bool.and_eq_true_iff.mp E6
  obtain ⟨_, kv51, _, _, cd51, _, _, _, _, l51, q51, kk51, oo51⟩ := HK.fn_ok (c.fn 51 rfl) S
  obtain ⟨S, E6⟩ := Bool.and_eq_true_iff.mp E6
  have k51 : PySem.W.keepIn K (.ref 671) = true := S
  obtain ⟨S, E6⟩ := Bool.and_eq_true_iff.mp E6
  obtain ⟨_, kv52, _, _, cd52, _, _, _, _, l52, q52, kk52, oo52⟩ := HK.fn_ok (c.fn 52 rfl) S
  obtain ⟨S, E6⟩ := Bool.and_eq_true_iff.mp E6
  have k52 : PySem.W.keepIn K (.ref 124) = true := S
  obtain ⟨S, E6⟩ := Bool.and_eq_true_iff.mp E6
  obtain ⟨_, kv53, _, _, cd53, _, _, _, _, l53, q53, kk53, oo53⟩ := HK.fn_ok (c.fn 53 rfl) S
  obtain ⟨S, E6⟩ := Bool.and_eq_true_iff.mp E6
  have k53 : PySem.W.keepIn K (.ref 318) = true := S
  obtain ⟨S, E6⟩ := Bool.and_eq_true_iff.mp E6
  obtain ⟨_, kv54, _, _, cd54, _, _, _, _, l54, q54, kk54, oo54⟩ := HK.fn_ok (c.fn 54 rfl) S
  obtain ⟨S, E6⟩ := Bool.and_eq_true_iff.mp E6
  have k54 : PySem.W.keepIn K (.ref 325) = true := S
  obtain ⟨S, E6⟩ := Bool.and_eq_true_iff.mp E6
  obtain ⟨_, kv55, _, _, cd55, _, _, _, _, l55, q55, kk55, oo55⟩ := HK.fn_ok (c.fn 55 rfl) S
  obtain ⟨E7, Y3⟩ := Bool.and_eq_true_iff.mp Y3
  have E7 : ((PySem.W.keepIn K (.ref 333)) && (HK.fnB K 427 "Machine.__len__" none none none && ((PySem.W.keepIn K (.ref 427)) && (HK.fnB K 420 "Machine.__contains__" none none none && ((PySem.W.keepIn K (.ref 420)) && (HK.unoB K 476 && (HK.oneB K 311 && (HK.intB K mainGlobals "MAX_LETTERS" 3 && (HK.intB K mainGlobals "MAX_STATES" 4 && (He.eqO (PySem.W.nsIn K mainGlobals "len") (some none) && (He.eqO (PySem.W.nsIn K mainGlobals "int") (some none) && (He.eqO (PySem.W.nsIn K mainGlobals "abs") (some none) && (He.eqO (PySem.W.nsIn K mainGlobals "isinstance") (some none) && (He.eqO (PySem.W.nsIn K mainGlobals "bool") (some none) && (He.eqO (PySem.W.nsIn K mainGlobals "str") (some none) && (He.eqO (PySem.W.nsIn K mainGlobals "all") (some none) && (He.eqO (PySem.W.nsIn K mainGlobals "range") (some none) && (He.eqO (PySem.W.nsIn K mainGlobals "sorted") (some none) && (He.eqO (PySem.W.nsIn K mainGlobals "set") (some none) && (He.eqO (PySem.W.nsIn K mainGlobals "tuple") (some none) && (He.eqO (PySem.W.nsIn K mainGlobals "list") (some none) && (He.eqO (PySem.W.nsIn K mainGlobals "max") (some none) && (He.eqO (PySem.W.nsIn K mainGlobals "min") (some none) && (He.eqO (PySem.W.nsIn K mainGlobals "zip") (some none) && (He.eqO (PySem.W.nsIn K mainGlobals "enumerate") (some none) && true))))))))))))))))))))))))) = true := E7
  obtain ⟨S, E7⟩ := Bool.and_eq_true_iff.mp E7
  have k55 : PySem.W.keepIn K (.ref 333) = true := S
  obtain ⟨S, E7⟩ := Bool.and_eq_true_iff.mp E7
  obtain ⟨_, kv56, _, _, cd56, _, _, _, _, l56, q56, kk56, oo56⟩ := HK.fn_ok (c.fn 56 rfl) S
  obtain ⟨S, E7⟩ := Bool.and_eq_true_iff.mp E7
  have k56 : PySem.W.keepIn K (.ref 427) = true := S
  obtain ⟨S, E7⟩ := Bool.and_eq_true_iff.mp E7
  obtain ⟨_, kv57, _, _, cd57, _, _, _, _, l57, q57, kk57, oo57⟩ := HK.fn_ok (c.fn 57 rfl) S
  obtain ⟨S, E7⟩ := Bool.and_eq_true_iff.mp E7
  have k57 : PySem.W.keepIn K (.ref 420) = true := S
  obtain ⟨S, E7⟩ := Bool.and_eq_true_iff.mp E7
  obtain ⟨_, _, _, _, _, y21⟩ := HK.uno_ns S
  obtain ⟨S, E7⟩ := Bool.and_eq_true_iff.mp E7
  obtain ⟨_, _, _, _, _, y53⟩ := HK.one_ns S
  obtain ⟨S, E7⟩ := Bool.and_eq_true_iff.mp E7
  obtain ⟨_, vMAX_LETTERS⟩ := HK.int_ns S
  obtain ⟨S, E7⟩ := Bool.and_eq_true_iff.mp E7
  obtain ⟨_, vMAX_STATES⟩ := HK.int_ns S
  obtain ⟨S, E7⟩ := Bool.and_eq_true_iff.mp E7
  have z_len : PySem.W.nsIn K mainGlobals "len" = some none := He.eqO_ok S
  obtain ⟨S, E7⟩ := Bool.and_eq_true_iff.mp E7
  have z_int : PySem.W.nsIn K mainGlobals "int" = some none := He.eqO_ok S
  obtain ⟨S, E7⟩ := Bool.and_eq_true_iff.mp E7
  have z_abs : PySem.W.nsIn K mainGlobals "abs" = some none := He.eqO_ok S
  obtain ⟨S, E7⟩ := Bool.and_eq_true_iff.mp E7
  have z_isinstance : PySem.W.nsIn K mainGlobals "isinstance" = some none := He.eqO_ok S
  obtain ⟨S, E7⟩ := Bool.and_eq_true_iff.mp E7
  have z_bool : PySem.W.nsIn K mainGlobals "bool" = some none := He.eqO_ok S
  obtain ⟨S, E7⟩ := Bool.and_eq_true_iff.mp E7
  have z_str : PySem.W.nsIn K mainGlobals "str" = some none := He.eqO_ok S
  obtain ⟨S, E7⟩ := Bool.and_eq_true_iff.mp E7
  have z_all : PySem.W.nsIn K mainGlobals "all" = some none := He.eqO_ok S
  obtain ⟨S, E7⟩ := Bool.and_eq_true_iff.mp E7
  have z_range : PySem.W.nsIn K mainGlobals "range" = some none := He.eqO_ok S
  obtain ⟨S, E7⟩ := Bool.and_eq_true_iff.mp E7
  have z_sorted : PySem.W.nsIn K mainGlobals "sorted" = some none := He.eqO_ok S
  obtain ⟨S, E7⟩ := Bool.and_eq_true_iff.mp E7
  have z_set : PySem.W.nsIn K mainGlobals "set" = some none := He.eqO_ok S
  obtain ⟨S, E7⟩ := Bool.and_eq_true_iff.mp E7
  have z_tuple : PySem.W.nsIn K mainGlobals "tuple" = some none := He.eqO_ok S
  obtain ⟨S, E7⟩ := Bool.and_eq_true_iff.mp E7
  have z_list : PySem.W.nsIn K mainGlobals "list" = some none := He.eqO_ok S
  obtain ⟨S, E7⟩ := Bool.and_eq_true_iff.mp E7
  have z_max : PySem.W.nsIn K mainGlobals "max" = some none := He.eqO_ok S
  obtain ⟨S, E7⟩ := Bool.and_eq_true_iff.mp E7
  have z_min : PySem.W.nsIn K mainGlobals "min" = some none := He.eqO_ok S
  obtain ⟨S, E7⟩ := Bool.and_eq_true_iff.mp E7
  have z_zip : PySem.W.nsIn K mainGlobals "zip" = some none := He.eqO_ok S
  obtain ⟨S, E7⟩ := Bool.and_eq_true_iff.mp E7
  have z_enumerate : PySem.W.nsIn K mainGlobals "enumerate" = some none := He.eqO_ok S
  exact all_mk c.In G hfa gd gm pgd hdd pod sad ccd obd mkd kCd id nid pgm hdm pom sam ccm obm mkm kCm im nim cn ct nR nMT nML nME paml pg_ml pt_ml pr_ml pamt pg_mt pt_mt pr_mt a56 n56 a57 n57 kim kitD gI xI kI bI tI d0 l0 q0 k0 d1 l1 q1 k1 d2 l2 q2 k2 d3 l3 q3 k3 d4 l4 q4 k4 d5 l5 q5 k5 d6 l6 q6 k6 d7 l7 q7 k7 d8 l8 q8 k8 d9 l9 q9 k9 d10 l10 q10 k10 d11 l11 q11 k11 d12 l12 q12 k12 d13 l13 q13 k13 d14 l14 q14 k14 d15 l15 q15 k15 d16 l16 q16 k16 d17 l17 q17 k17 d18 l18 q18 k18 d19 l19 q19 k19 d20 l20 q20 k20 d21 l21 q21 k21 d22 l22 q22 k22 d23 l23 q23 k23 d24 l24 q24 k24 d25 l25 q25 k25 d26 l26 q26 k26 d27 l27 q27 k27 d28 l28 q28 k28 d29 l29 q29 k29 d30 l30 q30 k30 d31 l31 q31 k31 d32 l32 q32 k32 d33 l33 q33 k33 d34 l34 q34 k34 d35 l35 q35 k35 d36 l36 q36 k36 d37 l37 q37 k37 d38 l38 q38 k38 d39 l39 q39 k39 d40 l40 q40 k40 d41 l41 q41 k41 d42 l42 q42 k42 d43 l43 q43 k43 d44 l44 q44 k44 d45 l45 q45 k45 d46 l46 q46 k46 d47 l47 q47 k47 d48 l48 q48 k48 d49 l49 q49 k49 d50 l50 q50 k50 d51 l51 q51 k51 l52 q52 k52 l53 q53 k53 l54 q54 k54 l55 q55 k55 l56 q56 k56 l57 q57 k57 y21 y53 vMAX_LETTERS vMAX_STATES z_len z_int z_abs z_isinstance z_bool z_str z_all z_range z_sorted z_set z_tuple z_list z_max z_min z_zip z_enumerate
end WK
open PySem PySem.W PySem.Calls PyProof.Rows
theorem PySem.Challenge.cw_watchkinds_k90_whole_rings_gone_round_mo_holds : PySem.Challenge.rw_watchkinds_k90_whole_rings_gone_round_mo.Holds := by
  w_on; o_law
  refine HandSHeadRun.head_any (r := WK.Rw) (q := view WK.Rw.prog [83]) (H := WK.hkAll) (ob := WK.obAll) (M := 9000) (loose := WK.nmAll) (d := HandSHeadRun.topDef WK.Rw.prog 83) (kwd := []) WK.obAll_eq (by kernel_rfl) (fun s => by kernel_rfl) WK.runAll (by kernel_rfl) (by kernel_rfl) (by kernel_rfl) (by rfl) (by first | assumption | decide +kernel) (by decide +kernel) ⟨rfl, rfl, rfl, rfl, rfl, by decide +kernel⟩ ?hw ?hc
  case hw => w_witness2
  case hc =>
    refine LamX.walk_ofTsE (l := PySem.Challenge.rw_watchkinds_k90_whole_rings_gone_round_mo) (n := 63) (k := 9) (x := "_law_script") (CX := fun _ => L2.CX0) rfl (by decide) (by kernel_rfl) ⟨rfl, by decide, by decide⟩ ?F (fun _ _ _ _ _ z => z)
    intro w mg fa h Y G hmg
    obtain ⟨K, c⟩ := Y
    have e : (HandSHeadRun.topDef WK.Rw.prog 83).name = ("law" : PySem.Str) := by kernel_rfl
    rw [e] at hmg
    exact ⟨K, c.In, WK.facts c G hmg⟩
#print axioms PySem.Challenge.cw_watchkinds_k90_whole_rings_gone_round_mo_holds
