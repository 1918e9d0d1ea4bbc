import PyProof.Rows.All
import Wide.All
import OpenK.AllK
import Wide.FinOn
import PyProof.Rows.SetFrom
import PyProof.StrWalks
import HandS.ForMost
import HandS.Set
import HandS.TupSets
import HandS.SetTxt0
import HandS.SetTxtIn
import HandS.Codes
import HandS.Strs
import HandS.Style
import HandS.StrMore
import HandS.Text
import PyProof.StrLawsFrom
import PyProof.Rows.StrCountLaw
import PyProof.Rows.StrRev
import PyProof.Rows.StrMul
import HandS.Wide
import HandS.IsInst
import HandS.ExcInit
import HandS.Flow
import KE.KExcIs
import KE.KExcInit
import HandS.Walk
import HandS.GenBody
import HandS.GenCall
import HandS.GenList
import HandS.GenYield
import KE.KDictZip
import HandS.Zip
import HandS.Zip0
import HandS.ExcValue
import PySem.Challenge.RW_watchkinds_k01_whole_words_and_their_pie
set_option Elab.async false
set_option linter.all false
set_option maxRecDepth 100000
set_option maxHeartbeats 4000000
/-! Sets of the signs of a text, made by set(text), and sorted. -/
namespace TX
open PySem PySem.Spec PyProof.Rows L2
/-- the text of an entry -/
def txOf (e : Int × Value) : Str := strOf e.2
def GoodX (w : World) (e : Int × Value) : Prop := ∃ k tk, e.2 = Value.str k tk ∧ e.1 = hashStr w k
/-- what holds of the entries of a set of texts, whatever object bears them: T says its members -/
structure Fine (w : World) (T : Str → Bool) (es : Array (Int × Value)) (t : SetTable) : Prop where
  good : ∀ e ∈ es.toList, GoodX w e
  once : (es.toList.map txOf).Nodup
  mem : ∀ k, T k = true ↔ k ∈ es.toList.map txOf
  few : es.size < scanBound
  fit : t.fits es.size = true
  ris : Ris t.place.toList
  led : t.led = true ∨ w.params.followText "set-order" = true
/-- a set of n texts at a -/
structure SetX (w : World) (h : Heap) (a : Addr) (T : Str → Bool) (n : Nat) (o : Obj) (es : Array (Int × Value)) (ep : Nat) (t : SetTable) : Prop where
  ob : h.get? a = some o
  ex : o.ExactSet
  dat : o.data = .set es ep t
  sz : es.size = n
  fine : Fine w T es t
def HasX (w : World) (h : Heap) (a : Addr) (T : Str → Bool) (n : Nat) : Prop := ∃ o es ep t, SetX w h a T n o es ep t
section
variable {P : Program} {w : World} {h h' : Heap} {a : Addr} {T : Str → Bool} {n : Nat}
theorem HasX.at (R : HasX w h a T n) (k : ∀ o, h.get? a = some o → h'.get? a = some o) : HasX w h' a T n := by
  obtain ⟨o, es, ep, t, r⟩ := R
  exact ⟨o, es, ep, t, { r with ob := k o r.ob }⟩
theorem HasX.congr {T' : Str → Bool} (R : HasX w h a T n) (e : ∀ k, T' k = T k) : HasX w h a T' n := by
  have q : T' = T := funext e
  rw [q]; exact R
theorem good_elems {l : List (Int × Value)} (g : ∀ e ∈ l, GoodX w e) : ElemsOf (PySem.strKind P w) l := fun e at_e =>
  match e, g e at_e with
  | (_, _), ⟨k, tk, rfl, hash⟩ => ⟨⟨k, Froz.is_str k tk, hash⟩, by rfl⟩
theorem good_is {e : Int × Value} (g : GoodX w e) (k : Str) : (PySem.strKind P w).is k e.2 = true ↔ txOf e = k :=
  match e, g with
  | (_, _), ⟨j, tk, rfl, _⟩ => ⟨fun q => (PySem.strKind P w).inj (.str j tk) j k (Froz.is_str j tk) q, fun q => q ▸ Froz.is_str j tk⟩
/-- the scan of the entries finds a text just where T says so -/
theorem Fine.look {es : Array (Int × Value)} {t : SetTable} (F : Fine w T es t) (k : Str) : (es.toList.findIdx? fun e => (PySem.strKind P w).is k e.2).isSome = T k := by
  rw [List.findIdx?_isSome, Bool.eq_iff_iff, List.any_eq_true, F.mem k, List.mem_map]
  exact ⟨fun ⟨e, at_e, q⟩ => ⟨e, at_e, (good_is (F.good e at_e) k).mp q⟩, fun ⟨e, at_e, q⟩ => ⟨e, at_e, (good_is (F.good e at_e) k).mpr q⟩⟩
theorem Fine.moved {es fs : Array (Int × Value)} {t u : SetTable} (F : Fine w T es t) (p : fs.toList.Perm es.toList) (fit : u.fits fs.size = true) (ris : Ris u.place.toList) (led : u.led = t.led) : Fine w T fs u ∧ fs.size = es.size := by
  have size := p.length_eq
  rw [Array.length_toList, Array.length_toList] at size
  exact ⟨⟨fun e at_e => F.good e (p.mem_iff.mp at_e), (p.map txOf).nodup_iff.mpr F.once, fun k => (F.mem k).trans (p.map txOf).mem_iff.symm, size ▸ F.few, fit, ris, led ▸ F.led⟩, size⟩
theorem Fine.more {es fs : Array (Int × Value)} {t u : SetTable} {k : Str} {tk : Tok} (F : Fine w T es t) (out : T k = false) (room : es.size + 1 < scanBound)
    (p : fs.toList.Perm (es.push ((PySem.strKind P w).hash k, .str k tk)).toList) (fit : u.fits fs.size = true) (ris : Ris u.place.toList) (led : u.led = t.led) :
    Fine w (fun j => T j || decide (j = k)) fs u ∧ fs.size = es.size + 1 := by
  have pe : fs.toList.Perm (((PySem.strKind P w).hash k, Value.str k tk) :: es.toList) := p.trans (by rw [Array.toList_push]; exact List.perm_append_singleton _ _)
  have pt : (fs.toList.map txOf).Perm (k :: es.toList.map txOf) := pe.map txOf
  have size := pe.length_eq
  rw [List.length_cons, Array.length_toList, Array.length_toList] at size
  refine ⟨⟨fun e at_e => ?_, pt.nodup_iff.mpr (List.nodup_cons.mpr ⟨fun z => ?_, F.once⟩), fun j => ?_, size ▸ room, fit, ris, led ▸ F.led⟩, size⟩
  · cases pe.mem_iff.mp at_e with
    | head => exact ⟨k, tk, rfl, rfl⟩
    | tail _ old => exact F.good e old
  · exact Bool.false_ne_true (out.symm.trans ((F.mem k).mpr z))
  · simp only [pt.mem_iff, List.mem_cons, Bool.or_eq_true, decide_eq_true_eq, F.mem j]
    exact Or.comm
theorem Fine.plainOff {es : Array (Int × Value)} {t : SetTable} (F : Fine w T es t) : Fine w T es { t with plain := false } := { F with fit := SetTable.fits_plain_off F.fit }
end
section
variable {P : Program} {w : World} {A : Around} {E : Value → Shared → Prop} {s : Shared} {a : Addr} {T : Str → Bool} {n : Nat}
/-- the entries are laid down, and laid anew where the table is too full -/
theorem lay {g : Bool → Sem Unit} (calm : ∀ (b : Bool) (r : Shared) (K : Unit → Shared → Prop), K () r → wpAny (model P w) A (g b) K E r) {o : Obj} {es fs : Array (Int × Value)} {ep : Nat} {t u : SetTable}
    (ob : s.heap.get? a = some o) (ex : o.ExactSet) (dat : o.data = .set es ep t) (F : Fine w T fs u) {again : Bool} {R : Option Bool → Shared → Prop}
    (done : ∀ k, Heap.SameBut a s.heap k → HasX w k a T fs.size → R (some true) { s with heap := k }) :
    wpAny (model P w) A (storeSet a fs u >>= fun _ => if (!again && u.tooFull) = true then
        g (relayAll u fs (SetTable.grown fs.size)).2.2 >>= fun _ => storeSet a (relayAll u fs (SetTable.grown fs.size)).1 (relayAll u fs (SetTable.grown fs.size)).2.1 >>= fun _ => pure (some true)
      else pure (some true)) R E s := by
  have same1 := Heap.SameBut.update s.heap a (Obj.putSet fs u)
  have at1 := store_at (es' := fs) (t' := u) ob dat
  refine wpAny_bind (wpAny_storeSet_of ob dat ?_ (fits_of_scanBound F.few))
  by_cases full : (!again && u.tooFull) = true
  · rw [if_pos full]
    obtain ⟨F2, size2⟩ := F.moved (relayAll_perm u fs (SetTable.grown fs.size)) (relayAll_fits u fs _) (relayAll_ris u fs _) (relayAll_led u fs _)
    exact wpAny_bind (calm _ _ _ (wpAny_bind (wpAny_storeSet_of at1 rfl (wpAny_pure (done _ (same1.trans (Heap.SameBut.update _ a _)) ⟨_, _, _, _, store_at at1 rfl, ex, rfl, size2, F2⟩)) (fits_of_scanBound F2.few))))
  · rw [if_neg full]
    exact wpAny_pure (done _ same1 ⟨_, fs, _, u, at1, ex, rfl, rfl, F⟩)
theorem add {k : Str} {tk : Tok} {Q : Bool → Shared → Prop} (R : HasX w s.heap a T n) (room : n + 1 < scanBound)
    (hQ : ∀ h', Heap.SameBut a s.heap h' → HasX w h' a (fun j => T j || decide (j = k)) (if T k = true then n else n + 1) → Q (!T k) { s with heap := h' }) :
    wpAny (model P w) A (setAddHashed a (.str k tk) ((PySem.strKind P w).hash k)) Q E s := by
  obtain ⟨o, es, ep, t, ob, ex, dat, rfl, F⟩ := R
  have scans : (Value.str k tk).scannable = true := rfl
  have els := good_elems (P := P) F.good
  have calm : ∀ (b : Bool) (r : Shared) (K : Unit → Shared → Prop), K () r → wpAny (model P w) A (match b with | true => rule "set.scan.the-table-gave-way" | false => pure ()) K E r
    | true, _, _, q => wpAny_rule q
    | false, _, _, q => wpAny_pure q
  unfold setAddHashed; unfold setAddHashedIn
  refine wpAny_holding (wpAny_bind (wpAny_setState_of ob dat F.fit ?_))
  simp only [byScan_of scans F.few els, ↓reduceIte]
  unfold setAddByScan
  refine wpAny_bind (wpAny_bind (wpAny_rule (wpAny_bind (wpAny_setScan_of (Froz.is_str k tk) ob dat F.fit els ?_))))
  have seen := F.look (P := P) k
  cases found : es.toList.findIdx? (fun e => (PySem.strKind P w).is k e.2) with
  | some j =>
    rw [found] at seen
    have inT : T k = true := seen.symm
    have q := hQ s.heap (Heap.SameBut.refl a s.heap) ⟨o, es, ep, t, ob, ex, dat, (if_pos inT).symm, { F with mem := fun i => (F.mem i).symm.trans ?_ |>.symm }⟩
    · rw [inT] at q
      exact wpAny_pure (wpAny_pure q)
    · simp only [Bool.or_eq_true, decide_eq_true_eq]
      exact ⟨.inl, fun z => z.elim id fun e => e ▸ inT⟩
  | none =>
    rw [found] at seen
    have out : T k = false := seen.symm
    have F1 := F.more (P := P) (k := k) (tk := tk) out room (layNew_perm t es _ _) (layNew_fits t es _ _) (layNew_ris t es _ _ F.ris) (layNew_led t es _ _)
    revert F1
    generalize layNew t es ((PySem.strKind P w).hash k) (.str k tk) = Z
    rcases Z with ⟨fs, u, again, gave⟩
    rintro ⟨F1, size1⟩
    have fin : ∀ g, Heap.SameBut a s.heap g → HasX w g a (fun j => T j || decide (j = k)) fs.size → Q true { s with heap := g } := fun g same r => by
      have q := hQ g same
      simp only [out, Bool.false_eq_true, if_false, Bool.not_false] at q
      exact q (size1 ▸ r)
    dsimp only
    refine wpAny_bind (calm _ _ _ ?_)
    split
    · rw [hashByValue_scannable 8 scans]
      refine wpAny_bind (wpAny_pure (lay (T := fun j => T j || decide (j = k)) ?_ ob ex dat ?_ fun g same r => ?_))
      · exact fun b r K q => by cases b <;> first | exact wpAny_rule q | exact wpAny_pure q
      · first | exact F1 | (split <;> first | exact F1 | exact F1.plainOff)
      · dsimp only
        exact wpAny_pure (fin g same r)
    · refine wpAny_bind (wpAny_pure ?_)
      simp only [↓reduceIte]
      refine lay (T := fun j => T j || decide (j = k)) ?_ ob ex dat F1 fun g same r => ?_
      · exact fun b r K q => by cases b <;> first | exact wpAny_rule q | exact wpAny_pure q
      · dsimp only
        exact wpAny_pure (fin g same r)
end
/-- a set as it is made -/
abbrev newSet (w : World) : Obj := { cls := .type "set", dict := none, data := .set #[] 0 (.fresh 0 0 (!w.params.followText "set-order")) }
theorem fresh {h : Heap} (w : World) : HasX w (h.push (newSet w)) h.objs.size (fun _ => false) 0 := by
  refine ⟨_, #[], 0, _, Heap.get?_push_size _ rfl, ⟨rfl, rfl, rfl⟩, rfl, rfl, ⟨fun e at_e => by simp at at_e, by simp, fun k => by simp, by decide, by rfl, List.Pairwise.nil, ?_⟩⟩
  show (!w.params.followText "set-order") = true ∨ _
  cases w.params.followText "set-order" <;> simp
section
variable {prog : Program} {w : World} {A : Around} {R : Result → Shared → Prop} {I : Addr} {fp wr : List Addr} {n : Nat} {x : Str} {St : Nat → Heap → Prop}
/-- the signs of a text, one after the other, into the set: left of them are still to come -/
theorem loop (W : Walks prog w A.in1 I fp wr n (SignAt x) St) (hn : n = x.cps.size) (S : Addr) (away : S ∉ fp) (room : n + 1 < scanBound) :
    ∀ (left i : Nat) (s : Shared) (T : Str → Bool) (c : Nat), n - i = left → i ≤ n → St i s.heap → HasX w s.heap S T c → c ≤ i →
      (∀ g tk T' c', HasX w g S T' c' → c' ≤ n → (∀ k, T' k = (T k || (x.cps.toList.drop i).any fun z => decide (k = ⟨#[z]⟩))) → (∀ b q, b ∉ S :: wr → s.heap.get? b = some q → g.get? b = some q) →
        R (.ok (.ret .none)) { s with heap := g, toks := tk }) →
      codeAny (model prog w) A (.builtin "set.update.loop" ⟨[.ref S, .ref I], []⟩) R s := by
  have apart : S ∉ wr := fun z => away (W.sub _ z)
  intro left
  induction left with
  | zero =>
    intro i s T c hm hi st isSet hc done
    obtain rfl : i = n := by omega
    refine codeAny_builtin PyProof.Rows.F.entry_set_update_loop (Around.under_plainId PyProof.Rows.F.plain_set_update_loop _ ▸ wpAny_bind (m := pyNext (.ref I)) (W.done s _ _ st fun g tk keep => ?_))
    refine wpAny_pure (done g tk T c (isSet.at fun q at_S => keep S q apart at_S) hc (fun k => ?_) fun b q nb at_b => keep b q (fun z => nb (.tail _ z)) at_b)
    rw [List.drop_of_length_le (by rw [hn]; simp)]
    simp
  | succ left ih =>
    intro i s T c hm hi st isSet hc done
    have more : i < n := by omega
    refine codeAny_builtin PyProof.Rows.F.entry_set_update_loop (Around.under_plainId PyProof.Rows.F.plain_set_update_loop _ ▸ wpAny_bind (m := pyNext (.ref I)) (W.item i s _ _ more st fun v g tk isSign st' keep => ?_))
    obtain ⟨z, t, hz, rfl⟩ := isSign
    refine wpAny_bind (m := holding [Value.str ⟨#[z]⟩ t] (setAdd S (.str ⟨#[z]⟩ t))) (wpAny_holding ?_)
    unfold setAdd
    refine wpAny_holding (wpAny_bind ((PySem.strKind prog w).pyHash (k := ⟨#[z]⟩) (Froz.is_str _ _) ?_))
    refine add (s := { s with heap := g, toks := tk + 1 }) (isSet.at fun q at_S => keep S q apart at_S) (by omega) fun g2 same isSet2 => ?_
    have keep2 : ∀ b q, b ∉ S :: wr → s.heap.get? b = some q → g2.get? b = some q := fun b q nb at_b => (same.2 b fun z => nb (z ▸ List.mem_cons_self)).trans (keep b q (fun z => nb (.tail _ z)) at_b)
    refine wpAny_pure ⟨plainId_quiet PyProof.Rows.F.plain_set_update_loop _, ih (i + 1) { s with heap := g2, toks := tk + 1 } _ _ (by omega) more (W.frame _ g _ st' fun b hb q at_b => ?_) isSet2 (by split <;> omega) fun g3 tk3 T3 c3 r3 l3 m3 k3 => ?_⟩
    · exact (same.2 b fun z : b = S => away (z ▸ hb)).trans at_b
    · refine done g3 tk3 T3 c3 r3 l3 (fun k => ?_) fun b q nb at_b => k3 b q nb (keep2 b q nb at_b)
      rw [m3 k, Fz.drop_at hz, List.any_cons, Bool.or_assoc]
end
section
variable {P : Program} {w : World} {A : Around} {E : Value → Shared → Prop} {s : Shared}
set_option maxHeartbeats 6400000 in
/-- set(text) -/
theorem call_set {x : Str} {t : Tok} {Q : Value → Shared → Prop} (calm : A.handled = none) (room : x.cps.size + 1 < scanBound)
    (h : ∀ (g : Heap) (tk : Nat) T c, HasX w g s.heap.objs.size T c → c ≤ x.cps.size → (∀ k, T k = x.cps.toList.any fun z => decide (k = ⟨#[z]⟩)) → (∀ b q, s.heap.get? b = some q → g.get? b = some q) → Q (.ref s.heap.objs.size) { s with heap := g, toks := tk }) :
    wpAny (model P w) A (call (.type "set") [.str x t]) Q E s := by
  have made := F.called_set.made; have isSub := F.called_set.sub; have noType := F.called_set.notType; have creates := F.called_set.canCreate
  obtain ⟨_, _, _⟩ := F.called_set.mro
  have typeCall := F.typeCall_set_1 (.str x t)
  refine wpAny_call (codeAny_of_tree ?_)
  change wpAny _ _ (callAny (.type "set") _) _ _ s
  refine wpAny_pure (And.intro (Code.quiet_builtin _ (by decide +kernel)) (codeAny_builtin F.entry_type_call ?_))
  rw [Around.under_plain (weight_type_call_type "set" [.str x t] []) rfl]
  repeat any_goals first | assumption | wp_step
  refine codeAny_mono (code_set_led1 (.str x t) (E := E) (Q₁ := fun v r => v = .ref s.heap.objs.size ∧ r = { s with heap := s.heap.push (newSet w) }) ⟨rfl, rfl⟩) fun
    | .error _, _, hr => hr
    | .ok (.ret _), _, ⟨rfl, rfl⟩ => ?_
    | .ok .next, _, hr => hr.elim
    | .ok .brk, _, hr => hr.elim
    | .ok .cont, _, hr => hr.elim
  have isTy : Shared.TypeIs { s with heap := s.heap.push (newSet w) } (.ref s.heap.objs.size) "set" := ⟨_, Heap.get?_push_size _ rfl, rfl⟩
  have found := F.called_set.init.lookup
  have bound := F.called_set.init.bind (.ref s.heap.objs.size)
  repeat any_goals first | assumption | wp_step
  refine codeAny_mono (codeAny_call_builtin (R := wants (fun v r => v = .none ∧ ∃ g tk T c, r = { s with heap := g, toks := tk } ∧ HasX w g s.heap.objs.size T c ∧ c ≤ x.cps.size ∧ (∀ k, T k = x.cps.toList.any fun z => decide (k = ⟨#[z]⟩)) ∧
      ∀ b q, s.heap.get? b = some q → g.get? b = some q) E) F.called_set.init.plain F.entry_set_init (check_set_init_1 isTy ?_)) fun
    | .error _, _, hr => hr
    | .ok (.ret _), _, ⟨rfl, _, _, _, _, rfl, r1, r2, r3, r4⟩ => ?_
    | .ok .next, _, hr => hr.elim
    | .ok .brk, _, hr => hr.elim
    | .ok .cont, _, hr => hr.elim
  · have f1 := F.sub_str_set; have f2 := F.sub_str_frozenset; have f3 := typeIs_str
    have f4 : (Value.type "str" == Value.type "dict") = false := by decide
    unfold Builtin.«set.__init__» noKeywords; unfold Builtin.Frozenset.updateFrom
    generalize asIter : pyIter = PI
    wp_walk
    subst asIter
    have size1 : (s.heap.push (newSet w)).objs.size = s.heap.objs.size + 1 := Heap.size_push ..
    refine wpAny_pyIter_str fun o St W st => wpAny_bind (wpAny_runValue (loop (W _ (by simp [calm])) rfl s.heap.objs.size ?_ room _ 0 _ (fun _ => false) 0 rfl (Nat.zero_le _) st ((fresh w).at fun q at_b => Heap.get?_push_of_some _ at_b) (Nat.le_refl _) fun g tk T c r lc m keep => ?_))
    · rw [List.mem_singleton, size1]
      exact Nat.ne_of_lt (Nat.lt_succ_self _)
    · show wpAny _ _ _ _ _ _
      refine wpAny_pure (wpAny_pure ⟨rfl, g, tk, T, c, rfl, r, lc, fun z => by rw [m z, List.drop_zero, Bool.false_or], fun b q at_b => keep b q ?_ (Heap.get?_push_of_some _ (Heap.get?_push_of_some _ at_b))⟩)
      have below := Heap.lt_size at_b
      simp only [List.mem_cons, List.mem_singleton, List.not_mem_nil, or_false, not_or, size1]
      exact ⟨Nat.ne_of_lt below, Nat.ne_of_lt (Nat.lt_succ_of_lt below)⟩
  · repeat any_goals first | assumption | wp_step
    exact h _ _ _ _ r1 r2 r3 r4
end
end TX

set_option Elab.async false
set_option linter.all false
set_option maxRecDepth 100000
set_option maxHeartbeats 4000000
/-! sorted(set(text)): the signs of a text, each once, ascending; list(text). -/
namespace TX
open PySem PySem.Spec PyProof.Rows L2
/-! ### ascending lists of numbers -/
def ins (c : Nat) : List Nat → List Nat
  | [] => [c]
  | d :: r => if c < d then c :: d :: r else if c = d then d :: r else d :: ins c r
/-- the numbers of a list, each once, ascending -/
def sigs : List Nat → List Nat
  | [] => []
  | c :: r => ins c (sigs r)
theorem mem_ins (c k : Nat) : ∀ l : List Nat, k ∈ ins c l ↔ k = c ∨ k ∈ l
  | [] => by simp [ins]
  | d :: r => by
    unfold ins
    split
    · simp
    · split
      · rename_i _ e
        subst e
        simp
      · simp only [List.mem_cons, mem_ins c k r]
        exact ⟨fun h => h.elim (fun e => .inr (.inl e)) (fun h => h.elim .inl fun h => .inr (.inr h)), fun h => h.elim (fun e => .inr (.inl e)) fun h => h.elim .inl fun h => .inr (.inr h)⟩
theorem mem_sigs (k : Nat) : ∀ l : List Nat, k ∈ sigs l ↔ k ∈ l
  | [] => Iff.rfl
  | c :: r => by rw [sigs, mem_ins, mem_sigs k r, List.mem_cons]
theorem asc_ins (c : Nat) : ∀ l : List Nat, l.Pairwise (· < ·) → (ins c l).Pairwise (· < ·)
  | [], _ => List.pairwise_singleton ..
  | d :: r, h => by
    have ⟨h1, h2⟩ := List.pairwise_cons.mp h
    unfold ins
    split
    · rename_i q
      exact List.pairwise_cons.mpr ⟨fun y hy => by
        rcases List.mem_cons.mp hy with z | z
        · omega
        · have := h1 y z
          omega, h⟩
    · split
      · exact h
      · refine List.pairwise_cons.mpr ⟨fun y hy => ?_, asc_ins c r h2⟩
        rcases (mem_ins c y r).mp hy with z | z
        · omega
        · exact h1 y z
theorem asc_sigs : ∀ l : List Nat, (sigs l).Pairwise (· < ·)
  | [] => List.Pairwise.nil
  | c :: r => asc_ins c _ (asc_sigs r)
theorem asc_eq : ∀ l m : List Nat, l.Pairwise (· < ·) → m.Pairwise (· < ·) → (∀ k, k ∈ l ↔ k ∈ m) → l = m
  | [], [], _, _, _ => rfl
  | [], d :: m, _, _, h => absurd ((h d).mpr List.mem_cons_self) (by simp)
  | c :: l, [], _, _, h => absurd ((h c).mp List.mem_cons_self) (by simp)
  | c :: l, d :: m, hl, hm, h => by
    obtain ⟨l1, l2⟩ := List.pairwise_cons.mp hl
    obtain ⟨m1, m2⟩ := List.pairwise_cons.mp hm
    have e : c = d := by
      rcases List.mem_cons.mp ((h c).mp List.mem_cons_self) with z | z
      · exact z
      · rcases List.mem_cons.mp ((h d).mpr List.mem_cons_self) with y | y
        · exact y.symm
        · have := l1 d y
          have := m1 c z
          omega
    subst e
    rw [asc_eq l m l2 m2 fun k => ?_]
    constructor
    · intro hk
      rcases List.mem_cons.mp ((h k).mp (List.mem_cons_of_mem _ hk)) with z | z
      · have := l1 k hk
        omega
      · exact z
    · intro hk
      rcases List.mem_cons.mp ((h k).mpr (List.mem_cons_of_mem _ hk)) with z | z
      · have := m1 k hk
        omega
      · exact z
/-- a text of one sign -/
abbrev sg (c : Nat) : Str := ⟨#[c]⟩
def hd1 (x : Str) : Nat := x.cps.toList.headD 0
theorem sg_inj {a b : Nat} (h : sg a = sg b) : a = b := congrArg hd1 h
theorem lt_sg (a b : Nat) : ltCps (sg a).cps.toList (sg b).cps.toList = decide (a < b) := by
  rw [ltCps_eq]
  show decide ([a] < [b]) = decide (a < b)
  by_cases h : a < b
  · rw [decide_eq_true h, decide_eq_true]
    exact List.Lex.rel h
  · rw [decide_eq_false h, decide_eq_false]
    intro q
    cases q with
    | rel r => exact h r
    | cons r => cases r
theorem rising_le : ∀ (l : List Nat) (p : Nat), risingS (sg p) (l.map sg) = true → (p :: l).Pairwise (· ≤ ·)
  | [], p, _ => List.pairwise_singleton ..
  | c :: l, p, h => by
    have h' : (!ltCps (sg c).cps.toList (sg p).cps.toList && risingS (sg c) (l.map sg)) = true := h
    rw [Bool.and_eq_true, lt_sg, Bool.not_eq_true', decide_eq_false_iff_not] at h'
    have ih := rising_le l c h'.2
    obtain ⟨i1, _⟩ := List.pairwise_cons.mp ih
    refine List.pairwise_cons.mpr ⟨fun y hy => ?_, ih⟩
    rcases List.mem_cons.mp hy with z | z
    · omega
    · have := i1 y z
      omega
theorem sorted_le (l : List Nat) (h : sortedS (l.map sg) = true) : l.Pairwise (· ≤ ·) := by
  cases l with
  | nil => exact List.Pairwise.nil
  | cons p r => exact rising_le r p h
theorem lt_of_le : ∀ l : List Nat, l.Pairwise (· ≤ ·) → l.Nodup → l.Pairwise (· < ·)
  | [], _, _ => .nil
  | x :: l, .cons up rest, .cons new once => .cons (fun y at_y => Nat.lt_of_le_of_ne (up y at_y) (new y at_y)) (lt_of_le l rest once)
theorem all_sg : ∀ l : List Str, (∀ x ∈ l, ∃ c, x = sg c) → l = (l.map hd1).map sg
  | [], _ => rfl
  | x :: l, h => by
    obtain ⟨c, rfl⟩ := h x List.mem_cons_self
    rw [List.map_cons, List.map_cons, ← all_sg l fun y hy => h y (List.mem_cons_of_mem _ hy)] <;> rfl
theorem sorted_is {ss : List Str} {l : List Nat} (hs : sortedS ss = true) (hn : ss.Nodup) (hm : ∀ k, k ∈ ss ↔ ∃ z ∈ l, k = sg z) : ss = (sigs l).map sg := by
  have e := all_sg ss fun x hx => let ⟨z, _, q⟩ := (hm x).mp hx; ⟨z, q⟩
  have hn2 : (ss.map hd1).Nodup := by
    rw [e] at hn
    exact (List.pairwise_map.mp hn).imp fun h q => h (by rw [q])
  have hs2 : sortedS ((ss.map hd1).map sg) = true := by rw [← e]; exact hs
  have q : ss.map hd1 = sigs l := by
    refine asc_eq _ _ (lt_of_le _ (sorted_le _ hs2) hn2) (asc_sigs l) fun k => ?_
    rw [mem_sigs, List.mem_map]
    constructor
    · rintro ⟨x, hx, rfl⟩
      obtain ⟨z, hz, rfl⟩ := (hm x).mp hx
      exact hz
    · intro hk
      exact ⟨sg k, (hm _).mpr ⟨k, hk, rfl⟩, rfl⟩
  rw [e, q]
theorem len_sigs (l : List Nat) : (sigs l).length ≤ l.length := by
  induction l with
  | nil => exact Nat.le_refl _
  | cons c r ih =>
    have h : ∀ m : List Nat, (ins c m).length ≤ m.length + 1 := by
      intro m
      induction m with
      | nil => exact Nat.le_refl _
      | cons d m ih2 =>
        unfold ins
        split
        · simp
        · split
          · simp
          · simp only [List.length_cons]
            omega
    show (ins c (sigs r)).length ≤ r.length + 1
    have := h (sigs r)
    omega
/-! ### sorted(set) -/
section
variable {P : Program} {w : World} {A : Around} {E : Value → Shared → Prop} {s : Shared} {a : Addr}
/-- sorted(the set of the signs of x): its signs, rising -/
theorem sorted_set {x : Str} {T : Str → Bool} {n : Nat} {Q : Value → Shared → Prop} (R : HasX w s.heap a T n) (hT : ∀ k, T k = x.cps.toList.any fun z => decide (k = ⟨#[z]⟩)) (calm : A.handled = none) (h64 : n < 64)
    (hQ : ∀ r p (out : Array Value) (c : Nat), (∀ b q, s.heap.get? b = some q → r.heap.get? b = some q) → r.gens = s.gens → r.os = s.os → s.heap.objs.size ≤ p →
      r.heap.get? p = some (seqObj "list" out c) → StrsAre out.toList ((sigs x.cps.toList).map sg) → Q (.ref p) r) : wpAny (model P w) A (call (.builtin "sorted") [.ref a]) Q E s := by
  obtain ⟨o, es, ep, t, ob, ex, dat, sz, F⟩ := R
  refine Calls.call_function_entry kind_sorted plain_sorted entry_sorted (args_sorted1 _) (wpAny_bind (m := checkCount "sorted" 1 1 _) (wpAny_pure (wpAny_bind ?_)))
  refine collect_set (A := A.in1) calm ⟨o, ob, ex.1, dat⟩ F.fit F.few F.ris F.led.symm fun r vs keep grows gens os perm => ?_
  have count : vs.length = n := by rw [← sz, perm.length_eq, List.length_map, Array.length_toList]
  have texts : StrsAre vs (vs.map strOf) := strsAre_map vs fun v at_v =>
    let ⟨e, at_e, q⟩ := List.mem_map.mp (perm.mem_iff.mp at_v)
    let ⟨k, tk, isStr, _⟩ := F.good e at_e
    ⟨k, tk, q ▸ isStr⟩
  have perm2 : (vs.map strOf).Perm (es.toList.map txOf) := by have := perm.map strOf; rw [List.map_map] at this; exact this
  refine wpAny_bind (wpAny_newList (wpAny_bind ?_) (by have := count; rw [sizeLine_eq]; omega))
  have listAt : (r.heap.push (seqObj "list" vs.toArray 0)).get? r.heap.objs.size = some (seqObj "list" vs.toArray 0) := Heap.get?_push_size _ rfl
  refine wpAny_holding (wpAny_call_entry slot_list_sort ⟨_, listAt, rfl⟩ entry_list_sort (list_sort_treeK (κ := PyProof.Rows.strKind) strKind_oneLt listAt texts.keysOf (fun v₁ v₂ rest e => keyKind_strs (e ▸ texts)) (by omega) fun st done isSorted => ⟨_, rfl, wpAny_pure ⟨_, rfl, ?_⟩⟩) (args_list_sort _))
  obtain ⟨ss, are, perm3, up⟩ := sorted_out_str texts done isSorted
  obtain ⟨c, outAt⟩ := sortedHeap_at (vs := vs) (out := (arrOf st).map (·.2)) listAt
  have all : ss.Perm (es.toList.map txOf) := perm3.trans perm2
  have eq : ss = (sigs x.cps.toList).map sg := sorted_is up (all.nodup_iff.mpr F.once) fun k => by
    rw [all.mem_iff, ← F.mem k, hT k, List.any_eq_true]
    exact ⟨fun ⟨z, at_z, e⟩ => ⟨z, at_z, of_decide_eq_true e⟩, fun ⟨z, at_z, e⟩ => ⟨z, at_z, decide_eq_true e⟩⟩
  refine hQ _ r.heap.objs.size _ c (fun b q at_b => ?_) gens os grows outAt (eq ▸ are)
  have below := Heap.lt_size (keep b q at_b)
  exact (sortedHeap_old (Nat.ne_of_lt below) (by rw [size_push']; exact Nat.lt_succ_of_lt below)).trans (Heap.get?_push_of_some _ (keep b q at_b))
end
/-! ### the rules -/
/-- the set of the signs of x at a -/
def SetO (w : World) (a : Addr) (x : Str) : HO := .ext fun h => ∃ T n, HasX w h a T n ∧ n ≤ x.cps.size ∧ ∀ k, T k = x.cps.toList.any fun z => decide (k = ⟨#[z]⟩)
theorem setO_new {P : Program} {w : World} {H : Hp} {h : Heap} {a : Addr} {x : Str} {T : Str → Bool} {n : Nat} (R : HasX w h a T n) (hn : n ≤ x.cps.size) (hT : ∀ k, T k = x.cps.toList.any fun z => decide (k = ⟨#[z]⟩)) : ObjOk P w H h a (SetO w a x) := by
  refine ⟨⟨T, n, R, hn, hT⟩, ?_, fun h1 h2 p k => ?_⟩
  · exact let ⟨o, _, _, _, r⟩ := R; ⟨o, r.ob⟩
  · obtain ⟨T', n', R', q⟩ := p
    exact ⟨T', n', R'.at k, q⟩
theorem vals_strs : ∀ {vs : List Value} {ss : List Str}, StrsAre vs ss → Vals (ss.map V.str) vs
  | _, _, .nil => .nil
  | _, _, .cons x t r => .cons ⟨t, rfl⟩ (vals_strs r)
section
variable {X : Cx}
def rSetX (w : World) : List V → Hp → VK → Prop := fun xs H Q => ∃ x : Str, xs = [V.str x] ∧ x.cps.size < 64 ∧ ∀ a o, H a = none → o = SetO w a x → Q (.ref a) (upd H a o)
theorem call_setX (hc : X.calm = true) : CallR X (.type "set") (rSetX X.w) := by
  rintro pins s σ H _ us Q I r ⟨x, rfl, hx, q⟩
  rcases vals1 r with ⟨_, rfl, t, rfl⟩
  refine call_set (P := X.prog) (w := X.w) (I.ok.hd hc) (by unfold scanBound; omega) fun h' tk T c r1 r2 r3 k => ?_
  exact ⟨.ref s.heap.objs.size, upd H s.heap.objs.size (SetO X.w s.heap.objs.size x), I.laid (t' := tk) k (Nat.le_refl _) (setO_new r1 r2 r3), rfl, q _ _ (I.hok.fresh (Nat.le_refl _)) rfl⟩
def rSortX (w : World) : List V → Hp → VK → Prop := fun xs H Q => ∃ (a : Addr) (x : Str) (o : HO), xs = [V.ref a] ∧ H a = some o ∧ o = SetO w a x ∧ x.cps.size < 64 ∧ ∀ p, H p = none → Q (.ref p) (upd H p (.lst ((sigs x.cps.toList).map fun c => V.str (sg c))))
theorem cr_sortX (hc : X.calm = true) : CallR X (.builtin "sorted") (rSortX X.w) := by
  rintro pins s σ H _ us Q I r ⟨a, x, _, rfl, ha, rfl, hx, q⟩
  obtain ⟨T, n, R, hn, hT⟩ := (I.hok a _ ha).1
  rw [Vals.ref1 r]
  refine sorted_set (x := x) R hT (I.ok.hd hc) (by omega) fun s' p out c k g o hp hg hS => ?_
  have hlen : ((sigs x.cps.toList).map fun c => V.str (sg c)).length ≤ sizeLine := by
    have h1 : (sigs x.cps.toList).length ≤ x.cps.toList.length := len_sigs _
    have h2 : x.cps.toList.length = x.cps.size := Array.length_toList
    have h3 := sizeLine_eq
    rw [List.length_map]
    omega
  have free : H p = none := I.hok.fresh hp
  have hv : Vals ((sigs x.cps.toList).map fun c => V.str (sg c)) out.toList := by
    have := vals_strs hS
    rw [List.map_map] at this
    exact this
  have J : Inv X pins σ (upd H p (.lst ((sigs x.cps.toList).map fun c => V.str (sg c)))) { s with heap := s'.heap, gens := s'.gens, drawn := s'.drawn, toks := s'.toks } :=
    I.call (ch := []) (Un.laid k hp free) (I.hok.laid k hp ⟨hlen, _, c, hv, hg⟩) (g ▸ I.bare) nofun
  have same : { s with heap := s'.heap, gens := s'.gens, drawn := s'.drawn, toks := s'.toks } = s' := by
    rcases s with ⟨⟩; rcases s' with ⟨⟩; cases o; rfl
  exact same ▸ ⟨.ref p, _, J, rfl, q p free⟩
/-- list(text) -/
theorem vals_signs {x : Str} : ∀ (l : List Value) (cs : List Nat), l.length = cs.length → (∀ (i : Nat) (v : Value), l[i]? = some v → ∃ (c : Nat) (u : Tok), cs[i]? = some c ∧ v = Value.str ⟨#[c]⟩ u) → Vals (cs.map fun c => V.str (sg c)) l
  | [], [], _, _ => .nil
  | v :: l, c :: cs, h, q => by
    obtain ⟨c', u, e1, e2⟩ := q 0 v rfl
    have e3 : c = c' := Option.some.inj e1
    subst e3
    exact .cons ⟨u, e2⟩ (vals_signs (x := x) l cs (Nat.succ.inj h) fun i v' e => q (i + 1) v' e)
  | [], _ :: _, h, _ => nomatch h
  | _ :: _, [], h, _ => nomatch h
theorem call_listX (hc : X.calm = true) : CallR X (.type "list") (fun xs H Q => ∃ x : Str, xs = [V.str x] ∧ x.cps.size ≤ sizeLine ∧ ∀ l, H l = none → Q (.ref l) (upd H l (.lst (x.cps.toList.map fun c => V.str (sg c))))) := by
  rintro pins s σ H _ us Q I r ⟨x, rfl, hx, q⟩
  rcases vals1 r with ⟨_, rfl, t, rfl⟩
  refine call_list_str (I.ok.hd hc) x t (fun h' tk acc c k hS hacc => ?_) hx
  have hlen : (x.cps.toList.map fun c => V.str (sg c)).length ≤ sizeLine := by
    have h2 : x.cps.toList.length = x.cps.size := Array.length_toList
    rw [List.length_map, h2]
    exact hx
  have hv : Vals (x.cps.toList.map fun c => V.str (sg c)) acc.toList := by
    refine vals_signs (x := x) _ _ (by rw [Array.length_toList, hacc.1, Array.length_toList]) fun i v e => ?_
    rw [Array.getElem?_toList] at e
    obtain ⟨c, u, h1, h2⟩ := hacc.2 i v e
    exact ⟨c, u, by rw [Array.getElem?_toList]; exact h1, h2⟩
  exact ⟨.ref s.heap.objs.size, _, I.laid (t' := tk) k (Nat.le_refl _) (show ObjOk X.prog X.w _ h' _ (.lst _) from ⟨hlen, acc.toList, c, hv, hS⟩), rfl, q _ (I.hok.fresh (Nat.le_refl _))⟩
end
end TX

set_option Elab.async false
set_option linter.all false
set_option maxRecDepth 100000
set_option maxHeartbeats 4000000
/-! Words as lists of numbers: all words, pieces, counts. -/
namespace K1
abbrev W := List Nat
theorem fmap_congr {α β : Type} {f g : α → Option β} : ∀ {l : List α}, (∀ x ∈ l, f x = g x) → l.filterMap f = l.filterMap g
  | [], _ => rfl
  | x :: l, h => by rw [List.filterMap_cons, List.filterMap_cons, h x List.mem_cons_self, fmap_congr fun y hy => h y (List.mem_cons_of_mem _ hy)]
/-- the words of just k letters, and of at most k -/
def lay (L : W) : Nat → List W
  | 0 => [[]]
  | k + 1 => (lay L k).flatMap fun u => L.map fun c => u ++ [c]
def allW (L : W) : Nat → List W
  | 0 => [[]]
  | k + 1 => allW L k ++ lay L (k + 1)
/-- what is left behind the first c -/
def after (c : Nat) : W → Option W
  | [] => none
  | d :: r => if d = c then some r else after c r
/-- what is left behind the first place of a piece -/
def rest : W → W → Option W
  | [], w => some w
  | a :: u, w => (after a w).bind (rest u)
def isP (u w : W) : Bool := (rest u w).isSome
theorem rest_snoc (c : Nat) : ∀ (u w : W), rest (u ++ [c]) w = (rest u w).bind (after c)
  | [], w => by
    show (after c w).bind (rest []) = after c w
    cases after c w <;> rfl
  | a :: u, w => by
    show (after a w).bind (rest (u ++ [c])) = ((after a w).bind (rest u)).bind (after c)
    cases after a w with
    | none => rfl
    | some r => exact rest_snoc c u r
theorem rest_cons (a c : Nat) (u w : W) : rest (a :: u) (c :: w) = if c = a then rest u w else rest (a :: u) w := by
  show (if c = a then some w else after a w).bind (rest u) = _
  split <;> rfl
theorem isP_iff : ∀ (w u : W), isP u w = true ↔ List.Sublist u w
  | w, [] => ⟨fun _ => List.nil_sublist _, fun _ => rfl⟩
  | [], a :: u => ⟨fun h => (nomatch h), fun h => (nomatch h)⟩
  | c :: w, a :: u => by
    show (rest (a :: u) (c :: w)).isSome = true ↔ _
    rw [rest_cons]
    by_cases h : c = a
    · rw [if_pos h]
      subst h
      exact (isP_iff w u).trans List.cons_sublist_cons.symm
    · rw [if_neg h]
      refine (isP_iff w (a :: u)).trans ⟨fun q => q.cons c, fun q => ?_⟩
      cases q with
      | cons _ q => exact q
      | cons_cons _ q => exact absurd rfl h
theorem isP_false {u w : W} : isP u w = false ↔ ¬ List.Sublist u w := by
  rw [← isP_iff]
  cases isP u w <;> simp
/-- what is left of a word, by the law's walk -/
def lp : W → W → W
  | u, [] => u
  | [], _ :: _ => []
  | a :: u, c :: w => if a = c then lp u w else lp (a :: u) w
theorem lp_nil (w : W) : lp [] w = [] := by cases w <;> rfl
theorem lp_iff : ∀ (w u : W), lp u w = [] ↔ isP u w = true
  | [], [] => ⟨fun _ => rfl, fun _ => rfl⟩
  | [], a :: u => ⟨fun h => (nomatch h), fun h => (nomatch h)⟩
  | c :: w, [] => ⟨fun _ => rfl, fun _ => rfl⟩
  | c :: w, a :: u => by
    show (if a = c then lp u w else lp (a :: u) w) = [] ↔ (rest (a :: u) (c :: w)).isSome = true
    rw [rest_cons]
    by_cases h : a = c
    · rw [if_pos h, if_pos h.symm]
      exact lp_iff w u
    · rw [if_neg h, if_neg (fun z => h z.symm)]
      exact lp_iff w (a :: u)
/-- the pieces of just k letters, each with what is left behind it -/
def pl (S w : W) : Nat → List (W × W)
  | 0 => [([], w)]
  | k + 1 => (pl S w k).flatMap fun p => S.filterMap fun c => (after c p.2).map fun r => (p.1 ++ [c], r)
theorem pl_is (S w : W) : ∀ k, pl S w k = (lay S k).filterMap fun u => (rest u w).map fun r => (u, r)
  | 0 => rfl
  | k + 1 => by
    show (pl S w k).flatMap _ = ((lay S k).flatMap _).filterMap _
    rw [pl_is S w k]
    generalize lay S k = l
    induction l with
    | nil => rfl
    | cons u l ih =>
      rw [List.filterMap_cons, List.flatMap_cons, List.filterMap_append, ← ih, List.filterMap_map]
      cases h : rest u w with
      | none =>
        show _ = _ ++ _
        have e : List.filterMap ((fun u => Option.map (fun r => (u, r)) (rest u w)) ∘ fun c => u ++ [c]) S = [] := by
          rw [List.filterMap_eq_nil_iff]
          intro c _
          show Option.map _ (rest (u ++ [c]) w) = none
          rw [rest_snoc, h] <;> rfl
        rw [e, List.nil_append] <;> rfl
      | some r =>
        show List.flatMap _ ((u, r) :: _) = _
        rw [List.flatMap_cons]
        congr 1
        apply fmap_congr
        intro c _
        show _ = Option.map _ (rest (u ++ [c]) w)
        rw [rest_snoc, h] <;> rfl
theorem pl_fst (S w : W) (k : Nat) : (pl S w k).map (·.1) = (lay S k).filter fun u => isP u w := by
  rw [pl_is, List.map_filterMap]
  generalize lay S k = l
  induction l with
  | nil => rfl
  | cons u l ih =>
    rw [List.filterMap_cons, List.filter_cons]
    cases h : rest u w with
    | none =>
      have e : isP u w = false := by unfold isP; rw [h] <;> rfl
      rw [e]
      exact ih
    | some r =>
      have e : isP u w = true := by unfold isP; rw [h] <;> rfl
      rw [e]
      show u :: _ = u :: _
      rw [ih]
/-- all pieces of at most k letters -/
def allP (S w : W) : Nat → List W
  | 0 => [[]]
  | k + 1 => allP S w k ++ (pl S w (k + 1)).map (·.1)
theorem allP_is (S w : W) : ∀ k, allP S w k = (allW S k).filter fun u => isP u w
  | 0 => rfl
  | k + 1 => by
    show allP S w k ++ _ = ((allW S k) ++ lay S (k + 1)).filter _
    rw [List.filter_append, allP_is S w k, pl_fst]
/-! ### who is among them -/
theorem mem_lay (L : W) : ∀ (k : Nat) (u : W), u ∈ lay L k ↔ u.length = k ∧ ∀ c ∈ u, c ∈ L
  | 0, u => by
    show u ∈ [[]] ↔ _
    rw [List.mem_singleton]
    exact ⟨fun h => by subst h; exact ⟨rfl, fun c hc => nomatch hc⟩, fun h => List.length_eq_zero_iff.mp h.1⟩
  | k + 1, u => by
    show u ∈ (lay L k).flatMap _ ↔ _
    rw [List.mem_flatMap]
    constructor
    · rintro ⟨v, hv, hu⟩
      obtain ⟨c, hc, rfl⟩ := List.mem_map.mp hu
      obtain ⟨h1, h2⟩ := (mem_lay L k v).mp hv
      refine ⟨by rw [List.length_append, h1] <;> rfl, fun d hd => ?_⟩
      rcases List.mem_append.mp hd with z | z
      · exact h2 d z
      · rw [List.mem_singleton.mp z]
        exact hc
    · rintro ⟨h1, h2⟩
      have hne : u ≠ [] := fun e => by subst e; cases h1
      refine ⟨u.dropLast, (mem_lay L k _).mpr ⟨by rw [List.length_dropLast]; omega, fun c hc => h2 c (List.dropLast_subset u hc)⟩, List.mem_map.mpr ⟨u.getLast hne, h2 _ (List.getLast_mem hne), List.dropLast_concat_getLast hne⟩⟩
theorem mem_allW (L : W) : ∀ (k : Nat) (u : W), u ∈ allW L k ↔ u.length ≤ k ∧ ∀ c ∈ u, c ∈ L
  | 0, u => by
    show u ∈ [[]] ↔ _
    rw [List.mem_singleton]
    exact ⟨fun h => by subst h; exact ⟨Nat.le_refl _, fun c hc => nomatch hc⟩, fun h => List.length_eq_zero_iff.mp (by omega)⟩
  | k + 1, u => by
    show u ∈ allW L k ++ lay L (k + 1) ↔ _
    rw [List.mem_append, mem_allW L k u, mem_lay]
    constructor
    · rintro (⟨h1, h2⟩ | ⟨h1, h2⟩)
      · exact ⟨by omega, h2⟩
      · exact ⟨by omega, h2⟩
    · rintro ⟨h1, h2⟩
      by_cases h : u.length ≤ k
      · exact .inl ⟨h, h2⟩
      · exact .inr ⟨by omega, h2⟩
/-- the pieces of a word, as it is told -/
def told (w : W) (m : Nat) : List W := (allW (TX.sigs w) m).filter fun u => isP u w
theorem mem_told (w u : W) (m : Nat) : u ∈ told w m ↔ u.length ≤ m ∧ List.Sublist u w := by
  unfold told
  rw [List.mem_filter, mem_allW, isP_iff]
  constructor
  · rintro ⟨⟨h1, _⟩, h2⟩
    exact ⟨h1, h2⟩
  · rintro ⟨h1, h2⟩
    exact ⟨⟨h1, fun c hc => (TX.mem_sigs c w).mpr (h2.subset hc)⟩, h2⟩
theorem told_trans {w u v : W} {m : Nat} (h : u ∈ told w m) (g : v ∈ told u m) : v ∈ told w m := by
  obtain ⟨_, h2⟩ := (mem_told w u m).mp h
  obtain ⟨g1, g2⟩ := (mem_told u v m).mp g
  exact (mem_told w v m).mpr ⟨g1, g2.trans h2⟩
theorem count_le {w o : W} {m : Nat} (h : told o m = told w m) (c : Nat) (hm : w.count c < m) : o.count c ≤ w.count c := by
  apply Nat.le_of_not_lt
  intro hlt
  have h1 : List.replicate (w.count c + 1) c ∈ told o m := (mem_told o _ m).mpr ⟨by rw [List.length_replicate]; omega, List.replicate_sublist_iff.mpr hlt⟩
  rw [h] at h1
  have h2 := List.replicate_sublist_iff.mp ((mem_told w _ m).mp h1).2
  omega
theorem count_same {w o : W} {m : Nat} (h : told o m = told w m) (c : Nat) (hne : w.count c ≠ o.count c) : m ≤ min (w.count c) (o.count c) := by
  apply Nat.le_of_not_lt
  intro hlt
  by_cases h1 : w.count c < m
  · have a := count_le h c h1
    have b := count_le h.symm c (by omega)
    omega
  · have a := count_le h.symm c (by omega)
    omega
/-! ### ends of places -/
theorem after_suffix (c : Nat) : ∀ (w r : W), after c w = some r → ∃ p, w = p ++ c :: r ∧ c ∉ p
  | [], r, h => nomatch h
  | d :: w, r, h => by
    unfold after at h
    by_cases e : d = c
    · rw [if_pos e] at h
      cases h
      exact ⟨[], by rw [e] <;> rfl, by simp⟩
    · rw [if_neg e] at h
      obtain ⟨p, h1, h2⟩ := after_suffix c w r h
      refine ⟨d :: p, by rw [h1] <;> rfl, fun z => ?_⟩
      rcases List.mem_cons.mp z with z | z
      · exact e z.symm
      · exact h2 z
theorem after_none (c : Nat) : ∀ (w : W), after c w = none ↔ c ∉ w
  | [] => ⟨fun _ => by simp, fun _ => rfl⟩
  | d :: w => by
    unfold after
    by_cases e : d = c
    · rw [if_pos e]
      exact ⟨fun h => (nomatch h), fun h => absurd (by rw [e]; exact List.mem_cons_self) h⟩
    · rw [if_neg e, after_none c w]
      exact ⟨fun h z => (List.mem_cons.mp z).elim (fun z => e z.symm) h, fun h z => h (List.mem_cons_of_mem _ z)⟩
/-- the place behind the first c from e on -/
def nx (w : W) (c e : Nat) : Option Nat := (after c (w.drop e)).map fun r => w.length - r.length
theorem nx_some {w : W} {c e e' : Nat} (h : nx w c e = some e') : e < e' ∧ e' ≤ w.length ∧ after c (w.drop e) = some (w.drop e') := by
  unfold nx at h
  cases ha : after c (w.drop e) with
  | none => rw [ha] at h; cases h
  | some r =>
    rw [ha] at h
    have h' : w.length - r.length = e' := Option.some.inj h
    obtain ⟨p, h1, _⟩ := after_suffix c _ _ ha
    have hl := congrArg List.length h1
    rw [List.length_drop, List.length_append, List.length_cons] at hl
    have he : w.drop e' = r := by
      have q : w.drop e' = (w.drop e).drop (e' - e) := by
        rw [List.drop_drop]
        congr 1
        omega
      rw [q, h1]
      have e2 : e' - e = p.length + 1 := by omega
      rw [e2, List.drop_append, List.drop_of_length_le (by omega)]
      have e3 : p.length + 1 - p.length = 1 := by omega
      rw [e3] <;> rfl
    exact ⟨by omega, by omega, by rw [he]⟩
def ple (S w : W) : Nat → List (W × Nat)
  | 0 => [([], 0)]
  | k + 1 => (ple S w k).flatMap fun p => S.filterMap fun c => (nx w c p.2).map fun e => (p.1 ++ [c], e)
theorem ple_pl (S w : W) : ∀ k, pl S w k = (ple S w k).map fun p => (p.1, w.drop p.2)
  | 0 => rfl
  | k + 1 => by
    show (pl S w k).flatMap _ = ((ple S w k).flatMap _).map _
    rw [ple_pl S w k]
    generalize ple S w k = l
    induction l with
    | nil => rfl
    | cons p l ih =>
      rw [List.map_cons, List.flatMap_cons, List.flatMap_cons, List.map_append, ih, List.map_filterMap]
      congr 1
      apply fmap_congr
      intro c _
      show (after c (w.drop p.2)).map _ = ((nx w c p.2).map _).map _
      cases hn : nx w c p.2 with
      | none =>
        have : after c (w.drop p.2) = none := by
          unfold nx at hn
          cases ha : after c (w.drop p.2) with
          | none => rfl
          | some r => rw [ha] at hn; cases hn
        rw [this] <;> rfl
      | some e =>
        rw [(nx_some hn).2.2] <;> rfl
theorem ple_fst (S w : W) (k : Nat) : (ple S w k).map (·.1) = (pl S w k).map (·.1) := by
  rw [ple_pl, List.map_map] <;> rfl
end K1

set_option Elab.async false
set_option linter.all false
set_option maxRecDepth 100000
set_option maxHeartbeats 4000000
/-! Texts of words: find, count, join, product, reversed. -/
namespace K1
open PySem PySem.Spec PyProof.Rows L2
open TX (sg sigs)
/-- the text of a word -/
def tx (w : W) : Str := ⟨w.toArray⟩
theorem tx_of (x : Str) : tx x.cps.toList = x := by
  unfold tx
  rw [Array.toArray_toList]
theorem tx_list (w : W) : (tx w).cps.toList = w := by
  show w.toArray.toList = w
  rw [List.toList_toArray]
theorem tx_inj {u v : W} (h : tx u = tx v) : u = v := by
  have := congrArg (fun x : Str => x.cps.toList) h
  simpa [tx_list] using this
theorem tx_len (w : W) : (tx w).length = w.length := by
  show w.toArray.size = w.length
  rw [List.size_toArray]
theorem tx_app (u v : W) : tx u ++ tx v = tx (u ++ v) := by
  show (⟨u.toArray ++ v.toArray⟩ : Str) = ⟨(u ++ v).toArray⟩
  rw [List.append_toArray]
theorem sg_tx (c : Nat) : sg c = tx [c] := rfl
theorem join_eq0 (ps : List W) : Txt.join (tx []) (ps.map tx) = tx ps.flatten := by
  rw [TL.join_eq]
  have h := TL.tl_join (tx []) (ps.map tx)
  have e : ∀ qs : List (List Nat), TL.joinL [] qs = qs.flatten := by
    intro qs
    induction qs with
    | nil => rfl
    | cons p r ih =>
      cases r with
      | nil => simp [TL.joinL]
      | cons q r => simp [TL.joinL] at ih ⊢; exact ih
  have e1 : TL.tl (tx []) = [] := rfl
  rw [e1, e, List.map_map] at h
  have e2 : (TL.tl ∘ tx) = (id : W → W) := by
    funext u
    exact tx_list u
  rw [e2, List.map_id] at h
  have h2 : (Str.join (tx []) (ps.map tx)).cps.toList = ps.flatten := h
  rw [← tx_of (Str.join (tx []) (ps.map tx)), h2]
theorem count_tx (w : W) (c : Nat) : Txt.count (tx w) (sg c) = (w.count c : Int) := by
  rw [count_is, tx_list]
  show cnt c w = _
  induction w with
  | nil => rfl
  | cons d w ih =>
    rw [cnt_cons, ih, List.count_cons]
    by_cases h : d = c
    · subst h
      simp
      omega
    · simp [h]
theorem getD_tx {w : W} {v c : Nat} (hv : v < w.length) : (tx w).cps.getD v 0 = c ↔ w[v]? = some c := by
  show w.toArray.getD v 0 = c ↔ _
  rw [List.getElem?_eq_getElem hv]
  simp [Array.getD, hv]
/-- the first c from e on -/
theorem find_tx {w : W} {c e : Nat} (he : e ≤ w.length) : Txt.find3 (tx w) (sg c) (e : Int) = match nx w c e with | some e' => (e' : Int) - 1 | none => -1 := by
  have hf : fromIndex (tx w).length (e : Int) = e := by
    unfold fromIndex
    rw [if_neg (by omega)]
    omega
  rcases StrLaws.find3_spec (tx w) c (e : Int) with ⟨h1, h2⟩ | ⟨k, h1, h2, h3, h4, h5⟩
  · rw [hf, tx_len] at h2
    have : nx w c e = none := by
      unfold nx
      have q : after c (w.drop e) = none := (after_none c _).mpr fun hm => by
        have ⟨j, hj⟩ := List.getElem?_of_mem hm
        rw [List.getElem?_drop] at hj
        have hl : e + j < w.length := (List.getElem?_eq_some_iff.mp hj).1
        exact h2 (e + j) (by omega) hl ((getD_tx hl).mpr hj)
      rw [q] <;> rfl
    rw [this]
    exact h1
  · rw [hf] at h2 h5
    rw [tx_len] at h3
    have hk : w[k]? = some c := (getD_tx h3).mp h4
    have hne : after c (w.drop e) ≠ none := fun z => by
      have q := (after_none c _).mp z
      apply q
      have e2 : (w.drop e)[k - e]? = some c := by
        rw [List.getElem?_drop]
        have : e + (k - e) = k := by omega
        rw [this]
        exact hk
      exact List.mem_of_getElem? e2
    cases ha : after c (w.drop e) with
    | none => exact absurd ha hne
    | some r =>
      obtain ⟨p, g1, g2⟩ := after_suffix c _ _ ha
      have hl := congrArg List.length g1
      rw [List.length_drop, List.length_append, List.length_cons] at hl
      -- the place of the first c
      have hpl : k = e + p.length := by
        apply Nat.le_antisymm
        · apply Nat.le_of_not_lt
          intro hlt
          have hq : w[e + p.length]? = some c := by
            have : (w.drop e)[p.length]? = some c := by rw [g1]; simp
            rw [List.getElem?_drop] at this
            exact this
          exact h5 (e + p.length) (by omega) hlt ((getD_tx (List.getElem?_eq_some_iff.mp hq).1).mpr hq)
        · apply Nat.le_of_not_lt
          intro hlt
          have e2 : (w.drop e)[k - e]? = some c := by
            rw [List.getElem?_drop]
            have : e + (k - e) = k := by omega
            rw [this]
            exact hk
          rw [g1, List.getElem?_append_left (by omega)] at e2
          exact g2 (List.mem_of_getElem? e2)
      have hn : nx w c e = some (k + 1) := by
        unfold nx
        rw [ha]
        show some (w.length - r.length) = some (k + 1)
        congr 1
        omega
      rw [hn]
      show _ = ((k + 1 : Nat) : Int) - 1
      rw [h1]
      omega
/-- the letters a to z -/
def Low (w : W) : Prop := ∀ c ∈ w, 97 ≤ c ∧ c ≤ 122
theorem uni : ∀ k : Fin 26, Unicode.isAlpha (97 + k.val) = true ∧ Unicode.isLower (97 + k.val) = true ∧ Unicode.isUpper (97 + k.val) = false ∧ Unicode.isTitle (97 + k.val) = false := by decide +kernel
theorem uni_low {c : Nat} (h : 97 ≤ c ∧ c ≤ 122) : Unicode.isAlpha c = true ∧ Unicode.isLower c = true ∧ Unicode.isUpper c = false ∧ Unicode.isTitle c = false := by
  have := uni ⟨c - 97, by omega⟩
  have e : 97 + (c - 97) = c := by omega
  simp only [e] at this
  exact this
theorem low_facts {w : W} (h : Low w) (hne : w ≠ []) : Txt.isascii (tx w) = true ∧ Txt.isalpha (tx w) = true ∧ Txt.islower (tx w) = true := by
  refine ⟨?_, ?_, ?_⟩
  · show (w.toArray).all _ = true
    rw [List.all_toArray, List.all_eq_true]
    intro c hc
    have := h c hc
    simp only [decide_eq_true_eq]
    omega
  · show ((decide ((tx w).length > 0)) && (w.toArray).all _) = true
    rw [List.all_toArray, tx_len, Bool.and_eq_true]
    refine ⟨decide_eq_true (List.length_pos_iff.mpr hne), ?_⟩
    rw [List.all_eq_true]
    exact fun c hc => (uni_low (h c hc)).1
  · show ((w.toArray).any _ && !(w.toArray).any _) = true
    rw [List.any_toArray, List.any_toArray, Bool.and_eq_true]
    constructor
    · rw [List.any_eq_true]
      obtain ⟨c, r, rfl⟩ : ∃ c r, w = c :: r := by
        cases w with
        | nil => exact absurd rfl hne
        | cons c r => exact ⟨c, r, rfl⟩
      exact ⟨c, List.mem_cons_self, (uni_low (h c List.mem_cons_self)).2.1⟩
    · rw [Bool.not_eq_true', List.any_eq_false]
      intro c hc
      have := uni_low (h c hc)
      rw [this.2.2.1, this.2.2.2]
      exact Bool.false_ne_true
section
variable {X : Cx}
/-- text * int -/
theorem op_mulS : OpR X (binaryOp .Mult) (fun x y H Q => ∃ (z : Str) (n : Int), x = .str z ∧ y = .int n ∧ MulOk z n ∧ Q (.str (Txt.mul z n)) H) := by
  rintro pins s σ H _ _ _ _ Q I rx ry ⟨z, n, rfl, rfl, hk, q⟩
  obtain ⟨t, rfl⟩ := rx
  obtain ⟨t', rfl⟩ := ry
  exact PySem.SB.mul hk fun t2 k => ⟨.str _, H, I.tok _, ⟨t2, rfl⟩, q⟩
def tRevS (te : TE) : TE := fun σ H Q => te σ H fun x H1 => ∃ w : W, x = .str (tx w) ∧ w.length ≤ sizeLine ∧ Q (.str (tx w.reverse)) H1
theorem rev_codes (w : W) : ((Builtin.Str.strSliceIndices none none (-1) (tx w).length).filterMap ((tx w).cps[·]?)).toArray = (w.reverse).toArray := by
  rw [picked_rev, tx_len, filterMap_get, List.map_map]
  · congr 1
    apply List.ext_getElem
    · simp
    · intro i h1 h2
      simp [tx, Array.getD]
      simp at h1
      rw [dif_pos (by omega)]
  · intro i hi
    rcases List.mem_map.mp hi with ⟨k, hk, rfl⟩
    have hk' : k < w.length := List.mem_range.mp hk
    show w.length - 1 - k < w.toArray.size
    rw [List.size_toArray]
    omega
/-- text[::-1] -/
theorem pe_revS {e : Expr} {te : TE} {k : Nat} {p1 p2 p3 pos : Pos} (he : PE X e te) : PE X (.Subscript e (.Slice none none (some (.UnaryOp .USub (.Constant (.int 1) k p1) p2)) p3) pos) (tRevS te) := by
  constructor
  intro pins s σ H Q I h
  refine Subscript_ (thn (he.run pins s σ H _ I h) fun _ s1 ⟨_, H1, I1, isTx, w, isW, hw, q⟩ => ?_)
  subst isW
  obtain ⟨t, rfl⟩ := isTx
  have back : PO X (some (.UnaryOp .USub (.Constant (.int 1) k p1) p2)) (tPart (tUn (rU fun i => .int (-i)) (tC (.int 1)))) :=
    po_some (pe_un un_neg pe_int)
  refine wpAny_Slice (thn (po_none.run pins s1 σ H1 (fun o G => o = none ∧ G = H1) I1 ⟨rfl, rfl⟩) fun low s2 ⟨_, _, I2, isLow, rfl, rfl⟩ => thn (po_none.run pins s2 σ _ (fun o G => o = none ∧ G = H1) I2 ⟨rfl, rfl⟩) fun up s3 ⟨_, _, I3, isUp, rfl, rfl⟩ =>
    thn (back.run pins s3 σ _ (fun o G => o = some (-1) ∧ G = H1) I3 ⟨1, rfl, -1, rfl, rfl, rfl⟩) fun by_ s4 ⟨_, _, I4, isBy, rfl, rfl⟩ => ?_)
  have I5 := I4.kept (h' := s4.heap.push { cls := .type "slice", data := .fields #[low, up, by_] }) (t' := s4.toks) fun b q at_b => Heap.get?_push_of_some _ at_b
  obtain ⟨os, hos, hcs, hds⟩ := Heap.IsSliceOf.new s4.heap low up by_
  obtain ⟨l, rfl, el⟩ := IsPart.raw isLow
  obtain ⟨u, rfl, eu⟩ := IsPart.raw isUp
  obtain ⟨st, rfl, es⟩ := IsPart.raw isBy
  obtain rfl : l = none := by cases l with | none => rfl | some z => cases el
  obtain rfl : u = none := by cases u with | none => rfl | some z => cases eu
  obtain ⟨z, rfl⟩ : ∃ z, st = some (-1, z) := by
    rcases st with _ | ⟨y, z⟩
    · cases es
    · exact ⟨z, by rw [show y = (-1 : Int) from Option.some.inj es]⟩
  refine tail_any (ops := [.str (tx w) t, .ref s4.heap.objs.size]) (typeIs_str _ _ _) (PySem.F.slot_str_getitem.lookup) ?_ (by with_unfolding_all rfl)
  refine wpAny_getItem_str_slice (l := none) (u := none) (st := some (-1, z)) ⟨os, hos, hcs, hds⟩ rfl ?_
  show Made.post (if ((-1 : Int) == 1 && (Builtin.Str.strSliceIndices none none (-1) (tx w).length).length == (tx w).length) = true then Made.val (.str (tx w) t)
    else Made.str ⟨((Builtin.Str.strSliceIndices none none (-1) (tx w).length).filterMap ((tx w).cps[·]?)).toArray⟩) (EP X pins σ Q) _
  rw [if_neg (by simp), rev_codes]
  refine ⟨?_, .str (tx w.reverse), _, I5.tok _, ⟨_, rfl⟩, q⟩
  show (w.reverse.toArray).size ≤ sizeLine
  rw [List.size_toArray, List.length_reverse]
  exact hw
end
end K1

set_option Elab.async false
set_option linter.all false
set_option maxRecDepth 100000
set_option maxHeartbeats 4000000
/-! The dice of a law: where they stand, what a roll leaves of them. -/
namespace WK
open PySem L2 PyProof.Rows
def top (i : Nat) : Stmt := PySem.Challenge.pw_watchkinds_k01_whole_words_and_their_pie.main.body.getD i (.Pass ⟨0, 0, 0, 0⟩)
abbrev sDice : Stmt := top 26
abbrev sRoll : Stmt := top 27
abbrev sOne : Stmt := top 28
/-- a power of any two numbers of which the result is not too long -/
def CPowW (i j : Int) : Prop := 0 ≤ j ∧ (Builtin.Int.intBits i : Int) * j ≤ 2 ^ 27
theorem op_powW {X : Cx} : OpR X (binaryOp .Pow) (rI CPowW fun i j => .int (i ^ j.toNat)) := opI fun _ _ _ _ _ _ _ hc q => pow_int hc.1 hc.2 q
/-- the dice stand at p -/
def DiceAt (H : Hp) (p : Addr) : Prop := ∃ a b c : Int, H p = some (.lst [.int a, .int b, .int c]) ∧ 0 ≤ a ∧ 0 ≤ b ∧ 0 ≤ c
/-- all that was tracked stands, but for what is at p -/
def But (p : Addr) (H H' : Hp) : Prop := ∀ b o, H b = some o → b ≠ p → H' b = some o
theorem But.refl (p : Addr) (H : Hp) : But p H H := fun _ _ h _ => h
theorem But.trans {p : Addr} {H H1 H2 : Hp} (a : But p H H1) (b : But p H1 H2) : But p H H2 := fun c o h n => b c o (a c o h n) n
theorem But.ofSame {p : Addr} {H H' : Hp} (s : Same H H') : But p H H' := fun b o h _ => s b o h
theorem But.upd {p : Addr} {H : Hp} {o : HO} : But p H (upd H p o) := fun b u h n => by rw [upd_ne n]; exact h
/-- law's number of a cell -/
def big : Int := (10 ^ 60) ^ 10
theorem big_pos : 0 < big := by decide +kernel
def spDice (K : PySem.W.Frag) : Sp := fun vs H Q _ => ∃ (s : Addr) (ns : List Int) (k : Int), vs = [.ref s, .int k] ∧ SqL K H s (ns.map V.int) ∧ 0 ≤ k ∧
  ∀ (p : Addr) (H' : Hp), H p = none → Same H H' → DiceAt H' p → Q (.ref p) H'
def spRoll : Sp := fun vs H Q _ => ∃ (p : Addr) (n : Int), vs = [.ref p, .int n] ∧ DiceAt H p ∧ 0 < n ∧ n < 1073741824 ∧
  ∀ (r : Int) (H' : Hp), 0 ≤ r → r < n → DiceAt H' p → But p H H' → Q (.int r) H'
def spOne : Sp := fun vs H Q _ => ∃ (p q : Addr) (xs : List V), vs = [.ref p, .ref q] ∧ DiceAt H p ∧ q ≠ p ∧ H q = some (.lst xs) ∧ 0 < xs.length ∧ xs.length < 1000000 ∧
  ∀ (v : V) (H' : Hp), v ∈ xs → DiceAt H' p → But p H H' → Q v H'
structure TDice (mg : Str → Option Value) : Prop where
  len : mg "len" = none
  int : mg "int" = none
  abs : mg "abs" = none
section
variable {P : Program} {w : World} {K : PySem.W.Frag} {mg : Str → Option Value} {base : Heap}
theorem scD : FnScope ["_law_script", "_law_at", "_law_cell", "_law_great", "_law_left", "_law_mixed_here"] ["_law_script", "_law_at"] (defScope sDice) := ⟨rfl, rfl, rfl, by decide +kernel, rfl, by decide +kernel, by decide +kernel⟩
theorem ok_dice {f : Addr} {fd : FuncData} (F : Fun K "_law_dice" "_law_dice" sDice f fd) (T : TDice mg) : FnOk P w K mg base CX0 1 f fd ["_law_script", "_law_at"] (spDice K) := by
  refine F.ok scD (fun vs H Q E h => ?_) (fun cdv A outer s H vs Q E hr h => ?_)
  · obtain ⟨s, ns, k, rfl, _⟩ := h
    rfl
  · obtain ⟨s, ns, k, rfl, hS, hk, q⟩ := h
    refine ⟨_, pss_cons (ps_set (i := 2) scD.nd rfl (Or.inl rfl) (pe_op op_add (pe_op op_mul pe_int (pv 1)) pe_int))
      (C8.pss_cut (ps_if (pt_cmpR op_lt (pv 1) (pe_callB call_len_seq (by rfl) T.len PySem.boot_len (pa_cons (pv 0) pa_nil)) (nomark _))
        (pss_one (ps_set (i := 2) scD.nd rfl (Or.inl rfl) (pe_ix ix_list (pv 0) (pv 1) (fun _ _ => rfl)))) pss_nil)
      (pss_cons (ps_set (i := 3) scD.nd rfl (Or.inl rfl) (pe_op op_mod (pe_callTy call_int1 (by rfl) T.int (by decide +kernel) (pa_cons (pe_callB call_abs (by rfl) T.abs (by decide +kernel) (pa_cons (pv 2) pa_nil)) pa_nil)) (pe_op op_powW (pe_op op_pow pe_int pe_int) pe_int)))
      (pss_cons (ps_set (i := 4) scD.nd rfl (Or.inl rfl) (pe_op op_fdivW (pv 3) (pe_op op_pow pe_int pe_int)))
      (pss_cons (ps_set (i := 5) scD.nd rfl (Or.inl rfl) (pe_op op_add (pe_op op_add (pe_op op_add (pe_op op_mul (pe_op op_mod (pv 3) pe_int) pe_int) (pe_op op_mul pe_int (pv 1)))
          (pe_op op_mul pe_int (pe_callTy call_int1 (by rfl) T.int (by decide +kernel) (pa_cons (pe_cmpR op_lt (pv 2) pe_int (nomark _)) pa_nil)))) pe_int))
      (pss_one (ps_ret (pe_lst (pa_cons (pv 4) (pa_cons (pe_op op_mod (pv 5) pe_int) (pa_cons pe_int pa_nil)))))))))), ?_⟩
    refine ⟨_, rfl, _, _, rfl, rfl, .inl ⟨by decide, by decide⟩, _, _, rfl, rfl, ?_⟩
    -- behind the if: some cell
    refine ⟨fun σ H' => H' = H ∧ ∃ c : Int, σ = [some (.ref s), some (.int k), some (.int c), none, none, none], ?_, ?_⟩
    · refine ⟨_, rfl, _, rfl, s, _, rfl, .inl hS, _, _, rfl, rfl, _, rfl, ?_⟩
      refine ite2 (fun hc => ?_) (fun _ => ?_)
      · have hl : k < ((ns.map V.int).length : Int) := of_decide_eq_true hc
        rw [List.length_map] at hl
        have hj : k.toNat < ns.length := by omega
        have e1 : (ns.map V.int)[k.toNat]? = some (V.int ns[k.toNat]) := by
          rw [List.getElem?_map, List.getElem?_eq_getElem hj]
          rfl
        have e2 := atI_nat e1
        rw [Int.toNat_of_nonneg hk] at e2
        exact ⟨_, rfl, _, rfl, s, _, _, _, rfl, rfl, hS, e2, rfl, _, rfl⟩
      · exact ⟨rfl, _, rfl⟩
    · rintro σ H' ⟨rfl, c, rfl⟩
      refine ⟨_, rfl, _, rfl, .inl ⟨_, rfl, ?_⟩⟩
      refine ⟨_, _, rfl, rfl, ⟨by decide, by decide, by decide +kernel⟩, _, _, rfl, rfl, ⟨by decide, by decide +kernel⟩, _, _, rfl, rfl, big_pos, ?_⟩
      refine ⟨_, rfl, _, _, rfl, rfl, ⟨by decide, by decide, by decide +kernel⟩, _, _, rfl, rfl, wide_div (b := 64) (by decide +kernel) (by decide +kernel) (by decide) (by decide), ?_⟩
      refine ⟨_, rfl, _, _, rfl, rfl, (by show (0 : Int) < 2147483059; decide), _, _, rfl, rfl, .inr ⟨by decide, by decide⟩, _, rfl, _, _, rfl, rfl, .inl ⟨by decide, by decide⟩, _, _, rfl, rfl, ?_⟩
      refine ⟨_, rfl, _, _, rfl, rfl, .inr ⟨_, rfl, ?_⟩⟩
      refine ⟨_, _, rfl, rfl, .inl ⟨by decide, by decide⟩, _, _, rfl, rfl, _, _, rfl, rfl, ?_⟩
      refine ⟨_, rfl, _, rfl, _, _, rfl, rfl, (by show (0 : Int) < 2147483053; decide), (by show 3 ≤ sizeLine; decide), fun p hp => q p _ hp (fun b o e => by rw [upd_ne (ne_of_none e hp)]; exact e) ⟨_, _, _, upd_same, ?_, ?_, Int.le_refl 0⟩⟩
      · exact Int.ediv_nonneg (Int.emod_nonneg _ (Int.ne_of_gt big_pos)) (by decide)
      · exact Int.emod_nonneg _ (by decide)
/-- of a roll -/
theorem scR : FnScope ["_law_dice_here", "_law_total", "_law_number", "_law_drawn", "_law_one", "_law_two"] ["_law_dice_here", "_law_total"] (defScope sRoll) := ⟨rfl, rfl, rfl, by decide +kernel, rfl, by decide +kernel, by decide +kernel⟩
theorem ok_roll {f : Addr} {fd : FuncData} (F : Fun K "_law_roll" "_law_roll" sRoll f fd) (T : TDice mg) : FnOk P w K mg base CX0 1 f fd ["_law_dice_here", "_law_total"] spRoll := by
  refine F.ok scR (fun vs H Q E h => ?_) (fun cdv A outer s H vs Q E hr h => ?_)
  · obtain ⟨p, n, rfl, _⟩ := h
    rfl
  · obtain ⟨p, n, rfl, ⟨a, b, c, hD, ha, hb, hc⟩, hn, hn2, q⟩ := h
    refine ⟨_, pss_cons (ps_set (i := 2) scR.nd rfl (Or.inl rfl) (pe_callTy call_int1 (by rfl) T.int (by decide +kernel) (pa_cons (pv 1) pa_nil)))
      (pss_cons (ps_if (pt_cmpR op_gt (pe_ix ix_list (pv 0) pe_int (fun _ _ => rfl)) pe_int (nomark _))
        (pss_cons (ps_set (i := 3) scR.nd rfl (Or.inl rfl) (pe_op op_mod (pe_ix ix_list (pv 0) pe_int (fun _ _ => rfl)) (pv 2)))
        (pss_cons (ps_asg (pe_op op_fdiv (pe_ix ix_list (pv 0) pe_int (fun _ _ => rfl)) (pv 2)) (pg_sub (pv 0) pe_int set_list))
        (pss_one (ps_ret (pe_callTy call_int1 (by rfl) T.int (by decide +kernel) (pa_cons (pv 3) pa_nil)))))) pss_nil)
      (pss_cons (ps_asg (pe_op op_add (pe_ix ix_list (pv 0) pe_int (fun _ _ => rfl)) pe_int) (pg_sub (pv 0) pe_int set_list))
      (pss_cons (ps_set (i := 4) scR.nd rfl (Or.inl rfl) (pe_op op_mod (pe_op op_add (pe_ix ix_list (pv 0) pe_int (fun _ _ => rfl)) (pe_op op_mul pe_int (pe_ix ix_list (pv 0) pe_int (fun _ _ => rfl)))) pe_int))
      (pss_cons (ps_set (i := 5) scR.nd rfl (Or.inl rfl) (pe_op op_add (pe_op op_mul (pe_op op_mod (pe_op op_mul (pv 4) (pv 4)) pe_int) (pv 4)) (pe_op op_mul pe_int (pe_ix ix_list (pv 0) pe_int (fun _ _ => rfl)))))
      (pss_cons (ps_set (i := 5) scR.nd rfl (Or.inl rfl) (pe_op op_mod (pv 5) pe_int))
      (pss_one (ps_ret (pe_callTy call_int1 (by rfl) T.int (by decide +kernel) (pa_cons (pe_op op_mod (pe_op op_fdiv (pv 5) pe_int) (pv 2)) pa_nil))))))))), ?_⟩
    refine ⟨_, rfl, .inl ⟨_, rfl, ?_⟩⟩
    refine ⟨_, rfl, p, _, _, _, rfl, rfl, SqL.of hD, atI_nat (j := 0) rfl, _, _, rfl, rfl, _, rfl, ?_⟩
    refine ite2 (fun hc' => ?_) (fun hc' => ?_)
    · refine ⟨_, rfl, p, _, _, _, rfl, rfl, SqL.of hD, atI_nat (j := 0) rfl, _, rfl, _, _, rfl, rfl, hn, ?_⟩
      refine ⟨_, rfl, p, _, _, _, rfl, rfl, SqL.of hD, atI_nat (j := 0) rfl, _, rfl, _, _, rfl, rfl, ⟨hn, hn2⟩, ?_⟩
      refine ⟨_, rfl, p, _, _, 0, rfl, rfl, hD, rfl, ?_⟩
      refine ⟨_, rfl, .inl ⟨_, rfl, ?_⟩⟩
      exact q _ _ (Int.emod_nonneg _ (Int.ne_of_gt hn)) (Int.emod_lt_of_pos _ hn) ⟨_, _, _, upd_same, Int.ediv_nonneg ha (Int.le_of_lt hn), hb, hc⟩ But.upd
    · refine ⟨_, rfl, p, _, _, _, rfl, rfl, SqL.of hD, atI_nat (j := 2) rfl, _, _, rfl, rfl, _, rfl, p, _, _, 2, rfl, rfl, hD, rfl, ?_⟩
      have h2 : (upd H p (.lst [.int a, .int b, .int (c + 1)])) p = some (.lst [.int a, .int b, .int (c + 1)]) := upd_same
      refine ⟨_, rfl, p, _, _, _, rfl, rfl, SqL.of h2, atI_nat (j := 1) rfl, _, rfl, p, _, _, _, rfl, rfl, SqL.of h2, atI_nat (j := 2) rfl, _, _, rfl, rfl, .inl ⟨by decide, by decide⟩, _, _, rfl, rfl, _, _, rfl, rfl, (by show (0 : Int) < 2305843009213693951; decide), ?_⟩
      have one0 : ∀ x : Int, -(2 ^ 64) < x % 2305843009213693951 ∧ x % 2305843009213693951 < 2 ^ 64 := fun x => by
        have l := Int.emod_nonneg x (show (2305843009213693951 : Int) ≠ 0 by decide)
        have u := Int.emod_lt_of_pos x (show (0 : Int) < 2305843009213693951 by decide)
        exact ⟨by omega, by omega⟩
      refine ⟨_, rfl, _, rfl, _, _, rfl, rfl, .inl (one0 _), _, _, rfl, rfl, (by show (0 : Int) < 2305843009213693921; decide), _, rfl, _, _, rfl, rfl, .inr (one0 _), _, rfl, p, _, _, _, rfl, rfl, SqL.of h2, atI_nat (j := 2) rfl, _, _, rfl, rfl, .inl ⟨by decide, by decide⟩, _, _, rfl, rfl, ?_⟩
      refine ⟨_, rfl, _, _, rfl, rfl, (by show (0 : Int) < 2305843009213693907; decide), ?_⟩
      refine ⟨_, rfl, _, _, rfl, rfl, ⟨by decide, by decide⟩, _, rfl, _, _, rfl, rfl, hn, .inl ⟨_, rfl, ?_⟩⟩
      exact q _ _ (Int.emod_nonneg _ (Int.ne_of_gt hn)) (Int.emod_lt_of_pos _ hn) ⟨_, _, _, upd_same, ha, hb, by omega⟩ But.upd
theorem scO : FnScope ["_law_dice_here", "_law_items"] ["_law_dice_here", "_law_items"] (defScope sOne) := ⟨rfl, rfl, rfl, by decide +kernel, rfl, by decide +kernel, by decide +kernel⟩
theorem ok_one {f fR : Addr} {fd fdR : FuncData} (F : Fun K "_law_one_of" "_law_one_of" sOne f fd) (T : TDice mg) (gR : mg "_law_roll" = some (.ref fR)) (FR : Fun K "_law_roll" "_law_roll" sRoll fR fdR) (bR : Binds K fdR ["_law_dice_here", "_law_total"] []) :
    FnOk P w K mg base CX0 2 f fd ["_law_dice_here", "_law_items"] spOne := by
  have GR : FnOk P w K mg base CX0 1 fR fdR ["_law_dice_here", "_law_total"] spRoll := ok_roll FR T
  refine F.ok scO (fun vs H Q E h => ?_) (fun cdv A outer s H vs Q E hr h => ?_)
  · obtain ⟨p, n, _, rfl, _⟩ := h
    rfl
  · obtain ⟨p, a, xs, rfl, hD, hne, hx, h0, h1, q⟩ := h
    refine ⟨_, pss_one (ps_ret (pe_ix ix_list (pv 1) (pe_call GR hr rfl gR FR.kp bR .nil pass0 (pa_cons (pv 0) (pa_cons (pe_callB call_len_seq (by rfl) T.len PySem.boot_len (pa_cons (pv 1) pa_nil)) pa_nil))) (fun _ _ => rfl))), ?_⟩
    refine ⟨_, rfl, _, rfl, _, rfl, a, _, rfl, .inl (SqL.of hx), p, _, rfl, hD, by omega, by omega, fun r H' hr0 hr1 hD' hB => ?_⟩
    have hj : r.toNat < xs.length := by omega
    have e1 : xs[r.toNat]? = some xs[r.toNat] := List.getElem?_eq_getElem hj
    have e2 := atI_nat e1
    rw [Int.toNat_of_nonneg hr0] at e2
    exact ⟨a, _, _, _, rfl, rfl, SqL.of (hB _ _ hx hne), e2, q _ _ (List.getElem_mem hj) hD' hB⟩
end
end WK

set_option Elab.async false
set_option linter.all false
set_option maxRecDepth 100000
set_option maxHeartbeats 8000000
/-! Numbers, letters, words: what is let. -/
namespace WK
open PySem L2 PyProof.Rows K1
open TX (sg sigs)
open PySem.W (Frag kitOne)
/-- a def of the module by its name -/
structure Fn (K : Frag) (mg : Str → Option Value) (nm : Str) (st : Stmt) (ps : List Str) (f : Addr) (fd : FuncData) : Prop where
  g : mg nm = some (.ref f)
  F : Fun K nm nm st f fd
  b : L2.Binds K fd ps []
structure TN (mg : Str → Option Value) : Prop where
  len : mg "len" = none
  int : mg "int" = none
  abs : mg "abs" = none
  isi : mg "isinstance" = none
  bool : mg "bool" = none
  str : mg "str" = none
  all : mg "all" = none
  rng : mg "range" = none
  sorted : mg "sorted" = none
  set : mg "set" = none
  tuple : mg "tuple" = none
  list : mg "list" = none
  max : mg "max" = none
  min : mg "min" = none
  zip : mg "zip" = none
  most : ∃ t, mg "MAX_LETTERS" = some (.int 3 t)
theorem TN.dice {mg : Str → Option Value} (T : TN mg) : TDice mg := ⟨T.len, T.int, T.abs⟩
abbrev sIsInt : Stmt := top 6
abbrev sIsNum : Stmt := top 7
abbrev sNeedNum : Stmt := top 8
abbrev sAsc : Stmt := top 9
abbrev sIsLet : Stmt := top 12
abbrev sIsWord : Stmt := top 13
abbrev sIsOver : Stmt := top 14
abbrev sNeedLet : Stmt := top 15
abbrev sNeedWord : Stmt := top 16
abbrev sNeedOver : Stmt := top 17
theorem same_upd {H : Hp} {p : Addr} {o : HO} (h : H p = none) : Same H (upd H p o) := fun b u e => by rw [upd_ne (ne_of_none e h)]; exact e
theorem same_at {H H1 : Hp} {p : Addr} {o : HO} (s : Same H H1) (h : H p = none) : Same H (upd H1 p o) := fun b u e => by rw [upd_ne (ne_of_none e h)]; exact s b u e
theorem same_two {H H1 : Hp} {p : Addr} {o : HO} (s : Same H H1) (h : H1 p = none) : Same H (upd H1 p o) := s.trans (same_upd h)
theorem pe_ty {X : Cx} {x : Str} {pos : Pos} (n : String) (hm : X.mg x = none) (hv : bootBuiltins x = some (.type n)) (hg : Gl X x := by rfl) (hn : x ≠ "__name__" := by decide) (hd : (x == ("__debug__" : Str)) = false := by decide) : PE X (.Name x pos) (tC (.ty n)) := pe_bltn hg hm hv rfl hn hd
/-- a set of letters: one to three, ascending, of a to z -/
structure Let (L : W) : Prop where
  low : Low L
  asc : L.Pairwise (· < ·)
  ne : L ≠ []
  few : L.length ≤ 3
/-- what is told of a text: whether it is a word -/
def wordB (x : Str) : Bool := if x = "" then true else if Txt.isascii x = true then if Txt.isalpha x = true then Txt.islower x else false else false
theorem wordB_low {w : W} (h : Low w) : wordB (tx w) = true := by
  unfold wordB
  by_cases e : tx w = ""
  · rw [if_pos e]
  · rw [if_neg e]
    have hne : w ≠ [] := fun z => e (by rw [z] <;> rfl)
    obtain ⟨h1, h2, h3⟩ := low_facts h hne
    rw [if_pos h1, if_pos h2, h3]
def ascB (w : W) : Bool := decide (w.Pairwise (· < ·))
def letB (x : Str) : Bool := wordB x && (decide (1 ≤ x.length) && decide (x.length ≤ 3)) && ascB x.cps.toList
theorem letB_let {L : W} (h : Let L) : letB (tx L) = true := by
  unfold letB
  rw [wordB_low h.low, tx_len, tx_list]
  have h1 : ascB L = true := decide_eq_true h.asc
  have h2 := List.length_pos_iff.mpr h.ne
  rw [h1, decide_eq_true (show 1 ≤ L.length from h2), decide_eq_true h.few] <;> rfl
def spIsNum : Sp := fun vs H Q _ => ∃ i a b : Int, vs = [.int i, .int a, .int b] ∧ Q (.bl (decide (a ≤ i) && decide (i ≤ b))) H
def spNeedNum : Sp := fun vs H Q _ => ∃ i a b : Int, vs = [.int i, .int a, .int b] ∧ a ≤ i ∧ i ≤ b ∧ Q .non H
def spAsc : Sp := fun vs H Q _ => ∃ w : W, vs = [.str (tx w)] ∧ w ≠ [] ∧ w.length ≤ 1000 ∧ ∀ H', Same H H' → Q (.bl (ascB w)) H'
/-- no text -/
def NoText (K : Frag) (H : Hp) (v : V) : Prop := ∃ t, TyX K H v (.type t) ∧ PySem.W.kitOne K (.type t) (.type "str") = some false
def spIsWord (K : Frag) : Sp := fun vs H Q _ => ∃ v, vs = [v] ∧ ((∃ x, v = .str x ∧ Q (.bl (wordB x)) H) ∨ (NoText K H v ∧ Q (.bl false) H))
def spIsLet (K : Frag) : Sp := fun vs H Q _ => ∃ v, vs = [v] ∧ ((∃ x : Str, v = .str x ∧ x.length ≤ 1000 ∧ ∀ H', Same H H' → Q (.bl (letB x)) H') ∨ (NoText K H v ∧ Q (.bl false) H))
section
variable {P : Program} {w : World} {K : PySem.W.Frag} {mg : Str → Option Value} {base : Heap}
theorem scII : FnScope ["value"] ["value"] (defScope sIsInt) := ⟨rfl, rfl, rfl, by decide +kernel, rfl, by decide +kernel, by decide +kernel⟩
def spIsInt : Sp := fun vs H Q _ => ∃ i : Int, vs = [.int i] ∧ Q (.bl true) H
theorem ok_isint {f : Addr} {fd : FuncData} (F : Fun K "is_integer" "is_integer" sIsInt f fd) (T : TN mg) : FnOk P w K mg base CX0 1 f fd ["value"] spIsInt := by
  refine F.ok scII (fun vs H Q E h => ?_) (fun cdv A outer s H vs Q E hr h => ?_)
  · obtain ⟨i, rfl, _⟩ := h
    rfl
  · obtain ⟨i, rfl, q⟩ := h
    refine ⟨_, pss_one (ps_ret (pe_and (pe_callB call_isi (by rfl) T.isi (by decide +kernel) (pa_cons (pv 0) (pa_cons (pe_ty "int" T.int (by decide +kernel)) pa_nil)))
      (pe_one (pe_not (pe_callB call_isi (by rfl) T.isi (by decide +kernel) (pa_cons (pv 0) (pa_cons (pe_ty "bool" T.bool (by decide +kernel)) pa_nil))))))), ?_⟩
    refine ⟨_, rfl, _, _, _, _, true, rfl, .ty "int", .base (.int _), kit_ty (by decide +kernel), true, rfl, ?_⟩
    exact ⟨_, rfl, _, _, _, _, false, rfl, .ty "bool", .base (.int _), kit_ty (by decide +kernel), false, rfl, q⟩
theorem scIN : FnScope ["value", "least", "most"] ["value", "least", "most"] (defScope sIsNum) := ⟨rfl, rfl, rfl, by decide +kernel, rfl, by decide +kernel, by decide +kernel⟩
theorem ok_isnum {f g : Addr} {fd gd : FuncData} (F : Fun K "is_number" "is_number" sIsNum f fd) (T : TN mg) (A0 : Fn K mg "is_integer" sIsInt ["value"] g gd) : FnOk P w K mg base CX0 2 f fd ["value", "least", "most"] spIsNum := by
  have G0 : FnOk P w K mg base CX0 1 g gd ["value"] spIsInt := ok_isint A0.F T
  refine F.ok scIN (fun vs H Q E h => ?_) (fun cdv A outer s H vs Q E hr h => ?_)
  · obtain ⟨i, a, b, rfl, _⟩ := h
    rfl
  · obtain ⟨i, a, b, rfl, q⟩ := h
    refine ⟨_, pss_one (ps_ret (pe_and (pe_call G0 hr rfl A0.g A0.F.kp A0.b .nil pass0 (pa_cons (pv 0) pa_nil)) (pe_one (pe_chain op_le op_le (pv 1) (pv 0) (pv 2))))), ?_⟩
    refine ⟨_, rfl, i, rfl, true, rfl, ?_⟩
    refine ⟨_, rfl, _, rfl, _, _, rfl, rfl, _, rfl, ?_⟩
    by_cases h1 : a ≤ i
    · rw [decide_eq_true h1] at q ⊢
      exact ⟨_, rfl, _, _, rfl, rfl, q⟩
    · rw [decide_eq_false h1] at q ⊢
      exact q
theorem scNN : FnScope ["value", "least", "most"] ["value", "least", "most"] (defScope sNeedNum) := ⟨rfl, rfl, rfl, by decide +kernel, rfl, by decide +kernel, by decide +kernel⟩
theorem ok_neednum {f g e : Addr} {fd gd ed : FuncData} (F : Fun K "need_number" "need_number" sNeedNum f fd) (T : TN mg) (A0 : Fn K mg "is_integer" sIsInt ["value"] e ed) (A1 : Fn K mg "is_number" sIsNum ["value", "least", "most"] g gd) : FnOk P w K mg base CX0 3 f fd ["value", "least", "most"] spNeedNum := by
  have G1 : FnOk P w K mg base CX0 2 g gd _ spIsNum := ok_isnum A1.F T A0
  refine F.ok scNN (fun vs H Q E h => ?_) (fun cdv A outer s H vs Q E hr h => ?_)
  · obtain ⟨i, a, b, rfl, _⟩ := h
    rfl
  · obtain ⟨i, a, b, rfl, h1, h2, q⟩ := h
    refine ⟨_, pss_one (ps_if (pt_not (pt_val (pe_call G1 hr rfl A1.g A1.F.kp A1.b .nil pass0 (pa_cons (pv 0) (pa_cons (pv 1) (pa_cons (pv 2) pa_nil)))))) (pss_one ps_never) pss_nil), ?_⟩
    refine ⟨_, rfl, _, rfl, _, rfl, _, _, _, rfl, _, rfl, ?_⟩
    rw [decide_eq_true h1, decide_eq_true h2]
    exact q
theorem scAs : FnScope ["values", "at"] ["values"] (defScope sAsc) := ⟨rfl, rfl, rfl, by decide +kernel, rfl, by decide +kernel, by decide +kernel⟩
theorem lt_one (a b : Nat) : decide ((sg a).cps.toList < (sg b).cps.toList) = decide (a < b) := by
  rw [← ltCps_eq, TX.lt_sg]
/-- each less than the next -/
def adj (w : W) (i : Nat) : Bool := decide (w.getD i 0 < w.getD (i + 1) 0)
theorem adj_asc : ∀ (w : W), w ≠ [] → ((List.range (w.length - 1)).map (adj w)).all id = ascB w
  | [], h => absurd rfl h
  | [a], _ => by simp [ascB]
  | a :: b :: r, _ => by
    have ih := adj_asc (b :: r) (by simp)
    have e : (a :: b :: r).length - 1 = (b :: r).length - 1 + 1 := by simp
    rw [e, List.range_succ_eq_map, List.map_cons, List.all_cons, List.map_map]
    have e2 : (adj (a :: b :: r) ∘ Nat.succ) = adj (b :: r) := by
      funext i
      rfl
    rw [e2, ih]
    show (decide (a < b) && ascB (b :: r)) = ascB (a :: b :: r)
    unfold ascB
    rw [← Bool.decide_and]
    apply decide_eq_decide.mpr
    rw [List.pairwise_cons (a := a)]
    constructor
    · rintro ⟨h1, h2⟩
      refine ⟨fun y hy => ?_, h2⟩
      rcases List.mem_cons.mp hy with z | z
      · omega
      · have := (List.pairwise_cons.mp h2).1 y z
        omega
    · rintro ⟨h1, h2⟩
      exact ⟨h1 b List.mem_cons_self, h2⟩
theorem ok_asc {f : Addr} {fd : FuncData} (F : Fun K "ascends" "ascends" sAsc f fd) (T : TN mg) : FnOk P w K mg base CX0 1 f fd ["values"] spAsc := by
  refine F.ok scAs (fun vs H Q E h => ?_) (fun cdv A outer s H vs Q E hr h => ?_)
  · obtain ⟨w, rfl, _⟩ := h
    rfl
  · obtain ⟨w, rfl, hne, hl, q⟩ := h
    have hpos := List.length_pos_iff.mpr hne
    refine ⟨_, pss_one (ps_ret (pe_callB (cr_all rfl) (by rfl) T.all (by decide +kernel) (pa_cons (pe_lc (own := [("at", 1)]) (g := gName 1) (tt := tYes) rfl scAs.nd
      (pi_range1 rfl T.rng (pa_cons (pe_op op_sub (pe_callB call_len_str (by rfl) T.len PySem.boot_len (pa_cons (pv 0) pa_nil)) pe_int) pa_nil))
      (blkOk_by (own := [("at", 1)]) (N := ["values", "at"]) (sc := defScope sAsc) (by decide +kernel)) (fun _ _ _ _ _ => pg_name (i := 1) scAs.nd rfl (Or.inl rfl)) (fun _ _ _ _ _ => pts_nil)
      (fun _ _ _ _ _ => pe_cmpR op_lt_str (pe_ix ix_str (pv 0) (pv 1) (fun _ _ => rfl)) (pe_ix ix_str (pv 0) (pe_op op_add (pv 1) pe_int) (fun _ _ => rfl)) (nomark _))) pa_nil))), ?_⟩
    refine ⟨_, rfl, _, rfl, ?_, _, _, rfl, rfl, _, rfl, ?_, ?_, fun D hD => ?_⟩
    · rw [tx_len, sizeLine_eq]; omega
    · rw [tx_len]; omega
    · rw [tx_len]; omega
    · rw [tx_len]
      have e1 : ((w.length : Int) - 1) = ((w.length - 1 : Nat) : Int) := by omega
      rw [e1]
      refine lc_range (lo := 0) (n := w.length - 1) (fun i H1 => Same H H1 ∧ H1 D = some (.lst (((List.range i).map (adj w)).map V.bl))) ?_ ?_ ?_
      · exact ⟨same_upd hD, upd_same⟩
      · rintro i H1 hi ⟨s1, hd⟩
        have hz : (tx w).length ≤ sizeLine := by rw [tx_len, sizeLine_eq]; omega
        have at1 : atI (tx w).cps.toList (0 + (i : Int)) = some (w.getD i 0) := by
          rw [tx_list, Int.zero_add]
          exact atI_nat (by rw [List.getD_eq_getElem?_getD, List.getElem?_eq_getElem (by omega)] <;> rfl)
        have at2 : atI (tx w).cps.toList (0 + (i : Int) + 1) = some (w.getD (i + 1) 0) := by
          have e2 : (0 + (i : Int) + 1) = ((i + 1 : Nat) : Int) := by omega
          rw [tx_list, e2]
          exact atI_nat (by rw [List.getD_eq_getElem?_getD, List.getElem?_eq_getElem (by omega)] <;> rfl)
        refine ⟨rfl, _, rfl, _, rfl, _, _, w.getD i 0, rfl, rfl, hz, at1, _, rfl, _, rfl, _, _, rfl, rfl, _, _, w.getD (i + 1) 0, rfl, rfl, hz, at2, _, _, rfl, rfl, _, hd, ?_, same_at s1 hD, ?_⟩
        · rw [List.length_map, List.length_map, List.length_range, sizeLine_eq]
          omega
        · have e3 := lt_one (w.getD i 0) (w.getD (i + 1) 0)
          rw [e3, upd_same, List.range_succ, List.map_append, List.map_append] <;> rfl
      · rintro H1 ⟨s1, hd⟩
        refine ⟨D, _, rfl, SqL.of hd, ?_⟩
        rw [adj_asc w hne]
        exact q _ s1
theorem scIW : FnScope ["value"] ["value"] (defScope sIsWord) := ⟨rfl, rfl, rfl, by decide +kernel, rfl, by decide +kernel, by decide +kernel⟩
theorem ok_isword {f : Addr} {fd : FuncData} (F : Fun K "is_word" "is_word" sIsWord f fd) (T : TN mg) : FnOk P w K mg base CX0 1 f fd ["value"] (spIsWord K) := by
  refine F.ok scIW (fun vs H Q E h => ?_) (fun cdv A outer s H vs Q E hr h => ?_)
  · obtain ⟨v, rfl, _⟩ := h
    rfl
  · obtain ⟨v, rfl, h⟩ := h
    refine ⟨_, pss_cons (ps_if (pt_not (pt_val (pe_callB call_isi (by rfl) T.isi (by decide +kernel) (pa_cons (pv 0) (pa_cons (pe_ty "str" T.str (by decide +kernel)) pa_nil))))) (pss_one (ps_ret pe_bl)) pss_nil)
      (pss_one (ps_ret (pe_or (pe_cmpR op_eq (pv 0) pe_str (nomark _))
        (pe_one (pe_and (pe_m0 PySem.F.slot_str_isascii PySem.F.type_str_isascii mt_isascii (pv 0))
          (pe_and (pe_m0 PySem.F.slot_str_isalpha PySem.F.type_str_isalpha mt_isalpha (pv 0)) (pe_one (pe_m0 PySem.F.slot_str_islower PySem.F.type_str_islower mt_islower (pv 0))))))))), ?_⟩
    rcases h with ⟨x, rfl, q⟩ | ⟨⟨t, ty, hk⟩, q⟩
    · refine ⟨_, rfl, _, _, _, _, true, rfl, .ty "str", .base (.str _), kit_ty (by decide +kernel), true, rfl, ?_⟩
      refine ⟨_, rfl, rfl, _, rfl, ?_⟩
      unfold wordB at q
      by_cases h1 : x = ""
      · rw [if_pos h1] at q
        rw [if_pos (decide_eq_true (by rw [h1]))]
        exact q
      · rw [if_neg h1] at q
        rw [if_neg (fun z => h1 (V.str.inj (of_decide_eq_true z)))]
        refine ⟨_, rfl, ⟨_, rfl⟩, _, rfl, rfl, trivial, _, rfl, ?_⟩
        by_cases h2 : Txt.isascii x = true
        · rw [if_pos h2] at q ⊢
          refine ⟨_, rfl, ⟨_, rfl⟩, _, rfl, rfl, trivial, _, rfl, ?_⟩
          by_cases h3 : Txt.isalpha x = true
          · rw [if_pos h3] at q ⊢
            exact ⟨_, rfl, ⟨_, rfl⟩, _, rfl, rfl, trivial, q⟩
          · rw [if_neg h3] at q ⊢
            exact q
        · rw [if_neg h2] at q ⊢
          exact q
    · refine ⟨_, rfl, _, _, _, _, false, rfl, .ty "str", ty, hk, false, rfl, ?_⟩
      exact q
theorem scIL : FnScope ["value"] ["value"] (defScope sIsLet) := ⟨rfl, rfl, rfl, by decide +kernel, rfl, by decide +kernel, by decide +kernel⟩
theorem ok_islet {f g h : Addr} {fd gd hd : FuncData} (F : Fun K "is_letters" "is_letters" sIsLet f fd) (T : TN mg) (A1 : Fn K mg "is_word" sIsWord ["value"] g gd) (A2 : Fn K mg "ascends" sAsc ["values"] h hd) : FnOk P w K mg base CX0 2 f fd ["value"] (spIsLet K) := by
  have G1 : FnOk P w K mg base CX0 1 g gd _ (spIsWord K) := ok_isword A1.F T
  have G2 : FnOk P w K mg base CX0 1 h hd _ spAsc := ok_asc A2.F T
  obtain ⟨tM, hM⟩ := T.most
  refine F.ok scIL (fun vs H Q E h => ?_) (fun cdv A outer s H vs Q E hr h => ?_)
  · obtain ⟨v, rfl, _⟩ := h
    rfl
  · obtain ⟨v, rfl, h⟩ := h
    refine ⟨_, pss_one (ps_ret (pe_and (pe_call G1 hr rfl A1.g A1.F.kp A1.b .nil pass0 (pa_cons (pv 0) pa_nil))
      (pe_and (pe_chain op_le op_le pe_int (pe_callB call_len_str (by rfl) T.len PySem.boot_len (pa_cons (pv 0) pa_nil)) (pe_glob rfl hM (show RelV (.int 3) (.int 3 tM) from ⟨tM, rfl⟩)))
        (pe_one (pe_call G2 hr rfl A2.g A2.F.kp A2.b .nil pass0 (pa_cons (pv 0) pa_nil)))))), ?_⟩
    rcases h with ⟨x, rfl, hx, q⟩ | ⟨hn, q⟩
    · unfold letB at q
      refine ⟨_, rfl, _, rfl, .inl ⟨x, rfl, ?_⟩⟩
      refine ⟨_, rfl, ?_⟩
      by_cases h1 : wordB x = true
      · rw [if_pos h1]
        rw [h1] at q
        have hz : x.length ≤ sizeLine := by rw [sizeLine_eq]; omega
        refine ⟨_, rfl, _, rfl, hz, _, _, rfl, rfl, _, rfl, ?_⟩
        by_cases h2 : 1 ≤ x.length
        · have h2' : ((1 : Int) ≤ (x.length : Int)) := by omega
          rw [if_pos (decide_eq_true h2')]
          refine ⟨_, _, rfl, rfl, _, rfl, ?_⟩
          by_cases h3 : x.length ≤ 3
          · have h3' : ((x.length : Int) ≤ 3) := by omega
            rw [if_pos (decide_eq_true h3')]
            rw [decide_eq_true h2, decide_eq_true h3] at q
            refine ⟨_, rfl, x.cps.toList, (by rw [tx_of]; rfl), ?_, ?_, fun H' s1 => q H' s1⟩
            · intro z
              have : x.cps.toList.length = x.length := Array.length_toList
              rw [z] at this
              have h0 : x.length = 0 := this.symm
              omega
            · have : x.cps.toList.length = x.length := Array.length_toList
              omega
          · have h3' : ¬ ((x.length : Int) ≤ 3) := by omega
            rw [decide_eq_true h2, decide_eq_false h3] at q
            rw [if_neg (fun z => h3' (of_decide_eq_true z))]
            exact q _ (Same.refl _)
        · have h2' : ¬ ((1 : Int) ≤ (x.length : Int)) := by omega
          rw [if_neg (fun z => h2' (of_decide_eq_true z))]
          rw [decide_eq_false h2] at q
          exact ⟨_, rfl, q _ (Same.refl _)⟩
      · have h1' : wordB x = false := eq_false_of_ne_true h1
        rw [if_neg h1]
        rw [h1'] at q
        exact q _ (Same.refl _)
    · refine ⟨_, rfl, _, rfl, .inr ⟨hn, ?_⟩⟩
      exact ⟨_, rfl, q⟩
def spOver : Sp := fun vs H Q _ => ∃ L u : W, vs = [.str (tx L), .str (tx u)] ∧ u.length < 64 ∧ (∀ c ∈ u, c ∈ L) ∧ ∀ H', Same H H' → Q (.bl true) H'
def spNeedOver : Sp := fun vs H Q _ => ∃ L u : W, vs = [.str (tx L), .str (tx u)] ∧ u.length < 64 ∧ (∀ c ∈ u, c ∈ L) ∧ ∀ H', Same H H' → Q .non H'
def spNeedWord : Sp := fun vs H Q _ => ∃ u : W, vs = [.str (tx u)] ∧ Low u ∧ Q .non H
def spNeedLet : Sp := fun vs H Q _ => ∃ L : W, vs = [.str (tx L)] ∧ Let L ∧ ∀ H', Same H H' → Q .non H'
theorem scIO : FnScope ["letters", "word", "letter"] ["letters", "word"] (defScope sIsOver) := ⟨rfl, rfl, rfl, by decide +kernel, rfl, by decide +kernel, by decide +kernel⟩
theorem size_tx (u : W) : (tx u).cps.size = u.length := List.size_toArray
theorem all_true : ∀ n : Nat, ((List.replicate n true).all id) = true
  | 0 => rfl
  | n + 1 => by rw [List.replicate_succ, List.all_cons, all_true n] <;> rfl
theorem ok_over {f : Addr} {fd : FuncData} (F : Fun K "is_over" "is_over" sIsOver f fd) (T : TN mg) : FnOk P w K mg base CX0 1 f fd ["letters", "word"] spOver := by
  refine F.ok scIO (fun vs H Q E h => ?_) (fun cdv A outer s H vs Q E hr h => ?_)
  · obtain ⟨L, u, rfl, _⟩ := h
    rfl
  · obtain ⟨L, u, rfl, hu, hL, q⟩ := h
    refine ⟨_, pss_one (ps_ret (pe_callB (cr_all rfl) (by rfl) T.all (by decide +kernel) (pa_cons (pe_lc (own := [("letter", 2)]) (g := gName 2) (tt := tYes) rfl scIO.nd
      (pi_list (pe_callB (TX.cr_sortX rfl) (by rfl) T.sorted (by decide +kernel) (pa_cons (pe_callTy (TX.call_setX rfl) (by rfl) T.set (by decide +kernel) (pa_cons (pv 1) pa_nil)) pa_nil)))
      (blkOk_by (own := [("letter", 2)]) (N := ["letters", "word", "letter"]) (sc := defScope sIsOver) (by decide +kernel)) (fun _ _ _ _ _ => pg_name (i := 2) scIO.nd rfl (Or.inl rfl)) (fun _ _ _ _ _ => pts_nil)
      (fun _ _ _ _ _ => pe_cmpR op_in_sign (pv 2) (pv 0) rfl)) pa_nil))), ?_⟩
    have hz : (tx u).cps.size < 64 := by rw [size_tx]; exact hu
    refine ⟨_, rfl, tx u, rfl, hz, fun a o ha ho => ?_⟩
    refine ⟨a, tx u, o, rfl, upd_same, ho, hz, fun p hp => ?_⟩
    rw [tx_list]
    refine ⟨p, rfl, ⟨_, SqL.of upd_same⟩, fun D hD => ?_⟩
    have sp : Same H (upd (upd H a o) p (.lst ((sigs u).map fun c => V.str (sg c)))) := same_two (same_upd ha) hp
    have hq : (upd (upd H a o) p (.lst ((sigs u).map fun c => V.str (sg c)))) p = some (.lst ((sigs u).map fun c => V.str (sg c))) := upd_same
    generalize upd (upd H a o) p (.lst ((sigs u).map fun c => V.str (sg c))) = G at sp hq hD ⊢
    refine lc_list (xs := (sigs u).map fun c => V.str (sg c)) (fun i H1 => Same G H1 ∧ H1 D = some (.lst ((List.replicate i true).map V.bl))) ⟨same_upd hD, upd_same⟩ (fun i H1 _ ⟨s1, _⟩ => SqL.of (s1 _ _ hq)) ?_ ?_
    · rintro i x H1 hx ⟨s1, hd⟩
      rw [List.getElem?_map] at hx
      cases hc : (sigs u)[i]? with
      | none => rw [hc] at hx; cases hx
      | some c =>
        rw [hc] at hx
        obtain rfl : V.str (sg c) = x := Option.some.inj hx
        have hm : c ∈ sigs u := List.mem_of_getElem? hc
        have hi : i < (sigs u).length := (List.getElem?_eq_some_iff.mp hc).1
        have hi2 := TX.len_sigs u
        refine ⟨rfl, _, rfl, _, rfl, c, tx L, rfl, rfl, _, hd, ?_, same_at s1 hD, ?_⟩
        · rw [List.length_map, List.length_replicate, sizeLine_eq]
          omega
        · have e : c ∈ (tx L).cps.toList := by rw [tx_list]; exact hL c ((TX.mem_sigs c u).mp hm)
          rw [decide_eq_true e, upd_same, List.replicate_succ', List.map_append] <;> rfl
    · rintro H1 ⟨s1, hd⟩
      refine ⟨D, _, rfl, SqL.of hd, ?_⟩
      rw [all_true]
      exact q _ (sp.trans s1)
theorem scNL : FnScope ["letters"] ["letters"] (defScope sNeedLet) := ⟨rfl, rfl, rfl, by decide +kernel, rfl, by decide +kernel, by decide +kernel⟩
theorem ok_needlet {f g : Addr} {fd gd : FuncData} (F : Fun K "need_letters" "need_letters" sNeedLet f fd) (A1 : Fn K mg "is_letters" sIsLet ["value"] g gd) (G1 : FnOk P w K mg base CX0 2 g gd ["value"] (spIsLet K)) : FnOk P w K mg base CX0 3 f fd ["letters"] spNeedLet := by
  refine F.ok scNL (fun vs H Q E h => ?_) (fun cdv A outer s H vs Q E hr h => ?_)
  · obtain ⟨L, rfl, _⟩ := h
    rfl
  · obtain ⟨L, rfl, hL, q⟩ := h
    refine ⟨_, pss_one (ps_if (pt_not (pt_val (pe_call G1 hr rfl A1.g A1.F.kp A1.b .nil pass0 (pa_cons (pv 0) pa_nil)))) (pss_one ps_never) pss_nil), ?_⟩
    refine ⟨_, rfl, _, rfl, .inl ⟨tx L, rfl, ?_, fun H' s1 => ⟨_, rfl, ?_⟩⟩⟩
    · rw [tx_len]
      have := hL.few
      omega
    · rw [letB_let hL]
      exact q _ s1
theorem scNW : FnScope ["word"] ["word"] (defScope sNeedWord) := ⟨rfl, rfl, rfl, by decide +kernel, rfl, by decide +kernel, by decide +kernel⟩
theorem ok_needword {f g : Addr} {fd gd : FuncData} (F : Fun K "need_word" "need_word" sNeedWord f fd) (A1 : Fn K mg "is_word" sIsWord ["value"] g gd) (G1 : FnOk P w K mg base CX0 1 g gd ["value"] (spIsWord K)) : FnOk P w K mg base CX0 2 f fd ["word"] spNeedWord := by
  refine F.ok scNW (fun vs H Q E h => ?_) (fun cdv A outer s H vs Q E hr h => ?_)
  · obtain ⟨L, rfl, _⟩ := h
    rfl
  · obtain ⟨u, rfl, hu, q⟩ := h
    refine ⟨_, pss_one (ps_if (pt_not (pt_val (pe_call G1 hr rfl A1.g A1.F.kp A1.b .nil pass0 (pa_cons (pv 0) pa_nil)))) (pss_one ps_never) pss_nil), ?_⟩
    refine ⟨_, rfl, _, rfl, .inl ⟨tx u, rfl, _, rfl, ?_⟩⟩
    rw [wordB_low hu]
    exact q
theorem scNO : FnScope ["letters", "word"] ["letters", "word"] (defScope sNeedOver) := ⟨rfl, rfl, rfl, by decide +kernel, rfl, by decide +kernel, by decide +kernel⟩
theorem ok_needover {f g : Addr} {fd gd : FuncData} (F : Fun K "need_over" "need_over" sNeedOver f fd) (A1 : Fn K mg "is_over" sIsOver ["letters", "word"] g gd) (G1 : FnOk P w K mg base CX0 1 g gd ["letters", "word"] spOver) : FnOk P w K mg base CX0 2 f fd ["letters", "word"] spNeedOver := by
  refine F.ok scNO (fun vs H Q E h => ?_) (fun cdv A outer s H vs Q E hr h => ?_)
  · obtain ⟨L, u, rfl, _⟩ := h
    rfl
  · obtain ⟨L, u, rfl, hu, hL, q⟩ := h
    refine ⟨_, pss_one (ps_if (pt_not (pt_val (pe_call G1 hr rfl A1.g A1.F.kp A1.b .nil pass0 (pa_cons (pv 0) (pa_cons (pv 1) pa_nil))))) (pss_one ps_never) pss_nil), ?_⟩
    exact ⟨_, rfl, _, rfl, L, u, rfl, hu, hL, fun H' s1 => ⟨_, rfl, q _ s1⟩⟩
end
end WK

set_option Elab.async false
set_option linter.all false
set_option maxRecDepth 100000
set_option maxHeartbeats 8000000
/-! What is told of a word: power, counts, ends, pieces. -/
namespace WK
open PySem L2 PyProof.Rows K1
open TX (sg sigs)
open Walks
open PySem.W (Frag kitOne)
abbrev sPower : Stmt := top 19
abbrev sCounts : Stmt := top 20
abbrev sPieces : Stmt := top 21
abbrev sIsPiece : Stmt := top 22
abbrev sLast : Stmt := top 23
abbrev sFirst : Stmt := top 24
def spPower : Sp := fun vs H Q _ => ∃ (u : W) (n : Int), vs = [.str (tx u), .int n] ∧ Low u ∧ u.length ≤ 60 ∧ 0 ≤ n ∧ n ≤ 60 ∧ Q (.str (Txt.mul (tx u) n)) H
def spCounts : Sp := fun vs H Q _ => ∃ L u : W, vs = [.str (tx L), .str (tx u)] ∧ Let L ∧ Low u ∧ u.length < 64 ∧ (∀ c ∈ u, c ∈ L) ∧ ∀ t H', H t = none → Same H H' → H' t = some (.tup (L.map fun c => .int (u.count c : Int))) → Q (.ref t) H'
def spIsPiece : Sp := fun vs H Q _ => ∃ u v : W, vs = [.str (tx u), .str (tx v)] ∧ Low u ∧ Low v ∧ u.length < 1000 ∧ v.length < 1000 ∧ Q (.bl (isP u v)) H
def spLast : Sp := fun vs H Q _ => ∃ (u : W) (n : Int), vs = [.str (tx u), .int n] ∧ Low u ∧ u.length ≤ 1000 ∧ 0 ≤ n ∧ n ≤ 400 ∧ Q (.str (tx (u.drop (u.length - n.toNat)))) H
def spFirst : Sp := fun vs H Q _ => ∃ (u : W) (n : Int), vs = [.str (tx u), .int n] ∧ Low u ∧ u.length ≤ 1000 ∧ 0 ≤ n ∧ n ≤ 400 ∧ Q (.str (tx (u.take n.toNat))) H
theorem mulOk_w {u : W} {n : Int} (hu : u.length ≤ 60) (h0 : 0 ≤ n) (h1 : n ≤ 60) : MulOk (tx u) n := mulOk_of 60 60 (by rw [tx_len]; exact hu) h1 (by omega) (by decide) (by decide)
theorem cut_from (u : W) (i : Nat) : cutS (tx u) (some (i : Int)) none = tx (u.drop i) := by
  unfold cutS
  rw [tx_len, tx_list]
  have h1 : HT.sIx u.length u.length none = u.length := rfl
  have h2 : HT.sIx u.length 0 (some (i : Int)) = min i u.length := by
    unfold HT.sIx
    simp
    try omega
  rw [h1, h2]
  show (⟨_⟩ : Str) = ⟨_⟩
  congr 2
  by_cases h : i ≤ u.length
  · rw [Nat.min_eq_left h, List.take_of_length_le (by rw [List.length_drop]; exact Nat.le_refl _)]
  · rw [Nat.min_eq_right (by omega), List.drop_of_length_le (Nat.le_refl _), List.drop_of_length_le (by omega)]
    simp
theorem cut_to (u : W) (i : Nat) : cutS (tx u) none (some (i : Int)) = tx (u.take i) := by
  unfold cutS
  rw [tx_len, tx_list]
  have h1 : HT.sIx u.length 0 none = 0 := rfl
  have h2 : HT.sIx u.length u.length (some (i : Int)) = min i u.length := by
    unfold HT.sIx
    simp
    try omega
  rw [h1, h2, List.drop_zero, Nat.sub_zero]
  show (⟨_⟩ : Str) = ⟨_⟩
  congr 2
  by_cases h : i ≤ u.length
  · rw [Nat.min_eq_left h]
  · rw [Nat.min_eq_right (by omega), List.take_of_length_le (Nat.le_refl _), List.take_of_length_le (by omega)]
section
variable {P : Program} {w : World} {K : PySem.W.Frag} {mg : Str → Option Value} {base : Heap}
variable {fNL fNW fNO fNN : Addr} {dNL dNW dNO dNN : FuncData}
theorem scPw : FnScope ["word", "times"] ["word", "times"] (defScope sPower) := ⟨rfl, rfl, rfl, by decide +kernel, rfl, by decide +kernel, by decide +kernel⟩
theorem ok_power {f : Addr} {fd : FuncData} (F : Fun K "power" "power" sPower f fd) (AW : Fn K mg "need_word" sNeedWord ["word"] fNW dNW) (GW : FnOk P w K mg base CX0 2 fNW dNW ["word"] spNeedWord)
    (AN : Fn K mg "need_number" sNeedNum ["value", "least", "most"] fNN dNN) (GN : FnOk P w K mg base CX0 3 fNN dNN ["value", "least", "most"] spNeedNum) : FnOk P w K mg base CX0 4 f fd ["word", "times"] spPower := by
  refine F.ok scPw (fun vs H Q E h => ?_) (fun cdv A outer s H vs Q E hr h => ?_)
  · obtain ⟨u, n, rfl, _⟩ := h
    rfl
  · obtain ⟨u, n, rfl, hu, hl, h0, h1, q⟩ := h
    refine ⟨_, pss_cons (ps_expr (pe_call GW (hr.mono (by decide)) rfl AW.g AW.F.kp AW.b .nil pass0 (pa_cons (pv 0) pa_nil)))
      (pss_cons (ps_expr (pe_call GN hr rfl AN.g AN.F.kp AN.b .nil pass0 (pa_cons (pv 1) (pa_cons pe_int (pa_cons pe_int pa_nil)))))
      (pss_one (ps_ret (pe_op op_mulS (pv 0) (pv 1))))), ?_⟩
    refine ⟨_, rfl, u, rfl, hu, _, rfl, n, 0, 60, rfl, h0, h1, ?_⟩
    exact ⟨_, rfl, _, rfl, tx u, n, rfl, rfl, mulOk_w hl h0 h1, q⟩
theorem scLa : FnScope ["word", "number"] ["word", "number"] (defScope sLast) := ⟨rfl, rfl, rfl, by decide +kernel, rfl, by decide +kernel, by decide +kernel⟩
theorem ok_last {f : Addr} {fd : FuncData} (F : Fun K "last_letters" "last_letters" sLast f fd) (T : TN mg) (AW : Fn K mg "need_word" sNeedWord ["word"] fNW dNW) (GW : FnOk P w K mg base CX0 2 fNW dNW ["word"] spNeedWord)
    (AN : Fn K mg "need_number" sNeedNum ["value", "least", "most"] fNN dNN) (GN : FnOk P w K mg base CX0 3 fNN dNN ["value", "least", "most"] spNeedNum) : FnOk P w K mg base CX0 4 f fd ["word", "number"] spLast := by
  refine F.ok scLa (fun vs H Q E h => ?_) (fun cdv A outer s H vs Q E hr h => ?_)
  · obtain ⟨u, n, rfl, _⟩ := h
    rfl
  · obtain ⟨u, n, rfl, hu, hl, h0, h1, q⟩ := h
    refine ⟨_, pss_cons (ps_expr (pe_call GW (hr.mono (by decide)) rfl AW.g AW.F.kp AW.b .nil pass0 (pa_cons (pv 0) pa_nil)))
      (pss_cons (ps_expr (pe_call GN hr rfl AN.g AN.F.kp AN.b .nil pass0 (pa_cons (pv 1) (pa_cons pe_int (pa_cons pe_int pa_nil)))))
      (pss_one (ps_ret (pe_slice sl_str (pv 0) (po_some (pe_callB (call_max2 rfl) (by rfl) T.max (by decide +kernel) (pa_cons pe_int (pa_cons (pe_op op_sub (pe_callB call_len_str (by rfl) T.len PySem.boot_len (pa_cons (pv 0) pa_nil)) (pv 1)) pa_nil)))) po_none)))), ?_⟩
    refine ⟨_, rfl, u, rfl, hu, _, rfl, n, 0, 400, rfl, h0, h1, ?_⟩
    have hz : (tx u).length ≤ sizeLine := by rw [tx_len, sizeLine_eq]; omega
    refine ⟨_, rfl, _, rfl, _, rfl, hz, _, rfl, _, _, rfl, rfl, _, _, rfl, _, rfl, tx u, rfl, hz, ?_⟩
    rw [tx_len]
    have e : (if ((u.length : Int) - n) > 0 then ((u.length : Int) - n) else 0) = ((u.length - n.toNat : Nat) : Int) := by
      split <;> omega
    rw [e, cut_from]
    exact q
theorem scFi : FnScope ["word", "number"] ["word", "number"] (defScope sFirst) := ⟨rfl, rfl, rfl, by decide +kernel, rfl, by decide +kernel, by decide +kernel⟩
theorem ok_first {f : Addr} {fd : FuncData} (F : Fun K "first_letters" "first_letters" sFirst f fd) (AW : Fn K mg "need_word" sNeedWord ["word"] fNW dNW) (GW : FnOk P w K mg base CX0 2 fNW dNW ["word"] spNeedWord)
    (AN : Fn K mg "need_number" sNeedNum ["value", "least", "most"] fNN dNN) (GN : FnOk P w K mg base CX0 3 fNN dNN ["value", "least", "most"] spNeedNum) : FnOk P w K mg base CX0 4 f fd ["word", "number"] spFirst := by
  refine F.ok scFi (fun vs H Q E h => ?_) (fun cdv A outer s H vs Q E hr h => ?_)
  · obtain ⟨u, n, rfl, _⟩ := h
    rfl
  · obtain ⟨u, n, rfl, hu, hl, h0, h1, q⟩ := h
    refine ⟨_, pss_cons (ps_expr (pe_call GW (hr.mono (by decide)) rfl AW.g AW.F.kp AW.b .nil pass0 (pa_cons (pv 0) pa_nil)))
      (pss_cons (ps_expr (pe_call GN hr rfl AN.g AN.F.kp AN.b .nil pass0 (pa_cons (pv 1) (pa_cons pe_int (pa_cons pe_int pa_nil)))))
      (pss_one (ps_ret (pe_slice sl_str (pv 0) po_none (po_some (pv 1)))))), ?_⟩
    refine ⟨_, rfl, u, rfl, hu, _, rfl, n, 0, 400, rfl, h0, h1, ?_⟩
    have hz : (tx u).length ≤ sizeLine := by rw [tx_len, sizeLine_eq]; omega
    refine ⟨_, rfl, _, rfl, _, rfl, tx u, rfl, hz, ?_⟩
    have e : n = ((n.toNat : Nat) : Int) := by omega
    rw [e, cut_to]
    exact q
theorem scCo : FnScope ["letters", "word", "letter"] ["letters", "word"] (defScope sCounts) := ⟨rfl, rfl, rfl, by decide +kernel, rfl, by decide +kernel, by decide +kernel⟩
theorem ok_counts {f : Addr} {fd : FuncData} (F : Fun K "counts" "counts" sCounts f fd) (T : TN mg) (AL : Fn K mg "need_letters" sNeedLet ["letters"] fNL dNL) (GL : FnOk P w K mg base CX0 3 fNL dNL ["letters"] spNeedLet)
    (AW : Fn K mg "need_word" sNeedWord ["word"] fNW dNW) (GW : FnOk P w K mg base CX0 2 fNW dNW ["word"] spNeedWord)
    (AO : Fn K mg "need_over" sNeedOver ["letters", "word"] fNO dNO) (GO : FnOk P w K mg base CX0 2 fNO dNO ["letters", "word"] spNeedOver) : FnOk P w K mg base CX0 4 f fd ["letters", "word"] spCounts := by
  refine F.ok scCo (fun vs H Q E h => ?_) (fun cdv A outer s H vs Q E hr h => ?_)
  · obtain ⟨L, u, rfl, _⟩ := h
    rfl
  · obtain ⟨L, u, rfl, hL, hu, hl, hc, q⟩ := h
    have hr2 : Room 2 _ := hr.mono (by decide)
    refine ⟨_, pss_cons (ps_expr (pe_call GL hr rfl AL.g AL.F.kp AL.b .nil pass0 (pa_cons (pv 0) pa_nil)))
      (pss_cons (ps_expr (pe_call GW hr2 rfl AW.g AW.F.kp AW.b .nil pass0 (pa_cons (pv 1) pa_nil)))
      (pss_cons (ps_expr (pe_call GO hr2 rfl AO.g AO.F.kp AO.b .nil pass0 (pa_cons (pv 0) (pa_cons (pv 1) pa_nil))))
      (pss_one (ps_ret (pe_callTy call_tuple_of (by rfl) T.tuple (by decide +kernel) (pa_cons (pe_lc (own := [("letter", 2)]) (g := gName 2) (tt := tYes) rfl scCo.nd (pi_str (pv 0))
        (blkOk_by (own := [("letter", 2)]) (N := ["letters", "word", "letter"]) (sc := defScope sCounts) (by decide +kernel)) (fun _ _ _ _ _ => pg_name (i := 2) scCo.nd rfl (Or.inl rfl)) (fun _ _ _ _ _ => pts_nil)
        (fun _ _ _ _ _ => pe_m1 PySem.F.slot_str_count PySem.F.type_str_count mt_count (pv 1) (pv 2))) pa_nil)))))), ?_⟩
    refine ⟨_, rfl, L, rfl, hL, fun H1 s1 => ⟨_, rfl, u, rfl, hu, _, rfl, _, rfl, L, u, rfl, hl, hc, fun H2 s2 => ?_⟩⟩
    refine ⟨_, rfl, tx L, rfl, fun D hD => ?_⟩
    have sz : (tx L).cps.size = L.length := size_tx L
    refine lc_it walk_str (fun i H3 => Same H2 H3 ∧ H3 D = some (.lst ((L.take i).map fun c => .int (u.count c : Int)))) ⟨same_upd hD, upd_same⟩ (fun _ _ _ _ => trivial) ?_ ?_
    · rintro i x H3 H4 hi ⟨s3, hd⟩ ⟨rfl, c, hx, rfl⟩
      have hx' : L[i]? = some c := by
        rw [← Array.getElem?_toList, tx_list] at hx
        exact hx
      refine ⟨rfl, _, rfl, ⟨_, rfl⟩, _, rfl, tx u, sg c, rfl, rfl, _, hd, ?_, same_at s3 hD, ?_⟩
      · rw [List.length_map, List.length_take, sizeLine_eq]
        have := hL.few
        omega
      · rw [count_tx, upd_same, List.take_add_one, hx', List.map_append] <;> rfl
    · rintro H3 ⟨s3, hd⟩
      rw [sz, List.take_length] at hd
      have sD : Same H H3 := s1.trans (s2.trans s3)
      exact ⟨D, _, rfl, .inl ⟨SqL.of hd, fun t ht => q t _ (sD.free ht) (same_two sD ht) upd_same⟩⟩
end
end WK

set_option Elab.async false
set_option linter.all false
set_option maxRecDepth 100000
set_option maxHeartbeats 8000000
/-! Pieces. -/
namespace WK
open PySem L2 PyProof.Rows K1
open TX (sg sigs)
open PySem.W (Frag kitOne)
/-! ### a comprehension over two walks -/
section
variable {J J1 : It} {n n1 : Nat} {G G1 : Hp → Prop} {Y Y1 : Nat → Hp → V → Hp → Prop}
/-- a walk that counts: whatever is asked of a turn is asked of each turn below n, and what holds after the last one is what holds behind the walk -/
theorem counted (w : Walk J n G Y) {Turn : Nat → Hp → V → Hp → (Hp → Prop) → Prop} {Behind : Hp → Prop} {start : Hp} (At : Nat → Hp → Prop) (first : At 0 start) (low : ∀ i H, i ≤ n → At i H → G H)
    (turn : ∀ i x H H', i < n → At i H → Y i H x H' → Turn i H x H' (At (i + 1))) (last : ∀ H, At n H → Behind H) :
    ∃ V : Nat → Nat → Hp → Prop, (∃ k, V 0 k start) ∧ ∀ i k H, V i k H → (J.stop i H ∧ Behind H) ∨ (J.go i H ∧ ∃ Next : Hp → Prop, (∀ H', Next H' → ∃ k', k' < k ∧ V (i + 1) k' H') ∧ ∀ x H', J.yld i H x H' → Turn i H x H' Next) := by
  refine ⟨fun i k H => i + k = n ∧ At i H, ⟨n, Nat.zero_add n, first⟩, fun i k H ⟨sum, here⟩ => ?_⟩
  have g := low i H (by omega) here
  rcases Nat.eq_or_lt_of_le (show i ≤ n by omega) with rfl | more
  · exact Or.inl ⟨w.stops H g, last H here⟩
  · exact Or.inr ⟨w.goes i H more g, At (i + 1), fun H' next => ⟨k - 1, by omega, by omega, next⟩, fun x H' y => turn i x H H' more here (w.yields i H x H' more g y)⟩
end
/-! ### pairs of a piece and an end -/
def Tups (H : Hp) : List Addr → List (W × Nat) → Prop
  | [], [] => True
  | a :: as, p :: ps => H a = some (.tup [.str (tx p.1), .int (p.2 : Int)]) ∧ Tups H as ps
  | _, _ => False
theorem Tups.len {H : Hp} : ∀ {as : List Addr} {ps : List (W × Nat)}, Tups H as ps → as.length = ps.length
  | [], [], _ => rfl
  | _ :: _, _ :: _, h => by rw [List.length_cons, List.length_cons, h.2.len]
  | [], _ :: _, h => h.elim
  | _ :: _, [], h => h.elim
theorem Tups.map {H H' : Hp} (k : ∀ a xs, H a = some (.tup xs) → H' a = some (.tup xs)) : ∀ {as : List Addr} {ps : List (W × Nat)}, Tups H as ps → Tups H' as ps
  | [], [], _ => trivial
  | _ :: _, _ :: _, h => ⟨k _ _ h.1, h.2.map k⟩
  | [], _ :: _, h => h.elim
  | _ :: _, [], h => h.elim
theorem Tups.same {H H' : Hp} {as : List Addr} {ps : List (W × Nat)} (h : Tups H as ps) (s : Same H H') : Tups H' as ps := h.map fun _ _ e => s _ _ e
theorem Tups.lst {H : Hp} {D : Addr} {xs : List V} {o : HO} {as : List Addr} {ps : List (W × Nat)} (h : Tups H as ps) (hd : H D = some (.lst xs)) : Tups (upd H D o) as ps :=
  h.map fun a ys e => by rw [upd_ne (fun z => by rw [z, hd] at e; cases e)]; exact e
theorem Tups.snoc {H : Hp} {a : Addr} {p : W × Nat} (ha : H a = some (.tup [.str (tx p.1), .int (p.2 : Int)])) : ∀ {as : List Addr} {ps : List (W × Nat)}, Tups H as ps → Tups H (as ++ [a]) (ps ++ [p])
  | [], [], _ => ⟨ha, trivial⟩
  | _ :: _, _ :: _, h => ⟨h.1, h.2.snoc ha⟩
  | [], _ :: _, h => h.elim
  | _ :: _, [], h => h.elim
theorem Tups.get {H : Hp} : ∀ {as : List Addr} {ps : List (W × Nat)} {i : Nat} {a : Addr}, Tups H as ps → as[i]? = some a → ∃ p, ps[i]? = some p ∧ H a = some (.tup [.str (tx p.1), .int (p.2 : Int)])
  | [], [], i, a, _, e => by simp at e
  | b :: as, p :: ps, 0, a, h, e => by
    have : b = a := Option.some.inj e
    exact ⟨p, rfl, by rw [← this]; exact h.1⟩
  | b :: as, p :: ps, i + 1, a, h, e => h.2.get e
  | [], _ :: _, _, _, h, _ => h.elim
  | _ :: _, [], _, _, h, _ => h.elim
/-! ### ends and numbers of pieces -/
theorem ple_le (S w : W) : ∀ k, ∀ p ∈ ple S w k, p.2 ≤ w.length
  | 0, p, h => by
    have : p = ([], 0) := List.mem_singleton.mp h
    rw [this]
    exact Nat.zero_le _
  | k + 1, p, h => by
    obtain ⟨q, hq, hp⟩ := List.mem_flatMap.mp h
    obtain ⟨c, hc, e⟩ := List.mem_filterMap.mp hp
    cases hn : nx w c q.2 with
    | none => rw [hn] at e; cases e
    | some e' =>
      rw [hn] at e
      have : (q.1 ++ [c], e') = p := Option.some.inj e
      rw [← this]
      exact (nx_some hn).2.1
theorem ple_few (S w : W) (hS : S.length ≤ 3) : ∀ k, (ple S w k).length ≤ 3 ^ k ∧ ∀ p ∈ ple S w k, p.1.length = k
  | 0 => ⟨Nat.le_refl _, fun p h => by rw [List.mem_singleton.mp h] <;> rfl⟩
  | k + 1 => by
    obtain ⟨h1, h2⟩ := ple_few S w hS k
    constructor
    · have : ∀ l : List (W × Nat), (l.flatMap fun p => S.filterMap fun c => (nx w c p.2).map fun e => (p.1 ++ [c], e)).length ≤ l.length * 3 := by
        intro l
        induction l with
        | nil => exact Nat.le_refl _
        | cons p l ih =>
          rw [List.flatMap_cons, List.length_append, List.length_cons]
          have := List.length_filterMap_le (fun c => (nx w c p.2).map fun e => (p.1 ++ [c], e)) S
          omega
      have := this (ple S w k)
      show ((ple S w k).flatMap _).length ≤ 3 ^ k * 3
      omega
    · intro p h
      obtain ⟨q, hq, hp⟩ := List.mem_flatMap.mp h
      obtain ⟨c, hc, e⟩ := List.mem_filterMap.mp hp
      cases hn : nx w c q.2 with
      | none => rw [hn] at e; cases e
      | some e' =>
        rw [hn] at e
        have : (q.1 ++ [c], e') = p := Option.some.inj e
        rw [← this, List.length_append, h2 q hq] <;> rfl
theorem allP_len (S w : W) (hS : S.length ≤ 3) : ∀ k, k ≤ 4 → (allP S w k).length ≤ (k + 1) * 81
  | 0, _ => by show 1 ≤ 81; decide
  | k + 1, h => by
    have ih := allP_len S w hS k (by omega)
    have h1 := (ple_few S w hS (k + 1)).1
    have h2 : (3 : Nat) ^ (k + 1) ≤ 3 ^ 4 := Nat.pow_le_pow_right (by decide) (by omega)
    have h3 : (3 : Nat) ^ 4 = 81 := by decide
    show (allP S w k ++ (pl S w (k + 1)).map (·.1)).length ≤ _
    rw [← ple_fst, List.length_append, List.length_map]
    omega
theorem allP_of (u : W) (m : Nat) : allP (sigs u) u m = told u m := allP_is _ _ _
def spPieces : Sp := fun vs H Q _ => ∃ (u : W) (m : Nat), vs = [.str (tx u), .int (m : Int)] ∧ Low u ∧ u.length < 64 ∧ (sigs u).length ≤ 3 ∧ m ≤ 4 ∧
  ∀ t H', H t = none → Same H H' → H' t = some (.tup ((told u m).map fun p => .str (tx p))) → Q (.ref t) H'
section
variable {P : Program} {w : World} {K : PySem.W.Frag} {mg : Str → Option Value} {base : Heap}
variable {fNW fNN : Addr} {dNW dNN : FuncData}
theorem scIP : FnScope ["word", "other", "end", "letter"] ["word", "other"] (defScope sIsPiece) := ⟨rfl, rfl, rfl, by decide +kernel, rfl, by decide +kernel, by decide +kernel⟩
theorem rest_drop {u v : W} {i e : Nat} {c : Nat} (hc : u[i]? = some c) : rest (u.drop i) (v.drop e) = match nx v c e with | none => none | some e' => rest (u.drop (i + 1)) (v.drop e') := by
  have hi := (List.getElem?_eq_some_iff.mp hc).1
  rw [List.drop_eq_getElem_cons hi, (List.getElem?_eq_some_iff.mp hc).2]
  show (after c (v.drop e)).bind _ = _
  cases hn : nx v c e with
  | none =>
    have : after c (v.drop e) = none := by
      unfold nx at hn
      cases ha : after c (v.drop e) with
      | none => rfl
      | some r => rw [ha] at hn; cases hn
    rw [this] <;> rfl
  | some e' => rw [(nx_some hn).2.2] <;> rfl
theorem ok_ispiece {f : Addr} {fd : FuncData} (F : Fun K "is_piece" "is_piece" sIsPiece f fd) (AW : Fn K mg "need_word" sNeedWord ["word"] fNW dNW) (GW : FnOk P w K mg base CX0 2 fNW dNW ["word"] spNeedWord) : FnOk P w K mg base CX0 3 f fd ["word", "other"] spIsPiece := by
  refine F.ok scIP (fun vs H Q E h => ?_) (fun cdv A outer s H vs Q E hr h => ?_)
  · obtain ⟨u, n, rfl, _⟩ := h
    rfl
  · obtain ⟨u, v, rfl, hu, hv, hl, hl2, q⟩ := h
    refine ⟨_, pss_cons (ps_expr (pe_call GW hr rfl AW.g AW.F.kp AW.b .nil pass0 (pa_cons (pv 0) pa_nil)))
      (pss_cons (ps_expr (pe_call GW hr rfl AW.g AW.F.kp AW.b .nil pass0 (pa_cons (pv 1) pa_nil)))
      (pss_cons (ps_set (i := 2) scIP.nd rfl (Or.inl rfl) pe_int)
      (pss_cons (ps_for PassesOwn.never rfl (pi_str (pv 0)) (pg_name (i := 3) scIP.nd rfl (Or.inl rfl))
        (pss_cons (ps_set (i := 2) scIP.nd rfl (Or.inl rfl) (pe_op op_add (pe_bm PySem.F.plainAttrs_str PySem.F.slot_str_find PySem.F.type_str_find mt_find3 (pv 1) (pa_cons (pv 3) (pa_cons (pv 2) pa_nil))) pe_int))
        (pss_one (ps_if (pt_cmpR op_eq (pv 2) pe_int (nomark _)) (pss_one (ps_ret pe_bl)) pss_nil))))
      (pss_one (ps_ret pe_bl))))), ?_⟩
    refine ⟨_, rfl, u, rfl, hu, _, rfl, v, rfl, hv, ?_⟩
    refine ⟨_, rfl, tx u, rfl, ?_⟩
    refine for_it walk_str (fun i σ H1 => H1 = H ∧ ∃ (e : Nat) (l : Option V), e ≤ v.length ∧ σ = [some (.str (tx u)), some (.str (tx v)), some (.int (e : Int)), l] ∧ isP u v = (rest (u.drop i) (v.drop e)).isSome) ⟨rfl, 0, none, Nat.zero_le _, rfl, rfl⟩ (fun _ _ _ _ _ => trivial) ?_ ?_
    · rintro i x σ H1 H2 hi ⟨rfl, e, l, he, rfl, hI⟩ ⟨rfl, c, hx, rfl⟩
      have hx' : u[i]? = some c := by
        rw [← Array.getElem?_toList, tx_list] at hx
        exact hx
      rw [rest_drop hx'] at hI
      refine ⟨_, rfl, rfl, _, rfl, _, rfl, tx v, sg c, (e : Int), rfl, rfl, _, _, rfl, rfl, ?_⟩
      rw [find_tx he]
      refine ⟨_, rfl, rfl, ?_⟩
      cases hn : nx v c e with
      | none =>
        rw [hn] at hI
        rw [hI] at q
        exact ⟨true, rfl, q⟩
      | some e' =>
        rw [hn] at hI
        have h1 := nx_some hn
        have ne : ¬ (V.int (((e' : Int) - 1) + 1) = V.int 0) := fun z => by
          have := V.int.inj z
          omega
        refine ⟨false, congrArg V.bl (decide_eq_false ne), rfl, e', some (.str (sg c)), h1.2.1, ?_, hI⟩
        have e2 : ((e' : Int) - 1) + 1 = (e' : Int) := by omega
        show _ = _
        rw [← e2] <;> rfl
    · rintro σ H1 ⟨rfl, e, l, he, rfl, hI⟩
      rw [size_tx, List.drop_of_length_le (Nat.le_refl _)] at hI
      have : isP u v = true := hI
      rw [this] at q
      exact q
abbrev rFind : V → List V → Hp → VK → Prop := fun x xs H Q => ∃ (a b : Str) (i : Int), x = .str a ∧ xs = [.str b, .int i] ∧ Q (.int (Txt.find3 a b i)) H
abbrev rAddS : R2 := fun x y H Q => ∃ i j, x = .str i ∧ y = .str j ∧ i.length + j.length ≤ sizeLine ∧ Q (.str (i ++ j)) H
abbrev tFind (K : Frag) : TE := tBM K "str" rFind (tVar 0) (tCons (tVar 8) (tCons (tVar 7) tNil))
abbrev NP : List Str := ["word", "most", "letters", "layer", "found", "_", "piece", "end", "letter"]
theorem scPi : FnScope NP ["word", "most"] (defScope sPieces) := ⟨rfl, rfl, rfl, by decide +kernel, rfl, by decide +kernel, by decide +kernel⟩
abbrev o1 : List (Str × Nat) := [("piece", 6), ("end", 7), ("letter", 8)]
abbrev o2 : List (Str × Nat) := [("piece", 6), ("_", 5)]
theorem ok_pieces {f : Addr} {fd : FuncData} (F : Fun K "pieces" "pieces" sPieces f fd) (T : TN mg) (AW : Fn K mg "need_word" sNeedWord ["word"] fNW dNW) (GW : FnOk P w K mg base CX0 2 fNW dNW ["word"] spNeedWord)
    (AN : Fn K mg "need_number" sNeedNum ["value", "least", "most"] fNN dNN) (GN : FnOk P w K mg base CX0 3 fNN dNN ["value", "least", "most"] spNeedNum) : FnOk P w K mg base CX0 4 f fd ["word", "most"] spPieces := by
  refine F.ok scPi (fun vs H Q E h => ?_) (fun cdv A outer s H vs Q E hr h => ?_)
  · obtain ⟨u, n, rfl, _⟩ := h
    rfl
  · obtain ⟨u, m, rfl, hu, hl, hS, hm, q⟩ := h
    refine ⟨_, pss_cons (ps_expr (pe_call GW (hr.mono (by decide)) rfl AW.g AW.F.kp AW.b .nil pass0 (pa_cons (pv 0) pa_nil)))
      (pss_cons (ps_expr (pe_call GN hr rfl AN.g AN.F.kp AN.b .nil pass0 (pa_cons (pv 1) (pa_cons pe_int (pa_cons pe_int pa_nil)))))
      (pss_cons (ps_set (i := 2) scPi.nd rfl (Or.inr rfl) (pe_callB (TX.cr_sortX rfl) (by rfl) T.sorted (by decide +kernel) (pa_cons (pe_callTy (TX.call_setX rfl) (by rfl) T.set (by decide +kernel) (pa_cons (pv 0) pa_nil)) pa_nil)))
      (pss_cons (ps_set (i := 3) scPi.nd rfl (Or.inl rfl) (pe_lst (pa_cons (pe_tup (pa_cons pe_str (pa_cons pe_int pa_nil))) pa_nil)))
      (pss_cons (ps_set (i := 4) scPi.nd rfl (Or.inl rfl) (pe_lst (pa_cons pe_str pa_nil)))
      (pss_cons (ps_for PassesOwn.never rfl (pi_range1 rfl T.rng (pa_cons (pv 1) pa_nil)) (pg_name (i := 5) scPi.nd rfl (Or.inl rfl))
        (pss_cons (ps_setLc2 (i := 3) (own := o1) (vs1 := [8]) (wi1 := iList K (tVar 2)) (g := gTup K 2 (gCons (gName 6) (gCons (gName 7) gNil))) (g1 := gName 8) (tt := tYes) (tt1 := tTest (tOp (rI0 fun i j => .bl (decide (j ≤ i))) (tFind K) (tC (.int 0)))) (te := tTup (tCons (tOp rAddS (tVar 6) (tVar 8)) (tCons (tOp (rI0 fun i j => .int (i + j)) (tFind K) (tC (.int 1))) tNil))) rfl scPi.nd rfl rfl (sw_true rfl rfl rfl (by decide +kernel)) (pi_list (pv 3)) (blkOk_by (own := o1) (N := NP) (sc := defScope sPieces) (by decide +kernel)) (by decide)
            (fun _ _ _ _ _ => pg_tup (by rfl) (pgs_cons (pg_name (i := 6) scPi.nd rfl (Or.inl rfl)) (pgs_cons (pg_name (i := 7) scPi.nd rfl (Or.inl rfl)) pgs_nil))) (fun _ _ _ _ _ => pts_nil)
            (fun _ _ _ _ _ => pi_list (pv 2)) (fun _ _ _ _ _ => pg_name (i := 8) scPi.nd rfl (Or.inl rfl))
            (fun _ _ _ _ _ => pts_one (pt_cmpR op_ge (pe_bm PySem.F.plainAttrs_str PySem.F.slot_str_find PySem.F.type_str_find mt_find3 (pv 0) (pa_cons (pv 8) (pa_cons (pv 7) pa_nil))) pe_int (nomark _)))
            (fun _ _ _ _ _ => pe_tup (pa_cons (pe_op op_add_str (pv 6) (pv 8)) (pa_cons (pe_op op_add (pe_bm PySem.F.plainAttrs_str PySem.F.slot_str_find PySem.F.type_str_find mt_find3 (pv 0) (pa_cons (pv 8) (pa_cons (pv 7) pa_nil))) pe_int) pa_nil))))
        (pss_one (ps_expr (pe_bm PySem.F.plainAttrs_list PySem.F.slot_list_extend PySem.F.type_list_extend mt_extend (pv 4) (pa_cons (pe_lc (own := o2) (g := gTup K 2 (gCons (gName 6) (gCons (gName 5) gNil))) (tt := tYes) (te := tVar 6) rfl scPi.nd (pi_list (pv 3))
            (blkOk_by (own := o2) (N := NP) (sc := defScope sPieces) (by decide +kernel))
            (fun _ _ _ _ _ => pg_tup (by rfl) (pgs_cons (pg_name (i := 6) scPi.nd rfl (Or.inl rfl)) (pgs_cons (pg_name (i := 5) scPi.nd rfl (Or.inl rfl)) pgs_nil))) (fun _ _ _ _ _ => pts_nil) (fun _ _ _ _ _ => pv 6)) pa_nil))))))
      (pss_one (ps_ret (pe_callTy call_tuple_of (by rfl) T.tuple (by decide +kernel) (pa_cons (pv 4) pa_nil))))))))), ?_⟩
    have hz : (tx u).cps.size < 64 := by rw [size_tx]; exact hl
    refine ⟨_, rfl, u, rfl, hu, _, rfl, (m : Int), 0, 4, rfl, by omega, by omega, ?_⟩
    refine ⟨_, rfl, tx u, rfl, hz, fun a o ha ho => ?_⟩
    refine ⟨a, tx u, o, rfl, upd_same, ho, hz, fun lt hlt => ?_⟩
    rw [tx_list]
    refine ⟨(by show 2 ≤ sizeLine; decide), fun p0 hp0 => ⟨(by show 1 ≤ sizeLine; decide), fun la hla => ⟨(by show 1 ≤ sizeLine; decide), fun fo hfo => ?_⟩⟩⟩
    have e1 : Same H (upd (upd H a o) lt (.lst ((sigs u).map fun c => V.str (sg c)))) := same_two (same_upd ha) hlt
    have e2 : (upd (upd H a o) lt (.lst ((sigs u).map fun c => V.str (sg c)))) lt = some (.lst ((sigs u).map fun c => V.str (sg c))) := upd_same
    generalize upd (upd H a o) lt (.lst ((sigs u).map fun c => V.str (sg c))) = G1 at e1 e2 hp0 hla hfo ⊢
    have f0 : (upd (upd G1 p0 (.tup [.str "", .int 0])) la (.lst [.ref p0])) lt = some (.lst ((sigs u).map fun c => V.str (sg c))) := same_two (same_upd hp0) hla _ _ e2
    have f1 : Same H (upd (upd G1 p0 (.tup [.str "", .int 0])) la (.lst [.ref p0])) := e1.trans (same_two (same_upd hp0) hla)
    have f2 : (upd (upd G1 p0 (.tup [.str "", .int 0])) la (.lst [.ref p0])) la = some (.lst [.ref p0]) := upd_same
    have f3 : (upd (upd G1 p0 (.tup [.str "", .int 0])) la (.lst [.ref p0])) p0 = some (.tup [.str "", .int 0]) := same_upd hla _ _ upd_same
    generalize upd (upd G1 p0 (.tup [.str "", .int 0])) la (.lst [.ref p0]) = G2 at f0 f1 f2 f3 hfo ⊢
    have nfo : H fo = none := f1.free hfo
    have ltfo : lt ≠ fo := fun z => by rw [z, hfo] at f0; cases f0
    have lafo : la ≠ fo := fun z => by rw [z, hfo] at f2; cases f2
    refine ⟨_, rfl, (m : Int), rfl, by omega, by omega, ?_⟩
    refine for_range (lo := 0) (n := m) (fun k σ H1 => ∃ la a5, σ = [some (.str (tx u)), some (.int m), some (.ref lt), some (.ref la), some (.ref fo), a5, none, none, none] ∧ Same H H1 ∧ H1 lt = some (.lst ((sigs u).map fun c => V.str (sg c))) ∧
      (∃ as, H1 la = some (.lst (as.map V.ref)) ∧ Tups H1 as (ple (sigs u) u k)) ∧ H1 fo = some (.lst ((allP (sigs u) u k).map fun p => V.str (tx p))) ∧ la ≠ fo) ?_ ?_ ?_
    · exact ⟨la, none, rfl, f1.trans (same_upd hfo), same_upd hfo _ _ f0, ⟨[p0], same_upd hfo _ _ f2, same_upd hfo _ _ f3, trivial⟩, upd_same, lafo⟩
    · rintro k σ H1 hk ⟨la, a5, rfl, s1, hlt1, ⟨as, hla1, tu⟩, hfo1, lafo⟩
      refine ⟨_, rfl, la, rfl, ⟨_, SqL.of hla1⟩, fun D hD => ?_⟩
      have hlen := (ple_few (sigs u) u hS k).1
      refine counted walk_list (fun i H2 => Same H1 H2 ∧ ∃ bs, H2 D = some (.lst (bs.map V.ref)) ∧ Tups H2 bs (((ple (sigs u) u k).take i).flatMap fun p => (sigs u).filterMap fun c => (nx u c p.2).map fun e => (p.1 ++ [c], e)))
        ⟨same_upd hD, [], upd_same, trivial⟩ (fun i H2 _ ⟨s2, _⟩ => SqL.of (s2 _ _ hla1)) ?_ ?_
      · rintro i x H2 H3 hi ⟨s2, bs, hbs, tb⟩ ⟨rfl, hx⟩
        rw [List.getElem?_map] at hx
        cases hc : as[i]? with
        | none => rw [hc] at hx; cases hx
        | some a1 =>
          rw [hc] at hx
          obtain rfl : V.ref a1 = x := Option.some.inj hx
          obtain ⟨p, hp, hta⟩ := tu.get hc
          have hpm := List.mem_of_getElem? hp
          have hpl : p.2 ≤ u.length := ple_le _ _ _ _ hpm
          have hp1 : p.1.length = k := (ple_few (sigs u) u hS k).2 _ hpm
          refine ⟨a1, _, rfl, SqT.of (s2 _ _ hta), rfl, _, _, rfl, _, _, rfl, rfl, rfl, _, rfl, lt, rfl, ⟨_, SqL.of (s2 _ _ hlt1)⟩, ?_⟩
          refine counted walk_list (fun j H4 => Same H1 H4 ∧ ∃ bs, H4 D = some (.lst (bs.map V.ref)) ∧ Tups H4 bs ((((ple (sigs u) u k).take i).flatMap fun p => (sigs u).filterMap fun c => (nx u c p.2).map fun e => (p.1 ++ [c], e)) ++ ((sigs u).take j).filterMap fun c => (nx u c p.2).map fun e => (p.1 ++ [c], e)))
            ⟨s2, bs, hbs, by rw [List.take_zero, List.filterMap_nil, List.append_nil]; exact tb⟩ (fun j H4 _ ⟨s4, _⟩ => SqL.of (s4 _ _ hlt1)) ?_ ?_
          · rintro j y H5 H6 hj ⟨s5, cs, hcs, tc⟩ ⟨rfl, hy⟩
            rw [List.getElem?_map] at hy
            cases hc2 : (sigs u)[j]? with
            | none => rw [hc2] at hy; cases hy
            | some c =>
              rw [hc2] at hy
              obtain rfl : V.str (sg c) = y := Option.some.inj hy
              have tk : (sigs u).take (j + 1) = (sigs u).take j ++ [c] := by rw [List.take_add_one, hc2] <;> rfl
              refine ⟨rfl, _, rfl, rfl, _, rfl, _, rfl, tx u, sg c, (p.2 : Int), rfl, rfl, _, _, rfl, rfl, _, rfl, ?_⟩
              rw [find_tx hpl, tk, List.filterMap_append, ← List.append_assoc]
              have e0 : List.filterMap (fun c => (nx u c p.2).map fun e => (p.1 ++ [c], e)) [c] = match nx u c p.2 with | none => [] | some e => [(p.1 ++ [c], e)] := by
                rw [List.filterMap_cons]
                cases nx u c p.2 <;> rfl
              rw [e0]
              cases hn : nx u c p.2 with
              | none =>
                dsimp only
                rw [if_neg (by decide), List.append_nil]
                exact ⟨s5, cs, hcs, tc⟩
              | some e' =>
                have h1 := nx_some hn
                dsimp only
                have h0 : (0 : Int) ≤ (e' : Int) - 1 := by omega
                rw [if_pos (decide_eq_true h0)]
                refine ⟨_, rfl, _, rfl, _, _, rfl, rfl, ?_, _, rfl, rfl, _, rfl, _, rfl, tx u, sg c, (p.2 : Int), rfl, rfl, _, _, rfl, rfl, (by show 2 ≤ sizeLine; decide), fun t ht => ?_⟩
                · rw [tx_len, hp1, sizeLine_eq]
                  show k + 1 ≤ _
                  omega
                rw [find_tx hpl, hn]
                have nt := ht
                have hDt : D ≠ t := fun z => by rw [← z, hcs] at nt; cases nt
                have eD := same_upd nt (o := .tup [.str (tx p.1 ++ sg c), .int ((e' : Int) - 1 + 1)]) _ _ hcs
                refine ⟨cs.map V.ref, eD, ?_, same_at (same_two s5 nt) hD, cs ++ [t], ?_, ?_⟩
                · have hl1 := tc.len
                  have hl2 := (ple_few (sigs u) u hS k).1
                  have hl3 : ∀ l : List (W × Nat), (l.flatMap fun p => (sigs u).filterMap fun c => (nx u c p.2).map fun e => (p.1 ++ [c], e)).length ≤ l.length * 3 := by
                    intro l
                    induction l with
                    | nil => exact Nat.le_refl _
                    | cons p l ih =>
                      rw [List.flatMap_cons, List.length_append, List.length_cons]
                      have := List.length_filterMap_le (fun c => (nx u c p.2).map fun e => (p.1 ++ [c], e)) (sigs u)
                      omega
                  have hl4 := hl3 ((ple (sigs u) u k).take i)
                  have hl5 := List.length_filterMap_le (fun c => (nx u c p.2).map fun e => (p.1 ++ [c], e)) ((sigs u).take j)
                  rw [List.length_append] at hl1
                  rw [List.length_take] at hl4 hl5
                  have hl6 : (3 : Nat) ^ k ≤ 3 ^ 4 := Nat.pow_le_pow_right (by decide) (by omega)
                  simp only [List.length_map, sizeLine_eq]
                  have : (3 : Nat) ^ 4 = 81 := by decide
                  omega
                · rw [upd_same, List.map_append] <;> rfl
                · refine (Tups.lst ?_ eD)
                  refine Tups.snoc ?_ (tc.same (same_upd nt))
                  rw [upd_same]
                  have q1 : (e' : Int) - 1 + 1 = (e' : Int) := by omega
                  show some (HO.tup [V.str (tx p.1 ++ tx [c]), V.int ((e' : Int) - 1 + 1)]) = _
                  rw [q1, tx_app]
          · rintro H4 ⟨s4, cs, hcs, tc⟩
            refine ⟨s4, cs, hcs, ?_⟩
            have tk : (ple (sigs u) u k).take (i + 1) = (ple (sigs u) u k).take i ++ [p] := by rw [List.take_add_one, hp] <;> rfl
            rw [tk, List.flatMap_append, List.flatMap_cons, List.flatMap_nil, List.append_nil]
            rw [List.length_map, List.take_length] at tc
            exact tc
      · rintro H2 ⟨s2, bs, hbs, tb⟩
        rw [List.length_map, tu.len, List.take_length] at tb
        have tb' : Tups H2 bs (ple (sigs u) u (k + 1)) := tb
        have hlb := tb'.len
        have few := (ple_few (sigs u) u hS (k + 1)).1
        have fewk : (3 : Nat) ^ (k + 1) ≤ 3 ^ 4 := Nat.pow_le_pow_right (by decide) (by omega)
        have e81 : (3 : Nat) ^ 4 = 81 := by decide
        refine ⟨_, rfl, .inl ⟨rfl, _, SqL.of (s2 _ _ hfo1)⟩, ?_⟩
        refine ⟨_, rfl, D, rfl, ⟨_, SqL.of hbs⟩, fun D2 hD2 => ?_⟩
        refine lc_list (xs := bs.map V.ref) (fun i H3 => Same H2 H3 ∧ H3 D2 = some (.lst (((ple (sigs u) u (k + 1)).take i).map fun p => V.str (tx p.1)))) ⟨same_upd hD2, upd_same⟩ (fun i H3 _ ⟨s3, _⟩ => SqL.of (s3 _ _ hbs)) ?_ ?_
        · rintro i x H3 hx ⟨s3, hd⟩
          rw [List.getElem?_map] at hx
          cases hc : bs[i]? with
          | none => rw [hc] at hx; cases hx
          | some a1 =>
            rw [hc] at hx
            obtain rfl : V.ref a1 = x := Option.some.inj hx
            obtain ⟨p, hp, hta⟩ := tb'.get hc
            have hi : i < (ple (sigs u) u (k + 1)).length := (List.getElem?_eq_some_iff.mp hp).1
            refine ⟨a1, _, rfl, SqT.of (s3 _ _ hta), rfl, _, _, rfl, _, _, rfl, rfl, rfl, _, rfl, _, hd, ?_, same_at s3 hD2, ?_⟩
            · rw [List.length_map, List.length_take, sizeLine_eq]
              omega
            · rw [upd_same, List.take_add_one, hp, List.map_append] <;> rfl
        · rintro H3 ⟨s3, hd⟩
          rw [List.length_map, hlb, List.take_length] at hd
          have hfo3 := s3 _ _ (s2 _ _ hfo1)
          refine ⟨fo, D2, _, _, rfl, rfl, hfo3, hd, ?_, ?_⟩
          · have := allP_len (sigs u) u hS k (by omega)
            rw [List.length_map, List.length_map, sizeLine_eq]
            omega
          · have Dfo : D ≠ fo := fun z => by rw [z, hfo1] at hD; cases hD
            refine ⟨D, some (.int (0 + (k : Int))), rfl, same_at (s1.trans (s2.trans s3)) nfo, ?_, ⟨bs, ?_, (tb'.same s3).lst hfo3⟩, ?_, Dfo⟩
            · rw [upd_ne ltfo]
              exact s3 _ _ (s2 _ _ hlt1)
            · rw [upd_ne Dfo]
              exact s3 _ _ hbs
            · rw [upd_same]
              show _ = some (HO.lst ((allP (sigs u) u k ++ (pl (sigs u) u (k + 1)).map (·.1)).map fun p => V.str (tx p)))
              rw [← ple_fst, List.map_append, List.map_map] <;> rfl
    · rintro σ H1 ⟨la, a5, rfl, s1, hlt1, ⟨as, hla1, tu⟩, hfo1, lafo⟩
      rw [allP_of] at hfo1
      exact ⟨_, rfl, fo, _, rfl, .inl ⟨SqL.of hfo1, fun t ht => q t _ (s1.free ht) (same_two s1 ht) upd_same⟩⟩
end
end WK

set_option Elab.async false
set_option linter.all false
set_option maxRecDepth 100000
set_option maxHeartbeats 8000000
/-! The law's own drawing and walks. -/
namespace WK
open PySem L2 PyProof.Rows K1
open TX (sg sigs)
open PySem.W (Frag kitOne)
abbrev sMixed : Stmt := top 29
abbrev sLetters : Stmt := top 30
abbrev sWord : Stmt := top 31
abbrev sLCounts : Stmt := top 32
abbrev sLIsP : Stmt := top 33
abbrev sLAll : Stmt := top 34
abbrev sLPieces : Stmt := top 35
theorem but_at {p a : Addr} {H H1 : Hp} {o : HO} (B : But p H H1) (h : H a = none) : But p H (upd H1 a o) := fun b u e n => by rw [upd_ne (ne_of_none e h)]; exact B b u e n
theorem but_two {p a : Addr} {H H1 : Hp} {o : HO} (B : But p H H1) (h : H1 a = none) : But p H (upd H1 a o) := B.trans (But.ofSame (same_upd h))
theorem DiceAt.keep {H H' : Hp} {p : Addr} (h : DiceAt H p) (k : ∀ o, H p = some o → H' p = some o) : DiceAt H' p := by
  obtain ⟨a, b, c, e, r⟩ := h
  exact ⟨a, b, c, k _ e, r⟩
theorem DiceAt.new {H : Hp} {p a : Addr} {o : HO} (h : DiceAt H p) (ha : H a = none) : DiceAt (upd H a o) p := h.keep fun _ e => same_upd ha _ _ e
theorem DiceAt.ne {H : Hp} {p a : Addr} (h : DiceAt H p) (ha : H a = none) : a ≠ p := fun z => by
  obtain ⟨_, _, _, e, _⟩ := h
  rw [← z, ha] at e
  cases e
/-! ### data of texts -/
theorem dp_strs {K : Frag} {H : Hp} : ∀ ys : List Str, DpAll K H (ys.map V.str) (ys.map PyData.str)
  | [] => .nil
  | y :: ys => .cons (.str y) (dp_strs ys)
theorem shaped_strs (ys : List Str) (h : ∀ y ∈ ys, PyData.canLay0 (.str y) = true) : SeqAt.shaped (.list (ys.map PyData.str)) = true ∧ SeqAt.shaped (.tuple (ys.map PyData.str)) = true := by
  have h1 : ∀ ys : List Str, (∀ y ∈ ys, PyData.canLay0 (.str y) = true) → PyData.canLayAll0 (ys.map PyData.str) = true := by
    intro ys
    induction ys with
    | nil => intro _; rfl
    | cons y ys ih =>
      intro h
      show (PyData.canLay0 (.str y) && PyData.canLayAll0 (ys.map PyData.str)) = true
      rw [h y List.mem_cons_self, ih fun z hz => h z (List.mem_cons_of_mem _ hz)] <;> rfl
  have h2 : ∀ ys : List Str, PyData.depthAll (ys.map PyData.str) = 0 := by
    intro ys
    induction ys with
    | nil => rfl
    | cons y ys ih =>
      show max (PyData.depth (.str y)) (PyData.depthAll (ys.map PyData.str)) = 0
      rw [ih] <;> rfl
  constructor
  · show (PyData.canLayAll0 _ && decide (PyData.depthAll _ + 1 ≤ 64)) = true
    rw [h1 ys h, h2 ys] <;> rfl
  · show (PyData.canLayAll0 _ && decide (PyData.depthAll _ + 1 ≤ 64)) = true
    rw [h1 ys h, h2 ys] <;> rfl
theorem eqv_nil (ys : List Str) : PyData.eqv (.list (ys.map PyData.str)) (.list []) = ys.isEmpty := by
  cases ys <;> rfl
theorem seqIx {i : Int} {n : Nat} (h0 : 0 ≤ i) (h1 : i < (n : Int)) : seqIndex? i n = some i.toNat := by
  unfold seqIndex?
  have e : ¬ i < 0 := by omega
  simp only [e, if_false]
  rw [decide_eq_true h0, decide_eq_true h1] <;> rfl
theorem map_erase {α β : Type} (f : α → β) : ∀ (xs : List α) (k : Nat), (xs.map f).eraseIdx k = (xs.eraseIdx k).map f
  | [], _ => rfl
  | _ :: _, 0 => rfl
  | x :: xs, k + 1 => by
    show f x :: (xs.map f).eraseIdx k = f x :: (xs.eraseIdx k).map f
    rw [map_erase f xs k]
def spMixed : Sp := fun vs H Q _ => ∃ (p q : Addr) (ys : List Str), vs = [.ref p, .ref q] ∧ DiceAt H p ∧ q ≠ p ∧ H q = some (.lst (ys.map V.str)) ∧ ys.length < 100 ∧ (∀ y ∈ ys, PyData.canLay0 (.str y) = true) ∧
  ∀ (r : Addr) (zs : List Str) (H' : Hp), zs.Perm ys → H r = none → DiceAt H' p → But p H H' → H' r = some (.lst (zs.map V.str)) → r ≠ p → Q (.ref r) H'
section
variable {P : Program} {w : World} {K : PySem.W.Frag} {mg : Str → Option Value} {base : Heap}
variable {fR fM fO : Addr} {dR dM dO : FuncData}
def muMix : L2.St → Hp → Nat := fun σ H => match σ with
  | [_, _, some (.ref l), _] => (match H l with | some (.lst xs) => xs.length | _ => 0)
  | _ => 0
theorem scMi : FnScope ["_law_dice_here", "_law_items", "_law_left", "_law_found"] ["_law_dice_here", "_law_items"] (defScope sMixed) := ⟨rfl, rfl, rfl, by decide +kernel, rfl, by decide +kernel, by decide +kernel⟩
theorem ok_mixed {f : Addr} {fd : FuncData} (F : Fun K "_law_mixed" "_law_mixed" sMixed f fd) (T : TN mg) (AR : Fn K mg "_law_roll" sRoll ["_law_dice_here", "_law_total"] fR dR) : FnOk P w K mg base CX0 2 f fd ["_law_dice_here", "_law_items"] spMixed := by
  have GR : FnOk P w K mg base CX0 1 fR dR ["_law_dice_here", "_law_total"] spRoll := ok_roll AR.F T.dice
  refine F.ok scMi (fun vs H Q E h => ?_) (fun cdv A outer s H vs Q E hr h => ?_)
  · obtain ⟨u, n, _, rfl, _⟩ := h
    rfl
  · obtain ⟨p, q, ys, rfl, hD, hqp, hq, hl, hy, qq⟩ := h

    refine ⟨_, pss_cons (ps_par (i := 2) (j := 3) (by rfl) scMi.nd rfl rfl (by decide) rfl rfl (pa_cons (pe_callTy call_list_of (by rfl) T.list (by decide +kernel) (pa_cons (pv 1) pa_nil)) (pa_cons (pe_lst pa_nil) pa_nil)) (by rfl))
      (pss_cons (ps_while PassesOwn.never (pt_cmpR (op_neD hr.units) (pv 2) (pe_lst pa_nil) (nomark _))
        (pss_one (ps_expr (pe_bm PySem.F.plainAttrs_list PySem.F.slot_list_append PySem.F.type_list_append mt_append (pv 3) (pa_cons
          (pe_bm PySem.F.plainAttrs_list PySem.F.slot_list_pop PySem.F.type_list_pop mt_popAt (pv 2) (pa_cons
            (pe_call GR hr rfl AR.g AR.F.kp AR.b .nil pass0 (pa_cons (pv 0) (pa_cons (pe_callB call_len_seq (by rfl) T.len PySem.boot_len (pa_cons (pv 2) pa_nil)) pa_nil))) pa_nil)) pa_nil)))))
      (pss_one (ps_ret (pv 3)))), ?_⟩
    refine ⟨_, rfl, q, _, rfl, .inl (SqL.of hq), fun l hl1 => ⟨(by show 0 ≤ sizeLine; decide), fun r hr1 => ⟨_, _, rfl, ?_⟩⟩⟩
    refine while_by (fun σ H1 => ∃ zs fs : List Str, σ = [some (.ref p), some (.ref q), some (.ref l), some (.ref r)] ∧ DiceAt H1 p ∧ But p H H1 ∧ H1 l = some (.lst (zs.map V.str)) ∧ H1 r = some (.lst (fs.map V.str)) ∧ (zs ++ fs).Perm ys) muMix ?_ ?_ ?_
    · exact ⟨ys, [], rfl, (hD.new hl1).new hr1, But.ofSame (same_two (same_upd hl1) hr1), same_upd hr1 _ _ upd_same, upd_same, by rw [List.append_nil]⟩
    · have nr : H r = none := (same_upd hl1).free hr1
      have lp := hD.ne hl1
      have rp := hD.ne nr
      have lr : l ≠ r := fun z => by rw [← z, upd_same] at hr1; cases hr1
      rintro σ H1 ⟨zs, fs, rfl, hD1, hB1, hz, hf, hp⟩
      have hzy : ∀ y ∈ zs, PyData.canLay0 (.str y) = true := fun y hm => hy y (hp.mem_iff.mp (List.mem_append_left _ hm))
      have hlen : zs.length + fs.length = ys.length := by rw [← List.length_append, hp.length_eq]
      refine ⟨_, rfl, (by show 0 ≤ sizeLine; decide), fun e he => ⟨.list (zs.map PyData.str), .list [], .lst (SqL.of (same_upd he _ _ hz)) (dp_strs zs), .lst (SqL.of upd_same) .nil, (shaped_strs zs hzy).1, by decide, _, rfl, ?_⟩⟩
      rw [eqv_nil]
      have eD := hD1.new he (o := .lst [])
      have eB : But p H (upd H1 e (.lst [])) := but_two hB1 he
      have ez := same_upd he (o := .lst []) _ _ hz
      have ef := same_upd he (o := .lst []) _ _ hf
      generalize upd H1 e (.lst []) = H2 at eD eB ez ef ⊢
      cases zs with
      | nil => exact ⟨_, rfl, qq r fs _ hp nr eD eB ef rp⟩
      | cons z zs =>
        have len : (((z :: zs).map V.str).length : Int) = (z :: zs).length := by rw [List.length_map]
        have len2 : (z :: zs).length < 100 := by omega
        have len3 : 0 < (z :: zs).length := Nat.succ_pos _
        refine ⟨_, rfl, .inl ⟨rfl, _, SqL.of ef⟩, _, rfl, .inl ⟨rfl, _, SqL.of ez⟩, _, rfl, _, rfl, l, _, rfl, .inl (SqL.of ez), p, _, rfl, eD, by rw [len]; omega, by rw [len]; omega, fun i H3 hi0 hi1 hD3 hB3 => ?_⟩
        rw [len] at hi1
        have hk : i.toNat < (z :: zs).length := by omega
        have hz3 := hB3 _ _ ez lp
        have hf3 := hB3 _ _ ef rp
        have hget : ((z :: zs).map V.str)[i.toNat]? = some (V.str (z :: zs)[i.toNat]) := by rw [List.getElem?_map, List.getElem?_eq_getElem hk] <;> rfl
        have hidx : seqIndex? i ((z :: zs).map V.str).length = some i.toNat := by
          exact seqIx hi0 (by rw [len]; exact hi1)
        refine ⟨l, _, i, i.toNat, _, rfl, rfl, hz3, by omega, by omega, hidx, hget, r, _, _, rfl, rfl, (by rw [upd_ne (Ne.symm lr)]; exact hf3), ?_, ?_, ?_⟩
        · rw [List.length_map, sizeLine_eq]
          omega
        · refine ⟨(z :: zs).eraseIdx i.toNat, fs ++ [(z :: zs)[i.toNat]], rfl, ?_, ?_, ?_, ?_, ?_⟩
          · exact hD3.keep fun o e => by rw [upd_ne (Ne.symm rp), upd_ne (Ne.symm lp)]; exact e
          · exact but_at (but_at (eB.trans hB3) hl1) nr
          · rw [upd_ne lr, upd_same, map_erase]
          · rw [upd_same, List.map_append] <;> rfl
          · refine List.Perm.trans ?_ hp
            have h1 := erase_perm (z :: zs) i.toNat _ (List.getElem?_eq_getElem hk)
            refine List.Perm.trans ?_ (h1.append_right fs)
            show List.Perm (_ ++ (fs ++ [_])) (_ :: (_ ++ fs))
            rw [← List.append_assoc]
            exact List.perm_append_singleton _ _
        · show (match (upd (upd H3 l _) r _) l with | some (.lst xs) => xs.length | _ => 0) < (match H1 l with | some (.lst xs) => xs.length | _ => 0)
          rw [upd_ne lr, upd_same, hz]
          show (((z :: zs).map V.str).eraseIdx i.toNat).length < ((z :: zs).map V.str).length
          rw [List.length_eraseIdx, if_pos (by rw [List.length_map]; exact hk), List.length_map]
          omega
    · exact fun σ H Q Q' hm ⟨v, hv, hl, h⟩ => ⟨v, hv, hl, fun l hl' => let ⟨d, e, a, b, c, dd, k, hk, q⟩ := h l hl'; ⟨d, e, a, b, c, dd, k, hk, hm _ _ q⟩⟩
end
end WK

set_option Elab.async false
set_option linter.all false
set_option maxRecDepth 100000
set_option maxHeartbeats 8000000
/-! The law's letters, words, counts. -/
namespace WK
open PySem L2 PyProof.Rows K1
open TX (sg sigs)
open PySem.W (Frag kitOne)
theorem but_free {p a : Addr} {H H1 : Hp} (B : But p H H1) (ha : H1 a = none) (hne : a ≠ p) : H a = none := by
  cases e : H a with
  | none => rfl
  | some o => rw [B a o e hne] at ha; cases ha
theorem low_lay {u : W} (h : Low u) : PyData.canLay0 (.str (tx u)) = true := by
  show (u.toArray).all _ = true
  rw [List.all_toArray, List.all_eq_true]
  intro c hc
  have := h c hc
  exact decide_eq_true (by omega)
theorem strs_tx (us : List W) : (us.map tx).map V.str = us.map fun u => V.str (tx u) := by rw [List.map_map] <;> rfl
theorem flat_one (us : W) : (us.map fun c => [c]).flatten = us := by
  induction us with
  | nil => rfl
  | cons c us ih => rw [List.map_cons, List.flatten_cons, ih] <;> rfl
theorem join_sg (us : W) : Txt.join (tx []) (us.map sg) = tx us := by
  have e : us.map sg = (us.map fun c => [c]).map tx := by rw [List.map_map] <;> rfl
  rw [e, join_eq0, flat_one]
theorem sum_sg (us : W) : ((us.map sg).map (·.length)).sum = us.length := by
  induction us with
  | nil => rfl
  | cons c us ih =>
    rw [List.map_cons, List.map_cons, List.sum_cons, ih, List.length_cons]
    show 1 + us.length = us.length + 1
    omega
theorem cut_take {α : Type} (f : α → V) (zs : List α) (n : Nat) : cutV (zs.map f) none (some (n : Int)) = (zs.take n).map f := by
  unfold cutV
  have h1 : HT.sIx (zs.map f).length 0 none = 0 := rfl
  have h2 : HT.sIx (zs.map f).length (zs.map f).length (some (n : Int)) = min n zs.length := by
    unfold HT.sIx
    simp
    try omega
  rw [h1, h2, List.drop_zero, Nat.sub_zero, List.map_take]
  by_cases h : n ≤ zs.length
  · rw [Nat.min_eq_left h]
  · rw [Nat.min_eq_right (by omega), List.take_of_length_le (by rw [List.length_map]; exact Nat.le_refl _), List.take_of_length_le (by rw [List.length_map]; omega)]
def six : W := [97, 98, 100, 109, 114, 120]
theorem six_is : ("abdmrx" : Str) = tx six := by decide +kernel
def spLetters : Sp := fun vs H Q _ => ∃ (p : Addr) (n : Int), vs = [.ref p, .int n] ∧ DiceAt H p ∧ 1 ≤ n ∧ n ≤ 3 ∧ ∀ (L : W) (H' : Hp), Let L → DiceAt H' p → But p H H' → Q (.str (tx L)) H'
def spWordL : Sp := fun vs H Q _ => ∃ (p : Addr) (L : W) (m : Int), vs = [.ref p, .str (tx L), .int m] ∧ DiceAt H p ∧ Let L ∧ 0 ≤ m ∧ m ≤ 50 ∧ ∀ (u : W) (H' : Hp), (u.length : Int) ≤ m → (∀ c ∈ u, c ∈ L) → DiceAt H' p → But p H H' → Q (.str (tx u)) H'
section
variable {P : Program} {w : World} {K : PySem.W.Frag} {mg : Str → Option Value} {base : Heap}
variable {fR fM fO : Addr} {dR dM dO : FuncData}
theorem scLe : FnScope ["_law_dice_here", "_law_total"] ["_law_dice_here", "_law_total"] (defScope sLetters) := ⟨rfl, rfl, rfl, by decide +kernel, rfl, by decide +kernel, by decide +kernel⟩
theorem ok_letters {f : Addr} {fd : FuncData} (F : Fun K "_law_letters" "_law_letters" sLetters f fd) (T : TN mg) (AM : Fn K mg "_law_mixed" sMixed ["_law_dice_here", "_law_items"] fM dM) (GM : FnOk P w K mg base CX0 2 fM dM ["_law_dice_here", "_law_items"] spMixed) : FnOk P w K mg base CX0 3 f fd ["_law_dice_here", "_law_total"] spLetters := by
  refine F.ok scLe (fun vs H Q E h => ?_) (fun cdv A outer s H vs Q E hr h => ?_)
  · obtain ⟨u, n, rfl, _⟩ := h
    rfl
  · obtain ⟨p, n, rfl, hD, h1, h3, q⟩ := h
    refine ⟨_, pss_one (ps_ret (pe_join pe_str (pe_callB cr_sortedS (by rfl) T.sorted (by decide +kernel) (pa_cons (pe_slice sl_list
      (pe_call GM hr rfl AM.g AM.F.kp AM.b .nil pass0 (pa_cons (pv 0) (pa_cons (pe_callTy (TX.call_listX rfl) (by rfl) T.list (by decide +kernel) (pa_cons pe_str pa_nil)) pa_nil))) po_none (po_some (pv 1))) pa_nil)))), ?_⟩
    have e0 : (tx six).cps.toList.map (fun c => V.str (sg c)) = (six.map sg).map V.str := by rw [tx_list, List.map_map] <;> rfl
    refine ⟨⟨_, rfl⟩, _, rfl, "abdmrx", rfl, by decide +kernel, fun l hl => ?_⟩
    rw [six_is, e0]
    have lp := hD.ne hl
    refine ⟨p, l, six.map sg, rfl, hD.new hl, lp, upd_same, by decide, by decide +kernel, fun r zs H' hz hr1 hD' hB' hr2 hrp => ?_⟩
    have nr : H r = none := (same_upd hl).free hr1
    have B2 : But p H H' := (But.ofSame (same_upd hl)).trans hB'
    refine ⟨_, rfl, n, rfl, r, _, rfl, SqL.of hr2, fun t ht => ?_⟩
    have en : n = ((n.toNat : Nat) : Int) := by omega
    have zl : zs.length = 6 := hz.length_eq
    rw [en, cut_take]
    refine ⟨t, zs.take n.toNat, rfl, SqL.of upd_same, by rw [List.length_take]; omega, fun ys d hp hs hd => ?_⟩
    -- the letters
    have allz : ∀ x ∈ zs, ∃ c, x = sg c ∧ c ∈ six := fun x hx => by
      obtain ⟨c, hc, e⟩ := List.mem_map.mp (hz.mem_iff.mp hx)
      exact ⟨c, e.symm, hc⟩
    have ally : ∀ x ∈ ys, ∃ c, x = sg c ∧ c ∈ six := fun x hx => allz x (List.mem_of_mem_take (hp.mem_iff.mp hx))
    have ey : ys = (ys.map TX.hd1).map sg := TX.all_sg ys fun x hx => let ⟨c, e, _⟩ := ally x hx; ⟨c, e⟩
    have nz : zs.Nodup := hz.nodup_iff.mpr (by decide)
    have ny : ys.Nodup := hp.nodup_iff.mpr (nz.sublist (List.take_sublist _ _))
    have lenL : (ys.map TX.hd1).length = n.toNat := by
      rw [List.length_map, hp.length_eq, List.length_take]
      omega
    have hL : Let (ys.map TX.hd1) := by
      refine ⟨fun c hc => ?_, ?_, fun z => ?_, by omega⟩
      · obtain ⟨x, hx, e⟩ := List.mem_map.mp hc
        obtain ⟨c', rfl, hc'⟩ := ally x hx
        have : c' = c := e
        rw [← this]
        have h6 : ∀ c ∈ six, 97 ≤ c ∧ c ≤ 122 := by decide
        exact h6 _ hc'
      · rw [ey] at hs ny
        refine TX.lt_of_le _ (TX.sorted_le _ hs) ((List.pairwise_map.mp ny).imp fun h q => h (by rw [q]))
      · rw [z] at lenL
        have : (0 : Nat) = n.toNat := lenL
        omega
    have ey2 : ys.map V.str = ((ys.map TX.hd1).map sg).map V.str := by rw [← ey]
    refine ⟨tx [], d, (ys.map TX.hd1).map sg, rfl, rfl, .inl (SqL.of (by rw [upd_same, ← ey])), ?_, ?_⟩
    · rw [sum_sg]
      show (ys.map TX.hd1).length + _ * 0 ≤ _
      omega
    · rw [join_sg]
      exact q _ _ hL ((hD'.new ht).new hd) (but_two (but_two B2 ht) hd)
theorem scWo : FnScope ["_law_dice_here", "_law_letters_here", "_law_most", "_law_turn"] ["_law_dice_here", "_law_letters_here", "_law_most"] (defScope sWord) := ⟨rfl, rfl, rfl, by decide +kernel, rfl, by decide +kernel, by decide +kernel⟩
theorem ok_word {f : Addr} {fd : FuncData} (F : Fun K "_law_word" "_law_word" sWord f fd) (T : TN mg) (AR : Fn K mg "_law_roll" sRoll ["_law_dice_here", "_law_total"] fR dR)
    (AO : Fn K mg "_law_one_of" sOne ["_law_dice_here", "_law_items"] fO dO) : FnOk P w K mg base CX0 3 f fd ["_law_dice_here", "_law_letters_here", "_law_most"] spWordL := by
  have GR : FnOk P w K mg base CX0 1 fR dR ["_law_dice_here", "_law_total"] spRoll := ok_roll AR.F T.dice
  have GO : FnOk P w K mg base CX0 2 fO dO ["_law_dice_here", "_law_items"] spOne := ok_one AO.F T.dice AR.g AR.F AR.b
  refine F.ok scWo (fun vs H Q E h => ?_) (fun cdv A outer s H vs Q E hr h => ?_)
  · obtain ⟨u, n, _, rfl, _⟩ := h
    rfl
  · obtain ⟨p, L, m, rfl, hD, hL, h0, h1, q⟩ := h
    have hr1 : Room 1 _ := hr.mono (by decide)
    refine ⟨_, pss_one (ps_ret (pe_join pe_str (pe_lc (own := [("_law_turn", 3)]) (g := gName 3) (tt := tYes) rfl scWo.nd
      (pi_range1 rfl T.rng (pa_cons (pe_call GR hr1 rfl AR.g AR.F.kp AR.b .nil pass0 (pa_cons (pv 0) (pa_cons (pe_op op_add (pv 2) pe_int) pa_nil))) pa_nil))
      (blkOk_by (own := [("_law_turn", 3)]) (N := ["_law_dice_here", "_law_letters_here", "_law_most", "_law_turn"]) (sc := defScope sWord) (by decide +kernel)) (fun _ _ _ _ _ => pg_name (i := 3) scWo.nd rfl (Or.inl rfl)) (fun _ _ _ _ _ => pts_nil)
      (fun _ _ _ _ _ => pe_call GO hr rfl AO.g AO.F.kp AO.b .nil pass0 (pa_cons (pv 0) (pa_cons (pe_callTy (TX.call_listX rfl) (by rfl) T.list (by decide +kernel) (pa_cons (pv 1) pa_nil)) pa_nil)))))), ?_⟩
    refine ⟨⟨_, rfl⟩, _, rfl, _, rfl, _, _, rfl, rfl, p, _, rfl, hD, by omega, by omega, fun r H1 hr0 hr1 hD1 hB1 => ?_⟩
    refine ⟨_, rfl, by omega, by omega, fun D hD2 => ?_⟩
    have Dp := hD1.ne hD2
    have nD : H D = none := but_free hB1 hD2 Dp
    refine lc_range (lo := 0) (n := r.toNat) (fun i H3 => DiceAt H3 p ∧ But p H H3 ∧ ∃ us : W, us.length = i ∧ (∀ c ∈ us, c ∈ L) ∧ H3 D = some (.lst (us.map fun c => V.str (sg c)))) ⟨hD1.new hD2, but_two hB1 hD2, [], rfl, fun c hc => (nomatch hc), upd_same⟩ ?_ ?_
    · rintro i H3 hi ⟨hD3, hB3, us, hlen, hus, hd⟩
      refine ⟨rfl, _, rfl, _, rfl, tx L, rfl, ?_, fun l hl => ?_⟩
      · rw [size_tx, sizeLine_eq]
        have := hL.few
        omega
      rw [tx_list]
      have hne := List.length_pos_iff.mpr hL.ne
      refine ⟨p, l, _, rfl, hD3.new hl, hD3.ne hl, upd_same, by rw [List.length_map]; exact hne, by rw [List.length_map]; have := hL.few; omega, fun v H4 hv hD4 hB4 => ?_⟩
      obtain ⟨c, hc, rfl⟩ := List.mem_map.mp hv
      have hd4 : H4 D = _ := hB4 _ _ (same_upd hl _ _ hd) Dp
      refine ⟨_, hd4, ?_, hD4.keep fun o e => by rw [upd_ne (Ne.symm Dp)]; exact e, but_at ((but_two hB3 hl).trans hB4) nD, us ++ [c], ?_, ?_, ?_⟩
      · rw [List.length_map, hlen, sizeLine_eq]
        omega
      · rw [List.length_append, hlen] <;> rfl
      · intro d hd'
        rcases List.mem_append.mp hd' with z | z
        · exact hus d z
        · rw [List.mem_singleton.mp z]
          exact hc
      · rw [upd_same, List.map_append] <;> rfl
    · rintro H3 ⟨hD3, hB3, us, hlen, hus, hd⟩
      have e1 : us.map (fun c => V.str (sg c)) = (us.map sg).map V.str := by rw [List.map_map] <;> rfl
      rw [e1] at hd
      refine ⟨tx [], D, us.map sg, rfl, rfl, .inl (SqL.of hd), ?_, ?_⟩
      · rw [sum_sg]
        show us.length + _ * 0 ≤ _
        omega
      · rw [join_sg]
        exact q us H3 (by omega) hus hD3 hB3
end
end WK

set_option Elab.async false
set_option linter.all false
set_option maxRecDepth 100000
set_option maxHeartbeats 8000000
/-! The law's own counts, pieces and words. -/
namespace WK
open PySem L2 PyProof.Rows K1
open TX (sg sigs)
open PySem.W (Frag kitOne)
abbrev scIn : Scope := { kind := .function, names := [(".0", .local), ("_law_letter", .cell), ("len", .globalImplicit), ("_law_word_here", .cell)], isGenerator := false, isCoroutine := false }
abbrev rLen (K : Frag) : List V → Hp → VK → Prop := fun xs H Q => ∃ p ys, xs = [V.ref p] ∧ (SqL K H p ys ∨ SqT K H p ys) ∧ Q (V.int (ys.length : Int)) H
def spLCounts : Sp := fun vs H Q _ => ∃ L u : W, vs = [.str (tx L), .str (tx u)] ∧ L.length ≤ 3 ∧ u.length ≤ 1000 ∧ ∀ t H', H t = none → Same H H' → H' t = some (.lst (L.map fun c => .int (u.count c : Int))) → Q (.ref t) H'
def spLIsP : Sp := fun vs H Q _ => ∃ u v : W, vs = [.str (tx u), .str (tx v)] ∧ u.length < 1000 ∧ v.length < 1000 ∧ Q (.bl (isP u v)) H
def spLAll : Sp := fun vs H Q _ => ∃ (L : W) (m : Nat), vs = [.str (tx L), .int (m : Int)] ∧ L.length ≤ 3 ∧ m ≤ 4 ∧ ∀ t H', H t = none → Same H H' → H' t = some (.lst ((allW L m).map fun u => V.str (tx u))) → Q (.ref t) H'
def spLPieces : Sp := fun vs H Q _ => ∃ (L u : W) (m : Nat), vs = [.str (tx L), .str (tx u), .int (m : Int)] ∧ L.length ≤ 3 ∧ u.length < 1000 ∧ m ≤ 4 ∧ ∀ t H', H t = none → Same H H' → H' t = some (.lst (((allW L m).filter fun p => isP p u).map fun u => V.str (tx u))) → Q (.ref t) H'
theorem count_filter (u : W) (c : Nat) : (u.filter fun d => decide (d = c)).length = u.count c := by
  rw [List.count_eq_countP, List.countP_eq_length_filter]
  congr 1
section
variable {P : Program} {w : World} {K : PySem.W.Frag} {mg : Str → Option Value} {base : Heap}
theorem scLC : FnScope ["_law_letters_here", "_law_word_here", "_law_letter", "_law_sign"] ["_law_letters_here", "_law_word_here"] (defScope sLCounts) := ⟨rfl, rfl, rfl, by decide +kernel, rfl, by decide +kernel, by decide +kernel⟩
theorem ok_lcounts {f : Addr} {fd : FuncData} (F : Fun K "_law_counts" "_law_counts" sLCounts f fd) (T : TN mg) : FnOk P w K mg base CX0 1 f fd ["_law_letters_here", "_law_word_here"] spLCounts := by
  refine F.ok scLC (fun vs H Q E h => ?_) (fun cdv A outer s H vs Q E hr h => ?_)
  · obtain ⟨u, n, rfl, _⟩ := h
    rfl
  · obtain ⟨L, u, rfl, hL, hu, q⟩ := h
    refine ⟨_, pss_one (ps_ret (pe_lc (own := [("_law_letter", 2)]) (g := gName 2) (tt := tYes) (te := tCB (rLen K) (tCons (tLc (iStr (tVar 1)) (gName 3) (tTest (tOp rEq (tVar 3) (tVar 2))) (tC (.int 1)) [3]) tNil)) rfl scLC.nd (pi_str (pv 0))
      (blkOk_by (own := [("_law_letter", 2)]) (N := ["_law_letters_here", "_law_word_here", "_law_letter", "_law_sign"]) (sc := defScope sLCounts) (by decide +kernel)) (fun _ _ _ _ _ => pg_name (i := 2) scLC.nd rfl (Or.inr rfl)) (fun _ _ _ _ _ => pts_nil)
      (fun _ _ _ _ _ => pe_callB call_len_seq (by rfl) T.len PySem.boot_len (pa_cons (pe_lc (own := [("_law_sign", 3)]) (g := gName 3) (tt := tTest (tOp rEq (tVar 3) (tVar 2))) (te := tC (.int 1)) rfl scLC.nd (pi_str (pv 1))
        (blkOk_by (own := [("_law_sign", 3)]) (N := ["_law_letters_here", "_law_word_here", "_law_letter", "_law_sign"]) (sc := scIn) (by decide +kernel)) (fun _ _ _ _ _ => pg_name (i := 3) scLC.nd rfl (Or.inl rfl)) (fun _ _ _ _ _ => pts_one (pt_cmpR op_eq (pv 3) (pv 2) (nomark _)))
        (fun _ _ _ _ _ => pe_int)) pa_nil)))), ?_⟩
    refine ⟨_, rfl, tx L, rfl, fun D hD => ?_⟩
    refine lc_it walk_str (fun i H3 => Same H H3 ∧ H3 D = some (.lst ((L.take i).map fun c => .int (u.count c : Int)))) ⟨same_upd hD, upd_same⟩ (fun _ _ _ _ => trivial) ?_ ?_
    · rintro i x H3 H4 hi ⟨s3, hd⟩ ⟨rfl, c, hx, rfl⟩
      have hx' : L[i]? = some c := by
        rw [← Array.getElem?_toList, tx_list] at hx
        exact hx
      refine ⟨rfl, _, rfl, tx u, rfl, fun D2 hD2 => ?_⟩
      refine lc_it walk_str (fun j H5 => Same H4 H5 ∧ H5 D2 = some (.lst (((u.take j).filter fun d => decide (d = c)).map fun _ => .int 1))) ⟨same_upd hD2, upd_same⟩ (fun _ _ _ _ => trivial) ?_ ?_
      · rintro j y H5 H6 hj ⟨s5, hd5⟩ ⟨rfl, d, hy, rfl⟩
        have hy' : u[j]? = some d := by
          rw [← Array.getElem?_toList, tx_list] at hy
          exact hy
        have hju : j < u.length := (List.getElem?_eq_some_iff.mp hy').1
        refine ⟨rfl, _, rfl, _, rfl, rfl, ?_⟩
        by_cases hdc : d = c
        · subst hdc
          refine ⟨true, congrArg V.bl (decide_eq_true rfl), ?_⟩
          refine ⟨_, hd5, ?_, same_at s5 hD2, ?_⟩
          · rw [List.length_map, sizeLine_eq]
            have h1 := List.length_filter_le (fun e => decide (e = d)) (u.take j)
            rw [List.length_take] at h1
            omega
          · rw [upd_same, List.take_add_one, hy', List.filter_append, List.map_append]
            simp
        · refine ⟨false, congrArg V.bl (decide_eq_false fun z => hdc (TX.sg_inj (V.str.inj z))), ?_⟩
          refine ⟨s5, ?_⟩
          rw [List.take_add_one, hy', List.filter_append, hd5]
          simp [hdc]
      · rintro H5 ⟨s5, hd5⟩
        rw [size_tx, List.take_length] at hd5
        refine ⟨D2, _, rfl, .inl (SqL.of hd5), _, s5 _ _ hd, ?_, same_at (s3.trans s5) hD, ?_⟩
        · rw [List.length_map, List.length_take, sizeLine_eq]
          omega
        · rw [List.length_map, count_filter, upd_same, List.take_add_one, hx', List.map_append] <;> rfl
    · rintro H3 ⟨s3, hd⟩
      rw [size_tx, List.take_length] at hd
      exact q D H3 hD s3 hd
theorem scLI : FnScope ["_law_word_here", "_law_other", "_law_at", "_law_sign"] ["_law_word_here", "_law_other"] (defScope sLIsP) := ⟨rfl, rfl, rfl, by decide +kernel, rfl, by decide +kernel, by decide +kernel⟩
theorem ok_lisp {f : Addr} {fd : FuncData} (F : Fun K "_law_is_piece" "_law_is_piece" sLIsP f fd) (T : TN mg) : FnOk P w K mg base CX0 1 f fd ["_law_word_here", "_law_other"] spLIsP := by
  refine F.ok scLI (fun vs H Q E h => ?_) (fun cdv A outer s H vs Q E hr h => ?_)
  · obtain ⟨u, n, rfl, _⟩ := h
    rfl
  · obtain ⟨u, v, rfl, hu, hv, q⟩ := h
    refine ⟨_, pss_cons (ps_set (i := 2) scLI.nd rfl (Or.inl rfl) pe_int)
      (pss_cons (ps_for PassesOwn.never rfl (pi_str (pv 1)) (pg_name (i := 3) scLI.nd rfl (Or.inl rfl))
        (pss_one (ps_if (PW.pt (pw_and (pt_cmpR op_lt (pv 2) (pe_callB call_len_str (by rfl) T.len PySem.boot_len (pa_cons (pv 0) pa_nil)) (nomark _)) (pw_and1 (pt_cmpR op_eq (pe_ix ix_str (pv 0) (pv 2) (fun _ _ => rfl)) (pv 3) (nomark _)))))
          (pss_one (ps_set (i := 2) scLI.nd rfl (Or.inl rfl) (pe_op op_add (pv 2) pe_int))) pss_nil)))
      (pss_one (ps_ret (pe_cmpR op_eq (pv 2) (pe_callB call_len_str (by rfl) T.len PySem.boot_len (pa_cons (pv 0) pa_nil)) (nomark _))))), ?_⟩
    have hz : (tx u).length ≤ sizeLine := by rw [tx_len, sizeLine_eq]; omega
    refine ⟨_, rfl, tx v, rfl, ?_⟩
    refine for_it walk_str (fun i σ H1 => H1 = H ∧ ∃ (a : Nat) (l : Option V), a ≤ u.length ∧ σ = [some (.str (tx u)), some (.str (tx v)), some (.int (a : Int)), l] ∧ lp u v = lp (u.drop a) (v.drop i)) ⟨rfl, 0, none, Nat.zero_le _, rfl, rfl⟩ (fun _ _ _ _ _ => trivial) ?_ ?_
    · rintro i x σ H1 H2 hi ⟨rfl, a, l, ha, rfl, hI⟩ ⟨rfl, c, hx, rfl⟩
      have hx' : v[i]? = some c := by
        rw [← Array.getElem?_toList, tx_list] at hx
        exact hx
      have hiv : i < v.length := (List.getElem?_eq_some_iff.mp hx').1
      have ev : v.drop i = c :: v.drop (i + 1) := by rw [List.drop_eq_getElem_cons hiv, (List.getElem?_eq_some_iff.mp hx').2]
      rw [ev] at hI
      refine ⟨_, rfl, _, rfl, _, rfl, hz, _, _, rfl, rfl, ?_⟩
      rw [tx_len]
      by_cases h1 : a < u.length
      · have h1' : ((a : Int) < (u.length : Int)) := by omega
        refine ⟨true, congrArg V.bl (decide_eq_true h1'), ?_⟩
        have eu : u.drop a = u[a] :: u.drop (a + 1) := List.drop_eq_getElem_cons h1
        rw [eu] at hI
        have at1 : atI (tx u).cps.toList (a : Int) = some u[a] := by
          rw [tx_list]
          exact atI_nat (List.getElem?_eq_getElem h1)
        refine ⟨_, rfl, _, rfl, _, _, u[a], rfl, rfl, hz, at1, _, rfl, rfl, ?_⟩
        by_cases h2 : u[a] = c
        · refine ⟨true, congrArg V.bl (decide_eq_true (by rw [h2])), ?_⟩
          refine ⟨_, rfl, _, _, rfl, rfl, rfl, a + 1, some (.str (sg c)), h1, rfl, ?_⟩
          rw [hI]
          show (if u[a] = c then _ else _) = _
          rw [if_pos h2]
        · refine ⟨false, congrArg V.bl (decide_eq_false fun z => h2 (TX.sg_inj (V.str.inj z))), ?_⟩
          refine ⟨rfl, a, some (.str (sg c)), ha, rfl, ?_⟩
          rw [hI, eu]
          show (if u[a] = c then _ else _) = _
          rw [if_neg h2]
      · have h1' : ¬ ((a : Int) < (u.length : Int)) := by omega
        refine ⟨false, congrArg V.bl (decide_eq_false h1'), ?_⟩
        refine ⟨rfl, a, some (.str (sg c)), ha, rfl, ?_⟩
        rw [hI, List.drop_of_length_le (by omega), lp_nil, lp_nil]
    · rintro σ H1 ⟨rfl, a, l, ha, rfl, hI⟩
      rw [size_tx, List.drop_of_length_le (Nat.le_refl _)] at hI
      have hI2 : lp u v = u.drop a := by
        rw [hI]
        cases u.drop a <;> rfl
      refine ⟨_, rfl, _, rfl, _, rfl, hz, rfl, ?_⟩
      rw [tx_len]
      have e : decide (V.int (a : Int) = V.int (u.length : Int)) = isP u v := by
        rw [Bool.eq_iff_iff, decide_eq_true_eq, ← lp_iff, hI2, List.drop_eq_nil_iff]
        constructor
        · intro z
          have := V.int.inj z
          omega
        · intro z
          have : a = u.length := by omega
          rw [this]
      rw [e]
      exact q
end
end WK

set_option Elab.async false
set_option linter.all false
set_option maxRecDepth 100000
set_option maxHeartbeats 8000000
/-! The law's own words and pieces. -/
namespace WK
open PySem L2 PyProof.Rows K1
open TX (sg sigs)
open PySem.W (Frag kitOne)
theorem lay_len (L : W) (hL : L.length ≤ 3) : ∀ k, (lay L k).length ≤ 3 ^ k
  | 0 => Nat.le_refl _
  | k + 1 => by
    have ih := lay_len L hL k
    have h : ∀ l : List W, (l.flatMap fun u => L.map fun c => u ++ [c]).length ≤ l.length * 3 := by
      intro l
      induction l with
      | nil => exact Nat.le_refl _
      | cons u l ih =>
        rw [List.flatMap_cons, List.length_append, List.length_cons, List.length_map]
        omega
    have h1 := h (lay L k)
    exact Nat.le_trans h1 (by rw [Nat.pow_succ]; omega)
theorem lay_81 (L : W) (hL : L.length ≤ 3) {k : Nat} (hk : k ≤ 4) : (lay L k).length ≤ 81 := by
  have h1 := lay_len L hL k
  have h2 : (3 : Nat) ^ k ≤ 3 ^ 4 := Nat.pow_le_pow_right (by decide) hk
  have h3 : (3 : Nat) ^ 4 = 81 := by decide
  omega
theorem allW_len (L : W) (hL : L.length ≤ 3) : ∀ k, k ≤ 4 → (allW L k).length ≤ (k + 1) * 81
  | 0, _ => by show 1 ≤ 81; decide
  | k + 1, h => by
    have ih := allW_len L hL k (by omega)
    have h1 := lay_81 L hL h
    show (allW L k ++ lay L (k + 1)).length ≤ _
    rw [List.length_append]
    omega
abbrev txV : W → V := fun u => V.str (tx u)
section
variable {P : Program} {w : World} {K : PySem.W.Frag} {mg : Str → Option Value} {base : Heap}
abbrev NA : List Str := ["_law_letters_here", "_law_most", "_law_found", "_law_layer", "_law_size", "_law_longer", "_law_word_here", "_law_letter"]
theorem scLA : FnScope NA ["_law_letters_here", "_law_most"] (defScope sLAll) := ⟨rfl, rfl, rfl, by decide +kernel, rfl, by decide +kernel, by decide +kernel⟩
theorem ok_lall {f : Addr} {fd : FuncData} (F : Fun K "_law_all_words" "_law_all_words" sLAll f fd) (T : TN mg) : FnOk P w K mg base CX0 1 f fd ["_law_letters_here", "_law_most"] spLAll := by
  refine F.ok scLA (fun vs H Q E h => ?_) (fun cdv A outer s H vs Q E hr h => ?_)
  · obtain ⟨u, n, rfl, _⟩ := h
    rfl
  · obtain ⟨L, m, rfl, hL, hm, q⟩ := h
    refine ⟨_, pss_cons (ps_par (i := 2) (j := 3) (by rfl) scLA.nd rfl rfl (by decide) rfl rfl (pa_cons (pe_lst (pa_cons pe_str pa_nil)) (pa_cons (pe_lst (pa_cons pe_str pa_nil)) pa_nil)) (by rfl))
      (pss_cons (ps_for PassesOwn.never rfl (pi_range1 rfl T.rng (pa_cons (pv 1) pa_nil)) (pg_name (i := 4) scLA.nd rfl (Or.inl rfl))
        (pss_cons (ps_set (i := 5) scLA.nd rfl (Or.inl rfl) (pe_lst pa_nil))
        (pss_cons (ps_for PassesOwn.never rfl (pi_list (pe_callTy call_list_of (by rfl) T.list (by decide +kernel) (pa_cons (pv 3) pa_nil))) (pg_name (i := 6) scLA.nd rfl (Or.inr rfl))
          (pss_one (ps_expr (pe_bm PySem.F.plainAttrs_list PySem.F.slot_list_extend PySem.F.type_list_extend mt_extend (pv 5) (pa_cons (pe_lc (own := [("_law_letter", 7)]) (g := gName 7) (tt := tYes) rfl scLA.nd (pi_str (pv 0))
            (blkOk_by (own := [("_law_letter", 7)]) (N := NA) (sc := defScope sLAll) (by decide +kernel)) (fun _ _ _ _ _ => pg_name (i := 7) scLA.nd rfl (Or.inl rfl)) (fun _ _ _ _ _ => pts_nil)
            (fun _ _ _ _ _ => pe_op op_add_str (pv 6) (pv 7))) pa_nil)))))
        (pss_cons (ps_set (i := 3) scLA.nd rfl (Or.inl rfl) (pv 5))
        (pss_one (ps_set (i := 2) scLA.nd rfl (Or.inl rfl) (pe_op op_cat (pv 2) (pv 3))))))))
      (pss_one (ps_ret (pv 2)))), ?_⟩
    refine ⟨(by show 1 ≤ sizeLine; decide), fun fo hfo => ⟨(by show 1 ≤ sizeLine; decide), fun la hla => ⟨_, _, rfl, ?_⟩⟩⟩
    refine ⟨_, rfl, (m : Int), rfl, by omega, by omega, ?_⟩
    refine for_range (lo := 0) (n := m) (fun k σ H1 => ∃ fo la a4 a5 a6, σ = [some (.str (tx L)), some (.int m), some (.ref fo), some (.ref la), a4, a5, a6, none] ∧ H fo = none ∧ Same H H1 ∧ H1 fo = some (.lst ((allW L k).map txV)) ∧ H1 la = some (.lst ((lay L k).map txV))) ?_ ?_ ?_
    · exact ⟨fo, la, none, none, none, rfl, hfo, same_two (same_upd hfo) hla, same_upd hla _ _ upd_same, upd_same⟩
    · rintro k σ H1 hk ⟨fo, la, a4, a5, a6, rfl, hfo, s1, hfo1, hla1⟩
      refine ⟨(by show 0 ≤ sizeLine; decide), fun lo hlo => ?_⟩
      refine ⟨_, rfl, la, _, rfl, .inl (SqL.of (same_upd hlo _ _ hla1)), fun cl hcl => ?_⟩
      refine ⟨cl, rfl, ⟨_, SqL.of upd_same⟩, ?_⟩
      have g1 : Same H1 (upd (upd H1 lo (.lst [])) cl (.lst ((lay L k).map txV))) := same_two (same_upd hlo) hcl
      have g2 : (upd (upd H1 lo (.lst [])) cl (.lst ((lay L k).map txV))) cl = some (.lst ((lay L k).map txV)) := upd_same
      have g3 : (upd (upd H1 lo (.lst [])) cl (.lst ((lay L k).map txV))) lo = some (.lst []) := same_upd hcl _ _ upd_same
      generalize upd (upd H1 lo (.lst [])) cl (.lst ((lay L k).map txV)) = G at g1 g2 g3 ⊢
      have cllo : cl ≠ lo := fun z => by rw [z, upd_same] at hcl; cases hcl
      have lk := lay_81 L hL (show k ≤ 4 by omega)
      have lk1 := lay_81 L hL (show k + 1 ≤ 4 by omega)
      have ak := allW_len L hL k (by omega)
      refine for_it walk_list (fun i σ H2 => ∃ a4 a6, σ = [some (.str (tx L)), some (.int m), some (.ref fo), some (.ref la), a4, some (.ref lo), a6, none] ∧ Same H1 H2 ∧ H2 cl = some (.lst ((lay L k).map txV)) ∧ H2 lo = some (.lst ((((lay L k).take i).flatMap fun u => L.map fun c => u ++ [c]).map txV)))
        ⟨_, a6, rfl, g1, g2, by rw [g3] <;> rfl⟩ (fun i σ H2 _ ⟨_, _, _, _, h, _⟩ => SqL.of h) ?_ ?_
      · rintro i x σ H2 H3 hi ⟨a4, a6, rfl, s2, hcl2, hlo2⟩ ⟨rfl, hx⟩
        rw [List.getElem?_map] at hx
        cases hc : (lay L k)[i]? with
        | none => rw [hc] at hx; cases hx
        | some u =>
          rw [hc] at hx
          obtain rfl : txV u = x := Option.some.inj hx
          have hul : u.length = k := ((mem_lay L k u).mp (List.mem_of_getElem? hc)).1
          refine ⟨_, rfl, .inl ⟨rfl, _, SqL.of hlo2⟩, _, rfl, tx L, rfl, fun D hD => ?_⟩
          refine lc_it walk_str (fun j H5 => Same H3 H5 ∧ H5 D = some (.lst (((L.take j).map fun c => u ++ [c]).map txV))) ⟨same_upd hD, upd_same⟩ (fun _ _ _ _ => trivial) ?_ ?_
          · rintro j y H5 H6 hj ⟨s5, hd5⟩ ⟨rfl, d, hy, rfl⟩
            have hy' : L[j]? = some d := by
              rw [← Array.getElem?_toList, tx_list] at hy
              exact hy
            refine ⟨rfl, _, rfl, _, rfl, _, _, rfl, rfl, ?_, _, hd5, ?_, same_at s5 hD, ?_⟩
            · rw [tx_len, sizeLine_eq, hul]
              show k + 1 ≤ _
              omega
            · rw [List.length_map, List.length_map, List.length_take, sizeLine_eq]
              omega
            · rw [upd_same, List.take_add_one, hy', List.map_append, List.map_append]
              show _ = some (HO.lst (_ ++ [V.str (tx (u ++ [d]))]))
              rw [← tx_app] <;> rfl
          · rintro H5 ⟨s5, hd5⟩
            rw [size_tx, List.take_length] at hd5
            refine ⟨lo, D, _, _, rfl, rfl, s5 _ _ hlo2, hd5, ?_, a4, some (txV u), rfl, ?_, ?_, ?_⟩
            · have h1 : (((lay L k).take i).flatMap fun u => L.map fun c => u ++ [c]).length ≤ ((lay L k).take i).length * 3 := by
                generalize (lay L k).take i = l
                induction l with
                | nil => exact Nat.le_refl _
                | cons u l ih =>
                  rw [List.flatMap_cons, List.length_append, List.length_cons, List.length_map]
                  omega
              rw [List.length_take] at h1
              rw [List.length_map, List.length_map, List.length_map, sizeLine_eq]
              omega
            · exact same_at (s2.trans s5) hlo
            · rw [upd_ne cllo]
              exact s5 _ _ hcl2
            · rw [upd_same, List.take_add_one, hc, List.flatMap_append, List.map_append]
              show _ = some (HO.lst (_ ++ List.map txV (List.flatMap _ [u])))
              rw [List.flatMap_cons, List.flatMap_nil, List.append_nil] <;> rfl
      · rintro σ H2 ⟨a4, a6, rfl, s2, hcl2, hlo2⟩
        rw [List.length_map, List.take_length] at hlo2
        have hlo3 : H2 lo = some (.lst ((lay L (k + 1)).map txV)) := hlo2
        refine ⟨_, rfl, _, rfl, _, rfl, fo, lo, _, _, rfl, rfl, s2 _ _ hfo1, hlo3, ?_, fun nf hnf => ?_⟩
        · rw [List.length_map, List.length_map, sizeLine_eq]
          omega
        · refine ⟨nf, lo, a4, some (.ref lo), a6, rfl, (s1.trans s2).free hnf, same_two (s1.trans s2) hnf, ?_, same_upd hnf _ _ hlo3⟩
          rw [upd_same, ← List.map_append] <;> rfl
    · rintro σ H1 ⟨fo, la, a4, a5, a6, rfl, hfo, s1, hfo1, hla1⟩
      exact ⟨_, rfl, q fo H1 hfo s1 hfo1⟩
theorem scLP : FnScope ["_law_letters_here", "_law_word_here", "_law_most", "_law_piece"] ["_law_letters_here", "_law_word_here", "_law_most"] (defScope sLPieces) := ⟨rfl, rfl, rfl, by decide +kernel, rfl, by decide +kernel, by decide +kernel⟩
theorem ok_lpieces {f fA fI : Addr} {fd dA dI : FuncData} (F : Fun K "_law_pieces" "_law_pieces" sLPieces f fd) (AA : Fn K mg "_law_all_words" sLAll ["_law_letters_here", "_law_most"] fA dA) (GA : FnOk P w K mg base CX0 1 fA dA ["_law_letters_here", "_law_most"] spLAll)
    (AI : Fn K mg "_law_is_piece" sLIsP ["_law_word_here", "_law_other"] fI dI) (GI : FnOk P w K mg base CX0 1 fI dI ["_law_word_here", "_law_other"] spLIsP) : FnOk P w K mg base CX0 2 f fd ["_law_letters_here", "_law_word_here", "_law_most"] spLPieces := by
  refine F.ok scLP (fun vs H Q E h => ?_) (fun cdv A outer s H vs Q E hr h => ?_)
  · obtain ⟨u, n, _, rfl, _⟩ := h
    rfl
  · obtain ⟨L, u, m, rfl, hL, hu, hm, q⟩ := h
    refine ⟨_, pss_one (ps_ret (pe_lc (own := [("_law_piece", 3)]) (g := gName 3) rfl scLP.nd (pi_list (pe_call GA hr rfl AA.g AA.F.kp AA.b .nil pass0 (pa_cons (pv 0) (pa_cons (pv 2) pa_nil))))
      (blkOk_by (own := [("_law_piece", 3)]) (N := ["_law_letters_here", "_law_word_here", "_law_most", "_law_piece"]) (sc := defScope sLPieces) (by decide +kernel)) (fun _ _ _ _ _ => pg_name (i := 3) scLP.nd rfl (Or.inl rfl))
      (fun _ _ _ _ _ => pts_one (pt_val (pe_call GI hr rfl AI.g AI.F.kp AI.b .nil pass0 (pa_cons (pv 3) (pa_cons (pv 1) pa_nil))))) (fun _ _ _ _ _ => pv 3))), ?_⟩
    refine ⟨_, rfl, _, rfl, L, m, rfl, hL, hm, fun t H1 nt s1 ht => ?_⟩
    refine ⟨t, rfl, ⟨_, SqL.of ht⟩, fun D hD => ?_⟩
    have ak := allW_len L hL m hm
    refine lc_it walk_list (fun i H3 => Same H1 H3 ∧ H3 D = some (.lst ((((allW L m).take i).filter fun p => isP p u).map txV))) ⟨same_upd hD, upd_same⟩ (fun i H3 _ ⟨s3, _⟩ => SqL.of (s3 _ _ ht)) ?_ ?_
    · rintro i x H3 H4 hi ⟨s3, hd⟩ ⟨rfl, hx⟩
      rw [List.getElem?_map] at hx
      cases hc : (allW L m)[i]? with
      | none => rw [hc] at hx; cases hx
      | some p =>
        rw [hc] at hx
        obtain rfl : V.str (tx p) = x := Option.some.inj hx
        have hpl : p.length ≤ m := ((mem_allW L m p).mp (List.mem_of_getElem? hc)).1
        refine ⟨rfl, _, rfl, _, rfl, p, u, rfl, by omega, hu, _, rfl, ?_⟩
        have tk : (allW L m).take (i + 1) = (allW L m).take i ++ [p] := by rw [List.take_add_one, hc] <;> rfl
        rw [tk, List.filter_append]
        cases hp : isP p u with
        | true =>
          refine ⟨_, rfl, _, hd, ?_, same_at s3 hD, ?_⟩
          · have h1 := List.length_filter_le (fun p => isP p u) ((allW L m).take i)
            rw [List.length_take] at h1
            rw [List.length_map, sizeLine_eq]
            omega
          · rw [upd_same, List.filter_cons, hp, List.map_append] <;> rfl
        | false =>
          refine ⟨s3, ?_⟩
          rw [hd, List.filter_cons, hp]
          simp
    · rintro H3 ⟨s3, hd⟩
      rw [List.length_map, List.take_length] at hd
      exact q D H3 (s1.free hD) (s1.trans s3) hd
end
end WK

set_option Elab.async false
set_option linter.all false
set_option maxRecDepth 100000
set_option maxHeartbeats 4000000
/-! for in a generator's body; yield from a list. -/
namespace L2
open PySem PySem.Spec PyProof.Rows GenW
section
variable {X : Cx} {tg iter : Expr} {body : List Stmt} {wi : TI} {g : TG} {tb : TGn} {pos : Pos}
def tGFor (wi : TI) (g : TG) (tb : TGn) : TGn := fun D ys σ H => wi σ H fun J H1 => ∃ W : Nat → Nat → List V → St → Hp → Prop, (∃ m, W 0 m ys σ H1) ∧ ∀ i m ys σ H, W i m ys σ H →
  (J.stop i H ∧ D.nx ys σ H) ∨ (J.go i H ∧ ∃ N : List V → St → Hp → Prop, (∀ ys' σ' H', N ys' σ' H' → ∃ m', m' < m ∧ W (i + 1) m' ys' σ' H') ∧ ∀ x H', J.yld i H x H' → g x σ H' fun σ2 H2 => tb { D with nx := N, ct := N, bk := D.nx } ys σ2 H2)
theorem gs_for (hp : PassesOwn (model X.prog X.w) X.A X.env X.xe) (hc : X.calm = true) (hi : PI X tg iter wi) (hg : PG X tg g) (hb : GSs X body tb)
    (hs : ∀ x, foldedSetIterable iter X.env x = pure x := by intro _; rfl) : GS X (.For tg iter body [] pos) (tGFor wi g tb) := by
  refine ⟨fun A S ip R n ys s₀ c fs K J gd lv s σ H D gc hn k hI ht => ?_⟩
  rw [exec_For]
  obtain ⟨acc0, cc0, r0, I0⟩ := hI
  refine seg_at ?_
  show Seg _ _ _ _ n s₀ c ((eval iter X.env >>= fun v => foldedSetIterable iter X.env v >>= fun x => standAt iter.pos >>= fun _ => holding [x] (pyIter x) >>= fun itv => runOwn (.forLoop tg itv body [] X.env) X.env).wrap K J gd lv) fs s
  refine seg_bind_wrap ?_
  rw [gc.over]
  refine wpAny_mono (hi.run _ s σ H _ I0 ht) (fun v s1 h1 => ?_) fun x s' hx => k.exc n s₀ x s' hx
  rw [hs v]
  refine seg_bind_wrap (wpAny_pure (seg_bind_wrap (wpAny_standAt (seg_bind_wrap (wpAny_holding ?_)))))
  rw [gc.over]
  refine wpAny_mono h1 (fun itv s2 h2 => ?_) fun x s' hx => k.exc n s₀ x s' hx
  obtain ⟨it, fp, tn, JJ, H2, e, I2, T, st2, f2, W, ⟨m0, w0⟩, turn⟩ := h2
  subst e
  refine seg_call fun p => ?_
  have fpS : ∀ b ∈ fp, S ≠ b := fun b hb => (f2 b hb).2.2.2.2.2 (S, lstObj acc0 cc0) (List.mem_append_right _ List.mem_cons_self)
  have stat : ∀ {H' : Hp} {acc : Array Value} {cc : Nat}, (∀ b ∈ fp, H' b = none) → ∀ b ∈ fp, FpOk X ((S, lstObj acc cc) :: ip) H' b := fun {H' acc cc} hn b hb => by
    obtain ⟨f1, f3, f4, f5, f6, f7⟩ := f2 b hb
    refine ⟨hn b hb, f3, f4, f5, f6, fun q hq => ?_⟩
    rcases List.mem_append.mp hq with z | z
    · exact f7 q (List.mem_append_left _ z)
    · rcases List.mem_cons.mp z with z | z
      · rw [z]; exact fpS b hb
      · exact f7 q (List.mem_append_right _ (List.mem_cons_of_mem _ z))
  have gl := fun (kk : Result → Sem PySem.Fin) => gc_loop (k := kk) (c' := .forLoop tg (.ref it) body [] X.env) (l := lv []) (kp := []) (p := p) gc rfl rfl
  have glb := fun (kk : Result → Sem PySem.Fin) => gc_loop (k := kk) (c' := .block [] X.env) (l := lv []) (kp := []) (p := p) gc rfl rfl
  have loop : ∀ (m i n : Nat) (ys : List V) (s₀ s : Shared) (σ : St) (H : Hp), n + ys.length = sizeLine → W i m ys σ H → GI X S ip ys σ H s → tn i s.heap → (∀ b ∈ fp, H b = none) →
      Seg (model X.prog X.w) A R (GY X S) n s₀ (.forLoop tg (.ref it) body [] X.env) ((model X.prog X.w).den (.forLoop tg (.ref it) body [] X.env))
        (.ret (fun r => ((match r with | .ok f => (.pure f : Sem Flow) | .error e => .raise e).onRaise (cameBack X.env)).wrap K J gd lv) none (gd false) (lv []) c p [] :: fs) s := by
    intro m
    refine Nat.strongRecOn m fun m ih => ?_
    · intro i n ys s₀ s σ H hn w hI st fr
      have ee : ∀ (n : Nat) (s₀ : Shared) (x : Value) (s' : Shared), X.xe x s' → Seg (model X.prog X.w) A R (GY X S) n s₀ (.forLoop tg (.ref it) body [] X.env)
          ((do noteFrame x X.env; theTreesLotGoes x : Sem Unit).wrap (fun _ => .raise x) .raise id id)
          (.ret (fun r => ((match r with | .ok f => (.pure f : Sem Flow) | .error e => .raise e).onRaise (cameBack X.env)).wrap K J gd lv) none (gd false) (lv []) c p [] :: fs) s' := fun n s₀ x s' hx => by
        refine seg_wrap ?_
        rw [(gl _).over]
        refine wpAny_bind (wpAny_mono (hp x s' hx) (fun _ s'' hcb => wpAny_theTreesLotGoes ?_) fun y s'' hcb => ?_)
        · exact seg_leaf (.error x) (seg_cameBack gc k hcb)
        · exact seg_leaf (.error y) (seg_cameBack gc k hcb)
      show Seg _ _ _ _ n s₀ _ ((forTurn tg (.ref it) body [] X.env).onRaise (fun x => do noteFrame x X.env; theTreesLotGoes x)) _ s
      unfold forTurn
      rw [Sem.onRaise_eq_wrap]
      refine seg_bind_wrap (wpAny_standAt (seg_bind_wrap ?_))
      rw [(gl _).over]
      obtain ⟨acc, cc, r, I⟩ := hI
      rcases turn i m ys σ H w with ⟨stop, qn⟩ | ⟨go, N, hN, step⟩
      · refine wpAny_onRaise (wpAny_mono (T.done X rfl rfl rfl hc i _ s σ H (fun _ _ => False) I (stat fr) st stop) (fun u s4 ⟨hu, I4⟩ => ?_) fun _ _ z => z.elim)
        subst hu
        show Seg _ _ _ _ n s₀ _ (.pure (.again (.block [] X.env))) _ s4
        refine seg_again rfl ?_
        show Seg _ _ _ _ n s₀ _ ((execs [] X.env).onRaise (fun x => do noteFrame x X.env; theTreesLotGoes x) >>= fun f => pure (PySem.Fin.done f)) _ s4
        refine seg_bind (wpAny_onRaise (wpAny_execs_nil ?_))
        exact seg_leaf (.ok .next) (k.ok n ys s₀ s4 .next hn ⟨σ, H, ⟨acc, cc, r, I4⟩, qn⟩)
      · refine wpAny_onRaise (wpAny_mono (T.item X rfl rfl rfl hc i _ s σ H (fun _ _ => False) I (stat fr) st go) (fun u0 s4 ⟨u, hu, h4⟩ => ?_) fun _ _ z => z.elim)
        subst hu
        show Seg _ _ _ _ n s₀ _ ((letOwnedTupleGo tg (.ref it) u >>= fun _ => assign tg X.env u >>= fun _ => execs body X.env >>= fun f => (match f with | .next | .cont => again (.forLoop tg (.ref it) body [] X.env) | .brk => pure (.done .next) | .ret v => pure (.done (.ret v)) : Sem PySem.Fin)).wrap _ _ _ _) _ s4
        refine seg_bind_wrap ?_
        rw [(gl _).over]
        refine wpAny_mono h4 (fun _ s5 ⟨x, H5, I5, r5, y5, st5, fr5⟩ => ?_) fun _ _ z => z.elim
        have I5' : Inv X ((S, lstObj acc cc) :: (ip ++ pinsAt fp s5.heap)) σ H5 s5 := I5.pinned (stat fr5) (T.obj _ _ st5)
        refine seg_bind_wrap ?_
        rw [(gl _).over]
        refine wpAny_mono (hg.run _ s5 σ H5 x u _ I5' r5 (step x H5 y5)) (fun _ s6 ⟨σ6, H6, I6, q6⟩ => ?_) (fun x s' hx => ?_)
        · rw [Sem.bind_eq_wrap', Sem.wrap_wrap]
          rw [Sem.wrap_congr (execs body X.env) _ _ (K' := fun f => match f with
                | .next | .cont => .pure (.again (.forLoop tg (.ref it) body [] X.env))
                | .brk => .pure (.done .next)
                | .ret v => .pure (.done (.ret v))) (H' := (fun e => (do noteFrame e X.env; theTreesLotGoes e : Sem Unit).wrap (fun _ => .raise e) .raise id id))
            (fun f => by cases f <;> rfl)
            (fun e => by first | exact Sem.bind_eq_wrap _ _ | (show (do noteFrame e X.env; theTreesLotGoes e : Sem Unit).bind (fun _ => .raise e) = _; rw [Sem.bind_eq_wrap]))]
          have gcp : GC X S (ip ++ pinsAt fp s5.heap) A (.forLoop tg (.ref it) body [] X.env) (.ret (fun r => ((match r with | .ok f => (.pure f : Sem Flow) | .error e => .raise e).onRaise (cameBack X.env)).wrap K J gd lv) none (gd false) (lv []) c p [] :: fs) id :=
            { (gl _) with ip := fun q hq => (List.mem_append.mp hq).elim (gc.ip q) fun z => Ne.symm (fpS _ (of_pinsAt z).1) }
          have un : ∀ {ys7 : List V} {σ7 : St} {H7 : Hp} {s7 : Shared}, GI X S (ip ++ pinsAt fp s5.heap) ys7 σ7 H7 s7 → GI X S ip ys7 σ7 H7 s7 ∧ tn (i + 1) s7.heap ∧ ∀ b ∈ fp, H7 b = none := fun {ys7 σ7 H7 s7} ⟨a7, c7, r7, I7⟩ => by
            have I8 : Inv X (((S, lstObj a7 c7) :: ip) ++ pinsAt fp s5.heap) σ7 H7 s7 := I7
            refine ⟨⟨a7, c7, r7, I8.unpinned⟩, T.keep _ _ _ st5 fun b hb o e => (I8.pin (b, o) (List.mem_append_right _ (List.mem_append_right _ (mem_pinsAt hb e)))).1, fun b hb => ?_⟩
            have ⟨o, e, _⟩ := T.obj _ _ st5 b hb
            exact (I8.pin (b, o) (List.mem_append_right _ (List.mem_append_right _ (mem_pinsAt hb e)))).2.1
          have anew : ∀ {n' ys' s₀' s3 σ3 H3}, n' + ys'.length = sizeLine → GI X S (ip ++ pinsAt fp s5.heap) ys' σ3 H3 s3 → N ys' σ3 H3 → Seg (model X.prog X.w) A R (GY X S) n' s₀' (.forLoop tg (.ref it) body [] X.env) _ _ s3 := fun hn' I3 n3 =>
            let ⟨m', less, w3⟩ := hN _ _ _ n3
            let ⟨I4, t4, f4⟩ := un I3
            seg_again rfl (ih m' less (i + 1) _ _ _ _ _ _ hn' w3 I4 t4 f4)
          refine hb.run A S (ip ++ pinsAt fp s5.heap) R n ys s₀ _ _ _ _ id id s6 σ6 H6 { D with nx := N, ct := N, bk := D.nx } gcp hn ⟨fun n' ys' s₀' s3 f hn' hs => ?_, fun n' s₀' x s3 hx => ee n' s₀' x s3 hx⟩ ⟨acc, cc, r, I6⟩ q6
          cases f with
          | next =>
            obtain ⟨σ3, H3, I3, n3⟩ := hs
            exact anew hn' I3 n3
          | cont =>
            obtain ⟨σ3, H3, I3, n3⟩ := hs
            exact anew hn' I3 n3
          | brk =>
            obtain ⟨σ3, H3, I3, q3⟩ := hs
            exact seg_leaf (.ok .next) (k.ok n' ys' s₀' s3 .next hn' ⟨σ3, H3, (un I3).1, q3⟩)
          | ret v =>
            obtain ⟨x3, σ3, H3, I3, r3, q3⟩ := hs
            exact seg_leaf (.ok (.ret v)) (k.ok n' ys' s₀' s3 (.ret v) hn' ⟨x3, σ3, H3, (un I3).1, r3, q3⟩)
        · have := ee n s₀ x s' hx
          first
            | (rw [← Sem.bind_eq_wrap] at this; exact this)
            | exact this
  exact loop m0 0 n ys s₀ s2 σ H2 hn w0 ⟨acc0, cc0, r0, I2⟩ st2 fun b hb => (f2 b hb).1
end
end L2

set_option Elab.async false
set_option linter.all false
set_option maxRecDepth 100000
set_option maxHeartbeats 4000000
namespace L2
open PySem PySem.Spec PyProof.Rows GenW
section
variable {prog : Program} {w : World} {A : Around} {E : Value → Shared → Prop} {s : Shared}
/-- what a list's iterator does when it is asked, in one rule: the item at its place, or its end -/
theorem lst_asked {it t : Addr} {place : Nat} {cells : Array Value} {Q : Option Value → Shared → Prop} (isIt : s.heap.IsListIter it t place) (isL : s.heap.IsList t cells)
    (there : ∀ y, cells[place]? = some y → ∀ g, g.IsListIter it t (place + 1) → Heap.SameBut it s.heap g → Q (some y) { s with heap := g })
    (over : cells[place]? = none → A.handled = none ∧ ∀ err g, StopX err g → Heap.ExtBut it s.heap g → E err { s with heap := g }) :
    wpAny (model prog w) A (callSpecial? (.ref it) "__next__") Q E s := by
  have isTy := isIt.typeIs
  obtain ⟨io, iAt, iCls, iDat⟩ := isIt
  obtain ⟨lo, lAt, _, _, lDat⟩ := isL
  refine wpAny_callSpecial?_slot (name := Str.ofString "__next__") isTy slot_listiter_next (wpAny_call_entry slot_listiter_next isTy entry_listiter_next ?_ (args_listiter_next _))
  refine wpAny_bind (m := field (.ref it) 0) (wpAny_field iAt iDat (x := .ref t) rfl ?_)
  refine (if_neg (c := (Value.ref t == Value.none) = true) Bool.false_ne_true).symm ▸ ?_
  refine wpAny_bind (m := field (.ref it) 1) (wpAny_field iAt iDat (x := .int place 0) rfl (wpAny_bind (m := seqItems? (.ref t)) (wpAny_seqItems lAt lDat ?_)))
  cases look : cells[place]? with
  | some y =>
    simp only [look, Int.toNat_natCast]
    refine wpAny_bind (wpAny_setField iAt iDat (by simp) (wpAny_pure ⟨y, rfl, there y look _ ⟨_, Heap.get?_update_self _ iAt (Obj.isFreed_of_fields (Obj.data_mapFields iDat _)), ?_, ?_⟩ (Heap.SameBut.update ..)⟩))
    · rw [Obj.cls_mapFields]; exact iCls
    · simp [Obj.data_mapFields iDat, rawInt]
  | none =>
    obtain ⟨calm, over⟩ := over look
    simp only [look, Int.toNat_natCast]
    refine wpAny_bind (wpAny_rule (wpAny_bind (wpAny_setField iAt iDat (by simp) (wpAny_bind (m := newExc (.type "StopIteration") []) ?_))))
    unfold newExc newTuple
    refine wpAny_bind (wpAny_newObj_type (wpAny_bind (m := firstArgMember _ _) (wpAny_of_eq (a := Value.none) ?_ (wpAny_newObj_type ?_ (by size_fits)))) (by size_fits))
    · first | rfl | (simp only [firstArgMember]; rfl)
    unfold raiseNew
    refine wpAny_bind (wpAny_handled ((show A.in1.handled = none from calm).symm ▸ wpAny_bind (wpAny_pure (wpAny_throw (over _ _ ⟨_, _, _, rfl, Heap.get?_push_size _ rfl, rfl, rfl, ?_⟩ ?_)))))
    · first | rfl | (rw [Array.getElem?_append_left (by decide)]; rfl) | kernel_rfl
    · exact ((Heap.SameBut.extBut (Heap.SameBut.update ..)).push _).push _
end
section
variable {X : Cx} {e : Expr} {te : TE}
def tYfLst (te : TE) : TYf := fun σ H Q => te σ H fun x H1 => ∃ a xs, x = .ref a ∧ H1 a = some (.lst xs) ∧ Q xs H1
theorem close_lst : typeLookup (.type "list_iterator") "close" = pure none := by rw [typeLookup_type, builtinLookup_eq_fast]; kernel_rfl
theorem yf_lst (he : PE X e te) : YfE X e (tYfLst te) := by
  constructor
  intro pn s σ H Q I h
  refine thn (he.run pn s σ H _ I h) fun got s1 ⟨x, H1, I1, r1, a, xs, isRef, isLst, q0⟩ => ?_
  subst isRef
  cases (r1 : got = Value.ref a)
  obtain ⟨us, rus, plain, _⟩ := I1.list (SqL.of isLst)
  have isL : s1.heap.IsList a us.toArray := plain.isList
  have below : ∀ b o, s1.heap.get? b = some o → b ≠ s1.heap.objs.size := fun b o at_b => Nat.ne_of_lt (Heap.lt_size at_b)
  have aNe : a ≠ s1.heap.objs.size := let ⟨o, at_a, _⟩ := isL; below a o at_a
  refine ⟨"list", isL.typeIs, by decide, wpAny_pyIter_list isL ⟨s1.heap.objs.size, H1, xs, fun j g => g.IsListIter s1.heap.objs.size a j ∧ g.IsList a us.toArray, rfl, I1.kept (t' := s1.toks) fun b o at_b => Heap.get?_push_of_some _ at_b,
    .inr I1.sz, Nat.ne_of_gt I1.lt, fun y c hy => let ⟨_, o, at_c, _⟩ := I1.cell y c hy; below c o at_c, I1.hok.fresh (Nat.le_refl _), fun p hp => below p.1 _ (I1.pin p hp).1,
    ⟨⟨_, Heap.get?_push_size _ rfl, rfl, rfl⟩, isL.push _⟩, ⟨⟨"list_iterator", ?_, close_lst, by decide⟩, ?_, ?_, ?_⟩, q0⟩⟩
  · exact fun j g q => let ⟨o, at_i, c, _⟩ := q.1; ⟨o, at_i, c⟩
  · intro j g g' ⟨⟨o, at_i, ri⟩, o2, at_a, ra⟩ keep
    exact ⟨⟨o, keep _ o (.inl rfl) at_i, ri⟩, o2, keep _ o2 (.inr fun z => nomatch isLst.symm.trans z) at_a, ra⟩
  · intro A' j x s2 Q' E' calm hx q ask
    obtain ⟨u, hu, ru⟩ := rus.get hx
    refine lst_asked q.1 q.2 (fun y hy g q' same => ?_) (fun z => by simp [hu] at z)
    cases ((List.getElem?_toArray ..).symm.trans hy).symm.trans hu
    exact ask u g s2.toks ru ⟨q', q.2.extBut same.extBut aNe⟩ fun b o hb at_b => same.extBut b o hb at_b
  · intro A' s2 Q' E' calm q stop
    have out : us.toArray[xs.length]? = none := by
      rw [List.getElem?_toArray, List.getElem?_eq_none_iff, rus.length]; exact Nat.le_refl _
    exact lst_asked q.1 q.2 (fun y hy => nomatch out.symm.trans hy) fun _ => ⟨calm, fun err g isS keep => stop err g s2.toks isS fun b o hb at_b => keep b o hb at_b⟩
end
end L2

set_option Elab.async false
set_option linter.all false
set_option maxRecDepth 100000
set_option maxHeartbeats 8000000
/-! The generator of all words. -/
namespace WK
open PySem L2 PyProof.Rows K1 GenW
open TX (sg sigs)
open PySem.W (Frag kitOne)
abbrev sAllW : Stmt := top 18
theorem gfor_it {J : It} {n : Nat} {G : Hp → Prop} {Y : Nat → Hp → V → Hp → Prop} (w : Walk J n G Y) {g : TG} {tb : TGn} {D : GEnds} {ys : List V} {σ : L2.St} {H : Hp} (Pv : Nat → List V → L2.St → Hp → Prop) (h0 : Pv 0 ys σ H) (hG : ∀ i ys σ H, i ≤ n → Pv i ys σ H → G H)
    (hs : ∀ i x ys σ H H', i < n → Pv i ys σ H → Y i H x H' → g x σ H' fun σ2 H2 => tb { D with nx := Pv (i + 1), ct := Pv (i + 1), bk := D.nx } ys σ2 H2) (hd : ∀ ys σ H, Pv n ys σ H → D.nx ys σ H) :
    ∃ W : Nat → Nat → List V → L2.St → Hp → Prop, (∃ m, W 0 m ys σ H) ∧ ∀ i m ys σ H, W i m ys σ H →
      (J.stop i H ∧ D.nx ys σ H) ∨ (J.go i H ∧ ∃ N : List V → L2.St → Hp → Prop, (∀ ys' σ' H', N ys' σ' H' → ∃ m', m' < m ∧ W (i + 1) m' ys' σ' H') ∧ ∀ x H', J.yld i H x H' → g x σ H' fun σ2 H2 => tb { D with nx := N, ct := N, bk := D.nx } ys σ2 H2) := by
  refine ⟨fun i m ys σ H => m = n - i ∧ i ≤ n ∧ Pv i ys σ H, ⟨n, by simp, Nat.zero_le _, h0⟩, ?_⟩
  rintro i m ys σ H ⟨rfl, hi, p⟩
  have q := hG i ys σ H hi p
  by_cases hlt : i < n
  · exact .inr ⟨w.goes i H hlt q, Pv (i + 1), fun ys' σ' H' p' => ⟨n - (i + 1), by omega, rfl, hlt, p'⟩, fun x H' y => hs i x ys σ H H' hlt p (w.yields i H x H' hlt q y)⟩
  · have e : i = n := by omega
    subst e
    exact .inl ⟨w.stops H q, hd ys σ H p⟩
def spAllW : SpG := fun vs H Q _ => ∃ (L : W) (m : Nat), vs = [.str (tx L), .int (m : Int)] ∧ Let L ∧ m ≤ 4 ∧ ∀ H', Same H H' → Q ((allW L m).map txV) H'
abbrev NG : List Str := ["letters", "most", "layer", "_", "word", "letter"]
abbrev oG : List (Str × Nat) := [("word", 4), ("letter", 5)]
section
variable {P : Program} {w : World} {K : PySem.W.Frag} {mg : Str → Option Value} {base : Heap}
variable {fNL fNN : Addr} {dNL dNN : FuncData}
theorem scAW : GScope NG ["letters", "most"] (defScope sAllW) := ⟨rfl, rfl, rfl, by decide +kernel, rfl, by decide +kernel, by decide +kernel⟩
theorem ok_allw {f : Addr} {fd : FuncData} (F : Fun K "all_words" "all_words" sAllW f fd) (T : TN mg) (AL : Fn K mg "need_letters" sNeedLet ["letters"] fNL dNL) (GL : FnOk P w K mg base CX0 3 fNL dNL ["letters"] spNeedLet)
    (AN : Fn K mg "need_number" sNeedNum ["value", "least", "most"] fNN dNN) (GN : FnOk P w K mg base CX0 3 fNN dNN ["value", "least", "most"] spNeedNum) : GFn P w K mg base 4 f fd ["letters", "most"] spAllW := by
  obtain ⟨oc, od, kV, dc, pm, an, cdv, ct, osl, rfl, lk, hcd⟩ := F.ex
  refine gfn_of lk hcd scAW (fun vs H Q E h => ?_) (fun A outer s H vs Q E pn hr h => ?_)
  · obtain ⟨L, m, rfl, _⟩ := h
    rfl
  · obtain ⟨L, m, rfl, hL, hm, q⟩ := h
    have hr2 : Room 2 _ := hr.mono (by decide)
    refine ⟨_, gss_cons (gs_ps (ps_expr (pe_call GL hr rfl AL.g AL.F.kp AL.b .nil pass0 (pa_cons (pv 0) pa_nil))))
      (gss_cons (gs_ps (ps_expr (pe_call GN hr rfl AN.g AN.F.kp AN.b .nil pass0 (pa_cons (pv 1) (pa_cons pe_int (pa_cons pe_int pa_nil))))))
      (gss_cons (gs_ps (ps_set (i := 2) scAW.nd rfl (Or.inl rfl) (pe_lst (pa_cons pe_str pa_nil))))
      (gss_cons (gs_yield pe_str)
      (gss_cons (gs_for owns_gcx rfl (pi_range1 rfl T.rng (pa_cons (pv 1) pa_nil)) (pg_name (i := 3) scAW.nd rfl (Or.inl rfl))
        (gss_cons (gs_ps (ps_setLc2 (i := 2) (own := oG) (vs1 := [5]) (wi1 := iStr (tVar 0)) (g := gName 4) (g1 := gName 5) (tt := tYes) (tt1 := tYes) (te := tOp rAddS (tVar 4) (tVar 5)) rfl scAW.nd rfl rfl (sw_true rfl rfl rfl (by decide +kernel)) (pi_list (pv 2))
            (blkOk_by (own := oG) (N := NG) (sc := defScope sAllW) (by decide +kernel)) (by decide)
            (fun _ _ _ _ _ => pg_name (i := 4) scAW.nd rfl (Or.inl rfl)) (fun _ _ _ _ _ => pts_nil)
            (fun _ _ _ _ _ => pi_str (pv 0)) (fun _ _ _ _ _ => pg_name (i := 5) scAW.nd rfl (Or.inl rfl)) (fun _ _ _ _ _ => pts_nil)
            (fun _ _ _ _ _ => pe_op op_add_str (pv 4) (pv 5))))
        (gss_cons (gs_yieldFrom (yf_lst (pv 2)) hr.hd) gss_nil))) gss_nil)))), ?_⟩
    refine ⟨_, rfl, L, rfl, hL, fun H1 s1 => ⟨_, rfl, (m : Int), 0, 7, rfl, by omega, by omega, ⟨(by show 1 ≤ sizeLine; decide), fun la hla => ⟨(by show 0 < sizeLine; decide), _, rfl, (m : Int), rfl, by omega, by omega, ?_⟩⟩⟩⟩
    refine gfor_it (walk_range (lo := 0) (n := m)) (fun k ys σ H1 => ys = (allW L k).map txV ∧ ∃ la a3, σ = [some (.str (tx L)), some (.int m), some (.ref la), a3, none, none] ∧ Same H H1 ∧ H1 la = some (.lst ((lay L k).map txV))) ⟨rfl, la, none, rfl, same_two s1 hla, upd_same⟩ (fun _ _ _ _ _ _ => trivial) ?_ ?_
    · rintro k x ys σ H1 H2 hk ⟨rfl, la, a3, rfl, s1, hla1⟩ ⟨rfl, rfl⟩
      have lk := lay_81 L hL.few (show k ≤ 4 by omega)
      have lk1 := lay_81 L hL.few (show k + 1 ≤ 4 by omega)
      have ak := allW_len L hL.few k (by omega)
      refine ⟨_, rfl, la, rfl, ⟨_, SqL.of hla1⟩, fun D hD => ?_⟩
      refine counted walk_list (fun i H3 => Same H2 H3 ∧ H3 D = some (.lst ((((lay L k).take i).flatMap fun u => L.map fun c => u ++ [c]).map txV))) ⟨same_upd hD, upd_same⟩ (fun i H3 _ ⟨s3, _⟩ => SqL.of (s3 _ _ hla1)) ?_ ?_
      · rintro i x H3 H4 hi ⟨s3, hd⟩ ⟨rfl, hx⟩
        rw [List.getElem?_map] at hx
        cases hc : (lay L k)[i]? with
        | none => rw [hc] at hx; cases hx
        | some u =>
          rw [hc] at hx
          obtain rfl : txV u = x := Option.some.inj hx
          have hul : u.length = k := ((mem_lay L k u).mp (List.mem_of_getElem? hc)).1
          refine ⟨rfl, _, rfl, tx L, rfl, ?_⟩
          refine counted walk_str (fun j H5 => Same H2 H5 ∧ H5 D = some (.lst (((((lay L k).take i).flatMap fun u => L.map fun c => u ++ [c]) ++ (L.take j).map fun c => u ++ [c]).map txV))) ⟨s3, by rw [List.take_zero, List.map_nil, List.append_nil]; exact hd⟩ (fun _ _ _ _ => trivial) ?_ ?_
          · rintro j y H5 H6 hj ⟨s5, hd5⟩ ⟨rfl, d, hy, rfl⟩
            have hy' : L[j]? = some d := by
              rw [← Array.getElem?_toList, tx_list] at hy
              exact hy
            refine ⟨rfl, _, rfl, _, rfl, _, _, rfl, rfl, ?_, _, hd5, ?_, same_at s5 hD, ?_⟩
            · rw [tx_len, sizeLine_eq, hul]
              show k + 1 ≤ _
              omega
            · have h1 : (((lay L k).take i).flatMap fun u => L.map fun c => u ++ [c]).length ≤ ((lay L k).take i).length * 3 := by
                have := hL.few
                generalize (lay L k).take i = l
                induction l with
                | nil => exact Nat.le_refl _
                | cons u l ih =>
                  rw [List.flatMap_cons, List.length_append, List.length_cons, List.length_map]
                  omega
              have := hL.few
              rw [List.length_take] at h1
              rw [List.length_map, List.length_append, List.length_map, List.length_take, sizeLine_eq]
              omega
            · rw [upd_same, List.take_add_one, hy']
              show _ = some (HO.lst (List.map txV (_ ++ List.map (fun c => u ++ [c]) (L.take j ++ [d]))))
              rw [List.map_append, List.map_append, List.map_append, List.map_append]
              show some (HO.lst (_ ++ [V.str (tx u ++ tx [d])])) = some (HO.lst (_ ++ (_ ++ [V.str (tx (u ++ [d]))])))
              rw [tx_app, List.append_assoc] <;> rfl
          · rintro H5 ⟨s5, hd5⟩
            rw [size_tx, List.take_length] at hd5
            refine ⟨s5, ?_⟩
            have tk : (lay L k).take (i + 1) = (lay L k).take i ++ [u] := by rw [List.take_add_one, hc] <;> rfl
            rw [hd5, tk, List.flatMap_append, List.flatMap_cons, List.flatMap_nil, List.append_nil]
      · rintro H3 ⟨s3, hd⟩
        rw [List.length_map, List.take_length] at hd
        have hd2 : H3 D = some (.lst ((lay L (k + 1)).map txV)) := hd
        refine ⟨_, rfl, D, _, rfl, hd2, ?_, ?_, D, _, rfl, s1.trans s3, hd2⟩
        · rw [List.length_map, List.length_map, sizeLine_eq]
          omega
        · rw [← List.map_append] <;> rfl
    · rintro ys σ H1 ⟨rfl, la, a3, rfl, s1, hla1⟩
      exact q _ s1
end
end WK

set_option Elab.async false
set_option linter.all false
set_option maxRecDepth 100000
set_option maxHeartbeats 4000000
/-! list(zip(t, u)) of two tuples. -/
namespace RZ
open PySem
open PySem.Sem (wp)
section
variable {prog : Program} {w : World} {A : Around} {E : Value → Shared → Prop} {s : Shared}
/-- a zip of two tuples that holds the pair that it gave before, asked once more: the next pair while the first tuple has an item, its end after that -/
theorem held_asked {z TI TO T i1 i2 l1 l2 : Addr} {f : Bool} {old : Obj} {m n : Nat} {us vs : Array Value} {Q : Fin → Shared → Prop} (D : ZipApart z TI TO i1 i2 l1 l2)
    (isZ : IsZipHeld s.heap z TI TO T f) (oldAt : s.heap.get? T = some old) (its : IsPair s.heap TI (.ref i1) (.ref i2)) (w1 : s.heap.IsTupleIter i1 l1 m) (w2 : s.heap.IsTupleIter i2 l2 n)
    (t1 : s.heap.IsTuple l1 us) (t2 : s.heap.IsTuple l2 vs) (both : ∀ u, us[m]? = some u → ∃ v, vs[n]? = some v)
    (pair : ∀ u v, us[m]? = some u → vs[n]? = some v → ∀ g, IsZipHeld g z TI TO T true → g.IsTupleIter i1 l1 (m + 1) → g.IsTupleIter i2 l2 (n + 1) → IsPair g s.heap.objs.size u v → g.objs.size = s.heap.objs.size + 1 →
      (∀ b q, b ≠ z → b ≠ i1 → b ≠ i2 → s.heap.get? b = some q → g.get? b = some q) → Q (.done (.ret (.ref s.heap.objs.size))) { s with heap := g })
    (over : us[m]? = none → A.handled = none ∧ ∀ g err, (∀ b q, b ≠ z → b ≠ i1 → b ≠ i2 → s.heap.get? b = some q → g.get? b = some q) → (∃ q, g.get? err = some q ∧ q.cls = .type "StopIteration") → E (.ref err) { s with heap := g }) :
    wpAny (model prog w) A (Builtin.«zip.__next__» ⟨[.ref z], []⟩) Q E s := by
  refine wpAny_bind (m := field (.ref z) 2) (wpAny_field isZ rfl (x := .bool false) rfl ?_)
  refine wpAny_bind (m := field (.ref z) 3) (wpAny_field isZ rfl (x := .ref TI) rfl (wpAny_bind (wpAny_seqItems its rfl ?_)))
  refine wpAny_bind (m := Builtin.SmallTypes.ownedTupleIsFree (.ref z)) (wpAny_tupleHeld_zip isZ oldAt fun g1 z1 same1 => ?_)
  simp only [← Array.forIn_toList, List.forIn_cons, List.forIn_nil, Bool.false_eq_true, if_false]
  have v1 := w1.extBut same1.extBut D.i1z
  have y1 := t1.extBut same1.extBut D.l1z
  refine wpAny_bind (wpAny_bind (wpAny_bind (wpAny_holding (wpAny_bind (m := Builtin.SmallTypes.nextOf (.ref i1)) ?_))))
  cases look : us[m]? with
  | none =>
    obtain ⟨calm, over⟩ := over look
    exact nextOf_tuple_end (s := { s with heap := g1 }) calm v1 y1 look fun g err keep isStop => over g err (fun b q bz b1 _ at_b => keep _ _ b1 (same1.extBut _ _ bz at_b)) isStop
  | some u =>
    obtain ⟨v, look2⟩ := both u look
    refine nextOf_tuple_item (s := { s with heap := g1 }) v1 y1 look fun g2 v1' same2 => wpAny_pure (wpAny_pure ?_)
    refine wpAny_bind (wpAny_bind (wpAny_holding (wpAny_bind (m := Builtin.SmallTypes.nextOf (.ref i2)) ?_)))
    refine nextOf_tuple_item (s := { s with heap := g2 }) ((w2.extBut same1.extBut D.i2z).extBut same2.extBut D.i12.symm) ((t2.extBut same1.extBut D.l2z).extBut same2.extBut D.l2i1) look2 fun g3 v2' same3 => ?_
    refine wpAny_pure (wpAny_pure (wpAny_pure (wpAny_bind (m := newTuple [u, v]) (wpAny_newTuple ?_))))
    have size3 : g3.objs.size = s.heap.objs.size := same3.1.trans (same2.1.trans same1.1)
    refine wpAny_pure ?_
    show Q (.done (.ret (.ref g3.objs.size))) _
    have made : IsPair (g3.push { cls := .type "tuple", data := .seq #[u, v] }) g3.objs.size u v := Heap.get?_push_size _ rfl
    have grown : (g3.push { cls := .type "tuple", data := .seq #[u, v] }).objs.size = g3.objs.size + 1 := Heap.size_push ..
    rw [size3] at made grown ⊢
    refine pair u v look look2 _ (Heap.get?_push_of_some _ (same3.extBut _ _ D.i2z.symm (same2.extBut _ _ D.i1z.symm z1))) ((v1'.extBut same3.extBut D.i12).at fun o at_b => Heap.get?_push_of_some _ at_b)
      (v2'.at fun o at_b => Heap.get?_push_of_some _ at_b) made grown fun b q bz b1 b2 at_b => ?_
    exact Heap.get?_push_of_some _ (same3.extBut _ _ b2 (same2.extBut _ _ b1 (same1.extBut _ _ bz at_b)))
/-- where zip stands, i pairs out -/
def ZS (h : Heap) (z TI TO i1 i2 l1 l2 : Addr) (i : Nat) : Prop := IsPair h TI (.ref i1) (.ref i2) ∧ h.IsTupleIter i1 l1 i ∧ h.IsTupleIter i2 l2 i ∧
  ((IsZip h z TI TO .none ∧ ∃ a b, IsPair h TO a b) ∨ ∃ T f oT, IsZipHeld h z TI TO T f ∧ h.get? T = some oT)
theorem ZS.typeIs {z TI TO i1 i2 l1 l2 : Addr} {i : Nat} (h : ZS s.heap z TI TO i1 i2 l1 l2 i) : s.TypeIs (.ref z) "zip" := by
  obtain ⟨_, _, _, ⟨h, _⟩ | ⟨T, f, oT, h, _⟩⟩ := h
  · exact ⟨_, h, rfl⟩
  · exact ⟨_, h, rfl⟩
theorem ZS.keep {h h' : Heap} {z TI TO i1 i2 l1 l2 S : Addr} {i : Nat} (x : ZS h z TI TO i1 i2 l1 l2 i) (hS : ∃ acc c, h.get? S = some { cls := .type "list", dict := none, data := .seq acc c, slots := #[] })
    (k : ∀ b o, b ≠ S → h.get? b = some o → h'.get? b = some o) (kS : ∃ o, h'.get? S = some o) : ZS h' z TI TO i1 i2 l1 l2 i := by
  obtain ⟨acc, c, hS⟩ := hS
  obtain ⟨h1, ⟨o2, h2, c2, r2⟩, ⟨o3, h3, c3, r3⟩, h4⟩ := x
  have ne : ∀ b o, h.get? b = some o → o.cls ≠ .type "list" → b ≠ S := fun b o e q z => by
    rw [z, hS] at e
    cases e
    exact q rfl
  refine ⟨k _ _ (ne _ _ h1 (fun z => by simp at z)) h1, ⟨o2, k _ _ (ne _ _ h2 (by rw [c2]; simp)) h2, c2, r2⟩, ⟨o3, k _ _ (ne _ _ h3 (by rw [c3]; simp)) h3, c3, r3⟩, ?_⟩
  rcases h4 with ⟨h4, a, b, h5⟩ | ⟨T, f, oT, h4, h5⟩
  · exact .inl ⟨k _ _ (ne _ _ h4 (fun z => by simp at z)) h4, a, b, k _ _ (ne _ _ h5 (fun z => by simp at z)) h5⟩
  · by_cases hT : T = S
    · obtain ⟨o, kS⟩ := kS
      exact .inr ⟨T, f, o, k _ _ (ne _ _ h4 (fun z => by simp at z)) h4, by rw [hT]; exact kS⟩
    · exact .inr ⟨T, f, oT, k _ _ (ne _ _ h4 (fun z => by simp at z)) h4, k _ _ hT h5⟩
theorem next_item {z TI TO i1 i2 l1 l2 : Addr} {i : Nat} {xs ys : Array Value} {x y : Value} {Q : Option Value → Shared → Prop} (D : ZipApart z TI TO i1 i2 l1 l2) (st : ZS s.heap z TI TO i1 i2 l1 l2 i)
    (hl1 : s.heap.IsTuple l1 xs) (hl2 : s.heap.IsTuple l2 ys) (hx : xs[i]? = some x) (hy : ys[i]? = some y)
    (hQ : ∀ g, ZS g z TI TO i1 i2 l1 l2 (i + 1) → IsPair g s.heap.objs.size x y → g.objs.size = s.heap.objs.size + 1 →
      (∀ b q, b ≠ z → b ≠ TO → b ≠ i1 → b ≠ i2 → s.heap.get? b = some q → g.get? b = some q) → Q (some (.ref s.heap.objs.size)) { s with heap := g }) : wpAny (model prog w) A (pyNext (.ref z)) Q E s := by
  have isTy := st.typeIs
  obtain ⟨h1, h2, h3, ⟨new, a, b, bare⟩ | ⟨T, f, oT, held, atT⟩⟩ := st
  · refine pyNext_zipT_item D new h1 bare h2 h3 hl1 hl2 hx hy fun g z' _ w1 w2 made grown keep => hQ g ⟨keep _ _ D.TIz D.TITO D.TIi1 D.TIi2 h1, w1, w2, .inr ⟨s.heap.objs.size, false, _, z', made⟩⟩ made grown keep
  · unfold pyNext
    refine wpAny_bind (wpAny_attempt (wpAny_callSpecial?_slot (name := Str.ofString "__next__") isTy F.slot_zip_next (wpAny_call_entry F.slot_zip_next isTy F.entry_zip_next ?_ (F.args_zip_next_1 _))))
    refine held_asked D held atT h1 h2 h3 hl1 hl2 (fun _ _ => ⟨y, hy⟩) (fun u v hu hv g z' w1 w2 made grown keep => ?_) (fun no => nomatch hx.symm.trans no)
    cases hx.symm.trans hu
    cases hy.symm.trans hv
    refine ⟨_, rfl, wpAny_pure (hQ g ⟨keep _ _ D.TIz D.TIi1 D.TIi2 h1, w1, w2, .inr ?_⟩ made grown fun b q bz _ b1 b2 at_b => keep b q bz b1 b2 at_b)⟩
    by_cases eT : T = z ∨ T = i1 ∨ T = i2
    · rcases eT with rfl | rfl | rfl
      · exact ⟨_, true, _, z', z'⟩
      · exact let ⟨o, at_o, _⟩ := w1; ⟨_, true, o, z', at_o⟩
      · exact let ⟨o, at_o, _⟩ := w2; ⟨_, true, o, z', at_o⟩
    · obtain ⟨nz, n1, n2⟩ : T ≠ z ∧ T ≠ i1 ∧ T ≠ i2 := by simpa [not_or] using eT
      exact ⟨T, true, oT, z', keep T oT nz n1 n2 atT⟩
theorem next_end {z TI TO i1 i2 l1 l2 : Addr} {i : Nat} {xs ys : Array Value} {Q : Option Value → Shared → Prop} (hh : A.handled = none) (D : ZipApart z TI TO i1 i2 l1 l2) (st : ZS s.heap z TI TO i1 i2 l1 l2 i)
    (hl1 : s.heap.IsTuple l1 xs) (hl2 : s.heap.IsTuple l2 ys) (hx : xs[i]? = none)
    (hQ : ∀ g, (∀ b q, b ≠ z → b ≠ TO → b ≠ i1 → b ≠ i2 → s.heap.get? b = some q → g.get? b = some q) → Q none { s with heap := g }) : wpAny (model prog w) A (pyNext (.ref z)) Q E s := by
  have isTy := st.typeIs
  obtain ⟨h1, h2, h3, ⟨new, a, b, bare⟩ | ⟨T, f, oT, held, atT⟩⟩ := st
  · exact pyNext_zipT_end hh D new h1 bare h2 h3 hl1 hl2 (.inl hx) hQ
  · unfold pyNext
    refine wpAny_bind (wpAny_attempt (wpAny_callSpecial?_slot (name := Str.ofString "__next__") isTy F.slot_zip_next (wpAny_call_entry F.slot_zip_next isTy F.entry_zip_next ?_ (F.args_zip_next_1 _))))
    refine held_asked D held atT h1 h2 h3 hl1 hl2 (fun u hu => nomatch hx.symm.trans hu) (fun u v hu => nomatch hx.symm.trans hu) fun _ => ⟨hh, fun g err keep isStop => ?_⟩
    obtain ⟨o, at_o, cls_o⟩ := isStop
    exact wpAny_bind (wpAny_isInstance (T := "StopIteration") (b := true) ⟨o, at_o, cls_o⟩ isSubtype_stop (wpAny_pure (hQ g fun b q bz _ b1 b2 at_b => keep b q bz b1 b2 at_b)))
theorem zip_no_len : typeLookup (.type "zip") "__len__" = pure none := am_miss_of_fast (by decide +kernel)
theorem zip_no_hint : typeLookup (.type "zip") "__length_hint__" = pure none := am_miss_of_fast (by decide +kernel)
end
end RZ

set_option Elab.async false
set_option linter.all false
set_option maxRecDepth 100000
set_option maxHeartbeats 4000000
/-! list(zip(t, u)): the rule. -/
namespace RZ
open PySem PySem.Spec PyProof.Rows L2
open PySem.Sem (wp)
theorem hok_past {P : Program} {w : World} {H : Hp} {h h' : Heap} (x : HOk P w H h) (ch : List Addr) (hn : ∀ c ∈ ch, H c = none) (k : ∀ b u, b ∉ ch → h.get? b = some u → h'.get? b = some u) : HOk P w H h' := fun a o e =>
  (x a o e).stay (fun b u hd q => k b u (fun hm => by
    have h0 := hn b hm
    rcases hd with z | z
    · rw [z, e] at h0; cases h0
    · rw [z] at h0; cases h0) q) (fun _ q => q) fun _ _ q => q
abbrev lob (acc : Array Value) (c : Nat) : Obj := { cls := .type "list", dict := none, data := .seq acc c, slots := #[] }
section
variable {P : Program} {w : World} {A : Around} {R : Result → Shared → Prop} {z TI TO i1 i2 l1 l2 S : Addr}
theorem zip_loop (hh : A.in1.handled = none) (D : ZipApart z TI TO i1 i2 l1 l2) (xs ys : List V) (its its2 : List Value) (rx : Vals xs its) (ry : Vals ys its2) (hn : xs.length = ys.length) (hz : xs.length ≤ sizeLine) (res : Value)
    (Sz : S ≠ z) (STO : S ≠ TO) (Si1 : S ≠ i1) (Si2 : S ≠ i2) (l1S : l1 ≠ S) (l2S : l2 ≠ S) :
    ∀ (m i : Nat) (s : Shared) (H : Hp) (acc : Array Value) (c : Nat) (Ts : List Addr), xs.length - i = m → i ≤ xs.length → ZS s.heap z TI TO i1 i2 l1 l2 i → s.heap.IsTuple l1 its.toArray → s.heap.IsTuple l2 its2.toArray →
      TO < s.heap.objs.size → H z = none → H TO = none → H i1 = none → H i2 = none → H S = none → HOk P w H s.heap → s.heap.get? S = some (lob acc c) → acc.toList = Ts.map Value.ref → Ts.length = i →
      (∀ (j : Nat) (T : Addr), Ts[j]? = some T → ∃ x y, xs[j]? = some x ∧ ys[j]? = some y ∧ H T = some (.tup [x, y])) →
      (∀ (h' : Heap) (H' : Hp) (acc' : Array Value) (c' : Nat) (Ts' : List Addr), (∀ b o, b ≠ S → b ≠ z → b ≠ TO → b ≠ i1 → b ≠ i2 → s.heap.get? b = some o → h'.get? b = some o) → (∀ b, b < s.heap.objs.size → H' b = H b) → HOk P w H' h' → h'.get? S = some (lob acc' c') → H' S = none →
        acc'.toList = Ts'.map Value.ref → Ts'.length = xs.length → (∀ (j : Nat) (T : Addr), Ts'[j]? = some T → ∃ x y, xs[j]? = some x ∧ ys[j]? = some y ∧ H' T = some (.tup [x, y])) → R (.ok (.ret res)) { s with heap := h' }) →
      codeAny (model P w) A (.builtin "list.extend.loop" ⟨[.ref S, .ref z, res], []⟩) R s := by
  intro m
  induction m with
  | zero =>
    intro i s H acc c Ts hm hi st t1 t2 tolt nz nTO n1 n2 nS hok hS hacc hlen hTs hR
    have hin : i = xs.length := (by omega)
    have hx : its.toArray[i]? = none := by
      have e2 : its[i]? = none := List.getElem?_eq_none_iff.mpr (by have := rx.length; omega)
      simpa using e2
    refine codeAny_builtin F.entry_extend_loop (Around.under_plainId F.plain_extend_loop _ ▸ wpAny_bind (m := pyNext (.ref z)) ?_)
    refine (next_end hh D st t1 t2 hx fun h' hk => ?_)
    refine wpAny_pure (hR h' H acc c Ts (fun b o _ b1 b2 b3 b4 e => hk b o b1 b2 b3 b4 e) (fun _ _ => rfl) ?_ (hk _ _ Sz STO Si1 Si2 hS) nS hacc (by omega) hTs)
    refine hok_past hok [z, TO, i1, i2] (fun c hc => ?_) fun b u hb q => hk b u (fun e => hb (by simp [e])) (fun e => hb (by simp [e])) (fun e => hb (by simp [e])) (fun e => hb (by simp [e])) q
    have e' : c = z ∨ c = TO ∨ c = i1 ∨ c = i2 := by simpa using hc
    rcases e' with e | e | e | e <;> rw [e] <;> assumption
  | succ m ih =>
    intro i s H acc c Ts hm hi st t1 t2 tolt nz nTO n1 n2 nS hok hS hacc hlen hTs hR
    have hlt : i < xs.length := (by omega)
    have hlt2 : i < ys.length := hn ▸ hlt
    obtain ⟨u, hu, ru⟩ := rx.get (List.getElem?_eq_getElem hlt)
    obtain ⟨u2, hu2, ru2⟩ := ry.get (List.getElem?_eq_getElem hlt2)
    refine codeAny_builtin F.entry_extend_loop (Around.under_plainId F.plain_extend_loop _ ▸ wpAny_bind (m := pyNext (.ref z)) ?_)
    refine (next_item D st t1 t2 (x := u) (y := u2) (by simpa using hu) (by simpa using hu2) fun h' st' pr hsz hk => ?_)
    have nT : H s.heap.objs.size = none := hok.fresh (Nat.le_refl _)
    have hS' := hk _ _ Sz STO Si1 Si2 hS
    have Slt : S < s.heap.objs.size := Heap.lt_size hS
    have ok1 : HOk P w H h' := hok_past hok [z, TO, i1, i2] (fun c hc => by
      have e' : c = z ∨ c = TO ∨ c = i1 ∨ c = i2 := by simpa using hc
      rcases e' with e | e | e | e <;> rw [e] <;> assumption) fun b u hb q => hk b u (fun e => hb (by simp [e])) (fun e => hb (by simp [e])) (fun e => hb (by simp [e])) (fun e => hb (by simp [e])) q
    have ok2 : HOk P w (upd H s.heap.objs.size (.tup [xs[i], ys[i]])) h' := ok1.laidN (fun _ _ q => q) nT ⟨by show 2 ≤ sizeLine; decide, [u, u2], .cons ru (.cons ru2 .nil), ⟨_, pr, rfl, _, rfl⟩⟩
    have acl : acc.size = i := by rw [← Array.length_toList, hacc, List.length_map]; exact hlen
    have keepS : ∀ b o, b ≠ S → h'.get? b = some o → (h'.update S (Obj.mapSeq (·.push (.ref s.heap.objs.size)))).get? b = some o := fun b o hb e => (Heap.get?_update_other _ _ (Ne.symm hb)).trans e
    have Sx := Heap.get?_update_self (Obj.mapSeq (·.push (Value.ref s.heap.objs.size))) hS' rfl
    have old : ∀ b o, s.heap.get? b = some o → b ≠ s.heap.objs.size := fun b o e => Nat.ne_of_lt (Heap.lt_size e)
    have lt5 : ∀ {b : Addr}, H b = none → b < s.heap.objs.size → (upd H s.heap.objs.size (.tup [xs[i], ys[i]])) b = none := fun {b} hb hl => by rw [upd_ne (Nat.ne_of_lt hl)]; exact hb
    obtain ⟨hTI, ⟨o1, ho1, _⟩, ⟨o2, ho2, _⟩, hzz⟩ := id st
    have zlt : z < s.heap.objs.size := by
      obtain ⟨o, ho, _⟩ := st.typeIs
      exact Heap.lt_size ho
    show wpAny _ A.in1 (updateSeq S (·.push (.ref s.heap.objs.size)) >>= _) _ _ _
    refine wpAny_bind ?_
    refine wpAny_updateSeq hS' rfl (wpAny_pure ⟨plainId_quiet F.plain_extend_loop _, ?_⟩) (by rw [acl]; omega) (by show (acc.push _).size ≤ sizeLine + 1; rw [Array.size_push, acl]; omega)
    have TOok : TO ≠ s.heap.objs.size := Nat.ne_of_lt tolt
    have hTOlt : H TO = none → TO ≠ s.heap.objs.size → (upd H s.heap.objs.size (.tup [xs[i], ys[i]])) TO = none := fun h1 h2 => by rw [upd_ne h2]; exact h1
    have sz2 : (h'.update S (Obj.mapSeq (·.push (.ref s.heap.objs.size)))).objs.size = s.heap.objs.size + 1 := by rw [Heap.size_after_update]; exact hsz
    refine ih (i + 1) { s with heap := h'.update S (Obj.mapSeq (·.push (.ref s.heap.objs.size))) } (upd H s.heap.objs.size (.tup [xs[i], ys[i]])) (acc.push (.ref s.heap.objs.size)) _ (Ts ++ [s.heap.objs.size]) (by omega) hlt (st'.keep ⟨_, _, hS'⟩ keepS ⟨_, Sx⟩) ?_ ?_ (by show TO < (h'.update S _).objs.size; rw [sz2]; exact Nat.lt_succ_of_lt tolt) (lt5 nz zlt) (hTOlt nTO TOok) (lt5 n1 (Heap.lt_size ho1)) (lt5 n2 (Heap.lt_size ho2)) (lt5 nS Slt) ?_ Sx ?_ ?_ ?_ fun h3 H3 acc3 c3 Ts3 k3 e3 ok3 S3 nS3 a3 len3 T3 => ?_
    · obtain ⟨o, ho, r⟩ := t1
      exact ⟨o, keepS _ _ l1S (hk _ _ D.l1z D.l1TO D.l1i1 D.l1i2 ho), r⟩
    · obtain ⟨o, ho, r⟩ := t2
      exact ⟨o, keepS _ _ l2S (hk _ _ D.l2z D.l2TO D.l2i1 D.l2i2 ho), r⟩
    · exact hok_past ok2 [S] (fun c hc => by rw [List.mem_singleton.mp hc]; exact lt5 nS Slt) fun b u hb q => keepS b u (fun e => hb (by simp [e])) q
    · rw [Array.toList_push, hacc, List.map_append] <;> rfl
    · rw [List.length_append, hlen] <;> rfl
    · intro j T hj
      by_cases hji : j < Ts.length
      · rw [List.getElem?_append_left hji] at hj
        obtain ⟨x, y, e1, e2, e4⟩ := hTs j T hj
        exact ⟨x, y, e1, e2, by rw [upd_ne (ne_of_none e4 nT)]; exact e4⟩
      · have hj2 : j = Ts.length := by
          have := (List.getElem?_eq_some_iff.mp hj).1
          rw [List.length_append, List.length_singleton] at this
          omega
        rw [hj2, List.getElem?_append_right (Nat.le_refl _), Nat.sub_self] at hj
        have : s.heap.objs.size = T := Option.some.inj hj
        refine ⟨xs[i], ys[i], by rw [hj2, hlen]; exact List.getElem?_eq_getElem hlt, by rw [hj2, hlen]; exact List.getElem?_eq_getElem hlt2, ?_⟩
        rw [← this, upd_same]
    · refine hR h3 H3 acc3 c3 Ts3 (fun b o b0 b1 b2 b3 b4 e => k3 b o b0 b1 b2 b3 b4 (keepS b o b0 (hk b o b1 b2 b3 b4 e))) (fun b hb => ?_) ok3 S3 nS3 a3 len3 T3
      rw [e3 b (by show b < (h'.update S _).objs.size; rw [sz2]; exact Nat.lt_succ_of_lt hb), upd_ne (Nat.ne_of_lt hb)]
end
end RZ

set_option Elab.async false
set_option linter.all false
set_option maxRecDepth 100000
set_option maxHeartbeats 4000000
namespace RZ
open PySem PySem.Spec PyProof.Rows L2
open PySem.Sem (wp)
section
variable {P : Program} {w : World} {A : Around} {E : Value → Shared → Prop} {s : Shared}
theorem list_init_zip {R : Result → Shared → Prop} {z TI TO i1 i2 l1 l2 S : Addr} (hh : A.in1.handled = none) (D : ZipApart z TI TO i1 i2 l1 l2) (xs ys : List V) (its its2 : List Value) (rx : Vals xs its) (ry : Vals ys its2) (hn : xs.length = ys.length) (hz : xs.length ≤ sizeLine)
    (Sz : S ≠ z) (STO : S ≠ TO) (Si1 : S ≠ i1) (Si2 : S ≠ i2) (STI : S ≠ TI) (l1S : l1 ≠ S) (l2S : l2 ≠ S) (H : Hp) (z0 : IsZip s.heap z TI TO .none) (pTI : IsPair s.heap TI (.ref i1) (.ref i2)) (pTO : IsPair s.heap TO .none .none)
    (t1 : s.heap.IsTupleIter i1 l1 0) (t2 : s.heap.IsTupleIter i2 l2 0) (q1 : s.heap.IsTuple l1 its.toArray) (q2 : s.heap.IsTuple l2 its2.toArray) (nz : H z = none) (nTO : H TO = none) (n1 : H i1 = none) (n2 : H i2 = none) (nS : H S = none) (hok : HOk P w H s.heap)
    (hS : s.heap.get? S = some ({ cls := .type "list", data := .seq #[] } : Obj))
    (hR : ∀ (h' : Heap) (H' : Hp) (acc' : Array Value) (c' : Nat) (Ts' : List Addr), (∀ b o, b ≠ S → b ≠ z → b ≠ TO → b ≠ i1 → b ≠ i2 → s.heap.get? b = some o → h'.get? b = some o) → (∀ b, b < s.heap.objs.size → H' b = H b) → HOk P w H' h' → h'.get? S = some (lob acc' c') → H' S = none →
        acc'.toList = Ts'.map Value.ref → Ts'.length = xs.length → (∀ (j : Nat) (T : Addr), Ts'[j]? = some T → ∃ x y, xs[j]? = some x ∧ ys[j]? = some y ∧ H' T = some (.tup [x, y])) → R (.ok (.ret .none)) { s with heap := h' }) :
    wpAny (model P w) A.in1 (Builtin.«list.__init__» ⟨[.ref S, .ref z], []⟩)
      (fun fin s' => match fin with | .done f => R (.ok f) s' | .again c' => c'.quiet = true ∧ codeAny (model P w) A c' R s') (fun e s' => R (.error e) s') s := by
  have emptied := Heap.get?_update_self (Obj.mapSeq (fun _ => (#[] : Array Value))) hS rfl
  have pushed := Heap.get?_update_self (Obj.mapSeq fun us : Array Value => us.push Value.none) emptied rfl
  have hS4 := Heap.get?_update_self (Obj.mapSeq fun us : Array Value => us.pop) pushed rfl
  have past : ∀ {g : Heap} {F : Obj → Obj} (b : Addr) (q : Obj), b ≠ S → g.get? b = some q → (g.update S F).get? b = some q := fun b q bS at_b => (Heap.get?_update_other _ _ (Ne.symm bS)).trans at_b
  have z2 : IsZip (s.heap.update S (Obj.mapSeq (fun _ => (#[] : Array Value)))) z TI TO .none := past _ _ (Ne.symm Sz) z0
  have isTy : Shared.TypeIs { s with heap := s.heap.update S (Obj.mapSeq (fun _ => (#[] : Array Value))) } (.ref z) "zip" := ⟨_, z2, rfl⟩
  refine wpAny_bind (m := Builtin.List.listItems (.ref S)) (wpAny_bind (m := seqItems? (.ref S)) (wpAny_seqItems hS rfl (wpAny_pure ?_)))
  refine wpAny_bind (m := updateSeq S fun _ => #[]) (wpAny_updateSeq hS rfl (wpAny_bind (m := letGo _) (wpAny_letGo ?_)))
  refine wpAny_bind (m := typeOf (.ref z)) (wpAny_typeOf isTy ?_)
  have itself : Builtin.List.listSameRef (.ref S) (.ref z) = false := by simp [Builtin.List.listSameRef, Sz]
  simp only [itself, show (Value.type "zip" == Value.type "list") = false by decide, show (Value.type "zip" == Value.type "tuple") = false by decide, Bool.or_false, Bool.false_eq_true, if_false]
  refine wpAny_bind (wpAny_pyIter_zip z2 (wpAny_bind (wpAny_holding (wpAny_bind (m := specialOf _ _) (wpAny_specialOf isTy zip_no_len ?_)))))
  refine wpAny_bind (m := specialOf (Value.ref z) (Str.ofString "__length_hint__")) (wpAny_specialOf isTy zip_no_hint (wpAny_pure ?_))
  refine wpAny_bind (m := rule "list.extend.makes-room") (wpAny_rule (wpAny_bind (m := Builtin.List.listTouch (.ref S)) ?_))
  refine wpAny_bind (m := updateSeq S fun us => us.push .none) (wpAny_updateSeq emptied rfl (wpAny_updateSeq pushed rfl ?_))
  have oth4 : ∀ b q, b ≠ S → s.heap.get? b = some q → (((s.heap.update S (Obj.mapSeq (fun _ => (#[] : Array Value)))).update S (Obj.mapSeq (·.push Value.none))).update S (Obj.mapSeq (·.pop))).get? b = some q :=
    fun b q bS at_b => past b q bS (past b q bS (past b q bS at_b))
  have szz : (((s.heap.update S (Obj.mapSeq (fun _ => (#[] : Array Value)))).update S (Obj.mapSeq (·.push Value.none))).update S (Obj.mapSeq (·.pop))).objs.size = s.heap.objs.size := by
    rw [Heap.size_after_update, Heap.size_after_update, Heap.size_after_update]
  have ok4 : HOk P w H (((s.heap.update S (Obj.mapSeq (fun _ => (#[] : Array Value)))).update S (Obj.mapSeq (·.push Value.none))).update S (Obj.mapSeq (·.pop))) :=
    hok_past hok [S] (fun c hc => by rw [List.mem_singleton.mp hc]; exact nS) fun b u hb q => oth4 b u (fun e => hb (by simp [e])) q
  generalize ((s.heap.update S (Obj.mapSeq (fun _ => (#[] : Array Value)))).update S (Obj.mapSeq (·.push Value.none))).update S (Obj.mapSeq (·.pop)) = h4 at hS4 oth4 szz ok4 ⊢
  obtain ⟨o1, ho1, r1⟩ := t1
  obtain ⟨o2, ho2, r2⟩ := t2
  obtain ⟨o3, ho3, r3⟩ := q1
  obtain ⟨o4, ho4, r4⟩ := q2
  refine wpAny_pure ⟨plainId_quiet F.plain_extend_loop _, zip_loop hh D xs ys its its2 rx ry hn hz .none Sz STO Si1 Si2 l1S l2S _ 0 { s with heap := h4 } H #[] _ [] rfl (Nat.zero_le _)
    ⟨oth4 _ _ (Ne.symm STI) pTI, ⟨o1, oth4 _ _ (Ne.symm Si1) ho1, r1⟩, ⟨o2, oth4 _ _ (Ne.symm Si2) ho2, r2⟩, .inl ⟨oth4 _ _ (Ne.symm Sz) z0, _, _, oth4 _ _ (Ne.symm STO) pTO⟩⟩
    ⟨o3, oth4 _ _ l1S ho3, r3⟩ ⟨o4, oth4 _ _ l2S ho4, r4⟩ (by show TO < h4.objs.size; rw [szz]; exact Heap.lt_size pTO) nz nTO n1 n2 nS ok4 hS4 rfl rfl (fun j T e => by simp at e) fun h' H' acc' c' Ts' k e ok S' nS' a l t => ?_⟩
  exact hR h' H' acc' c' Ts' (fun b o b0 b1 b2 b3 b4 q => k b o b0 b1 b2 b3 b4 (oth4 b o b0 q)) (fun b hb => e b (by show b < h4.objs.size; rw [szz]; exact hb)) ok S' nS' a l t
end
section
variable {X : Cx} {e e2 : Expr} {ta : TA} {pl p pos posl : Pos}
def tListZip (K : PySem.W.Frag) (ta : TA) : TE := fun σ H Q => ta σ H fun vs H1 => ∃ a b xs ys, vs = [V.ref a, V.ref b] ∧ SqT K H1 a xs ∧ SqT K H1 b ys ∧ xs.length = ys.length ∧
  ∀ (S : Addr) (Ts : List Addr) (H' : Hp), H1 S = none → (∀ b o, H1 b = some o → H' b = some o) → H' S = some (.lst (Ts.map V.ref)) → Ts.length = xs.length → (∀ (j : Nat) (T : Addr), Ts[j]? = some T → ∃ x y, xs[j]? = some x ∧ ys[j]? = some y ∧ H' T = some (.tup [x, y])) → Q (.ref S) H'
theorem vals_refs2 : ∀ Ts : List Addr, Vals (Ts.map V.ref) (Ts.map Value.ref)
  | [] => .nil
  | T :: Ts => .cons rfl (vals_refs2 Ts)
theorem pe_listZip (hc : X.calm = true) (hgl : Gl X "list") (hml : X.mg "list" = none) (hg : Gl X "zip") (hm : X.mg "zip" = none) (ha : PA X [e, e2] ta)
    (hs : starEach [e, e2] X.env = (false, eval e X.env) :: starEach [e2] X.env := by rfl) (hpl : (backTo pos (starEach [e2] X.env)).any (·.1) = false := by rfl)
    (he : starEach [Expr.Call (.Name "zip" p) [e, e2] [] pos] X.env = (false, eval (.Call (.Name "zip" p) [e, e2] [] pos) X.env) :: starEach [] X.env := by rfl) :
    PE X (.Call (.Name "list" pl) [.Call (.Name "zip" p) [e, e2] [] pos] [] posl) (tListZip X.K ta) := by
  constructor
  intro pins s σ H Q I h
  refine wpAny_Call_Name_kw (ld_blt I hgl hml (by decide +kernel : bootBuiltins "list" = some (.type "list")) ?_)
  refine PyProof.Rows.callWith_type1 (he ▸ ?_) he rfl
  show wpAny _ _ (spliced ((false, eval (.Call (.Name "zip" p) [e, e2] [] pos) X.env) :: backTo posl (starEach [] X.env))) _ _ s
  refine Calls.spliced_cons (Call_ (ld_blt I hg hm PyProof.Rows.boot_zip (PyProof.Rows.callWith_type1 (thn (ha.run pos pins s σ H _ I h) fun us s1 ⟨vs, H1, I1, r1, q1⟩ => ?_) hs hpl)))
  obtain ⟨a, b, xs, ys, ex, hqx, hqy, hxy, q⟩ := q1
  subst ex
  cases r1 with
  | cons r rr =>
    cases rr with
    | cons r' rr =>
      cases rr
      cases r
      cases r'
      obtain ⟨its, rv, p1, hz1⟩ := I1.tuple hqx
      obtain ⟨its2, rv2, p2, zz2⟩ := I1.tuple hqy
      obtain ⟨o1, ho1, _⟩ := id p1
      obtain ⟨o2, ho2, _⟩ := id p2
      have alt : a < s1.heap.objs.size := Heap.lt_size ho1
      have blt : b < s1.heap.objs.size := Heap.lt_size ho2
      refine call_zipT (show s1.heap.IsTuple a its.toArray from p1) (show s1.heap.IsTuple b its2.toArray from p2) fun h' hz hTI hTO h1 h2 hsz hk => ?_
      refine Calls.spliced_nil ?_
      have D := PySem.W.ktu_apart s1.heap.objs.size a b alt blt
      have fr : ∀ c, s1.heap.objs.size ≤ c → H1 c = none := fun c hc => I1.hok.fresh hc
      have hlen : xs.length ≤ sizeLine := hz1
      refine callType_codes (Q₁ := fun obj s₁ => obj = .ref h'.objs.size ∧ s₁ = { s1 with heap := h'.push { cls := .type "list", data := .seq #[] } }) F.called_list (F.typeCall_list_1 _) F.entry_list_init
        (code_list_new _ ⟨rfl, rfl⟩) fun obj s₁ hob => ?_
      obtain ⟨rfl, rfl⟩ := hob
      have hS : (h'.push { cls := .type "list", data := .seq #[] }).get? h'.objs.size = some { cls := .type "list", data := .seq #[] } := Heap.get?_push_size _ rfl
      have kp : ∀ c o, h'.get? c = some o → (h'.push { cls := .type "list", data := .seq #[] }).get? c = some o := fun c o q => Heap.get?_push_of_some _ q
      refine ⟨⟨_, hS, rfl⟩, F.args_list_init_2 _ _, list_init_zip (A := X.A.in1) (P := X.prog) (w := X.w) (s := { s1 with heap := h'.push { cls := .type "list", data := .seq #[] } }) (by simp [I1.ok.hd hc]) D xs ys its its2 rv rv2 hxy hlen ?_ ?_ ?_ ?_ ?_ ?_ ?_ H1 (kp _ _ hz) (kp _ _ hTI) (kp _ _ hTO) ?_ ?_ ?_ ?_ (fr _ (by omega)) (fr _ (by omega)) (fr _ (by omega)) (fr _ (by omega)) (fr _ (by omega)) ?_ hS fun h3 H3 acc c Ts k3 e3 ok3 S3 nS3 a3 len3 T3 => ?_⟩
      · exact (by rw [hsz]; exact Nat.ne_of_gt (by omega))
      · exact (by rw [hsz]; exact Nat.ne_of_gt (by omega))
      · exact (by rw [hsz]; exact Nat.ne_of_gt (by omega))
      · exact (by rw [hsz]; exact Nat.ne_of_gt (by omega))
      · exact (by rw [hsz]; exact Nat.ne_of_gt (by omega))
      · exact (by rw [hsz]; exact Nat.ne_of_lt (Nat.lt_of_lt_of_le alt (Nat.le_add_right _ _)))
      · exact (by rw [hsz]; exact Nat.ne_of_lt (Nat.lt_of_lt_of_le blt (Nat.le_add_right _ _)))
      · obtain ⟨o, ho, r⟩ := h1
        exact ⟨o, kp _ _ ho, r⟩
      · obtain ⟨o, ho, r⟩ := h2
        exact ⟨o, kp _ _ ho, r⟩
      · obtain ⟨o, ho, r⟩ := p1
        exact ⟨o, kp _ _ (hk _ _ ho), r⟩
      · obtain ⟨o, ho, r⟩ := p2
        exact ⟨o, kp _ _ (hk _ _ ho), r⟩
      · exact I1.hok.kept fun c o q => kp _ _ (hk c o q)
      · -- all is made
        have sz5 : (h'.push { cls := .type "list", data := .seq #[] }).objs.size = s1.heap.objs.size + 6 := by rw [Heap.size_push, hsz]
        have ex3 : ∀ c, c < s1.heap.objs.size → H3 c = H1 c := fun c hc' => e3 c (by show c < (h'.push _).objs.size; rw [sz5]; omega)
        have nS : H1 h'.objs.size = none := fr _ (by omega)
        have old3 : ∀ c o, s1.heap.get? c = some o → h3.get? c = some o := fun c o q => by
          have hl := Heap.lt_size q
          exact k3 c o (by rw [hsz]; exact Nat.ne_of_lt (Nat.lt_of_lt_of_le hl (Nat.le_add_right _ _))) (Nat.ne_of_lt (Nat.lt_of_lt_of_le hl (Nat.le_add_right _ _))) (Nat.ne_of_lt (Nat.lt_of_lt_of_le hl (Nat.le_add_right _ _))) (Nat.ne_of_lt hl) (Nat.ne_of_lt (Nat.lt_of_lt_of_le hl (Nat.le_add_right _ _))) (kp _ _ (hk c o q))
        have tr3 : ∀ c o, H1 c = some o → H3 c = some o := fun c o q => by
          rw [ex3 c (I1.hok.lt q)]
          exact q
        have lS : (Ts.map V.ref).length ≤ sizeLine := by rw [List.length_map, len3]; exact hlen
        have ok4 : HOk X.prog X.w (upd H3 h'.objs.size (.lst (Ts.map V.ref))) h3 := ok3.laidN (fun _ _ q => q) nS3 ⟨lS, acc.toList, c, by rw [a3]; exact vals_refs2 Ts, by simpa using S3⟩
        have J : Inv X pins σ (upd H3 h'.objs.size (.lst (Ts.map V.ref))) { s1 with heap := h3 } := by
          refine I1.call (ch := []) (g' := s1.gens) (d' := s1.drawn) (t' := s1.toks) ?_ ok4 I1.bare (fun _ z => nomatch z)
          have up : ∀ c, c < s1.heap.objs.size → (upd H3 h'.objs.size (.lst (Ts.map V.ref))) c = H1 c := fun c hc' => by rw [upd_ne (by rw [hsz]; exact Nat.ne_of_lt (by omega))]; exact ex3 c hc'
          exact ⟨fun c u q _ _ _ => old3 c u q, fun c u q _ _ _ => ⟨u.slots, old3 c u q⟩, fun c u q n _ => by rw [up c (Heap.lt_size q)]; exact n, fun c u q _ => ⟨u, old3 c u q⟩,
            fun c xs q => by rw [up c (I1.hok.lt q)]; exact q, fun c o u q => by rw [up c (I1.hok.lt q)]; exact q, fun c ps q => ⟨#[], by rw [up c (I1.hok.lt q), q]; simp⟩⟩
        refine ⟨rfl, .ref h'.objs.size, _, J, rfl, q h'.objs.size Ts _ nS (fun c o q => ?_) upd_same len3 fun j T hj => ?_⟩
        · rw [upd_ne (ne_of_none q nS)]
          exact tr3 c o q
        · obtain ⟨x, y, g1, g2, g3⟩ := T3 j T hj
          exact ⟨x, y, g1, g2, by rw [upd_ne (ne_of_none g3 nS3)]; exact g3⟩
end
end RZ

set_option Elab.async false
set_option linter.all false
set_option maxRecDepth 100000
set_option maxHeartbeats 8000000
/-! What is told of a word is right. -/
namespace WK
open PySem L2 PyProof.Rows K1
open TX (sg sigs)
open PySem.W (Frag kitOne)
abbrev sTold : Stmt := top 36
abbrev sPR : Stmt := top 37
abbrev sJR : Stmt := top 38
abbrev sRight : Stmt := top 39
abbrev sLaw : Stmt := top 40
theorem dp_ints {K : Frag} {H : Hp} : ∀ ns : List Int, DpAll K H (ns.map V.int) (ns.map PyData.int)
  | [] => .nil
  | n :: ns => .cons (.int n) (dp_ints ns)
theorem shaped_ints (ns : List Int) : SeqAt.shaped (.list (ns.map PyData.int)) = true := by
  have h1 : ∀ ns : List Int, PyData.canLayAll0 (ns.map PyData.int) = true := by
    intro ns
    induction ns with
    | nil => rfl
    | cons y ys ih =>
      show (PyData.canLay0 (.int y) && PyData.canLayAll0 (ys.map PyData.int)) = true
      rw [ih] <;> rfl
  have h2 : ∀ ns : List Int, PyData.depthAll (ns.map PyData.int) = 0 := by
    intro ns
    induction ns with
    | nil => rfl
    | cons y ys ih =>
      show max (PyData.depth (.int y)) (PyData.depthAll (ys.map PyData.int)) = 0
      rw [ih] <;> rfl
  show (PyData.canLayAll0 _ && decide (PyData.depthAll _ + 1 ≤ 64)) = true
  rw [h1 ns, h2 ns] <;> rfl
def spRightW (m : Nat) : Sp := fun vs H Q _ => ∃ (p : Addr) (L u : W), vs = [.ref p, .str (tx L), .str (tx u)] ∧ DiceAt H p ∧ Let L ∧ u.length ≤ m ∧ (∀ c ∈ u, c ∈ L) ∧ ∀ H', DiceAt H' p → But p H H' → Q (.bl true) H'
theorem low_of {L u : W} (hL : Let L) (h : ∀ c ∈ u, c ∈ L) : Low u := fun c hc => hL.low c (h c hc)
section
variable {P : Program} {w : World} {K : PySem.W.Frag} {mg : Str → Option Value} {base : Heap}
variable {fR fC fP fL fF fLC : Addr} {dR dC dP dL dF dLC : FuncData}
abbrev NT : List Str := ["_law_dice_here", "_law_letters_here", "_law_word_here", "_law_number", "_law_times", "_law_size", "_law_last", "_law_first"]
theorem scTo : FnScope NT ["_law_dice_here", "_law_letters_here", "_law_word_here"] (defScope sTold) := ⟨rfl, rfl, rfl, by decide +kernel, rfl, by decide +kernel, by decide +kernel⟩
theorem ok_told {f : Addr} {fd : FuncData} (F : Fun K "_law_told_right" "_law_told_right" sTold f fd) (T : TN mg) (AR : Fn K mg "_law_roll" sRoll ["_law_dice_here", "_law_total"] fR dR)
    (AC : Fn K mg "counts" sCounts ["letters", "word"] fC dC) (GC : FnOk P w K mg base CX0 4 fC dC ["letters", "word"] spCounts) (AP : Fn K mg "power" sPower ["word", "times"] fP dP) (GP : FnOk P w K mg base CX0 4 fP dP ["word", "times"] spPower)
    (AL : Fn K mg "last_letters" sLast ["word", "number"] fL dL) (GL : FnOk P w K mg base CX0 4 fL dL ["word", "number"] spLast) (AF : Fn K mg "first_letters" sFirst ["word", "number"] fF dF) (GF : FnOk P w K mg base CX0 4 fF dF ["word", "number"] spFirst)
    (AX : Fn K mg "_law_counts" sLCounts ["_law_letters_here", "_law_word_here"] fLC dLC) (GX : FnOk P w K mg base CX0 1 fLC dLC ["_law_letters_here", "_law_word_here"] spLCounts) :
    FnOk P w K mg base CX0 5 f fd ["_law_dice_here", "_law_letters_here", "_law_word_here"] (spRightW 50) := by
  have GR : FnOk P w K mg base CX0 1 fR dR ["_law_dice_here", "_law_total"] spRoll := ok_roll AR.F T.dice
  refine F.ok scTo (fun vs H Q E h => ?_) (fun cdv A outer s H vs Q E hr h => ?_)
  · obtain ⟨u, n, _, rfl, _⟩ := h
    rfl
  · obtain ⟨p, L, u, rfl, hD, hL, hu, hc, q⟩ := h
    have hr1 : Room 1 _ := hr.mono (by decide)
    have hr3 : Room 3 _ := hr.mono (by decide)
    have low := low_of hL hc
    refine ⟨_, pss_cons (ps_par (i := 3) (j := 4) (by rfl) scTo.nd rfl rfl (by decide) rfl rfl (pa_cons (pe_call GR hr1 rfl AR.g AR.F.kp AR.b .nil pass0 (pa_cons (pv 0) (pa_cons pe_int pa_nil))) (pa_cons (pe_call GR hr1 rfl AR.g AR.F.kp AR.b .nil pass0 (pa_cons (pv 0) (pa_cons pe_int pa_nil))) pa_nil)) (by rfl))
      (pss_cons (ps_if (PW.pt (pw_or (pt_cmpR (op_neD hr.units) (pe_callTy call_list_of (by rfl) T.list (by decide +kernel) (pa_cons (pe_call GC hr rfl AC.g AC.F.kp AC.b .nil pass0 (pa_cons (pv 1) (pa_cons (pv 2) pa_nil))) pa_nil)) (pe_call GX hr1 rfl AX.g AX.F.kp AX.b .nil pass0 (pa_cons (pv 1) (pa_cons (pv 2) pa_nil))) (nomark _))
          (pw_or1 (pt_cmpR op_ne (pe_call GP hr rfl AP.g AP.F.kp AP.b .nil pass0 (pa_cons (pv 2) (pa_cons (pv 4) pa_nil))) (pe_op op_mulS (pv 2) (pv 4)) (nomark _))))) (pss_one (ps_ret pe_bl)) pss_nil)
      (pss_cons (ps_set (i := 5) scTo.nd rfl (Or.inl rfl) (pe_callB call_len_str (by rfl) T.len PySem.boot_len (pa_cons (pv 2) pa_nil)))
      (pss_cons (ps_set (i := 6) scTo.nd rfl (Or.inl rfl) (pe_ifExp (pt_cmpR op_lt (pv 3) (pv 5) (nomark _)) (pe_slice sl_str (pv 2) (po_some (pe_op op_sub (pv 5) (pv 3))) po_none) (pv 2)))
      (pss_cons (ps_set (i := 7) scTo.nd rfl (Or.inl rfl) (pe_slice sl_str (pv 2) po_none (po_some (pv 3))))
      (pss_one (ps_ret (pe_cmpR (op_eqD hr.units) (pe_lst (pa_cons (pe_call GL hr rfl AL.g AL.F.kp AL.b .nil pass0 (pa_cons (pv 2) (pa_cons (pv 3) pa_nil))) (pa_cons (pe_call GF hr rfl AF.g AF.F.kp AF.b .nil pass0 (pa_cons (pv 2) (pa_cons (pv 3) pa_nil))) pa_nil)))
        (pe_lst (pa_cons (pv 6) (pa_cons (pv 7) pa_nil))) (nomark _)))))))), ?_⟩
    have hz : (tx u).length ≤ sizeLine := by rw [tx_len, sizeLine_eq]; omega
    refine ⟨_, rfl, p, _, rfl, hD, by decide, by decide, fun n H1 hn0 hn1 hD1 hB1 => ⟨_, rfl, p, _, rfl, hD1, by decide, by decide, fun t H2 ht0 ht1 hD2 hB2 => ⟨_, _, rfl, ?_⟩⟩⟩
    have B2 := hB1.trans hB2
    refine ⟨_, rfl, _, rfl, L, u, rfl, hL, low, by omega, hc, fun c1 H3 nc1 s3 hc1 => ?_⟩
    refine ⟨c1, _, rfl, .inr (SqT.of hc1), fun l1 hl1 => ?_⟩
    refine ⟨_, rfl, _, rfl, L, u, rfl, hL.few, by omega, fun l2 H4 nl2 s4 hl2 => ?_⟩
    have e1 : L.map (fun c => V.int (u.count c : Int)) = (L.map fun c => (u.count c : Int)).map V.int := by rw [List.map_map] <;> rfl
    have d1 : H4 l1 = some (.lst ((L.map fun c => (u.count c : Int)).map V.int)) := by rw [← e1]; exact s4 _ _ upd_same
    have d2 : H4 l2 = some (.lst ((L.map fun c => (u.count c : Int)).map V.int)) := by rw [← e1]; exact hl2
    refine ⟨.list ((L.map fun c => (u.count c : Int)).map PyData.int), .list ((L.map fun c => (u.count c : Int)).map PyData.int), .lst (SqL.of d1) (dp_ints _), .lst (SqL.of d2) (dp_ints _), shaped_ints _, shaped_ints _, false, congrArg V.bl (by rw [SeqAt.eqv_refl _ (SeqAt.canLay_of_shaped (shaped_ints _))] <;> rfl), ?_⟩
    refine ⟨_, rfl, _, rfl, u, t, rfl, low, by omega, ht0, by omega, ?_⟩
    refine ⟨_, rfl, _, rfl, tx u, t, rfl, rfl, mulOk_w (by omega) ht0 (by omega), rfl, false, congrArg V.bl (by rw [decide_eq_true rfl] <;> rfl), ?_⟩
    have s14 : Same H2 H4 := s3.trans ((same_upd hl1).trans s4)
    have D4 := hD2.keep fun o e => s14 _ _ e
    have B4 : But p H H4 := B2.trans (But.ofSame s14)
    refine ⟨_, rfl, tx u, rfl, hz, ?_⟩
    rw [tx_len]
    have en : n = ((n.toNat : Nat) : Int) := by omega
    have sh : ∀ y ∈ [tx (u.drop (u.length - n.toNat)), tx (u.take n.toNat)], PyData.canLay0 (.str y) = true := by
      intro y hy
      rcases List.mem_cons.mp hy with e | e
      · rw [e]; exact low_lay fun c hc' => low c (List.mem_of_mem_drop hc')
      · rw [List.mem_singleton.mp e]; exact low_lay fun c hc' => low c (List.mem_of_mem_take hc')
    by_cases h1 : n < (u.length : Int)
    · refine ⟨_, rfl, _, rfl, _, _, rfl, rfl, true, congrArg V.bl (decide_eq_true h1), ?_⟩
      refine ⟨_, rfl, _, rfl, _, rfl, _, _, rfl, rfl, _, rfl, tx u, rfl, hz, ?_⟩
      have e6 : (u.length : Int) - n = ((u.length - n.toNat : Nat) : Int) := by omega
      rw [e6, cut_from]
      refine ⟨_, rfl, _, rfl, _, rfl, tx u, rfl, hz, ?_⟩
      rw [en, cut_to]
      refine ⟨_, rfl, _, rfl, u, _, rfl, low, by omega, by omega, by omega, _, rfl, _, rfl, u, _, rfl, low, by omega, by omega, by omega, (by show 2 ≤ sizeLine; decide), fun a1 ha1 => ?_⟩
      refine ⟨_, rfl, _, rfl, (by show 2 ≤ sizeLine; decide), fun a2 ha2 => ?_⟩
      have g1 := same_upd ha2 (o := .lst [V.str (tx (u.drop (u.length - n.toNat))), V.str (tx (u.take n.toNat))]) _ _ (upd_same (H := H4) (a := a1) (o := .lst [V.str (tx (u.drop (u.length - n.toNat))), V.str (tx (u.take n.toNat))]))
      refine ⟨.list ([tx (u.drop (u.length - n.toNat)), tx (u.take n.toNat)].map PyData.str), .list ([tx (u.drop (u.length - n.toNat)), tx (u.take n.toNat)].map PyData.str), .lst (SqL.of g1) (dp_strs [tx (u.drop (u.length - n.toNat)), tx (u.take n.toNat)]), .lst (SqL.of upd_same) (dp_strs [tx (u.drop (u.length - n.toNat)), tx (u.take n.toNat)]), (shaped_strs _ sh).1, (shaped_strs _ sh).1, ?_⟩
      rw [SeqAt.eqv_refl _ (SeqAt.canLay_of_shaped (shaped_strs _ sh).1)]
      exact q _ ((D4.new ha1).new ha2) (but_two (but_two B4 ha1) ha2)
    · refine ⟨_, rfl, _, rfl, _, _, rfl, rfl, false, congrArg V.bl (decide_eq_false h1), ?_⟩
      refine ⟨_, rfl, ?_⟩
      have e6 : u.drop (u.length - n.toNat) = u := by
        have : u.length - n.toNat = 0 := by omega
        rw [this, List.drop_zero]
      refine ⟨_, rfl, _, rfl, _, rfl, tx u, rfl, hz, ?_⟩
      rw [en, cut_to]
      rw [e6] at sh
      refine ⟨_, rfl, _, rfl, u, _, rfl, low, by omega, by omega, by omega, ?_⟩
      rw [Int.toNat_natCast, e6]
      refine ⟨_, rfl, _, rfl, u, _, rfl, low, by omega, by omega, by omega, (by show 2 ≤ sizeLine; decide), fun a1 ha1 => ?_⟩
      refine ⟨_, rfl, _, rfl, (by show 2 ≤ sizeLine; decide), fun a2 ha2 => ?_⟩
      have g1 := same_upd ha2 (o := .lst [V.str (tx u), V.str (tx (u.take n.toNat))]) _ _ (upd_same (H := H4) (a := a1) (o := .lst [V.str (tx u), V.str (tx (u.take n.toNat))]))
      refine ⟨.list ([tx u, tx (u.take n.toNat)].map PyData.str), .list ([tx u, tx (u.take n.toNat)].map PyData.str), .lst (SqL.of g1) (dp_strs [tx u, tx (u.take n.toNat)]), .lst (SqL.of upd_same) (dp_strs [tx u, tx (u.take n.toNat)]), (shaped_strs _ sh).1, (shaped_strs _ sh).1, ?_⟩
      rw [SeqAt.eqv_refl _ (SeqAt.canLay_of_shaped (shaped_strs _ sh).1)]
      exact q _ ((D4.new ha1).new ha2) (but_two (but_two B4 ha1) ha2)
end
end WK

set_option Elab.async false
set_option linter.all false
set_option maxRecDepth 100000
set_option maxHeartbeats 8000000
/-! Pieces of a drawn word are right. -/
namespace WK
open PySem L2 PyProof.Rows K1
open TX (sg sigs)
open PySem.W (Frag kitOne)
theorem asc_filter {L : W} (h : L.Pairwise (· < ·)) (p : Nat → Bool) : (L.filter p).Pairwise (· < ·) := h.sublist List.filter_sublist
theorem sigs_few {L u : W} (hL : Let L) (h : ∀ c ∈ u, c ∈ L) : (sigs u).length ≤ 3 := by
  have e : sigs u = L.filter fun c => decide (c ∈ u) := TX.asc_eq _ _ (TX.asc_sigs u) (asc_filter hL.asc _) fun k => by
    rw [TX.mem_sigs, List.mem_filter, decide_eq_true_eq]
    exact ⟨fun hk => ⟨h k hk, hk⟩, fun hk => hk.2⟩
  rw [e]
  exact Nat.le_trans (List.length_filter_le _ _) hL.few
theorem eqv_strs : ∀ ys zs : List Str, PyData.eqvAll (ys.map PyData.str) (zs.map PyData.str) = decide (ys = zs)
  | [], [] => rfl
  | [], _ :: _ => rfl
  | _ :: _, [] => rfl
  | y :: ys, z :: zs => by
    show (PyData.eqv (.str y) (.str z) && PyData.eqvAll (ys.map PyData.str) (zs.map PyData.str)) = _
    rw [eqv_strs ys zs]
    show ((y == z) && decide (ys = zs)) = decide (y :: ys = z :: zs)
    rw [Bool.eq_iff_iff]
    simp
theorem tx_map_inj : ∀ {us vs : List W}, us.map tx = vs.map tx → us = vs
  | [], [], _ => rfl
  | [], _ :: _, h => by simp at h
  | _ :: _, [], h => by simp at h
  | u :: us, v :: vs, h => by
    rw [List.map_cons, List.map_cons] at h
    rw [tx_inj (List.cons.inj h).1, tx_map_inj (List.cons.inj h).2]
theorem told_low {u : W} (h : Low u) (m : Nat) : ∀ y ∈ (told u m).map tx, PyData.canLay0 (.str y) = true := by
  intro y hy
  obtain ⟨v, hv, rfl⟩ := List.mem_map.mp hy
  have hs := ((mem_told u v m).mp hv).2
  exact low_lay fun c hc => h c (hs.subset hc)
theorem eqV_self (x : Str) : eqV (V.str x) (V.str x) = true := by
  unfold eqV
  simp
theorem inV_mem {x : Str} {xs : List V} (h : V.str x ∈ xs) : inV (V.str x) xs = true := by
  unfold inV
  rw [List.any_eq_true]
  exact ⟨_, h, eqV_self x⟩
theorem flat_strs (ys : List W) : (ys.map txV).all flatV = true := by
  rw [List.all_eq_true]
  intro v hv
  obtain ⟨u, _, rfl⟩ := List.mem_map.mp hv
  rfl
theorem cutV_mem {xs : List V} {lo hi : Option Int} {v : V} (h : v ∈ cutV xs lo hi) : v ∈ xs := by
  unfold cutV at h
  exact List.mem_of_mem_drop (List.mem_of_mem_take h)
section
variable {P : Program} {w : World} {K : PySem.W.Frag} {mg : Str → Option Value} {base : Heap}
variable {fR fC fP fI fW fLI fLP : Addr} {dR dC dP dI dW dLI dLP : FuncData}
abbrev NR : List Str := ["_law_dice_here", "_law_letters_here", "_law_word_here", "_law_most", "_law_told", "_law_other", "_law_piece", "_law_pairs", "_law_one", "_law_two"]
theorem scPR : FnScope NR ["_law_dice_here", "_law_letters_here", "_law_word_here"] (defScope sPR) := ⟨rfl, rfl, rfl, by decide +kernel, rfl, by decide +kernel, by decide +kernel⟩
theorem ok_pr {f : Addr} {fd : FuncData} (F : Fun K "_law_pieces_right" "_law_pieces_right" sPR f fd) (T : TN mg) (AR : Fn K mg "_law_roll" sRoll ["_law_dice_here", "_law_total"] fR dR)
    (AC : Fn K mg "counts" sCounts ["letters", "word"] fC dC) (GC : FnOk P w K mg base CX0 4 fC dC ["letters", "word"] spCounts) (AP : Fn K mg "pieces" sPieces ["word", "most"] fP dP) (GP : FnOk P w K mg base CX0 4 fP dP ["word", "most"] spPieces)
    (AI : Fn K mg "is_piece" sIsPiece ["word", "other"] fI dI) (GI : FnOk P w K mg base CX0 3 fI dI ["word", "other"] spIsPiece) (AW : Fn K mg "_law_word" sWord ["_law_dice_here", "_law_letters_here", "_law_most"] fW dW) (GW : FnOk P w K mg base CX0 3 fW dW ["_law_dice_here", "_law_letters_here", "_law_most"] spWordL)
    (ALI : Fn K mg "_law_is_piece" sLIsP ["_law_word_here", "_law_other"] fLI dLI) (GLI : FnOk P w K mg base CX0 1 fLI dLI ["_law_word_here", "_law_other"] spLIsP) (ALP : Fn K mg "_law_pieces" sLPieces ["_law_letters_here", "_law_word_here", "_law_most"] fLP dLP) (GLP : FnOk P w K mg base CX0 2 fLP dLP ["_law_letters_here", "_law_word_here", "_law_most"] spLPieces) :
    FnOk P w K mg base CX0 5 f fd ["_law_dice_here", "_law_letters_here", "_law_word_here"] (spRightW 50) := by
  have GR : FnOk P w K mg base CX0 1 fR dR ["_law_dice_here", "_law_total"] spRoll := ok_roll AR.F T.dice
  refine F.ok scPR (fun vs H Q E h => ?_) (fun cdv A outer s H vs Q E hr h => ?_)
  · obtain ⟨u, n, _, rfl, _⟩ := h
    rfl
  · obtain ⟨p, L, u, rfl, hD, hL, hu, hc, q⟩ := h
    have hr1 : Room 1 _ := hr.mono (by decide)
    have hr2 : Room 2 _ := hr.mono (by decide)
    have hr3 : Room 3 _ := hr.mono (by decide)
    have low := low_of hL hc
    have few := sigs_few hL hc
    refine ⟨_, pss_cons (ps_set (i := 3) scPR.nd rfl (Or.inr rfl) (pe_call GR hr1 rfl AR.g AR.F.kp AR.b .nil pass0 (pa_cons (pv 0) (pa_cons pe_int pa_nil))))
      (pss_cons (ps_set (i := 4) scPR.nd rfl (Or.inr rfl) (pe_callTy call_list_of (by rfl) T.list (by decide +kernel) (pa_cons (pe_call GP hr rfl AP.g AP.F.kp AP.b .nil pass0 (pa_cons (pv 2) (pa_cons (pv 3) pa_nil))) pa_nil)))
      (pss_cons (ps_if (pt_cmpR (op_neD hr.units) (pv 4) (pe_call GLP hr2 rfl ALP.g ALP.F.kp ALP.b .nil pass0 (pa_cons (pe_join pe_str (pe_callB (TX.cr_sortX rfl) (by rfl) T.sorted (by decide +kernel) (pa_cons (pe_callTy (TX.call_setX rfl) (by rfl) T.set (by decide +kernel) (pa_cons (pv 2) pa_nil)) pa_nil))) (pa_cons (pv 2) (pa_cons (pv 3) pa_nil)))) (nomark _)) (pss_one (ps_ret pe_bl)) pss_nil)
      (pss_cons (ps_set (i := 5) scPR.nd rfl (Or.inl rfl) (pe_call GW hr3 rfl AW.g AW.F.kp AW.b .nil pass0 (pa_cons (pv 0) (pa_cons (pv 1) (pa_cons pe_int pa_nil)))))
      (pss_cons (ps_if (PW.pt (pw_or (pt_cmpR op_ne (pe_call GI hr3 rfl AI.g AI.F.kp AI.b .nil pass0 (pa_cons (pv 5) (pa_cons (pv 2) pa_nil))) (pe_call GLI hr1 rfl ALI.g ALI.F.kp ALI.b .nil pass0 (pa_cons (pv 5) (pa_cons (pv 2) pa_nil))) (nomark _))
          (pw_or1 (pt_cmpR op_notBl (pe_call GI hr3 rfl AI.g AI.F.kp AI.b .nil pass0 (pa_cons pe_str (pa_cons (pv 2) pa_nil))) pe_bl (nomark _))))) (pss_one (ps_ret pe_bl)) pss_nil)
      (pss_cons (ps_for PassesOwn.never rfl (pi_list (pe_slice sl_list (pv 4) (po_some (pe_un un_neg pe_int)) po_none)) (pg_name (i := 6) scPR.nd rfl (Or.inl rfl))
        (pss_one (ps_if (PW.pt (pw_or (pt_cmpR op_notBl (pe_call GI hr3 rfl AI.g AI.F.kp AI.b .nil pass0 (pa_cons (pv 6) (pa_cons (pv 2) pa_nil))) pe_bl (nomark _))
          (pw_or1 (pt_cmpR (op_neD hr.units) (pe_lc (own := [("_law_one", 8)]) (g := gName 8) (tt := tTest (tOp (rIn K true) (tVar 8) (tVar 4))) rfl scPR.nd (pi_tup (pe_call GP hr rfl AP.g AP.F.kp AP.b .nil pass0 (pa_cons (pv 6) (pa_cons (pv 3) pa_nil))))
            (blkOk_by (own := [("_law_one", 8)]) (N := NR) (sc := defScope sPR) (by decide +kernel)) (fun _ _ _ _ _ => pg_name (i := 8) scPR.nd rfl (Or.inl rfl)) (fun _ _ _ _ _ => pts_one (pt_cmpR op_notIn_seq (pv 8) (pv 4) rfl)) (fun _ _ _ _ _ => pv 8)) (pe_lst pa_nil) (nomark _))))) (pss_one (ps_ret pe_bl)) pss_nil)))
      (pss_cons (ps_if (pt_cmpR (op_eqD hr.units) (pe_call GP hr rfl AP.g AP.F.kp AP.b .nil pass0 (pa_cons (pv 5) (pa_cons (pv 3) pa_nil))) (pe_callTy call_tuple_of (by rfl) T.tuple (by decide +kernel) (pa_cons (pv 4) pa_nil)) (nomark _))
        (pss_cons (ps_set (i := 7) scPR.nd rfl (Or.inl rfl) (RZ.pe_listZip rfl (by rfl) T.list (by rfl) T.zip (pa_cons (pe_call GC hr rfl AC.g AC.F.kp AC.b .nil pass0 (pa_cons (pv 1) (pa_cons (pv 2) pa_nil))) (pa_cons (pe_call GC hr rfl AC.g AC.F.kp AC.b .nil pass0 (pa_cons (pv 1) (pa_cons (pv 5) pa_nil))) pa_nil))))
        (pss_one (ps_ret (pe_cmpR (op_eqD hr.units) (pe_lc (own := [("_law_one", 8), ("_law_two", 9)]) (g := gTup K 2 (gCons (gName 8) (gCons (gName 9) gNil))) rfl scPR.nd (pi_list (pv 7))
            (blkOk_by (own := [("_law_one", 8), ("_law_two", 9)]) (N := NR) (sc := defScope sPR) (by decide +kernel)) (fun _ _ _ _ _ => pg_tup (by rfl) (pgs_cons (pg_name (i := 8) scPR.nd rfl (Or.inl rfl)) (pgs_cons (pg_name (i := 9) scPR.nd rfl (Or.inl rfl)) pgs_nil)))
            (fun _ _ _ _ _ => pts_one (PW.pt (pw_and (pt_cmpR op_ne (pv 8) (pv 9) (nomark _)) (pw_and1 (pt_cmpR op_lt (pe_callB (call_min2 rfl) (by rfl) T.min (by decide +kernel) (pa_cons (pv 8) (pa_cons (pv 9) pa_nil))) (pv 3) (nomark _)))))) (fun _ _ _ _ _ => pe_int)) (pe_lst pa_nil) (nomark _))))) pss_nil)
      (pss_one (ps_ret pe_bl)))))))), ?_⟩
    have ltS : (tx u).cps.size < 64 := by rw [size_tx]; omega
    refine ⟨_, rfl, p, _, rfl, hD, by decide, by decide, fun m0 H1 hm0 hm1 hD1 hB1 => ?_⟩
    obtain ⟨m, rfl⟩ : ∃ m : Nat, m0 = (m : Int) := ⟨m0.toNat, by omega⟩
    have hm : m ≤ 3 := by omega
    refine ⟨_, rfl, _, rfl, u, m, rfl, low, by omega, few, by omega, fun t0 H2 nt0 s2 ht0 => ⟨t0, _, rfl, .inr (SqT.of ht0), fun lt hlt => ?_⟩⟩
    have e3 : (upd H2 lt (.lst ((told u m).map fun p => V.str (tx p)))) lt = some (.lst ((told u m).map txV)) := upd_same
    have D2 : DiceAt H2 p := hD1.keep fun _ e => s2 _ _ e
    have ltp := D2.ne hlt
    have D3 : DiceAt (upd H2 lt (.lst ((told u m).map fun p => V.str (tx p)))) p := D2.new hlt
    have B3 : But p H (upd H2 lt (.lst ((told u m).map fun p => V.str (tx p)))) := but_two (hB1.trans (But.ofSame s2)) hlt
    generalize upd H2 lt (.lst ((told u m).map fun p => V.str (tx p))) = H3 at e3 D3 B3 ⊢
    refine ⟨_, rfl, ?_⟩
    refine ⟨⟨_, rfl⟩, _, rfl, tx u, rfl, ltS, fun a o ha ho => ⟨a, tx u, o, rfl, upd_same, ho, ltS, fun p2 hp2 => ?_⟩⟩
    rw [tx_list]
    have es : ((sigs u).map fun c => V.str (sg c)) = ((sigs u).map sg).map V.str := by rw [List.map_map] <;> rfl
    rw [es]
    refine ⟨tx [], p2, (sigs u).map sg, rfl, rfl, .inl (SqL.of upd_same), ?_, ?_⟩
    · rw [sum_sg]
      show (sigs u).length + _ * 0 ≤ _
      omega
    rw [join_sg]
    have s4 : Same H3 (upd (upd H3 a o) p2 (.lst (((sigs u).map sg).map V.str))) := same_two (same_upd ha) hp2
    generalize upd (upd H3 a o) p2 (.lst (((sigs u).map sg).map V.str)) = H4 at s4 ⊢
    refine ⟨_, rfl, _, rfl, sigs u, u, m, rfl, few, by omega, by omega, fun t5 H5 nt5 s5 ht5 => ?_⟩
    have s35 := s4.trans s5
    have ht5' : H5 t5 = some (.lst ((told u m).map txV)) := ht5
    have es2 := strs_tx (told u m)
    have sh := shaped_strs _ (told_low low m)
    refine ⟨.list (((told u m).map tx).map PyData.str), .list (((told u m).map tx).map PyData.str), .lst (SqL.of (by rw [es2]; exact s35 _ _ e3)) (dp_strs _), .lst (SqL.of (by rw [es2]; exact ht5')) (dp_strs _), sh.1, sh.1, false, congrArg V.bl (by rw [SeqAt.eqv_refl _ (SeqAt.canLay_of_shaped sh.1)] <;> rfl), ?_⟩
    have D5 := D3.keep fun _ e => s35 _ _ e
    refine ⟨_, rfl, _, rfl, p, L, 5, rfl, D5, hL, by decide, by decide, fun v H6 hv hvc D6 B6 => ?_⟩
    have low2 := low_of hL hvc
    have few2 := sigs_few hL hvc
    have e6 : H6 lt = some (.lst ((told u m).map txV)) := B6 _ _ (s35 _ _ e3) ltp
    have BH6 : But p H H6 := (B3.trans (But.ofSame s35)).trans B6
    refine ⟨_, rfl, _, rfl, v, u, rfl, low2, low, by omega, by omega, _, rfl, _, rfl, v, u, rfl, by omega, by omega, rfl, false, congrArg V.bl (by rw [decide_eq_true rfl] <;> rfl), ?_⟩
    refine ⟨_, rfl, [], u, rfl, (fun c hc => (nomatch hc)), low, by decide, by omega, isP [] u, true, rfl, rfl, false, rfl, ?_⟩
    refine ⟨_, rfl, _, rfl, _, rfl, lt, _, rfl, SqL.of e6, fun sl hsl => ⟨sl, rfl, ⟨_, SqL.of upd_same⟩, ?_⟩⟩
    have s7 := same_upd hsl (o := .lst (cutV ((told u m).map txV) (some (-3)) none))
    have e7 : (upd H6 sl (.lst (cutV ((told u m).map txV) (some (-3)) none))) sl = some (.lst (cutV ((told u m).map txV) (some (-3)) none)) := upd_same
    have mem7 : ∀ x ∈ cutV ((told u m).map txV) (some (-3)) none, ∃ w, w ∈ told u m ∧ x = txV w := fun x hx => by
      obtain ⟨w, hw, e⟩ := List.mem_map.mp (cutV_mem hx)
      exact ⟨w, hw, e.symm⟩
    refine for_it (walk_list (xs := cutV ((told u m).map txV) (some (-3)) none)) (fun i σ H7 => ∃ a6, σ = [some (.ref p), some (.str (tx L)), some (.str (tx u)), some (.int (m : Int)), some (.ref lt), some (.str (tx v)), a6, none, none, none] ∧ Same (upd H6 sl (.lst (cutV ((told u m).map txV) (some (-3)) none))) H7)
      ⟨none, rfl, Same.refl _⟩ (fun i σ H7 _ ⟨_, _, s8⟩ => SqL.of (s8 _ _ e7)) ?_ ?_
    · rintro i x σ H7 H7' hi ⟨a6, rfl, s8⟩ ⟨rfl, hx⟩
      obtain ⟨w, hw, rfl⟩ := mem7 x (List.mem_of_getElem? hx)
      obtain ⟨hwl, hws⟩ := (mem_told u w m).mp hw
      have lowW : Low w := fun c hc' => low c (hws.subset hc')
      have fewW := sigs_few hL fun c hc' => hc c (hws.subset hc')
      have e8 : H7' lt = some (.lst ((told u m).map txV)) := s8 _ _ (s7 _ _ e6)
      refine ⟨_, rfl, _, rfl, w, u, rfl, lowW, low, by omega, by omega, isP w u, true, rfl, rfl, false, congrArg V.bl (by rw [(isP_iff u w).mpr hws] <;> rfl), ?_⟩
      refine ⟨_, rfl, _, rfl, w, m, rfl, lowW, by omega, fewW, by omega, fun t8 H8 nt8 s9 ht8 => ⟨t8, rfl, ⟨_, SqT.of ht8⟩, fun D8 hD8 => ?_⟩⟩
      refine lc_it walk_tup (fun i H9 => Same H8 H9 ∧ H9 D8 = some (.lst [])) ⟨same_upd hD8, upd_same⟩ (fun i H9 _ ⟨s10, _⟩ => SqT.of (s10 _ _ ht8)) ?_ ?_
      · rintro j y H9 H10 hj ⟨s10, hd9⟩ ⟨rfl, hy⟩
        obtain ⟨one, hone, rfl⟩ := List.mem_map.mp (List.mem_of_getElem? hy)
        have hin : V.str (tx one) ∈ (told u m).map txV := List.mem_map.mpr ⟨one, told_trans hw hone, rfl⟩
        refine ⟨rfl, _, rfl, _, rfl, lt, _, rfl, .inl (SqL.of (s10 _ _ (s9 _ _ e8))), rfl, flat_strs _, false, congrArg V.bl (by rw [if_pos rfl, inV_mem hin] <;> rfl), s10, hd9⟩
      · rintro H9 ⟨s10, hd9⟩
        refine ⟨(by show 0 ≤ sizeLine; decide), fun e he => ⟨.list [], .list [], .lst (SqL.of (same_upd he _ _ hd9)) .nil, .lst (SqL.of upd_same) .nil, by decide, by decide, false, rfl, _, rfl, ?_⟩⟩
        exact s8.trans (s9.trans (s10.trans (same_upd he)))
    · rintro σ H7 ⟨a6, rfl, s8⟩
      have s68 := s7.trans s8
      have e8 : H7 lt = some (.lst ((told u m).map txV)) := s68 _ _ e6
      refine ⟨_, rfl, _, rfl, v, m, rfl, low2, by omega, few2, by omega, fun t9 H9 nt9 s9 ht9 => ?_⟩
      refine ⟨_, rfl, lt, _, rfl, .inl ⟨SqL.of (s9 _ _ e8), fun t10 ht10 => ?_⟩⟩
      have sh2 := shaped_strs _ (told_low low2 m)
      have ev := strs_tx (told v m)
      have f9 : (upd H9 t10 (.tup ((told u m).map txV))) t9 = some (.tup (((told v m).map tx).map V.str)) := by rw [ev]; exact same_upd ht10 _ _ ht9
      have f10 : (upd H9 t10 (.tup ((told u m).map txV))) t10 = some (.tup (((told u m).map tx).map V.str)) := by rw [es2]; exact upd_same
      have s610 : Same H6 (upd H9 t10 (.tup ((told u m).map txV))) := s68.trans (s9.trans (same_upd ht10))
      generalize upd H9 t10 (.tup ((told u m).map txV)) = G at f9 f10 s610 ⊢
      refine ⟨.tuple (((told v m).map tx).map PyData.str), .tuple (((told u m).map tx).map PyData.str), .tup (SqT.of f9) (dp_strs _), .tup (SqT.of f10) (dp_strs _), sh2.2, sh.2, ?_⟩
      have ee : PyData.eqv (.tuple (((told v m).map tx).map PyData.str)) (.tuple (((told u m).map tx).map PyData.str)) = decide ((told v m).map tx = (told u m).map tx) := eqv_strs _ _
      by_cases heq : told v m = told u m
      · refine ⟨true, congrArg V.bl (by rw [ee, heq]; exact decide_eq_true rfl), ?_⟩
        refine ⟨_, rfl, _, rfl, L, u, rfl, hL, low, by omega, hc, fun c1 H11 nc1 s11 hc1 => ⟨_, rfl, _, rfl, L, v, rfl, hL, low2, by omega, hvc, fun c2 H12 nc2 s12 hc2 => ?_⟩⟩
        refine ⟨c1, c2, _, _, rfl, SqT.of (s12 _ _ hc1), SqT.of hc2, by rw [List.length_map, List.length_map], fun S Ts H13 nS s13 hS hlen hT => ?_⟩
        refine ⟨_, rfl, S, rfl, ⟨_, SqL.of hS⟩, fun D14 hD14 => ?_⟩
        refine lc_it walk_list (fun i H15 => Same H13 H15 ∧ H15 D14 = some (.lst [])) ⟨same_upd hD14, upd_same⟩ (fun i H15 _ ⟨s15, _⟩ => SqL.of (s15 _ _ hS)) ?_ ?_
        · rintro i x H15 H16 hi ⟨s15, hd15⟩ ⟨rfl, hx⟩
          rw [List.getElem?_map] at hx
          cases hc0 : Ts[i]? with
          | none => rw [hc0] at hx; cases hx
          | some T0 =>
            rw [hc0] at hx
            obtain rfl : V.ref T0 = x := Option.some.inj hx
            obtain ⟨x1, y1, g1, g2, g3⟩ := hT i T0 hc0
            rw [List.getElem?_map] at g1 g2
            cases hl0 : L[i]? with
            | none => rw [hl0] at g1; cases g1
            | some c =>
              rw [hl0] at g1 g2
              obtain rfl : V.int (u.count c : Int) = x1 := Option.some.inj g1
              obtain rfl : V.int (v.count c : Int) = y1 := Option.some.inj g2
              refine ⟨T0, _, rfl, SqT.of (s15 _ _ g3), rfl, _, _, rfl, _, _, rfl, rfl, rfl, _, rfl, _, rfl, rfl, ?_⟩
              by_cases hcc : u.count c = v.count c
              · refine ⟨false, congrArg V.bl (by rw [hcc, decide_eq_true rfl] <;> rfl), ?_⟩
                exact ⟨s15, hd15⟩
              · have hne : ¬ (V.int (u.count c : Int) = V.int (v.count c : Int)) := fun z => hcc (by have := V.int.inj z; omega)
                refine ⟨true, congrArg V.bl (by rw [decide_eq_false hne] <;> rfl), ?_⟩
                have hmin := count_same heq c hcc
                have hlt2 : ¬ ((if (v.count c : Int) < (u.count c : Int) then (v.count c : Int) else (u.count c : Int)) < (m : Int)) := by
                  split <;> omega
                refine ⟨_, rfl, _, rfl, _, _, rfl, _, rfl, _, _, rfl, rfl, false, congrArg V.bl (decide_eq_false hlt2), ?_⟩
                exact ⟨s15, hd15⟩
        · rintro H15 ⟨s15, hd15⟩
          refine ⟨(by show 0 ≤ sizeLine; decide), fun e he => ⟨.list [], .list [], .lst (SqL.of (same_upd he _ _ hd15)) .nil, .lst (SqL.of upd_same) .nil, by decide, by decide, ?_⟩⟩
          have sF : Same H6 (upd H15 e (.lst [])) := s610.trans (s11.trans (s12.trans (Same.trans s13 (s15.trans (same_upd he)))))
          exact q _ (D6.keep fun _ q' => sF _ _ q') (BH6.trans (But.ofSame sF))
      · refine ⟨false, congrArg V.bl (by rw [ee]; exact decide_eq_false fun z => heq (tx_map_inj z)), ?_⟩
        exact q _ (D6.keep fun _ q' => s610 _ _ q') (BH6.trans (But.ofSame s610))
end
end WK

set_option Elab.async false
set_option linter.all false
set_option maxRecDepth 100000
set_option maxHeartbeats 8000000
/-! Values near letters and words are judged. -/
namespace WK
open PySem L2 PyProof.Rows K1
open TX (sg sigs)
open PySem.W (Frag kitOne)
theorem dp_bls {K : Frag} {H : Hp} : ∀ bs : List Bool, DpAll K H (bs.map V.bl) (bs.map PyData.bool)
  | [] => .nil
  | b :: bs => .cons (.bl b) (dp_bls bs)
theorem shaped_bls (bs : List Bool) : SeqAt.shaped (.list (bs.map PyData.bool)) = true := by
  have h1 : ∀ bs : List Bool, PyData.canLayAll0 (bs.map PyData.bool) = true := by
    intro bs
    induction bs with
    | nil => rfl
    | cons y ys ih =>
      show (PyData.canLay0 (.bool y) && PyData.canLayAll0 (ys.map PyData.bool)) = true
      rw [ih] <;> rfl
  have h2 : ∀ bs : List Bool, PyData.depthAll (bs.map PyData.bool) = 0 := by
    intro bs
    induction bs with
    | nil => rfl
    | cons y ys ih =>
      show max (PyData.depth (.bool y)) (PyData.depthAll (ys.map PyData.bool)) = 0
      rw [ih] <;> rfl
  show (PyData.canLayAll0 _ && decide (PyData.depthAll _ + 1 ≤ 64)) = true
  rw [h1 bs, h2 bs] <;> rfl
theorem eqv_bls (bs : List Bool) : PyData.eqv (.list (bs.map PyData.bool)) (.list (bs.map PyData.bool)) = true := SeqAt.eqv_refl _ (SeqAt.canLay_of_shaped (shaped_bls bs))
def dueB (v : W) : Bool := !decide (v = []) && (decide (v.length < 4) && decide (v = sigs v))
theorem due_let {v : W} (h : Low v) : letB (tx v) = dueB v := by
  unfold letB dueB
  rw [wordB_low h, tx_len, tx_list]
  have e : ascB v = decide (v = sigs v) := by
    unfold ascB
    apply decide_eq_decide.mpr
    constructor
    · intro ha
      exact TX.asc_eq _ _ ha (TX.asc_sigs v) fun k => (TX.mem_sigs k v).symm
    · intro ha
      rw [ha]
      exact TX.asc_sigs v
  rw [e]
  cases v with
  | nil => rfl
  | cons c r =>
    have h1 : decide (1 ≤ (c :: r).length) = true := decide_eq_true (by simp)
    have h2 : decide ((c :: r) = ([] : W)) = false := decide_eq_false (by simp)
    have h3 : decide ((c :: r).length ≤ 3) = decide ((c :: r).length < 4) := decide_eq_decide.mpr (by omega)
    rw [h1, h2, h3]
    simp
def s8 (L : W) : List W := [L, L ++ L, L.reverse, [], [97, 98, 99, 100], [122], [97, 122], [122, 122]]
theorem s8_low {L : W} (h : Low L) : ∀ v ∈ s8 L, Low v := by
  have hc : ∀ v ∈ ([[], [97, 98, 99, 100], [122], [97, 122], [122, 122]] : List W), ∀ c ∈ v, 97 ≤ c ∧ c ≤ 122 := by decide
  intro v hv
  unfold s8 at hv
  rcases List.mem_cons.mp hv with e | hv
  · rw [e]; exact h
  rcases List.mem_cons.mp hv with e | hv
  · rw [e]; exact fun c hc => (List.mem_append.mp hc).elim (h c) (h c)
  rcases List.mem_cons.mp hv with e | hv
  · rw [e]; exact fun c hc => h c (List.mem_reverse.mp hc)
  · exact hc v hv
theorem s8_len {L : W} (h : L.length ≤ 3) : ∀ v ∈ s8 L, v.length ≤ 6 := by
  have hc : ∀ v ∈ ([[], [97, 98, 99, 100], [122], [97, 122], [122, 122]] : List W), v.length ≤ 6 := by decide
  intro v hv
  unfold s8 at hv
  rcases List.mem_cons.mp hv with e | hv
  · rw [e]; omega
  rcases List.mem_cons.mp hv with e | hv
  · rw [e, List.length_append]; omega
  rcases List.mem_cons.mp hv with e | hv
  · rw [e, List.length_reverse]; omega
  · exact hc v hv
theorem s8_is (L : W) : [V.str (tx L), V.str (tx L ++ tx L), V.str (tx L.reverse), V.str "", V.str "abcd", V.str "z", V.str "az", V.str "zz"] = (s8 L).map txV := by
  have e1 : ("abcd" : Str) = tx [97, 98, 99, 100] := by decide +kernel
  have e2 : ("z" : Str) = tx [122] := by decide +kernel
  have e3 : ("az" : Str) = tx [97, 122] := by decide +kernel
  have e4 : ("zz" : Str) = tx [122, 122] := by decide +kernel
  rw [tx_app, e1, e2, e3, e4] <;> rfl
/-- neither a word nor a set of letters -/
def Bad (K : Frag) (H : Hp) (v : V) : Prop := (∃ x : Str, v = .str x ∧ wordB x = false ∧ x.length ≤ 1000) ∨ NoText K H v
theorem letB_bad {x : Str} (h : wordB x = false) : letB x = false := by
  unfold letB
  rw [h] <;> rfl
abbrev rJoin (K : Frag) : V → List V → Hp → VK → Prop := fun x xs H Q => ∃ a p, ∃ ys : List Str, x = .str a ∧ xs = [.ref p] ∧ (SqL K H p (ys.map V.str) ∨ SqT K H p (ys.map V.str)) ∧ (ys.map (·.length)).sum + ys.length * a.length ≤ 16777216 ∧ Q (.str (Txt.join a ys)) H
abbrev rLenS : List V → Hp → VK → Prop := fun xs H Q => ∃ z : Str, xs = [V.str z] ∧ z.length ≤ sizeLine ∧ Q (V.int (z.length : Int)) H
def spJR : Sp := fun vs H Q _ => ∃ (d : V) (L : W), vs = [d, .str (tx L)] ∧ Let L ∧ ∀ H', Same H H' → Q (.bl true) H'
section
variable {P : Program} {w : World} {K : PySem.W.Frag} {mg : Str → Option Value} {base : Heap}
variable {fW fL : Addr} {dW dL : FuncData}
abbrev NJ : List Str := ["_law_dice_here", "_law_letters_here", "_law_odd", "_law_some", "_law_due", "_law_value", "_law_one"]
theorem scJ : FnScope NJ ["_law_dice_here", "_law_letters_here"] (defScope sJR) := ⟨rfl, rfl, rfl, by decide +kernel, rfl, by decide +kernel, by decide +kernel⟩
abbrev teDue (w : World) (K : Frag) : TE := tAndV (tOp rNe (tVar 6) (tC (.str ""))) (tAndV (tOp (rI0 fun i j => .bl (decide (i < j))) (tCB rLenS (tCons (tVar 6) tNil)) (tC (.int 4))) (tOp rEq (tVar 6) (tM1 (rJoin K) (tC (.str "")) (tCB (TX.rSortX w) (tCons (tCB (TX.rSetX w) (tCons (tVar 6) tNil)) tNil)))))
theorem ok_jr {f : Addr} {fd : FuncData} (F : Fun K "_law_judged_right" "_law_judged_right" sJR f fd) (T : TN mg) (AW : Fn K mg "is_word" sIsWord ["value"] fW dW) (GW : FnOk P w K mg base CX0 1 fW dW ["value"] (spIsWord K))
    (AL : Fn K mg "is_letters" sIsLet ["value"] fL dL) (GL : FnOk P w K mg base CX0 2 fL dL ["value"] (spIsLet K)) : FnOk P w K mg base CX0 3 f fd ["_law_dice_here", "_law_letters_here"] spJR := by
  refine F.ok scJ (fun vs H Q E h => ?_) (fun cdv A outer s H vs Q E hr h => ?_)
  · obtain ⟨u, n, rfl, _⟩ := h
    rfl
  · obtain ⟨d, L, rfl, hL, q⟩ := h
    have hr1 : Room 1 _ := hr.mono (by decide)
    refine ⟨_, pss_cons (ps_set (i := 2) scJ.nd rfl (Or.inl rfl) (pe_lst (pa_cons pe_non (pa_cons pe_int (pa_cons (pe_tup pa_nil) (pa_cons (pe_lst pa_nil) (pa_cons pe_dnewK (pa_cons pe_bl (pa_cons pe_str (pa_cons pe_str (pa_cons pe_str (pa_cons (pe_tup (pa_cons pe_str pa_nil)) (pa_cons pe_str pa_nil)))))))))))))
      (pss_cons (ps_if (pt_cmpR (op_neD hr.units) (pe_lc (own := [("_law_value", 5)]) (g := gName 5) rfl scJ.nd (pi_list (pv 2)) (blkOk_by (own := [("_law_value", 5)]) (N := NJ) (sc := defScope sJR) (by decide +kernel)) (fun _ _ _ _ _ => pg_name (i := 5) scJ.nd rfl (Or.inl rfl))
          (fun _ _ _ _ _ => pts_one (PW.pt (pw_or (pt_val (pe_call GW hr1 rfl AW.g AW.F.kp AW.b .nil pass0 (pa_cons (pv 5) pa_nil))) (pw_or1 (pt_val (pe_call GL hr rfl AL.g AL.F.kp AL.b .nil pass0 (pa_cons (pv 5) pa_nil))))))) (fun _ _ _ _ _ => pv 5)) (pe_lst pa_nil) (nomark _)) (pss_one (ps_ret pe_bl)) pss_nil)
      (pss_cons (ps_set (i := 3) scJ.nd rfl (Or.inl rfl) (pe_lst (pa_cons (pv 1) (pa_cons (pe_op op_add_str (pv 1) (pv 1)) (pa_cons (pe_revS (pv 1)) (pa_cons pe_str (pa_cons pe_str (pa_cons pe_str (pa_cons pe_str (pa_cons pe_str pa_nil))))))))))
      (pss_cons (ps_setLc (i := 4) (own := [("_law_one", 6)]) (g := gName 6) (tt := tYes) (te := teDue w K) rfl scJ.nd rfl rfl (sw_true rfl rfl rfl (by decide +kernel)) (pi_list (pv 3)) (blkOk_by (own := [("_law_one", 6)]) (N := NJ) (sc := defScope sJR) (by decide +kernel)) (fun _ _ _ _ _ => pg_name (i := 6) scJ.nd rfl (Or.inl rfl)) (fun _ _ _ _ _ => pts_nil)
          (fun _ _ _ _ _ => pe_and (pe_cmpR op_ne (pv 6) pe_str (nomark _)) (pe_and (pe_cmpR op_lt (pe_callB call_len_str (by rfl) T.len PySem.boot_len (pa_cons (pv 6) pa_nil)) pe_int (nomark _))
            (pe_one (pe_cmpR op_eq (pv 6) (pe_join pe_str (pe_callB (TX.cr_sortX rfl) (by rfl) T.sorted (by decide +kernel) (pa_cons (pe_callTy (TX.call_setX rfl) (by rfl) T.set (by decide +kernel) (pa_cons (pv 6) pa_nil)) pa_nil))) (nomark _))))))
      (pss_one (ps_ret (pe_and (pe_cmpR (op_eqD hr.units) (pe_lc (own := [("_law_one", 6)]) (g := gName 6) (tt := tYes) rfl scJ.nd (pi_list (pv 3)) (blkOk_by (own := [("_law_one", 6)]) (N := NJ) (sc := defScope sJR) (by decide +kernel)) (fun _ _ _ _ _ => pg_name (i := 6) scJ.nd rfl (Or.inl rfl)) (fun _ _ _ _ _ => pts_nil)
          (fun _ _ _ _ _ => pe_call GL hr rfl AL.g AL.F.kp AL.b .nil pass0 (pa_cons (pv 6) pa_nil))) (pv 4) (nomark _))
        (pe_one (pe_cmpR (op_eqD hr.units) (pe_lc (own := [("_law_one", 6)]) (g := gName 6) (tt := tYes) rfl scJ.nd (pi_list (pv 3)) (blkOk_by (own := [("_law_one", 6)]) (N := NJ) (sc := defScope sJR) (by decide +kernel)) (fun _ _ _ _ _ => pg_name (i := 6) scJ.nd rfl (Or.inl rfl)) (fun _ _ _ _ _ => pts_nil)
          (fun _ _ _ _ _ => pe_call GW hr1 rfl AW.g AW.F.kp AW.b .nil pass0 (pa_cons (pv 6) pa_nil))) (pe_op op_rep (pe_lst (pa_cons pe_bl pa_nil)) pe_int) (nomark _))))))))), ?_⟩
    refine ⟨(by show 0 ≤ sizeLine; decide), fun t1 ht1 => ⟨(by show 0 ≤ sizeLine; decide), fun l1 hl1 => fun d1 hd1 => ⟨(by show 1 ≤ sizeLine; decide), fun t2 ht2 => ⟨(by show 11 ≤ sizeLine; decide), fun od hod => ?_⟩⟩⟩⟩
    have sA : Same H (upd H t1 (.tup [])) := same_upd ht1
    have sB := same_upd hl1 (o := .lst [])
    have sC := same_upd hd1 (o := .dK [])
    have sD := same_upd ht2 (o := .tup [V.str "a"])
    have sE := same_upd hod (o := .lst [V.non, V.int 0, V.ref t1, V.ref l1, V.ref d1, V.bl true, V.str "A", V.str "a b", V.str "a-b", V.ref t2, V.str "a1"])
    have sH := sA.trans (sB.trans (sC.trans (sD.trans sE)))
    have g1 := sE _ _ (sD _ _ (sC _ _ (sB _ _ (upd_same (H := H) (a := t1) (o := .tup [])))))
    have g2 := sE _ _ (sD _ _ (sC _ _ (upd_same (H := upd H t1 (.tup [])) (a := l1) (o := .lst []))))
    have g3 := sE _ _ (sD _ _ (upd_same (H := upd (upd H t1 (.tup [])) l1 (.lst [])) (a := d1) (o := .dK [])))
    have g4 := sE _ _ (upd_same (H := upd (upd (upd H t1 (.tup [])) l1 (.lst [])) d1 (.dK [])) (a := t2) (o := .tup [V.str "a"]))
    have g5 : (upd (upd (upd (upd (upd H t1 (.tup [])) l1 (.lst [])) d1 (.dK [])) t2 (.tup [V.str "a"])) od (.lst [V.non, V.int 0, V.ref t1, V.ref l1, V.ref d1, V.bl true, V.str "A", V.str "a b", V.str "a-b", V.ref t2, V.str "a1"])) od = some (.lst [V.non, V.int 0, V.ref t1, V.ref l1, V.ref d1, V.bl true, V.str "A", V.str "a b", V.str "a-b", V.ref t2, V.str "a1"]) := upd_same
    generalize upd (upd (upd (upd (upd H t1 (.tup [])) l1 (.lst [])) d1 (.dK [])) t2 (.tup [V.str "a"])) od (.lst [V.non, V.int 0, V.ref t1, V.ref l1, V.ref d1, V.bl true, V.str "A", V.str "a b", V.str "a-b", V.ref t2, V.str "a1"]) = G at sH g1 g2 g3 g4 g5 ⊢
    have hall : ∀ H', Same G H' → ∀ x ∈ [V.non, V.int 0, V.ref t1, V.ref l1, V.ref d1, V.bl true, V.str "A", V.str "a b", V.str "a-b", V.ref t2, V.str "a1"], Bad K H' x := by
      intro H' s' x hx
      have tyn : ∀ {v : V} {n : String}, TyOf K H' v (.type n) → kitB n "str" = some false → Bad K H' v := fun h k => .inr ⟨_, .base h, kit_ty k⟩
      rcases List.mem_cons.mp hx with e | hx
      · rw [e]; exact tyn .non (by decide +kernel)
      rcases List.mem_cons.mp hx with e | hx
      · rw [e]; exact tyn (.int 0) (by decide +kernel)
      rcases List.mem_cons.mp hx with e | hx
      · rw [e]; exact tyn (.tup (s' _ _ g1)) (by decide +kernel)
      rcases List.mem_cons.mp hx with e | hx
      · rw [e]; exact tyn (.lst (s' _ _ g2)) (by decide +kernel)
      rcases List.mem_cons.mp hx with e | hx
      · rw [e]; exact tyn (.dK (s' _ _ g3)) (by decide +kernel)
      rcases List.mem_cons.mp hx with e | hx
      · rw [e]; exact tyn (.bl true) (by decide +kernel)
      rcases List.mem_cons.mp hx with e | hx
      · exact .inl ⟨"A", e, by decide +kernel, by decide +kernel⟩
      rcases List.mem_cons.mp hx with e | hx
      · exact .inl ⟨"a b", e, by decide +kernel, by decide +kernel⟩
      rcases List.mem_cons.mp hx with e | hx
      · exact .inl ⟨"a-b", e, by decide +kernel, by decide +kernel⟩
      rcases List.mem_cons.mp hx with e | hx
      · rw [e]; exact tyn (.tup (s' _ _ g4)) (by decide +kernel)
      · exact .inl ⟨"a1", List.mem_singleton.mp hx, by decide +kernel, by decide +kernel⟩
    refine ⟨_, rfl, od, rfl, ⟨_, SqL.of g5⟩, fun D hD => ?_⟩
    refine lc_it walk_list (fun i H1 => Same G H1 ∧ H1 D = some (.lst [])) ⟨same_upd hD, upd_same⟩ (fun i H1 _ ⟨s1, _⟩ => SqL.of (s1 _ _ g5)) ?_ ?_
    · rintro i x H1 H2 hi ⟨s1, hd⟩ ⟨rfl, hx⟩
      rcases hall _ s1 x (List.mem_of_getElem? hx) with ⟨y, rfl, hw, hl⟩ | hn
      · exact ⟨rfl, _, rfl, _, rfl, .inl ⟨y, rfl, false, congrArg V.bl hw, _, rfl, _, rfl, .inl ⟨y, rfl, hl, fun H' s' => ⟨false, congrArg V.bl (letB_bad hw), s1.trans s', s' _ _ hd⟩⟩⟩⟩
      · exact ⟨rfl, _, rfl, _, rfl, .inr ⟨hn, false, rfl, _, rfl, _, rfl, .inr ⟨hn, false, rfl, s1, hd⟩⟩⟩
    · rintro H1 ⟨s1, hd⟩
      refine ⟨(by show 0 ≤ sizeLine; decide), fun e he => ⟨.list [], .list [], .lst (SqL.of (same_upd he _ _ hd)) .nil, .lst (SqL.of upd_same) .nil, by decide, by decide, false, rfl, ?_⟩⟩
      have sF : Same H (upd H1 e (.lst [])) := sH.trans (s1.trans (same_upd he))
      generalize upd H1 e (.lst []) = G2 at sF ⊢
      have h3 := hL.few
      refine ⟨_, rfl, _, rfl, _, rfl, _, _, rfl, rfl, by rw [tx_len, sizeLine_eq]; omega, _, rfl, L, rfl, by rw [sizeLine_eq]; omega, (by show 8 ≤ sizeLine; decide), fun so hso => ?_⟩
      have g6 : (upd G2 so (.lst [V.str (tx L), V.str (tx L ++ tx L), V.str (tx L.reverse), V.str "", V.str "abcd", V.str "z", V.str "az", V.str "zz"])) so = some (.lst ((s8 L).map txV)) := by rw [upd_same, s8_is]
      have sG := sF.trans (same_upd hso (o := .lst [V.str (tx L), V.str (tx L ++ tx L), V.str (tx L.reverse), V.str "", V.str "abcd", V.str "z", V.str "az", V.str "zz"]))
      generalize upd G2 so (.lst [V.str (tx L), V.str (tx L ++ tx L), V.str (tx L.reverse), V.str "", V.str "abcd", V.str "z", V.str "az", V.str "zz"]) = G3 at g6 sG ⊢
      have lowS := s8_low hL.low
      have lenS := s8_len h3
      have len8 : (s8 L).length = 8 := rfl
      refine ⟨_, rfl, so, rfl, ⟨_, SqL.of g6⟩, fun D2 hD2 => ?_⟩
      refine lc_it walk_list (fun i H4 => Same G3 H4 ∧ H4 D2 = some (.lst ((((s8 L).take i).map dueB).map V.bl))) ⟨same_upd hD2, upd_same⟩ (fun i H4 _ ⟨s4, _⟩ => SqL.of (s4 _ _ g6)) ?_ ?_
      · rintro i x H4 H5 hi ⟨s4, hd4⟩ ⟨rfl, hx⟩
        rw [List.getElem?_map] at hx
        cases hc : (s8 L)[i]? with
        | none => rw [hc] at hx; cases hx
        | some v =>
          rw [hc] at hx
          obtain rfl : txV v = x := Option.some.inj hx
          have hvm := List.mem_of_getElem? hc
          have lv := lenS v hvm
          have tk : (s8 L).take (i + 1) = (s8 L).take i ++ [v] := by rw [List.take_add_one, hc] <;> rfl
          have lenA : ((((s8 L).take i).map dueB).map V.bl).length < sizeLine := by
            rw [List.length_map, List.length_map, List.length_take, sizeLine_eq, len8]
            omega
          have fin : ∀ (H6 : Hp), Same H5 H6 → ∀ b, b = dueB v → ∃ acc, H6 D2 = some (.lst acc) ∧ acc.length < sizeLine ∧ Same G3 (upd H6 D2 (.lst (acc ++ [V.bl b]))) ∧ (upd H6 D2 (.lst (acc ++ [V.bl b]))) D2 = some (.lst ((((s8 L).take (i + 1)).map dueB).map V.bl)) := by
            intro H6 s6 b hb
            refine ⟨_, s6 _ _ hd4, lenA, same_at (s4.trans s6) hD2, ?_⟩
            rw [upd_same, tk, List.map_append, List.map_append, hb] <;> rfl
          refine ⟨rfl, _, rfl, rfl, ?_⟩
          by_cases h0 : v = []
          · refine ⟨false, congrArg V.bl (by rw [h0]; decide), ?_⟩
            exact fin _ (Same.refl _) _ (by rw [h0] <;> rfl)
          · have h0' : ¬ (V.str (tx v) = V.str "") := fun z => h0 (tx_inj (V.str.inj z))
            refine ⟨true, congrArg V.bl (by rw [decide_eq_false h0'] <;> rfl), ?_⟩
            refine ⟨_, rfl, tx v, rfl, by rw [tx_len, sizeLine_eq]; omega, _, _, rfl, rfl, ?_⟩
            rw [tx_len]
            by_cases h4 : v.length < 4
            · have h4' : ((v.length : Int) < 4) := by omega
              refine ⟨true, congrArg V.bl (decide_eq_true h4'), ?_⟩
              have sz : (tx v).cps.size < 64 := by rw [size_tx]; omega
              refine ⟨_, rfl, ⟨_, rfl⟩, _, rfl, tx v, rfl, sz, fun a o ha ho => ⟨a, tx v, o, rfl, upd_same, ho, sz, fun p2 hp2 => ?_⟩⟩
              rw [tx_list]
              have es : ((sigs v).map fun c => V.str (sg c)) = ((sigs v).map sg).map V.str := by rw [List.map_map] <;> rfl
              rw [es]
              refine ⟨tx [], p2, (sigs v).map sg, rfl, rfl, .inl (SqL.of upd_same), ?_, rfl, ?_⟩
              · rw [sum_sg]
                have := TX.len_sigs v
                show (sigs v).length + _ * 0 ≤ _
                omega
              · rw [join_sg]
                refine fin _ (same_two (same_upd ha) hp2) _ ?_
                unfold dueB
                rw [decide_eq_false h0, decide_eq_true h4]
                show _ = (true && (true && decide (v = sigs v)))
                rw [Bool.true_and, Bool.true_and]
                exact decide_eq_decide.mpr ⟨fun z => tx_inj (V.str.inj z), fun z => by rw [← z]⟩
            · have h4' : ¬ ((v.length : Int) < 4) := by omega
              refine ⟨false, congrArg V.bl (decide_eq_false h4'), ?_⟩
              refine fin _ (Same.refl _) _ ?_
              unfold dueB
              rw [decide_eq_false h4]
              simp
      · rintro H4 ⟨s4, hd4⟩
        rw [List.length_map, List.take_length] at hd4
        have g7 := s4 _ _ g6
        refine ⟨_, rfl, so, rfl, ⟨_, SqL.of g7⟩, fun D5 hD5 => ?_⟩
        refine lc_it walk_list (fun i H6 => Same H4 H6 ∧ H6 D5 = some (.lst ((((s8 L).take i).map dueB).map V.bl))) ⟨same_upd hD5, upd_same⟩ (fun i H6 _ ⟨s6, _⟩ => SqL.of (s6 _ _ g7)) ?_ ?_
        · rintro i x H6 H7 hi ⟨s6, hd6⟩ ⟨rfl, hx⟩
          rw [List.getElem?_map] at hx
          cases hc : (s8 L)[i]? with
          | none => rw [hc] at hx; cases hx
          | some v =>
            rw [hc] at hx
            obtain rfl : txV v = x := Option.some.inj hx
            have hvm := List.mem_of_getElem? hc
            have tk : (s8 L).take (i + 1) = (s8 L).take i ++ [v] := by rw [List.take_add_one, hc] <;> rfl
            refine ⟨rfl, _, rfl, _, rfl, .inl ⟨tx v, rfl, by rw [tx_len]; have := lenS v hvm; omega, fun H8 s8' => ⟨_, s8' _ _ hd6, ?_, same_at (s6.trans s8') hD5, ?_⟩⟩⟩
            · rw [List.length_map, List.length_map, List.length_take, sizeLine_eq, len8]
              omega
            · rw [due_let (lowS v hvm), upd_same, tk, List.map_append, List.map_append] <;> rfl
        · rintro H6 ⟨s6, hd6⟩
          rw [List.length_map, List.take_length] at hd6
          refine ⟨_, rfl, .list (((s8 L).map dueB).map PyData.bool), .list (((s8 L).map dueB).map PyData.bool), .lst (SqL.of hd6) (dp_bls _), .lst (SqL.of (s6 _ _ hd4)) (dp_bls _), shaped_bls _, shaped_bls _, true, congrArg V.bl (eqv_bls _), ?_⟩
          have g8 := s6 _ _ g7
          refine ⟨_, rfl, so, rfl, ⟨_, SqL.of g8⟩, fun D7 hD7 => ?_⟩
          refine lc_it walk_list (fun i H8 => Same H6 H8 ∧ H8 D7 = some (.lst ((List.replicate i true).map V.bl))) ⟨same_upd hD7, upd_same⟩ (fun i H8 _ ⟨s9, _⟩ => SqL.of (s9 _ _ g8)) ?_ ?_
          · rintro i x H8 H9 hi ⟨s9, hd9⟩ ⟨rfl, hx⟩
            rw [List.getElem?_map] at hx
            cases hc : (s8 L)[i]? with
            | none => rw [hc] at hx; cases hx
            | some v =>
              rw [hc] at hx
              obtain rfl : txV v = x := Option.some.inj hx
              have hvm := List.mem_of_getElem? hc
              rw [List.length_map, len8] at hi
              refine ⟨rfl, _, rfl, _, rfl, .inl ⟨tx v, rfl, _, hd9, ?_, same_at s9 hD7, ?_⟩⟩
              · rw [List.length_map, List.length_replicate, sizeLine_eq]
                omega
              · rw [wordB_low (lowS v hvm), upd_same, List.replicate_succ', List.map_append] <;> rfl
          · rintro H8 ⟨s9, hd9⟩
            rw [List.length_map, len8] at hd9
            refine ⟨(by show 1 ≤ sizeLine; decide), fun tl htl => ⟨_, _, _, rfl, rfl, upd_same, by decide, by decide, by decide, fun pr hpr => ?_⟩⟩
            have d9 := same_upd hpr (o := .lst ((List.replicate 8 true).map V.bl)) _ _ (same_upd htl (o := .lst [V.bl true]) _ _ hd9)
            refine ⟨.list ((List.replicate 8 true).map PyData.bool), .list ((List.replicate 8 true).map PyData.bool), .lst (SqL.of d9) (dp_bls _), .lst (SqL.of upd_same) (dp_bls (List.replicate 8 true)), shaped_bls _, shaped_bls _, ?_⟩
            rw [eqv_bls]
            exact q _ (sG.trans (s4.trans (s6.trans (s9.trans (same_two (same_upd htl) hpr)))))
end
end WK

set_option Elab.async false
set_option linter.all false
set_option maxRecDepth 100000
set_option maxHeartbeats 8000000
/-! Right; the law. -/
namespace WK
open PySem L2 PyProof.Rows K1
open TX (sg sigs)
open PySem.W (Frag kitOne)
def spRight : Sp := fun vs H Q _ => ∃ p : Addr, vs = [.ref p] ∧ DiceAt H p ∧ ∀ H', DiceAt H' p → But p H H' → Q (.bl true) H'
def spLaw (K : Frag) : Sp := fun vs H Q _ => ∃ (s : Addr) (ns : List Int), vs = [.ref s] ∧ SqL K H s (ns.map V.int) ∧ ns.length ≤ 63 ∧ ∀ H', Q (.bl true) H'
theorem no_pass {P : Program} {w : World} {X : Cx} : Passes (CX P w) X (fun _ _ _ => False) := fun _ _ _ _ _ _ _ hc => by
  obtain ⟨a, B, H', cls, d, z1, fl, z2, ub, z3, z4, z5, z6⟩ := hc
  exact z6.elim
theorem told_tup {K : Frag} {H : Hp} {t : Addr} {us : List W} (h : H t = some (.tup (us.map fun p => V.str (tx p)))) : Dp K H (.ref t) (.tuple ((us.map tx).map PyData.str)) := by
  rw [← strs_tx] at h
  exact .tup (SqT.of h) (dp_strs _)
section
variable {P : Program} {w : World} {K : PySem.W.Frag} {mg : Str → Option Value} {base : Heap}
variable {fR fLe fA fLA fW fT fP fJ fD fPi fC fL fF : Addr} {dR dLe dA dLA dW dT dP dJ dD dPi dC dL dF : FuncData}
theorem scRi : FnScope ["_law_dice_here", "_law_letters_here", "_law_most", "_law_word_here"] ["_law_dice_here"] (defScope sRight) := ⟨rfl, rfl, rfl, by decide +kernel, rfl, by decide +kernel, by decide +kernel⟩
theorem ok_right {f : Addr} {fd : FuncData} (F : Fun K "_law_right" "_law_right" sRight f fd) (T : TN mg) (AR : Fn K mg "_law_roll" sRoll ["_law_dice_here", "_law_total"] fR dR)
    (AL : Fn K mg "_law_letters" sLetters ["_law_dice_here", "_law_total"] fLe dLe) (GL : FnOk P w K mg base CX0 3 fLe dLe ["_law_dice_here", "_law_total"] spLetters)
    (AA : Fn K mg "all_words" sAllW ["letters", "most"] fA dA) (GA : GFn P w K mg base 4 fA dA ["letters", "most"] spAllW)
    (ALA : Fn K mg "_law_all_words" sLAll ["_law_letters_here", "_law_most"] fLA dLA) (GLA : FnOk P w K mg base CX0 1 fLA dLA ["_law_letters_here", "_law_most"] spLAll)
    (AW : Fn K mg "_law_word" sWord ["_law_dice_here", "_law_letters_here", "_law_most"] fW dW) (GW : FnOk P w K mg base CX0 3 fW dW ["_law_dice_here", "_law_letters_here", "_law_most"] spWordL)
    (AT : Fn K mg "_law_told_right" sTold ["_law_dice_here", "_law_letters_here", "_law_word_here"] fT dT) (GT : FnOk P w K mg base CX0 5 fT dT ["_law_dice_here", "_law_letters_here", "_law_word_here"] (spRightW 50))
    (AP : Fn K mg "_law_pieces_right" sPR ["_law_dice_here", "_law_letters_here", "_law_word_here"] fP dP) (GP : FnOk P w K mg base CX0 5 fP dP ["_law_dice_here", "_law_letters_here", "_law_word_here"] (spRightW 50))
    (AJ : Fn K mg "_law_judged_right" sJR ["_law_dice_here", "_law_letters_here"] fJ dJ) (GJ : FnOk P w K mg base CX0 3 fJ dJ ["_law_dice_here", "_law_letters_here"] spJR) : FnOk P w K mg base CX0 8 f fd ["_law_dice_here"] spRight := by
  have GR : FnOk P w K mg base CX0 1 fR dR ["_law_dice_here", "_law_total"] spRoll := ok_roll AR.F T.dice
  refine F.ok scRi (fun vs H Q E h => ?_) (fun cdv A outer s H vs Q E hr h => ?_)
  · obtain ⟨u, rfl, _⟩ := h
    rfl
  · obtain ⟨p, rfl, hD, q⟩ := h
    have hr1 : Room 1 _ := hr.mono (by decide)
    have hr3 : Room 3 _ := hr.mono (by decide)
    have hr4 : Room 4 _ := hr.mono (by decide)
    have hr5 : Room 5 _ := hr.mono (by decide)
    refine ⟨_, pss_cons (ps_set (i := 1) scRi.nd rfl (Or.inl rfl) (pe_call GL hr3 rfl AL.g AL.F.kp AL.b .nil pass0 (pa_cons (pv 0) (pa_cons (pe_op op_add pe_int (pe_call GR hr1 rfl AR.g AR.F.kp AR.b .nil pass0 (pa_cons (pv 0) (pa_cons pe_int pa_nil)))) pa_nil))))
      (pss_cons (ps_set (i := 2) scRi.nd rfl (Or.inl rfl) (pe_call GR hr1 rfl AR.g AR.F.kp AR.b .nil pass0 (pa_cons (pv 0) (pa_cons (pe_ifExp (pt_cmpR op_lt (pe_callB call_len_str (by rfl) T.len PySem.boot_len (pa_cons (pv 1) pa_nil)) pe_int (nomark _)) pe_int pe_int) pa_nil))))
      (pss_cons (ps_if (pt_cmpR (op_neD hr.units) (pe_listG (E := fun _ _ _ => False) (pgen_call GA hr4 rfl AA.g AA.F.kp AA.b .nil (pa_cons (pv 1) (pa_cons (pv 2) pa_nil))) no_pass (fun _ _ _ h => h.elim) hr rfl T.list (by decide +kernel)) (pe_call GLA hr1 rfl ALA.g ALA.F.kp ALA.b .nil pass0 (pa_cons (pv 1) (pa_cons (pv 2) pa_nil))) (nomark _)) (pss_one (ps_ret pe_bl)) pss_nil)
      (pss_cons (ps_set (i := 3) scRi.nd rfl (Or.inl rfl) (pe_call GW hr3 rfl AW.g AW.F.kp AW.b .nil pass0 (pa_cons (pv 0) (pa_cons (pv 1) (pa_cons pe_int pa_nil)))))
      (pss_cons (ps_if (PW.pt (pw_or (pt_not (pt_val (pe_call GT hr5 rfl AT.g AT.F.kp AT.b .nil pass0 (pa_cons (pv 0) (pa_cons (pv 1) (pa_cons (pv 3) pa_nil)))))) (pw_or1 (pt_not (pt_val (pe_call GP hr5 rfl AP.g AP.F.kp AP.b .nil pass0 (pa_cons (pv 0) (pa_cons (pv 1) (pa_cons (pv 3) pa_nil))))))))) (pss_one (ps_ret pe_bl)) pss_nil)
      (pss_one (ps_ret (pe_call GJ hr3 rfl AJ.g AJ.F.kp AJ.b .nil pass0 (pa_cons (pv 0) (pa_cons (pv 1) pa_nil))))))))), ?_⟩
    refine ⟨_, rfl, _, rfl, p, _, rfl, hD, by decide, by decide, fun r H1 hr0 hr1' hD1 hB1 => ⟨_, _, rfl, rfl, p, _, rfl, hD1, by omega, by omega, fun L H2 hL hD2 hB2 => ?_⟩⟩
    have hz : (tx L).length ≤ sizeLine := by
      rw [tx_len, sizeLine_eq]
      have := hL.few
      omega
    have main : ∀ k : Int, 4 ≤ k → k ≤ 5 → ∀ (r2 : Int) (H3 : Hp), 0 ≤ r2 → r2 < k → DiceAt H3 p → But p H2 H3 → ∃ m : Nat, r2 = (m : Int) ∧ m ≤ 4 := fun k h4 h5 r2 H3 h0 h1 _ _ => ⟨r2.toNat, by omega, by omega⟩
    refine ⟨_, rfl, _, rfl, tx L, rfl, hz, _, _, rfl, rfl, ?_⟩
    have B2 := hB1.trans hB2
    by_cases hc : (((tx L).length : Int) < 3)
    · refine ⟨true, congrArg V.bl (decide_eq_true hc), ?_⟩
      refine ⟨p, 5, rfl, hD2, by decide, by decide, fun r2 H3 h0 h1 hD3 hB3 => ?_⟩
      obtain ⟨m, rfl, hm⟩ := main 5 (by decide) (by decide) r2 H3 h0 h1 hD3 hB3
      have B3 := B2.trans hB3
      refine ⟨_, rfl, _, rfl, L, m, rfl, hL, hm, fun H4 s4 l1 hl1 => ?_⟩
      refine ⟨_, rfl, _, rfl, L, m, rfl, hL.few, hm, fun l2 H5 nl2 s5 hl2 => ?_⟩
      have ew := strs_tx (allW L m)
      have shw := shaped_strs ((allW L m).map tx) (fun y hy => by
        obtain ⟨v, hv, rfl⟩ := List.mem_map.mp hy
        exact low_lay fun c hc => hL.low c (((mem_allW L m v).mp hv).2 c hc))
      have d1 : H5 l1 = some (.lst (((allW L m).map tx).map V.str)) := by rw [ew]; exact s5 _ _ upd_same
      have d2 : H5 l2 = some (.lst (((allW L m).map tx).map V.str)) := by rw [ew]; exact hl2
      refine ⟨.list (((allW L m).map tx).map PyData.str), .list (((allW L m).map tx).map PyData.str), .lst (SqL.of d1) (dp_strs _), .lst (SqL.of d2) (dp_strs _), shw.1, shw.1, false, congrArg V.bl (by rw [SeqAt.eqv_refl _ (SeqAt.canLay_of_shaped shw.1)] <;> rfl), ?_⟩
      have s35 : Same H3 H5 := Same.trans s4 ((same_upd hl1).trans s5)
      have D5 := hD3.keep fun _ e => s35 _ _ e
      refine ⟨_, rfl, _, rfl, p, L, 8, rfl, D5, hL, by decide, by decide, fun v H6 hv hvc D6 B6 => ?_⟩
      refine ⟨_, rfl, _, rfl, _, rfl, p, L, v, rfl, D6, hL, by omega, hvc, fun H7 D7 B7 => ⟨true, rfl, ?_⟩⟩
      refine ⟨_, rfl, _, rfl, _, rfl, p, L, v, rfl, D7, hL, by omega, hvc, fun H8 D8 B8 => ⟨true, rfl, ?_⟩⟩
      exact ⟨_, rfl, _, rfl, .ref p, L, rfl, hL, fun H9 s9 => q _ (D8.keep fun _ e => s9 _ _ e) ((((B3.trans (But.ofSame s35)).trans B6).trans (B7.trans B8)).trans (But.ofSame s9))⟩
    · refine ⟨false, congrArg V.bl (decide_eq_false hc), ?_⟩
      refine ⟨p, 4, rfl, hD2, by decide, by decide, fun r2 H3 h0 h1 hD3 hB3 => ?_⟩
      obtain ⟨m, rfl, hm⟩ := main 4 (by decide) (by decide) r2 H3 h0 h1 hD3 hB3
      have B3 := B2.trans hB3
      refine ⟨_, rfl, _, rfl, L, m, rfl, hL, hm, fun H4 s4 l1 hl1 => ?_⟩
      refine ⟨_, rfl, _, rfl, L, m, rfl, hL.few, hm, fun l2 H5 nl2 s5 hl2 => ?_⟩
      have ew := strs_tx (allW L m)
      have shw := shaped_strs ((allW L m).map tx) (fun y hy => by
        obtain ⟨v, hv, rfl⟩ := List.mem_map.mp hy
        exact low_lay fun c hc => hL.low c (((mem_allW L m v).mp hv).2 c hc))
      have d1 : H5 l1 = some (.lst (((allW L m).map tx).map V.str)) := by rw [ew]; exact s5 _ _ upd_same
      have d2 : H5 l2 = some (.lst (((allW L m).map tx).map V.str)) := by rw [ew]; exact hl2
      refine ⟨.list (((allW L m).map tx).map PyData.str), .list (((allW L m).map tx).map PyData.str), .lst (SqL.of d1) (dp_strs _), .lst (SqL.of d2) (dp_strs _), shw.1, shw.1, false, congrArg V.bl (by rw [SeqAt.eqv_refl _ (SeqAt.canLay_of_shaped shw.1)] <;> rfl), ?_⟩
      have s35 : Same H3 H5 := Same.trans s4 ((same_upd hl1).trans s5)
      have D5 := hD3.keep fun _ e => s35 _ _ e
      refine ⟨_, rfl, _, rfl, p, L, 8, rfl, D5, hL, by decide, by decide, fun v H6 hv hvc D6 B6 => ?_⟩
      refine ⟨_, rfl, _, rfl, _, rfl, p, L, v, rfl, D6, hL, by omega, hvc, fun H7 D7 B7 => ⟨true, rfl, ?_⟩⟩
      refine ⟨_, rfl, _, rfl, _, rfl, p, L, v, rfl, D7, hL, by omega, hvc, fun H8 D8 B8 => ⟨true, rfl, ?_⟩⟩
      exact ⟨_, rfl, _, rfl, .ref p, L, rfl, hL, fun H9 s9 => q _ (D8.keep fun _ e => s9 _ _ e) ((((B3.trans (But.ofSame s35)).trans B6).trans (B7.trans B8)).trans (But.ofSame s9))⟩
theorem scL : FnScope ["_law_script", "_law_spot", "_law_dice_here", "_law_turn", "_law_told"] ["_law_script"] (defScope sLaw) := ⟨rfl, rfl, rfl, by decide +kernel, rfl, by decide +kernel, by decide +kernel⟩
theorem ok_law {f : Addr} {fd : FuncData} (F : Fun K "law" "law" sLaw f fd) (T : TN mg) (AD : Fn K mg "_law_dice" sDice ["_law_script", "_law_at"] fD dD) (GD : FnOk P w K mg base CX0 1 fD dD ["_law_script", "_law_at"] (spDice K))
    (AR : Fn K mg "_law_right" sRight ["_law_dice_here"] fR dR) (GR : FnOk P w K mg base CX0 8 fR dR ["_law_dice_here"] spRight)
    (AP : Fn K mg "pieces" sPieces ["word", "most"] fPi dPi) (GP : FnOk P w K mg base CX0 4 fPi dPi ["word", "most"] spPieces) (AC : Fn K mg "counts" sCounts ["letters", "word"] fC dC) (GC : FnOk P w K mg base CX0 4 fC dC ["letters", "word"] spCounts)
    (AL : Fn K mg "last_letters" sLast ["word", "number"] fL dL) (GL : FnOk P w K mg base CX0 4 fL dL ["word", "number"] spLast) (AF : Fn K mg "first_letters" sFirst ["word", "number"] fF dF) (GF : FnOk P w K mg base CX0 4 fF dF ["word", "number"] spFirst) :
    FnOk P w K mg base CX0 9 f fd ["_law_script"] (spLaw K) := by
  obtain ⟨tM, hM⟩ := T.most
  refine F.ok scL (fun vs H Q E h => ?_) (fun cdv A outer s H vs Q E hr h => ?_)
  · obtain ⟨s, ns, rfl, _⟩ := h
    rfl
  · obtain ⟨s, ns, rfl, hS, hl, q⟩ := h
    have hr1 : Room 1 _ := hr.mono (by decide)
    have hr3 : Room 3 _ := hr.mono (by decide)
    have hr4 : Room 4 _ := hr.mono (by decide)
    refine ⟨_, pss_cons (ps_for PassesOwn.never rfl (pi_range1 rfl T.rng (pa_cons (pe_callB (call_max2 rfl) (by rfl) T.max (by decide +kernel) (pa_cons pe_int (pa_cons (pe_callB (call_min2 rfl) (by rfl) T.min (by decide +kernel) (pa_cons pe_int (pa_cons (pe_callB call_len_seq (by rfl) T.len PySem.boot_len (pa_cons (pv 0) pa_nil)) pa_nil))) pa_nil))) pa_nil)) (pg_name (i := 1) scL.nd rfl (Or.inl rfl))
        (pss_cons (ps_set (i := 2) scL.nd rfl (Or.inl rfl) (pe_call GD hr1 rfl AD.g AD.F.kp AD.b .nil pass0 (pa_cons (pv 0) (pa_cons (pv 1) pa_nil))))
        (pss_one (ps_for PassesOwn.never rfl (pi_range1 rfl T.rng (pa_cons pe_int pa_nil)) (pg_name (i := 3) scL.nd rfl (Or.inl rfl))
          (pss_one (ps_if (pt_not (pt_val (pe_call GR hr rfl AR.g AR.F.kp AR.b .nil pass0 (pa_cons (pv 2) pa_nil)))) (pss_one (ps_ret pe_bl)) pss_nil))))))
      (pss_cons (ps_set (i := 4) scL.nd rfl (Or.inl rfl) (pe_lst (pa_cons (pe_call GP hr4 rfl AP.g AP.F.kp AP.b .nil pass0 (pa_cons pe_str (pa_cons pe_int pa_nil))) (pa_cons (pe_call GP hr4 rfl AP.g AP.F.kp AP.b .nil pass0 (pa_cons pe_str (pa_cons pe_int pa_nil)))
        (pa_cons (pe_call GC hr4 rfl AC.g AC.F.kp AC.b .nil pass0 (pa_cons pe_str (pa_cons pe_str pa_nil))) (pa_cons (pe_call GL hr4 rfl AL.g AL.F.kp AL.b .nil pass0 (pa_cons pe_str (pa_cons pe_int pa_nil))) (pa_cons (pe_call GF hr4 rfl AF.g AF.F.kp AF.b .nil pass0 (pa_cons pe_str (pa_cons pe_int pa_nil))) pa_nil)))))))
      (pss_one (ps_ret (pe_and (pe_cmpR (op_eqD hr.units) (pv 4) (pe_lst (pa_cons (pe_tup (pa_cons pe_str (pa_cons pe_str (pa_cons pe_str (pa_cons pe_str (pa_cons pe_str (pa_cons pe_str pa_nil))))))) (pa_cons (pe_tup (pa_cons pe_str pa_nil)) (pa_cons (pe_tup (pa_cons pe_int (pa_cons pe_int pa_nil))) (pa_cons pe_str (pa_cons pe_str pa_nil)))))) (nomark _))
        (pe_one (pe_cmpR op_eq (pe_glob rfl hM (show RelV (.int 3) (.int 3 tM) from ⟨tM, rfl⟩)) pe_int (nomark _))))))), ?_⟩
    have len : ((ns.map V.int).length : Int) ≤ 63 := by
      rw [List.length_map]
      omega
    have len0 : (0 : Int) ≤ ((ns.map V.int).length : Int) := Int.natCast_nonneg _
    refine ⟨_, rfl, s, _, rfl, .inl hS, _, _, rfl, _, _, rfl, _, rfl, by split <;> split <;> omega, by split <;> split <;> omega, ?_⟩
    refine for_range (lo := 0) (fun i σ H1 => ∃ a b c, σ = [some (.ref s), a, b, c, none] ∧ Same H H1) ⟨_, _, _, rfl, Same.refl H⟩ ?_ ?_
    · rintro i σ H1 hi ⟨a, b, c, rfl, s1⟩
      refine ⟨_, rfl, _, rfl, s, ns, _, rfl, s1.seq hS, by omega, fun p H2 hp s2 hD => ?_⟩
      have np : H p = none := s1.free hp
      refine ⟨2, rfl, by decide, by decide, ?_⟩
      refine for_range (lo := 0) (n := 2) (fun j σ H3 => ∃ a c, σ = [some (.ref s), a, some (.ref p), c, none] ∧ Same H H3 ∧ DiceAt H3 p) ⟨_, _, rfl, s1.trans s2, hD⟩ ?_ ?_
      · rintro j σ H3 hj ⟨a, c, rfl, s3, hD3⟩
        refine ⟨_, rfl, p, rfl, hD3, fun H4 hD4 hB => ⟨true, rfl, ?_⟩⟩
        exact ⟨_, _, rfl, fun x o e => hB _ _ (s3 _ _ e) (ne_of_none e np), hD4⟩
      · rintro σ H3 ⟨a, c, rfl, s3, _⟩
        exact ⟨_, _, _, rfl, s3⟩
    · rintro σ H1 ⟨a, b, c, rfl, s1⟩
      have hA : ("aba" : Str) = tx [97, 98, 97] := by decide +kernel
      have hB : ("ab" : Str) = tx [97, 98] := by decide +kernel
      have hC : ("abaa" : Str) = tx [97, 98, 97, 97] := by decide +kernel
      have hE : ("abc" : Str) = tx [97, 98, 99] := by decide +kernel
      have lowB : ∀ v ∈ ([[97, 98, 97], [97, 98], [97, 98, 97, 97], [97, 98, 99]] : List W), ∀ c ∈ v, 97 ≤ c ∧ c ≤ 122 := by decide
      have letAB : Let [97, 98] := ⟨lowB [97, 98] (by simp), by decide, by decide, by decide⟩
      refine ⟨[97, 98, 97], 2, by rw [hA] <;> rfl, lowB _ (by simp), by decide, by decide, by decide, fun t1 G1 n1 q1 h1 => ?_⟩
      refine ⟨[97, 98], 0, by rw [hB] <;> rfl, lowB _ (by simp), by decide, by decide, by decide, fun t2 G2 n2 q2 h2 => ?_⟩
      refine ⟨[97, 98], [97, 98, 97, 97], by rw [hB, hC] <;> rfl, letAB, lowB _ (by simp), by decide, by decide, fun t3 G3 n3 q3 h3 => ?_⟩
      refine ⟨[97, 98, 99], 2, by rw [hE] <;> rfl, lowB _ (by simp), by decide, by decide, by decide, ?_⟩
      refine ⟨[97, 98, 99], 9, by rw [hE] <;> rfl, lowB _ (by simp), by decide, by decide, by decide, (by show 5 ≤ sizeLine; decide), fun lt hlt => ?_⟩
      refine ⟨_, rfl, (by show 6 ≤ sizeLine; decide), fun u1 hu1 => ⟨(by show 1 ≤ sizeLine; decide), fun u2 hu2 => ⟨(by show 2 ≤ sizeLine; decide), fun u3 hu3 => ⟨(by show 5 ≤ sizeLine; decide), fun l2 hl2 => ?_⟩⟩⟩⟩
      have v3 := same_upd hl2 (o := .lst [V.ref u1, V.ref u2, V.ref u3, V.str "bc", V.str "abc"])
      have v2 := (same_upd hu3 (o := .tup [V.int 3, V.int 1])).trans v3
      have v1 := (same_upd hu2 (o := .tup [V.str ""])).trans v2
      have v0 := (same_upd hu1 (o := .tup [V.str "", V.str "a", V.str "b", V.str "aa", V.str "ab", V.str "ba"])).trans v1
      have vl := (same_upd hlt (o := .lst [V.ref t1, V.ref t2, V.ref t3, V.str (tx ([97, 98, 99].drop ([97, 98, 99].length - (2 : Int).toNat))), V.str (tx ([97, 98, 99].take (9 : Int).toNat))])).trans v0
      have k1 := vl _ _ (q3 _ _ (q2 _ _ h1))
      have k2 := vl _ _ (q3 _ _ h2)
      have k3 := vl _ _ h3
      refine ⟨.list [.tuple (((told [97, 98, 97] 2).map tx).map PyData.str), .tuple (((told [97, 98] 0).map tx).map PyData.str), .tuple ([PyData.int (([97, 98, 97, 97] : W).count 97 : Int), PyData.int (([97, 98, 97, 97] : W).count 98 : Int)]), .str (tx ([97, 98, 99].drop ([97, 98, 99].length - (2 : Int).toNat))), .str (tx ([97, 98, 99].take (9 : Int).toNat))],
        .list [.tuple [.str "", .str "a", .str "b", .str "aa", .str "ab", .str "ba"], .tuple [.str ""], .tuple [.int 3, .int 1], .str "bc", .str "abc"],
        .lst (SqL.of (v0 _ _ upd_same)) (.cons (told_tup k1) (.cons (told_tup k2) (.cons (.tup (SqT.of k3) (.cons (.int _) (.cons (.int _) .nil))) (.cons (.str _) (.cons (.str _) .nil))))),
        .lst (SqL.of upd_same) (.cons (.tup (SqT.of (v1 _ _ upd_same)) (.cons (.str _) (.cons (.str _) (.cons (.str _) (.cons (.str _) (.cons (.str _) (.cons (.str _) .nil))))))) (.cons (.tup (SqT.of (v2 _ _ upd_same)) (.cons (.str _) .nil)) (.cons (.tup (SqT.of (v3 _ _ upd_same)) (.cons (.int _) (.cons (.int _) .nil))) (.cons (.str _) (.cons (.str _) .nil))))),
        by decide +kernel, by decide +kernel, true, congrArg V.bl (by decide +kernel), ?_⟩
      refine ⟨rfl, ?_⟩
      exact q _
end
end WK

set_option Elab.async false
set_option linter.all false
set_option maxRecDepth 100000
set_option maxHeartbeats 8000000
/-! The end of k01. -/
namespace WK
open PySem L2 PyProof.Rows K1
open PySem.W (Frag kitOne)
theorem all_mk {l : PySem.W.OpenLaw} {w : World} {K : Frag} {h : Heap} {mg : Str → Option Value} {fa f0 f1 f2 f3 f4 f5 f6 f7 f8 f9 f10 f11 f12 f13 f14 f15 f16 f17 f18 f19 f20 f21 f22 f23 f24 f25 f26 f27 f28 f29 f30 f31 : Addr} {tM : Tok} (X : K.In h) (G : h.Ns mainGlobals mg) (hfa : mg "law" = some (.ref fa))
    {od0 an0 od1 an1 od2 an2 od3 an3 od4 an4 od5 an5 od6 an6 od7 an7 od8 an8 od9 an9 od10 an10 od11 an11 od12 an12 od13 an13 od14 an14 od15 an15 od16 an16 od17 an17 od18 an18 od19 an19 od20 an20 od21 an21 od22 an22 od23 an23 od24 an24 od25 an25 od26 an26 od27 an27 od28 an28 od29 an29 od30 an30 od31 an31 : Option Addr} {sl0 sl1 sl2 sl3 sl4 sl5 sl6 sl7 sl8 sl9 sl10 sl11 sl12 sl13 sl14 sl15 sl16 sl17 sl18 sl19 sl20 sl21 sl22 sl23 sl24 sl25 sl26 sl27 sl28 sl29 sl30 sl31 : Array (Option Value)} {oc0 kV0 dc0 pm0 cd0 ct0 oc1 kV1 dc1 pm1 cd1 ct1 oc2 kV2 dc2 pm2 cd2 ct2 oc3 kV3 dc3 pm3 cd3 ct3 oc4 kV4 dc4 pm4 cd4 ct4 oc5 kV5 dc5 pm5 cd5 ct5 oc6 kV6 dc6 pm6 cd6 ct6 oc7 kV7 dc7 pm7 cd7 ct7 oc8 kV8 dc8 pm8 cd8 ct8 oc9 kV9 dc9 pm9 cd9 ct9 oc10 kV10 dc10 pm10 cd10 ct10 oc11 kV11 dc11 pm11 cd11 ct11 oc12 kV12 dc12 pm12 cd12 ct12 oc13 kV13 dc13 pm13 cd13 ct13 oc14 kV14 dc14 pm14 cd14 ct14 oc15 kV15 dc15 pm15 cd15 ct15 oc16 kV16 dc16 pm16 cd16 ct16 oc17 kV17 dc17 pm17 cd17 ct17 oc18 kV18 dc18 pm18 cd18 ct18 oc19 kV19 dc19 pm19 cd19 ct19 oc20 kV20 dc20 pm20 cd20 ct20 oc21 kV21 dc21 pm21 cd21 ct21 oc22 kV22 dc22 pm22 cd22 ct22 oc23 kV23 dc23 pm23 cd23 ct23 oc24 kV24 dc24 pm24 cd24 ct24 oc25 kV25 dc25 pm25 cd25 ct25 oc26 kV26 dc26 pm26 cd26 ct26 oc27 kV27 dc27 pm27 cd27 ct27 oc28 kV28 dc28 pm28 cd28 ct28 oc29 kV29 dc29 pm29 cd29 ct29 oc30 kV30 dc30 pm30 cd30 ct30 oc31 kV31 dc31 pm31 cd31 ct31 : Value}
    (d0 : PySem.W.nsIn K mainGlobals "is_integer" = some (some (.ref f0)))
    (l0 : K.lookup f0 = some ⟨oc0, od0, .func (PySem.W.fnOf "is_integer" "is_integer" (defArgs sIsInt) (defBody sIsInt) (defScope sIsInt) .none kV0 dc0 pm0 an0 cd0 ct0), sl0⟩)
    (q0 : PySem.W.codeIn K cd0 "is_integer" = true)
    (k0 : PySem.W.keepIn K (.ref f0) = true)
    (d1 : PySem.W.nsIn K mainGlobals "is_number" = some (some (.ref f1)))
    (l1 : K.lookup f1 = some ⟨oc1, od1, .func (PySem.W.fnOf "is_number" "is_number" (defArgs sIsNum) (defBody sIsNum) (defScope sIsNum) .none kV1 dc1 pm1 an1 cd1 ct1), sl1⟩)
    (q1 : PySem.W.codeIn K cd1 "is_number" = true)
    (k1 : PySem.W.keepIn K (.ref f1) = true)
    (d2 : PySem.W.nsIn K mainGlobals "need_number" = some (some (.ref f2)))
    (l2 : K.lookup f2 = some ⟨oc2, od2, .func (PySem.W.fnOf "need_number" "need_number" (defArgs sNeedNum) (defBody sNeedNum) (defScope sNeedNum) .none kV2 dc2 pm2 an2 cd2 ct2), sl2⟩)
    (q2 : PySem.W.codeIn K cd2 "need_number" = true)
    (k2 : PySem.W.keepIn K (.ref f2) = true)
    (d3 : PySem.W.nsIn K mainGlobals "ascends" = some (some (.ref f3)))
    (l3 : K.lookup f3 = some ⟨oc3, od3, .func (PySem.W.fnOf "ascends" "ascends" (defArgs sAsc) (defBody sAsc) (defScope sAsc) .none kV3 dc3 pm3 an3 cd3 ct3), sl3⟩)
    (q3 : PySem.W.codeIn K cd3 "ascends" = true)
    (k3 : PySem.W.keepIn K (.ref f3) = true)
    (d4 : PySem.W.nsIn K mainGlobals "is_letters" = some (some (.ref f4)))
    (l4 : K.lookup f4 = some ⟨oc4, od4, .func (PySem.W.fnOf "is_letters" "is_letters" (defArgs sIsLet) (defBody sIsLet) (defScope sIsLet) .none kV4 dc4 pm4 an4 cd4 ct4), sl4⟩)
    (q4 : PySem.W.codeIn K cd4 "is_letters" = true)
    (k4 : PySem.W.keepIn K (.ref f4) = true)
    (d5 : PySem.W.nsIn K mainGlobals "is_word" = some (some (.ref f5)))
    (l5 : K.lookup f5 = some ⟨oc5, od5, .func (PySem.W.fnOf "is_word" "is_word" (defArgs sIsWord) (defBody sIsWord) (defScope sIsWord) .none kV5 dc5 pm5 an5 cd5 ct5), sl5⟩)
    (q5 : PySem.W.codeIn K cd5 "is_word" = true)
    (k5 : PySem.W.keepIn K (.ref f5) = true)
    (d6 : PySem.W.nsIn K mainGlobals "is_over" = some (some (.ref f6)))
    (l6 : K.lookup f6 = some ⟨oc6, od6, .func (PySem.W.fnOf "is_over" "is_over" (defArgs sIsOver) (defBody sIsOver) (defScope sIsOver) .none kV6 dc6 pm6 an6 cd6 ct6), sl6⟩)
    (q6 : PySem.W.codeIn K cd6 "is_over" = true)
    (k6 : PySem.W.keepIn K (.ref f6) = true)
    (d7 : PySem.W.nsIn K mainGlobals "need_letters" = some (some (.ref f7)))
    (l7 : K.lookup f7 = some ⟨oc7, od7, .func (PySem.W.fnOf "need_letters" "need_letters" (defArgs sNeedLet) (defBody sNeedLet) (defScope sNeedLet) .none kV7 dc7 pm7 an7 cd7 ct7), sl7⟩)
    (q7 : PySem.W.codeIn K cd7 "need_letters" = true)
    (k7 : PySem.W.keepIn K (.ref f7) = true)
    (d8 : PySem.W.nsIn K mainGlobals "need_word" = some (some (.ref f8)))
    (l8 : K.lookup f8 = some ⟨oc8, od8, .func (PySem.W.fnOf "need_word" "need_word" (defArgs sNeedWord) (defBody sNeedWord) (defScope sNeedWord) .none kV8 dc8 pm8 an8 cd8 ct8), sl8⟩)
    (q8 : PySem.W.codeIn K cd8 "need_word" = true)
    (k8 : PySem.W.keepIn K (.ref f8) = true)
    (d9 : PySem.W.nsIn K mainGlobals "need_over" = some (some (.ref f9)))
    (l9 : K.lookup f9 = some ⟨oc9, od9, .func (PySem.W.fnOf "need_over" "need_over" (defArgs sNeedOver) (defBody sNeedOver) (defScope sNeedOver) .none kV9 dc9 pm9 an9 cd9 ct9), sl9⟩)
    (q9 : PySem.W.codeIn K cd9 "need_over" = true)
    (k9 : PySem.W.keepIn K (.ref f9) = true)
    (d10 : PySem.W.nsIn K mainGlobals "all_words" = some (some (.ref f10)))
    (l10 : K.lookup f10 = some ⟨oc10, od10, .func (PySem.W.fnOf "all_words" "all_words" (defArgs sAllW) (defBody sAllW) (defScope sAllW) .none kV10 dc10 pm10 an10 cd10 ct10), sl10⟩)
    (q10 : PySem.W.codeIn K cd10 "all_words" = true)
    (k10 : PySem.W.keepIn K (.ref f10) = true)
    (d11 : PySem.W.nsIn K mainGlobals "power" = some (some (.ref f11)))
    (l11 : K.lookup f11 = some ⟨oc11, od11, .func (PySem.W.fnOf "power" "power" (defArgs sPower) (defBody sPower) (defScope sPower) .none kV11 dc11 pm11 an11 cd11 ct11), sl11⟩)
    (q11 : PySem.W.codeIn K cd11 "power" = true)
    (k11 : PySem.W.keepIn K (.ref f11) = true)
    (d12 : PySem.W.nsIn K mainGlobals "counts" = some (some (.ref f12)))
    (l12 : K.lookup f12 = some ⟨oc12, od12, .func (PySem.W.fnOf "counts" "counts" (defArgs sCounts) (defBody sCounts) (defScope sCounts) .none kV12 dc12 pm12 an12 cd12 ct12), sl12⟩)
    (q12 : PySem.W.codeIn K cd12 "counts" = true)
    (k12 : PySem.W.keepIn K (.ref f12) = true)
    (d13 : PySem.W.nsIn K mainGlobals "pieces" = some (some (.ref f13)))
    (l13 : K.lookup f13 = some ⟨oc13, od13, .func (PySem.W.fnOf "pieces" "pieces" (defArgs sPieces) (defBody sPieces) (defScope sPieces) .none kV13 dc13 pm13 an13 cd13 ct13), sl13⟩)
    (q13 : PySem.W.codeIn K cd13 "pieces" = true)
    (k13 : PySem.W.keepIn K (.ref f13) = true)
    (d14 : PySem.W.nsIn K mainGlobals "is_piece" = some (some (.ref f14)))
    (l14 : K.lookup f14 = some ⟨oc14, od14, .func (PySem.W.fnOf "is_piece" "is_piece" (defArgs sIsPiece) (defBody sIsPiece) (defScope sIsPiece) .none kV14 dc14 pm14 an14 cd14 ct14), sl14⟩)
    (q14 : PySem.W.codeIn K cd14 "is_piece" = true)
    (k14 : PySem.W.keepIn K (.ref f14) = true)
    (d15 : PySem.W.nsIn K mainGlobals "last_letters" = some (some (.ref f15)))
    (l15 : K.lookup f15 = some ⟨oc15, od15, .func (PySem.W.fnOf "last_letters" "last_letters" (defArgs sLast) (defBody sLast) (defScope sLast) .none kV15 dc15 pm15 an15 cd15 ct15), sl15⟩)
    (q15 : PySem.W.codeIn K cd15 "last_letters" = true)
    (k15 : PySem.W.keepIn K (.ref f15) = true)
    (d16 : PySem.W.nsIn K mainGlobals "first_letters" = some (some (.ref f16)))
    (l16 : K.lookup f16 = some ⟨oc16, od16, .func (PySem.W.fnOf "first_letters" "first_letters" (defArgs sFirst) (defBody sFirst) (defScope sFirst) .none kV16 dc16 pm16 an16 cd16 ct16), sl16⟩)
    (q16 : PySem.W.codeIn K cd16 "first_letters" = true)
    (k16 : PySem.W.keepIn K (.ref f16) = true)
    (d17 : PySem.W.nsIn K mainGlobals "_law_dice" = some (some (.ref f17)))
    (l17 : K.lookup f17 = some ⟨oc17, od17, .func (PySem.W.fnOf "_law_dice" "_law_dice" (defArgs sDice) (defBody sDice) (defScope sDice) .none kV17 dc17 pm17 an17 cd17 ct17), sl17⟩)
    (q17 : PySem.W.codeIn K cd17 "_law_dice" = true)
    (k17 : PySem.W.keepIn K (.ref f17) = true)
    (d18 : PySem.W.nsIn K mainGlobals "_law_roll" = some (some (.ref f18)))
    (l18 : K.lookup f18 = some ⟨oc18, od18, .func (PySem.W.fnOf "_law_roll" "_law_roll" (defArgs sRoll) (defBody sRoll) (defScope sRoll) .none kV18 dc18 pm18 an18 cd18 ct18), sl18⟩)
    (q18 : PySem.W.codeIn K cd18 "_law_roll" = true)
    (k18 : PySem.W.keepIn K (.ref f18) = true)
    (d19 : PySem.W.nsIn K mainGlobals "_law_one_of" = some (some (.ref f19)))
    (l19 : K.lookup f19 = some ⟨oc19, od19, .func (PySem.W.fnOf "_law_one_of" "_law_one_of" (defArgs sOne) (defBody sOne) (defScope sOne) .none kV19 dc19 pm19 an19 cd19 ct19), sl19⟩)
    (q19 : PySem.W.codeIn K cd19 "_law_one_of" = true)
    (k19 : PySem.W.keepIn K (.ref f19) = true)
    (d20 : PySem.W.nsIn K mainGlobals "_law_mixed" = some (some (.ref f20)))
    (l20 : K.lookup f20 = some ⟨oc20, od20, .func (PySem.W.fnOf "_law_mixed" "_law_mixed" (defArgs sMixed) (defBody sMixed) (defScope sMixed) .none kV20 dc20 pm20 an20 cd20 ct20), sl20⟩)
    (q20 : PySem.W.codeIn K cd20 "_law_mixed" = true)
    (k20 : PySem.W.keepIn K (.ref f20) = true)
    (d21 : PySem.W.nsIn K mainGlobals "_law_letters" = some (some (.ref f21)))
    (l21 : K.lookup f21 = some ⟨oc21, od21, .func (PySem.W.fnOf "_law_letters" "_law_letters" (defArgs sLetters) (defBody sLetters) (defScope sLetters) .none kV21 dc21 pm21 an21 cd21 ct21), sl21⟩)
    (q21 : PySem.W.codeIn K cd21 "_law_letters" = true)
    (k21 : PySem.W.keepIn K (.ref f21) = true)
    (d22 : PySem.W.nsIn K mainGlobals "_law_word" = some (some (.ref f22)))
    (l22 : K.lookup f22 = some ⟨oc22, od22, .func (PySem.W.fnOf "_law_word" "_law_word" (defArgs sWord) (defBody sWord) (defScope sWord) .none kV22 dc22 pm22 an22 cd22 ct22), sl22⟩)
    (q22 : PySem.W.codeIn K cd22 "_law_word" = true)
    (k22 : PySem.W.keepIn K (.ref f22) = true)
    (d23 : PySem.W.nsIn K mainGlobals "_law_counts" = some (some (.ref f23)))
    (l23 : K.lookup f23 = some ⟨oc23, od23, .func (PySem.W.fnOf "_law_counts" "_law_counts" (defArgs sLCounts) (defBody sLCounts) (defScope sLCounts) .none kV23 dc23 pm23 an23 cd23 ct23), sl23⟩)
    (q23 : PySem.W.codeIn K cd23 "_law_counts" = true)
    (k23 : PySem.W.keepIn K (.ref f23) = true)
    (d24 : PySem.W.nsIn K mainGlobals "_law_is_piece" = some (some (.ref f24)))
    (l24 : K.lookup f24 = some ⟨oc24, od24, .func (PySem.W.fnOf "_law_is_piece" "_law_is_piece" (defArgs sLIsP) (defBody sLIsP) (defScope sLIsP) .none kV24 dc24 pm24 an24 cd24 ct24), sl24⟩)
    (q24 : PySem.W.codeIn K cd24 "_law_is_piece" = true)
    (k24 : PySem.W.keepIn K (.ref f24) = true)
    (d25 : PySem.W.nsIn K mainGlobals "_law_all_words" = some (some (.ref f25)))
    (l25 : K.lookup f25 = some ⟨oc25, od25, .func (PySem.W.fnOf "_law_all_words" "_law_all_words" (defArgs sLAll) (defBody sLAll) (defScope sLAll) .none kV25 dc25 pm25 an25 cd25 ct25), sl25⟩)
    (q25 : PySem.W.codeIn K cd25 "_law_all_words" = true)
    (k25 : PySem.W.keepIn K (.ref f25) = true)
    (d26 : PySem.W.nsIn K mainGlobals "_law_pieces" = some (some (.ref f26)))
    (l26 : K.lookup f26 = some ⟨oc26, od26, .func (PySem.W.fnOf "_law_pieces" "_law_pieces" (defArgs sLPieces) (defBody sLPieces) (defScope sLPieces) .none kV26 dc26 pm26 an26 cd26 ct26), sl26⟩)
    (q26 : PySem.W.codeIn K cd26 "_law_pieces" = true)
    (k26 : PySem.W.keepIn K (.ref f26) = true)
    (d27 : PySem.W.nsIn K mainGlobals "_law_told_right" = some (some (.ref f27)))
    (l27 : K.lookup f27 = some ⟨oc27, od27, .func (PySem.W.fnOf "_law_told_right" "_law_told_right" (defArgs sTold) (defBody sTold) (defScope sTold) .none kV27 dc27 pm27 an27 cd27 ct27), sl27⟩)
    (q27 : PySem.W.codeIn K cd27 "_law_told_right" = true)
    (k27 : PySem.W.keepIn K (.ref f27) = true)
    (d28 : PySem.W.nsIn K mainGlobals "_law_pieces_right" = some (some (.ref f28)))
    (l28 : K.lookup f28 = some ⟨oc28, od28, .func (PySem.W.fnOf "_law_pieces_right" "_law_pieces_right" (defArgs sPR) (defBody sPR) (defScope sPR) .none kV28 dc28 pm28 an28 cd28 ct28), sl28⟩)
    (q28 : PySem.W.codeIn K cd28 "_law_pieces_right" = true)
    (k28 : PySem.W.keepIn K (.ref f28) = true)
    (d29 : PySem.W.nsIn K mainGlobals "_law_judged_right" = some (some (.ref f29)))
    (l29 : K.lookup f29 = some ⟨oc29, od29, .func (PySem.W.fnOf "_law_judged_right" "_law_judged_right" (defArgs sJR) (defBody sJR) (defScope sJR) .none kV29 dc29 pm29 an29 cd29 ct29), sl29⟩)
    (q29 : PySem.W.codeIn K cd29 "_law_judged_right" = true)
    (k29 : PySem.W.keepIn K (.ref f29) = true)
    (d30 : PySem.W.nsIn K mainGlobals "_law_right" = some (some (.ref f30)))
    (l30 : K.lookup f30 = some ⟨oc30, od30, .func (PySem.W.fnOf "_law_right" "_law_right" (defArgs sRight) (defBody sRight) (defScope sRight) .none kV30 dc30 pm30 an30 cd30 ct30), sl30⟩)
    (q30 : PySem.W.codeIn K cd30 "_law_right" = true)
    (k30 : PySem.W.keepIn K (.ref f30) = true)
    (d31 : PySem.W.nsIn K mainGlobals "law" = some (some (.ref f31)))
    (l31 : K.lookup f31 = some ⟨oc31, od31, .func (PySem.W.fnOf "law" "law" (defArgs sLaw) (defBody sLaw) (defScope sLaw) .none kV31 dc31 pm31 an31 cd31 ct31), sl31⟩)
    (q31 : PySem.W.codeIn K cd31 "law" = true)
    (k31 : PySem.W.keepIn K (.ref f31) = true)
    (aM : PySem.W.nsIn K mainGlobals "MAX_LETTERS" = some (some (.int 3 tM)))
    (z_len : PySem.W.nsIn K mainGlobals "len" = some none)
    (z_int : PySem.W.nsIn K mainGlobals "int" = some none)
    (z_abs : PySem.W.nsIn K mainGlobals "abs" = some none)
    (z_isinstance : PySem.W.nsIn K mainGlobals "isinstance" = some none)
    (z_bool : PySem.W.nsIn K mainGlobals "bool" = some none)
    (z_str : PySem.W.nsIn K mainGlobals "str" = some none)
    (z_all : PySem.W.nsIn K mainGlobals "all" = some none)
    (z_range : PySem.W.nsIn K mainGlobals "range" = some none)
    (z_sorted : PySem.W.nsIn K mainGlobals "sorted" = some none)
    (z_set : PySem.W.nsIn K mainGlobals "set" = some none)
    (z_tuple : PySem.W.nsIn K mainGlobals "tuple" = some none)
    (z_list : PySem.W.nsIn K mainGlobals "list" = some none)
    (z_max : PySem.W.nsIn K mainGlobals "max" = some none)
    (z_min : PySem.W.nsIn K mainGlobals "min" = some none)
    (z_zip : PySem.W.nsIn K mainGlobals "zip" = some none) :
    ∃ fd : FuncData, (∀ (s : Shared) (v : Value), BindsTo s fd ⟨[v], []⟩ [("_law_script", v)]) ∧ ∀ base : Heap, K.In base → base.Ns mainGlobals mg → FnOk l.prog w K mg base CX0 9 fa fd ["_law_script"] (spLaw K) := by
  have e := hfa.symm.trans (PySem.W.mg_of X G d31)
  cases e
  have T : TN mg := ⟨PySem.W.mg_none_of X G z_len, PySem.W.mg_none_of X G z_int, PySem.W.mg_none_of X G z_abs, PySem.W.mg_none_of X G z_isinstance, PySem.W.mg_none_of X G z_bool, PySem.W.mg_none_of X G z_str, PySem.W.mg_none_of X G z_all, PySem.W.mg_none_of X G z_range, PySem.W.mg_none_of X G z_sorted, PySem.W.mg_none_of X G z_set, PySem.W.mg_none_of X G z_tuple, PySem.W.mg_none_of X G z_list, PySem.W.mg_none_of X G z_max, PySem.W.mg_none_of X G z_min, PySem.W.mg_none_of X G z_zip, tM, PySem.W.mg_of X G aM⟩
  have F0 := fun_mk (st := sIsInt) l0 q0 k0
  have b0 := F0.binds (ps := ["value"]) fun _ _ _ _ _ _ us hl => match us, hl with | [_], _ => rfl
  have A0 : Fn K mg "is_integer" sIsInt ["value"] f0 _ := ⟨PySem.W.mg_of X G d0, F0, b0⟩
  have F1 := fun_mk (st := sIsNum) l1 q1 k1
  have b1 := F1.binds (ps := ["value", "least", "most"]) fun _ _ _ _ _ _ us hl => match us, hl with | [_, _, _], _ => rfl
  have A1 : Fn K mg "is_number" sIsNum ["value", "least", "most"] f1 _ := ⟨PySem.W.mg_of X G d1, F1, b1⟩
  have F2 := fun_mk (st := sNeedNum) l2 q2 k2
  have b2 := F2.binds (ps := ["value", "least", "most"]) fun _ _ _ _ _ _ us hl => match us, hl with | [_, _, _], _ => rfl
  have A2 : Fn K mg "need_number" sNeedNum ["value", "least", "most"] f2 _ := ⟨PySem.W.mg_of X G d2, F2, b2⟩
  have F3 := fun_mk (st := sAsc) l3 q3 k3
  have b3 := F3.binds (ps := ["values"]) fun _ _ _ _ _ _ us hl => match us, hl with | [_], _ => rfl
  have A3 : Fn K mg "ascends" sAsc ["values"] f3 _ := ⟨PySem.W.mg_of X G d3, F3, b3⟩
  have F4 := fun_mk (st := sIsLet) l4 q4 k4
  have b4 := F4.binds (ps := ["value"]) fun _ _ _ _ _ _ us hl => match us, hl with | [_], _ => rfl
  have A4 : Fn K mg "is_letters" sIsLet ["value"] f4 _ := ⟨PySem.W.mg_of X G d4, F4, b4⟩
  have F5 := fun_mk (st := sIsWord) l5 q5 k5
  have b5 := F5.binds (ps := ["value"]) fun _ _ _ _ _ _ us hl => match us, hl with | [_], _ => rfl
  have A5 : Fn K mg "is_word" sIsWord ["value"] f5 _ := ⟨PySem.W.mg_of X G d5, F5, b5⟩
  have F6 := fun_mk (st := sIsOver) l6 q6 k6
  have b6 := F6.binds (ps := ["letters", "word"]) fun _ _ _ _ _ _ us hl => match us, hl with | [_, _], _ => rfl
  have A6 : Fn K mg "is_over" sIsOver ["letters", "word"] f6 _ := ⟨PySem.W.mg_of X G d6, F6, b6⟩
  have F7 := fun_mk (st := sNeedLet) l7 q7 k7
  have b7 := F7.binds (ps := ["letters"]) fun _ _ _ _ _ _ us hl => match us, hl with | [_], _ => rfl
  have A7 : Fn K mg "need_letters" sNeedLet ["letters"] f7 _ := ⟨PySem.W.mg_of X G d7, F7, b7⟩
  have F8 := fun_mk (st := sNeedWord) l8 q8 k8
  have b8 := F8.binds (ps := ["word"]) fun _ _ _ _ _ _ us hl => match us, hl with | [_], _ => rfl
  have A8 : Fn K mg "need_word" sNeedWord ["word"] f8 _ := ⟨PySem.W.mg_of X G d8, F8, b8⟩
  have F9 := fun_mk (st := sNeedOver) l9 q9 k9
  have b9 := F9.binds (ps := ["letters", "word"]) fun _ _ _ _ _ _ us hl => match us, hl with | [_, _], _ => rfl
  have A9 : Fn K mg "need_over" sNeedOver ["letters", "word"] f9 _ := ⟨PySem.W.mg_of X G d9, F9, b9⟩
  have F10 := fun_mk (st := sAllW) l10 q10 k10
  have b10 := F10.binds (ps := ["letters", "most"]) fun _ _ _ _ _ _ us hl => match us, hl with | [_, _], _ => rfl
  have A10 : Fn K mg "all_words" sAllW ["letters", "most"] f10 _ := ⟨PySem.W.mg_of X G d10, F10, b10⟩
  have F11 := fun_mk (st := sPower) l11 q11 k11
  have b11 := F11.binds (ps := ["word", "times"]) fun _ _ _ _ _ _ us hl => match us, hl with | [_, _], _ => rfl
  have A11 : Fn K mg "power" sPower ["word", "times"] f11 _ := ⟨PySem.W.mg_of X G d11, F11, b11⟩
  have F12 := fun_mk (st := sCounts) l12 q12 k12
  have b12 := F12.binds (ps := ["letters", "word"]) fun _ _ _ _ _ _ us hl => match us, hl with | [_, _], _ => rfl
  have A12 : Fn K mg "counts" sCounts ["letters", "word"] f12 _ := ⟨PySem.W.mg_of X G d12, F12, b12⟩
  have F13 := fun_mk (st := sPieces) l13 q13 k13
  have b13 := F13.binds (ps := ["word", "most"]) fun _ _ _ _ _ _ us hl => match us, hl with | [_, _], _ => rfl
  have A13 : Fn K mg "pieces" sPieces ["word", "most"] f13 _ := ⟨PySem.W.mg_of X G d13, F13, b13⟩
  have F14 := fun_mk (st := sIsPiece) l14 q14 k14
  have b14 := F14.binds (ps := ["word", "other"]) fun _ _ _ _ _ _ us hl => match us, hl with | [_, _], _ => rfl
  have A14 : Fn K mg "is_piece" sIsPiece ["word", "other"] f14 _ := ⟨PySem.W.mg_of X G d14, F14, b14⟩
  have F15 := fun_mk (st := sLast) l15 q15 k15
  have b15 := F15.binds (ps := ["word", "number"]) fun _ _ _ _ _ _ us hl => match us, hl with | [_, _], _ => rfl
  have A15 : Fn K mg "last_letters" sLast ["word", "number"] f15 _ := ⟨PySem.W.mg_of X G d15, F15, b15⟩
  have F16 := fun_mk (st := sFirst) l16 q16 k16
  have b16 := F16.binds (ps := ["word", "number"]) fun _ _ _ _ _ _ us hl => match us, hl with | [_, _], _ => rfl
  have A16 : Fn K mg "first_letters" sFirst ["word", "number"] f16 _ := ⟨PySem.W.mg_of X G d16, F16, b16⟩
  have F17 := fun_mk (st := sDice) l17 q17 k17
  have b17 := F17.binds (ps := ["_law_script", "_law_at"]) fun _ _ _ _ _ _ us hl => match us, hl with | [_, _], _ => rfl
  have A17 : Fn K mg "_law_dice" sDice ["_law_script", "_law_at"] f17 _ := ⟨PySem.W.mg_of X G d17, F17, b17⟩
  have F18 := fun_mk (st := sRoll) l18 q18 k18
  have b18 := F18.binds (ps := ["_law_dice_here", "_law_total"]) fun _ _ _ _ _ _ us hl => match us, hl with | [_, _], _ => rfl
  have A18 : Fn K mg "_law_roll" sRoll ["_law_dice_here", "_law_total"] f18 _ := ⟨PySem.W.mg_of X G d18, F18, b18⟩
  have F19 := fun_mk (st := sOne) l19 q19 k19
  have b19 := F19.binds (ps := ["_law_dice_here", "_law_items"]) fun _ _ _ _ _ _ us hl => match us, hl with | [_, _], _ => rfl
  have A19 : Fn K mg "_law_one_of" sOne ["_law_dice_here", "_law_items"] f19 _ := ⟨PySem.W.mg_of X G d19, F19, b19⟩
  have F20 := fun_mk (st := sMixed) l20 q20 k20
  have b20 := F20.binds (ps := ["_law_dice_here", "_law_items"]) fun _ _ _ _ _ _ us hl => match us, hl with | [_, _], _ => rfl
  have A20 : Fn K mg "_law_mixed" sMixed ["_law_dice_here", "_law_items"] f20 _ := ⟨PySem.W.mg_of X G d20, F20, b20⟩
  have F21 := fun_mk (st := sLetters) l21 q21 k21
  have b21 := F21.binds (ps := ["_law_dice_here", "_law_total"]) fun _ _ _ _ _ _ us hl => match us, hl with | [_, _], _ => rfl
  have A21 : Fn K mg "_law_letters" sLetters ["_law_dice_here", "_law_total"] f21 _ := ⟨PySem.W.mg_of X G d21, F21, b21⟩
  have F22 := fun_mk (st := sWord) l22 q22 k22
  have b22 := F22.binds (ps := ["_law_dice_here", "_law_letters_here", "_law_most"]) fun _ _ _ _ _ _ us hl => match us, hl with | [_, _, _], _ => rfl
  have A22 : Fn K mg "_law_word" sWord ["_law_dice_here", "_law_letters_here", "_law_most"] f22 _ := ⟨PySem.W.mg_of X G d22, F22, b22⟩
  have F23 := fun_mk (st := sLCounts) l23 q23 k23
  have b23 := F23.binds (ps := ["_law_letters_here", "_law_word_here"]) fun _ _ _ _ _ _ us hl => match us, hl with | [_, _], _ => rfl
  have A23 : Fn K mg "_law_counts" sLCounts ["_law_letters_here", "_law_word_here"] f23 _ := ⟨PySem.W.mg_of X G d23, F23, b23⟩
  have F24 := fun_mk (st := sLIsP) l24 q24 k24
  have b24 := F24.binds (ps := ["_law_word_here", "_law_other"]) fun _ _ _ _ _ _ us hl => match us, hl with | [_, _], _ => rfl
  have A24 : Fn K mg "_law_is_piece" sLIsP ["_law_word_here", "_law_other"] f24 _ := ⟨PySem.W.mg_of X G d24, F24, b24⟩
  have F25 := fun_mk (st := sLAll) l25 q25 k25
  have b25 := F25.binds (ps := ["_law_letters_here", "_law_most"]) fun _ _ _ _ _ _ us hl => match us, hl with | [_, _], _ => rfl
  have A25 : Fn K mg "_law_all_words" sLAll ["_law_letters_here", "_law_most"] f25 _ := ⟨PySem.W.mg_of X G d25, F25, b25⟩
  have F26 := fun_mk (st := sLPieces) l26 q26 k26
  have b26 := F26.binds (ps := ["_law_letters_here", "_law_word_here", "_law_most"]) fun _ _ _ _ _ _ us hl => match us, hl with | [_, _, _], _ => rfl
  have A26 : Fn K mg "_law_pieces" sLPieces ["_law_letters_here", "_law_word_here", "_law_most"] f26 _ := ⟨PySem.W.mg_of X G d26, F26, b26⟩
  have F27 := fun_mk (st := sTold) l27 q27 k27
  have b27 := F27.binds (ps := ["_law_dice_here", "_law_letters_here", "_law_word_here"]) fun _ _ _ _ _ _ us hl => match us, hl with | [_, _, _], _ => rfl
  have A27 : Fn K mg "_law_told_right" sTold ["_law_dice_here", "_law_letters_here", "_law_word_here"] f27 _ := ⟨PySem.W.mg_of X G d27, F27, b27⟩
  have F28 := fun_mk (st := sPR) l28 q28 k28
  have b28 := F28.binds (ps := ["_law_dice_here", "_law_letters_here", "_law_word_here"]) fun _ _ _ _ _ _ us hl => match us, hl with | [_, _, _], _ => rfl
  have A28 : Fn K mg "_law_pieces_right" sPR ["_law_dice_here", "_law_letters_here", "_law_word_here"] f28 _ := ⟨PySem.W.mg_of X G d28, F28, b28⟩
  have F29 := fun_mk (st := sJR) l29 q29 k29
  have b29 := F29.binds (ps := ["_law_dice_here", "_law_letters_here"]) fun _ _ _ _ _ _ us hl => match us, hl with | [_, _], _ => rfl
  have A29 : Fn K mg "_law_judged_right" sJR ["_law_dice_here", "_law_letters_here"] f29 _ := ⟨PySem.W.mg_of X G d29, F29, b29⟩
  have F30 := fun_mk (st := sRight) l30 q30 k30
  have b30 := F30.binds (ps := ["_law_dice_here"]) fun _ _ _ _ _ _ us hl => match us, hl with | [_], _ => rfl
  have A30 : Fn K mg "_law_right" sRight ["_law_dice_here"] f30 _ := ⟨PySem.W.mg_of X G d30, F30, b30⟩
  have F31 := fun_mk (st := sLaw) l31 q31 k31
  refine ⟨PySem.W.fnOf "law" "law" (defArgs sLaw) (defBody sLaw) (defScope sLaw) .none kV31 dc31 pm31 an31 cd31 ct31, fun s v => .of_eq rfl, fun base _ _ => ?_⟩
  have G1 := ok_isnum (P := l.prog) (w := w) (base := base) F1 T A0
  have G2 := ok_neednum (P := l.prog) (w := w) (base := base) F2 T A0 A1
  have G3 := ok_asc (P := l.prog) (w := w) (mg := mg) (base := base) F3 T
  have G5 := ok_isword (P := l.prog) (w := w) (mg := mg) (base := base) F5 T
  have G4 := ok_islet (P := l.prog) (w := w) (base := base) F4 T A5 A3
  have G6 := ok_over (P := l.prog) (w := w) (mg := mg) (base := base) F6 T
  have G7 := ok_needlet F7 A4 G4
  have G8 := ok_needword F8 A5 G5
  have G9 := ok_needover F9 A6 G6
  have G10 := ok_allw F10 T A7 G7 A2 G2
  have G11 := ok_power F11 A8 G8 A2 G2
  have G12 := ok_counts F12 T A7 G7 A8 G8 A9 G9
  have G13 := ok_pieces F13 T A8 G8 A2 G2
  have G14 := ok_ispiece F14 A8 G8
  have G15 := ok_last F15 T A8 G8 A2 G2
  have G16 := ok_first F16 A8 G8 A2 G2
  have G17 := ok_dice (P := l.prog) (w := w) (mg := mg) (base := base) F17 T.dice
  have G20 := ok_mixed (P := l.prog) (w := w) (base := base) F20 T A18
  have G21 := ok_letters F21 T A20 G20
  have G22 := ok_word (P := l.prog) (w := w) (base := base) F22 T A18 A19
  have G23 := ok_lcounts (P := l.prog) (w := w) (mg := mg) (base := base) F23 T
  have G24 := ok_lisp (P := l.prog) (w := w) (mg := mg) (base := base) F24 T
  have G25 := ok_lall (P := l.prog) (w := w) (mg := mg) (base := base) F25 T
  have G26 := ok_lpieces F26 A25 G25 A24 G24
  have G27 := ok_told F27 T A18 A12 G12 A11 G11 A15 G15 A16 G16 A23 G23
  have G28 := ok_pr F28 T A18 A12 G12 A13 G13 A14 G14 A22 G22 A24 G24 A26 G26
  have G29 := ok_jr F29 T A5 G5 A4 G4
  have G30 := ok_right F30 T A18 A21 G21 A10 G10 A25 G25 A22 G22 A27 G27 A28 G28 A29 G29
  exact ok_law F31 T A17 G17 A30 G30 A13 G13 A12 G12 A15 G15 A16 G16
end WK
open PySem PySem.W PyProof.Rows
set_option maxRecDepth 100000 in
set_option maxHeartbeats 0 in
theorem PySem.Challenge.cw_watchkinds_k01_whole_words_and_their_pie_holds : PySem.Challenge.rw_watchkinds_k01_whole_words_and_their_pie.Holds := by
  w_on; o_law; k_head; (case hw => w_witness2)
  k_fill
  refine L2.walk_ofK (l := PySem.Challenge.rw_watchkinds_k01_whole_words_and_their_pie) (n := 63) (k := 9) (x := "_law_script") (CX := L2.CX0) (sp := WK.spLaw) rfl (by decide) rfl ⟨rfl, by decide, by decide⟩ (fun w h Y => PySem.W.kIn_of Y) ?F (fun K H a ns hl _ hS => ⟨a, ns, rfl, hS, hl, fun _ => rfl⟩) (fun _ _ _ _ z => z)
  case F =>
    intro w mg fa h KX G hmg
    refine' WK.all_mk KX G hmg ?d0 ?l0 ?q0 ?k0 ?d1 ?l1 ?q1 ?k1 ?d2 ?l2 ?q2 ?k2 ?d3 ?l3 ?q3 ?k3 ?d4 ?l4 ?q4 ?k4 ?d5 ?l5 ?q5 ?k5 ?d6 ?l6 ?q6 ?k6 ?d7 ?l7 ?q7 ?k7 ?d8 ?l8 ?q8 ?k8 ?d9 ?l9 ?q9 ?k9 ?d10 ?l10 ?q10 ?k10 ?d11 ?l11 ?q11 ?k11 ?d12 ?l12 ?q12 ?k12 ?d13 ?l13 ?q13 ?k13 ?d14 ?l14 ?q14 ?k14 ?d15 ?l15 ?q15 ?k15 ?d16 ?l16 ?q16 ?k16 ?d17 ?l17 ?q17 ?k17 ?d18 ?l18 ?q18 ?k18 ?d19 ?l19 ?q19 ?k19 ?d20 ?l20 ?q20 ?k20 ?d21 ?l21 ?q21 ?k21 ?d22 ?l22 ?q22 ?k22 ?d23 ?l23 ?q23 ?k23 ?d24 ?l24 ?q24 ?k24 ?d25 ?l25 ?q25 ?k25 ?d26 ?l26 ?q26 ?k26 ?d27 ?l27 ?q27 ?k27 ?d28 ?l28 ?q28 ?k28 ?d29 ?l29 ?q29 ?k29 ?d30 ?l30 ?q30 ?k30 ?d31 ?l31 ?q31 ?k31 ?aM ?z_len ?z_int ?z_abs ?z_isinstance ?z_bool ?z_str ?z_all ?z_range ?z_sorted ?z_set ?z_tuple ?z_list ?z_max ?z_min ?z_zip
    (case d0 => k_is)
    (case l0 => k_is)
    (case q0 => k_is)
    (case k0 => k_is)
    (case d1 => k_is)
    (case l1 => k_is)
    (case q1 => k_is)
    (case k1 => k_is)
    (case d2 => k_is)
    (case l2 => k_is)
    (case q2 => k_is)
    (case k2 => k_is)
    (case d3 => k_is)
    (case l3 => k_is)
    (case q3 => k_is)
    (case k3 => k_is)
    (case d4 => k_is)
    (case l4 => k_is)
    (case q4 => k_is)
    (case k4 => k_is)
    (case d5 => k_is)
    (case l5 => k_is)
    (case q5 => k_is)
    (case k5 => k_is)
    (case d6 => k_is)
    (case l6 => k_is)
    (case q6 => k_is)
    (case k6 => k_is)
    (case d7 => k_is)
    (case l7 => k_is)
    (case q7 => k_is)
    (case k7 => k_is)
    (case d8 => k_is)
    (case l8 => k_is)
    (case q8 => k_is)
    (case k8 => k_is)
    (case d9 => k_is)
    (case l9 => k_is)
    (case q9 => k_is)
    (case k9 => k_is)
    (case d10 => k_is)
    (case l10 => k_is)
    (case q10 => k_is)
    (case k10 => k_is)
    (case d11 => k_is)
    (case l11 => k_is)
    (case q11 => k_is)
    (case k11 => k_is)
    (case d12 => k_is)
    (case l12 => k_is)
    (case q12 => k_is)
    (case k12 => k_is)
    (case d13 => k_is)
    (case l13 => k_is)
    (case q13 => k_is)
    (case k13 => k_is)
    (case d14 => k_is)
    (case l14 => k_is)
    (case q14 => k_is)
    (case k14 => k_is)
    (case d15 => k_is)
    (case l15 => k_is)
    (case q15 => k_is)
    (case k15 => k_is)
    (case d16 => k_is)
    (case l16 => k_is)
    (case q16 => k_is)
    (case k16 => k_is)
    (case d17 => k_is)
    (case l17 => k_is)
    (case q17 => k_is)
    (case k17 => k_is)
    (case d18 => k_is)
    (case l18 => k_is)
    (case q18 => k_is)
    (case k18 => k_is)
    (case d19 => k_is)
    (case l19 => k_is)
    (case q19 => k_is)
    (case k19 => k_is)
    (case d20 => k_is)
    (case l20 => k_is)
    (case q20 => k_is)
    (case k20 => k_is)
    (case d21 => k_is)
    (case l21 => k_is)
    (case q21 => k_is)
    (case k21 => k_is)
    (case d22 => k_is)
    (case l22 => k_is)
    (case q22 => k_is)
    (case k22 => k_is)
    (case d23 => k_is)
    (case l23 => k_is)
    (case q23 => k_is)
    (case k23 => k_is)
    (case d24 => k_is)
    (case l24 => k_is)
    (case q24 => k_is)
    (case k24 => k_is)
    (case d25 => k_is)
    (case l25 => k_is)
    (case q25 => k_is)
    (case k25 => k_is)
    (case d26 => k_is)
    (case l26 => k_is)
    (case q26 => k_is)
    (case k26 => k_is)
    (case d27 => k_is)
    (case l27 => k_is)
    (case q27 => k_is)
    (case k27 => k_is)
    (case d28 => k_is)
    (case l28 => k_is)
    (case q28 => k_is)
    (case k28 => k_is)
    (case d29 => k_is)
    (case l29 => k_is)
    (case q29 => k_is)
    (case k29 => k_is)
    (case d30 => k_is)
    (case l30 => k_is)
    (case q30 => k_is)
    (case k30 => k_is)
    (case d31 => k_is)
    (case l31 => k_is)
    (case q31 => k_is)
    (case k31 => k_is)
    (case aM => k_is)
    (case z_len => k_is)
    (case z_int => k_is)
    (case z_abs => k_is)
    (case z_isinstance => k_is)
    (case z_bool => k_is)
    (case z_str => k_is)
    (case z_all => k_is)
    (case z_range => k_is)
    (case z_sorted => k_is)
    (case z_set => k_is)
    (case z_tuple => k_is)
    (case z_list => k_is)
    (case z_max => k_is)
    (case z_min => k_is)
    (case z_zip => k_is)
#print axioms PySem.Challenge.cw_watchkinds_k01_whole_words_and_their_pie_holds

