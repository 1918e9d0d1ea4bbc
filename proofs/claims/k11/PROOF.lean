import PyProof.Rows.All
import Wide.All
import OpenK.AllK
import Wide.FinOn
import HandS.Exc
import HandS.TryOnly
import HandS.Lambda
import HandS.ForMost
import HandS.Wide
import HandS.IsInst
import HandS.ExcInit
import HandS.Flow
import HandS.Codes
import HandS.ExcOwn
import HandS.Set
import HandS.Small
import HandS.DictEq
import KE.KExcIs
import KE.KExcInit
import PyProof.EqKinds
import HandS.WordsExc
import HandS.More
import HandS.Walk
import HandS.Style
import HandS.EndTab
import HandS.HeadHook3
import PySem.Challenge.RW_watchkinds_k11_sorts_and_their_order
set_option Elab.async false
set_option linter.all false
set_option maxRecDepth 100000
set_option maxHeartbeats 6000000
/-! A try with clauses of any number, told clause by clause; the last ones may be left untold. -/
namespace TRY
open PySem PySem.Spec PyProof.Rows L2
/-- an exception of class cls is caught in the frame of X: the state behind is J's, the flight stands at a -/
structure Caught (X : Cx) (pins : List (Addr × Obj)) (B : Heap) (a : Addr) (cls : Value) (d : Option Addr) (σ : L2.St) (H : Hp) (sI s : Shared) (h3 : Heap) : Prop where
  inv : Inv X pins σ H sI
  nb : ∀ b o, sI.heap.get? b = some o → b ∉ frs X.stack → B.get? b = some o
  fl : HandSPX.FlyingZ B (X.env :: X.outer) a (Zc cls d) h3
  up : sI.heap.UpToSlots h3
  na : H a = none
  os : s.os = sI.os
  bare : AllBare s.gens
/-- the clauses do what W wishes -/
def Does (X : Cx) (hds : List ExceptHandler) (W : Ends → WX) : Prop := ∀ (pins : List (Addr × Obj)) (D : Ends) (B : Heap) (a : Addr) (cls : Value) (d : Option Addr) (σ : L2.St) (H : Hp) (sI s : Shared) (h3 : Heap),
  Caught X pins B a cls d σ H sI s h3 → W D cls d σ H → wpAny (model X.prog X.w) X.A (handleBy (.ref a) X.env hds) (SP X pins D) X.xe { s with heap := h3 }
/-- none of them is ever asked -/
theorem does_stop {X : Cx} {hds : List ExceptHandler} : Does X hds (fun _ _ _ _ _ => False) := fun _ _ _ _ _ _ _ _ _ _ _ _ w => w.elim
/-- a clause's wish, and that of those behind it -/
def wCl (K : PySem.W.Frag) (c : Value) (ts : Addr → Value → Option Addr → TS) (W : Ends → WX) : Ends → WX := fun D cls d σ H =>
  ∃ b, PySem.W.exmOne K cls c = some b ∧ (b = true → ∀ a, H a = none → ts a cls d D σ H) ∧ (b = false → W D cls d σ H)
section
variable {X : Cx} {pins : List (Addr × Obj)} {B : Heap} {a : Addr} {cls : Value} {d : Option Addr} {σ : L2.St} {H : Hp} {sI s : Shared} {h3 : Heap}
theorem Caught.apart (k : Caught X pins B a cls d σ H sI s h3) (hs : X.stack = X.env :: X.outer) (hf : X.env.frame = some X.env.locals) : a ≠ X.env.locals ∧ a ∉ X.fs := by
  obtain ⟨oe, vs, e1, _, e2⟩ := k.fl.there
  have out : a ∉ frs (X.env :: X.outer) := fun m => by
    obtain ⟨_, o, e, n⟩ := k.fl.2.2.1.mem m
    obtain rfl : oe = o := Option.some.inj (e1.symm.trans e)
    exact n _ e2
  refine ⟨fun z => out (List.mem_filterMap.mpr ⟨X.env, .head _, by rw [hf, z]⟩), fun m => ?_⟩
  obtain ⟨e, m1, m2⟩ := List.mem_filterMap.mp m
  exact out (List.mem_filterMap.mpr ⟨e, .tail _ m1, m2⟩)
theorem Caught.here (k : Caught X pins B a cls d σ H sI s h3) : Inv X pins σ H { s with heap := h3 } := k.inv.landed k.nb k.fl.1 k.up k.os k.bare
theorem Caught.in (k : Caught X pins B a cls d σ H sI s h3) (hs : X.stack = X.env :: X.outer) (hf : X.env.frame = some X.env.locals) : ∃ oe, Zc cls d oe ∧ (∃ vs, oe.data = .fields vs) ∧ h3.get? a = some oe ∧ Inv (X.suite a ((a, oe) :: (X.pn ++ pins))) [] σ H { s with heap := h3 } := by
  obtain ⟨oe, vs, e1, z, e2⟩ := k.fl.there
  obtain ⟨n1, n2⟩ := k.apart hs hf
  exact ⟨oe, z, ⟨vs, e2⟩, e1, k.here.suite e1 e2 k.na n1 n2⟩
/-- landed once more -/
theorem Caught.again (k : Caught X pins B a cls d σ H sI s h3) {h4 : Heap} (fl : HandSPX.FlyingZ B (X.env :: X.outer) a (Zc cls d) h4) (up : h3.UpToSlots h4) : Caught X pins B a cls d σ H sI s h4 := ⟨k.inv, k.nb, fl, k.up.trans up, k.na, k.os, k.bare⟩
/-- the clause's test -/
theorem Caught.test (k : Caught X pins B a cls d σ H sI s h3) (hs : X.stack = X.env :: X.outer) (hf : X.env.frame = some X.env.locals) {x : Str} {c : Value} {np : Pos} (hc : Names X x c) {b : Bool} (hb : PySem.W.exmOne X.K cls c = some b) {Q : Bool → Shared → Prop} {E : Value → Shared → Prop} {A2 : Around}
    (q : Q b { s with heap := h3 }) : wpAny (model X.prog X.w) (X.A.mark (some (.ref a))) (eval (.Name x np) X.env) (fun v s' => wpAny (model X.prog X.w) A2 (excMatches (.ref a) v) Q E s') E { s with heap := h3 } := by
  obtain ⟨oe, z, ⟨vs, e2⟩, e1, S⟩ := k.in hs hf
  have ty : PySem.W.Looks (model X.prog X.w) h3 (typeOf (.ref a)) cls := fun A Q E s kp q => wpAny_typeOf_ref (kp _ _ e1) (by rw [z.1]; exact q)
  have mt := (PySem.W.exm_one (M := model X.prog X.w) k.here.kIn ty hb)
  obtain ⟨hg, hd, hm | ⟨hm, hv, hn⟩⟩ := hc
  · exact ld_glob (X := X.suite a ((a, oe) :: (X.pn ++ pins))) S hg hm (mt.here q) hd
  · exact ld_blt (X := X.suite a ((a, oe) :: (X.pn ++ pins))) S hg hm hv (mt.here q) hn hd
end
section
variable {X : Cx} {x n : Str} {c : Value} {i : Nat} {suite : List Stmt} {b₀ : Stmt} {np pos' : Pos} {rest : List ExceptHandler} {ts : Addr → Value → Option Addr → TS} {W : Ends → WX}
/-- what a suite's end gives, in the frame -/
theorem suite_end {a : Addr} {q : Addr × Obj} {pins pn' : List (Addr × Obj)} {D : Ends} {f : Flow} {s : Shared} (ok : X.Ok) (h : SP (X.suite a (q :: (X.pn ++ pins))) pn' D f s) : SP X pins D f s := by
  cases f with
  | ret u => exact let ⟨v, σ', H', S, r, z⟩ := h; ⟨v, σ', H', S.unsuite ok, r, z⟩
  | next => exact let ⟨σ', H', S, z⟩ := h; ⟨σ', H', S.unsuite ok, z⟩
  | brk => exact let ⟨σ', H', S, z⟩ := h; ⟨σ', H', S.unsuite ok, z⟩
  | cont => exact let ⟨σ', H', S, z⟩ := h; ⟨σ', H', S.unsuite ok, z⟩
/-- except x: suite -/
theorem does_cons (hs : X.stack = X.env :: X.outer) (hf : X.env.frame = some X.env.locals) (hc : Names X x c)
    (hsu : ∀ (a : Addr) (oe : Obj) (cls : Value) (d : Option Addr) (pn : List (Addr × Obj)), Zc cls d oe → (∃ vs, oe.data = .fields vs) → PSs (X.suite a ((a, oe) :: pn)) (b₀ :: suite) (ts a cls d)) (r : Does X rest W) :
    Does X (.ExceptHandler (some (.Name x np)) none (b₀ :: suite) pos' :: rest) (wCl X.K c ts W) := by
  intro pins D B a cls d σ H sI s h3 k ⟨b, hb, yes, no⟩
  refine wpAny_handleBy_cons (codeAny_handlers_test (k.test hs hf hc hb ?_)) (fun z => by cases z)
  cases b with
  | false => exact r pins D B a cls d σ H sI s h3 k (no rfl)
  | true =>
    refine codeAny_handlers_suite (HandSPX.lands_againZ k.fl fun h4 fl4 up4 => ?_)
    obtain ⟨oe, z, hv, _, S⟩ := (k.again fl4 up4).in hs hf
    exact wpAny_mono ((hsu a oe cls d (X.pn ++ pins) z hv).run [] _ _ H D S (yes rfl a k.na)) (fun f s6 q => suite_end k.inv.ok q) fun _ _ z => z.elim
/-- a clause with a name: the name holds the exception within, and nothing behind -/
def wClAs (K : PySem.W.Frag) (c : Value) (i : Nat) (ts : Addr → Value → Option Addr → TS) (W : Ends → WX) : Ends → WX := fun D cls d σ H =>
  ∃ b, PySem.W.exmOne K cls c = some b ∧ (b = true → ∀ a, H a = none → ts a cls d ⟨fun σ' H' => D.nx (σ'.set i none) H', D.rt, fun σ' H' => D.bk (σ'.set i none) H', fun σ' H' => D.ct (σ'.set i none) H'⟩ (σ.set i (some (.ref a))) H) ∧ (b = false → W D cls d σ H)
theorem does_as (hs : X.stack = X.env :: X.outer) (hf : X.env.frame = some X.env.locals) (hN : X.N.Nodup) (hi : X.N[i]? = some n) (hln : X.env.kindOf n = some .local) (hc : Names X x c)
    (hsu : ∀ (a : Addr) (oe : Obj) (cls : Value) (d : Option Addr) (pn : List (Addr × Obj)), Zc cls d oe → (∃ vs, oe.data = .fields vs) → PSs (X.suite a ((a, oe) :: pn)) (b₀ :: suite) (ts a cls d)) (r : Does X rest W) :
    Does X (.ExceptHandler (some (.Name x np)) (some n) (b₀ :: suite) pos' :: rest) (wClAs X.K c i ts W) := by
  intro pins D B a cls d σ H sI s h3 k ⟨b, hb, yes, no⟩
  refine wpAny_handleBy_cons (codeAny_handlers_test (k.test hs hf hc hb ?_)) (fun z => by cases z)
  cases b with
  | false => exact r pins D B a cls d σ H sI s h3 k (no rfl)
  | true =>
    refine codeAny_handlers_suite_as (HandSPX.lands_againZ k.fl fun h4 fl4 up4 => ?_)
    obtain ⟨oe, z, hv, _, S⟩ := (k.again fl4 up4).in hs hf
    refine store_ok (X := X.suite a ((a, oe) :: (X.pn ++ pins))) (v := .ref a) S hN hi (.inl hln) rfl (fun s5 S5 => ?_) (.inr hln)
    refine wpAny_mono ((hsu a oe cls d (X.pn ++ pins) z hv).run [] s5 _ H _ S5 (yes rfl a k.na)) (fun f s6 q => ?_) fun _ _ z => z.elim
    have q' := suite_end (X := X) k.inv.ok q
    cases f with
    | ret u => exact let ⟨v, σ', H', J, e, q⟩ := q'; gone_ok J hN hi hln fun s7 J7 => ⟨v, _, H', J7, e, q⟩
    | next => exact let ⟨σ', H', J, q⟩ := q'; gone_ok J hN hi hln fun s7 J7 => ⟨_, H', J7, q⟩
    | brk => exact let ⟨σ', H', J, q⟩ := q'; gone_ok J hN hi hln fun s7 J7 => ⟨_, H', J7, q⟩
    | cont => exact let ⟨σ', H', J, q⟩ := q'; gone_ok J hN hi hln fun s7 J7 => ⟨_, H', J7, q⟩
end
section
variable {X : Cx} {body : List Stmt} {h₀ : ExceptHandler} {hds : List ExceptHandler} {pos : Pos} {tb : WX → TS} {W : Ends → WX}
theorem ps_try_by (hs : X.stack = X.env :: X.outer) (hf : X.env.frame = some X.env.locals)
    (hb : ∀ (W : WX) (pn : List (Addr × Obj)) (xe : Value → Shared → Prop), Takes (X.tr pn xe) W → PassesOwn (model X.prog X.w) X.A X.env xe → PSs (X.tr pn xe) body (tb W))
    (dz : Does X (h₀ :: hds) W) : PS X (.Try body (h₀ :: hds) [] [] pos) (fun D σ H => tb (W D) D σ H) := by
  refine ⟨fun pins s σ H D I h => wpAny_Try_except (wpAny_mono ((hb (W D) (X.pn ++ pins) _ (fun u s1 xx => ?_) PassesOwn.looking).run [] s σ H D (I.toTry _) h) (fun f s1 q => ?_) fun e s1 he => he)⟩
  · obtain ⟨a, B, sI, pins', σ', H', cls, d, rfl, J, nb, up, sky, na, os, ag, w⟩ := xx
    have J1 : Inv X pins σ' H' sI := J.ofTry I.ok
    show wpAny _ X.A (noteFrame (.ref a) X.env) _ _ _
    refine Sky.land Zc.steady (by rw [I.ok.frames, hs]) hf (by rw [← hs]; exact sky) fun h3 fl3 up3 => ?_
    exact dz pins D B a cls d σ' H' sI s1 h3 ⟨J1, nb, fl3, up.trans up3, na, os, ag⟩ w
  · have leave : ∀ {xe : Value → Shared → Prop} {σ' : L2.St} {H' : Hp}, Inv (X.tr (X.pn ++ pins) xe) [] σ' H' s1 → Inv X pins σ' H' s1 := fun J => J.ofTry I.ok
    cases f with
    | ret u => exact let ⟨v, σ', H', J, r, z⟩ := q; ⟨v, σ', H', leave J, r, z⟩
    | next => exact let ⟨σ', H', J, z⟩ := q; wpAny_execs_nil ⟨σ', H', leave J, z⟩
    | brk => exact let ⟨σ', H', J, z⟩ := q; ⟨σ', H', leave J, z⟩
    | cont => exact let ⟨σ', H', J, z⟩ := q; ⟨σ', H', leave J, z⟩
end
end TRY

set_option Elab.async false
set_option linter.all false
set_option maxRecDepth 100000
set_option maxHeartbeats 6000000
/-! A lambda with one parameter that has a whole number as its default, handed to a def that calls it without arguments. -/
namespace LAMD
open PySem PySem.Spec L2 LamX PyProof.Rows
/-- what such a lambda is: its default stands in a tuple at T -/
abbrev lfn (q : Str) (params : Arguments) (body : Expr) (scope : Scope) (cl : List (Str × Addr)) (T : Addr) (pm cdv ctv : Value) : FuncData :=
  { PySem.W.kla_fn "<lambda>" q params body scope cl pm cdv ctv with defaults := .ref T }
abbrev fObj (fd : FuncData) : Obj := { cls := .type "function", data := .func fd }
abbrev tupO (v : Value) : Obj := { cls := .type "tuple", data := .seq #[v] }
section
variable {s : Shared} {M : Model} {E : Value → Shared → Prop} {A : Around}
theorem clo_then {α : Type} {l : List Value} {e : Bool} {k : Value → Sem α} {Q : α → Shared → Prop}
    (h : ∀ (v : Value) (h1 : Heap), (∀ b o, s.heap.get? b = some o → h1.get? b = some o) → s.heap.objs.size ≤ h1.objs.size → wpAny M A (k v) Q E { s with heap := h1 }) :
    wpAny M A (if e = true then (pure Value.none : Sem Value) >>= k else newTextTuple l >>= k) Q E s := by
  cases e with
  | true => exact wpAny_bind (wpAny_pure (h _ s.heap (fun _ _ q => q) (Nat.le_refl _)))
  | false => exact wpAny_bind (wpAny_newTextTuple (h _ _ (fun _ _ q => Heap.get?_push_of_some _ q) (by rw [Heap.size_push]; omega)))
variable {params : Arguments} {body : Expr} {scope : Scope} {env : Env} {c P : Addr} {ps : Array Value} {pos : Pos} {n : Nat} {mg : Str → Option Value} {clos : List (Str × Addr)} {name qual : Str} {T : Addr} {Q : Value → Shared → Prop}
theorem tail_new (hcl : closureFor scope env = pure clos) (hge : env.globals = mainGlobals) (hg : s.heap.Ns mainGlobals mg) (hcode : env.code = .ref c) (C : PySem.W.CodeHd s.heap c P) (hP : s.heap.get? P = some (PySem.W.tabObj ps)) (ht : TriplesOk ps.toList)
    (hgP : mainGlobals ≠ P) (hb : s.heap.BuiltinsAt mg P) (hnf : codeAmong pos ps.toList = none)
    (h : ∀ (c' : Addr) (ctv : Value) (h' : Heap) (tk : Nat), Heap.ExtBut P s.heap h' → s.heap.objs.size ≤ c' → c' < h'.objs.size → h'.CodeRec (.ref c') qual → h'.get? P = some (PySem.W.tabObj (ps ++ #[rawInt pos.line, rawInt pos.col, .ref c'])) →
      Q (.ref h'.objs.size) { s with heap := h'.push (fObj { PySem.W.kla_fn name qual params body scope clos ((mg "__name__").getD .none) (.ref c') ctv with defaults := .ref T }), toks := tk }) :
    wpAny M A (makeTail name qual params (.expr body) scope env (.ref T) .none none pos n) Q E s := by
  obtain ⟨bm, ob, g1, g2, _, g3, g4, g5, g6, g7⟩ := hb
  unfold makeTail
  rw [hcl, hge]
  refine wpAny_bind (wpAny_pure (clo_then fun ctv h1 kp sz => ?_))
  refine wpAny_bind (wpAny_functionCodeX hcode ((C.keeps kp).code (kp _ _ hP) ht) ((C.keeps kp).tab (kp _ _ hP)) hnf fun c' h' tk hx hc hlt _ hrec htb _ => ?_)
  have hg' := (hg.keeps kp).extBut hx hgP
  refine wpAny_bind (wpAny_builtinsFor hg' g1 g2 (hx _ _ g3 (kp _ _ g4)) g5 g6 g7 (wpAny_bind (wpAny_nsGet hg' (wpAny_bind (wpAny_pure ?_)))))
  exact wpAny_newObj_type (h c' ctv h' tk (fun b o ne e => hx b o ne (kp _ _ e)) (Nat.le_trans sz hc) hlt hrec htb.2) (by size_fits)
theorem tail_hit {cv : Value} (hcl : closureFor scope env = pure clos) (hge : env.globals = mainGlobals) (hg : s.heap.Ns mainGlobals mg) (hcode : env.code = .ref c) (C : PySem.W.CodeHd s.heap c P) (hP : s.heap.get? P = some (PySem.W.tabObj ps)) (ht : TriplesOk ps.toList)
    (hb : s.heap.BuiltinsAt mg P) (hf : codeAmong pos ps.toList = some cv)
    (h : ∀ (ctv : Value) (h' : Heap), (∀ b o, s.heap.get? b = some o → h'.get? b = some o) → s.heap.objs.size ≤ h'.objs.size →
      Q (.ref h'.objs.size) { s with heap := h'.push (fObj { PySem.W.kla_fn name qual params body scope clos ((mg "__name__").getD .none) cv ctv with defaults := .ref T }) }) :
    wpAny M A (makeTail name qual params (.expr body) scope env (.ref T) .none none pos n) Q E s := by
  obtain ⟨bm, ob, g1, g2, _, g3, g4, g5, g6, g7⟩ := hb
  unfold makeTail
  rw [hcl, hge]
  refine wpAny_bind (wpAny_pure (clo_then fun ctv h1 kp sz => ?_))
  refine wpAny_bind (wpAny_functionCode_hit hcode ((C.keeps kp).code (kp _ _ hP) ht) hf ?_)
  refine wpAny_bind (wpAny_builtinsFor (hg.keeps kp) g1 g2 (kp _ _ g4) g5 g6 g7 (wpAny_bind (wpAny_nsGet (hg.keeps kp) (wpAny_bind (wpAny_pure ?_)))))
  exact wpAny_newObj_type (h ctv h1 kp sz) (by size_fits)
/-- the default is reckoned, a tuple holds it, the function is made -/
theorem lam_eval {de : Expr} (hdef : defaultsOf params env = ([eval de env], []))
    (h : wpAny M A (eval de env) (fun v s1 => wpAny M A (makeTail "<lambda>" (env.qual ++ "<lambda>") params (.expr body) scope env (.ref s1.heap.objs.size) .none none pos pos.line) Q E { s1 with heap := s1.heap.push (tupO v) }) E s) : wpAny M A (eval (.Lambda params body scope pos) env) Q E s := by
  rw [arm_eval_Lambda, hdef]
  show wpAny M A (do let dv ← evalAll [eval de env]; let kdv ← holding dv (evalAllOpt []); makeFunction "<lambda>" (env.qual ++ "<lambda>") params (.expr body) scope env dv kdv [] pos pos.line) Q E s
  refine wpAny_bind ?_
  show wpAny M A (do let v ← eval de env; let r ← holding [v] (pure []); pure (v :: r)) _ E s
  refine wpAny_bind (wpAny_mono h (fun v s1 h1 => ?_) fun _ _ z => z)
  refine wpAny_bind (wpAny_holding (wpAny_pure (wpAny_pure (wpAny_bind (wpAny_holding (wpAny_pure ?_))))))
  rw [makeFunction_eq]
  simp only [List.zip_nil_right, List.filterMap_nil, List.isEmpty_nil, List.isEmpty_cons, if_true, pure_bind, Bool.false_eq_true, if_false]
  exact wpAny_bind (wpAny_newTextTuple h1)
end
section
variable {X : Cx} {σ : L2.St} {H : Hp} {s : Shared} {pins : List (Addr × Obj)}
/-- what stands behind the making: the function at f, its code object at c', its default at T -/
structure Made (X : Cx) (pins : List (Addr × Obj)) (σ : L2.St) (H H1 : Hp) (s' : Shared) (params : Arguments) (body : Expr) (scope : Scope) (v : Value) (f c' T : Addr) (pm ctv : Value) : Prop where
  inv : Inv X pins σ H1 s'
  ext : ExtN H H1
  fn : s'.heap.get? f = some (fObj (lfn (X.env.qual ++ "<lambda>") params body scope (cloFrom X.env.cells scope.names []) T pm (.ref c') ctv))
  tup : s'.heap.get? T = some (tupO v)
  nf : H1 f = none
  nT : H1 T = none
  ff : f ∉ frs X.stack
  fT : T ∉ frs X.stack
  code : H1 c' = some (CodeO c' (X.env.qual ++ "<lambda>"))
theorem not_fr (I : Inv X pins σ H s) {b : Addr} (h : s.heap.objs.size ≤ b) : b ∉ frs X.stack := fun z =>
  (List.mem_cons.mp (I.stkSub _ z)).elim (fun e => absurd I.lt (Nat.not_lt.mpr (e ▸ h))) (I.nofs h)
theorem lam_made {Ts : List (Addr × Str)} {c P : Addr} {params : Arguments} {body de : Expr} {scope : Scope} {pos : Pos} {E : Value → Shared → Prop} {Q : Value → Shared → Prop} {n : Int} {td : TE} (I : Inv X pins σ H s) (TB : TabB X.base X.mg c P) (hcode : X.env.code = .ref c)
    (hm : (P, X.env.qual ++ "<lambda>") ∈ Ts) (hu : ∀ p ∈ Ts, p.1 = P → p.2 = X.env.qual ++ "<lambda>") (hT : Tabs Ts H) (hdef : defaultsOf params X.env = ([eval de X.env], [])) (hde : PE X de td) (htd : ∀ σ H Q, Q (.int n) H → td σ H Q)
    (hfree : ∀ y ∈ scope.names, y.2 = .free → ∃ c, X.env.cells.lookup y.1 = some c)
    (h : ∀ (t : Tok) (f c' T : Addr) (pm ctv : Value) (H1 : Hp) (s' : Shared), Made X pins σ H H1 s' params body scope (.int n t) f c' T pm ctv → Tabs Ts H1 → Q (.ref f) s') (hE : E = X.xe) : wpAny (model X.prog X.w) X.A (eval (.Lambda params body scope pos) X.env) Q E s := by
  subst hE
  refine lam_eval hdef (thn (hde.run pins s σ H (fun v H' => v = .int n ∧ H' = H) I (htd _ _ _ ⟨rfl, rfl⟩)) fun u s1 ⟨v, H', I1, r, ev, eH⟩ => ?_)
  subst ev
  subst eH
  obtain ⟨t, rfl⟩ := (show ∃ t, u = Value.int n t from r)
  have I2 : Inv X pins σ H' { s1 with heap := s1.heap.push (tupO (.int n t)) } := I1.kept (t' := s1.toks) fun b o e => Heap.get?_push_of_some _ e
  have eT : (s1.heap.push (tupO (.int n t))).get? s1.heap.objs.size = some (tupO (.int n t)) := Heap.get?_push_size _ rfl
  have sz : (s1.heap.push (tupO (.int n t))).objs.size = s1.heap.objs.size + 1 := Heap.size_push ..
  obtain ⟨ps, hP, ht, known⟩ := hT _ hm
  have bP : Heap.BuiltinsAt (s1.heap.push (tupO (.int n t))) X.mg P := TB.bm.keeps I2.bk
  have hP' : (s1.heap.push (tupO (.int n t))).get? P = some (PySem.W.tabObj ps) := I2.hok P _ hP
  have ltT : ∀ {b : Addr} {h' : Heap}, (s1.heap.push (tupO (.int n t))).objs.size ≤ b → s1.heap.objs.size ≠ b := fun {b h'} hb => by omega
  have nT0 : H' s1.heap.objs.size = none := I1.hok.fresh (Nat.le_refl _)
  cases old : codeAmong pos ps.toList with
  | none =>
    refine tail_new (mg := X.mg) (c := c) (P := P) (closure_ok hfree) I2.ok.glob (I2.mod.glob.keeps I2.bk) hcode (TB.code.keeps I2.bk) hP' ht TB.gP bP old fun c' ctv h' tk hx hge hlt hrec htb => ?_
    obtain ⟨c2, oc, vs, t2, e2, k1, k2, k3⟩ := hrec
    cases e2
    have nC : H' c' = none := I2.hok.fresh hge
    have nTc : s1.heap.objs.size ≠ c' := ltT (h' := h') hge
    have ne : ∀ {b : Addr} {o : HO}, H' b = some o → b ≠ c' := fun e => ne_of_none e nC
    have nPT : s1.heap.objs.size ≠ P := fun z => by rw [z, hP] at nT0; cases nT0
    have J := inv_table (t' := tk) (more := #[rawInt pos.line, rawInt pos.col, .ref c']) (h' := h'.push (fObj (lfn (X.env.qual ++ "<lambda>") params body scope (cloFrom X.env.cells scope.names []) s1.heap.objs.size ((X.mg "__name__").getD .none) (.ref c') ctv))) I2 hP
      (fun b o hb e => Heap.get?_push_of_some _ (hx b o hb e)) (Heap.get?_push_of_some _ htb) hge ⟨oc, vs, t2, Heap.get?_push_of_some _ k1, k2, k3⟩
    have nm : ∀ {b o}, H' b = some o → (∀ q, o ≠ HO.tbl q) → b ≠ P := fun e z q => by
      rw [q, hP] at e
      exact z ps (Option.some.inj e).symm
    have X1 : ExtN H' (upd (upd H' P (.tbl (ps ++ #[rawInt pos.line, rawInt pos.col, .ref c']))) c' (CodeO c' (X.env.qual ++ "<lambda>"))) := fun b o e z => by
      rw [upd_ne (ne e), upd_ne (nm e z)]
      exact e
    have hsz : (s1.heap.push (tupO (.int n t))).objs.size ≤ h'.objs.size := Nat.le_trans hge (Nat.le_of_lt hlt)
    have nfc : h'.objs.size ≠ c' := Nat.ne_of_gt hlt
    have nfP : h'.objs.size ≠ P := fun z => by
      have l : P < h'.objs.size := Nat.lt_of_lt_of_le (Heap.lt_size hP') hsz
      rw [z] at l
      exact Nat.lt_irrefl _ l
    refine h t h'.objs.size c' s1.heap.objs.size ((X.mg "__name__").getD .none) ctv _ _ ⟨J, X1, Heap.get?_push_size _ rfl, Heap.get?_push_of_some _ (hx _ _ nPT eT), ?_, ?_, not_fr I2 hsz, not_fr I1 (Nat.le_refl _), upd_same⟩ fun p hp => ?_
    · rw [upd_ne nfc, upd_ne nfP]
      exact I2.hok.fresh hsz
    · rw [upd_ne nTc, upd_ne nPT]
      exact nT0
    · by_cases hb : p.1 = P
      · refine ⟨ps ++ #[rawInt pos.line, rawInt pos.col, .ref c'], ?_, ?_, fun p' cv hcv => ?_⟩
        · rw [hb, upd_ne (ne_of_none hP nC), upd_same]
        · rw [Array.toList_append]
          exact PySem.TriplesOk_snoc _ _ _ _ ht
        · rw [Array.toList_append] at hcv
          rw [hu p hp hb]
          exact (among_app _ ht hcv).elim (fun z => let ⟨c0, q1, q2⟩ := known p' cv z; ⟨c0, q1, X1 _ _ q2 codeO_ne⟩) fun z => ⟨c', z, upd_same⟩
      · obtain ⟨qs, a1, a2, a3⟩ := hT p hp
        refine ⟨qs, by rw [upd_ne (ne a1), upd_ne hb]; exact a1, a2, fun p' cv hcv => ?_⟩
        obtain ⟨c0, q1, q2⟩ := a3 p' cv hcv
        exact ⟨c0, q1, X1 _ _ q2 codeO_ne⟩
  | some cv =>
    obtain ⟨c', rfl, hco⟩ := known pos cv old
    refine tail_hit (mg := X.mg) (c := c) (P := P) (closure_ok hfree) I2.ok.glob (I2.mod.glob.keeps I2.bk) hcode (TB.code.keeps I2.bk) hP' ht bP old fun ctv h' hx hsz => ?_
    have J : Inv X pins σ H' { s1 with heap := h'.push (fObj (lfn (X.env.qual ++ "<lambda>") params body scope (cloFrom X.env.cells scope.names []) s1.heap.objs.size ((X.mg "__name__").getD .none) (.ref c') ctv)) } := I2.kept (t' := s1.toks) fun b o e => Heap.get?_push_of_some _ (hx b o e)
    exact h t h'.objs.size c' s1.heap.objs.size ((X.mg "__name__").getD .none) ctv H' _ ⟨J, ExtN.refl H', Heap.get?_push_size _ rfl, Heap.get?_push_of_some _ (hx _ _ eT), I2.hok.fresh hsz, nT0, not_fr I2 hsz, not_fr I1 (Nat.le_refl _), hco⟩ hT
end
/-- its names: the parameter p, captured ones and globals -/
structure LamP (sc sl : Scope) (p : Str) : Prop where
  kind : sl.kind = .function
  plain : sl.isCoroutine = false ∧ sl.isGenerator = false
  par : sl.names.lookup p = some .local
  own : ∀ y ∈ sl.names, (y.2 = .local → y.1 = p) ∧ y.2 ≠ .cell
  taken : ∀ y : Str, (y, NameKind.free) ∈ sl.names → (sc.names.lookup y = some .cell ∨ sc.names.lookup y = some .free)
def lamPB (sc scope : Scope) (p : Str) : Bool :=
  decide (scope.kind = .function) && (!scope.isCoroutine && (!scope.isGenerator && (decide (scope.names.lookup p = some .local) && scope.names.all fun y =>
    (!decide (y.2 = .local) || decide (y.1 = p)) && (!decide (y.2 = .cell) && (!decide (y.2 = .free) || (decide (sc.names.lookup y.1 = some .cell) || decide (sc.names.lookup y.1 = some .free)))))))
theorem lamP_by {sc scope : Scope} {p : Str} (h : lamPB sc scope p = true) : LamP sc scope p := by
  simp only [lamPB, Bool.and_eq_true, Bool.or_eq_true, Bool.not_eq_true', decide_eq_true_eq, decide_eq_false_iff_not, List.all_eq_true] at h
  obtain ⟨h1, h2, h3, h4, h5⟩ := h
  exact ⟨h1, ⟨h2, h3⟩, h4, fun y hy => ⟨fun e => (h5 y hy).1.resolve_left fun z => z e, (h5 y hy).2.1⟩, fun y hy => (h5 (y, .free) hy).2.2.resolve_left fun z => z rfl⟩
/-- the cells that it carries on -/
abbrev Seen (X : Cx) (sl : Scope) : List (Str × Addr) := cloFrom X.env.cells sl.names []
section
variable {X : Cx} {sl : Scope} {p y : Str} {c : Addr} {H HZ : Hp} {σ : L2.St} {s sZ : Shared} {pins : List (Addr × Obj)} {hZ : Heap}
theorem LamP.has (L : LamP X.env.scope sl p) (ok : X.Ok) : ∀ y ∈ sl.names, y.2 = .free → ∃ c, X.env.cells.lookup y.1 = some c
  | (y, _), m, rfl => ok.has y (L.taken y m)
theorem LamP.maker (L : LamP X.env.scope sl p) (ok : X.Ok) (e : (Seen X sl).lookup y = some c) : X.env.cells.lookup y = some c := by
  obtain ⟨m1, m2⟩ := (cloFrom_mem (PySem.mem_of_lookup e)).resolve_left List.not_mem_nil
  obtain ⟨d, e1⟩ := ok.has y (L.taken y m1)
  rw [m2, e1] <;> rfl
theorem seen_has (h : sl.names.lookup y = some .free) : ∃ c, (Seen X sl).lookup y = some c := mem_lookup (cloFrom_has (PySem.mem_of_lookup h))
theorem LamP.noCell {sc : Scope} (L : LamP sc sl p) : sl.names.lookup y ≠ some .cell := fun z => absurd rfl (L.own (y, .cell) (PySem.mem_of_lookup z)).2
theorem cell_stays {v : Option Value} (un : Un (frs X.stack) [] H HZ s.heap sZ.heap) (kp : ∀ b o, sZ.heap.get? b = some o → hZ.get? b = some o) (n : H c = none) : s.heap.IsCell c v → hZ.IsCell c v
  | ⟨_, at_, is⟩ => let ⟨_, q⟩ := un.any at_ n List.not_mem_nil; ⟨_, kp _ _ q, is⟩
/-- a captured name's value is the maker's -/
theorem LamP.read (L : LamP X.env.scope sl p) (I : Inv X pins σ H s) (un : Un (frs X.stack) [] H HZ s.heap sZ.heap) (kp : ∀ b o, sZ.heap.get? b = some o → hZ.get? b = some o) {i : Nat} {v : V} (hi : X.N[i]? = some y) (hv : σ[i]? = some (some v))
    (hf : sl.names.lookup y = some .free) : ∃ u, RelV v u ∧ ∃ c, (Seen X sl).lookup y = some c ∧ hZ.IsCell c (some u) := by
  have mine := L.taken y (PySem.mem_of_lookup hf)
  obtain ⟨m, _, told⟩ := I.loc
  obtain ⟨u, r, z⟩ := told i y v hi hv (.inr mine)
  obtain ⟨c, e⟩ := seen_has (X := X) hf
  refine ⟨u, r, c, e, ?_⟩
  obtain ⟨_, d, e2, is⟩ := z.resolve_left fun z => mine.elim (fun k => nomatch (show some NameKind.cell = some NameKind.local from k.symm.trans z.1)) fun k => nomatch (show some NameKind.free = some NameKind.local from k.symm.trans z.1)
  obtain rfl : d = c := Option.some.inj (e2.symm.trans (L.maker I.ok e))
  exact cell_stays un kp (I.freeC y d e2) is
/-- its body begins -/
theorem lam_in {A : Around} {outer : List Env} {E : XK} {f c' : Addr} {tk : Nat} {u : Value} (I : Inv X pins σ H s) (L : LamP X.env.scope sl p) (hp : ∀ (i : Nat) (v : V), X.N[i]? = some p → σ[i]? ≠ some (some v)) (e0 : Env0 X.prog X.w X.K X.mg X.base A outer sZ HZ) (hd : A.handled = none)
    (un : Un (frs X.stack) [] H HZ s.heap sZ.heap) (hns : hZ.Ns sZ.heap.objs.size fun y => ([(p, u)] : List (Str × Value)).reverse.lookup y) (kp : ∀ b o, sZ.heap.get? b = some o → hZ.get? b = some o) : Inv (lamCx X A outer sZ HZ E sl f c') [] σ HZ { sZ with heap := hZ, toks := tk } where
  ok :=
    { mod := e0.mod, kind := L.kind, glob := rfl, blt := rfl, above := Nat.le_refl _
      inj := fun x y c a b => I.ok.inj x y c (L.maker I.ok a) (L.maker I.ok b)
      has := fun y hy => seen_has (X := X) (Or.resolve_left (show sl.names.lookup y = some .cell ∨ sl.names.lookup y = some .free from hy) L.noCell)
      cab := fun _ _ z _ => nomatch (show false = true from z)
      hd := fun _ => hd, frames := Around.frames_deeper e0.frames, stk := .inr ⟨rfl, rfl⟩
      exf := fun b z => (List.not_mem_nil (show b ∈ ([] : List Addr) from z)).elim
      bs := e0.bs, bsz := e0.bsz
      noex := fun b _ _ z => List.not_mem_nil (show b ∈ ([] : List Addr) from z)
      exfs := fun b z => (List.not_mem_nil (show b ∈ ([] : List Addr) from z)).elim
      funs := e0.funs, frf := e0.frf }
  os := rfl
  bare := e0.bare
  base := Un.kept kp
  loc := ⟨_, hns, fun i y v hi hv vis => by
    rcases (show Vis sl y from vis) with k | k | k
    · obtain rfl : y = p := (L.own (y, .local) (PySem.mem_of_lookup k)).1 rfl
      exact absurd hv (hp i v hi)
    · exact absurd k L.noCell
    · obtain ⟨u, r, z⟩ := L.read I un kp hi hv k
      exact ⟨u, r, .inr ⟨.inr k, z⟩⟩⟩
  cell := fun y c e => let ⟨v, z⟩ := I.cell y c (L.maker I.ok e); ⟨v, cell_stays un kp (I.freeC y c (L.maker I.ok e)) z⟩
  free := e0.hok.fresh (Nat.le_refl _)
  freeC := fun y c e => let ⟨_, o, at_, _⟩ := I.cell y c (L.maker I.ok e); un.free c o at_ (I.freeC y c (L.maker I.ok e)) List.not_mem_nil
  pin := fun q z => (List.not_mem_nil (show q ∈ ([] : List (Addr × Obj)) from z)).elim
  hok := e0.hok.kept kp
  len := I.len
/-- the def that got it: its frame, where it stands, its context -/
abbrev gotF (qg : Str) (sg : Scope) (g : Addr) (cdg : Value) (s : Shared) : Env := envOfC qg sg s.heap.objs.size g cdg
abbrev gotA (X : Cx) (qg : Str) (sg : Scope) (g : Addr) (cdg : Value) (s : Shared) : Around := X.A.deeper (gotF qg sg g cdg s)
abbrev gotX (X : Cx) (CXg : CXT) (Ng : List Str) (qg : Str) (sg : Scope) (g : Addr) (cdg : Value) (s : Shared) (H : Hp) (Eg : XK) : Cx := cxOf CXg X.prog X.w X.K X.mg X.base Ng qg sg g cdg X.A X.stack s H Eg
/-- it calls what it got: x() -/
theorem pe_actD {CXg : CXT} {Eg E : XK} {Ng : List Str} {qg a : Str} {sg : Scope} {g f c' T : Addr} {cdg pm ctv v : Value} {params : Arguments} {body : Expr} {k i : Nat} {pn : List (Addr × Obj)} {xe : Value → Shared → Prop} {W : WX} {tb : TE} {p1 p2 : Pos} {Hm : Hp}
    (B : Made X pins σ Hm H s params body sl v f c' T pm ctv) (L : LamP X.env.scope sl p) (hp : ∀ (i : Nat) (v : V), X.N[i]? = some p → σ[i]? ≠ some (some v))
    (hbind : ∀ (q : Str) (cl : List (Str × Addr)) (T : Addr) (pm cv ctv : Value), ∃ k, bindArgs (lfn q params body sl cl T pm cv ctv) ⟨[], []⟩ = seqItems? (.ref T) >>= k ∧ k (some #[v]) = pure [(p, v)])
    (tk : Takes ((gotX X CXg Ng qg sg g cdg s H Eg).tr pn xe) W) (hW : ∀ cls d σ' H', E cls d H' → W cls d σ' H') (hr : Room (k + 1) (gotA X qg sg g cdg s))
    (hbody : ∀ (A : Around) (outer : List Env) (s : Shared) (H : Hp), Room k (A.deeper (lamEnv X sl s.heap.objs.size f c')) → PE (lamCx X A outer s H E sl f c') body tb)
    (hN : Ng[i]? = some a) (hv : Vis sg a) (hd : (a == ("__debug__" : Str)) = false) (hcd : (a == ("__classdict__" : Str)) = false) :
    PE ((gotX X CXg Ng qg sg g cdg s H Eg).tr pn xe) (.Call (.Name a p1) [] [] p2) (fun σZ HZ Q => σZ[i]? = some (some (.ref f)) ∧ HZ c' = some (CodeO c' (X.env.qual ++ "<lambda>")) ∧ tb σ HZ Q) := by
  refine ⟨fun pZ s0 σZ HZ Q IZ ⟨at_, code, told⟩ => ?_⟩
  have rd := (pe_var (pos := p1) hN hv hd hcd).run pZ s0 σZ HZ (fun v G => v = .ref f ∧ G = HZ) IZ ⟨_, at_, rfl, rfl⟩
  refine wpAny_Call_Name_kw (thn rd fun u s1 ⟨_, G, I1, r1, e1, e2⟩ => ?_)
  subst e1
  subst e2
  cases (show u = Value.ref f from r1)
  have tT := I1.base.keep T _ B.tup B.nT B.fT List.not_mem_nil
  have hf := I1.base.keep f _ B.fn B.nf B.ff List.not_mem_nil
  obtain ⟨oc, vs, t, o1, o2, o3⟩ := (I1.hok c' _ code).1
  obtain ⟨kb, b1, b2⟩ := hbind (X.env.qual ++ "<lambda>") (Seen X sl) T pm (.ref c') ctv
  have run : codeAny (model X.prog X.w) (gotA X qg sg g cdg s) (.call (.ref f) ⟨[], []⟩) (CR (L2.CX X.prog X.w) (gotF qg sg g cdg s :: X.stack) X.prog X.w G s1 Q E) s1 := by
    refine PySem.W.kla_callFunE hr.depth hf rfl L.plain.1 L.plain.2 rfl ⟨c', oc, vs, t, rfl, o1, o2, o3⟩ ?_
    rw [b1]
    refine wpAny_bind (wpAny_seqItems tT rfl ?_)
    rw [b2]
    refine wpAny_pure (wpAny_newFunctionEnv (fun y hy => (L.own y hy).2) (fun y hy => List.mem_singleton.mp hy ▸ L.par) (fun hZ hns hsb => ⟨I1.nolimit.fresh _ hsb, ?_⟩) L.kind)
    refine PySem.W.kla_codeExpr (wpAny_mono ((hbody _ _ s1 G (hr.deeper _)).run [] _ σ G Q (lam_in B.inv L hp I1.env0 hr.hd I1.base hns fun b o e => hsb.extBut b o (Nat.ne_of_lt (Heap.lt_size e)) (Heap.get?_push_of_some _ e)) told) (fun _ _ z => ?_) fun _ _ z => z)
    exact let ⟨w', H', J, rv, q⟩ := z; ⟨w', H', J.os, J.bare, J.base, J.hok, rv, q⟩
  refine PySem.W.callWith_F0 ⟨_, _, _, _, hf⟩ (wpAny_call (codeAny_mono run fun r s' hq => ?_))
  exact match r, hq with
    | .error e, hq => passes_call tk hW pZ σZ G s1 e s' I1 hq
    | .ok (.ret _), hq => I1.after hq
    | .ok .next, hq => hq.elim
    | .ok .brk, hq => hq.elim
    | .ok .cont, hq => hq.elim
end
end LAMD

set_option Elab.async false
set_option linter.all false
set_option maxRecDepth 100000
set_option maxHeartbeats 6000000
/-! A def that calls what it got and tells which error it met; the call of it with a lambda. -/
namespace MET
open PySem PySem.Spec PyProof.Rows L2 LamX LAMD TRY
def tLamD (N : List Str) (p : Str) (T : List (Addr × Str)) (TT : (XK → Hp → VK → Prop) → Hp → VK → Prop) (t : XK → TE) : TE := fun σ H Q =>
  (∀ (i : Nat) (v : V), N[i]? = some p → σ[i]? ≠ some (some v)) ∧ Tabs T H ∧ ∀ H1, ExtN H H1 → Tabs T H1 → TT (fun E H' Q' => t E σ H' Q') H1 Q
section
variable {X : Cx}
/-- x(lambda p=n: body) -/
theorem pe_lamcallD {T : List (Addr × Str)} {TT : (XK → Hp → VK → Prop) → Hp → VK → Prop} {x a p : Str} {g c P : Addr} {k : Nat} {n : Int} {td : TE} {pg : Arguments} {bg : List Stmt} {sg : Scope} {dV kV doc pm cdv ct oc : Value} {an od : Option Addr} {osl : Array (Option Value)} {Ng : List Str}
    {params : Arguments} {body de : Expr} {scope : Scope} {t : XK → TE} {p0 lpos pos : Pos} (hg : Gl X x) (hm : X.mg x = some (.ref g)) (hk : PySem.W.keepIn X.K (.ref g) = true)
    (hNg : Ng[0]? = some a) (hva : Vis sg a) (Sg : FnScope Ng [a] sg) (hb : L2.Binds X.K (PySem.W.fnOf x x pg bg sg dV kV doc pm an cdv ct) [a] []) (hcg : PySem.W.codeIn X.K cdv x = true) (lk : X.K.lookup g = some ⟨oc, od, .func (PySem.W.fnOf x x pg bg sg dV kV doc pm an cdv ct), osl⟩)
    (hG : GivesTo X Ng x sg g cdv bg a (X.env.qual ++ "<lambda>") TT) (TB : TabB X.base X.mg c P) (hcode : X.env.code = .ref c) (hmT : (P, X.env.qual ++ "<lambda>") ∈ T) (hu : ∀ p ∈ T, p.1 = P → p.2 = X.env.qual ++ "<lambda>") (hr : Room (k + 2) X.A) (L : LamP X.env.scope scope p)
    (hdef : defaultsOf params X.env = ([eval de X.env], [])) (hde : PE X de td) (htd : ∀ σ H Q, Q (.int n) H → td σ H Q)
    (hbind : ∀ (t : Tok) (q : Str) (cl : List (Str × Addr)) (T : Addr) (pm cv ctv : Value), ∃ k, bindArgs (lfn q params body scope cl T pm cv ctv) ⟨[], []⟩ = seqItems? (.ref T) >>= k ∧ k (some #[.int n t]) = pure [(p, .int n t)])
    (hbody : ∀ (A : Around) (outer : List Env) (s : Shared) (H : Hp) (E : XK) (f c' : Addr), Room k (A.deeper (lamEnv X scope s.heap.objs.size f c')) → PE (lamCx X A outer s H E scope f c') body (t E)) (hdb : (x == ("__debug__" : Str)) = false := by decide)
    (hd : (a == ("__debug__" : Str)) = false := by decide) (hcd : (a == ("__classdict__" : Str)) = false := by decide) :
    PE X (.Call (.Name x p0) [.Lambda params body scope lpos] [] pos) (tLamD X.N p T TT t) := by
  refine ⟨fun pins s σ H Q I ⟨hp, hT, h⟩ => wpAny_Call_Name_kw (ld_glob I hg hm (PySem.W.callWith_K (h₀ := X.base) I.ok.mod.kin hk ?_ rfl rfl) hdb)⟩
  show wpAny _ _ (spliced [(false, eval (.Lambda params body scope lpos) X.env)]) _ _ s
  refine Calls.spliced_cons (lam_made I TB hcode hmT hu hT hdef hde htd (L.has I.ok) (fun t' f c' T' pm' ctv G s1 B T1 => Calls.spliced_nil ⟨B.inv.kIn, ?_⟩) rfl)
  -- the def runs, with the function that was made
  have run : codeAny (model X.prog X.w) X.A (.call (.ref g) ⟨[.ref f], []⟩) (CR C8.CX0 X.stack X.prog X.w G s1 Q C8.E0) s1 :=
    run_ofS (N := Ng) (ps := [a]) (us := [.ref f]) (vs := [.ref f]) lk hcg Sg hr B.inv.env0 (hb s1 [.ref f] B.inv.kIn rfl) (.cons rfl .nil) rfl fun hr' =>
      let ⟨u, hu, q⟩ := hG f c' s1 G Q (fun E H' Q' => t E σ H' Q') (fun W pn xe E p1 p2 tk hW => pe_actD (i := 0) B L hp (hbind t') tk hW hr' (fun A outer s H hr2 => hbody A outer s H E f c' hr2) hNg hva hd hcd) B.code (h G B.ext T1)
      ⟨u, hu.nox, q⟩
  exact wpAny_call (codeAny_mono run fun r _ hq => match r, hq with
    | .error _, hq => (show False from hq).elim
    | .ok (.ret _), hq => B.inv.after hq
    | .ok .next, hq => hq.elim
    | .ok .brk, hq => hq.elim
    | .ok .cont, hq => hq.elim)
/-- met, of the fourth class alone: it tells o; no error: it tells z -/
def TMet (C : Addr) (o z : Str) : (XK → Hp → VK → Prop) → Hp → VK → Prop := fun tl H Q => tl (fun cls _ H' => cls = .ref C ∧ Q (.str o) H') H (fun _ H' => Q (.str z) H')
/-- a class by its name, in the def -/
structure Nm (mg : Str → Option Value) (sg : Scope) (e : Str) (C : Addr) : Prop where
  gl : sg.names.lookup e = some .globalImplicit
  at_ : mg e = some (.ref C)
  db : (e == ("__debug__" : Str)) = false
theorem met_gives {Ng : List Str} {x a e1 e2 e3 e4 q t1 t2 t3 o z : Str} {sg : Scope} {g C1 C2 C3 C4 : Addr} {cdg : Value} {j1 j2 j3 j4 j5 : Nat} {rest : List ExceptHandler} {p1 p2 p3 p4 p5 p6 p7 p8 p9 p10 p11 p12 p13 p14 p15 p16 p17 p18 p19 p20 p21 p22 : Pos}
    (n1 : Nm X.mg sg e1 C1) (n2 : Nm X.mg sg e2 C2) (n3 : Nm X.mg sg e3 C3) (n4 : Nm X.mg sg e4 C4) (h0 : ∀ f : Addr, (L2.start Ng [V.ref f])[0]? = some (some (V.ref f)))
    (x1 : PySem.W.exmOne X.K (.ref C4) (.ref C1) = some false) (x2 : PySem.W.exmOne X.K (.ref C4) (.ref C2) = some false) (x3 : PySem.W.exmOne X.K (.ref C4) (.ref C3) = some false) (x4 : PySem.W.exmOne X.K (.ref C4) (.ref C4) = some true) :
    GivesTo X Ng x sg g cdg [.Try [.Expr (.Call (.Name a p1) [] [] p2) p3] (.ExceptHandler (some (.Name e1 p4)) none [.Return (some (.Constant (.str t1) j1 p5)) p6] p7 :: .ExceptHandler (some (.Name e2 p8)) none [.Return (some (.Constant (.str t2) j2 p9)) p10] p11 ::
      .ExceptHandler (some (.Name e3 p12)) none [.Return (some (.Constant (.str t3) j3 p13)) p14] p15 :: .ExceptHandler (some (.Name e4 p16)) none [.Return (some (.Constant (.str o) j4 p17)) p18] p19 :: rest) [] [] p20, .Return (some (.Constant (.str z) j5 p21)) p22] a q (TMet C4 o z) := by
  intro f c' s H Q tl act hc h
  have nm : ∀ {e : Str} {C : Addr}, Nm X.mg sg e C → Names (cxOf C8.CX0 X.prog X.w X.K X.mg X.base Ng x sg g cdg X.A X.stack s H C8.E0).nox e (.ref C) := fun n => ⟨n.gl, n.db, .inl n.at_⟩
  refine ⟨_, pss_cons (ps_try_by (X := (cxOf C8.CX0 X.prog X.w X.K X.mg X.base Ng x sg g cdg X.A X.stack s H C8.E0).nox)
      (tb := fun W D σ H => ∃ Ech : XK, (∀ cls d σ' H', Ech cls d H' → W cls d σ' H') ∧ σ[0]? = some (some (.ref f)) ∧ H c' = some (CodeO c' q) ∧ tl Ech H (fun _ H' => D.nx σ H'))
      rfl rfl (fun W pn xe tk _ => ?_)
      (does_cons rfl rfl (nm n1) (fun _ _ _ _ _ _ _ => pss_one (ps_ret pe_str)) (does_cons rfl rfl (nm n2) (fun _ _ _ _ _ _ _ => pss_one (ps_ret pe_str)) (does_cons rfl rfl (nm n3) (fun _ _ _ _ _ _ _ => pss_one (ps_ret pe_str))
        (does_cons rfl rfl (nm n4) (fun _ _ _ _ _ _ _ => pss_one (ps_ret pe_str)) does_stop))))) (pss_one (ps_ret pe_str)), ?_⟩
  · refine ⟨fun pins s' σ H' D I ⟨Ech, hW, h1, h2, h3⟩ => ?_⟩
    exact (pss_one (ps_expr (pos := p3) (act W pn xe Ech p1 p2 tk hW))).run pins s' σ H' D I ⟨h1, h2, h3⟩
  · refine ⟨fun cls _ H' => cls = .ref C4 ∧ Q (.str o) H', fun cls d σ' H' ⟨e, q⟩ => ?_, h0 f, hc, h⟩
    subst e
    exact ⟨false, x1, fun z => (nomatch z), fun _ => ⟨false, x2, fun z => (nomatch z), fun _ => ⟨false, x3, fun z => (nomatch z), fun _ => ⟨true, x4, fun _ _ _ => q, fun z => (nomatch z)⟩⟩⟩⟩
end
end MET

set_option Elab.async false
set_option linter.all false
set_option maxRecDepth 100000
set_option maxHeartbeats 6000000
/-! The dice of a law: where they stand, what a roll leaves of them. -/
namespace WK
open PySem L2 PyProof.Rows
def top (i : Nat) : Stmt := PySem.Challenge.pw_watchkinds_k11_sorts_and_their_order.main.body.getD i (.Pass ⟨0, 0, 0, 0⟩)
abbrev sDice : Stmt := top 25
abbrev sRoll : Stmt := top 26
abbrev sOne : Stmt := top 27
/-- a power of any two numbers of which the result is not too long -/
def CPowW (i j : Int) : Prop := 0 ≤ j ∧ (Builtin.Int.intBits i : Int) * j ≤ 2 ^ 27
theorem op_powW {X : Cx} : OpR X (binaryOp .Pow) (rI CPowW fun i j => .int (i ^ j.toNat)) := opI fun _ _ _ _ _ _ _ hc q => pow_int hc.1 hc.2 q
/-- the dice stand at p -/
def DiceAt (H : Hp) (p : Addr) : Prop := ∃ a b c : Int, H p = some (.lst [.int a, .int b, .int c]) ∧ 0 ≤ a ∧ 0 ≤ b ∧ 0 ≤ c
/-- all that was tracked stands, but for what is at p -/
def But (p : Addr) (H H' : Hp) : Prop := ∀ b o, H b = some o → b ≠ p → H' b = some o
theorem But.refl (p : Addr) (H : Hp) : But p H H := fun _ _ h _ => h
theorem But.trans {p : Addr} {H H1 H2 : Hp} (a : But p H H1) (b : But p H1 H2) : But p H H2 := fun c o h n => b c o (a c o h n) n
theorem But.ofSame {p : Addr} {H H' : Hp} (s : Same H H') : But p H H' := fun b o h _ => s b o h
theorem But.upd {p : Addr} {H : Hp} {o : HO} : But p H (upd H p o) := fun b u h n => by rw [upd_ne n]; exact h
/-- law's number of a cell -/
def big : Int := (10 ^ 60) ^ 10
theorem big_pos : 0 < big := by decide +kernel
def spDice (K : PySem.W.Frag) : Sp := fun vs H Q _ => ∃ (s : Addr) (ns : List Int) (k : Int), vs = [.ref s, .int k] ∧ SqL K H s (ns.map V.int) ∧ 0 ≤ k ∧
  ∀ (p : Addr) (H' : Hp), H p = none → Same H H' → DiceAt H' p → Q (.ref p) H'
def spRoll : Sp := fun vs H Q _ => ∃ (p : Addr) (n : Int), vs = [.ref p, .int n] ∧ DiceAt H p ∧ 0 < n ∧ n < 1073741824 ∧
  ∀ (r : Int) (H' : Hp), 0 ≤ r → r < n → DiceAt H' p → But p H H' → Q (.int r) H'
def spOne : Sp := fun vs H Q _ => ∃ (p q : Addr) (xs : List V), vs = [.ref p, .ref q] ∧ DiceAt H p ∧ q ≠ p ∧ H q = some (.lst xs) ∧ 0 < xs.length ∧ xs.length < 1000000 ∧
  ∀ (v : V) (H' : Hp), v ∈ xs → DiceAt H' p → But p H H' → Q v H'
structure TDice (mg : Str → Option Value) : Prop where
  len : mg "len" = none
  int : mg "int" = none
  abs : mg "abs" = none
section
variable {P : Program} {w : World} {K : PySem.W.Frag} {mg : Str → Option Value} {base : Heap}
theorem scD : FnScope ["_law_script", "_law_at", "_law_cell", "_law_great", "_law_left", "_law_mixed_here"] ["_law_script", "_law_at"] (defScope sDice) := ⟨rfl, rfl, rfl, by decide +kernel, rfl, by decide +kernel, by decide +kernel⟩
theorem ok_dice {f : Addr} {fd : FuncData} (F : Fun K "_law_dice" "_law_dice" sDice f fd) (T : TDice mg) : FnOk P w K mg base CX0 1 f fd ["_law_script", "_law_at"] (spDice K) := by
  refine F.ok scD (fun vs H Q E h => ?_) (fun cdv A outer s H vs Q E hr h => ?_)
  · obtain ⟨s, ns, k, rfl, _⟩ := h
    rfl
  · obtain ⟨s, ns, k, rfl, hS, hk, q⟩ := h
    refine ⟨_, pss_cons (ps_set (i := 2) scD.nd rfl (Or.inl rfl) (pe_op op_add (pe_op op_mul pe_int (pv 1)) pe_int))
      (C8.pss_cut (ps_if (pt_cmpR op_lt (pv 1) (pe_callB call_len_seq (by rfl) T.len PySem.boot_len (pa_cons (pv 0) pa_nil)) (nomark _))
        (pss_one (ps_set (i := 2) scD.nd rfl (Or.inl rfl) (pe_ix ix_list (pv 0) (pv 1) (fun _ _ => rfl)))) pss_nil)
      (pss_cons (ps_set (i := 3) scD.nd rfl (Or.inl rfl) (pe_op op_mod (pe_callTy call_int1 (by rfl) T.int (by decide +kernel) (pa_cons (pe_callB call_abs (by rfl) T.abs (by decide +kernel) (pa_cons (pv 2) pa_nil)) pa_nil)) (pe_op op_powW (pe_op op_pow pe_int pe_int) pe_int)))
      (pss_cons (ps_set (i := 4) scD.nd rfl (Or.inl rfl) (pe_op op_fdivW (pv 3) (pe_op op_pow pe_int pe_int)))
      (pss_cons (ps_set (i := 5) scD.nd rfl (Or.inl rfl) (pe_op op_add (pe_op op_add (pe_op op_add (pe_op op_mul (pe_op op_mod (pv 3) pe_int) pe_int) (pe_op op_mul pe_int (pv 1)))
          (pe_op op_mul pe_int (pe_callTy call_int1 (by rfl) T.int (by decide +kernel) (pa_cons (pe_cmpR op_lt (pv 2) pe_int (nomark _)) pa_nil)))) pe_int))
      (pss_one (ps_ret (pe_lst (pa_cons (pv 4) (pa_cons (pe_op op_mod (pv 5) pe_int) (pa_cons pe_int pa_nil)))))))))), ?_⟩
    refine ⟨_, rfl, _, _, rfl, rfl, .inl ⟨by decide, by decide⟩, _, _, rfl, rfl, ?_⟩
    -- behind the if: some cell
    refine ⟨fun σ H' => H' = H ∧ ∃ c : Int, σ = [some (.ref s), some (.int k), some (.int c), none, none, none], ?_, ?_⟩
    · refine ⟨_, rfl, _, rfl, s, _, rfl, .inl hS, _, _, rfl, rfl, _, rfl, ?_⟩
      refine ite2 (fun hc => ?_) (fun _ => ?_)
      · have hl : k < ((ns.map V.int).length : Int) := of_decide_eq_true hc
        rw [List.length_map] at hl
        have hj : k.toNat < ns.length := (by omega)
        have e1 : (ns.map V.int)[k.toNat]? = some (V.int ns[k.toNat]) := by
          rw [List.getElem?_map, List.getElem?_eq_getElem hj]
          rfl
        have e2 := atI_nat e1
        rw [Int.toNat_of_nonneg hk] at e2
        exact ⟨_, rfl, _, rfl, s, _, _, _, rfl, rfl, hS, e2, rfl, _, rfl⟩
      · exact ⟨rfl, _, rfl⟩
    · rintro σ H' ⟨rfl, c, rfl⟩
      refine ⟨_, rfl, _, rfl, .inl ⟨_, rfl, ?_⟩⟩
      refine ⟨_, _, rfl, rfl, ⟨by decide, by decide, by decide +kernel⟩, _, _, rfl, rfl, ⟨by decide, by decide +kernel⟩, _, _, rfl, rfl, big_pos, ?_⟩
      refine ⟨_, rfl, _, _, rfl, rfl, ⟨by decide, by decide, by decide +kernel⟩, _, _, rfl, rfl, wide_div (b := 64) (by decide +kernel) (by decide +kernel) (by decide) (by decide), ?_⟩
      refine ⟨_, rfl, _, _, rfl, rfl, (by show (0 : Int) < 2147483059; decide), _, _, rfl, rfl, .inr ⟨by decide, by decide⟩, _, rfl, _, _, rfl, rfl, .inl ⟨by decide, by decide⟩, _, _, rfl, rfl, ?_⟩
      refine ⟨_, rfl, _, _, rfl, rfl, .inr ⟨_, rfl, ?_⟩⟩
      refine ⟨_, _, rfl, rfl, .inl ⟨by decide, by decide⟩, _, _, rfl, rfl, _, _, rfl, rfl, ?_⟩
      refine ⟨_, rfl, _, rfl, _, _, rfl, rfl, (by show (0 : Int) < 2147483053; decide), (by show 3 ≤ sizeLine; decide), fun p hp => q p _ hp (fun b o e => by rw [upd_ne (ne_of_none e hp)]; exact e) ⟨_, _, _, upd_same, ?_, ?_, Int.le_refl 0⟩⟩
      · exact Int.ediv_nonneg (Int.emod_nonneg _ (Int.ne_of_gt big_pos)) (by decide)
      · exact Int.emod_nonneg _ (by decide)
/-- of a roll -/
theorem scR : FnScope ["_law_dice_here", "_law_total", "_law_number", "_law_drawn", "_law_one", "_law_two"] ["_law_dice_here", "_law_total"] (defScope sRoll) := ⟨rfl, rfl, rfl, by decide +kernel, rfl, by decide +kernel, by decide +kernel⟩
theorem ok_roll {f : Addr} {fd : FuncData} (F : Fun K "_law_roll" "_law_roll" sRoll f fd) (T : TDice mg) : FnOk P w K mg base CX0 1 f fd ["_law_dice_here", "_law_total"] spRoll := by
  refine F.ok scR (fun vs H Q E h => ?_) (fun cdv A outer s H vs Q E hr h => ?_)
  · obtain ⟨p, n, rfl, _⟩ := h
    rfl
  · obtain ⟨p, n, rfl, ⟨a, b, c, hD, ha, hb, hc⟩, hn, hn2, q⟩ := h
    refine ⟨_, pss_cons (ps_set (i := 2) scR.nd rfl (Or.inl rfl) (pe_callTy call_int1 (by rfl) T.int (by decide +kernel) (pa_cons (pv 1) pa_nil)))
      (pss_cons (ps_if (pt_cmpR op_gt (pe_ix ix_list (pv 0) pe_int (fun _ _ => rfl)) pe_int (nomark _))
        (pss_cons (ps_set (i := 3) scR.nd rfl (Or.inl rfl) (pe_op op_mod (pe_ix ix_list (pv 0) pe_int (fun _ _ => rfl)) (pv 2)))
        (pss_cons (ps_asg (pe_op op_fdiv (pe_ix ix_list (pv 0) pe_int (fun _ _ => rfl)) (pv 2)) (pg_sub (pv 0) pe_int set_list))
        (pss_one (ps_ret (pe_callTy call_int1 (by rfl) T.int (by decide +kernel) (pa_cons (pv 3) pa_nil)))))) pss_nil)
      (pss_cons (ps_asg (pe_op op_add (pe_ix ix_list (pv 0) pe_int (fun _ _ => rfl)) pe_int) (pg_sub (pv 0) pe_int set_list))
      (pss_cons (ps_set (i := 4) scR.nd rfl (Or.inl rfl) (pe_op op_mod (pe_op op_add (pe_ix ix_list (pv 0) pe_int (fun _ _ => rfl)) (pe_op op_mul pe_int (pe_ix ix_list (pv 0) pe_int (fun _ _ => rfl)))) pe_int))
      (pss_cons (ps_set (i := 5) scR.nd rfl (Or.inl rfl) (pe_op op_add (pe_op op_mul (pe_op op_mod (pe_op op_mul (pv 4) (pv 4)) pe_int) (pv 4)) (pe_op op_mul pe_int (pe_ix ix_list (pv 0) pe_int (fun _ _ => rfl)))))
      (pss_cons (ps_set (i := 5) scR.nd rfl (Or.inl rfl) (pe_op op_mod (pv 5) pe_int))
      (pss_one (ps_ret (pe_callTy call_int1 (by rfl) T.int (by decide +kernel) (pa_cons (pe_op op_mod (pe_op op_fdiv (pv 5) pe_int) (pv 2)) pa_nil))))))))), ?_⟩
    refine ⟨_, rfl, .inl ⟨_, rfl, ?_⟩⟩
    refine ⟨_, rfl, p, _, _, _, rfl, rfl, SqL.of hD, atI_nat (j := 0) rfl, _, _, rfl, rfl, _, rfl, ?_⟩
    refine ite2 (fun hc' => ?_) (fun hc' => ?_)
    · refine ⟨_, rfl, p, _, _, _, rfl, rfl, SqL.of hD, atI_nat (j := 0) rfl, _, rfl, _, _, rfl, rfl, hn, ?_⟩
      refine ⟨_, rfl, p, _, _, _, rfl, rfl, SqL.of hD, atI_nat (j := 0) rfl, _, rfl, _, _, rfl, rfl, ⟨hn, hn2⟩, ?_⟩
      refine ⟨_, rfl, p, _, _, 0, rfl, rfl, hD, rfl, ?_⟩
      refine ⟨_, rfl, .inl ⟨_, rfl, ?_⟩⟩
      exact q _ _ (Int.emod_nonneg _ (Int.ne_of_gt hn)) (Int.emod_lt_of_pos _ hn) ⟨_, _, _, upd_same, Int.ediv_nonneg ha (Int.le_of_lt hn), hb, hc⟩ But.upd
    · refine ⟨_, rfl, p, _, _, _, rfl, rfl, SqL.of hD, atI_nat (j := 2) rfl, _, _, rfl, rfl, _, rfl, p, _, _, 2, rfl, rfl, hD, rfl, ?_⟩
      have h2 : (upd H p (.lst [.int a, .int b, .int (c + 1)])) p = some (.lst [.int a, .int b, .int (c + 1)]) := upd_same
      refine ⟨_, rfl, p, _, _, _, rfl, rfl, SqL.of h2, atI_nat (j := 1) rfl, _, rfl, p, _, _, _, rfl, rfl, SqL.of h2, atI_nat (j := 2) rfl, _, _, rfl, rfl, .inl ⟨by decide, by decide⟩, _, _, rfl, rfl, _, _, rfl, rfl, (by show (0 : Int) < 2305843009213693951; decide), ?_⟩
      have one0 : ∀ x : Int, -(2 ^ 64) < x % 2305843009213693951 ∧ x % 2305843009213693951 < 2 ^ 64 := fun x => by
        have l := Int.emod_nonneg x (show (2305843009213693951 : Int) ≠ 0 by decide)
        have u := Int.emod_lt_of_pos x (show (0 : Int) < 2305843009213693951 by decide)
        exact ⟨by omega, by omega⟩
      refine ⟨_, rfl, _, rfl, _, _, rfl, rfl, .inl (one0 _), _, _, rfl, rfl, (by show (0 : Int) < 2305843009213693921; decide), _, rfl, _, _, rfl, rfl, .inr (one0 _), _, rfl, p, _, _, _, rfl, rfl, SqL.of h2, atI_nat (j := 2) rfl, _, _, rfl, rfl, .inl ⟨by decide, by decide⟩, _, _, rfl, rfl, ?_⟩
      refine ⟨_, rfl, _, _, rfl, rfl, (by show (0 : Int) < 2305843009213693907; decide), ?_⟩
      refine ⟨_, rfl, _, _, rfl, rfl, ⟨by decide, by decide⟩, _, rfl, _, _, rfl, rfl, hn, .inl ⟨_, rfl, ?_⟩⟩
      exact q _ _ (Int.emod_nonneg _ (Int.ne_of_gt hn)) (Int.emod_lt_of_pos _ hn) ⟨_, _, _, upd_same, ha, hb, by omega⟩ But.upd
theorem scO : FnScope ["_law_dice_here", "_law_items"] ["_law_dice_here", "_law_items"] (defScope sOne) := ⟨rfl, rfl, rfl, by decide +kernel, rfl, by decide +kernel, by decide +kernel⟩
theorem ok_one {f fR : Addr} {fd fdR : FuncData} (F : Fun K "_law_one_of" "_law_one_of" sOne f fd) (T : TDice mg) (gR : mg "_law_roll" = some (.ref fR)) (FR : Fun K "_law_roll" "_law_roll" sRoll fR fdR) (bR : Binds K fdR ["_law_dice_here", "_law_total"] []) :
    FnOk P w K mg base CX0 2 f fd ["_law_dice_here", "_law_items"] spOne := by
  have GR : FnOk P w K mg base CX0 1 fR fdR ["_law_dice_here", "_law_total"] spRoll := ok_roll FR T
  refine F.ok scO (fun vs H Q E h => ?_) (fun cdv A outer s H vs Q E hr h => ?_)
  · obtain ⟨p, n, _, rfl, _⟩ := h
    rfl
  · obtain ⟨p, a, xs, rfl, hD, hne, hx, h0, h1, q⟩ := h
    refine ⟨_, pss_one (ps_ret (pe_ix ix_list (pv 1) (pe_call GR hr rfl gR FR.kp bR .nil pass0 (pa_cons (pv 0) (pa_cons (pe_callB call_len_seq (by rfl) T.len PySem.boot_len (pa_cons (pv 1) pa_nil)) pa_nil))) (fun _ _ => rfl))), ?_⟩
    refine ⟨_, rfl, _, rfl, _, rfl, a, _, rfl, .inl (SqL.of hx), p, _, rfl, hD, by omega, by omega, fun r H' hr0 hr1 hD' hB => ?_⟩
    have hj : r.toNat < xs.length := by omega
    have e1 : xs[r.toNat]? = some xs[r.toNat] := List.getElem?_eq_getElem hj
    have e2 := atI_nat e1
    rw [Int.toNat_of_nonneg hr0] at e2
    exact ⟨a, _, _, _, rfl, rfl, SqL.of (hB _ _ hx hne), e2, q _ _ (List.getElem_mem hj) hD' hB⟩
end
open PySem.W (Frag kitOne)
abbrev sMixed : Stmt := top 28
/-- a def of the module by its name -/
structure Fn (K : Frag) (mg : Str → Option Value) (nm : Str) (st : Stmt) (ps : List Str) (f : Addr) (fd : FuncData) : Prop where
  g : mg nm = some (.ref f)
  F : Fun K nm nm st f fd
  b : L2.Binds K fd ps []
structure TN (mg : Str → Option Value) : Prop where
  len : mg "len" = none
  int : mg "int" = none
  abs : mg "abs" = none
  isi : mg "isinstance" = none
  str : mg "str" = none
  all : mg "all" = none
  any : mg "any" = none
  rng : mg "range" = none
  tuple : mg "tuple" = none
  list : mg "list" = none
  max : mg "max" = none
  min : mg "min" = none
theorem TN.dice {mg : Str → Option Value} (T : TN mg) : TDice mg := ⟨T.len, T.int, T.abs⟩
theorem same_upd {H : Hp} {p : Addr} {o : HO} (h : H p = none) : Same H (upd H p o) := fun b u e => by rw [upd_ne (ne_of_none e h)]; exact e
theorem same_at {H H1 : Hp} {p : Addr} {o : HO} (s : Same H H1) (h : H p = none) : Same H (upd H1 p o) := fun b u e => by rw [upd_ne (ne_of_none e h)]; exact s b u e
theorem same_two {H H1 : Hp} {p : Addr} {o : HO} (s : Same H H1) (h : H1 p = none) : Same H (upd H1 p o) := s.trans (same_upd h)
theorem pe_ty {X : Cx} {x : Str} {pos : Pos} (n : String) (hm : X.mg x = none) (hv : bootBuiltins x = some (.type n)) (hg : Gl X x := by rfl) (hn : x ≠ "__name__" := by decide) (hd : (x == ("__debug__" : Str)) = false := by decide) : PE X (.Name x pos) (tC (.ty n)) := pe_bltn hg hm hv rfl hn hd
theorem but_at {p a : Addr} {H H1 : Hp} {o : HO} (B : But p H H1) (h : H a = none) : But p H (upd H1 a o) := fun b u e n => by rw [upd_ne (ne_of_none e h)]; exact B b u e n
theorem but_two {p a : Addr} {H H1 : Hp} {o : HO} (B : But p H H1) (h : H1 a = none) : But p H (upd H1 a o) := B.trans (But.ofSame (same_upd h))
theorem DiceAt.keep {H H' : Hp} {p : Addr} (h : DiceAt H p) (k : ∀ o, H p = some o → H' p = some o) : DiceAt H' p := by
  obtain ⟨a, b, c, e, r⟩ := h
  exact ⟨a, b, c, k _ e, r⟩
theorem DiceAt.new {H : Hp} {p a : Addr} {o : HO} (h : DiceAt H p) (ha : H a = none) : DiceAt (upd H a o) p := h.keep fun _ e => same_upd ha _ _ e
theorem DiceAt.ne {H : Hp} {p a : Addr} (h : DiceAt H p) (ha : H a = none) : a ≠ p := fun z => by
  obtain ⟨_, _, _, e, _⟩ := h
  rw [← z, ha] at e
  cases e
/-! ### data of texts -/
theorem dp_strs {K : Frag} {H : Hp} : ∀ ys : List Str, DpAll K H (ys.map V.str) (ys.map PyData.str)
  | [] => .nil
  | y :: ys => .cons (.str y) (dp_strs ys)
theorem shaped_strs (ys : List Str) (h : ∀ y ∈ ys, PyData.canLay0 (.str y) = true) : SeqAt.shaped (.list (ys.map PyData.str)) = true ∧ SeqAt.shaped (.tuple (ys.map PyData.str)) = true := by
  have h1 : ∀ ys : List Str, (∀ y ∈ ys, PyData.canLay0 (.str y) = true) → PyData.canLayAll0 (ys.map PyData.str) = true := by
    intro ys
    induction ys with
    | nil => intro _; rfl
    | cons y ys ih =>
      intro h
      show (PyData.canLay0 (.str y) && PyData.canLayAll0 (ys.map PyData.str)) = true
      rw [h y List.mem_cons_self, ih fun z hz => h z (List.mem_cons_of_mem _ hz)] <;> rfl
  have h2 : ∀ ys : List Str, PyData.depthAll (ys.map PyData.str) = 0 := by
    intro ys
    induction ys with
    | nil => rfl
    | cons y ys ih =>
      show max (PyData.depth (.str y)) (PyData.depthAll (ys.map PyData.str)) = 0
      rw [ih] <;> rfl
  constructor
  · show (PyData.canLayAll0 _ && decide (PyData.depthAll _ + 1 ≤ 64)) = true
    rw [h1 ys h, h2 ys] <;> rfl
  · show (PyData.canLayAll0 _ && decide (PyData.depthAll _ + 1 ≤ 64)) = true
    rw [h1 ys h, h2 ys] <;> rfl
theorem eqv_nil (ys : List Str) : PyData.eqv (.list (ys.map PyData.str)) (.list []) = ys.isEmpty := by
  cases ys <;> rfl
theorem seqIx {i : Int} {n : Nat} (h0 : 0 ≤ i) (h1 : i < (n : Int)) : seqIndex? i n = some i.toNat := by
  unfold seqIndex?
  have e : ¬ i < 0 := by omega
  simp only [e, if_false]
  rw [decide_eq_true h0, decide_eq_true h1] <;> rfl
theorem map_erase {α β : Type} (f : α → β) : ∀ (xs : List α) (k : Nat), (xs.map f).eraseIdx k = (xs.eraseIdx k).map f
  | [], _ => rfl
  | _ :: _, 0 => rfl
  | x :: xs, k + 1 => by
    show f x :: (xs.map f).eraseIdx k = f x :: (xs.eraseIdx k).map f
    rw [map_erase f xs k]
def spMixed : Sp := fun vs H Q _ => ∃ (p q : Addr) (ys : List Str), vs = [.ref p, .ref q] ∧ DiceAt H p ∧ q ≠ p ∧ H q = some (.lst (ys.map V.str)) ∧ ys.length < 100 ∧ (∀ y ∈ ys, PyData.canLay0 (.str y) = true) ∧
  ∀ (r : Addr) (zs : List Str) (H' : Hp), zs.Perm ys → H r = none → DiceAt H' p → But p H H' → H' r = some (.lst (zs.map V.str)) → r ≠ p → Q (.ref r) H'
section
variable {P : Program} {w : World} {K : PySem.W.Frag} {mg : Str → Option Value} {base : Heap}
variable {fR fM fO : Addr} {dR dM dO : FuncData}
def muMix : L2.St → Hp → Nat := fun σ H => match σ with
  | [_, _, some (.ref l), _] => (match H l with | some (.lst xs) => xs.length | _ => 0)
  | _ => 0
theorem scMi : FnScope ["_law_dice_here", "_law_items", "_law_left", "_law_found"] ["_law_dice_here", "_law_items"] (defScope sMixed) := ⟨rfl, rfl, rfl, by decide +kernel, rfl, by decide +kernel, by decide +kernel⟩
theorem ok_mixed {f : Addr} {fd : FuncData} (F : Fun K "_law_mixed" "_law_mixed" sMixed f fd) (T : TN mg) (AR : Fn K mg "_law_roll" sRoll ["_law_dice_here", "_law_total"] fR dR) : FnOk P w K mg base CX0 2 f fd ["_law_dice_here", "_law_items"] spMixed := by
  have GR : FnOk P w K mg base CX0 1 fR dR ["_law_dice_here", "_law_total"] spRoll := ok_roll AR.F T.dice
  refine F.ok scMi (fun vs H Q E h => ?_) (fun cdv A outer s H vs Q E hr h => ?_)
  · obtain ⟨u, n, _, rfl, _⟩ := h
    rfl
  · obtain ⟨p, q, ys, rfl, hD, hqp, hq, hl, hy, qq⟩ := h

    refine ⟨_, pss_cons (ps_par (i := 2) (j := 3) (by rfl) scMi.nd rfl rfl (by decide) rfl rfl (pa_cons (pe_callTy call_list_of (by rfl) T.list (by decide +kernel) (pa_cons (pv 1) pa_nil)) (pa_cons (pe_lst pa_nil) pa_nil)) (by rfl))
      (pss_cons (ps_while PassesOwn.never (pt_cmpR (op_neD hr.units) (pv 2) (pe_lst pa_nil) (nomark _))
        (pss_one (ps_expr (pe_bm PySem.F.plainAttrs_list PySem.F.slot_list_append PySem.F.type_list_append mt_append (pv 3) (pa_cons
          (pe_bm PySem.F.plainAttrs_list PySem.F.slot_list_pop PySem.F.type_list_pop mt_popAt (pv 2) (pa_cons
            (pe_call GR hr rfl AR.g AR.F.kp AR.b .nil pass0 (pa_cons (pv 0) (pa_cons (pe_callB call_len_seq (by rfl) T.len PySem.boot_len (pa_cons (pv 2) pa_nil)) pa_nil))) pa_nil)) pa_nil)))))
      (pss_one (ps_ret (pv 3)))), ?_⟩
    refine ⟨_, rfl, q, _, rfl, .inl (SqL.of hq), fun l hl1 => ⟨(by show 0 ≤ sizeLine; decide), fun r hr1 => ⟨_, _, rfl, ?_⟩⟩⟩
    refine while_by (fun σ H1 => ∃ zs fs : List Str, σ = [some (.ref p), some (.ref q), some (.ref l), some (.ref r)] ∧ DiceAt H1 p ∧ But p H H1 ∧ H1 l = some (.lst (zs.map V.str)) ∧ H1 r = some (.lst (fs.map V.str)) ∧ (zs ++ fs).Perm ys) muMix ?_ ?_ ?_
    · exact ⟨ys, [], rfl, (hD.new hl1).new hr1, But.ofSame (same_two (same_upd hl1) hr1), same_upd hr1 _ _ upd_same, upd_same, by rw [List.append_nil]⟩
    · have nr : H r = none := (same_upd hl1).free hr1
      have lp := hD.ne hl1
      have rp := hD.ne nr
      have lr : l ≠ r := fun z => by rw [← z, upd_same] at hr1; cases hr1
      rintro σ H1 ⟨zs, fs, rfl, hD1, hB1, hz, hf, hp⟩
      have hzy : ∀ y ∈ zs, PyData.canLay0 (.str y) = true := fun y hm => hy y (hp.mem_iff.mp (List.mem_append_left _ hm))
      have hlen : zs.length + fs.length = ys.length := by rw [← List.length_append, hp.length_eq]
      refine ⟨_, rfl, (by show 0 ≤ sizeLine; decide), fun e he => ⟨.list (zs.map PyData.str), .list [], .lst (SqL.of (same_upd he _ _ hz)) (dp_strs zs), .lst (SqL.of upd_same) .nil, (shaped_strs zs hzy).1, by decide, _, rfl, ?_⟩⟩
      rw [eqv_nil]
      have eD := hD1.new he (o := .lst [])
      have eB : But p H (upd H1 e (.lst [])) := but_two hB1 he
      have ez := same_upd he (o := .lst []) _ _ hz
      have ef := same_upd he (o := .lst []) _ _ hf
      generalize upd H1 e (.lst []) = H2 at eD eB ez ef ⊢
      cases zs with
      | nil => exact ⟨_, rfl, qq r fs _ hp nr eD eB ef rp⟩
      | cons z zs =>
        have len : (((z :: zs).map V.str).length : Int) = (z :: zs).length := by rw [List.length_map]
        have len2 : (z :: zs).length < 100 := by omega
        have len3 : 0 < (z :: zs).length := Nat.succ_pos _
        refine ⟨_, rfl, .inl ⟨rfl, _, SqL.of ef⟩, _, rfl, .inl ⟨rfl, _, SqL.of ez⟩, _, rfl, _, rfl, l, _, rfl, .inl (SqL.of ez), p, _, rfl, eD, by rw [len]; omega, by rw [len]; omega, fun i H3 hi0 hi1 hD3 hB3 => ?_⟩
        rw [len] at hi1
        have hk : i.toNat < (z :: zs).length := by omega
        have hz3 := hB3 _ _ ez lp
        have hf3 := hB3 _ _ ef rp
        have hget : ((z :: zs).map V.str)[i.toNat]? = some (V.str (z :: zs)[i.toNat]) := by rw [List.getElem?_map, List.getElem?_eq_getElem hk] <;> rfl
        have hidx : seqIndex? i ((z :: zs).map V.str).length = some i.toNat := by
          exact seqIx hi0 (by rw [len]; exact hi1)
        refine ⟨l, _, i, i.toNat, _, rfl, rfl, hz3, by omega, by omega, hidx, hget, r, _, _, rfl, rfl, (by rw [upd_ne (Ne.symm lr)]; exact hf3), ?_, ?_, ?_⟩
        · rw [List.length_map, sizeLine_eq]
          omega
        · refine ⟨(z :: zs).eraseIdx i.toNat, fs ++ [(z :: zs)[i.toNat]], rfl, ?_, ?_, ?_, ?_, ?_⟩
          · exact hD3.keep fun o e => by rw [upd_ne (Ne.symm rp), upd_ne (Ne.symm lp)]; exact e
          · exact but_at (but_at (eB.trans hB3) hl1) nr
          · rw [upd_ne lr, upd_same, map_erase]
          · rw [upd_same, List.map_append] <;> rfl
          · refine List.Perm.trans ?_ hp
            have h1 := erase_perm (z :: zs) i.toNat _ (List.getElem?_eq_getElem hk)
            refine List.Perm.trans ?_ (h1.append_right fs)
            show List.Perm (_ ++ (fs ++ [_])) (_ :: (_ ++ fs))
            rw [← List.append_assoc]
            exact List.perm_append_singleton _ _
        · show (match (upd (upd H3 l _) r _) l with | some (.lst xs) => xs.length | _ => 0) < (match H1 l with | some (.lst xs) => xs.length | _ => 0)
          rw [upd_ne lr, upd_same, hz]
          show (((z :: zs).map V.str).eraseIdx i.toNat).length < ((z :: zs).map V.str).length
          rw [List.length_eraseIdx, if_pos (by rw [List.length_map]; exact hk), List.length_map]
          omega
    · exact fun σ H Q Q' hm ⟨v, hv, hl, h⟩ => ⟨v, hv, hl, fun l hl' => let ⟨d, e, a, b, c, dd, k, hk, q⟩ := h l hl'; ⟨d, e, a, b, c, dd, k, hk, hm _ _ q⟩⟩
end
end WK

set_option Elab.async false
set_option linter.all false
set_option maxRecDepth 100000
set_option maxHeartbeats 6000000
/-! The nine sorts by number, and their order. -/
namespace SO
open PySem L2 PyProof.Rows WK
def all9 : List Nat := [0, 1, 2, 3, 4, 5, 6, 7, 8]
def nms : List Str := ["last", "first", "caps", "sums", "clerks", "pieces", "latches", "turners", "any"]
def nm (i : Nat) : Str := nms.getD i ""
def tv (l : List Nat) : List V := l.map fun i => V.str (nm i)
def td (l : List Nat) : List PyData := l.map fun i => PyData.str (nm i)
/-- numbers of sorts -/
def Ok (l : List Nat) : Prop := ∀ i ∈ l, i < 9
theorem nm_inj0 : ∀ i < 9, ∀ j < 9, nm i = nm j → i = j := by decide +kernel
theorem nm_iff {i j : Nat} (hi : i < 9) (hj : j < 9) : nm i = nm j ↔ i = j := ⟨nm_inj0 i hi j hj, fun h => by rw [h]⟩
theorem all9_mem {i : Nat} : i ∈ all9 ↔ i < 9 := by
  simp only [all9, List.mem_cons, List.not_mem_nil, or_false]
  omega
theorem Ok.cons {a : Nat} {l : List Nat} (h : Ok (a :: l)) : a < 9 ∧ Ok l := ⟨h a List.mem_cons_self, fun i hi => h i (List.mem_cons_of_mem _ hi)⟩
theorem Ok.nil : Ok [] := fun _ h => nomatch h
theorem Ok.filter {l : List Nat} (h : Ok l) (p : Nat → Bool) : Ok (l.filter p) := fun i hi => h i (List.mem_filter.mp hi).1
theorem ok_all9 : Ok all9 := fun _ h => all9_mem.mp h
/-- the sorts above, by the program's table -/
def tab (i : Nat) : List Nat := [[6, 8], [6, 8], [4, 5, 6, 8], [4, 7, 8], [8], [6, 8], [8], [8], []].getD i []
def bel (i j : Nat) : Bool := decide (i = j) || decide (j ∈ tab i)
def ups (i : Nat) : List Nat := all9.filter (bel i)
def lows (i : Nat) : List Nat := all9.filter fun j => bel j i
/-- the least ones of some sorts, in order -/
def leastC (k : List Nat) : List Nat := k.filter fun s => !(((lows s).filter fun o => !decide (o = s)).map fun o => decide (o ∈ k)).any id
def keptC (l : List Nat) : List Nat := all9.filter fun s => decide (s ∈ l)
def joinC (i j : Nat) : List Nat := leastC (keptC ((ups i).filter (bel j)))
/-- whether such a tuple goes up -/
def upC (l : List Nat) : Bool := decide (l = keptC l) && (l.all fun s => (ups s).all fun u => decide (u ∈ l))
/-! ### the law's own -/
def steps : List (Nat × Nat) := [(2, 5), (2, 4), (3, 4), (3, 7), (0, 6), (1, 6), (5, 6), (6, 8), (4, 8), (7, 8)]
def extC (f : List Nat) (x : Nat) : List Nat := (steps.filter fun p => decide (p.1 = x) && !decide (p.2 ∈ f)).map (·.2)
def stC (i : Nat) : Nat → List Nat
  | 0 => [i]
  | k + 1 => stC i k ++ extC (stC i k) ((stC i k).getD k 99)
def abv (i : Nat) : List Nat := stC i 5
theorem st_ends : ∀ i < 9, ∀ k < 6, k = (stC i k).length → stC i k = abv i := by decide +kernel
theorem st_few : ∀ i < 9, ∀ k < 6, (stC i k).length ≤ 5 ∧ ∀ j ∈ stC i k, j < 9 := by decide +kernel
theorem abv_ok {i : Nat} (h : i < 9) : Ok (abv i) := (st_few i h 5 (by decide)).2
theorem abv_ups : ∀ i < 9, ∀ j < 9, decide (j ∈ ups i) = decide (j ∈ abv i) := by decide +kernel
theorem ups_is : ∀ i < 9, ups i = all9.filter fun s => decide (s ∈ abv i) := by decide +kernel
theorem lows_is : ∀ i < 9, lows i = all9.filter fun s => decide (i ∈ abv s) := by decide +kernel
theorem bel_is : ∀ i < 9, ∀ j < 9, bel i j = decide (j ∈ abv i) := by decide +kernel
def bothC (i j : Nat) : List Nat := (abv i).filter fun s => decide (s ∈ abv j)
def leastL (b : List Nat) : List Nat := b.filter fun s => decide (b.filter (fun h => !decide (h ∈ abv s)) = [])
theorem join_is : ∀ i < 9, ∀ j < 9, joinC i j = leastL (bothC i j) ∧ (leastL (bothC i j)).length = 1 := by decide +kernel
/-! ### of any set of sorts -/
def subl : List Nat → List (List Nat)
  | [] => [[]]
  | a :: l => (subl l).map (a :: ·) ++ subl l
theorem subl_mem : ∀ {k l : List Nat}, k.Sublist l → k ∈ subl l
  | _, _, .slnil => List.mem_singleton.mpr rfl
  | _, _, .cons _ h => List.mem_append_right _ (subl_mem h)
  | _, _, .cons_cons _ h => List.mem_append_left _ (List.mem_map.mpr ⟨_, subl_mem h, rfl⟩)
def subs : List (List Nat) := subl all9
def dueC (k : List Nat) : List Nat := k.filter fun s => decide (k.filter (fun o => decide (s ∈ abv o)) = [s])
def closedC (k : List Nat) : List Nat := all9.filter fun s => !decide (k.filter (fun o => decide (s ∈ abv o)) = [])
theorem due_is : ∀ k ∈ subs, dueC k = leastC k ∧ keptC k = k := by decide +kernel
theorem subs_mem {k : List Nat} (h : k.Sublist all9) : k ∈ subs := subl_mem h
theorem subs_ok : ∀ k ∈ subs, ∀ i ∈ k, i < 9 := by decide +kernel
theorem kept_perm {k z : List Nat} (h : z.Perm k) : keptC z = keptC k := List.filter_congr fun s _ => decide_eq_decide.mpr h.mem_iff
/-- the law's look at a tuple, and the program's -/
def upL (l : List Nat) : Bool := decide (l.filter (fun s => !decide ((abv s).filter (fun h => !decide (h ∈ l)) = [])) = [])
def inOrd (l : List Nat) : Bool := decide (keptC l = l)
theorem upC_is {l : List Nat} (h : Ok l) : upC l = (upL l && inOrd l) := by
  have e1 : decide (l = keptC l) = inOrd l := decide_eq_decide.mpr eq_comm
  have e2 : (l.all fun s => (ups s).all fun u => decide (u ∈ l)) = upL l := by
    unfold upL
    rw [Bool.eq_iff_iff, List.all_eq_true, decide_eq_true_iff, List.filter_eq_nil_iff]
    refine forall_congr' fun s => forall_congr' fun hs => ?_
    have h9 := h s hs
    rw [List.all_eq_true, Bool.not_eq_true, Bool.not_eq_false', decide_eq_true_iff, List.filter_eq_nil_iff]
    constructor
    · intro k u hu
      have hu9 := abv_ok h9 u hu
      have := abv_ups s h9 u hu9
      have hm : u ∈ ups s := by rw [decide_eq_decide] at this; exact this.mpr hu
      have := of_decide_eq_true (k u hm)
      simp [this]
    · intro k u hu
      have hu9 : u < 9 := all9_mem.mp (List.mem_filter.mp hu).1
      have := abv_ups s h9 u hu9
      have hm : u ∈ abv s := by rw [decide_eq_decide] at this; exact this.mp hu
      have := k u hm
      simpa using this
  rw [upC, e1, e2, Bool.and_comm]
/-! ### values -/
theorem eqV_nm {i j : Nat} (hi : i < 9) (hj : j < 9) : decide (V.str (nm i) = V.str (nm j)) = decide (i = j) := decide_eq_decide.mpr ⟨fun h => nm_inj0 i hi j hj (V.str.inj h), fun h => by rw [h]⟩
theorem flat_tv (l : List Nat) : (tv l).all flatV = true := by
  rw [List.all_eq_true]
  intro v hv
  obtain ⟨i, _, rfl⟩ := List.mem_map.mp hv
  rfl
theorem inV_str (x : Str) (l : List Nat) : inV (.str x) (tv l) = (l.any fun i => decide (nm i = x)) := by
  unfold inV tv
  rw [List.any_map]
  refine congrArg (fun f => l.any f) (funext fun i => ?_)
  show eqV (.str (nm i)) (.str x) = decide (nm i = x)
  unfold eqV
  rfl
theorem inV_nm {i : Nat} {l : List Nat} (hi : i < 9) (hl : Ok l) : inV (.str (nm i)) (tv l) = decide (i ∈ l) := by
  rw [inV_str, Bool.eq_iff_iff, List.any_eq_true, decide_eq_true_iff]
  constructor
  · rintro ⟨j, hj, e⟩
    rw [← nm_inj0 j (hl j hj) i hi (of_decide_eq_true e)]
    exact hj
  · exact fun h => ⟨i, h, decide_eq_true rfl⟩
theorem lay_nm0 : ∀ i < 9, PyData.canLay0 (.str (nm i)) = true := by decide +kernel
theorem dp_td {K : PySem.W.Frag} {H : Hp} (l : List Nat) : DpAll K H (tv l) (td l) := by
  have := dp_strs (K := K) (H := H) (l.map nm)
  rw [List.map_map, List.map_map] at this
  exact this
theorem shaped_td {l : List Nat} (h : Ok l) : SeqAt.shaped (.list (td l)) = true ∧ SeqAt.shaped (.tuple (td l)) = true := by
  have := shaped_strs (l.map nm) (fun y hy => by
    obtain ⟨i, hi, rfl⟩ := List.mem_map.mp hy
    exact lay_nm0 i (h i hi))
  rw [List.map_map] at this
  exact this
theorem eqvs_td : ∀ {l m : List Nat}, Ok l → Ok m → PyData.eqvAll (td l) (td m) = decide (l = m)
  | [], [], _, _ => rfl
  | [], _ :: _, _, _ => rfl
  | _ :: _, [], _, _ => rfl
  | i :: l, j :: m, h1, h2 => by
    have ih := eqvs_td h1.cons.2 h2.cons.2
    show (PyData.eqv (.str (nm i)) (.str (nm j)) && PyData.eqvAll (td l) (td m)) = _
    rw [ih]
    have e : PyData.eqv (.str (nm i)) (.str (nm j)) = decide (i = j) := by
      show decide (nm i = nm j) = _
      exact decide_eq_decide.mpr (nm_iff h1.cons.1 h2.cons.1)
    rw [e, ← Bool.decide_and]
    exact decide_eq_decide.mpr (List.cons.injEq .. ▸ Iff.rfl)
end SO

set_option Elab.async false
set_option linter.all false
set_option maxRecDepth 100000
set_option maxHeartbeats 6000000
/-! A dict is no tuple. -/
namespace DQ
open PySem PySem.Spec PyProof.Rows L2 SeqAt
section
variable {s : Shared} {A : Around}
theorem dict_declines (l b : Addr) (es : Array DictEntry) (items2 : Array Value) (n n2 : Nat) (dd dd2 : Option Addr) (sl sl2 : Array (Option Value)) :
    Meets (Builtin.«dict.__eq__» ⟨[.ref l, .ref b], []⟩) (fun _ R s => s.heap.get? l = some { cls := .type "dict", dict := dd, data := .dict es n, slots := sl } ∧ s.heap.get? b = some { cls := .type "tuple", dict := dd2, data := .seq items2 n2, slots := sl2 } ∧ R (.ok (.ret .notImplemented)) s) :=
  .of_wp fun _ _ _ _ ⟨hp, g, d, tk, os⟩ ⟨h1, h2, h⟩ => by
    have f1 := F.sub_tuple_dict
    wp_walk using wpAny_loadPart' h1, wpAny_loadPart' h2
    exact ⟨_, rfl, h⟩
theorem tuple_declines (l b : Addr) (es : Array DictEntry) (items : Array Value) (n n2 : Nat) (dd dd2 : Option Addr) (sl sl2 : Array (Option Value)) :
    Meets (Builtin.«tuple.__eq__» ⟨[.ref b, .ref l], []⟩) (fun _ R s => s.heap.get? b = some { cls := .type "tuple", dict := dd2, data := .seq items n2, slots := sl2 } ∧ s.heap.get? l = some { cls := .type "dict", dict := dd, data := .dict es n, slots := sl } ∧ R (.ok (.ret .notImplemented)) s) :=
  .of_wp fun _ _ _ _ ⟨hp, g, d, tk, os⟩ ⟨h1, h2, h⟩ => by
    have f1 := F.sub_dict_tuple
    wp_walk using wpAny_loadPart' h1, wpAny_loadPart' h2
    exact ⟨_, rfl, h⟩
/-- a dict on the left, a tuple on the right: no equality -/
theorem rc_dict_tuple {l b : Addr} {o : Obj} {es : Array DictEntry} {n : Nat} {items : Array Value} (ho : s.heap.get? l = some o) (hc : o.cls = .type "dict") (hd : o.data = .dict es n) (hb : s.heap.IsTuple b items) (hu : A.units < cLine) : RcAt A s (.ref l) (.ref b) false := fun prog w E Q h => by
  obtain ⟨⟨c2, dd2, d2, sl2⟩, ho2, z1, n2, z2⟩ := id hb
  cases (show c2 = Value.type "tuple" from z1)
  cases (show d2 = Data.seq items n2 from z2)
  obtain ⟨c1, dd, d1, sl⟩ := o
  cases (show c1 = Value.type "dict" from hc)
  cases (show d1 = Data.dict es n from hd)
  have ne : l ≠ b := fun z => by
    rw [z, ho2] at ho
    exact absurd (congrArg Obj.cls (Option.some.inj ho)) (show ¬ (Value.type "tuple" = Value.type "dict") by decide)
  refine rc_eq_decline_or (k := false) ⟨_, ho, rfl⟩ ⟨_, ho2, rfl⟩ (by decide) F.sub_tuple_dict F.slot_dict_eq F.slot_tuple_eq_refl (fun _ hq => ?_) (fun _ hq => ?_) (fun _ hq => wpAny_isSame_ref_other ne ho ho2 (by simp) hq) (.inr hu) h
  · exact call_meets F.slot_dict_eq ⟨_, ho, rfl⟩ F.entry_dict_eq (F.args_dict_eq_2 _ _) (dict_declines l b es items n n2 dd dd2 sl sl2) ⟨ho, ho2, hq⟩
  · exact call_meets F.slot_tuple_eq_refl ⟨_, ho2, rfl⟩ F.entry_tuple_eq (F.args_tuple_eq_2 _ _) (tuple_declines l b es items n n2 dd dd2 sl sl2) ⟨ho2, ho, hq⟩
end
theorem tup_is {h : Heap} {a : Addr} {its : Array Value} (p : IsTup h a its) : h.IsTuple a its := let ⟨o, e, c, n, d⟩ := p; ⟨o, e, c, n, d⟩
/-- == of data, or of a dict and a tuple -/
def rEqDT (K : PySem.W.Frag) : R2 := fun x y H Q => rEqD K x y H Q ∨ ∃ (d t : Addr) (kvs : List (Key × V)) (xs : List V), x = .ref d ∧ y = .ref t ∧ H d = some (.dK kvs) ∧ SqT K H t xs ∧ Q (.bl false) H
theorem op_eqDT {X : Cx} (hu : X.A.units + 64 < cLine) : OpR X (compareOp .Eq) (rEqDT X.K) := by
  intro pins s σ H x y v u Q I rx ry h0
  rcases h0 with h | ⟨d, t, kvs, xs, e1, e2, hd, ht, q⟩
  · exact op_eqD hu pins s σ H x y v u Q I rx ry h
  · subst e1
    subst e2
    obtain rfl : v = Value.ref d := rx
    obtain rfl : u = Value.ref t := ry
    obtain ⟨_, _, vs, _, ob, es, ep, ho, r⟩ := I.hok d _ hd
    obtain ⟨its, _, pt, _⟩ := I.tuple ht
    exact rc_dict_tuple ho r.1.1 r.2.1 (tup_is pt) (Nat.lt_of_le_of_lt (Nat.le_add_right _ 64) hu) X.prog X.w X.xe _ ⟨.bl false, H, I, rfl, q⟩
end DQ

set_option Elab.async false
set_option linter.all false
set_option maxRecDepth 100000
set_option maxHeartbeats 6000000
/-! A comprehension that picks: each item gives the list r x of none or some values; what else stands stays. -/
namespace LCX
open PySem L2 PyProof.Rows WK
open PySem.W (Frag)
theorem seqT {K : Frag} {H H' : Hp} {a : Addr} {xs : List V} (e : Same H H') (h : SqT K H a xs) : SqT K H' a xs := by
  rcases h with h | h
  · rcases h with h | ⟨ob, h⟩
    · exact .inl (.inl (e _ _ h))
    · exact .inl (.inr ⟨ob, e _ _ h⟩)
  · exact .inr h
theorem take_succ_flat {α : Type} (l : List α) (r : α → List V) (i : Nat) (x : α) (h : l[i]? = some x) : (l.take (i + 1)).flatMap r = (l.take i).flatMap r ++ r x := by
  rw [List.take_add_one, h]
  simp [List.flatMap_append]
theorem flat_filter {α : Type} (l : List α) (f : α → Bool) (v : α → V) : l.flatMap (fun x => if f x = true then [v x] else []) = (l.filter f).map v := by
  induction l with
  | nil => rfl
  | cons x l ih =>
    rw [List.flatMap_cons, ih, List.filter_cons]
    cases f x <;> rfl
theorem flat_map {α : Type} (l : List α) (v : α → V) : l.flatMap (fun x => [v x]) = l.map v := by
  induction l with
  | nil => rfl
  | cons x l ih => rw [List.flatMap_cons, ih] <;> rfl
theorem flat_len {α : Type} (l : List α) (r : α → List V) (h : ∀ x, (r x).length ≤ 1) : (l.flatMap r).length ≤ l.length := by
  induction l with
  | nil => exact Nat.le_refl _
  | cons x l ih =>
    rw [List.flatMap_cons, List.length_append, List.length_cons]
    have := h x
    omega
section
variable {K : Frag} {a D : Addr} {α : Type} {l : List α} {val : α → V} {r : α → List V} {g : TG} {tt : TT} {te : TE} {vs : List Nat} {σ : L2.St} {H1 : Hp} {Qd : Hp → Prop} {G : List V → Prop}
/-- one turn -/
abbrev Turn (g : TG) (tt : TT) (te : TE) (vs : List Nat) (σ : L2.St) (D : Addr) (x : V) (H : Hp) (N : Hp → Prop) : Prop := g x (wipe σ vs) H fun σ2 H2 => wipe σ2 vs = wipe σ vs ∧ tt σ2 H2 fun b H3 =>
  if b = true then te σ2 H3 fun y H4 => ∃ acc, H4 D = some (.lst acc) ∧ acc.length < sizeLine ∧ N (upd H4 D (.lst (acc ++ [y]))) else N H3
/-- what a comprehension asks that adds to the list at D what it picks -/
abbrev Went (J : It) (g : TG) (tt : TT) (te : TE) (vs : List Nat) (σ : L2.St) (D : Addr) (H1 : Hp) (Qd : Hp → Prop) : Prop :=
  ∃ W : Nat → Nat → Hp → Prop, (∃ m, W 0 m (upd H1 D (.lst []))) ∧ ∀ j n G, W j n G → (J.stop j G ∧ Qd G) ∨ (J.go j G ∧ ∃ N : Hp → Prop, (∀ G', N G' → ∃ n', n' < n ∧ W (j + 1) n' G') ∧ ∀ v G', J.yld j G v G' → Turn g tt te vs σ D v G' N)
/-- with an invariant of one's own -/
theorem pick_list (Iv : Hp → Prop) (h0 : Iv (upd H1 D (.lst []))) (hl : ∀ H, Iv H → SqL K H a (l.map val)) (hn : l.length < sizeLine) (hr : ∀ x, (r x).length ≤ 1)
    (hs : ∀ x ∈ l, ∀ H acc, Iv H → H D = some (.lst acc) → acc.length < sizeLine → ∀ N : Hp → Prop, (∀ H', Iv H' → H' D = some (.lst (acc ++ r x)) → N H') → Turn g tt te vs σ D (val x) H N)
    (hd : ∀ H, Iv H → H D = some (.lst (l.flatMap r)) → Qd H) :
    Went (Itl K a) g tt te vs σ D H1 Qd := by
  refine lc_list (K := K) (a := a) (xs := l.map val) (fun i H => Iv H ∧ H D = some (.lst ((l.take i).flatMap r))) ⟨h0, upd_same⟩ (fun i H _ p => hl H p.1) (fun i x H hx p => ?_) (fun H p => ?_)
  · rw [List.getElem?_map] at hx
    cases e : l[i]? with
    | none => rw [e] at hx; cases hx
    | some y =>
      rw [e] at hx
      obtain rfl : val y = x := Option.some.inj hx
      have hlen := flat_len (l.take i) r hr
      have : (l.take i).length ≤ l.length := by rw [List.length_take]; exact Nat.min_le_right ..
      exact hs y (List.mem_of_getElem? e) H _ p.1 p.2 (by omega) _ fun H' q1 q2 => ⟨q1, by rw [take_succ_flat l r i y e]; exact q2⟩
  · rw [List.length_map, List.take_length] at p
    exact hd H p.1 p.2
theorem pick_tup (Iv : Hp → Prop) (h0 : Iv (upd H1 D (.lst []))) (hl : ∀ H, Iv H → SqT K H a (l.map val)) (hn : l.length < sizeLine) (hr : ∀ x, (r x).length ≤ 1)
    (hs : ∀ x ∈ l, ∀ H acc, Iv H → H D = some (.lst acc) → acc.length < sizeLine → ∀ N : Hp → Prop, (∀ H', Iv H' → H' D = some (.lst (acc ++ r x)) → N H') → Turn g tt te vs σ D (val x) H N)
    (hd : ∀ H, Iv H → H D = some (.lst (l.flatMap r)) → Qd H) :
    Went (Itt K a) g tt te vs σ D H1 Qd := by
  refine lc_tup (K := K) (a := a) (xs := l.map val) (fun i H => Iv H ∧ H D = some (.lst ((l.take i).flatMap r))) ⟨h0, upd_same⟩ (fun i H _ p => hl H p.1) (fun i x H hx p => ?_) (fun H p => ?_)
  · rw [List.getElem?_map] at hx
    cases e : l[i]? with
    | none => rw [e] at hx; cases hx
    | some y =>
      rw [e] at hx
      obtain rfl : val y = x := Option.some.inj hx
      have hlen := flat_len (l.take i) r hr
      have : (l.take i).length ≤ l.length := by rw [List.length_take]; exact Nat.min_le_right ..
      exact hs y (List.mem_of_getElem? e) H _ p.1 p.2 (by omega) _ fun H' q1 q2 => ⟨q1, by rw [take_succ_flat l r i y e]; exact q2⟩
  · rw [List.length_map, List.take_length] at p
    exact hd H p.1 p.2
/-- nothing but new things: over a list, over a tuple -/
theorem same_list (hD : H1 D = none) (hl : SqL K H1 a (l.map val)) (hn : l.length < sizeLine) (hr : ∀ x, (r x).length ≤ 1)
    (hs : ∀ x ∈ l, ∀ H acc, Same H1 H → H D = some (.lst acc) → acc.length < sizeLine → ∀ N : Hp → Prop, (∀ H', Same H1 H' → H' D = some (.lst (acc ++ r x)) → N H') → Turn g tt te vs σ D (val x) H N)
    (hd : ∀ H, Same H1 H → H D = some (.lst (l.flatMap r)) → Qd H) :
    Went (Itl K a) g tt te vs σ D H1 Qd :=
  pick_list (Same H1) (same_upd hD) (fun H s => s.seq hl) hn hr hs hd
theorem same_tup (hD : H1 D = none) (hl : SqT K H1 a (l.map val)) (hn : l.length < sizeLine) (hr : ∀ x, (r x).length ≤ 1)
    (hs : ∀ x ∈ l, ∀ H acc, Same H1 H → H D = some (.lst acc) → acc.length < sizeLine → ∀ N : Hp → Prop, (∀ H', Same H1 H' → H' D = some (.lst (acc ++ r x)) → N H') → Turn g tt te vs σ D (val x) H N)
    (hd : ∀ H, Same H1 H → H D = some (.lst (l.flatMap r)) → Qd H) :
    Went (Itt K a) g tt te vs σ D H1 Qd :=
  pick_tup (Same H1) (same_upd hD) (fun H s => seqT s hl) hn hr hs hd
end
end LCX

set_option Elab.async false
set_option linter.all false
set_option maxRecDepth 100000
set_option maxHeartbeats 8000000
/-! What the program tells of sorts. -/
namespace WK
open PySem L2 PyProof.Rows SO LCX
open PySem.W (Frag kitOne)
abbrev sIsSort : Stmt := top 15
abbrev sNeed : Stmt := top 16
abbrev sBelow : Stmt := top 17
abbrev sUps : Stmt := top 18
abbrev sLows : Stmt := top 19
abbrev sJoin : Stmt := top 20
abbrev sLeast : Stmt := top 21
abbrev sUpSet : Stmt := top 22
abbrev sAre : Stmt := top 23
/-- a value that is no text -/
def NoText (K : Frag) (H : Hp) (v : V) : Prop := ∃ t, TyX K H v (.type t) ∧ kitOne K (.type t) (.type "str") = some false
def NoTup (K : Frag) (H : Hp) (v : V) : Prop := ∃ t, TyX K H v (.type t) ∧ kitOne K (.type t) (.type "tuple") = some false
def isS (x : Str) : Bool := all9.any fun i => decide (nm i = x)
theorem isS_nm : ∀ i < 9, isS (nm i) = true := by decide +kernel
/-- no sort -/
def Odd (K : Frag) (H : Hp) (v : V) : Prop := (∃ x, v = .str x ∧ isS x = false) ∨ NoText K H v
/-- the module's table of names, its dict, its error -/
structure TS (K : Frag) (w : World) (mg : Str → Option Value) (aS aA cO : Addr) : Prop where
  gS : mg "SORTS" = some (.ref aS)
  sS : ∀ H, SqT K H aS (tv all9)
  gA : mg "_ABOVE" = some (.ref aA)
  tA : ∀ i, i < 9 → ∃ t, KDct K w aA (nm i) (.ref t) ∧ ∀ H, SqT K H t (tv (tab i))
  gO : mg "InvalidOperation" = some (.ref cO)
  xO : PySem.W.excIn K cO [.type "ValueError", .type "Exception", .type "BaseException", .type "object"] "ValueError.__new__" = true
  kO : PySem.W.keepIn K (.ref cO) = true
  bO : PySem.W.subIn K (.ref cO) (.type "BaseException") = some true
  tO : PySem.W.typeIn K (.ref cO) = some (.type "type")
theorem no_pass {P : Program} {w : World} {X : Cx} : Passes (L2.CX P w) X (fun _ _ _ => False) := fun _ _ _ _ _ _ _ hc => by
  obtain ⟨a, B, H', cls, d, z1, fl, z2, ub, z3, z4, z5, z6⟩ := hc
  exact z6.elim
def spIsSort (K : Frag) : Sp := fun vs H Q _ => ∃ v, vs = [v] ∧ ((∃ x, v = .str x ∧ Q (.bl (isS x)) H) ∨ (NoText K H v ∧ Q (.bl false) H))
def spNeed (K : Frag) (cO : Addr) : Sp := fun vs H Q E => ∃ v, vs = [v] ∧ ((∃ i, i < 9 ∧ v = .str (nm i) ∧ Q .non H) ∨ (Odd K H v ∧ E (.ref cO) none H))
def spBelow (K : Frag) (cO : Addr) : Sp := fun vs H Q E => ∃ x y, vs = [x, y] ∧ ((∃ i j, i < 9 ∧ j < 9 ∧ x = .str (nm i) ∧ y = .str (nm j) ∧ Q (.bl (bel i j)) H) ∨ ((Odd K H x ∨ (∃ i, i < 9 ∧ x = .str (nm i)) ∧ Odd K H y) ∧ E (.ref cO) none H))
def spUps (K : Frag) (cO : Addr) (f : Nat → List Nat) : Sp := fun vs H Q E => ∃ x, vs = [x] ∧ ((∃ i, i < 9 ∧ x = .str (nm i) ∧ ∀ p H', H p = none → Same H H' → H' p = some (.tup (tv (f i))) → Q (.ref p) H') ∨ (Odd K H x ∧ E (.ref cO) none H))
section
variable {P : Program} {w : World} {K : PySem.W.Frag} {mg : Str → Option Value} {base : Heap} {aS aA cO : Addr}
theorem scIS : FnScope ["value"] ["value"] (defScope sIsSort) := ⟨rfl, rfl, rfl, by decide +kernel, rfl, by decide +kernel, by decide +kernel⟩
theorem ok_issort {f : Addr} {fd : FuncData} (F : Fun K "is_sort" "is_sort" sIsSort f fd) (T : TN mg) (S : TS K w mg aS aA cO) : FnOk P w K mg base CX0 1 f fd ["value"] (spIsSort K) := by
  refine F.ok scIS (fun vs H Q E h => ?_) (fun cdv A outer s H vs Q E hr h => ?_)
  · obtain ⟨v, rfl, _⟩ := h
    rfl
  · obtain ⟨v, rfl, h⟩ := h
    refine ⟨_, pss_one (ps_ret (pe_and (pe_callB call_isi (by rfl) T.isi (by decide +kernel) (pa_cons (pv 0) (pa_cons (pe_ty "str" T.str (by decide +kernel)) pa_nil)))
      (pe_one (pe_cmpR op_in_seq (pv 0) (pe_glob rfl S.gS (show RelV (.ref aS) (.ref aS) from rfl)) (by rfl))))), ?_⟩
    rcases h with ⟨x, rfl, q⟩ | ⟨⟨t, ty, hk⟩, q⟩
    · refine ⟨_, rfl, _, _, _, _, true, rfl, .ty "str", .base (.str _), kit_ty (by decide +kernel), true, rfl, ?_⟩
      refine ⟨_, rfl, aS, _, rfl, .inr (S.sS _), rfl, flat_tv _, ?_⟩
      rw [inV_str]
      exact q
    · exact ⟨_, rfl, _, _, _, _, false, rfl, .ty "str", ty, hk, false, rfl, q⟩
theorem scNe : FnScope ["sort"] ["sort"] (defScope sNeed) := ⟨rfl, rfl, rfl, by decide +kernel, rfl, by decide +kernel, by decide +kernel⟩
theorem ok_need {f g : Addr} {fd gd : FuncData} (F : Fun K "need_sort" "need_sort" sNeed f fd) (T : TN mg) (S : TS K w mg aS aA cO) (A1 : Fn K mg "is_sort" sIsSort ["value"] g gd) : FnOk P w K mg base (L2.CX P w) 2 f fd ["sort"] (spNeed K cO) := by
  have G1 : FnOk P w K mg base CX0 1 g gd ["value"] (spIsSort K) := ok_issort A1.F T S
  refine F.okX scNe (fun vs H Q E h => ?_) (fun cdv A outer s H vs Q E hr h => ?_)
  · obtain ⟨v, rfl, _⟩ := h
    rfl
  · obtain ⟨v, rfl, h⟩ := h
    refine ⟨_, pss_one (ps_if (pt_not (pt_val (pe_call G1 hr rfl A1.g A1.F.kp A1.b .nil pass0 (pa_cons (pv 0) pa_nil)))) (pss_one (ps_raise rfl (takes_of rfl rfl rfl rfl) (pmk_own PySem.F.excBase_ValueError S.xO S.gO S.kO (raises_own S.bO S.tO) rfl))) pss_nil), ?_⟩
    rcases h with ⟨i, hi, rfl, q⟩ | ⟨ho, q⟩
    · refine ⟨_, rfl, _, rfl, .inl ⟨nm i, rfl, _, rfl, ?_⟩⟩
      rw [isS_nm i hi]
      exact q
    · rcases ho with ⟨x, rfl, hx⟩ | hx
      · refine ⟨_, rfl, _, rfl, .inl ⟨x, rfl, _, rfl, ?_⟩⟩
        rw [hx]
        exact q
      · exact ⟨_, rfl, _, rfl, .inr ⟨hx, _, rfl, q⟩⟩
theorem scBe : FnScope ["sort", "other"] ["sort", "other"] (defScope sBelow) := ⟨rfl, rfl, rfl, by decide +kernel, rfl, by decide +kernel, by decide +kernel⟩
theorem tab_ok : ∀ i < 9, ∀ j ∈ tab i, j < 9 := by decide +kernel
theorem ok_below {f g : Addr} {fd gd : FuncData} (F : Fun K "is_below" "is_below" sBelow f fd) (S : TS K w mg aS aA cO) (A1 : Fn K mg "need_sort" sNeed ["sort"] g gd) (G1 : FnOk P w K mg base (L2.CX P w) 2 g gd ["sort"] (spNeed K cO)) : FnOk P w K mg base (L2.CX P w) 3 f fd ["sort", "other"] (spBelow K cO) := by
  refine F.okX scBe (fun vs H Q E h => ?_) (fun cdv A outer s H vs Q E hr h => ?_)
  · obtain ⟨x, y, rfl, _⟩ := h
    rfl
  · obtain ⟨x, y, rfl, h⟩ := h
    refine ⟨_, pss_cons (ps_expr (pe_call G1 hr rfl A1.g A1.F.kp A1.b .nil (passes_call (takes_of rfl rfl rfl rfl) (fun _ _ _ _ h => h)) (pa_cons (pv 0) pa_nil)))
      (pss_cons (ps_expr (pe_call G1 hr rfl A1.g A1.F.kp A1.b .nil (passes_call (takes_of rfl rfl rfl rfl) (fun _ _ _ _ h => h)) (pa_cons (pv 1) pa_nil)))
      (pss_one (ps_ret (pe_or (pe_cmpR op_eq (pv 0) (pv 1) (nomark _)) (pe_one (pe_cmpR op_in_seq (pv 1) (pe_ix ix_kdict (pe_glob rfl S.gA (show RelV (.ref aA) (.ref aA) from rfl)) (pv 0) (fun _ _ => rfl)) (by rfl))))))), ?_⟩
    rcases h with ⟨i, j, hi, hj, rfl, rfl, q⟩ | ⟨ho, q⟩
    · refine ⟨_, rfl, _, rfl, .inl ⟨i, hi, rfl, _, rfl, _, rfl, .inl ⟨j, hj, rfl, ?_⟩⟩⟩
      obtain ⟨t, ht, hT⟩ := S.tA i hi
      refine ⟨_, rfl, _, rfl, rfl, _, rfl, ?_⟩
      rw [eqV_nm hi hj]
      unfold bel at q
      by_cases e : i = j
      · rw [decide_eq_true e] at q ⊢
        exact q
      · rw [decide_eq_false e] at q ⊢
        refine ⟨_, rfl, _, rfl, aA, nm i, .ref t, rfl, rfl, ht, t, _, rfl, .inr (hT _), rfl, flat_tv _, ?_⟩
        rw [inV_nm hj (tab_ok i hi)]
        exact q
    · rcases ho with ho | ⟨⟨i, hi, rfl⟩, ho⟩
      · exact ⟨_, rfl, _, rfl, .inr ⟨ho, q⟩⟩
      · exact ⟨_, rfl, _, rfl, .inl ⟨i, hi, rfl, _, rfl, _, rfl, .inr ⟨ho, q⟩⟩⟩
end
end WK

set_option Elab.async false
set_option linter.all false
set_option maxRecDepth 100000
set_option maxHeartbeats 8000000
/-! Upper and lower sorts. -/
namespace WK
open PySem L2 PyProof.Rows SO LCX
open PySem.W (Frag kitOne)
section
variable {P : Program} {w : World} {K : PySem.W.Frag} {mg : Str → Option Value} {base : Heap} {aS aA cO : Addr}
theorem sz9 : (9 : Nat) < sizeLine := by rw [sizeLine_eq]; decide
theorem one_if {α : Type} {b : Bool} (x : α) : (if b = true then [x] else []).length ≤ 1 := by cases b <;> simp
theorem scUp : FnScope ["sort", "other"] ["sort"] (defScope sUps) := ⟨rfl, rfl, rfl, by decide +kernel, rfl, by decide +kernel, by decide +kernel⟩
theorem ok_ups {f g b : Addr} {fd gd bd : FuncData} (F : Fun K "uppers" "uppers" sUps f fd) (T : TN mg) (S : TS K w mg aS aA cO) (A1 : Fn K mg "need_sort" sNeed ["sort"] g gd) (G1 : FnOk P w K mg base (L2.CX P w) 2 g gd ["sort"] (spNeed K cO))
    (A2 : Fn K mg "is_below" sBelow ["sort", "other"] b bd) (G2 : FnOk P w K mg base (L2.CX P w) 3 b bd ["sort", "other"] (spBelow K cO)) : FnOk P w K mg base (L2.CX P w) 4 f fd ["sort"] (spUps K cO ups) := by
  refine F.okX scUp (fun vs H Q E h => ?_) (fun cdv A outer s H vs Q E hr h => ?_)
  · obtain ⟨x, rfl, _⟩ := h
    rfl
  · obtain ⟨x, rfl, h⟩ := h
    have hr2 : Room 2 _ := hr.mono (by decide)
    refine ⟨_, pss_cons (ps_expr (pe_call G1 hr2 rfl A1.g A1.F.kp A1.b .nil (passes_call (takes_of rfl rfl rfl rfl) (fun _ _ _ _ h => h)) (pa_cons (pv 0) pa_nil)))
      (pss_one (ps_ret (pe_callTy call_tuple_of (by rfl) T.tuple (by decide +kernel) (pa_cons (pe_lc (own := [("other", 1)]) (g := gName 1) rfl scUp.nd (pi_tup (pe_glob rfl S.gS (show RelV (.ref aS) (.ref aS) from rfl)))
        (blkOk_by (own := [("other", 1)]) (N := ["sort", "other"]) (sc := defScope sUps) (by decide +kernel)) (fun _ _ _ _ _ => pg_name (i := 1) scUp.nd rfl (Or.inl rfl))
        (fun _ _ _ _ _ => pts_one (pt_val (pe_call G2 hr rfl A2.g A2.F.kp A2.b .nil no_pass (pa_cons (pv 0) (pa_cons (pv 1) pa_nil))))) (fun _ _ _ _ _ => pv 1)) pa_nil)))), ?_⟩
    rcases h with ⟨i, hi, rfl, q⟩ | ⟨ho, q⟩
    · refine ⟨_, rfl, _, rfl, .inl ⟨i, hi, rfl, aS, rfl, ⟨_, S.sS _⟩, fun D hD => ?_⟩⟩
      refine same_tup (val := fun j => V.str (nm j)) (r := fun j => if bel i j = true then [V.str (nm j)] else []) hD (S.sS _) sz9 (fun _ => one_if _) (fun j hj H1 acc s1 hacc hlen N hN => ?_) (fun H1 s1 hd => ?_)
      · have hj9 := all9_mem.mp hj
        refine ⟨rfl, _, rfl, _, rfl, _, _, rfl, .inl ⟨i, j, hi, hj9, rfl, rfl, _, rfl, ?_⟩⟩
        cases e : bel i j with
        | true =>
          refine ⟨_, rfl, acc, hacc, hlen, hN _ (same_at s1 hD) ?_⟩
          rw [upd_same, e] <;> rfl
        | false =>
          refine hN _ s1 ?_
          rw [hacc, e]
          simp
      · rw [flat_filter] at hd
        refine ⟨D, _, rfl, .inl ⟨SqL.of hd, fun l hl => q l _ (s1.free hl) (same_two s1 hl) upd_same⟩⟩
    · exact ⟨_, rfl, _, rfl, .inr ⟨ho, q⟩⟩
theorem scLo : FnScope ["sort", "other"] ["sort"] (defScope sLows) := ⟨rfl, rfl, rfl, by decide +kernel, rfl, by decide +kernel, by decide +kernel⟩
theorem ok_lows {f g b : Addr} {fd gd bd : FuncData} (F : Fun K "lowers" "lowers" sLows f fd) (T : TN mg) (S : TS K w mg aS aA cO) (A1 : Fn K mg "need_sort" sNeed ["sort"] g gd) (G1 : FnOk P w K mg base (L2.CX P w) 2 g gd ["sort"] (spNeed K cO))
    (A2 : Fn K mg "is_below" sBelow ["sort", "other"] b bd) (G2 : FnOk P w K mg base (L2.CX P w) 3 b bd ["sort", "other"] (spBelow K cO)) : FnOk P w K mg base (L2.CX P w) 4 f fd ["sort"] (spUps K cO lows) := by
  refine F.okX scLo (fun vs H Q E h => ?_) (fun cdv A outer s H vs Q E hr h => ?_)
  · obtain ⟨x, rfl, _⟩ := h
    rfl
  · obtain ⟨x, rfl, h⟩ := h
    have hr2 : Room 2 _ := hr.mono (by decide)
    refine ⟨_, pss_cons (ps_expr (pe_call G1 hr2 rfl A1.g A1.F.kp A1.b .nil (passes_call (takes_of rfl rfl rfl rfl) (fun _ _ _ _ h => h)) (pa_cons (pv 0) pa_nil)))
      (pss_one (ps_ret (pe_callTy call_tuple_of (by rfl) T.tuple (by decide +kernel) (pa_cons (pe_lc (own := [("other", 1)]) (g := gName 1) rfl scLo.nd (pi_tup (pe_glob rfl S.gS (show RelV (.ref aS) (.ref aS) from rfl)))
        (blkOk_by (own := [("other", 1)]) (N := ["sort", "other"]) (sc := defScope sLows) (by decide +kernel)) (fun _ _ _ _ _ => pg_name (i := 1) scLo.nd rfl (Or.inl rfl))
        (fun _ _ _ _ _ => pts_one (pt_val (pe_call G2 hr rfl A2.g A2.F.kp A2.b .nil no_pass (pa_cons (pv 1) (pa_cons (pv 0) pa_nil))))) (fun _ _ _ _ _ => pv 1)) pa_nil)))), ?_⟩
    rcases h with ⟨i, hi, rfl, q⟩ | ⟨ho, q⟩
    · refine ⟨_, rfl, _, rfl, .inl ⟨i, hi, rfl, aS, rfl, ⟨_, S.sS _⟩, fun D hD => ?_⟩⟩
      refine same_tup (val := fun j => V.str (nm j)) (r := fun j => if bel j i = true then [V.str (nm j)] else []) hD (S.sS _) sz9 (fun _ => one_if _) (fun j hj H1 acc s1 hacc hlen N hN => ?_) (fun H1 s1 hd => ?_)
      · have hj9 := all9_mem.mp hj
        refine ⟨rfl, _, rfl, _, rfl, _, _, rfl, .inl ⟨j, i, hj9, hi, rfl, rfl, _, rfl, ?_⟩⟩
        cases e : bel j i with
        | true =>
          refine ⟨_, rfl, acc, hacc, hlen, hN _ (same_at s1 hD) ?_⟩
          rw [upd_same, e] <;> rfl
        | false =>
          refine hN _ s1 ?_
          rw [hacc, e]
          simp
      · rw [flat_filter] at hd
        exact ⟨D, _, rfl, .inl ⟨SqL.of hd, fun l hl => q l _ (s1.free hl) (same_two s1 hl) upd_same⟩⟩
    · exact ⟨_, rfl, _, rfl, .inr ⟨ho, q⟩⟩
end
end WK

set_option Elab.async false
set_option linter.all false
set_option maxRecDepth 100000
set_option maxHeartbeats 8000000
/-! Tuples of sorts: which they are, their least ones. -/
namespace WK
open PySem L2 PyProof.Rows SO LCX
open PySem.W (Frag kitOne)
def isV : V → Bool
  | .str z => isS z
  | _ => false
def ItemOk (x : V) : Prop := (∃ z, x = .str z) ∨ x = .non
theorem tyT {K : Frag} {H : Hp} {a : Addr} {xs : List V} (h : SqT K H a xs) : TyX K H (.ref a) (.type "tuple") := by
  rcases h with (h | ⟨o, h⟩) | ⟨o, its, n, h1, h2, _⟩
  · exact .base (.tup h)
  · exact .fTuple h
  · exact .kTuple h1 h2
theorem isV_tv {l : List Nat} (h : Ok l) : (tv l).all isV = true := by
  rw [List.all_eq_true]
  intro v hv
  obtain ⟨i, hi, rfl⟩ := List.mem_map.mp hv
  exact isS_nm i (h i hi)
theorem item_tv {l : List Nat} : ∀ x ∈ tv l, ItemOk x := fun v hv => by
  obtain ⟨i, _, rfl⟩ := List.mem_map.mp hv
  exact .inl ⟨_, rfl⟩
def spAre (K : Frag) : Sp := fun vs H Q _ => ∃ v, vs = [v] ∧ ((∃ a xs, v = .ref a ∧ SqT K H a xs ∧ xs.length ≤ 100 ∧ (∀ x ∈ xs, ItemOk x) ∧ ∀ H', Same H H' → Q (.bl (xs.all isV)) H') ∨ (NoTup K H v ∧ Q (.bl false) H))
/-- no tuple of sorts -/
def BadT (K : Frag) (H : Hp) (v : V) : Prop := NoTup K H v ∨ ∃ a xs, v = .ref a ∧ SqT K H a xs ∧ xs.length ≤ 100 ∧ (∀ x ∈ xs, ItemOk x) ∧ xs.all isV = false
def spLeast (K : Frag) (cO : Addr) : Sp := fun vs H Q E => ∃ v, vs = [v] ∧ ((∃ a l, v = .ref a ∧ SqT K H a (tv l) ∧ Ok l ∧ l.length ≤ 100 ∧ ∀ p H', H p = none → Same H H' → H' p = some (.tup (tv (leastC (keptC l)))) → Q (.ref p) H') ∨
  (BadT K H v ∧ ∀ H', Same H H' → E (.ref cO) none H'))
section
variable {P : Program} {w : World} {K : PySem.W.Frag} {mg : Str → Option Value} {base : Heap} {aS aA cO : Addr}
theorem scAr : FnScope ["value", "sort"] ["value"] (defScope sAre) := ⟨rfl, rfl, rfl, by decide +kernel, rfl, by decide +kernel, by decide +kernel⟩
theorem ok_are {f g : Addr} {fd gd : FuncData} (F : Fun K "_are_sorts" "_are_sorts" sAre f fd) (T : TN mg) (A1 : Fn K mg "is_sort" sIsSort ["value"] g gd) (G1 : FnOk P w K mg base CX0 1 g gd ["value"] (spIsSort K)) : FnOk P w K mg base CX0 2 f fd ["value"] (spAre K) := by
  refine F.ok scAr (fun vs H Q E h => ?_) (fun cdv A outer s H vs Q E hr h => ?_)
  · obtain ⟨v, rfl, _⟩ := h
    rfl
  · obtain ⟨v, rfl, h⟩ := h
    refine ⟨_, pss_one (ps_ret (pe_and (pe_callB call_isi (by rfl) T.isi (by decide +kernel) (pa_cons (pv 0) (pa_cons (pe_ty "tuple" T.tuple (by decide +kernel)) pa_nil)))
      (pe_one (pe_callB (cr_all rfl) (by rfl) T.all (by decide +kernel) (pa_cons (pe_lc (own := [("sort", 1)]) (g := gName 1) (tt := tYes) rfl scAr.nd (pi_tup (pv 0))
        (blkOk_by (own := [("sort", 1)]) (N := ["value", "sort"]) (sc := defScope sAre) (by decide +kernel)) (fun _ _ _ _ _ => pg_name (i := 1) scAr.nd rfl (Or.inl rfl)) (fun _ _ _ _ _ => pts_nil)
        (fun _ _ _ _ _ => pe_call G1 hr rfl A1.g A1.F.kp A1.b .nil pass0 (pa_cons (pv 1) pa_nil))) pa_nil))))), ?_⟩
    rcases h with ⟨a, xs, rfl, hT, hl, hx, q⟩ | ⟨⟨t, ty, hk⟩, q⟩
    · refine ⟨_, rfl, _, _, _, _, true, rfl, .ty "tuple", tyT hT, kit_ty (by decide +kernel), true, rfl, ?_⟩
      refine ⟨_, rfl, a, rfl, ⟨_, hT⟩, fun D hD => ?_⟩
      have hT' : SqT K H a (xs.map id) := by rw [List.map_id]; exact hT
      refine same_tup (val := id) (r := fun x => [V.bl (isV x)]) hD hT' (by rw [sizeLine_eq]; omega) (fun _ => Nat.le_refl _) (fun x hx' H1 acc s1 hacc hlen N hN => ?_) (fun H1 s1 hd => ?_)
      · have fin : ∀ b, b = isV x → N (upd H1 D (.lst (acc ++ [V.bl b]))) := fun b e => hN _ (same_at s1 hD) (by rw [upd_same, e])
        rcases hx x hx' with ⟨z, rfl⟩ | rfl
        · exact ⟨rfl, _, rfl, _, rfl, .inl ⟨z, rfl, acc, hacc, hlen, fin _ rfl⟩⟩
        · exact ⟨rfl, _, rfl, _, rfl, .inr ⟨⟨"NoneType", .base .non, kit_ty (by decide +kernel)⟩, acc, hacc, hlen, fin _ rfl⟩⟩
      · have e : xs.flatMap (fun x => [V.bl (isV x)]) = (xs.map isV).map V.bl := by rw [flat_map, List.map_map] <;> rfl
        rw [e] at hd
        have := q _ s1
        refine ⟨D, _, rfl, SqL.of hd, ?_⟩
        rw [List.all_map]
        exact this
    · exact ⟨_, rfl, _, _, _, _, false, rfl, .ty "tuple", ty, hk, false, rfl, q⟩
abbrev scLeI : Scope := { kind := .function, names := [(".0", .local), ("sort", .cell), ("any", .globalImplicit), ("lowers", .globalImplicit), ("kept", .cell)], isGenerator := false, isCoroutine := false }
theorem scLe : FnScope ["sorts", "kept", "sort", "other"] ["sorts"] (defScope sLeast) := ⟨rfl, rfl, rfl, by decide +kernel, rfl, by decide +kernel, by decide +kernel⟩
theorem ok_least {f g b : Addr} {fd gd bd : FuncData} (F : Fun K "least_of" "least_of" sLeast f fd) (T : TN mg) (S : TS K w mg aS aA cO) (A1 : Fn K mg "_are_sorts" sAre ["value"] g gd) (G1 : FnOk P w K mg base CX0 2 g gd ["value"] (spAre K))
    (A2 : Fn K mg "lowers" sLows ["sort"] b bd) (G2 : FnOk P w K mg base (L2.CX P w) 4 b bd ["sort"] (spUps K cO lows)) : FnOk P w K mg base (L2.CX P w) 5 f fd ["sorts"] (spLeast K cO) := by
  refine F.okX scLe (fun vs H Q E h => ?_) (fun cdv A outer s H vs Q E hr h => ?_)
  · obtain ⟨v, rfl, _⟩ := h
    rfl
  · obtain ⟨v, rfl, h⟩ := h
    have hr2 : Room 2 _ := hr.mono (by decide)
    refine ⟨_, pss_cons (ps_if (pt_not (pt_val (pe_call G1 hr2 rfl A1.g A1.F.kp A1.b .nil pass0 (pa_cons (pv 0) pa_nil)))) (pss_one (ps_raise rfl (takes_of rfl rfl rfl rfl) (pmk_own PySem.F.excBase_ValueError S.xO S.gO S.kO (raises_own S.bO S.tO) rfl))) pss_nil)
      (pss_cons (ps_set (i := 1) scLe.nd rfl (Or.inr rfl) (pe_lc (own := [("sort", 2)]) (g := gName 2) (tt := tTest (tOp (rIn K false) (tVar 2) (tVar 0))) rfl scLe.nd (pi_tup (pe_glob rfl S.gS (show RelV (.ref aS) (.ref aS) from rfl)))
        (blkOk_by (own := [("sort", 2)]) (N := ["sorts", "kept", "sort", "other"]) (sc := defScope sLeast) (by decide +kernel)) (fun _ _ _ _ _ => pg_name (i := 2) scLe.nd rfl (Or.inl rfl))
        (fun _ _ _ _ _ => pts_one (pt_cmpR op_in_seq (pv 2) (pv 0) (by rfl))) (fun _ _ _ _ _ => pv 2)))
      (pss_one (ps_ret (pe_callTy call_tuple_of (by rfl) T.tuple (by decide +kernel) (pa_cons (pe_lc (own := [("sort", 2)]) (g := gName 2) (tt := tNot (tB (tCB (rAny K) (tCons (tLc (iTup K (tCall (spUps K cO lows) [] (fun _ _ _ => False) (tCons (tVar 2) tNil))) (gName 3) (tTest (tOp rNe (tVar 3) (tVar 2))) (tOp (rIn K false) (tVar 3) (tVar 1)) [3]) tNil)))) rfl scLe.nd (pi_list (pv 1))
        (blkOk_by (own := [("sort", 2)]) (N := ["sorts", "kept", "sort", "other"]) (sc := defScope sLeast) (by decide +kernel)) (fun _ _ _ _ _ => pg_name (i := 2) scLe.nd rfl (Or.inr rfl))
        (fun _ _ _ _ _ => pts_one (pt_not (pt_val (pe_callB (cr_any rfl) (by rfl) T.any (by decide +kernel) (pa_cons (pe_lc (own := [("other", 3)]) (g := gName 3) (tt := tTest (tOp rNe (tVar 3) (tVar 2))) (te := tOp (rIn K false) (tVar 3) (tVar 1)) rfl scLe.nd
            (pi_tup (pe_call G2 hr rfl A2.g A2.F.kp A2.b .nil no_pass (pa_cons (pv 2) pa_nil)))
            (blkOk_by (own := [("other", 3)]) (N := ["sorts", "kept", "sort", "other"]) (sc := scLeI) (by decide +kernel)) (fun _ _ _ _ _ => pg_name (i := 3) scLe.nd rfl (Or.inl rfl)) (fun _ _ _ _ _ => pts_one (pt_cmpR op_ne (pv 3) (pv 2) (nomark _)))
            (fun _ _ _ _ _ => pe_cmpR op_in_seq (pv 3) (pv 1) (by rfl))) pa_nil))))) (fun _ _ _ _ _ => pv 2)) pa_nil))))), ?_⟩
    rcases h with ⟨a, l, rfl, hT, hl, hn, q⟩ | ⟨ho, q⟩
    · have hlen : (tv l).length ≤ 100 := by rw [tv, List.length_map]; exact hn
      refine ⟨_, rfl, _, rfl, .inl ⟨a, tv l, rfl, hT, hlen, item_tv, fun H0 s0 => ⟨_, rfl, ?_⟩⟩⟩
      rw [isV_tv hl]
      refine ⟨aS, rfl, ⟨_, S.sS _⟩, fun D hD => ?_⟩
      refine same_tup (val := fun j => V.str (nm j)) (r := fun j => if decide (j ∈ l) = true then [V.str (nm j)] else []) hD (S.sS _) sz9 (fun _ => one_if _) (fun j hj H1 acc s1 hacc hlen N hN => ?_) (fun H1 s1 hd => ?_)
      · have hj9 := all9_mem.mp hj
        refine ⟨rfl, _, rfl, _, rfl, a, tv l, rfl, .inr (seqT (s0.trans s1) hT), rfl, flat_tv _, _, rfl, ?_⟩
        rw [inV_nm hj9 hl]
        cases e : decide (j ∈ l) with
        | true =>
          refine ⟨_, rfl, acc, hacc, hlen, hN _ (same_at s1 hD) ?_⟩
          rw [upd_same, e] <;> rfl
        | false =>
          refine hN _ s1 ?_
          rw [hacc, e]
          simp
      · rw [flat_filter] at hd
        have hd : H1 D = some (.lst (tv (keptC l))) := hd
        have hk : Ok (keptC l) := ok_all9.filter _
        refine ⟨_, rfl, D, rfl, ⟨_, SqL.of hd⟩, fun D2 hD2 => ?_⟩
        refine same_list (l := keptC l) (val := fun j => V.str (nm j)) (r := fun s => if (!(((lows s).filter fun o => !decide (o = s)).map fun o => decide (o ∈ keptC l)).any id) = true then [V.str (nm s)] else []) hD2 (SqL.of hd)
          (Nat.lt_of_le_of_lt (List.length_filter_le _ _) sz9) (fun _ => one_if _) (fun j hj H2 acc s2 hacc hlen N hN => ?_) (fun H2 s2 hd2 => ?_)
        · have hj9 := hk j hj
          refine ⟨rfl, _, rfl, _, rfl, .inl ⟨j, hj9, rfl, fun p H3 hp s3 hup => ⟨p, rfl, ⟨_, SqT.of hup⟩, fun D3 hD3 => ?_⟩⟩⟩
          refine same_tup (l := lows j) (val := fun j => V.str (nm j)) (r := fun o => if (!decide (o = j)) = true then [V.bl (decide (o ∈ keptC l))] else []) hD3 (SqT.of hup) (Nat.lt_of_le_of_lt (List.length_filter_le _ _) sz9) (fun _ => one_if _)
            (fun o ho H4 acc4 s4 hacc4 hlen4 N4 hN4 => ?_) (fun H4 s4 hd4 => ?_)
          · have ho9 : o < 9 := all9_mem.mp (List.mem_filter.mp ho).1
            refine ⟨rfl, _, rfl, _, rfl, rfl, _, rfl, ?_⟩
            rw [eqV_nm ho9 hj9]
            cases e : (!decide (o = j)) with
            | true =>
              refine ⟨_, rfl, _, rfl, D, tv (keptC l), rfl, .inl (SqL.of (s4 _ _ (s3 _ _ (s2 _ _ hd)))), rfl, flat_tv _, acc4, hacc4, hlen4, hN4 _ (same_at s4 hD3) ?_⟩
              rw [upd_same, e]
              show some (HO.lst (acc4 ++ [V.bl (inV (V.str (nm o)) (tv (keptC l)))])) = _
              rw [inV_nm ho9 hk] <;> rfl
            | false =>
              refine hN4 _ s4 ?_
              rw [hacc4, e]
              simp
          · have e4 : (lows j).flatMap (fun o => if (!decide (o = j)) = true then [V.bl (decide (o ∈ keptC l))] else []) = (((lows j).filter fun o => !decide (o = j)).map fun o => decide (o ∈ keptC l)).map V.bl := by
              rw [flat_filter (v := fun o => V.bl (decide (o ∈ keptC l))), List.map_map] <;> rfl
            rw [e4] at hd4
            refine ⟨D3, _, rfl, SqL.of hd4, _, rfl, ?_⟩
            have s24 : Same H2 H4 := s3.trans s4
            cases e : ((((lows j).filter fun o => !decide (o = j)).map fun o => decide (o ∈ keptC l)).any id) with
            | false =>
              refine ⟨_, rfl, acc, s24 _ _ hacc, hlen, hN _ (same_at (s2.trans s24) hD2) ?_⟩
              rw [upd_same, e] <;> rfl
            | true =>
              refine hN _ (s2.trans s24) ?_
              rw [s24 _ _ hacc, e]
              simp
        · rw [flat_filter] at hd2
          refine ⟨D2, _, rfl, .inl ⟨SqL.of hd2, fun p hp => q p _ ?_ ?_ upd_same⟩⟩
          · exact ((s0.trans s1).trans s2).free hp
          · exact same_two ((s0.trans s1).trans s2) hp
    · rcases ho with ho | ⟨a, xs, rfl, hT, hl, hx, hf⟩
      · exact ⟨_, rfl, _, rfl, .inr ⟨ho, _, rfl, q _ (Same.refl H)⟩⟩
      · refine ⟨_, rfl, _, rfl, .inl ⟨a, xs, rfl, hT, hl, hx, fun H0 s0 => ⟨_, rfl, ?_⟩⟩⟩
        rw [hf]
        exact q _ s0
end
end WK

set_option Elab.async false
set_option linter.all false
set_option maxRecDepth 100000
set_option maxHeartbeats 8000000
/-! The joined sort; sets that go up. -/
namespace WK
open PySem L2 PyProof.Rows SO LCX
open PySem.W (Frag kitOne)
section
variable {n : Nat} {J : It} {Y : Nat → Hp → V → Hp → Prop} {G : Hp → Prop}
/-- a walk that counts: whatever is asked of a turn is asked of each turn below n, and what holds after the last one is what holds behind the walk -/
theorem counted (w : Walk J n G Y) {Turn : Nat → Hp → V → Hp → (Hp → Prop) → Prop} {Behind : Hp → Prop} {start : Hp} (At : Nat → Hp → Prop) (first : At 0 start) (low : ∀ i H, i ≤ n → At i H → G H)
    (turn : ∀ i x H H', i < n → At i H → Y i H x H' → Turn i H x H' (At (i + 1))) (last : ∀ H, At n H → Behind H) :
    ∃ V : Nat → Nat → Hp → Prop, (∃ k, V 0 k start) ∧ ∀ i k H, V i k H → (J.stop i H ∧ Behind H) ∨ (J.go i H ∧ ∃ Next : Hp → Prop, (∀ H', Next H' → ∃ k', k' < k ∧ V (i + 1) k' H') ∧ ∀ x H', J.yld i H x H' → Turn i H x H' Next) := by
  refine ⟨fun i k H => i + k = n ∧ At i H, ⟨n, Nat.zero_add n, first⟩, fun i k H ⟨sum, here⟩ => ?_⟩
  have g := low i H (by omega) here
  rcases Nat.eq_or_lt_of_le (show i ≤ n by omega) with rfl | more
  · exact Or.inl ⟨w.stops H g, last H here⟩
  · exact Or.inr ⟨w.goes i H more g, At (i + 1), fun H' next => ⟨k - 1, by omega, by omega, next⟩, fun x H' y => turn i x H H' more here (w.yields i H x H' more g y)⟩
end
def spJoin (K : Frag) (cO : Addr) : Sp := fun vs H Q E => ∃ x y, vs = [x, y] ∧ ((∃ i j, i < 9 ∧ j < 9 ∧ x = .str (nm i) ∧ y = .str (nm j) ∧ ∀ H' c, joinC i j = [c] → Same H H' → Q (.str (nm c)) H') ∨ ((Odd K H x ∨ (∃ i, i < 9 ∧ x = .str (nm i)) ∧ Odd K H y) ∧ E (.ref cO) none H))
def spUpSet (K : Frag) : Sp := fun vs H Q _ => ∃ v, vs = [v] ∧ ((∃ a xs, v = .ref a ∧ SqT K H a xs ∧ xs.length ≤ 100 ∧ (∀ x ∈ xs, ItemOk x) ∧ ((∃ l, xs = tv l ∧ Ok l ∧ ∀ H', Same H H' → Q (.bl (upC l)) H') ∨ (xs.all isV = false ∧ ∀ H', Same H H' → Q (.bl false) H'))) ∨ (NoTup K H v ∧ Q (.bl false) H))
section
variable {P : Program} {w : World} {K : PySem.W.Frag} {mg : Str → Option Value} {base : Heap} {aS aA cO : Addr}
theorem scJo : FnScope ["sort", "other", "above", "upper"] ["sort", "other"] (defScope sJoin) := ⟨rfl, rfl, rfl, by decide +kernel, rfl, by decide +kernel, by decide +kernel⟩
theorem ok_join {f g b u l : Addr} {fd gd bd ud ld : FuncData} (F : Fun K "joined" "joined" sJoin f fd) (T : TN mg) (S : TS K w mg aS aA cO) (A1 : Fn K mg "need_sort" sNeed ["sort"] g gd) (G1 : FnOk P w K mg base (L2.CX P w) 2 g gd ["sort"] (spNeed K cO))
    (A2 : Fn K mg "is_below" sBelow ["sort", "other"] b bd) (G2 : FnOk P w K mg base (L2.CX P w) 3 b bd ["sort", "other"] (spBelow K cO)) (A3 : Fn K mg "uppers" sUps ["sort"] u ud) (G3 : FnOk P w K mg base (L2.CX P w) 4 u ud ["sort"] (spUps K cO ups))
    (A4 : Fn K mg "least_of" sLeast ["sorts"] l ld) (G4 : FnOk P w K mg base (L2.CX P w) 5 l ld ["sorts"] (spLeast K cO)) : FnOk P w K mg base (L2.CX P w) 6 f fd ["sort", "other"] (spJoin K cO) := by
  refine F.okX scJo (fun vs H Q E h => ?_) (fun cdv A outer s H vs Q E hr h => ?_)
  · obtain ⟨x, y, rfl, _⟩ := h
    rfl
  · obtain ⟨x, y, rfl, h⟩ := h
    have hr2 : Room 2 _ := hr.mono (by decide)
    have hr3 : Room 3 _ := hr.mono (by decide)
    have hr4 : Room 4 _ := hr.mono (by decide)
    refine ⟨_, pss_cons (ps_expr (pe_call G1 hr2 rfl A1.g A1.F.kp A1.b .nil (passes_call (takes_of rfl rfl rfl rfl) (fun _ _ _ _ h => h)) (pa_cons (pv 0) pa_nil)))
      (pss_cons (ps_expr (pe_call G1 hr2 rfl A1.g A1.F.kp A1.b .nil (passes_call (takes_of rfl rfl rfl rfl) (fun _ _ _ _ h => h)) (pa_cons (pv 1) pa_nil)))
      (pss_cons (ps_setLc (i := 2) (own := [("upper", 3)]) (g := gName 3) rfl scJo.nd rfl rfl (sw_true rfl rfl rfl (by decide +kernel)) (pi_tup (pe_call G3 hr4 rfl A3.g A3.F.kp A3.b .nil no_pass (pa_cons (pv 0) pa_nil)))
        (blkOk_by (own := [("upper", 3)]) (N := ["sort", "other", "above", "upper"]) (sc := defScope sJoin) (by decide +kernel)) (fun _ _ _ _ _ => pg_name (i := 3) scJo.nd rfl (Or.inl rfl))
        (fun _ _ _ _ _ => pts_one (pt_val (pe_call G2 hr3 rfl A2.g A2.F.kp A2.b .nil no_pass (pa_cons (pv 1) (pa_cons (pv 3) pa_nil))))) (fun _ _ _ _ _ => pv 3))
      (pss_one (ps_ret (pe_ix ix_tup (pe_call G4 hr rfl A4.g A4.F.kp A4.b .nil no_pass (pa_cons (pe_callTy call_tuple_of (by rfl) T.tuple (by decide +kernel) (pa_cons (pv 2) pa_nil)) pa_nil)) pe_int (fun _ _ => rfl)))))), ?_⟩
    rcases h with ⟨i, j, hi, hj, rfl, rfl, q⟩ | ⟨ho, q⟩
    · refine ⟨_, rfl, _, rfl, .inl ⟨i, hi, rfl, _, rfl, _, rfl, .inl ⟨j, hj, rfl, ?_⟩⟩⟩
      refine ⟨_, rfl, _, rfl, .inl ⟨i, hi, rfl, fun p H0 hp s0 hup => ⟨p, rfl, ⟨_, SqT.of hup⟩, fun D hD => ?_⟩⟩⟩
      have hU : Ok (ups i) := ok_all9.filter _
      refine same_tup (l := ups i) (val := fun j => V.str (nm j)) (r := fun o => if bel j o = true then [V.str (nm o)] else []) hD (SqT.of hup) (Nat.lt_of_le_of_lt (List.length_filter_le _ _) sz9) (fun _ => one_if _) (fun o ho H1 acc s1 hacc hlen N hN => ?_) (fun H1 s1 hd => ?_)
      · have ho9 := hU o ho
        refine ⟨rfl, _, rfl, _, rfl, _, _, rfl, .inl ⟨j, o, hj, ho9, rfl, rfl, _, rfl, ?_⟩⟩
        cases e : bel j o with
        | true =>
          refine ⟨_, rfl, acc, hacc, hlen, hN _ (same_at s1 hD) ?_⟩
          rw [upd_same, e] <;> rfl
        | false =>
          refine hN _ s1 ?_
          rw [hacc, e]
          simp
      · rw [flat_filter] at hd
        refine ⟨_, rfl, D, _, rfl, .inl ⟨SqL.of hd, fun t ht => ?_⟩⟩
        have hl : Ok ((ups i).filter (bel j)) := hU.filter _
        have hn : ((ups i).filter (bel j)).length ≤ 100 := by
          have h1 := List.length_filter_le (bel j) (ups i)
          have h2 := List.length_filter_le (bel i) all9
          have h3 : all9.length = 9 := rfl
          show _ ≤ 100
          have h4 : (ups i).length ≤ 9 := by rw [← h3]; exact h2
          omega
        refine ⟨_, rfl, .inl ⟨t, (ups i).filter (bel j), rfl, SqT.of upd_same, hl, hn, fun p2 H2 hp2 s2 hL => ?_⟩⟩
        have hj1 := (join_is i hi j hj)
        obtain ⟨c, hc⟩ := List.length_eq_one_iff.mp hj1.2
        have hJ : joinC i j = [c] := hj1.1.trans hc
        have hL' : H2 p2 = some (.tup (tv [c])) := by rw [← hJ]; exact hL
        exact ⟨p2, _, _, _, rfl, rfl, SqT.of hL', atI_nat (j := 0) rfl, q _ c hJ (s0.trans ((same_two s1 ht).trans s2))⟩
    · rcases ho with ho | ⟨⟨i, hi, rfl⟩, ho⟩
      · exact ⟨_, rfl, _, rfl, .inr ⟨ho, q⟩⟩
      · exact ⟨_, rfl, _, rfl, .inl ⟨i, hi, rfl, _, rfl, _, rfl, .inr ⟨ho, q⟩⟩⟩
theorem flat9 (f : Nat → V) : ∀ l : List Nat, (l.flatMap fun s => (ups s).map f).length ≤ l.length * 9
  | [] => Nat.le_refl _
  | s :: l => by
    have ih := flat9 f l
    have h1 : (ups s).length ≤ 9 := List.length_filter_le _ all9
    rw [List.flatMap_cons, List.length_append, List.length_map, List.length_cons]
    omega
theorem scUS : FnScope ["value", "sort", "upper"] ["value"] (defScope sUpSet) := ⟨rfl, rfl, rfl, by decide +kernel, rfl, by decide +kernel, by decide +kernel⟩
theorem ok_upset {f g u : Addr} {fd gd ud : FuncData} (F : Fun K "is_up_set" "is_up_set" sUpSet f fd) (T : TN mg) (S : TS K w mg aS aA cO) (A1 : Fn K mg "_are_sorts" sAre ["value"] g gd) (G1 : FnOk P w K mg base CX0 2 g gd ["value"] (spAre K))
    (A3 : Fn K mg "uppers" sUps ["sort"] u ud) (G3 : FnOk P w K mg base (L2.CX P w) 4 u ud ["sort"] (spUps K cO ups)) : FnOk P w K mg base CX0 5 f fd ["value"] (spUpSet K) := by
  refine F.ok scUS (fun vs H Q E h => ?_) (fun cdv A outer s H vs Q E hr h => ?_)
  · obtain ⟨v, rfl, _⟩ := h
    rfl
  · obtain ⟨v, rfl, h⟩ := h
    have hr2 : Room 2 _ := hr.mono (by decide)
    refine ⟨_, pss_cons (ps_if (PW.pt (pw_or (pt_not (pt_val (pe_call G1 hr2 rfl A1.g A1.F.kp A1.b .nil pass0 (pa_cons (pv 0) pa_nil)))) (pw_or1 (pt_cmpR (op_neD hr.units) (pv 0)
          (pe_callTy call_tuple_of (by rfl) T.tuple (by decide +kernel) (pa_cons (pe_lc (own := [("sort", 1)]) (g := gName 1) (tt := tTest (tOp (rIn K false) (tVar 1) (tVar 0))) rfl scUS.nd (pi_tup (pe_glob rfl S.gS (show RelV (.ref aS) (.ref aS) from rfl)))
            (blkOk_by (own := [("sort", 1)]) (N := ["value", "sort", "upper"]) (sc := defScope sUpSet) (by decide +kernel)) (fun _ _ _ _ _ => pg_name (i := 1) scUS.nd rfl (Or.inl rfl)) (fun _ _ _ _ _ => pts_one (pt_cmpR op_in_seq (pv 1) (pv 0) (by rfl))) (fun _ _ _ _ _ => pv 1)) pa_nil)) (nomark _))))) (pss_one (ps_ret pe_bl)) pss_nil)
      (pss_one (ps_ret (pe_callB (cr_all rfl) (by rfl) T.all (by decide +kernel) (pa_cons (pe_lc2 (own := [("sort", 1), ("upper", 2)]) (vs1 := [2]) (wi1 := iTup K (tCall (spUps K cO ups) [] (fun _ _ _ => False) (tCons (tVar 1) tNil))) (g := gName 1) (g1 := gName 2) (tt := tYes) (tt1 := tYes) (te := tOp (rIn K false) (tVar 2) (tVar 0)) rfl scUS.nd
          (pi_tup (pv 0)) (blkOk_by (own := [("sort", 1), ("upper", 2)]) (N := ["value", "sort", "upper"]) (sc := defScope sUpSet) (by decide +kernel)) (by decide) (fun _ _ _ _ _ => pg_name (i := 1) scUS.nd rfl (Or.inl rfl)) (fun _ _ _ _ _ => pts_nil)
          (fun _ _ _ _ _ => pi_tup (pe_call G3 hr rfl A3.g A3.F.kp A3.b .nil no_pass (pa_cons (pv 1) pa_nil))) (fun _ _ _ _ _ => pg_name (i := 2) scUS.nd rfl (Or.inl rfl)) (fun _ _ _ _ _ => pts_nil) (fun _ _ _ _ _ => pe_cmpR op_in_seq (pv 2) (pv 0) (by rfl))) pa_nil)))), ?_⟩
    rcases h with ⟨a, xs, rfl, hT, hn, hx, ⟨l, rfl, hl, q⟩ | ⟨hf, q⟩⟩ | ⟨ho, q⟩
    · refine ⟨_, rfl, _, rfl, .inl ⟨a, _, rfl, hT, hn, hx, fun H0 s0 => ⟨_, rfl, ?_⟩⟩⟩
      rw [isV_tv hl]
      refine ⟨_, rfl, aS, rfl, ⟨_, S.sS _⟩, fun D hD => ?_⟩
      refine same_tup (l := all9) (val := fun j => V.str (nm j)) (r := fun j => if decide (j ∈ l) = true then [V.str (nm j)] else []) hD (S.sS _) sz9 (fun _ => one_if _) (fun j hj H1 acc s1 hacc hlen N hN => ?_) (fun H1 s1 hd => ?_)
      · have hj9 := all9_mem.mp hj
        refine ⟨rfl, _, rfl, _, rfl, a, tv l, rfl, .inr (seqT (s0.trans s1) hT), rfl, flat_tv _, _, rfl, ?_⟩
        rw [inV_nm hj9 hl]
        cases e : decide (j ∈ l) with
        | true =>
          refine ⟨_, rfl, acc, hacc, hlen, hN _ (same_at s1 hD) ?_⟩
          rw [upd_same, e] <;> rfl
        | false =>
          refine hN _ s1 ?_
          rw [hacc, e]
          simp
      · rw [flat_filter] at hd
        have hd : H1 D = some (.lst (tv (keptC l))) := hd
        have hk : Ok (keptC l) := ok_all9.filter _
        refine ⟨D, _, rfl, .inl ⟨SqL.of hd, fun t ht => ?_⟩⟩
        have s2 : Same H (upd H1 t (.tup (tv (keptC l)))) := same_two (s0.trans s1) ht
        refine ⟨.tuple (td l), .tuple (td (keptC l)), .tup (seqT s2 hT) (dp_td l), .tup (SqT.of upd_same) (dp_td _), (shaped_td hl).2, (shaped_td hk).2, _, rfl, ?_⟩
        have ev : PyData.eqv (.tuple (td l)) (.tuple (td (keptC l))) = decide (l = keptC l) := eqvs_td hl hk
        rw [ev]
        generalize upd H1 t (.tup (tv (keptC l))) = H2 at s2 ⊢
        unfold upC at q
        by_cases el : l = keptC l
        · rw [decide_eq_true el] at q ⊢
          refine ⟨_, rfl, a, rfl, ⟨_, seqT s2 hT⟩, fun D2 hD2 => ?_⟩
          refine counted walk_tup (fun i H3 => Same H2 H3 ∧ H3 D2 = some (.lst ((l.take i).flatMap fun s => (ups s).map fun u => V.bl (decide (u ∈ l))))) ⟨same_upd hD2, upd_same⟩ (fun i H3 _ p => seqT (s2.trans p.1) hT) ?_ ?_
          · rintro i x H3 H4 hi ⟨s3, hd3⟩ ⟨rfl, hx3⟩
            rw [tv, List.getElem?_map] at hx3
            cases hc : l[i]? with
            | none => rw [hc] at hx3; cases hx3
            | some s =>
              rw [hc] at hx3
              obtain rfl : V.str (nm s) = x := Option.some.inj hx3
              have hs9 := hl s (List.mem_of_getElem? hc)
              have hln : l.length ≤ 100 := by rw [tv, List.length_map] at hn; exact hn
              refine ⟨rfl, _, rfl, _, rfl, .inl ⟨s, hs9, rfl, fun p H5 hp s5 hup => ⟨p, rfl, ⟨_, SqT.of hup⟩, ?_⟩⟩⟩
              have pD : p ≠ D2 := fun z => by rw [z, hd3] at hp; cases hp
              refine counted walk_tup (fun j H6 => Same H2 H6 ∧ H6 p = some (.tup (tv (ups s))) ∧ H6 D2 = some (.lst (((l.take i).flatMap fun s => (ups s).map fun u => V.bl (decide (u ∈ l))) ++ ((ups s).take j).map fun u => V.bl (decide (u ∈ l)))))
                ⟨s3.trans s5, hup, by rw [List.take_zero, List.map_nil, List.append_nil]; exact s5 _ _ hd3⟩ (fun j H6 _ p => SqT.of p.2.1) ?_ ?_
              · rintro j y H6 H7 hj ⟨s6, hp6, hd6⟩ ⟨rfl, hy⟩
                rw [tv, List.getElem?_map] at hy
                cases hc2 : (ups s)[j]? with
                | none => rw [hc2] at hy; cases hy
                | some o =>
                  rw [hc2] at hy
                  obtain rfl : V.str (nm o) = y := Option.some.inj hy
                  have ho9 : o < 9 := all9_mem.mp (List.mem_filter.mp (List.mem_of_getElem? hc2)).1
                  refine ⟨rfl, _, rfl, _, rfl, a, tv l, rfl, .inr (seqT (s2.trans s6) hT), rfl, flat_tv _, _, hd6, ?_, same_at s6 hD2, by rw [upd_ne pD]; exact hp6, ?_⟩
                  · have h1 := flat9 (fun u => V.bl (decide (u ∈ l))) (l.take i)
                    have h2 : (l.take i).length ≤ l.length := by rw [List.length_take]; exact Nat.min_le_right ..
                    have h3 : ((ups s).take j).length ≤ 9 := Nat.le_trans (by rw [List.length_take]; exact Nat.min_le_right ..) (List.length_filter_le _ all9)
                    rw [List.length_append, List.length_map, sizeLine_eq]
                    omega
                  · rw [upd_same, List.take_add_one, hc2, List.map_append, ← List.append_assoc]
                    show some (HO.lst (_ ++ [V.bl (inV (V.str (nm o)) (tv l))])) = _
                    rw [inV_nm ho9 hl] <;> rfl
              · rintro H6 ⟨s6, _, hd6⟩
                refine ⟨s6, ?_⟩
                rw [hd6, take_succ_flat l _ i s hc, show (tv (ups s)).length = (ups s).length from List.length_map _, List.take_length]
          · rintro H3 ⟨s3, hd3⟩
            rw [show (tv l).length = l.length from List.length_map _, List.take_length] at hd3
            have eb : (l.flatMap fun s => (ups s).map fun u => V.bl (decide (u ∈ l))) = (l.flatMap fun s => (ups s).map fun u => decide (u ∈ l)).map V.bl := by
              rw [List.map_flatMap]
              refine congrArg (fun f => l.flatMap f) (funext fun s => ?_)
              rw [List.map_map] <;> rfl
            rw [eb] at hd3
            refine ⟨D2, _, rfl, SqL.of hd3, ?_⟩
            have eq : ((l.flatMap fun s => (ups s).map fun u => decide (u ∈ l)).all id) = (true && l.all fun s => (ups s).all fun u => decide (u ∈ l)) := by
              rw [List.all_flatMap, Bool.true_and]
              refine congrArg (fun f => l.all f) (funext fun s => ?_)
              rw [List.all_map] <;> rfl
            rw [eq]
            exact q _ (s2.trans s3)
        · rw [decide_eq_false el] at q ⊢
          exact q _ s2
    · refine ⟨_, rfl, _, rfl, .inl ⟨a, _, rfl, hT, hn, hx, fun H0 s0 => ⟨_, rfl, ?_⟩⟩⟩
      rw [hf]
      exact q _ s0
    · exact ⟨_, rfl, _, rfl, .inr ⟨ho, _, rfl, q⟩⟩
end
end WK

set_option Elab.async false
set_option linter.all false
set_option maxRecDepth 100000
set_option maxHeartbeats 8000000
/-! The law's own walk above a sort. -/
namespace WK
open PySem L2 PyProof.Rows SO LCX
open PySem.W (Frag kitOne)
abbrev sAbove : Stmt := top 30
/-- tuples of the names of two sorts -/
def Prs (H : Hp) : List Addr → List (Nat × Nat) → Prop
  | [], [] => True
  | a :: as, p :: ps => H a = some (.tup [.str (nm p.1), .str (nm p.2)]) ∧ Prs H as ps
  | _, _ => False
theorem Prs.same {H H' : Hp} (s : Same H H') : ∀ {as : List Addr} {ps : List (Nat × Nat)}, Prs H as ps → Prs H' as ps
  | [], [], _ => trivial
  | _ :: _, _ :: _, h => ⟨s _ _ h.1, Prs.same s h.2⟩
  | [], _ :: _, h => h.elim
  | _ :: _, [], h => h.elim
theorem Prs.but {H : Hp} {l : Addr} {xs : List V} {o : HO} (e : H l = some (.lst xs)) : ∀ {as : List Addr} {ps : List (Nat × Nat)}, Prs H as ps → Prs (upd H l o) as ps
  | [], [], _ => trivial
  | a :: _, p :: _, h => by
    have h1 : H a = some (.tup [.str (nm p.1), .str (nm p.2)]) := h.1
    refine ⟨?_, Prs.but e h.2⟩
    rw [upd_ne (fun z => by rw [z, e] at h1; cases h1)]
    exact h1
  | [], _ :: _, h => h.elim
  | _ :: _, [], h => h.elim
theorem Prs.app {H : Hp} : ∀ {as bs : List Addr} {ps qs : List (Nat × Nat)}, Prs H as ps → Prs H bs qs → Prs H (as ++ bs) (ps ++ qs)
  | [], _, [], _, _, h => h
  | _ :: _, _, _ :: _, _, h, h2 => ⟨h.1, Prs.app h.2 h2⟩
  | [], _, _ :: _, _, h, _ => h.elim
  | _ :: _, _, [], _, h, _ => h.elim
theorem Prs.len {H : Hp} : ∀ {as : List Addr} {ps : List (Nat × Nat)}, Prs H as ps → as.length = ps.length
  | [], [], _ => rfl
  | _ :: _, _ :: _, h => by rw [List.length_cons, List.length_cons, h.2.len]
  | [], _ :: _, h => h.elim
  | _ :: _, [], h => h.elim
theorem Prs.get {H : Hp} : ∀ {as : List Addr} {ps : List (Nat × Nat)} {i : Nat} {a : Addr}, Prs H as ps → as[i]? = some a → ∃ p, ps[i]? = some p ∧ H a = some (.tup [.str (nm p.1), .str (nm p.2)])
  | [], [], i, a, _, e => by simp at e
  | b :: as, p :: ps, 0, a, h, e => by
    have : b = a := Option.some.inj e
    exact ⟨p, rfl, by rw [← this]; exact h.1⟩
  | b :: as, p :: ps, i + 1, a, h, e => h.2.get (i := i) e
  | [], _ :: _, _, _, h, _ => h.elim
  | _ :: _, [], _, _, h, _ => h.elim
theorem Prs.snoc {H : Hp} {t : Addr} {as : List Addr} {ps : List (Nat × Nat)} (p : Nat × Nat) (h : Prs H as ps) (ht : H t = none) : Prs (upd H t (.tup [.str (nm p.1), .str (nm p.2)])) (as ++ [t]) (ps ++ [p]) := (h.same (same_upd ht)).app ⟨upd_same, trivial⟩
theorem szl {xs : List V} (h : xs.length ≤ 100) : xs.length ≤ sizeLine := by rw [sizeLine_eq]; omega
theorem via {H0 : Hp} {R : Hp → Prop} {C : Hp → Prop} (h : C H0) (k : ∀ G, C G → R G) : R H0 := k _ h
def spAbove : Sp := fun vs H Q _ => ∃ i, i < 9 ∧ vs = [.str (nm i)] ∧ ∀ p H', H p = none → Same H H' → H' p = some (.lst (tv (abv i))) → Q (.ref p) H'
def muAb : L2.St → Hp → Nat := fun σ H => match σ with
  | [_, _, _, some (.int k), _, _] => (10 - k).toNat
  | _ => 0
abbrev NA : List Str := ["_law_sort", "_law_steps", "_law_found", "_law_at", "_law_low", "_law_high"]
abbrev oA : List (Str × Nat) := [("_law_low", 4), ("_law_high", 5)]
theorem steps_ok : ∀ p ∈ steps, p.1 < 9 ∧ p.2 < 9 := by decide +kernel
theorem extC_few : ∀ i < 9, ∀ k < 6, (stC i (k + 1)).length ≤ 9 := by decide +kernel
theorem st_get : ∀ i < 9, ∀ k < 6, k < (stC i k).length → ∃ c < 9, (stC i k)[k]? = some c ∧ (stC i k).getD k 99 = c := by decide +kernel
section
variable {P : Program} {w : World} {K : PySem.W.Frag} {mg : Str → Option Value} {base : Heap} {aS aA cO : Addr}
theorem scAb : FnScope NA ["_law_sort"] (defScope sAbove) := ⟨rfl, rfl, rfl, by decide +kernel, rfl, by decide +kernel, by decide +kernel⟩
theorem ok_above {f : Addr} {fd : FuncData} (F : Fun K "_law_above" "_law_above" sAbove f fd) (T : TN mg) : FnOk P w K mg base CX0 1 f fd ["_law_sort"] spAbove := by
  refine F.ok scAb (fun vs H Q E h => ?_) (fun cdv A outer s H vs Q E hr h => ?_)
  · obtain ⟨i, _, rfl, _⟩ := h
    rfl
  · obtain ⟨i, hi, rfl, q⟩ := h
    refine ⟨_, pss_cons (ps_set (i := 1) scAb.nd rfl (Or.inl rfl) (pe_lst (pa_cons (pe_tup (pa_cons pe_str (pa_cons pe_str pa_nil))) (pa_cons (pe_tup (pa_cons pe_str (pa_cons pe_str pa_nil))) (pa_cons (pe_tup (pa_cons pe_str (pa_cons pe_str pa_nil)))
        (pa_cons (pe_tup (pa_cons pe_str (pa_cons pe_str pa_nil))) (pa_cons (pe_tup (pa_cons pe_str (pa_cons pe_str pa_nil))) pa_nil)))))))
      (pss_cons (ps_set (i := 1) scAb.nd rfl (Or.inl rfl) (pe_op op_cat (pv 1) (pe_lst (pa_cons (pe_tup (pa_cons pe_str (pa_cons pe_str pa_nil))) (pa_cons (pe_tup (pa_cons pe_str (pa_cons pe_str pa_nil))) (pa_cons (pe_tup (pa_cons pe_str (pa_cons pe_str pa_nil)))
        (pa_cons (pe_tup (pa_cons pe_str (pa_cons pe_str pa_nil))) pa_nil)))))))
      (pss_cons (ps_asg (pe_tup (pa_cons (pe_lst (pa_cons (pv 0) pa_nil)) (pa_cons pe_int pa_nil))) (pg_tup (by rfl) (pgs_cons (pg_name (i := 2) scAb.nd rfl (Or.inr rfl)) (pgs_cons (pg_name (i := 3) scAb.nd rfl (Or.inr rfl)) pgs_nil))))
      (pss_cons (ps_while PassesOwn.never (pt_cmpR op_lt (pv 3) (pe_callB call_len_seq (by rfl) T.len PySem.boot_len (pa_cons (pv 2) pa_nil)) (nomark _))
        (pss_cons (ps_expr (pe_bm PySem.F.plainAttrs_list PySem.F.slot_list_extend PySem.F.type_list_extend mt_extend (pv 2) (pa_cons
          (pe_lc (own := oA) (g := gTup K 2 (gCons (gName 4) (gCons (gName 5) gNil))) (tt := tAnd (tTest (tOp rEq (tVar 4) (tOp (rIxL K) (tVar 2) (tVar 3)))) (tTest (tOp (rIn K true) (tVar 5) (tVar 2)))) (te := tVar 5) rfl scAb.nd
            (pi_list (pe_op op_cat (pv 1) (pe_lst (pa_cons (pe_tup (pa_cons pe_str (pa_cons pe_str pa_nil))) pa_nil))))
            (blkOk_by (own := oA) (N := NA) (sc := defScope sAbove) (by decide +kernel)) (fun _ _ _ _ _ => pg_tup (by rfl) (pgs_cons (pg_name (i := 4) scAb.nd rfl (Or.inl rfl)) (pgs_cons (pg_name (i := 5) scAb.nd rfl (Or.inl rfl)) pgs_nil)))
            (fun _ _ _ _ _ => pts_one (PW.pt (pw_and (pt_cmpR op_eq (pv 4) (pe_ix ix_list (pv 2) (pv 3) (fun _ _ => rfl)) (nomark _)) (pw_and1 (pt_cmpR op_notIn_seq (pv 5) (pv 2) (by rfl)))))) (fun _ _ _ _ _ => pv 5)) pa_nil)))
        (pss_one (ps_set (i := 3) scAb.nd rfl (Or.inr rfl) (pe_op op_add (pv 3) pe_int)))))
      (pss_one (ps_ret (pv 2)))))), ?_⟩
    have two : (2 : Nat) ≤ sizeLine := by rw [sizeLine_eq]; decide
    refine ⟨two, fun t1 h1 => ⟨two, fun t2 h2 => ⟨two, fun t3 h3 => ⟨two, fun t4 h4 => ⟨two, fun t5 h5 => ⟨szl (by show 5 ≤ 100; decide), fun l0 hl0 => ?_⟩⟩⟩⟩⟩⟩
    have s5 := same_two (same_two (same_two (same_two (same_upd h1 (o := .tup [.str (nm 2), .str (nm 5)])) h2 (o := .tup [.str (nm 2), .str (nm 4)])) h3 (o := .tup [.str (nm 3), .str (nm 4)])) h4 (o := .tup [.str (nm 3), .str (nm 7)])) h5 (o := .tup [.str (nm 0), .str (nm 6)])
    have p5 : Prs _ [t1, t2, t3, t4, t5] [(2, 5), (2, 4), (3, 4), (3, 7), (0, 6)] := ((((Prs.snoc (H := H) (as := []) (ps := []) (2, 5) trivial h1).snoc (2, 4) h2).snoc (3, 4) h3).snoc (3, 7) h4).snoc (0, 6) h5
    refine via (C := fun G => Same H G ∧ G l0 = some (.lst ([t1, t2, t3, t4, t5].map V.ref)) ∧ Prs G [t1, t2, t3, t4, t5] [(2, 5), (2, 4), (3, 4), (3, 7), (0, 6)]) ⟨same_two s5 hl0, upd_same, p5.same (same_upd hl0)⟩ ?_
    rintro G ⟨s6, e6, p6⟩
    clear p5 s5 hl0 h5 h4 h3 h2 h1
    refine ⟨_, rfl, two, fun u1 g1 => ⟨two, fun u2 g2 => ⟨two, fun u3 g3 => ⟨two, fun u4 g4 => ⟨szl (by show 4 ≤ 100; decide), fun m0 hm0 => ?_⟩⟩⟩⟩⟩
    have s7 := same_two (same_two (same_two (same_upd g1 (o := .tup [.str (nm 1), .str (nm 6)])) g2 (o := .tup [.str (nm 5), .str (nm 6)])) g3 (o := .tup [.str (nm 6), .str (nm 8)])) g4 (o := .tup [.str (nm 4), .str (nm 8)])
    have p7 : Prs _ [u1, u2, u3, u4] [(1, 6), (5, 6), (6, 8), (4, 8)] := (((Prs.snoc (H := G) (as := []) (ps := []) (1, 6) trivial g1).snoc (5, 6) g2).snoc (6, 8) g3).snoc (4, 8) g4
    refine via (C := fun G' => Same G G' ∧ G' m0 = some (.lst ([u1, u2, u3, u4].map V.ref)) ∧ Prs G' [u1, u2, u3, u4] [(1, 6), (5, 6), (6, 8), (4, 8)]) ⟨same_two s7 hm0, upd_same, p7.same (same_upd hm0)⟩ ?_
    rintro G' ⟨s8, e8, p8⟩
    clear p7 s7 hm0 g4 g3 g2 g1
    refine ⟨l0, m0, _, _, rfl, rfl, s8 _ _ e6, e8, (by rw [sizeLine_eq]; show 9 ≤ 16777216; decide), fun ls hls => ?_⟩
    have p9 : Prs G' [t1, t2, t3, t4, t5, u1, u2, u3, u4] [(2, 5), (2, 4), (3, 4), (3, 7), (0, 6), (1, 6), (5, 6), (6, 8), (4, 8)] := (p6.same s8).app p8
    refine via (C := fun G2 => Same H G2 ∧ G2 ls = some (.lst ([t1, t2, t3, t4, t5, u1, u2, u3, u4].map V.ref)) ∧ Prs G2 [t1, t2, t3, t4, t5, u1, u2, u3, u4] [(2, 5), (2, 4), (3, 4), (3, 7), (0, 6), (1, 6), (5, 6), (6, 8), (4, 8)]) ⟨same_two (s6.trans s8) hls, upd_same, p9.same (same_upd hls)⟩ ?_
    rintro G2 ⟨s9, e9, q9⟩
    clear p9 hls p8 e8 s8 p6 e6 s6
    generalize [t1, t2, t3, t4, t5, u1, u2, u3, u4] = ts at e9 q9
    refine ⟨_, rfl, (by rw [sizeLine_eq]; show 1 ≤ 16777216; decide), fun lf hlf => ⟨two, fun tp htp => ?_⟩⟩
    refine ⟨tp, _, rfl, SqT.of upd_same, rfl, _, _, rfl, _, _, rfl, rfl, ?_⟩
    have nlf : H lf = none := s9.free hlf
    have lsf : ls ≠ lf := fun z => by rw [z, hlf] at e9; cases e9
    refine while_by (fun σ H1 => ∃ k : Nat, k ≤ 5 ∧ k ≤ (stC i k).length ∧ σ = [some (.str (nm i)), some (.ref ls), some (.ref lf), some (.int k), none, none] ∧ Same H H1 ∧ H1 ls = some (.lst (ts.map V.ref)) ∧ Prs H1 ts [(2, 5), (2, 4), (3, 4), (3, 7), (0, 6), (1, 6), (5, 6), (6, 8), (4, 8)] ∧ H1 lf = some (.lst (tv (stC i k)))) muAb ?_ ?_ ?_
    · exact ⟨0, Nat.zero_le _, Nat.zero_le _, rfl, same_two (same_at s9 nlf) htp, same_two (same_upd hlf) htp _ _ e9, (q9.same (same_two (same_upd hlf) htp)), same_upd htp _ _ upd_same⟩
    · rintro σ H1 ⟨k, hk5, hkl, rfl, s1, els, qls, elf⟩
      refine ⟨_, rfl, _, rfl, lf, _, rfl, .inl (SqL.of elf), _, _, rfl, rfl, _, rfl, ?_⟩
      have few := st_few i hi k (by omega)
      have e0 : ((tv (stC i k)).length : Int) = ((stC i k).length : Int) := by rw [tv, List.length_map]
      rw [e0]
      by_cases hlt : k < (stC i k).length
      · rw [decide_eq_true (show (k : Int) < ((stC i k).length : Int) by omega)]
        obtain ⟨c, hc9, hcg, hcd⟩ := st_get i hi k (by omega) hlt
        refine ⟨_, rfl, .inl ⟨rfl, _, SqL.of elf⟩, _, rfl, two, fun x1 hx1 => ⟨(by rw [sizeLine_eq]; show 1 ≤ 16777216; decide), fun x2 hx2 => ?_⟩⟩
        have r1 : Prs _ [x1] [(7, 8)] := Prs.snoc (H := H1) (as := []) (ps := []) (7, 8) trivial hx1
        have lts : ts.length = 9 := qls.len
        refine ⟨ls, x2, _, [V.ref x1], rfl, rfl, same_two (same_upd hx1) hx2 _ _ els, upd_same, (by rw [List.length_map, lts, sizeLine_eq]; show 10 ≤ 16777216; decide), fun src hsrc => ?_⟩
        have r2 := (((qls.same (same_upd hx1 (o := .tup [.str (nm 7), .str (nm 8)]))).app r1).same (same_upd hx2 (o := .lst [V.ref x1]))).same (same_upd hsrc (o := .lst (ts.map V.ref ++ [V.ref x1])))
        refine via (C := fun G => Same H1 G ∧ G src = some (.lst ((ts ++ [x1]).map V.ref)) ∧ Prs G (ts ++ [x1]) steps) ⟨same_two (same_two (same_upd hx1) hx2) hsrc, by rw [upd_same, List.map_append] <;> rfl, r2⟩ ?_
        rintro G ⟨sG, eG, qG⟩
        clear r2 hsrc hx2 r1 hx1
        refine ⟨src, rfl, ⟨_, SqL.of eG⟩, fun D hD => ?_⟩
        have lG : (ts ++ [x1]).length = 10 := qG.len
        refine counted walk_list (fun j H4 => Same G H4 ∧ H4 D = some (.lst (tv (((steps.take j).filter fun p => decide (p.1 = c) && !decide (p.2 ∈ stC i k)).map (·.2))))) ⟨same_upd hD, upd_same⟩ (fun j H4 _ p => SqL.of (p.1 _ _ eG)) ?_ ?_
        · rintro j x H4 H5 hj ⟨s4, h4⟩ ⟨rfl, hx⟩
          rw [List.getElem?_map] at hx
          cases ha : (ts ++ [x1])[j]? with
          | none => rw [ha] at hx; cases hx
          | some a1 =>
            rw [ha] at hx
            obtain rfl : V.ref a1 = x := Option.some.inj hx
            obtain ⟨p, hp, hta⟩ := qG.get ha
            obtain ⟨p1, p2⟩ := steps_ok p (List.mem_of_getElem? hp)
            have tk : steps.take (j + 1) = steps.take j ++ [p] := by rw [List.take_add_one, hp] <;> rfl
            have elf4 := s4 _ _ (sG _ _ elf)
            have ev : (tv (stC i k))[k]? = some (V.str (nm c)) := by rw [tv, List.getElem?_map, hcg] <;> rfl
            refine ⟨a1, _, rfl, SqT.of (s4 _ _ hta), rfl, _, _, rfl, _, _, rfl, rfl, rfl, _, rfl, _, rfl, _, rfl, lf, _, _, _, rfl, rfl, SqL.of elf4, atI_nat ev, rfl, _, rfl, ?_⟩
            rw [eqV_nm p1 hc9, tk]
            cases d1 : decide (p.1 = c) with
            | false =>
              refine ⟨s4, ?_⟩
              rw [h4, List.filter_append]
              simp [d1]
            | true =>
              refine ⟨_, rfl, _, rfl, lf, _, rfl, .inl (SqL.of elf4), rfl, flat_tv _, _, rfl, ?_⟩
              show if (!inV (V.str (nm p.2)) (tv (stC i k))) = true then _ else _
              rw [inV_nm p2 few.2]
              cases d2 : decide (p.2 ∈ stC i k) with
              | true =>
                refine ⟨s4, ?_⟩
                rw [h4, List.filter_append]
                simp [d1, d2]
              | false =>
                refine ⟨_, rfl, _, h4, ?_, same_at s4 hD, ?_⟩
                · have h1 := List.length_filter_le (fun p : Nat × Nat => decide (p.1 = c) && !decide (p.2 ∈ stC i k)) (steps.take j)
                  have h2 : (steps.take j).length ≤ 10 := by rw [List.length_take]; exact Nat.min_le_right ..
                  rw [tv, List.length_map, List.length_map, sizeLine_eq]
                  omega
                · rw [upd_same, List.filter_append]
                  simp [d1, d2, tv]
        · rintro H4 ⟨s4, h4⟩
          have l10 : ((ts ++ [x1]).map V.ref).length = 10 := by rw [List.length_map]; exact lG
          have tk : steps.take 10 = steps := rfl
          rw [l10, tk] at h4
          have h4 : H4 D = some (.lst (tv (extC (stC i k) c))) := h4
          have e5 : stC i (k + 1) = stC i k ++ extC (stC i k) c := by show _ ++ extC _ ((stC i k).getD k 99) = _; rw [hcd]
          have few2 := extC_few i hi k (by omega)
          have lk : (stC i (k + 1)).length = (stC i k).length + (extC (stC i k) c).length := by rw [e5, List.length_append]
          have elf4 := s4 _ _ (sG _ _ elf)
          refine ⟨lf, D, _, _, rfl, rfl, elf4, h4, ?_, ?_⟩
          · rw [tv, tv, List.length_map, List.length_map, ← lk, sizeLine_eq]
            omega
          · refine ⟨_, rfl, _, _, rfl, rfl, ⟨k + 1, by omega, by omega, rfl, ?_, ?_, ?_, ?_⟩, ?_⟩
            · exact same_at ((s1.trans sG).trans s4) nlf
            · rw [upd_ne lsf]
              exact s4 _ _ (sG _ _ els)
            · exact Prs.but elf4 (qls.same (sG.trans s4))
            · rw [upd_same, e5, tv, tv, tv, List.map_append]
            · show (10 - ((k : Int) + 1)).toNat < (10 - (k : Int)).toNat
              omega
      · rw [decide_eq_false (show ¬ (k : Int) < ((stC i k).length : Int) by omega)]
        have hek : stC i k = abv i := st_ends i hi k (by omega) (by omega)
        rw [hek] at elf
        exact ⟨_, rfl, q lf H1 nlf s1 elf⟩
    · exact fun σ H Q Q' hm ⟨v, hv, u, hu, p, ys, e, hp, i, j, e1, e2, k, hk, q⟩ => ⟨v, hv, u, hu, p, ys, e, hp, i, j, e1, e2, k, hk, hm _ _ q⟩
end
end WK

set_option Elab.async false
set_option linter.all false
set_option maxRecDepth 100000
set_option maxHeartbeats 8000000
/-! Drawn values that are no sorts; which error a call meets. -/
namespace WK
open PySem L2 PyProof.Rows SO LCX
open PySem.W (Frag kitOne)
abbrev sMet : Stmt := top 29
abbrev sRight : Stmt := top 31
/-- a drawn value that is no sort -/
def OddC (H : Hp) (v : V) : Prop := (∃ x, v = .str x ∧ isS x = false ∧ PyData.canLay0 (.str x) = true) ∨ v = .non ∨ v = .int 0 ∨ v = .bl true ∨ (∃ a, v = .ref a ∧ H a = some (.tup [.str "any"])) ∨ (∃ a, v = .ref a ∧ H a = some (.lst [])) ∨ ∃ a, v = .ref a ∧ H a = some (.dK [])
/-- a drawn value that is no tuple of sorts -/
def BadC (H : Hp) (v : V) : Prop := (∃ x, v = .str x) ∨ v = .non ∨ v = .int 0 ∨ (∃ a xs, v = .ref a ∧ H a = some (.lst xs)) ∨ (∃ a, v = .ref a ∧ H a = some (.dK [])) ∨ (∃ a, v = .ref a ∧ H a = some (.tup [.str "any", .non])) ∨ ∃ a, v = .ref a ∧ H a = some (.tup [.str "Any"])
/-- all that is no table stays -/
abbrev XN (H H' : Hp) : Prop := LamX.ExtN H H'
theorem OddC.ext {H H' : Hp} {v : V} (h : OddC H v) (e : XN H H') : OddC H' v := by
  rcases h with h | h | h | h | ⟨a, h, q⟩ | ⟨a, h, q⟩ | ⟨a, h, q⟩
  · exact .inl h
  · exact .inr (.inl h)
  · exact .inr (.inr (.inl h))
  · exact .inr (.inr (.inr (.inl h)))
  · exact .inr (.inr (.inr (.inr (.inl ⟨a, h, e _ _ q fun _ z => nomatch z⟩))))
  · exact .inr (.inr (.inr (.inr (.inr (.inl ⟨a, h, e _ _ q fun _ z => nomatch z⟩)))))
  · exact .inr (.inr (.inr (.inr (.inr (.inr ⟨a, h, e _ _ q fun _ z => nomatch z⟩)))))
theorem BadC.ext {H H' : Hp} {v : V} (h : BadC H v) (e : XN H H') : BadC H' v := by
  rcases h with h | h | h | ⟨a, xs, h, q⟩ | ⟨a, h, q⟩ | ⟨a, h, q⟩ | ⟨a, h, q⟩
  · exact .inl h
  · exact .inr (.inl h)
  · exact .inr (.inr (.inl h))
  · exact .inr (.inr (.inr (.inl ⟨a, xs, h, e _ _ q fun _ z => nomatch z⟩)))
  · exact .inr (.inr (.inr (.inr (.inl ⟨a, h, e _ _ q fun _ z => nomatch z⟩))))
  · exact .inr (.inr (.inr (.inr (.inr (.inl ⟨a, h, e _ _ q fun _ z => nomatch z⟩)))))
  · exact .inr (.inr (.inr (.inr (.inr (.inr ⟨a, h, e _ _ q fun _ z => nomatch z⟩)))))
theorem OddC.odd {K : Frag} {H : Hp} {v : V} (h : OddC H v) : Odd K H v := by
  rcases h with ⟨x, h1, h2, _⟩ | rfl | rfl | rfl | ⟨a, rfl, q⟩ | ⟨a, rfl, q⟩ | ⟨a, rfl, q⟩
  · exact .inl ⟨x, h1, h2⟩
  · exact .inr ⟨_, .base .non, kit_ty (by decide +kernel)⟩
  · exact .inr ⟨_, .base (.int 0), kit_ty (by decide +kernel)⟩
  · exact .inr ⟨_, .base (.bl true), kit_ty (by decide +kernel)⟩
  · exact .inr ⟨_, .base (.tup q), kit_ty (by decide +kernel)⟩
  · exact .inr ⟨_, .base (.lst q), kit_ty (by decide +kernel)⟩
  · exact .inr ⟨_, .base (.dK q), kit_ty (by decide +kernel)⟩
theorem OddC.is {K : Frag} {H : Hp} {v : V} {Q : VK} {E : XK} (h : OddC H v) (q : Q (.bl false) H) : spIsSort K [v] H Q E := by
  rcases h.odd (K := K) with ⟨x, rfl, hx⟩ | hn
  · exact ⟨_, rfl, .inl ⟨x, rfl, by rw [hx]; exact q⟩⟩
  · exact ⟨_, rfl, .inr ⟨hn, q⟩⟩
theorem OddC.isB {K : Frag} {H : Hp} {v : V} {σ : L2.St} {N : Bool → Hp → Prop} (h : OddC H v) (e : σ[11]? = some (some v)) (q : N false H) : tB (tCall (spIsSort K) [] E0 (tCons (tVar 11) tNil)) σ H N := ⟨_, e, h.is (E := E0) (Q := fun x H' => ∃ c, x = .bl c ∧ N c H') ⟨false, rfl, q⟩⟩
/-- such a value goes up just if it is the tuple of any -/
theorem OddC.up {K : Frag} {H : Hp} {v : V} {σ : L2.St} {N : Bool → Hp → Prop} (h : OddC H v) (e : σ[11]? = some (some v)) (q : ∀ H', Same H H' → N false H') :
    tTest (tOp rNe (tCall (spUpSet K) [] E0 (tCons (tVar 11) tNil)) (tOp (DQ.rEqDT K) (tVar 11) (tTup (tCons (tC (.str "any")) tNil)))) σ H N := by
  have one : (1 : Nat) ≤ sizeLine := by rw [sizeLine_eq]; decide
  have D2 : ∀ {t : Addr} {H : Hp}, Dp K (upd H t (.tup [.str "any"])) (.ref t) (.tuple [.str "any"]) := fun {t H} => .tup (SqT.of upd_same) (.cons (.str _) .nil)
  rcases h with ⟨x, rfl, _, hc⟩ | rfl | rfl | rfl | ⟨a, rfl, h⟩ | ⟨a, rfl, h⟩ | ⟨a, rfl, h⟩
  · refine ⟨_, e, _, rfl, .inr ⟨⟨_, .base (.str x), kit_ty (by decide +kernel)⟩, _, e, one, fun t ht => .inl ⟨.str x, _, .str x, D2, ?_, by decide +kernel, rfl, _, rfl, q _ (same_upd ht)⟩⟩⟩
    show (PyData.canLay0 (.str x) && decide (PyData.depth (.str x) ≤ 64)) = true
    rw [hc] <;> rfl
  · exact ⟨_, e, _, rfl, .inr ⟨⟨_, .base .non, kit_ty (by decide +kernel)⟩, _, e, one, fun t ht => .inl ⟨.none, _, .non, D2, by decide +kernel, by decide +kernel, rfl, _, rfl, q _ (same_upd ht)⟩⟩⟩
  · exact ⟨_, e, _, rfl, .inr ⟨⟨_, .base (.int 0), kit_ty (by decide +kernel)⟩, _, e, one, fun t ht => .inl ⟨.int 0, _, .int 0, D2, by decide +kernel, by decide +kernel, rfl, _, rfl, q _ (same_upd ht)⟩⟩⟩
  · exact ⟨_, e, _, rfl, .inr ⟨⟨_, .base (.bl true), kit_ty (by decide +kernel)⟩, _, e, one, fun t ht => .inl ⟨.bool true, _, .bl true, D2, by decide +kernel, by decide +kernel, rfl, _, rfl, q _ (same_upd ht)⟩⟩⟩
  · refine ⟨_, e, _, rfl, .inl ⟨a, _, rfl, SqT.of h, by show 1 ≤ 100; decide, fun x hx => ?_, .inl ⟨[8], rfl, fun i hi => by rw [List.mem_singleton.mp hi]; decide, fun H' s' => ⟨_, e, one, fun t ht => .inl ⟨.tuple [.str "any"], _, .tup (SqT.of (same_upd ht _ _ (s' _ _ h))) (.cons (.str _) .nil), D2, by decide +kernel, by decide +kernel, ?_⟩⟩⟩⟩⟩
    · rw [List.mem_singleton.mp hx]
      exact .inl ⟨_, rfl⟩
    · have e1 : upC [8] = true := by decide +kernel
      have e2 : PyData.eqv (.tuple [.str "any"]) (.tuple [.str "any"]) = true := by decide +kernel
      rw [e1, e2]
      exact ⟨rfl, _, rfl, q _ (s'.trans (same_upd ht))⟩
  · exact ⟨_, e, _, rfl, .inr ⟨⟨_, .base (.lst h), kit_ty (by decide +kernel)⟩, _, e, one, fun t ht => .inl ⟨.list [], _, .lst (SqL.of (same_upd ht _ _ h)) .nil, D2, by decide +kernel, by decide +kernel, rfl, _, rfl, q _ (same_upd ht)⟩⟩⟩
  · exact ⟨_, e, _, rfl, .inr ⟨⟨_, .base (.dK h), kit_ty (by decide +kernel)⟩, _, e, one, fun t ht => .inr ⟨a, t, [], _, rfl, rfl, same_upd ht _ _ h, SqT.of upd_same, rfl, _, rfl, q _ (same_upd ht)⟩⟩⟩
theorem BadC.bad {K : Frag} {H : Hp} {v : V} (h : BadC H v) : BadT K H v := by
  rcases h with ⟨x, rfl⟩ | rfl | rfl | ⟨a, xs, rfl, q⟩ | ⟨a, rfl, q⟩ | ⟨a, rfl, q⟩ | ⟨a, rfl, q⟩
  · exact .inl ⟨_, .base (.str x), kit_ty (by decide +kernel)⟩
  · exact .inl ⟨_, .base .non, kit_ty (by decide +kernel)⟩
  · exact .inl ⟨_, .base (.int 0), kit_ty (by decide +kernel)⟩
  · exact .inl ⟨_, .base (.lst q), kit_ty (by decide +kernel)⟩
  · exact .inl ⟨_, .base (.dK q), kit_ty (by decide +kernel)⟩
  · refine .inr ⟨a, _, rfl, SqT.of q, by show 2 ≤ 100; decide, fun x hx => ?_, by decide +kernel⟩
    simp only [List.not_mem_nil, List.mem_cons, or_false] at hx
    rcases hx with rfl | rfl
    · exact .inl ⟨_, rfl⟩
    · exact .inr rfl
  · refine .inr ⟨a, _, rfl, SqT.of q, by show 1 ≤ 100; decide, fun x hx => ?_, by decide +kernel⟩
    simp only [List.not_mem_nil, List.mem_cons, or_false] at hx
    rcases hx with rfl
    exact .inl ⟨_, rfl⟩
/-- what stands but at the dice and in the tables -/
def ButT (p : Addr) (H H' : Hp) : Prop := ∀ b o, H b = some o → b ≠ p → (∀ ps, o ≠ .tbl ps) → H' b = some o
theorem ButT.ofBut {p : Addr} {H H' : Hp} (h : But p H H') : ButT p H H' := fun b o e n _ => h b o e n
theorem ButT.ofX {p : Addr} {H H' : Hp} (h : XN H H') : ButT p H H' := fun b o e _ n => h b o e n
theorem ButT.trans {p : Addr} {H H1 H2 : Hp} (a : ButT p H H1) (b : ButT p H1 H2) : ButT p H H2 := fun c o h n t => b c o (a c o h n t) n t
theorem DiceAt.not {H : Hp} {p a : Addr} {o : HO} (h : DiceAt H p) (e : H a = some o) (n : ∀ x y z : Int, o ≠ .lst [.int x, .int y, .int z]) : a ≠ p := fun z => by
  obtain ⟨x, y, w, q, _⟩ := h
  rw [z, q] at e
  exact n x y w (Option.some.inj e).symm
theorem tabs_but {T : List (Addr × Str)} {p : Addr} {H H' : Hp} (t : LamX.Tabs T H) (d : DiceAt H p) (b : But p H H') : LamX.Tabs T H' := fun q hq => by
  obtain ⟨ps, h1, h2, h3⟩ := t q hq
  obtain ⟨x, y, z, hd, _⟩ := d
  refine ⟨ps, b _ _ h1 (fun e => by rw [e, hd] at h1; cases h1), h2, fun pos cv hc => ?_⟩
  exact (h3 pos cv hc).imp fun c z => ⟨z.1, b _ _ z.2 fun e => by
    have e3 := z.2
    rw [e, hd] at e3
    cases e3⟩
theorem tabs_same {T : List (Addr × Str)} {H H' : Hp} (t : LamX.Tabs T H) (s : Same H H') : LamX.Tabs T H' := t.ext s
section
variable {P : Program} {w : World} {K : PySem.W.Frag} {mg : Str → Option Value} {base : Heap} {aS aA cO cW cM cB : Addr}
/-- the other classes that are asked ahead -/
structure TE4 (K : Frag) (mg : Str → Option Value) (cW cM cB cO : Addr) : Prop where
  gW : mg "InvalidWord" = some (.ref cW)
  gM : mg "InvalidMachine" = some (.ref cM)
  gB : mg "InvalidBox" = some (.ref cB)
  gO : mg "InvalidOperation" = some (.ref cO)
  xW : PySem.W.exmOne K (.ref cO) (.ref cW) = some false
  xM : PySem.W.exmOne K (.ref cO) (.ref cM) = some false
  xB : PySem.W.exmOne K (.ref cO) (.ref cB) = some false
  xO : PySem.W.exmOne K (.ref cO) (.ref cO) = some true
abbrev NM : List Str := ["_law_call", "e"]
theorem scMet : FnScope NM ["_law_call"] (defScope sMet) := ⟨rfl, rfl, rfl, by decide +kernel, rfl, by decide +kernel, by decide +kernel⟩
theorem met_is {X : Cx} {g : Addr} {cdg : Value} {q : Str} (T : TE4 X.K X.mg cW cM cB cO) : LamX.GivesTo X NM "_law_met" (defScope sMet) g cdg (defBody sMet) "_law_call" q (MET.TMet cO "operation" "fine") :=
  MET.met_gives (C1 := cW) (C2 := cM) (C3 := cB) (C4 := cO) ⟨rfl, T.gW, by decide⟩ ⟨rfl, T.gM, by decide⟩ ⟨rfl, T.gB, by decide⟩ ⟨rfl, T.gO, by decide⟩ (fun _ => rfl) T.xW T.xM T.xB T.xO
end
end WK

set_option Elab.async false
set_option linter.all false
set_option maxRecDepth 100000
set_option maxHeartbeats 8000000
/-! Comprehensions within comprehensions of the law, read once. -/
namespace WK
open PySem L2 PyProof.Rows SO LCX
open PySem.W (Frag kitOne)
section
variable {K : Frag} {x0 x1 x2 x3 x4 x5 x6 x7 x8 x9 x10 x11 x13 x14 : Option V} {H : Hp} {Q : VK}
abbrev tInner (K : Frag) : TE := tLc (iList K (tVar 2)) (gName 13) (tTest (tOp (rIn K false) (tVar 12) (tCall spAbove [] E0 (tCons (tVar 13) tNil)))) (tVar 13) [13]
/-- [one for one in some if sort in above(one)] -/
theorem inner_read {lS : Addr} {sm : List Nat} {s : Nat} (hs : s < 9) (hm : Ok sm) (hn : sm.length ≤ 9) (hl : H lS = some (.lst (tv sm)))
    (q : ∀ D H', H D = none → Same H H' → H' D = some (.lst (tv (sm.filter fun o => decide (s ∈ abv o)))) → Q (.ref D) H') :
    tInner K [x0, x1, some (.ref lS), x3, x4, x5, x6, x7, x8, x9, x10, x11, some (.str (nm s)), x13, x14] H Q := by
  refine ⟨_, rfl, lS, rfl, ⟨_, SqL.of hl⟩, fun D hD => ?_⟩
  refine same_list (l := sm) (val := fun j => V.str (nm j)) (r := fun o => if decide (s ∈ abv o) = true then [V.str (nm o)] else []) hD (SqL.of hl) (Nat.lt_of_le_of_lt hn sz9) (fun _ => one_if _) (fun o ho H1 acc s1 hacc hlen N hN => ?_) (fun H1 s1 hd => ?_)
  · have ho9 := hm o ho
    refine ⟨rfl, _, rfl, _, rfl, o, ho9, rfl, fun a H2 ha s2 h2 => ⟨a, _, rfl, .inl (SqL.of h2), rfl, flat_tv _, _, rfl, ?_⟩⟩
    rw [inV_nm hs (abv_ok ho9)]
    cases e : decide (s ∈ abv o) with
    | true =>
      refine ⟨_, rfl, acc, s2 _ _ hacc, hlen, hN _ (same_at (s1.trans s2) hD) ?_⟩
      rw [upd_same, e] <;> rfl
    | false =>
      refine hN _ (s1.trans s2) ?_
      rw [s2 _ _ hacc, e]
      simp
  · rw [flat_filter] at hd
    exact q D H1 hD s1 hd
theorem inner_test {r : R2} {tb : TE} {N : Bool → Hp → Prop} {lS : Addr} {sm : List Nat} {s : Nat} (hs : s < 9) (hm : Ok sm) (hn : sm.length ≤ 9) (hl : H lS = some (.lst (tv sm)))
    (q : ∀ D H', H D = none → Same H H' → H' D = some (.lst (tv (sm.filter fun o => decide (s ∈ abv o)))) → tb [x0, x1, some (.ref lS), x3, x4, x5, x6, x7, x8, x9, x10, x11, some (.str (nm s)), x13, x14] H' fun y H2 => r (.ref D) y H2 fun v H3 => ∃ k, v = .bl k ∧ N k H3) :
    tTest (tOp r (tInner K) tb) [x0, x1, some (.ref lS), x3, x4, x5, x6, x7, x8, x9, x10, x11, some (.str (nm s)), x13, x14] H N := by
  unfold tTest tOp
  exact inner_read hs hm hn hl q
abbrev tHigh (K : Frag) : TE := tLc (iList K (tCall spAbove [] E0 (tCons (tVar 12) tNil))) (gName 14) (tTest (tOp (rIn K true) (tVar 14) (tVar 6))) (tVar 14) [14]
/-- [high for high in above(sort) if high not in thing] -/
theorem high_read {aT : Addr} {th : List Nat} {s : Nat} (hs : s < 9) (ht : Ok th) (hl : H aT = some (.tup (tv th)))
    (q : ∀ D H', H D = none → Same H H' → H' D = some (.lst (tv ((abv s).filter fun h => !decide (h ∈ th)))) → Q (.ref D) H') :
    tHigh K [x0, x1, x2, x3, x4, x5, some (.ref aT), x7, x8, x9, x10, x11, some (.str (nm s)), x13, x14] H Q := by
  refine ⟨_, rfl, s, hs, rfl, fun a H0 ha s0 h0 => ⟨a, rfl, ⟨_, SqL.of h0⟩, fun D hD => ?_⟩⟩
  have few := st_few s hs 5 (by decide)
  refine same_list (l := abv s) (val := fun j => V.str (nm j)) (r := fun o => if (!decide (o ∈ th)) = true then [V.str (nm o)] else []) hD (SqL.of h0) (Nat.lt_of_le_of_lt (show (abv s).length ≤ 9 from Nat.le_trans few.1 (by decide)) sz9) (fun _ => one_if _) (fun o ho H1 acc s1 hacc hlen N hN => ?_) (fun H1 s1 hd => ?_)
  · have ho9 := abv_ok hs o ho
    refine ⟨rfl, _, rfl, _, rfl, aT, _, rfl, .inr (SqT.of (s1 _ _ (s0 _ _ hl))), rfl, flat_tv _, _, rfl, ?_⟩
    show if (!inV (V.str (nm o)) (tv th)) = true then _ else _
    rw [inV_nm ho9 ht]
    cases e : decide (o ∈ th) with
    | false =>
      refine ⟨_, rfl, acc, hacc, hlen, hN _ (same_at s1 hD) ?_⟩
      rw [upd_same, e] <;> rfl
    | true =>
      refine hN _ s1 ?_
      rw [hacc, e]
      simp
  · rw [flat_filter] at hd
    exact q D H1 (s0.free hD) (s0.trans s1) hd
theorem high_test {r : R2} {tb : TE} {N : Bool → Hp → Prop} {aT : Addr} {th : List Nat} {s : Nat} (hs : s < 9) (ht : Ok th) (hl : H aT = some (.tup (tv th)))
    (q : ∀ D H', H D = none → Same H H' → H' D = some (.lst (tv ((abv s).filter fun h => !decide (h ∈ th)))) → tb [x0, x1, x2, x3, x4, x5, some (.ref aT), x7, x8, x9, x10, x11, some (.str (nm s)), x13, x14] H' fun y H2 => r (.ref D) y H2 fun v H3 => ∃ k, v = .bl k ∧ N k H3) :
    tTest (tOp r (tHigh K) tb) [x0, x1, x2, x3, x4, x5, some (.ref aT), x7, x8, x9, x10, x11, some (.str (nm s)), x13, x14] H N := by
  unfold tTest tOp
  exact high_read hs ht hl q
theorem td_one {s : Nat} : td [s] = [PyData.str (nm s)] := rfl
theorem eqL_td {l m : List Nat} (h1 : Ok l) (h2 : Ok m) : PyData.eqv (.list (td l)) (.list (td m)) = decide (l = m) := eqvs_td h1 h2
theorem eqT_td {l m : List Nat} (h1 : Ok l) (h2 : Ok m) : PyData.eqv (.tuple (td l)) (.tuple (td m)) = decide (l = m) := eqvs_td h1 h2
theorem cut_drop (l : List Nat) : cutV (tv l) (some 1) none = tv (l.drop 1) := by
  unfold cutV
  have h1 : HT.sIx (tv l).length 0 (some (1 : Int)) = min 1 (tv l).length := HT.sIx_nat _ _ 1
  rw [h1, HT.sIx_none]
  cases l with
  | nil => rfl
  | cons a l =>
    have : min 1 (tv (a :: l)).length = 1 := Nat.min_eq_left (by rw [tv, List.length_map, List.length_cons]; omega)
    rw [this, List.take_of_length_le (by rw [List.length_drop]; exact Nat.le_refl _)]
    rfl
theorem cut_take (l : List Nat) : cutV (tv l) none (some 1) = tv (l.take 1) := by
  unfold cutV
  have h1 : HT.sIx (tv l).length (tv l).length (some (1 : Int)) = min 1 (tv l).length := HT.sIx_nat _ _ 1
  rw [h1, HT.sIx_none, List.drop_zero, Nat.sub_zero]
  cases l with
  | nil => rfl
  | cons a l =>
    have : min 1 (tv (a :: l)).length = 1 := Nat.min_eq_left (by rw [tv, List.length_map, List.length_cons]; omega)
    rw [this]
    rfl
/-- five tuples of sorts -/
def Ths (H : Hp) : List V → List (List Nat) → Prop
  | [], [] => True
  | x :: xs, l :: ls => (∃ a, x = .ref a ∧ H a = some (.tup (tv l))) ∧ Ths H xs ls
  | _, _ => False
theorem Ths.get {H : Hp} : ∀ {xs : List V} {ls : List (List Nat)} {i : Nat} {x : V}, Ths H xs ls → xs[i]? = some x → ∃ l a, l ∈ ls ∧ x = .ref a ∧ H a = some (.tup (tv l))
  | [], [], i, x, _, e => by simp at e
  | y :: xs, l :: ls, 0, x, h, e => by
    have : y = x := Option.some.inj e
    obtain ⟨a, e1, e2⟩ := h.1
    exact ⟨l, a, List.mem_cons_self, by rw [← this]; exact e1, e2⟩
  | y :: xs, l :: ls, i + 1, x, h, e => by
    obtain ⟨l', a, h1, h2⟩ := h.2.get (i := i) e
    exact ⟨l', a, List.mem_cons_of_mem _ h1, h2⟩
  | [], _ :: _, _, _, h, _ => h.elim
  | _ :: _, [], _, _, h, _ => h.elim
theorem viaA {α β : Type} {t : α → Hp → β → Prop} {s : α} {q : β} {H0 : Hp} {C : Hp → Prop} (h : C H0) (k : ∀ G, C G → t s G q) : t s H0 q := k _ h
theorem one_at {σ : L2.St} (h : σ[13]? = some none) : ∀ (i : Nat) (v : V), (["_law_dice_here", "_law_sorts", "_law_some", "_law_mixed_here", "_law_due", "_law_closed", "_law_thing", "_law_up", "_law_in_order", "_law_told", "_law_bad", "_law_odd", "_law_sort", "_law_one", "_law_high"] : List Str)[i]? = some ("_law_one" : Str) → σ[i]? ≠ some (some v) := by
  have k : ∀ i < 15, (["_law_dice_here", "_law_sorts", "_law_some", "_law_mixed_here", "_law_due", "_law_closed", "_law_thing", "_law_up", "_law_in_order", "_law_told", "_law_bad", "_law_odd", "_law_sort", "_law_one", "_law_high"] : List Str)[i]? = some ("_law_one" : Str) → i = 13 := by decide +kernel
  intro i v e
  by_cases hi : i < 15
  · rw [k i hi e, h]
    intro z
    cases z
  · rw [List.getElem?_eq_none (by simp only [List.length_cons, List.length_nil]; omega)] at e
    cases e
/-- the names of sorts, back -/
def inv (x : Str) : Nat := (all9.find? fun i => decide (nm i = x)).getD 0
theorem inv_nm : ∀ i < 9, inv (nm i) = i := by decide +kernel
theorem perm_nm {zs : List Str} {sm : List Nat} (hm : Ok sm) (h : zs.Perm (sm.map nm)) : ∃ z : List Nat, zs = z.map nm ∧ z.Perm sm ∧ Ok z := by
  refine ⟨zs.map inv, ?_, ?_, fun i hi => ?_⟩
  · rw [List.map_map]
    refine ((List.map_congr_left fun x hx => ?_).trans (List.map_id zs)).symm
    obtain ⟨i, hi, rfl⟩ := List.mem_map.mp (h.mem_iff.mp hx)
    show nm (inv (nm i)) = _
    rw [inv_nm i (hm i hi)] <;> rfl
  · have := h.map inv
    rw [List.map_map] at this
    refine this.trans (List.Perm.of_eq ((List.map_congr_left fun i hi => inv_nm i (hm i hi)).trans (List.map_id sm)))
  · obtain ⟨x, hx, rfl⟩ := List.mem_map.mp hi
    obtain ⟨j, hj, rfl⟩ := List.mem_map.mp (h.mem_iff.mp hx)
    rw [inv_nm j (hm j hj)]
    exact hm j hj
end
end WK

set_option Elab.async false
set_option linter.all false
set_option maxRecDepth 100000
set_option maxHeartbeats 8000000
/-! Drawn sorts are told rightly. -/
namespace WK
open PySem L2 PyProof.Rows SO LCX
open PySem.W (Frag kitOne)
abbrev NR : List Str := ["_law_dice_here", "_law_sorts", "_law_some", "_law_mixed_here", "_law_due", "_law_closed", "_law_thing", "_law_up", "_law_in_order", "_law_told", "_law_bad", "_law_odd", "_law_sort", "_law_one", "_law_high"]
abbrev scI1 : Scope := { kind := .function, names := [(".0", .local), ("_law_sort", .cell), ("_law_some", .cell)], isGenerator := false, isCoroutine := false }
abbrev scI2 : Scope := { kind := .function, names := [(".0", .local), ("_law_sort", .local), ("_law_above", .globalImplicit), ("_law_thing", .cell)], isGenerator := false, isCoroutine := false }
abbrev qR : Str := (envOfC "_law_right" (defScope sRight) 0 0 .none).qual ++ "<lambda>"
abbrev TR (PT : Addr) : List (Addr × Str) := [(PT, qR)]
def spRight (PT : Addr) : Sp := fun vs H Q _ => ∃ p : Addr, vs = [.ref p] ∧ DiceAt H p ∧ LamX.Tabs (TR PT) H ∧ ∀ H', DiceAt H' p → ButT p H H' → LamX.Tabs (TR PT) H' → Q (.bl true) H'
section
variable {P : Program} {w : World} {K : PySem.W.Frag} {mg : Str → Option Value} {base : Heap} {aS aA cO cW cM cB cR PT : Addr}
variable {fR fO fM fX fA fI fB fUp fLo fJ fL fU : Addr} {dR dO dM dX dA dI dB dUp dLo dJ dL dU : FuncData}
theorem scRi : FnScope NR ["_law_dice_here"] (defScope sRight) := ⟨rfl, rfl, rfl, by decide +kernel, rfl, by decide +kernel, by decide +kernel⟩
theorem ok_right {f : Addr} {oc kV dc pm ct : Value} {an od : Option Addr} {sl : Array (Option Value)} (lk : K.lookup f = some ⟨oc, od, .func (PySem.W.fnOf "_law_right" "_law_right" (defArgs sRight) (defBody sRight) (defScope sRight) .none kV dc pm an (.ref cR) ct), sl⟩) (hcd : PySem.W.codeIn K (.ref cR) "_law_right" = true)
    (T : TN mg) (S : TS K w mg aS aA cO) (TE : TE4 K mg cW cM cB cO) (TB : LamX.TabB base mg cR PT)
    (AR : Fn K mg "_law_roll" sRoll ["_law_dice_here", "_law_total"] fR dR) (AO : Fn K mg "_law_one_of" sOne ["_law_dice_here", "_law_items"] fO dO) (AM : Fn K mg "_law_mixed" sMixed ["_law_dice_here", "_law_items"] fM dM) (AX : Fn K mg "_law_met" sMet ["_law_call"] fX dX)
    (AA : Fn K mg "_law_above" sAbove ["_law_sort"] fA dA) (GA : FnOk P w K mg base CX0 1 fA dA ["_law_sort"] spAbove) (AI : Fn K mg "is_sort" sIsSort ["value"] fI dI) (GI : FnOk P w K mg base CX0 1 fI dI ["value"] (spIsSort K))
    (AB : Fn K mg "is_below" sBelow ["sort", "other"] fB dB) (GB : FnOk P w K mg base (L2.CX P w) 3 fB dB ["sort", "other"] (spBelow K cO)) (AUp : Fn K mg "uppers" sUps ["sort"] fUp dUp) (GUp : FnOk P w K mg base (L2.CX P w) 4 fUp dUp ["sort"] (spUps K cO ups))
    (ALo : Fn K mg "lowers" sLows ["sort"] fLo dLo) (GLo : FnOk P w K mg base (L2.CX P w) 4 fLo dLo ["sort"] (spUps K cO lows)) (AJ : Fn K mg "joined" sJoin ["sort", "other"] fJ dJ) (GJ : FnOk P w K mg base (L2.CX P w) 6 fJ dJ ["sort", "other"] (spJoin K cO))
    (AL : Fn K mg "least_of" sLeast ["sorts"] fL dL) (GL : FnOk P w K mg base (L2.CX P w) 5 fL dL ["sorts"] (spLeast K cO)) (AU : Fn K mg "is_up_set" sUpSet ["value"] fU dU) (GU : FnOk P w K mg base CX0 5 fU dU ["value"] (spUpSet K)) :
    FnOk P w K mg base CX0 9 f (PySem.W.fnOf "_law_right" "_law_right" (defArgs sRight) (defBody sRight) (defScope sRight) .none kV dc pm an (.ref cR) ct) ["_law_dice_here"] (spRight PT) := by
  have GR : FnOk P w K mg base CX0 1 fR dR ["_law_dice_here", "_law_total"] spRoll := ok_roll AR.F T.dice
  have GO : FnOk P w K mg base CX0 2 fO dO ["_law_dice_here", "_law_items"] spOne := ok_one AO.F T.dice AR.g AR.F AR.b
  have GM : FnOk P w K mg base CX0 2 fM dM ["_law_dice_here", "_law_items"] spMixed := ok_mixed AM.F T AR
  have bX := AX.b
  obtain ⟨ocM, odM, kVM, docM, pmM, anM, cdvM, ctM, oslM, rfl, lkM, hcM⟩ := AX.F.ex
  refine fn_of lk hcd scRi (fun vs H Q E h => ?_) (fun A outer s H vs Q E hr h => ?_)
  · obtain ⟨u, rfl, _⟩ := h
    rfl
  · obtain ⟨p, rfl, hD, hT, q⟩ := h
    have hr1 : Room 1 _ := hr.mono (by decide)
    have hr2 : Room 2 _ := hr.mono (by decide)
    have hr5 : Room 5 _ := hr.mono (by decide)
    suffices hh : ∃ t, PSs (cxOf CX0 P w K mg base NR "_law_right" (defScope sRight) f (.ref cR) A outer s H E).nox (defBody sRight) t ∧ t { nx := fun _ H' => Q .non H', rt := Q } (L2.start NR [V.ref p]) H from
      let ⟨t, h1, h2⟩ := hh; ⟨t, h1.nox, h2⟩
    refine ⟨_, (pss_cons (ps_set (i := 1) scRi.nd rfl (Or.inl rfl) (pe_callTy call_list_of (by rfl) T.list (by decide +kernel) (pa_cons (pe_glob rfl S.gS (show RelV (.ref aS) (.ref aS) from rfl)) pa_nil)))
      (pss_cons (ps_set (i := 2) scRi.nd rfl (Or.inr rfl) (pe_lc (own := [("_law_sort", 12)]) (g := gName 12)   rfl scRi.nd (pi_list (pv 1)) (blkOk_by (own := [("_law_sort", 12)]) (N := NR) (sc := defScope sRight) (by decide +kernel)) (fun _ _ _ _ _ => pg_name (i := 12) scRi.nd rfl (Or.inl rfl)) (fun _ _ _ _ _ => pts_one (pt_cmpR op_eq (pe_call GR hr1 rfl AR.g AR.F.kp AR.b .nil pass0 (pa_cons (pv 0) (pa_cons pe_int pa_nil))) pe_int (nomark _))) (fun _ _ _ _ _ => pv 12)))
      (pss_cons (ps_set (i := 3) scRi.nd rfl (Or.inl rfl) (pe_callTy call_tuple_of (by rfl) T.tuple (by decide +kernel) (pa_cons (pe_call GM hr2 rfl AM.g AM.F.kp AM.b .nil pass0 (pa_cons (pv 0) (pa_cons (pv 2) pa_nil))) pa_nil)))
      (pss_cons (ps_setLc (i := 4) (own := [("_law_sort", 12)]) (g := gName 12) (tt := tTest (tOp (rEqD K) (tLc (iList K (tVar 2)) (gName 13) (tTest (tOp (rIn K false) (tVar 12) (tCall spAbove [] E0 (tCons (tVar 13) tNil)))) (tVar 13) [13]) (tLst (tCons (tVar 12) tNil)))) rfl scRi.nd rfl rfl (sw_true rfl rfl rfl (by decide +kernel)) (pi_list (pv 2)) (blkOk_by (own := [("_law_sort", 12)]) (N := NR) (sc := defScope sRight) (by decide +kernel)) (fun _ _ _ _ _ => pg_name (i := 12) scRi.nd rfl (Or.inr rfl)) (fun _ _ _ _ _ => pts_one (pt_cmpR (op_eqD hr.units) (pe_lc (own := [("_law_one", 13)]) (g := gName 13) (tt := tTest (tOp (rIn K false) (tVar 12) (tCall spAbove [] E0 (tCons (tVar 13) tNil))))  rfl scRi.nd (pi_list (pv 2)) (blkOk_by (own := [("_law_one", 13)]) (N := NR) (sc := scI1) (by decide +kernel)) (fun _ _ _ _ _ => pg_name (i := 13) scRi.nd rfl (Or.inl rfl)) (fun _ _ _ _ _ => pts_one (pt_cmpR op_in_seq (pv 12) (pe_call GA hr1 rfl AA.g AA.F.kp AA.b .nil pass0 (pa_cons (pv 13) pa_nil)) (by rfl))) (fun _ _ _ _ _ => pv 13)) (pe_lst (pa_cons (pv 12) pa_nil)) (nomark _))) (fun _ _ _ _ _ => pv 12))
      (pss_cons (ps_if (PW.pt (pw_or (pt_cmpR (op_neD hr.units) (pe_call GL hr5 rfl AL.g AL.F.kp AL.b .nil no_pass (pa_cons (pv 3) pa_nil)) (pe_callTy call_tuple_of (by rfl) T.tuple (by decide +kernel) (pa_cons (pv 4) pa_nil)) (nomark _)) (pw_or1 (pt_cmpR (op_neD hr.units) (pe_call GL hr5 rfl AL.g AL.F.kp AL.b .nil no_pass (pa_cons (pe_tup pa_nil) pa_nil)) (pe_tup pa_nil) (nomark _))))) (pss_one (ps_ret pe_bl)) pss_nil)
      (pss_cons (ps_setLc (i := 5) (own := [("_law_sort", 12)]) (g := gName 12) (tt := tTest (tOp (rNeD K) (tLc (iList K (tVar 2)) (gName 13) (tTest (tOp (rIn K false) (tVar 12) (tCall spAbove [] E0 (tCons (tVar 13) tNil)))) (tVar 13) [13]) (tLst tNil))) rfl scRi.nd rfl rfl (sw_true rfl rfl rfl (by decide +kernel)) (pi_list (pv 1)) (blkOk_by (own := [("_law_sort", 12)]) (N := NR) (sc := defScope sRight) (by decide +kernel)) (fun _ _ _ _ _ => pg_name (i := 12) scRi.nd rfl (Or.inr rfl)) (fun _ _ _ _ _ => pts_one (pt_cmpR (op_neD hr.units) (pe_lc (own := [("_law_one", 13)]) (g := gName 13) (tt := tTest (tOp (rIn K false) (tVar 12) (tCall spAbove [] E0 (tCons (tVar 13) tNil))))  rfl scRi.nd (pi_list (pv 2)) (blkOk_by (own := [("_law_one", 13)]) (N := NR) (sc := scI1) (by decide +kernel)) (fun _ _ _ _ _ => pg_name (i := 13) scRi.nd rfl (Or.inl rfl)) (fun _ _ _ _ _ => pts_one (pt_cmpR op_in_seq (pv 12) (pe_call GA hr1 rfl AA.g AA.F.kp AA.b .nil pass0 (pa_cons (pv 13) pa_nil)) (by rfl))) (fun _ _ _ _ _ => pv 13)) (pe_lst pa_nil) (nomark _))) (fun _ _ _ _ _ => pv 12))
      (pss_cons (ps_for PassesOwn.never rfl (pi_tup (pe_tup (pa_cons (pe_callTy call_tuple_of (by rfl) T.tuple (by decide +kernel) (pa_cons (pv 2) pa_nil)) (pa_cons (pe_callTy call_tuple_of (by rfl) T.tuple (by decide +kernel) (pa_cons (pv 5) pa_nil)) (pa_cons (pe_callTy call_tuple_of (by rfl) T.tuple (by decide +kernel) (pa_cons (pe_revL (pv 5)) pa_nil)) (pa_cons (pe_callTy call_tuple_of (by rfl) T.tuple (by decide +kernel) (pa_cons (pe_slice sl_list (pv 5) (po_some pe_int) po_none) pa_nil)) (pa_cons (pe_callTy call_tuple_of (by rfl) T.tuple (by decide +kernel) (pa_cons (pe_op op_cat (pv 5) (pe_slice sl_list (pv 5) po_none (po_some pe_int))) pa_nil)) pa_nil))))))) (pg_name (i := 6) scRi.nd rfl (Or.inr rfl)) (pss_cons (ps_set (i := 7) scRi.nd rfl (Or.inl rfl) (pe_cmpR (op_eqD hr.units) (pe_lc (own := [("_law_sort", 12)]) (g := gName 12) (tt := tTest (tOp (rNeD K) (tLc (iList K (tCall spAbove [] E0 (tCons (tVar 12) tNil))) (gName 14) (tTest (tOp (rIn K true) (tVar 14) (tVar 6))) (tVar 14) [14]) (tLst tNil)))  rfl scRi.nd (pi_tup (pv 6)) (blkOk_by (own := [("_law_sort", 12)]) (N := NR) (sc := defScope sRight) (by decide +kernel)) (fun _ _ _ _ _ => pg_name (i := 12) scRi.nd rfl (Or.inl rfl)) (fun _ _ _ _ _ => pts_one (pt_cmpR (op_neD hr.units) (pe_lc (own := [("_law_high", 14)]) (g := gName 14) (tt := tTest (tOp (rIn K true) (tVar 14) (tVar 6)))  rfl scRi.nd (pi_list (pe_call GA hr1 rfl AA.g AA.F.kp AA.b .nil pass0 (pa_cons (pv 12) pa_nil))) (blkOk_by (own := [("_law_high", 14)]) (N := NR) (sc := scI2) (by decide +kernel)) (fun _ _ _ _ _ => pg_name (i := 14) scRi.nd rfl (Or.inl rfl)) (fun _ _ _ _ _ => pts_one (pt_cmpR op_notIn_seq (pv 14) (pv 6) (by rfl))) (fun _ _ _ _ _ => pv 14)) (pe_lst pa_nil) (nomark _))) (fun _ _ _ _ _ => pv 12)) (pe_lst pa_nil) (nomark _)))
      (pss_cons (ps_set (i := 8) scRi.nd rfl (Or.inl rfl) (pe_cmpR (op_eqD hr.units) (pe_lc (own := [("_law_sort", 12)]) (g := gName 12) (tt := tTest (tOp (rIn K false) (tVar 12) (tVar 6)))  rfl scRi.nd (pi_list (pv 1)) (blkOk_by (own := [("_law_sort", 12)]) (N := NR) (sc := defScope sRight) (by decide +kernel)) (fun _ _ _ _ _ => pg_name (i := 12) scRi.nd rfl (Or.inl rfl)) (fun _ _ _ _ _ => pts_one (pt_cmpR op_in_seq (pv 12) (pv 6) (by rfl))) (fun _ _ _ _ _ => pv 12)) (pe_callTy call_list_of (by rfl) T.list (by decide +kernel) (pa_cons (pv 6) pa_nil)) (nomark _)))
      (pss_one (ps_if (pt_cmpR op_ne (pe_call GU hr5 rfl AU.g AU.F.kp AU.b .nil pass0 (pa_cons (pv 6) pa_nil)) (pe_and (pv 7) (pe_one (pv 8))) (nomark _)) (pss_one (ps_ret pe_bl)) pss_nil)))))
      (pss_cons (ps_set (i := 11) scRi.nd rfl (Or.inr rfl) (pe_call GO hr2 rfl AO.g AO.F.kp AO.b .nil pass0 (pa_cons (pv 0) (pa_cons (pe_lst (pa_cons pe_non (pa_cons pe_int (pa_cons pe_str (pa_cons pe_str (pa_cons pe_str (pa_cons (pe_tup (pa_cons pe_str pa_nil)) (pa_cons (pe_lst pa_nil) (pa_cons pe_dnewK (pa_cons pe_bl (pa_cons pe_str pa_nil))))))))))) pa_nil))))
      (pss_cons (ps_if (PW.pt (pw_or (pt_val (pe_call GI hr1 rfl AI.g AI.F.kp AI.b .nil pass0 (pa_cons (pv 11) pa_nil))) (pw_or (pt_cmpR op_ne (pe_call GU hr5 rfl AU.g AU.F.kp AU.b .nil pass0 (pa_cons (pv 11) pa_nil)) (pe_cmpR (DQ.op_eqDT hr.units) (pv 11) (pe_tup (pa_cons pe_str pa_nil)) (nomark _)) (nomark _)) (pw_or1 (pt_not (pt_val (pe_call GI hr1 rfl AI.g AI.F.kp AI.b .nil pass0 (pa_cons (pe_call GO hr2 rfl AO.g AO.F.kp AO.b .nil pass0 (pa_cons (pv 0) (pa_cons (pv 1) pa_nil))) pa_nil)))))))) (pss_one (ps_ret pe_bl)) pss_nil)
      (pss_cons (ps_set (i := 9) scRi.nd rfl (Or.inl rfl) (pe_lst (pa_cons (LamX.pe_lamcall (k := 6) rfl AX.g AX.F.kp lkM hcM AX.b scMet rfl (.inl rfl) (met_is TE) TB rfl (List.mem_singleton.mpr rfl) (fun p hp _ => by rw [List.mem_singleton.mp hp] <;> rfl) hr (LamX.lamS_by (sc := defScope sRight) (by decide +kernel)) rfl (fun _ _ _ _ _ => rfl) (fun A outer s H E f c' hb => (pe_call GB (hb.mono (by decide)) rfl AB.g AB.F.kp AB.b .nil (passes_call (takes_of rfl rfl rfl rfl) (fun _ _ _ _ h => h)) (pa_cons (pv 11) (pa_cons pe_str pa_nil))))) (pa_cons (MET.pe_lamcallD (k := 6) (p := "_law_one") (n := 0) rfl AX.g AX.F.kp rfl (.inl rfl) scMet AX.b hcM lkM (met_is TE) TB rfl (List.mem_singleton.mpr rfl) (fun p hp _ => by rw [List.mem_singleton.mp hp] <;> rfl) hr (LAMD.lamP_by (sc := defScope sRight) (by decide +kernel)) rfl pe_int (fun _ _ _ h => h) (fun _ _ _ _ _ _ _ => ⟨_, rfl, rfl⟩) (fun A outer s H E f c' hb => (pe_call GB (hb.mono (by decide)) rfl AB.g AB.F.kp AB.b .nil (passes_call (takes_of rfl rfl rfl rfl) (fun _ _ _ _ h => h)) (pa_cons pe_str (pa_cons (pv 11) pa_nil))))) pa_nil))))
      (pss_cons (ps_set (i := 9) scRi.nd rfl (Or.inl rfl) (pe_op op_cat (pv 9) (pe_lst (pa_cons (LamX.pe_lamcall (k := 6) rfl AX.g AX.F.kp lkM hcM AX.b scMet rfl (.inl rfl) (met_is TE) TB rfl (List.mem_singleton.mpr rfl) (fun p hp _ => by rw [List.mem_singleton.mp hp] <;> rfl) hr (LamX.lamS_by (sc := defScope sRight) (by decide +kernel)) rfl (fun _ _ _ _ _ => rfl) (fun A outer s H E f c' hb => (pe_call GUp (hb.mono (by decide)) rfl AUp.g AUp.F.kp AUp.b .nil (passes_call (takes_of rfl rfl rfl rfl) (fun _ _ _ _ h => h)) (pa_cons (pv 11) pa_nil)))) (pa_cons (MET.pe_lamcallD (k := 6) (p := "_law_one") (n := 0) rfl AX.g AX.F.kp rfl (.inl rfl) scMet AX.b hcM lkM (met_is TE) TB rfl (List.mem_singleton.mpr rfl) (fun p hp _ => by rw [List.mem_singleton.mp hp] <;> rfl) hr (LAMD.lamP_by (sc := defScope sRight) (by decide +kernel)) rfl pe_int (fun _ _ _ h => h) (fun _ _ _ _ _ _ _ => ⟨_, rfl, rfl⟩) (fun A outer s H E f c' hb => (pe_call GLo (hb.mono (by decide)) rfl ALo.g ALo.F.kp ALo.b .nil (passes_call (takes_of rfl rfl rfl rfl) (fun _ _ _ _ h => h)) (pa_cons (pv 11) pa_nil)))) pa_nil)))))
      (pss_cons (ps_set (i := 9) scRi.nd rfl (Or.inl rfl) (pe_op op_cat (pv 9) (pe_lst (pa_cons (LamX.pe_lamcall (k := 6) rfl AX.g AX.F.kp lkM hcM AX.b scMet rfl (.inl rfl) (met_is TE) TB rfl (List.mem_singleton.mpr rfl) (fun p hp _ => by rw [List.mem_singleton.mp hp] <;> rfl) hr (LamX.lamS_by (sc := defScope sRight) (by decide +kernel)) rfl (fun _ _ _ _ _ => rfl) (fun A outer s H E f c' hb => (pe_call GJ (hb.mono (by decide)) rfl AJ.g AJ.F.kp AJ.b .nil (passes_call (takes_of rfl rfl rfl rfl) (fun _ _ _ _ h => h)) (pa_cons (pv 11) (pa_cons pe_str pa_nil))))) (pa_cons (MET.pe_lamcallD (k := 6) (p := "_law_one") (n := 0) rfl AX.g AX.F.kp rfl (.inl rfl) scMet AX.b hcM lkM (met_is TE) TB rfl (List.mem_singleton.mpr rfl) (fun p hp _ => by rw [List.mem_singleton.mp hp] <;> rfl) hr (LAMD.lamP_by (sc := defScope sRight) (by decide +kernel)) rfl pe_int (fun _ _ _ h => h) (fun _ _ _ _ _ _ _ => ⟨_, rfl, rfl⟩) (fun A outer s H E f c' hb => (pe_call GJ (hb.mono (by decide)) rfl AJ.g AJ.F.kp AJ.b .nil (passes_call (takes_of rfl rfl rfl rfl) (fun _ _ _ _ h => h)) (pa_cons pe_str (pa_cons (pv 11) pa_nil))))) pa_nil)))))
      (pss_cons (ps_set (i := 10) scRi.nd rfl (Or.inr rfl) (pe_call GO hr2 rfl AO.g AO.F.kp AO.b .nil pass0 (pa_cons (pv 0) (pa_cons (pe_lst (pa_cons pe_non (pa_cons pe_str (pa_cons (pe_lst (pa_cons pe_str pa_nil)) (pa_cons (pe_tup (pa_cons pe_str (pa_cons pe_non pa_nil))) (pa_cons (pe_tup (pa_cons pe_str pa_nil)) (pa_cons pe_dnewK (pa_cons pe_int pa_nil)))))))) pa_nil))))
      (pss_one (ps_ret (pe_cmpR (op_eqD hr.units) (pe_op op_cat (pv 9) (pe_lst (pa_cons (LamX.pe_lamcall (k := 6) rfl AX.g AX.F.kp lkM hcM AX.b scMet rfl (.inl rfl) (met_is TE) TB rfl (List.mem_singleton.mpr rfl) (fun p hp _ => by rw [List.mem_singleton.mp hp] <;> rfl) hr (LamX.lamS_by (sc := defScope sRight) (by decide +kernel)) rfl (fun _ _ _ _ _ => rfl) (fun A outer s H E f c' hb => (pe_call GL (hb.mono (by decide)) rfl AL.g AL.F.kp AL.b .nil (passes_call (takes_of rfl rfl rfl rfl) (fun _ _ _ _ h => h)) (pa_cons (pv 10) pa_nil)))) pa_nil))) (pe_op op_rep (pe_lst (pa_cons pe_str pa_nil)) pe_int) (nomark _))))))))))))))))), ?_⟩
    refine ⟨aS, _, rfl, .inr (S.sS _), fun l1 hl1 => ?_⟩
    have l1p : l1 ≠ p := hD.ne hl1
    refine via (C := fun G => DiceAt G p ∧ LamX.Tabs (TR PT) G ∧ But p H G ∧ G l1 = some (.lst (tv all9))) ?_ ?_
    · exact ⟨hD.new hl1, tabs_same hT (same_upd hl1), But.ofSame (same_upd hl1), upd_same⟩
    rintro G ⟨dG, tG, bG, eG⟩
    clear hl1
    -- some
    refine ⟨_, rfl, l1, rfl, ⟨_, SqL.of eG⟩, fun D hD2 => ?_⟩
    have Dp := dG.ne hD2
    refine counted walk_list (fun i H2 => DiceAt H2 p ∧ But p G H2 ∧ ∃ sub, sub.Sublist (all9.take i) ∧ H2 D = some (.lst (tv sub))) ⟨dG.new hD2, But.ofSame (same_upd hD2), [], List.Sublist.refl _, upd_same⟩ (fun i H2 _ ⟨_, b2, _⟩ => SqL.of (b2 _ _ eG l1p)) ?_ ?_
    · rintro i x H2 H3 hi ⟨d2, b2, sub, hsub, e2⟩ ⟨rfl, hx⟩
      rw [tv, List.getElem?_map] at hx
      cases hc : all9[i]? with
      | none => rw [hc] at hx; cases hx
      | some s =>
        rw [hc] at hx
        obtain rfl : V.str (nm s) = x := Option.some.inj hx
        have tk : all9.take (i + 1) = all9.take i ++ [s] := by rw [List.take_add_one, hc] <;> rfl
        have hlen : sub.length ≤ 9 := Nat.le_trans hsub.length_le (by rw [List.length_take]; exact Nat.min_le_right ..)
        refine ⟨rfl, _, rfl, p, _, rfl, d2, by decide, by decide, fun r H4 hr0 hr3 d4 b4 => ⟨rfl, _, rfl, ?_⟩⟩
        have e4 := b4 _ _ e2 Dp
        rw [tk]
        by_cases h0 : V.int r = V.int 0
        · rw [decide_eq_true h0]
          refine ⟨_, rfl, _, e4, by rw [tv, List.length_map, sizeLine_eq]; omega, d4.keep (fun _ e => by rw [upd_ne (Ne.symm Dp)]; exact e), but_at (b2.trans b4) hD2, sub ++ [s], hsub.append (List.Sublist.refl _), ?_⟩
          rw [upd_same, tv, tv, List.map_append] <;> rfl
        · rw [decide_eq_false h0]
          exact ⟨d4, b2.trans b4, sub, hsub.trans (List.sublist_append_left _ _), e4⟩
    rintro G2 ⟨d2, b2, sm, hsm, e2⟩
    have hsm : sm.Sublist all9 := hsm.trans (List.take_sublist _ _)
    have hmem := subs_mem hsm
    have okS : Ok sm := subs_ok sm hmem
    have lnS : sm.length ≤ 9 := hsm.length_le
    have t2 := tabs_but tG dG b2
    have eG := b2 _ _ eG l1p
    have b2 := bG.trans b2
    clear bG tG dG hT hD hD2
    -- mixed
    have es : tv sm = (sm.map nm).map V.str := by rw [List.map_map] <;> rfl
    refine ⟨_, rfl, _, rfl, p, D, sm.map nm, rfl, d2, Dp, by rw [← es]; exact e2, by rw [List.length_map]; omega, fun y hy => ?_, fun r zs H3 hz hr0 d3 b3 hr3 hrp => ?_⟩
    · obtain ⟨i, hi, rfl⟩ := List.mem_map.mp hy
      exact lay_nm0 i (okS i hi)
    obtain ⟨z, rfl, hzp, okZ⟩ := perm_nm okS hz
    refine ⟨r, _, rfl, .inl ⟨SqL.of hr3, fun tM htM => ?_⟩⟩
    refine via (C := fun G => DiceAt G p ∧ LamX.Tabs (TR PT) G ∧ But p H G ∧ G l1 = some (.lst (tv all9)) ∧ G D = some (.lst (tv sm)) ∧ G tM = some (.tup (tv z))) ?_ ?_
    · exact ⟨d3.new htM, tabs_same (tabs_but t2 d2 b3) (same_upd htM), b2.trans (b3.trans (But.ofSame (same_upd htM))), same_upd htM _ _ (b3 _ _ eG l1p), same_upd htM _ _ (b3 _ _ e2 Dp), by rw [upd_same, List.map_map] <;> rfl⟩
    rintro G3 ⟨d3, t3, b3, eL, eD, eM⟩
    clear htM
    -- due
    refine ⟨_, rfl, D, rfl, ⟨_, SqL.of eD⟩, fun Du hDu => ?_⟩
    refine same_list (l := sm) (val := fun j => V.str (nm j)) (r := fun s => if decide (sm.filter (fun o => decide (s ∈ abv o)) = [s]) = true then [V.str (nm s)] else []) hDu (SqL.of eD) (Nat.lt_of_le_of_lt lnS sz9) (fun _ => one_if _) (fun s hs H4 acc s4 hacc hlen N hN => ?_) (fun H4 s4 hd4 => ?_)
    · have hs9 := okS s hs
      refine ⟨rfl, inner_test hs9 okS lnS (s4 _ _ eD) fun D5 H5 n5 s5 e5 => ⟨_, rfl, (by rw [sizeLine_eq]; show 1 ≤ 16777216; decide), fun l5 hl5 => ?_⟩⟩
      have ok1 : Ok [s] := fun i hi => by rw [List.mem_singleton.mp hi]; exact hs9
      have okF := okS.filter fun o => decide (s ∈ abv o)
      refine ⟨.list (td _), .list (td [s]), .lst (SqL.of (same_upd hl5 _ _ e5)) (dp_td _), .lst (SqL.of upd_same) (dp_td [s]), (shaped_td okF).1, (shaped_td ok1).1, _, rfl, ?_⟩
      rw [eqL_td okF ok1]
      have s6 : Same H4 (upd H5 l5 (.lst [V.str (nm s)])) := same_two s5 hl5
      cases e : decide (sm.filter (fun o => decide (s ∈ abv o)) = [s]) with
      | true =>
        refine ⟨_, rfl, acc, s6 _ _ hacc, hlen, hN _ (same_at (s4.trans s6) hDu) ?_⟩
        rw [upd_same, e] <;> rfl
      | false =>
        refine hN _ (s4.trans s6) ?_
        rw [s6 _ _ hacc, e]
        simp
    rw [flat_filter] at hd4
    have hd4 : H4 Du = some (.lst (tv (dueC sm))) := hd4
    have okDue : Ok (dueC sm) := okS.filter _
    refine via (C := fun G => DiceAt G p ∧ LamX.Tabs (TR PT) G ∧ But p H G ∧ G l1 = some (.lst (tv all9)) ∧ G D = some (.lst (tv sm)) ∧ G tM = some (.tup (tv z)) ∧ G Du = some (.lst (tv (dueC sm)))) ?_ ?_
    · exact ⟨d3.keep fun _ e => s4 _ _ e, tabs_same t3 s4, b3.trans (But.ofSame s4), s4 _ _ eL, s4 _ _ eD, s4 _ _ eM, hd4⟩
    rintro G4 ⟨d4, t4, b4, eL, eD, eM, eU⟩
    clear hd4 s4 hDu t3 b3 d3 hr3 eG t2 e2 b2 d2
    -- the least ones
    obtain ⟨due1, due2⟩ := due_is sm hmem
    have kz : leastC (keptC z) = dueC sm := by rw [kept_perm hzp, due2, due1]
    have lz : z.length ≤ 100 := by rw [hzp.length_eq]; omega
    refine ⟨_, rfl, _, rfl, .inl ⟨tM, z, rfl, SqT.of eM, okZ, lz, fun a1 K1 na1 s1 e1 => ⟨_, rfl, Du, _, rfl, .inl ⟨SqL.of (s1 _ _ eU), fun a2 ha2 => ?_⟩⟩⟩⟩
    rw [kz] at e1
    refine ⟨.tuple (td (dueC sm)), .tuple (td (dueC sm)), .tup (SqT.of (same_upd ha2 _ _ e1)) (dp_td _), .tup (SqT.of upd_same) (dp_td _), (shaped_td okDue).2, (shaped_td okDue).2, _, rfl, ?_⟩
    rw [eqT_td okDue okDue, decide_eq_true rfl]
    refine ⟨Nat.zero_le _, fun a3 ha3 => ⟨_, rfl, .inl ⟨a3, [], rfl, SqT.of upd_same, Ok.nil, by decide, fun a4 K4 na4 s5 e5 => ⟨Nat.zero_le _, fun a6 ha6 => ?_⟩⟩⟩⟩
    have e5 : K4 a4 = some (.tup []) := e5
    refine ⟨.tuple [], .tuple [], .tup (SqT.of (same_upd ha6 _ _ e5)) .nil, .tup (SqT.of upd_same) .nil, by decide, by decide, _, rfl, ?_⟩
    have sT : Same G4 (upd K4 a6 (.tup [])) := (s1.trans (same_two (same_upd ha2) ha3)).trans (same_two s5 ha6)
    refine via (C := fun G => DiceAt G p ∧ LamX.Tabs (TR PT) G ∧ But p H G ∧ G l1 = some (.lst (tv all9)) ∧ G D = some (.lst (tv sm))) ?_ ?_
    · exact ⟨d4.keep fun _ e => sT _ _ e, tabs_same t4 sT, b4.trans (But.ofSame sT), sT _ _ eL, sT _ _ eD⟩
    rintro G5 ⟨d5, t5, b5, eL, eD⟩
    clear sT e5 ha6 s5 na4 ha3 ha2 e1 s1 na1 eU eM t4 b4 d4
    -- closed
    refine ⟨_, rfl, l1, rfl, ⟨_, SqL.of eL⟩, fun Dc hDc => ?_⟩
    refine same_list (l := all9) (val := fun j => V.str (nm j)) (r := fun s => if (!decide (sm.filter (fun o => decide (s ∈ abv o)) = [])) = true then [V.str (nm s)] else []) hDc (SqL.of eL) sz9 (fun _ => one_if _) (fun s hs H4 acc s4 hacc hlen N hN => ?_) (fun H4 s4 hd4 => ?_)
    · have hs9 := all9_mem.mp hs
      refine ⟨rfl, inner_test hs9 okS lnS (s4 _ _ eD) fun D5 H5 n5 s5 e5 => ⟨Nat.zero_le _, fun l5 hl5 => ?_⟩⟩
      have okF := okS.filter fun o => decide (s ∈ abv o)
      refine ⟨.list (td _), .list (td []), .lst (SqL.of (same_upd hl5 _ _ e5)) (dp_td _), .lst (SqL.of upd_same) .nil, (shaped_td okF).1, by decide, _, rfl, ?_⟩
      rw [eqL_td okF Ok.nil]
      have s6 : Same H4 (upd H5 l5 (.lst [])) := same_two s5 hl5
      cases e : decide (sm.filter (fun o => decide (s ∈ abv o)) = []) with
      | false =>
        refine ⟨_, rfl, acc, s6 _ _ hacc, hlen, hN _ (same_at (s4.trans s6) hDc) ?_⟩
        rw [upd_same, e] <;> rfl
      | true =>
        refine hN _ (s4.trans s6) ?_
        rw [s6 _ _ hacc, e]
        simp
    rw [flat_filter] at hd4
    have hd4 : H4 Dc = some (.lst (tv (closedC sm))) := hd4
    have okC : Ok (closedC sm) := ok_all9.filter _
    have lnC : (closedC sm).length ≤ 9 := List.length_filter_le _ all9
    refine via (C := fun G => DiceAt G p ∧ LamX.Tabs (TR PT) G ∧ But p H G ∧ G l1 = some (.lst (tv all9)) ∧ G D = some (.lst (tv sm)) ∧ G Dc = some (.lst (tv (closedC sm)))) ?_ ?_
    · exact ⟨d5.keep fun _ e => s4 _ _ e, tabs_same t5 s4, b5.trans (But.ofSame s4), s4 _ _ eL, s4 _ _ eD, hd4⟩
    rintro G6 ⟨d6, t6, b6, eL, eD, eC⟩
    clear hd4 s4 hDc t5 b5 d5
    generalize closedC sm = cl at okC lnC eC
    -- five tuples
    refine ⟨_, rfl, D, _, rfl, .inl ⟨SqL.of eD, fun a1 h1 => ?_⟩⟩
    refine viaA (C := fun G => Same G6 G ∧ G a1 = some (.tup (tv sm))) ?_ ?_
    · exact ⟨same_upd h1, upd_same⟩
    rintro G7 ⟨s7, e1⟩
    refine ⟨_, rfl, Dc, _, rfl, .inl ⟨SqL.of (s7 _ _ eC), fun a2 h2 => ?_⟩⟩
    refine viaA (C := fun G => Same G6 G ∧ G a1 = some (.tup (tv sm)) ∧ G a2 = some (.tup (tv cl))) ?_ ?_
    · exact ⟨same_two s7 h2, same_upd h2 _ _ e1, upd_same⟩
    clear s7 h2 h1 e1
    rintro G7 ⟨s7, e1, e2⟩
    refine ⟨_, rfl, Dc, _, rfl, SqL.of (s7 _ _ eC), fun v1 hv1 => ⟨v1, _, rfl, .inl ⟨SqL.of upd_same, fun a3 h3 => ?_⟩⟩⟩
    refine viaA (C := fun G => Same G6 G ∧ G a1 = some (.tup (tv sm)) ∧ G a2 = some (.tup (tv cl)) ∧ G a3 = some (.tup (tv cl.reverse))) ?_ ?_
    · exact ⟨same_two (same_two s7 hv1) h3, same_two (same_upd hv1) h3 _ _ e1, same_two (same_upd hv1) h3 _ _ e2, by rw [upd_same, tv, tv, List.map_reverse]⟩
    clear s7 hv1 h3 e1 e2
    rintro G7 ⟨s7, e1, e2, e3⟩
    refine ⟨_, rfl, 1, rfl, Dc, _, rfl, SqL.of (s7 _ _ eC), fun v1 hv1 => ⟨v1, _, rfl, .inl ⟨SqL.of upd_same, fun a4 h4 => ?_⟩⟩⟩
    refine viaA (C := fun G => Same G6 G ∧ G a1 = some (.tup (tv sm)) ∧ G a2 = some (.tup (tv cl)) ∧ G a3 = some (.tup (tv cl.reverse)) ∧ G a4 = some (.tup (tv (cl.drop 1)))) ?_ ?_
    · exact ⟨same_two (same_two s7 hv1) h4, same_two (same_upd hv1) h4 _ _ e1, same_two (same_upd hv1) h4 _ _ e2, same_two (same_upd hv1) h4 _ _ e3, by rw [upd_same, cut_drop]⟩
    clear s7 hv1 h4 e1 e2 e3
    rintro G7 ⟨s7, e1, e2, e3, e4⟩
    refine ⟨_, rfl, _, rfl, 1, rfl, Dc, _, rfl, SqL.of (s7 _ _ eC), fun v1 hv1 => ?_⟩
    have lt1 : (tv (cl.take 1)).length ≤ 9 := by rw [tv, List.length_map, List.length_take]; omega
    refine ⟨Dc, v1, _, _, rfl, rfl, same_upd hv1 _ _ (s7 _ _ eC), upd_same, by rw [cut_take, tv, List.length_map, sizeLine_eq]; omega, fun v2 hv2 => ⟨v2, _, rfl, .inl ⟨SqL.of upd_same, fun a5 h5 => ⟨(by rw [sizeLine_eq]; show 5 ≤ 16777216; decide), fun tt htt => ?_⟩⟩⟩⟩
    have sA := same_two (same_two (same_two (same_upd hv1 (o := .lst (cutV (tv cl) none (some 1)))) hv2 (o := .lst (tv cl ++ cutV (tv cl) none (some 1)))) h5 (o := .tup (tv cl ++ cutV (tv cl) none (some 1)))) htt (o := .tup [V.ref a1, V.ref a2, V.ref a3, V.ref a4, V.ref a5])
    refine via (C := fun G => Same G6 G ∧ G tt = some (.tup [V.ref a1, V.ref a2, V.ref a3, V.ref a4, V.ref a5]) ∧ Ths G [V.ref a1, V.ref a2, V.ref a3, V.ref a4, V.ref a5] [sm, cl, cl.reverse, cl.drop 1, cl ++ cl.take 1]) ?_ ?_
    · exact ⟨s7.trans sA, upd_same, ⟨_, rfl, sA _ _ e1⟩, ⟨_, rfl, sA _ _ e2⟩, ⟨_, rfl, sA _ _ e3⟩, ⟨_, rfl, sA _ _ e4⟩, ⟨_, rfl, by rw [same_upd htt _ _ upd_same, cut_take, tv, tv, tv, List.map_append]⟩, trivial⟩
    clear sA htt h5 hv2 hv1 s7 e1 e2 e3 e4
    rintro G7 ⟨s7, eT, ths⟩
    have d7 := d6.keep fun _ e => s7 _ _ e
    have t7 := tabs_same t6 s7
    have b7 := b6.trans (But.ofSame s7)
    have eL := s7 _ _ eL
    clear eD eC d6 t6 b6 s7
    have okT : ∀ l ∈ [sm, cl, cl.reverse, cl.drop 1, cl ++ cl.take 1], Ok l ∧ l.length ≤ 100 := by
      intro l hl
      simp only [List.not_mem_nil, List.mem_cons, or_false] at hl
      rcases hl with rfl | rfl | rfl | rfl | rfl
      · exact ⟨okS, by omega⟩
      · exact ⟨okC, by omega⟩
      · exact ⟨fun i hi => okC i (List.mem_reverse.mp hi), by rw [List.length_reverse]; omega⟩
      · exact ⟨fun i hi => okC i (List.mem_of_mem_drop hi), by rw [List.length_drop]; omega⟩
      · refine ⟨fun i hi => (List.mem_append.mp hi).elim (okC i) fun h => okC i (List.mem_of_mem_take h), ?_⟩
        rw [List.length_append, List.length_take]
        omega
    refine ⟨tt, rfl, ⟨_, SqT.of eT⟩, ?_⟩
    refine for_tup (fun i σ H' => (∃ a6 a7 a8, σ = [some (.ref p), some (.ref l1), some (.ref D), some (.ref tM), some (.ref Du), some (.ref Dc), a6, a7, a8, none, none, none, none, none, none]) ∧ Same G7 H') ⟨⟨_, _, _, rfl⟩, Same.refl _⟩ (fun i σ H' _ p => SqT.of (p.2 _ _ eT)) ?_ ?_
    · rintro i x σ H1 hx ⟨⟨a6, a7, a8, rfl⟩, s1⟩
      obtain ⟨th, aT, hth, rfl, eth⟩ := ths.get hx
      obtain ⟨okTh, lnTh⟩ := okT th hth
      have lnT2 : th.length < sizeLine := by rw [sizeLine_eq]; omega
      have eth1 := s1 _ _ eth
      refine ⟨_, rfl, aT, rfl, ⟨_, SqT.of eth1⟩, fun D7 hD7 => ?_⟩
      refine same_tup (l := th) (val := fun j => V.str (nm j)) (r := fun s => if (!decide ((abv s).filter (fun h => !decide (h ∈ th)) = [])) = true then [V.str (nm s)] else []) hD7 (SqT.of eth1) lnT2 (fun _ => one_if _) (fun s hs H4 acc s4 hacc hlen N hN => ?_) (fun H4 s4 hd4 => ?_)
      · have hs9 := okTh s hs
        refine ⟨rfl, high_test hs9 okTh (s4 _ _ eth1) fun D5 H5 n5 s5 e5 => ⟨Nat.zero_le _, fun l5 hl5 => ?_⟩⟩
        have okF := (abv_ok hs9).filter fun h => !decide (h ∈ th)
        refine ⟨.list (td _), .list (td []), .lst (SqL.of (same_upd hl5 _ _ e5)) (dp_td _), .lst (SqL.of upd_same) .nil, (shaped_td okF).1, by decide, _, rfl, ?_⟩
        rw [eqL_td okF Ok.nil]
        have s6 : Same H4 (upd H5 l5 (.lst [])) := same_two s5 hl5
        cases e : decide ((abv s).filter (fun h => !decide (h ∈ th)) = []) with
        | false =>
          refine ⟨_, rfl, acc, s6 _ _ hacc, hlen, hN _ (same_at (s4.trans s6) hD7) ?_⟩
          rw [upd_same, e] <;> rfl
        | true =>
          refine hN _ (s4.trans s6) ?_
          rw [s6 _ _ hacc, e]
          simp
      rw [flat_filter] at hd4
      have hd4 : H4 D7 = some (.lst (tv (th.filter fun s => !decide ((abv s).filter (fun h => !decide (h ∈ th)) = [])))) := hd4
      have okU := okTh.filter fun s => !decide ((abv s).filter (fun h => !decide (h ∈ th)) = [])
      refine ⟨Nat.zero_le _, fun l7 hl7 => ?_⟩
      refine ⟨.list (td _), .list (td []), .lst (SqL.of (same_upd hl7 _ _ hd4)) (dp_td _), .lst (SqL.of upd_same) .nil, (shaped_td okU).1, by decide, ?_⟩
      rw [eqL_td okU Ok.nil]
      have s8 : Same G7 (upd H4 l7 (.lst [])) := same_two (s1.trans s4) hl7
      generalize upd H4 l7 (HO.lst []) = H5 at s8 ⊢
      -- in order
      refine ⟨_, rfl, l1, rfl, ⟨_, SqL.of (s8 _ _ eL)⟩, fun D8 hD8 => ?_⟩
      refine same_list (l := all9) (val := fun j => V.str (nm j)) (r := fun s => if decide (s ∈ th) = true then [V.str (nm s)] else []) hD8 (SqL.of (s8 _ _ eL)) sz9 (fun _ => one_if _) (fun s hs H6 acc s6 hacc hlen N hN => ?_) (fun H6 s6 hd6 => ?_)
      · have hs9 := all9_mem.mp hs
        refine ⟨rfl, _, rfl, _, rfl, aT, _, rfl, .inr (SqT.of (s6 _ _ (s8 _ _ eth))), rfl, flat_tv _, _, rfl, ?_⟩
        rw [inV_nm hs9 okTh]
        cases e : decide (s ∈ th) with
        | true =>
          refine ⟨_, rfl, acc, hacc, hlen, hN _ (same_at s6 hD8) ?_⟩
          rw [upd_same, e] <;> rfl
        | false =>
          refine hN _ s6 ?_
          rw [hacc, e]
          simp
      rw [flat_filter] at hd6
      have hd6 : H6 D8 = some (.lst (tv (keptC th))) := hd6
      have okK : Ok (keptC th) := ok_all9.filter _
      refine ⟨_, rfl, aT, _, rfl, .inr (SqT.of (s6 _ _ (s8 _ _ eth))), fun l8 hl8 => ?_⟩
      refine ⟨.list (td (keptC th)), .list (td th), .lst (SqL.of (same_upd hl8 _ _ hd6)) (dp_td _), .lst (SqL.of upd_same) (dp_td _), (shaped_td okK).1, (shaped_td okTh).1, ?_⟩
      rw [eqL_td okK okTh]
      have s9 : Same G7 (upd H6 l8 (.lst (tv th))) := same_two (s8.trans s6) hl8
      generalize upd H6 l8 (HO.lst (tv th)) = H7 at s9 ⊢
      -- up
      refine ⟨_, rfl, _, rfl, .inl ⟨aT, tv th, rfl, SqT.of (s9 _ _ eth), by rw [tv, List.length_map]; exact lnTh, item_tv, .inl ⟨th, rfl, okTh, fun H8 s10 => ?_⟩⟩⟩
      rw [upC_is okTh]
      refine ⟨_, rfl, _, rfl, ?_⟩
      change if upL th = true then _ else _
      cases eu : upL th with
      | true =>
        refine ⟨_, rfl, rfl, _, rfl, ?_⟩
        have e : (!decide (V.bl (true && inOrd th) = V.bl (decide (keptC th = th)))) = false := by rw [decide_eq_true (show V.bl (true && inOrd th) = V.bl (decide (keptC th = th)) from rfl)] <;> rfl
        rw [e]
        exact ⟨⟨_, _, _, rfl⟩, s9.trans s10⟩
      | false =>
        refine ⟨rfl, _, rfl, ?_⟩
        have e : (!decide (V.bl (false && inOrd th) = V.bl false)) = false := by rw [decide_eq_true (show V.bl (false && inOrd th) = V.bl false from rfl)] <;> rfl
        rw [e]
        exact ⟨⟨_, _, _, rfl⟩, s9.trans s10⟩
    rintro σ G8 ⟨⟨a6, a7, a8, rfl⟩, s8⟩
    have d8 := d7.keep fun _ e => s8 _ _ e
    have t8 := tabs_same t7 s8
    have b8 := b7.trans (But.ofSame s8)
    have eL := s8 _ _ eL
    clear s8 ths eT okT t7 b7 d7
    -- a value that is no sort
    refine ⟨_, rfl, (by rw [sizeLine_eq]; show 1 ≤ 16777216; decide), fun ta hta => ⟨Nat.zero_le _, fun tb htb => fun tc htc => ⟨(by rw [sizeLine_eq]; show 10 ≤ 16777216; decide), fun td10 ht10 => ?_⟩⟩⟩
    have sB : Same G8 (upd (upd (upd G8 ta (.tup [V.str "any"])) tb (.lst [])) tc (.dK [])) := same_two (same_two (same_upd hta) htb) htc
    have q1 := same_upd ht10 (o := .lst [V.non, V.int 0, V.str "", V.str "Any", V.str "cap", V.ref ta, V.ref tb, V.ref tc, V.bl true, V.str "any "])
    have dB := d8.keep fun _ e => sB _ _ e
    have nta := d8.ne hta
    have ntb := (d8.new hta (o := .tup [V.str "any"])).ne htb
    have ntc := ((d8.new hta (o := .tup [V.str "any"])).new htb (o := .lst [])).ne htc
    refine ⟨p, td10, _, rfl, dB.keep fun _ e => q1 _ _ e, dB.ne ht10, upd_same, (by show 0 < 10; decide), (by show 10 < 1000000; decide), fun v H9 hv d9 b9 => ?_⟩
    have oC : OddC H9 v := by
      simp only [List.not_mem_nil, List.mem_cons, or_false] at hv
      rcases hv with rfl | rfl | rfl | rfl | rfl | rfl | rfl | rfl | rfl | rfl
      · exact .inr (.inl rfl)
      · exact .inr (.inr (.inl rfl))
      · exact .inl ⟨_, rfl, by decide +kernel⟩
      · exact .inl ⟨_, rfl, by decide +kernel⟩
      · exact .inl ⟨_, rfl, by decide +kernel⟩
      · exact .inr (.inr (.inr (.inr (.inl ⟨ta, rfl, b9 _ _ (q1 _ _ (same_two (same_upd htb) htc _ _ upd_same)) nta⟩))))
      · exact .inr (.inr (.inr (.inr (.inr (.inl ⟨tb, rfl, b9 _ _ (q1 _ _ (same_upd htc _ _ upd_same)) ntb⟩)))))
      · exact .inr (.inr (.inr (.inr (.inr (.inr ⟨tc, rfl, b9 _ _ (q1 _ _ upd_same) ntc⟩)))))
      · exact .inr (.inr (.inr (.inl rfl)))
      · exact .inl ⟨_, rfl, by decide +kernel⟩
    have t9 : LamX.Tabs (TR PT) H9 := tabs_but (tabs_same t8 (sB.trans q1)) (d8.keep fun _ e => (sB.trans q1) _ _ e) b9
    have eL : H9 l1 = some (.lst (tv all9)) := b9 _ _ ((sB.trans q1) _ _ eL) l1p
    have b9 := b8.trans ((But.ofSame (sB.trans q1)).trans b9)
    clear hv dB nta ntb ntc q1 sB ht10 htc htb hta b8 t8 d8
    -- judged
    refine oC.isB (K := K) rfl ?_
    refine oC.up rfl fun H10 s10 => ?_
    have d10 := d9.keep fun _ e => s10 _ _ e
    refine ⟨_, rfl, _, rfl, p, l1, _, rfl, d10, l1p, s10 _ _ eL, (by show 0 < 9; decide), (by show 9 < 1000000; decide), fun v2 H11 hv2 d11 b11 => ?_⟩
    obtain ⟨i2, hi2, rfl⟩ := List.mem_map.mp hv2
    refine ⟨_, rfl, .inl ⟨_, rfl, ?_⟩⟩
    rw [isS_nm i2 (ok_all9 i2 hi2)]
    refine ⟨true, rfl, ?_⟩
    have t11 : LamX.Tabs (TR PT) H11 := tabs_but (tabs_same t9 s10) d10 b11
    have o11 : OddC H11 v := by
      rcases oC with h | h | h | h | ⟨a, h, q⟩ | ⟨a, h, q⟩ | ⟨a, h, q⟩
      · exact .inl h
      · exact .inr (.inl h)
      · exact .inr (.inr (.inl h))
      · exact .inr (.inr (.inr (.inl h)))
      · exact .inr (.inr (.inr (.inr (.inl ⟨a, h, b11 _ _ (s10 _ _ q) (d9.not q (fun x y z e => nomatch e))⟩))))
      · exact .inr (.inr (.inr (.inr (.inr (.inl ⟨a, h, b11 _ _ (s10 _ _ q) (d9.not q (fun x y z e => nomatch e))⟩)))))
      · exact .inr (.inr (.inr (.inr (.inr (.inr ⟨a, h, b11 _ _ (s10 _ _ q) (d9.not q (fun x y z e => nomatch e))⟩)))))
    have b11 : ButT p H H11 := ButT.ofBut (b9.trans ((But.ofSame s10).trans b11))
    clear t9 oC b9 d10 s10 d9 eL
    -- told: below
    refine ⟨t11, fun H12 x12 t12 => ?_⟩
    refine ⟨_, rfl, _, _, rfl, .inr ⟨.inl (o11.ext x12).odd, rfl, ?_⟩⟩
    refine ⟨one_at rfl, t12, fun H13 x13 t13 => ?_⟩
    have x13 := x12.trans x13
    refine ⟨_, rfl, _, _, rfl, .inr ⟨.inr ⟨⟨8, by decide, rfl⟩, (o11.ext x13).odd⟩, rfl, ?_⟩⟩
    refine ⟨(by rw [sizeLine_eq]; show 2 ≤ 16777216; decide), fun l13 hl13 => ?_⟩
    have y13 : XN H11 (upd H13 l13 (.lst [V.str "operation", V.str "operation"])) := fun b o e n => same_upd hl13 _ _ (x13 _ _ e n)
    have t13 : LamX.Tabs (TR PT) (upd H13 l13 (.lst [V.str "operation", V.str "operation"])) := tabs_same t13 (same_upd hl13)
    have e13 : upd H13 l13 (HO.lst [V.str "operation", V.str "operation"]) l13 = some (.lst [V.str "operation", V.str "operation"]) := upd_same
    generalize upd H13 l13 (HO.lst [V.str "operation", V.str "operation"]) = G13 at y13 t13 e13 ⊢
    clear hl13 x13 t12 x12
    -- uppers, lowers
    refine ⟨_, rfl, t13, fun H14 x14 t14 => ?_⟩
    refine ⟨_, rfl, _, rfl, .inr ⟨(o11.ext (y13.trans x14)).odd, rfl, ?_⟩⟩
    refine ⟨one_at rfl, t14, fun H15 x15 t15 => ?_⟩
    have x15 := x14.trans x15
    refine ⟨_, rfl, _, rfl, .inr ⟨(o11.ext (y13.trans x15)).odd, rfl, ?_⟩⟩
    refine ⟨(by rw [sizeLine_eq]; show 2 ≤ 16777216; decide), fun m15 hm15 => ?_⟩
    have nol : ∀ {xs : List V} {ps : Array Value}, HO.lst xs ≠ .tbl ps := fun z => nomatch z
    refine ⟨l13, m15, _, _, rfl, rfl, same_upd hm15 _ _ (x15 _ _ e13 fun _ => nol), upd_same, (by rw [sizeLine_eq]; show 4 ≤ 16777216; decide), fun l15 hl15 => ?_⟩
    have y15 : XN H11 (upd (upd H15 m15 (.lst [V.str "operation", V.str "operation"])) l15 (.lst [V.str "operation", V.str "operation", V.str "operation", V.str "operation"])) := fun b o e n => same_two (same_upd hm15) hl15 _ _ ((y13.trans x15) _ _ e n)
    have t15 : LamX.Tabs (TR PT) (upd (upd H15 m15 (.lst [V.str "operation", V.str "operation"])) l15 (.lst [V.str "operation", V.str "operation", V.str "operation", V.str "operation"])) := tabs_same t15 (same_two (same_upd hm15) hl15)
    refine via (C := fun G => XN H11 G ∧ LamX.Tabs (TR PT) G ∧ G l15 = some (.lst [V.str "operation", V.str "operation", V.str "operation", V.str "operation"])) ?_ ?_
    · exact ⟨y15, t15, upd_same⟩
    clear t15 y15 hl15 hm15 x15 t14 x14 e13 t13 y13
    rintro G15 ⟨y15, t15, e15⟩
    -- joined
    refine ⟨_, rfl, t15, fun H16 x16 t16 => ?_⟩
    refine ⟨_, rfl, _, _, rfl, .inr ⟨.inl (o11.ext (y15.trans x16)).odd, rfl, ?_⟩⟩
    refine ⟨one_at rfl, t16, fun H17 x17 t17 => ?_⟩
    have x17 := x16.trans x17
    refine ⟨_, rfl, _, _, rfl, .inr ⟨.inr ⟨⟨2, by decide, rfl⟩, (o11.ext (y15.trans x17)).odd⟩, rfl, ?_⟩⟩
    refine ⟨(by rw [sizeLine_eq]; show 2 ≤ 16777216; decide), fun m17 hm17 => ?_⟩
    refine ⟨l15, m17, _, _, rfl, rfl, same_upd hm17 _ _ (x17 _ _ e15 fun _ => nol), upd_same, (by rw [sizeLine_eq]; show 6 ≤ 16777216; decide), fun l17 hl17 => ?_⟩
    have y17 : XN H11 (upd (upd H17 m17 (.lst [V.str "operation", V.str "operation"])) l17 (.lst [V.str "operation", V.str "operation", V.str "operation", V.str "operation", V.str "operation", V.str "operation"])) := fun b o e n => same_two (same_upd hm17) hl17 _ _ ((y15.trans x17) _ _ e n)
    have t17 : LamX.Tabs (TR PT) (upd (upd H17 m17 (.lst [V.str "operation", V.str "operation"])) l17 (.lst [V.str "operation", V.str "operation", V.str "operation", V.str "operation", V.str "operation", V.str "operation"])) := tabs_same t17 (same_two (same_upd hm17) hl17)
    refine via (C := fun G => XN H11 G ∧ LamX.Tabs (TR PT) G ∧ G l17 = some (.lst [V.str "operation", V.str "operation", V.str "operation", V.str "operation", V.str "operation", V.str "operation"])) ?_ ?_
    · exact ⟨y17, t17, upd_same⟩
    clear t17 y17 hl17 hm17 x17 t16 x16 e15 t15 y15
    rintro G17 ⟨y17, t17, e17⟩
    have d17 : DiceAt G17 p := d11.keep fun o e => y17 _ _ e (by
      obtain ⟨a, b, c, e1, _⟩ := d11
      rw [e1] at e
      rw [← Option.some.inj e]
      exact fun _ => nol)
    have b17 : ButT p H G17 := b11.trans (ButT.ofX y17)
    clear o11 b11 t11 y17
    -- a value that is no tuple of sorts
    refine ⟨_, rfl, (by rw [sizeLine_eq]; show 1 ≤ 16777216; decide), fun ua hua => ⟨(by rw [sizeLine_eq]; show 2 ≤ 16777216; decide), fun ub hub => ⟨(by rw [sizeLine_eq]; show 1 ≤ 16777216; decide), fun uc huc => fun ud hud => ⟨(by rw [sizeLine_eq]; show 7 ≤ 16777216; decide), fun u7 hu7 => ?_⟩⟩⟩⟩
    have z1 : Same (upd G17 ua (.lst [V.str "any"])) (upd (upd (upd (upd G17 ua (.lst [V.str "any"])) ub (.tup [V.str "any", V.non])) uc (.tup [V.str "Any"])) ud (.dK [])) := same_two (same_two (same_upd hub) huc) hud
    have z0 := (same_upd hua (o := .lst [V.str "any"])).trans z1
    have z7 := same_upd hu7 (o := .lst [V.non, V.str "any", V.ref ua, V.ref ub, V.ref uc, V.ref ud, V.int 0])
    have dU := d17.keep fun _ e => z0 _ _ e
    have nua := d17.ne hua
    have nub := (d17.new hua (o := .lst [V.str "any"])).ne hub
    have nuc := ((d17.new hua (o := .lst [V.str "any"])).new hub (o := .tup [V.str "any", V.non])).ne huc
    have nud := (((d17.new hua (o := .lst [V.str "any"])).new hub (o := .tup [V.str "any", V.non])).new huc (o := .tup [V.str "Any"])).ne hud
    refine ⟨p, u7, _, rfl, dU.keep fun _ e => z7 _ _ e, dU.ne hu7, upd_same, (by show 0 < 7; decide), (by show 7 < 1000000; decide), fun bd H18 hb d18 b18 => ?_⟩
    have oB : BadC H18 bd := by
      simp only [List.not_mem_nil, List.mem_cons, or_false] at hb
      obtain rfl | rfl | rfl | rfl | rfl | rfl | rfl := hb
      · exact .inr (.inl rfl)
      · exact .inl ⟨_, rfl⟩
      · exact .inr (.inr (.inr (.inl ⟨ua, _, rfl, b18 _ _ (z7 _ _ (z1 _ _ upd_same)) nua⟩)))
      · exact .inr (.inr (.inr (.inr (.inr (.inl ⟨ub, rfl, b18 _ _ (z7 _ _ (same_two (same_upd huc) hud _ _ upd_same)) nub⟩)))))
      · exact .inr (.inr (.inr (.inr (.inr (.inr ⟨uc, rfl, b18 _ _ (z7 _ _ (same_upd hud _ _ upd_same)) nuc⟩)))))
      · exact .inr (.inr (.inr (.inr (.inl ⟨ud, rfl, b18 _ _ (z7 _ _ upd_same) nud⟩))))
      · exact .inr (.inr (.inl rfl))
    have t18 : LamX.Tabs (TR PT) H18 := tabs_but (tabs_same t17 (z0.trans z7)) (dU.keep fun _ e => z7 _ _ e) b18
    have l17p : l17 ≠ p := d17.not e17 fun x y z e => by cases e
    have e18 : H18 l17 = some (.lst [V.str "operation", V.str "operation", V.str "operation", V.str "operation", V.str "operation", V.str "operation"]) := b18 _ _ ((z0.trans z7) _ _ e17) l17p
    have b18 : ButT p H H18 := b17.trans (ButT.ofBut ((But.ofSame (z0.trans z7)).trans b18))
    clear hb dU nua nub nuc nud z7 z0 z1 hu7 hud huc hub hua t17 d17 e17 b17
    -- the end
    refine ⟨_, rfl, t18, fun H19 x19 t19 => ?_⟩
    refine ⟨_, rfl, _, rfl, .inr ⟨(oB.ext x19).bad, fun H20 s20 => ⟨rfl, ?_⟩⟩⟩
    have e20 := s20 _ _ (x19 _ _ e18 fun _ => nol)
    refine ⟨(by rw [sizeLine_eq]; show 1 ≤ 16777216; decide), fun m20 hm20 => ?_⟩
    refine ⟨l17, m20, _, _, rfl, rfl, same_upd hm20 _ _ e20, upd_same, (by rw [sizeLine_eq]; show 7 ≤ 16777216; decide), fun l20 hl20 => ?_⟩
    refine ⟨(by rw [sizeLine_eq]; show 1 ≤ 16777216; decide), fun m21 hm21 => ?_⟩
    refine ⟨m21, 7, _, rfl, rfl, upd_same, by decide, by decide, (by rw [sizeLine_eq]; show 7 ≤ 16777216; decide), fun l21 hl21 => ?_⟩
    have Dpn : ∀ {H : Hp} (n : Nat), DpAll K H (List.replicate n (V.str "operation")) (List.replicate n (PyData.str "operation")) := fun {H} n => by
      induction n with
      | zero => exact .nil
      | succ n ih => exact .cons (.str _) ih
    have sh7 : SeqAt.shaped (.list (List.replicate 7 (PyData.str "operation"))) = true := by decide +kernel
    have ev7 : PyData.eqv (.list (List.replicate 7 (PyData.str "operation"))) (.list (List.replicate 7 (PyData.str "operation"))) = true := by decide +kernel
    refine ⟨.list (List.replicate 7 (PyData.str "operation")), .list (List.replicate 7 (PyData.str "operation")), .lst (SqL.of (same_two (same_upd hm21) hl21 _ _ upd_same)) (Dpn 7), .lst (SqL.of upd_same) (Dpn 7), sh7, sh7, ?_⟩
    rw [ev7]
    have sE := (s20.trans (same_two (same_upd hm20) hl20)).trans (same_two (same_upd hm21 (o := .lst [V.str "operation"])) hl21 (o := .lst (List.replicate (Int.toNat 7) [V.str "operation"]).flatten))
    refine q _ ?_ ?_ ?_
    · refine d18.keep fun o e => sE _ _ (x19 _ _ e ?_)
      obtain ⟨a, b, c, e1, _⟩ := d18
      rw [e1] at e
      rw [← Option.some.inj e]
      exact fun _ => nol
    · exact b18.trans (ButT.ofX fun b o e n => sE _ _ (x19 _ _ e n))
    · exact tabs_same t19 sE
end
end WK

set_option Elab.async false
set_option linter.all false
set_option maxRecDepth 100000
set_option maxHeartbeats 8000000
/-! The law. -/
namespace WK
open PySem L2 PyProof.Rows SO LCX
open PySem.W (Frag kitOne)
abbrev sLaw : Stmt := top 32
abbrev NL : List Str := ["_law_script", "_law_at", "_law_one", "_law_above_here", "_law_other", "_law_both", "_law_least", "_law_names", "_law_sort", "_law_high"]
abbrev scJ1 : Scope := { kind := .function, names := [(".0", .local), ("_law_sort", .cell), ("_law_both", .cell)], isGenerator := false, isCoroutine := false }
abbrev tJ (K : Frag) : TE := tLc (iList K (tVar 5)) (gName 9) (tTest (tOp (rIn K true) (tVar 9) (tCall spAbove [] E0 (tCons (tVar 8) tNil)))) (tVar 9) [9]
def spLaw (K : Frag) (PT : Addr) : Sp := fun vs H Q _ => ∃ (s : Addr) (ns : List Int), vs = [.ref s] ∧ SqL K H s (ns.map V.int) ∧ ns.length ≤ 63 ∧ LamX.Tabs (TR PT) H ∧ ∀ H', Q (.bl true) H'
theorem seqX {K : Frag} {H H' : Hp} {a : Addr} {xs : List V} (e : XN H H') (h : SqL K H a xs) : SqL K H' a xs := by
  obtain (h | ⟨o, h⟩) | h := h
  · exact .inl (.inl (e _ _ h fun _ z => nomatch z))
  · exact .inl (.inr ⟨o, e _ _ h fun _ z => nomatch z⟩)
  · exact .inr h
section
variable {K : Frag} {x0 x1 x2 x3 x4 x6 x7 x9 : Option V} {H : Hp}
/-- [high for high in both if high not in above(sort)] -/
theorem j_test {r : R2} {tb : TE} {N : Bool → Hp → Prop} {lB : Addr} {bo : List Nat} {s : Nat} (hs : s < 9) (hm : Ok bo) (hn : bo.length ≤ 9) (hl : H lB = some (.lst (tv bo)))
    (q : ∀ D H', H D = none → Same H H' → H' D = some (.lst (tv (bo.filter fun h => !decide (h ∈ abv s)))) → tb [x0, x1, x2, x3, x4, some (.ref lB), x6, x7, some (.str (nm s)), x9] H' fun y H2 => r (.ref D) y H2 fun v H3 => ∃ k, v = .bl k ∧ N k H3) :
    tTest (tOp r (tJ K) tb) [x0, x1, x2, x3, x4, some (.ref lB), x6, x7, some (.str (nm s)), x9] H N := by
  unfold tTest tOp
  refine ⟨_, rfl, lB, rfl, ⟨_, SqL.of hl⟩, fun D hD => ?_⟩
  refine same_list (l := bo) (val := fun j => V.str (nm j)) (r := fun o => if (!decide (o ∈ abv s)) = true then [V.str (nm o)] else []) hD (SqL.of hl) (Nat.lt_of_le_of_lt hn sz9) (fun _ => one_if _) (fun o ho H1 acc s1 hacc hlen N hN => ?_) (fun H1 s1 hd => ?_)
  · have ho9 := hm o ho
    refine ⟨rfl, _, rfl, _, rfl, s, hs, rfl, fun a H2 ha s2 h2 => ⟨a, _, rfl, .inl (SqL.of h2), rfl, flat_tv _, _, rfl, ?_⟩⟩
    show if (!inV (V.str (nm o)) (tv (abv s))) = true then _ else _
    rw [inV_nm ho9 (abv_ok hs)]
    cases e : decide (o ∈ abv s) with
    | false =>
      refine ⟨_, rfl, acc, s2 _ _ hacc, hlen, hN _ (same_at (s1.trans s2) hD) ?_⟩
      rw [upd_same, e] <;> rfl
    | true =>
      refine hN _ (s1.trans s2) ?_
      rw [s2 _ _ hacc, e]
      simp
  · rw [flat_filter] at hd
    exact q D H1 hD s1 hd
end
section
variable {P : Program} {w : World} {K : PySem.W.Frag} {mg : Str → Option Value} {base : Heap} {aS aA cO PT : Addr}
variable {fD fRi fA fB fUp fLo fJ fU : Addr} {dD dRi dA dB dUp dLo dJ dU : FuncData}
theorem scLaw : FnScope NL ["_law_script"] (defScope sLaw) := ⟨rfl, rfl, rfl, by decide +kernel, rfl, by decide +kernel, by decide +kernel⟩
theorem ok_law {f : Addr} {fd : FuncData} (F : Fun K "law" "law" sLaw f fd) (T : TN mg) (S : TS K w mg aS aA cO) (AD : Fn K mg "_law_dice" sDice ["_law_script", "_law_at"] fD dD) (GD : FnOk P w K mg base CX0 1 fD dD ["_law_script", "_law_at"] (spDice K))
    (ARi : Fn K mg "_law_right" sRight ["_law_dice_here"] fRi dRi) (GRi : FnOk P w K mg base CX0 9 fRi dRi ["_law_dice_here"] (spRight PT)) (AA : Fn K mg "_law_above" sAbove ["_law_sort"] fA dA) (GA : FnOk P w K mg base CX0 1 fA dA ["_law_sort"] spAbove)
    (AB : Fn K mg "is_below" sBelow ["sort", "other"] fB dB) (GB : FnOk P w K mg base (L2.CX P w) 3 fB dB ["sort", "other"] (spBelow K cO)) (AUp : Fn K mg "uppers" sUps ["sort"] fUp dUp) (GUp : FnOk P w K mg base (L2.CX P w) 4 fUp dUp ["sort"] (spUps K cO ups))
    (ALo : Fn K mg "lowers" sLows ["sort"] fLo dLo) (GLo : FnOk P w K mg base (L2.CX P w) 4 fLo dLo ["sort"] (spUps K cO lows)) (AJ : Fn K mg "joined" sJoin ["sort", "other"] fJ dJ) (GJ : FnOk P w K mg base (L2.CX P w) 6 fJ dJ ["sort", "other"] (spJoin K cO))
    (AU : Fn K mg "is_up_set" sUpSet ["value"] fU dU) (GU : FnOk P w K mg base CX0 5 fU dU ["value"] (spUpSet K)) : FnOk P w K mg base CX0 10 f fd ["_law_script"] (spLaw K PT) := by
  refine F.ok scLaw (fun vs H Q E h => ?_) (fun cdv A outer s H vs Q E hr h => ?_)
  · obtain ⟨s, ns, rfl, _⟩ := h
    rfl
  · obtain ⟨sc, ns, rfl, hS, hl, hT, q⟩ := h
    have hr1 : Room 1 _ := hr.mono (by decide)
    have hr3 : Room 3 _ := hr.mono (by decide)
    have hr4 : Room 4 _ := hr.mono (by decide)
    have hr5 : Room 5 _ := hr.mono (by decide)
    have hr6 : Room 6 _ := hr.mono (by decide)
    refine ⟨_, (pss_cons (ps_for PassesOwn.never rfl (pi_range1 rfl T.rng (pa_cons (pe_callB (call_max2 rfl) (by rfl) T.max (by decide +kernel) (pa_cons pe_int (pa_cons (pe_callB (call_min2 rfl) (by rfl) T.min (by decide +kernel) (pa_cons pe_int (pa_cons (pe_callB call_len_seq (by rfl) T.len PySem.boot_len (pa_cons (pv 0) pa_nil)) pa_nil))) pa_nil))) pa_nil)) (pg_name (i := 1) scLaw.nd rfl (Or.inl rfl)) (pss_one (ps_if (pt_not (pt_val (pe_call GRi hr rfl ARi.g ARi.F.kp ARi.b .nil pass0 (pa_cons (pe_call GD hr1 rfl AD.g AD.F.kp AD.b .nil pass0 (pa_cons (pv 0) (pa_cons (pv 1) pa_nil))) pa_nil)))) (pss_one (ps_ret pe_bl)) pss_nil)))
      (pss_cons (ps_for PassesOwn.never rfl (pi_tup (pe_glob rfl S.gS (show RelV (.ref aS) (.ref aS) from rfl))) (pg_name (i := 2) scLaw.nd rfl (Or.inr rfl)) (pss_cons (ps_set (i := 3) scLaw.nd rfl (Or.inr rfl) (pe_call GA hr1 rfl AA.g AA.F.kp AA.b .nil pass0 (pa_cons (pv 2) pa_nil)))
      (pss_cons (ps_if (pt_cmpR (op_neD hr.units) (pe_callTy call_list_of (by rfl) T.list (by decide +kernel) (pa_cons (pe_call GUp hr4 rfl AUp.g AUp.F.kp AUp.b .nil no_pass (pa_cons (pv 2) pa_nil)) pa_nil)) (pe_lc (own := [("_law_sort", 8)]) (g := gName 8) (tt := tTest (tOp (rIn K false) (tVar 8) (tVar 3)))  rfl scLaw.nd (pi_tup (pe_glob rfl S.gS (show RelV (.ref aS) (.ref aS) from rfl))) (blkOk_by (own := [("_law_sort", 8)]) (N := NL) (sc := defScope sLaw) (by decide +kernel)) (fun _ _ _ _ _ => pg_name (i := 8) scLaw.nd rfl (Or.inl rfl)) (fun _ _ _ _ _ => pts_one (pt_cmpR op_in_seq (pv 8) (pv 3) (by rfl))) (fun _ _ _ _ _ => pv 8)) (nomark _)) (pss_one (ps_ret pe_bl)) pss_nil)
      (pss_cons (ps_if (pt_cmpR (op_neD hr.units) (pe_callTy call_list_of (by rfl) T.list (by decide +kernel) (pa_cons (pe_call GLo hr4 rfl ALo.g ALo.F.kp ALo.b .nil no_pass (pa_cons (pv 2) pa_nil)) pa_nil)) (pe_lc (own := [("_law_sort", 8)]) (g := gName 8) (tt := tTest (tOp (rIn K false) (tVar 2) (tCall spAbove [] E0 (tCons (tVar 8) tNil))))  rfl scLaw.nd (pi_tup (pe_glob rfl S.gS (show RelV (.ref aS) (.ref aS) from rfl))) (blkOk_by (own := [("_law_sort", 8)]) (N := NL) (sc := defScope sLaw) (by decide +kernel)) (fun _ _ _ _ _ => pg_name (i := 8) scLaw.nd rfl (Or.inl rfl)) (fun _ _ _ _ _ => pts_one (pt_cmpR op_in_seq (pv 2) (pe_call GA hr1 rfl AA.g AA.F.kp AA.b .nil pass0 (pa_cons (pv 8) pa_nil)) (by rfl))) (fun _ _ _ _ _ => pv 8)) (nomark _)) (pss_one (ps_ret pe_bl)) pss_nil)
      (pss_one (ps_for PassesOwn.never rfl (pi_tup (pe_glob rfl S.gS (show RelV (.ref aS) (.ref aS) from rfl))) (pg_name (i := 4) scLaw.nd rfl (Or.inr rfl)) (pss_cons (ps_set (i := 5) scLaw.nd rfl (Or.inr rfl) (pe_lc (own := [("_law_sort", 8)]) (g := gName 8) (tt := tTest (tOp (rIn K false) (tVar 8) (tCall spAbove [] E0 (tCons (tVar 4) tNil))))  rfl scLaw.nd (pi_list (pv 3)) (blkOk_by (own := [("_law_sort", 8)]) (N := NL) (sc := defScope sLaw) (by decide +kernel)) (fun _ _ _ _ _ => pg_name (i := 8) scLaw.nd rfl (Or.inl rfl)) (fun _ _ _ _ _ => pts_one (pt_cmpR op_in_seq (pv 8) (pe_call GA hr1 rfl AA.g AA.F.kp AA.b .nil pass0 (pa_cons (pv 4) pa_nil)) (by rfl))) (fun _ _ _ _ _ => pv 8)))
      (pss_cons (ps_setLc (i := 6) (own := [("_law_sort", 8)]) (g := gName 8) (tt := tTest (tOp (rEqD K) (tJ K) (tLst tNil))) rfl scLaw.nd rfl rfl (sw_true rfl rfl rfl (by decide +kernel)) (pi_list (pv 5)) (blkOk_by (own := [("_law_sort", 8)]) (N := NL) (sc := defScope sLaw) (by decide +kernel)) (fun _ _ _ _ _ => pg_name (i := 8) scLaw.nd rfl (Or.inr rfl)) (fun _ _ _ _ _ => pts_one (pt_cmpR (op_eqD hr.units) (pe_lc (own := [("_law_high", 9)]) (g := gName 9) (tt := tTest (tOp (rIn K true) (tVar 9) (tCall spAbove [] E0 (tCons (tVar 8) tNil))))  rfl scLaw.nd (pi_list (pv 5)) (blkOk_by (own := [("_law_high", 9)]) (N := NL) (sc := scJ1) (by decide +kernel)) (fun _ _ _ _ _ => pg_name (i := 9) scLaw.nd rfl (Or.inl rfl)) (fun _ _ _ _ _ => pts_one (pt_cmpR op_notIn_seq (pv 9) (pe_call GA hr1 rfl AA.g AA.F.kp AA.b .nil pass0 (pa_cons (pv 8) pa_nil)) (by rfl))) (fun _ _ _ _ _ => pv 9)) (pe_lst pa_nil) (nomark _))) (fun _ _ _ _ _ => pv 8))
      (pss_one (ps_if (PW.pt (pw_or (pt_cmpR op_ne (pe_call GB hr3 rfl AB.g AB.F.kp AB.b .nil no_pass (pa_cons (pv 2) (pa_cons (pv 4) pa_nil))) (pe_cmpR op_in_seq (pv 4) (pv 3) (by rfl)) (nomark _)) (pw_or (pt_cmpR op_ne (pe_call GJ hr6 rfl AJ.g AJ.F.kp AJ.b .nil no_pass (pa_cons (pv 2) (pa_cons (pv 4) pa_nil))) (pe_ix ix_list (pv 6) pe_int (fun _ _ => rfl)) (nomark _)) (pw_or1 (pt_cmpR op_ne (pe_callB call_len_seq (by rfl) T.len PySem.boot_len (pa_cons (pv 6) pa_nil)) pe_int (nomark _)))))) (pss_one (ps_ret pe_bl)) pss_nil))))))))))
      (pss_cons (ps_set (i := 7) scLaw.nd rfl (Or.inl rfl) (pe_tup (pa_cons pe_str (pa_cons pe_str (pa_cons pe_str (pa_cons pe_str (pa_cons pe_str (pa_cons pe_str (pa_cons pe_str (pa_cons pe_str (pa_cons pe_str pa_nil)))))))))))
      (pss_one (ps_ret (pe_and (pe_cmpR (op_eqD hr.units) (pe_glob rfl S.gS (show RelV (.ref aS) (.ref aS) from rfl)) (pv 7) (nomark _)) (pe_and (pe_call GU hr5 rfl AU.g AU.F.kp AU.b .nil pass0 (pa_cons (pe_tup pa_nil) pa_nil)) (pe_and (pe_call GU hr5 rfl AU.g AU.F.kp AU.b .nil pass0 (pa_cons (pv 7) pa_nil)) (pe_one (pe_not (pe_call GU hr5 rfl AU.g AU.F.kp AU.b .nil pass0 (pa_cons (pe_tup (pa_cons pe_str (pa_cons pe_str pa_nil))) pa_nil)))))))))))), ?_⟩
    have len : ((ns.map V.int).length : Int) ≤ 63 := by
      rw [List.length_map]
      omega
    have len0 : (0 : Int) ≤ ((ns.map V.int).length : Int) := Int.natCast_nonneg _
    refine ⟨_, rfl, sc, _, rfl, .inl hS, _, _, rfl, _, _, rfl, _, rfl, by split <;> split <;> omega, by split <;> split <;> omega, ?_⟩
    refine for_range (lo := 0) (fun i σ H1 => (∃ a, σ = [some (.ref sc), a, none, none, none, none, none, none, none, none]) ∧ XN H H1 ∧ LamX.Tabs (TR PT) H1) ⟨⟨_, rfl⟩, LamX.ExtN.refl H, hT⟩ ?_ ?_
    · rintro i σ H1 hi ⟨⟨a, rfl⟩, s1, t1⟩
      refine ⟨_, rfl, _, rfl, sc, ns, _, rfl, seqX s1 hS, by omega, fun p H2 hp s2 hD => ⟨p, rfl, hD, tabs_same t1 s2, fun H3 d3 b3 t3 => ⟨true, rfl, ?_⟩⟩⟩
      refine ⟨⟨_, rfl⟩, fun b o e n => ?_, t3⟩
      have e1 := s1 _ _ e n
      exact b3 _ _ (s2 _ _ e1) (ne_of_none e1 hp) n
    rintro σ H1 ⟨⟨a, rfl⟩, _, _⟩
    -- the whole table
    refine ⟨aS, rfl, ⟨_, S.sS _⟩, ?_⟩
    refine for_tup (xs := tv all9) (fun i σ H' => ∃ a b c d e f, σ = [some (.ref sc), a, b, c, d, e, f, none, none, none]) ⟨_, _, _, _, _, _, rfl⟩ (fun _ _ _ _ _ => S.sS _) ?_ ?_
    · rintro i x σ H2 hx ⟨a, b, c, d, e, f, rfl⟩
      obtain ⟨s, hs, rfl⟩ := List.mem_map.mp (List.mem_of_getElem? hx)
      have hs9 := all9_mem.mp hs
      refine ⟨_, rfl, s, hs9, rfl, fun lA H3 _ _ eA => ?_⟩
      refine ⟨_, rfl, _, rfl, .inl ⟨s, hs9, rfl, fun pU H4 nU s4 eU => ⟨pU, _, rfl, .inr (SqT.of eU), fun lU hlU => ?_⟩⟩⟩
      have eA4 := same_upd hlU (o := .lst (tv (ups s))) _ _ (s4 _ _ eA)
      have eU4 : (upd H4 lU (.lst (tv (ups s)))) lU = some (.lst (tv (ups s))) := upd_same
      generalize upd H4 lU (HO.lst (tv (ups s))) = H5 at eA4 eU4 ⊢
      clear s4 eU nU hlU eA
      refine ⟨aS, rfl, ⟨_, S.sS _⟩, fun D hD => ?_⟩
      refine same_tup (l := all9) (val := fun j => V.str (nm j)) (r := fun o => if decide (o ∈ abv s) = true then [V.str (nm o)] else []) hD (S.sS _) sz9 (fun _ => one_if _) (fun o ho H6 acc s6 hacc hlen N hN => ?_) (fun H6 s6 hd => ?_)
      · have ho9 := all9_mem.mp ho
        refine ⟨rfl, _, rfl, _, rfl, lA, _, rfl, .inl (SqL.of (s6 _ _ eA4)), rfl, flat_tv _, _, rfl, ?_⟩
        rw [inV_nm ho9 (abv_ok hs9)]
        cases e : decide (o ∈ abv s) with
        | true =>
          refine ⟨_, rfl, acc, hacc, hlen, hN _ (same_at s6 hD) ?_⟩
          rw [upd_same, e] <;> rfl
        | false =>
          refine hN _ s6 ?_
          rw [hacc, e]
          simp
      rw [flat_filter] at hd
      have hd : H6 D = some (.lst (tv (ups s))) := by rw [ups_is s hs9]; exact hd
      have okU : Ok (ups s) := ok_all9.filter _
      have okL : Ok (lows s) := ok_all9.filter _
      refine ⟨.list (td (ups s)), .list (td (ups s)), .lst (SqL.of (s6 _ _ eU4)) (dp_td _), .lst (SqL.of hd) (dp_td _), (shaped_td okU).1, (shaped_td okU).1, _, rfl, ?_⟩
      rw [eqL_td okU okU, decide_eq_true rfl]
      have eA6 := s6 _ _ eA4
      clear hd s6 hD eU4 eA4
      -- lowers
      refine ⟨_, rfl, _, rfl, .inl ⟨s, hs9, rfl, fun pU H7 nU s7 eU => ⟨pU, _, rfl, .inr (SqT.of eU), fun lU hlU => ?_⟩⟩⟩
      have eA7 := same_upd hlU (o := .lst (tv (lows s))) _ _ (s7 _ _ eA6)
      have eU7 : (upd H7 lU (.lst (tv (lows s)))) lU = some (.lst (tv (lows s))) := upd_same
      generalize upd H7 lU (HO.lst (tv (lows s))) = H8 at eA7 eU7 ⊢
      clear s7 eU nU hlU eA6
      refine ⟨aS, rfl, ⟨_, S.sS _⟩, fun D hD => ?_⟩
      refine same_tup (l := all9) (val := fun j => V.str (nm j)) (r := fun o => if decide (s ∈ abv o) = true then [V.str (nm o)] else []) hD (S.sS _) sz9 (fun _ => one_if _) (fun o ho H9 acc s9 hacc hlen N hN => ?_) (fun H9 s9 hd => ?_)
      · have ho9 := all9_mem.mp ho
        refine ⟨rfl, _, rfl, _, rfl, o, ho9, rfl, fun l2 H10 n10 s10 e10 => ⟨l2, _, rfl, .inl (SqL.of e10), rfl, flat_tv _, _, rfl, ?_⟩⟩
        rw [inV_nm hs9 (abv_ok ho9)]
        cases e : decide (s ∈ abv o) with
        | true =>
          refine ⟨_, rfl, acc, s10 _ _ hacc, hlen, hN _ (same_at (s9.trans s10) hD) ?_⟩
          rw [upd_same, e] <;> rfl
        | false =>
          refine hN _ (s9.trans s10) ?_
          rw [s10 _ _ hacc, e]
          simp
      rw [flat_filter] at hd
      have hd : H9 D = some (.lst (tv (lows s))) := by rw [lows_is s hs9]; exact hd
      refine ⟨.list (td (lows s)), .list (td (lows s)), .lst (SqL.of (s9 _ _ eU7)) (dp_td _), .lst (SqL.of hd) (dp_td _), (shaped_td okL).1, (shaped_td okL).1, _, rfl, ?_⟩
      rw [eqL_td okL okL, decide_eq_true rfl]
      have eA9 := s9 _ _ eA7
      clear hd s9 hD eU7 eA7
      -- each other one
      refine ⟨aS, rfl, ⟨_, S.sS _⟩, ?_⟩
      refine for_tup (xs := tv all9) (fun i σ H' => (∃ d e f, σ = [some (.ref sc), a, some (.str (nm s)), some (.ref lA), d, e, f, none, none, none]) ∧ H' lA = some (.lst (tv (abv s)))) ⟨⟨_, _, _, rfl⟩, eA9⟩ (fun _ _ _ _ _ => S.sS _) ?_ ?_
      · rintro j y σ H10 hy ⟨⟨d, e, f, rfl⟩, eA⟩
        obtain ⟨o, ho, rfl⟩ := List.mem_map.mp (List.mem_of_getElem? hy)
        have ho9 := all9_mem.mp ho
        have few := st_few s hs9 5 (by decide)
        have okA := abv_ok hs9
        have lnA : (abv s).length ≤ 9 := Nat.le_trans few.1 (by decide)
        refine ⟨_, rfl, lA, rfl, ⟨_, SqL.of eA⟩, fun D hD => ?_⟩
        refine same_list (l := abv s) (val := fun j => V.str (nm j)) (r := fun t => if decide (t ∈ abv o) = true then [V.str (nm t)] else []) hD (SqL.of eA) (Nat.lt_of_le_of_lt lnA sz9) (fun _ => one_if _) (fun t ht H11 acc s11 hacc hlen N hN => ?_) (fun H11 s11 hd => ?_)
        · have ht9 := okA t ht
          refine ⟨rfl, _, rfl, _, rfl, o, ho9, rfl, fun l2 H12 n12 s12 e12 => ⟨l2, _, rfl, .inl (SqL.of e12), rfl, flat_tv _, _, rfl, ?_⟩⟩
          rw [inV_nm ht9 (abv_ok ho9)]
          cases e : decide (t ∈ abv o) with
          | true =>
            refine ⟨_, rfl, acc, s12 _ _ hacc, hlen, hN _ (same_at (s11.trans s12) hD) ?_⟩
            rw [upd_same, e] <;> rfl
          | false =>
            refine hN _ (s11.trans s12) ?_
            rw [s12 _ _ hacc, e]
            simp
        rw [flat_filter] at hd
        have hd : H11 D = some (.lst (tv (bothC s o))) := hd
        have okB : Ok (bothC s o) := okA.filter _
        have lnB : (bothC s o).length ≤ 9 := Nat.le_trans (List.length_filter_le _ _) lnA
        have eA11 := s11 _ _ eA
        clear s11 hD eA
        -- the least ones of them
        refine ⟨_, rfl, D, rfl, ⟨_, SqL.of hd⟩, fun D2 hD2 => ?_⟩
        refine same_list (l := bothC s o) (val := fun j => V.str (nm j)) (r := fun t => if decide ((bothC s o).filter (fun h => !decide (h ∈ abv t)) = []) = true then [V.str (nm t)] else []) hD2 (SqL.of hd) (Nat.lt_of_le_of_lt lnB sz9) (fun _ => one_if _) (fun t ht H12 acc s12 hacc hlen N hN => ?_) (fun H12 s12 hd2 => ?_)
        · have ht9 := okB t ht
          refine ⟨rfl, j_test ht9 okB lnB (s12 _ _ hd) fun D5 H5 n5 s5 e5 => ⟨Nat.zero_le _, fun l5 hl5 => ?_⟩⟩
          have okF := okB.filter fun h => !decide (h ∈ abv t)
          refine ⟨.list (td _), .list (td []), .lst (SqL.of (same_upd hl5 _ _ e5)) (dp_td _), .lst (SqL.of upd_same) .nil, (shaped_td okF).1, by decide, _, rfl, ?_⟩
          rw [eqL_td okF Ok.nil]
          have s6 : Same H12 (upd H5 l5 (.lst [])) := same_two s5 hl5
          cases e : decide ((bothC s o).filter (fun h => !decide (h ∈ abv t)) = []) with
          | true =>
            refine ⟨_, rfl, acc, s6 _ _ hacc, hlen, hN _ (same_at (s12.trans s6) hD2) ?_⟩
            rw [upd_same, e] <;> rfl
          | false =>
            refine hN _ (s12.trans s6) ?_
            rw [s6 _ _ hacc, e]
            simp
        rw [flat_filter] at hd2
        have hj1 := join_is s hs9 o ho9
        obtain ⟨c, hc⟩ := List.length_eq_one_iff.mp hj1.2
        have hJ : joinC s o = [c] := hj1.1.trans hc
        have hd2 : H12 D2 = some (.lst (tv [c])) := by rw [← hc]; exact hd2
        have eA12 := s12 _ _ eA11
        clear s12 hD2 eA11 hd
        refine ⟨_, rfl, _, rfl, _, _, rfl, .inl ⟨s, o, hs9, ho9, rfl, rfl, _, rfl, _, rfl, lA, _, rfl, .inl (SqL.of eA12), rfl, flat_tv _, rfl, _, rfl, ?_⟩⟩
        have e1 : (!decide (V.bl (bel s o) = V.bl (if false = true then !inV (V.str (nm o)) (tv (abv s)) else inV (V.str (nm o)) (tv (abv s))))) = false := by
          show (!decide (V.bl (bel s o) = V.bl (inV (V.str (nm o)) (tv (abv s))))) = false
          rw [inV_nm ho9 okA, bel_is s hs9 o ho9, decide_eq_true rfl] <;> rfl
        rw [e1]
        refine ⟨_, rfl, _, rfl, _, _, rfl, .inl ⟨s, o, hs9, ho9, rfl, rfl, fun H13 c2 hc2 s13 => ?_⟩⟩
        obtain rfl : c2 = c := by
          rw [hJ] at hc2
          exact (List.cons.inj hc2).1.symm
        refine ⟨_, rfl, D2, _, _, _, rfl, rfl, SqL.of (s13 _ _ hd2), atI_nat (j := 0) rfl, rfl, _, rfl, ?_⟩
        rw [decide_eq_true rfl]
        refine ⟨_, rfl, D2, _, rfl, .inl (SqL.of (s13 _ _ hd2)), rfl, _, rfl, ?_⟩
        have e3 : (!decide (V.int ((tv [c2]).length : Int) = V.int 1)) = false := by
          rw [decide_eq_true (show V.int ((tv [c2]).length : Int) = V.int 1 from rfl)] <;> rfl
        rw [e3]
        exact ⟨⟨_, _, _, rfl⟩, s13 _ _ eA12⟩
      · rintro σ H10 ⟨⟨d, e, f, rfl⟩, _⟩
        exact ⟨_, _, _, _, _, _, rfl⟩
    rintro σ H2 ⟨a, b, c, d, e, f, rfl⟩
    refine ⟨(by rw [sizeLine_eq]; show 9 ≤ 16777216; decide), fun tN htN => ?_⟩
    have eN : (upd H2 tN (.tup (tv all9))) tN = some (.tup (tv all9)) := upd_same
    refine ⟨_, rfl, .tuple (td all9), .tuple (td all9), .tup (S.sS _) (dp_td _), .tup (SqT.of eN) (dp_td _), (shaped_td ok_all9).2, (shaped_td ok_all9).2, _, rfl, ?_⟩
    rw [eqT_td ok_all9 ok_all9, decide_eq_true rfl]
    refine ⟨Nat.zero_le _, fun t0 ht0 => ⟨_, rfl, .inl ⟨t0, [], rfl, SqT.of upd_same, Nat.zero_le _, (fun _ z => nomatch z), .inl ⟨[], rfl, Ok.nil, fun H3 s3 => ⟨_, rfl, ?_⟩⟩⟩⟩⟩
    rw [show upC [] = true from by decide +kernel]
    have eN3 : H3 tN = some (.tup (tv all9)) := s3 _ _ (same_upd ht0 _ _ eN)
    refine ⟨_, rfl, _, rfl, .inl ⟨tN, tv all9, rfl, SqT.of eN3, by show 9 ≤ 100; decide, item_tv, .inl ⟨all9, rfl, ok_all9, fun H4 s4 => ⟨_, rfl, ?_⟩⟩⟩⟩
    rw [show upC all9 = true from by decide +kernel]
    refine ⟨(by rw [sizeLine_eq]; show 2 ≤ 16777216; decide), fun t2 ht2 => ⟨_, rfl, .inl ⟨t2, tv [8, 8], rfl, SqT.of upd_same, by show 2 ≤ 100; decide, item_tv, .inl ⟨[8, 8], rfl, ?_, fun H5 s5 => ⟨_, rfl, ?_⟩⟩⟩⟩⟩
    · intro i hi
      simp only [List.mem_cons, List.not_mem_nil, or_false, or_self] at hi
      rw [hi]
      decide
    · rw [show upC [8, 8] = false from by decide +kernel]
      exact q _
end
end WK

set_option Elab.async false
set_option linter.all false
set_option maxRecDepth 100000
set_option maxHeartbeats 8000000
/-! The end of k11. -/
namespace WK
open PySem L2 PyProof.Rows SO LCX
open PySem.W (Frag kitOne)
def txtOf : Value → Option Str
  | .str x _ => some x
  | _ => none
theorem vals_txt : ∀ {us : List Value} {xs : List Str}, us.map txtOf = xs.map some → Vals (xs.map V.str) us
  | [], [], _ => .nil
  | [], _ :: _, h => by cases h
  | _ :: _, [], h => by cases h
  | u :: us, x :: xs, h => by
    obtain ⟨h1, h2⟩ := List.cons.inj h
    refine .cons ?_ (vals_txt h2)
    cases u with
    | str y t => exact ⟨t, by rw [← Option.some.inj (show some y = some x from h1)]⟩
    | _ => cases h1
/-- a written tuple of texts -/
def tupB (K : Frag) (a : Addr) (xs : List Str) : Bool := match K.lookup a with
  | some ⟨.type c, _, .seq its _, _⟩ => decide (c = "tuple") && decide (its.toList.map txtOf = xs.map some)
  | _ => false
theorem tupB_ok {K : Frag} {a : Addr} {xs : List Str} (hn : xs.length ≤ 100) (h : tupB K a xs = true) (H : Hp) : SqT K H a (xs.map V.str) := by
  unfold tupB at h
  split at h
  · rename_i c od its n sl lk
    obtain ⟨h1, h2⟩ := Bool.and_eq_true_iff.mp h
    have e1 : c = "tuple" := of_decide_eq_true h1
    have e2 := of_decide_eq_true h2
    subst e1
    refine .inr ⟨_, its, n, lk, rfl, rfl, ?_, vals_txt e2⟩
    have e3 : its.toList.length = xs.length := by simpa using congrArg List.length e2
    rw [Array.length_toList] at e3
    rw [sizeLine_eq]
    omega
  · cases h
def abvB (K : Frag) (a : Addr) : Bool := (List.range 9).all fun i => match PySem.W.nsIn K a (nm i) with
  | some (some (.ref t)) => tupB K t ((tab i).map nm)
  | _ => false
theorem tab_few : ∀ i < 9, ((tab i).map nm).length ≤ 100 := by decide +kernel
theorem abv_ok {K : Frag} {w : World} {a : Addr} (h1 : He.dicW K a = some (He.keysIn w.params nms)) (h2 : abvB K a = true) (i : Nat) (hi : i < 9) : ∃ t, KDct K w a (nm i) (.ref t) ∧ ∀ H, SqT K H t (tv (tab i)) := by
  obtain ⟨es, n, D⟩ := He.dicW_ok h1
  have h3 := List.all_eq_true.mp h2 i (List.mem_range.mpr hi)
  split at h3
  · rename_i t e
    refine ⟨t, ⟨es, n, _, D.at_, D.lit, e, rfl⟩, fun H => ?_⟩
    have h4 := tupB_ok (tab_few i hi) h3 H
    rw [List.map_map] at h4
    exact h4
  · cases h3
theorem srt_ok {K : Frag} {a : Addr} (h : tupB K a nms = true) (H : Hp) : SqT K H a (tv all9) := tupB_ok (by decide) h H
theorem all_mk {l : PySem.W.OpenLaw} {w : World} {K : Frag} {h : Heap} {mg : Str → Option Value} {aS aA cO cW cM cB cR PT fa f0 f1 f2 f3 f4 f5 f6 f7 f8 f9 f10 f11 f12 f13 f14 f15 f16 : Addr} (X : K.In h) (G : h.Ns mainGlobals mg) (hfa : mg "law" = some (.ref fa))
    {od0 an0 od1 an1 od2 an2 od3 an3 od4 an4 od5 an5 od6 an6 od7 an7 od8 an8 od9 an9 od10 an10 od11 an11 od12 an12 od13 an13 od14 an14 od15 an15 od16 an16 : Option Addr} {sl0 sl1 sl2 sl3 sl4 sl5 sl6 sl7 sl8 sl9 sl10 sl11 sl12 sl13 sl14 sl15 sl16 : Array (Option Value)} {oc0 kV0 dc0 pm0 ct0 cd0 oc1 kV1 dc1 pm1 ct1 cd1 oc2 kV2 dc2 pm2 ct2 cd2 oc3 kV3 dc3 pm3 ct3 cd3 oc4 kV4 dc4 pm4 ct4 cd4 oc5 kV5 dc5 pm5 ct5 cd5 oc6 kV6 dc6 pm6 ct6 cd6 oc7 kV7 dc7 pm7 ct7 cd7 oc8 kV8 dc8 pm8 ct8 cd8 oc9 kV9 dc9 pm9 ct9 cd9 oc10 kV10 dc10 pm10 ct10 cd10 oc11 kV11 dc11 pm11 ct11 cd11 oc12 kV12 dc12 pm12 ct12 cd12 oc13 kV13 dc13 pm13 ct13 cd13 oc14 kV14 dc14 pm14 ct14 cd14 oc15 kV15 dc15 pm15 ct15 oc16 kV16 dc16 pm16 ct16 cd16 : Value}
    (hP : h.get? PT = some (PySem.W.tabObj #[]))
    (d0 : PySem.W.nsIn K mainGlobals "is_sort" = some (some (.ref f0)))
    (l0 : K.lookup f0 = some ⟨oc0, od0, .func (PySem.W.fnOf "is_sort" "is_sort" (defArgs sIsSort) (defBody sIsSort) (defScope sIsSort) .none kV0 dc0 pm0 an0 cd0 ct0), sl0⟩)
    (q0 : PySem.W.codeIn K cd0 "is_sort" = true)
    (k0 : PySem.W.keepIn K (.ref f0) = true)
    (d1 : PySem.W.nsIn K mainGlobals "need_sort" = some (some (.ref f1)))
    (l1 : K.lookup f1 = some ⟨oc1, od1, .func (PySem.W.fnOf "need_sort" "need_sort" (defArgs sNeed) (defBody sNeed) (defScope sNeed) .none kV1 dc1 pm1 an1 cd1 ct1), sl1⟩)
    (q1 : PySem.W.codeIn K cd1 "need_sort" = true)
    (k1 : PySem.W.keepIn K (.ref f1) = true)
    (d2 : PySem.W.nsIn K mainGlobals "is_below" = some (some (.ref f2)))
    (l2 : K.lookup f2 = some ⟨oc2, od2, .func (PySem.W.fnOf "is_below" "is_below" (defArgs sBelow) (defBody sBelow) (defScope sBelow) .none kV2 dc2 pm2 an2 cd2 ct2), sl2⟩)
    (q2 : PySem.W.codeIn K cd2 "is_below" = true)
    (k2 : PySem.W.keepIn K (.ref f2) = true)
    (d3 : PySem.W.nsIn K mainGlobals "uppers" = some (some (.ref f3)))
    (l3 : K.lookup f3 = some ⟨oc3, od3, .func (PySem.W.fnOf "uppers" "uppers" (defArgs sUps) (defBody sUps) (defScope sUps) .none kV3 dc3 pm3 an3 cd3 ct3), sl3⟩)
    (q3 : PySem.W.codeIn K cd3 "uppers" = true)
    (k3 : PySem.W.keepIn K (.ref f3) = true)
    (d4 : PySem.W.nsIn K mainGlobals "lowers" = some (some (.ref f4)))
    (l4 : K.lookup f4 = some ⟨oc4, od4, .func (PySem.W.fnOf "lowers" "lowers" (defArgs sLows) (defBody sLows) (defScope sLows) .none kV4 dc4 pm4 an4 cd4 ct4), sl4⟩)
    (q4 : PySem.W.codeIn K cd4 "lowers" = true)
    (k4 : PySem.W.keepIn K (.ref f4) = true)
    (d5 : PySem.W.nsIn K mainGlobals "joined" = some (some (.ref f5)))
    (l5 : K.lookup f5 = some ⟨oc5, od5, .func (PySem.W.fnOf "joined" "joined" (defArgs sJoin) (defBody sJoin) (defScope sJoin) .none kV5 dc5 pm5 an5 cd5 ct5), sl5⟩)
    (q5 : PySem.W.codeIn K cd5 "joined" = true)
    (k5 : PySem.W.keepIn K (.ref f5) = true)
    (d6 : PySem.W.nsIn K mainGlobals "least_of" = some (some (.ref f6)))
    (l6 : K.lookup f6 = some ⟨oc6, od6, .func (PySem.W.fnOf "least_of" "least_of" (defArgs sLeast) (defBody sLeast) (defScope sLeast) .none kV6 dc6 pm6 an6 cd6 ct6), sl6⟩)
    (q6 : PySem.W.codeIn K cd6 "least_of" = true)
    (k6 : PySem.W.keepIn K (.ref f6) = true)
    (d7 : PySem.W.nsIn K mainGlobals "is_up_set" = some (some (.ref f7)))
    (l7 : K.lookup f7 = some ⟨oc7, od7, .func (PySem.W.fnOf "is_up_set" "is_up_set" (defArgs sUpSet) (defBody sUpSet) (defScope sUpSet) .none kV7 dc7 pm7 an7 cd7 ct7), sl7⟩)
    (q7 : PySem.W.codeIn K cd7 "is_up_set" = true)
    (k7 : PySem.W.keepIn K (.ref f7) = true)
    (d8 : PySem.W.nsIn K mainGlobals "_are_sorts" = some (some (.ref f8)))
    (l8 : K.lookup f8 = some ⟨oc8, od8, .func (PySem.W.fnOf "_are_sorts" "_are_sorts" (defArgs sAre) (defBody sAre) (defScope sAre) .none kV8 dc8 pm8 an8 cd8 ct8), sl8⟩)
    (q8 : PySem.W.codeIn K cd8 "_are_sorts" = true)
    (k8 : PySem.W.keepIn K (.ref f8) = true)
    (d9 : PySem.W.nsIn K mainGlobals "_law_dice" = some (some (.ref f9)))
    (l9 : K.lookup f9 = some ⟨oc9, od9, .func (PySem.W.fnOf "_law_dice" "_law_dice" (defArgs sDice) (defBody sDice) (defScope sDice) .none kV9 dc9 pm9 an9 cd9 ct9), sl9⟩)
    (q9 : PySem.W.codeIn K cd9 "_law_dice" = true)
    (k9 : PySem.W.keepIn K (.ref f9) = true)
    (d10 : PySem.W.nsIn K mainGlobals "_law_roll" = some (some (.ref f10)))
    (l10 : K.lookup f10 = some ⟨oc10, od10, .func (PySem.W.fnOf "_law_roll" "_law_roll" (defArgs sRoll) (defBody sRoll) (defScope sRoll) .none kV10 dc10 pm10 an10 cd10 ct10), sl10⟩)
    (q10 : PySem.W.codeIn K cd10 "_law_roll" = true)
    (k10 : PySem.W.keepIn K (.ref f10) = true)
    (d11 : PySem.W.nsIn K mainGlobals "_law_one_of" = some (some (.ref f11)))
    (l11 : K.lookup f11 = some ⟨oc11, od11, .func (PySem.W.fnOf "_law_one_of" "_law_one_of" (defArgs sOne) (defBody sOne) (defScope sOne) .none kV11 dc11 pm11 an11 cd11 ct11), sl11⟩)
    (q11 : PySem.W.codeIn K cd11 "_law_one_of" = true)
    (k11 : PySem.W.keepIn K (.ref f11) = true)
    (d12 : PySem.W.nsIn K mainGlobals "_law_mixed" = some (some (.ref f12)))
    (l12 : K.lookup f12 = some ⟨oc12, od12, .func (PySem.W.fnOf "_law_mixed" "_law_mixed" (defArgs sMixed) (defBody sMixed) (defScope sMixed) .none kV12 dc12 pm12 an12 cd12 ct12), sl12⟩)
    (q12 : PySem.W.codeIn K cd12 "_law_mixed" = true)
    (k12 : PySem.W.keepIn K (.ref f12) = true)
    (d13 : PySem.W.nsIn K mainGlobals "_law_met" = some (some (.ref f13)))
    (l13 : K.lookup f13 = some ⟨oc13, od13, .func (PySem.W.fnOf "_law_met" "_law_met" (defArgs sMet) (defBody sMet) (defScope sMet) .none kV13 dc13 pm13 an13 cd13 ct13), sl13⟩)
    (q13 : PySem.W.codeIn K cd13 "_law_met" = true)
    (k13 : PySem.W.keepIn K (.ref f13) = true)
    (d14 : PySem.W.nsIn K mainGlobals "_law_above" = some (some (.ref f14)))
    (l14 : K.lookup f14 = some ⟨oc14, od14, .func (PySem.W.fnOf "_law_above" "_law_above" (defArgs sAbove) (defBody sAbove) (defScope sAbove) .none kV14 dc14 pm14 an14 cd14 ct14), sl14⟩)
    (q14 : PySem.W.codeIn K cd14 "_law_above" = true)
    (k14 : PySem.W.keepIn K (.ref f14) = true)
    (d15 : PySem.W.nsIn K mainGlobals "_law_right" = some (some (.ref f15)))
    (l15 : K.lookup f15 = some ⟨oc15, od15, .func (PySem.W.fnOf "_law_right" "_law_right" (defArgs sRight) (defBody sRight) (defScope sRight) .none kV15 dc15 pm15 an15 (.ref cR) ct15), sl15⟩)
    (q15 : PySem.W.codeIn K (.ref cR) "_law_right" = true)
    (k15 : PySem.W.keepIn K (.ref f15) = true)
    (d16 : PySem.W.nsIn K mainGlobals "law" = some (some (.ref f16)))
    (l16 : K.lookup f16 = some ⟨oc16, od16, .func (PySem.W.fnOf "law" "law" (defArgs sLaw) (defBody sLaw) (defScope sLaw) .none kV16 dc16 pm16 an16 cd16 ct16), sl16⟩)
    (q16 : PySem.W.codeIn K cd16 "law" = true)
    (k16 : PySem.W.keepIn K (.ref f16) = true)
    (nP : K.lookup PT = none)
    (hC : PySem.W.codeHdIn K cR PT = true)
    (gS : PySem.W.nsIn K mainGlobals "SORTS" = some (some (.ref aS)))
    (tS : tupB K aS nms = true)
    (gA : PySem.W.nsIn K mainGlobals "_ABOVE" = some (some (.ref aA)))
    (tA : He.dicW K aA = some (He.keysIn w.params nms))
    (vA : abvB K aA = true)
    (gO : PySem.W.nsIn K mainGlobals "InvalidOperation" = some (some (.ref cO)))
    (gW : PySem.W.nsIn K mainGlobals "InvalidWord" = some (some (.ref cW)))
    (gM : PySem.W.nsIn K mainGlobals "InvalidMachine" = some (some (.ref cM)))
    (gB : PySem.W.nsIn K mainGlobals "InvalidBox" = some (some (.ref cB)))
    (xE : PySem.W.excIn K cO [.type "ValueError", .type "Exception", .type "BaseException", .type "object"] "ValueError.__new__" = true)
    (kO : PySem.W.keepIn K (.ref cO) = true)
    (bO : PySem.W.subIn K (.ref cO) (.type "BaseException") = some true)
    (tO : PySem.W.typeIn K (.ref cO) = some (.type "type"))
    (xW : PySem.W.exmOne K (.ref cO) (.ref cW) = some false)
    (xM : PySem.W.exmOne K (.ref cO) (.ref cM) = some false)
    (xB : PySem.W.exmOne K (.ref cO) (.ref cB) = some false)
    (xO : PySem.W.exmOne K (.ref cO) (.ref cO) = some true)
    (z_len : PySem.W.nsIn K mainGlobals "len" = some none)
    (z_int : PySem.W.nsIn K mainGlobals "int" = some none)
    (z_abs : PySem.W.nsIn K mainGlobals "abs" = some none)
    (z_isinstance : PySem.W.nsIn K mainGlobals "isinstance" = some none)
    (z_str : PySem.W.nsIn K mainGlobals "str" = some none)
    (z_all : PySem.W.nsIn K mainGlobals "all" = some none)
    (z_any : PySem.W.nsIn K mainGlobals "any" = some none)
    (z_range : PySem.W.nsIn K mainGlobals "range" = some none)
    (z_tuple : PySem.W.nsIn K mainGlobals "tuple" = some none)
    (z_list : PySem.W.nsIn K mainGlobals "list" = some none)
    (z_max : PySem.W.nsIn K mainGlobals "max" = some none)
    (z_min : PySem.W.nsIn K mainGlobals "min" = some none) :
    LamX.LawAtS l w K CX0 10 63 "_law_script" mg fa h := by
  have e := hfa.symm.trans (PySem.W.mg_of X G d16)
  cases e
  have T : TN mg := ⟨PySem.W.mg_none_of X G z_len, PySem.W.mg_none_of X G z_int, PySem.W.mg_none_of X G z_abs, PySem.W.mg_none_of X G z_isinstance, PySem.W.mg_none_of X G z_str, PySem.W.mg_none_of X G z_all, PySem.W.mg_none_of X G z_any, PySem.W.mg_none_of X G z_range, PySem.W.mg_none_of X G z_tuple, PySem.W.mg_none_of X G z_list, PySem.W.mg_none_of X G z_max, PySem.W.mg_none_of X G z_min⟩
  have S : TS K w mg aS aA cO := ⟨PySem.W.mg_of X G gS, srt_ok tS, PySem.W.mg_of X G gA, abv_ok tA vA, PySem.W.mg_of X G gO, xE, kO, bO, tO⟩
  have TE : TE4 K mg cW cM cB cO := ⟨PySem.W.mg_of X G gW, PySem.W.mg_of X G gM, PySem.W.mg_of X G gB, PySem.W.mg_of X G gO, xW, xM, xB, xO⟩
  have F0 := fun_mk (st := sIsSort) l0 q0 k0
  have b0 := F0.binds (ps := ["value"]) fun _ _ _ _ _ _ us hl => match us, hl with | [_], _ => rfl
  have A0 : Fn K mg "is_sort" sIsSort ["value"] f0 _ := ⟨PySem.W.mg_of X G d0, F0, b0⟩
  have F1 := fun_mk (st := sNeed) l1 q1 k1
  have b1 := F1.binds (ps := ["sort"]) fun _ _ _ _ _ _ us hl => match us, hl with | [_], _ => rfl
  have A1 : Fn K mg "need_sort" sNeed ["sort"] f1 _ := ⟨PySem.W.mg_of X G d1, F1, b1⟩
  have F2 := fun_mk (st := sBelow) l2 q2 k2
  have b2 := F2.binds (ps := ["sort", "other"]) fun _ _ _ _ _ _ us hl => match us, hl with | [_, _], _ => rfl
  have A2 : Fn K mg "is_below" sBelow ["sort", "other"] f2 _ := ⟨PySem.W.mg_of X G d2, F2, b2⟩
  have F3 := fun_mk (st := sUps) l3 q3 k3
  have b3 := F3.binds (ps := ["sort"]) fun _ _ _ _ _ _ us hl => match us, hl with | [_], _ => rfl
  have A3 : Fn K mg "uppers" sUps ["sort"] f3 _ := ⟨PySem.W.mg_of X G d3, F3, b3⟩
  have F4 := fun_mk (st := sLows) l4 q4 k4
  have b4 := F4.binds (ps := ["sort"]) fun _ _ _ _ _ _ us hl => match us, hl with | [_], _ => rfl
  have A4 : Fn K mg "lowers" sLows ["sort"] f4 _ := ⟨PySem.W.mg_of X G d4, F4, b4⟩
  have F5 := fun_mk (st := sJoin) l5 q5 k5
  have b5 := F5.binds (ps := ["sort", "other"]) fun _ _ _ _ _ _ us hl => match us, hl with | [_, _], _ => rfl
  have A5 : Fn K mg "joined" sJoin ["sort", "other"] f5 _ := ⟨PySem.W.mg_of X G d5, F5, b5⟩
  have F6 := fun_mk (st := sLeast) l6 q6 k6
  have b6 := F6.binds (ps := ["sorts"]) fun _ _ _ _ _ _ us hl => match us, hl with | [_], _ => rfl
  have A6 : Fn K mg "least_of" sLeast ["sorts"] f6 _ := ⟨PySem.W.mg_of X G d6, F6, b6⟩
  have F7 := fun_mk (st := sUpSet) l7 q7 k7
  have b7 := F7.binds (ps := ["value"]) fun _ _ _ _ _ _ us hl => match us, hl with | [_], _ => rfl
  have A7 : Fn K mg "is_up_set" sUpSet ["value"] f7 _ := ⟨PySem.W.mg_of X G d7, F7, b7⟩
  have F8 := fun_mk (st := sAre) l8 q8 k8
  have b8 := F8.binds (ps := ["value"]) fun _ _ _ _ _ _ us hl => match us, hl with | [_], _ => rfl
  have A8 : Fn K mg "_are_sorts" sAre ["value"] f8 _ := ⟨PySem.W.mg_of X G d8, F8, b8⟩
  have F9 := fun_mk (st := sDice) l9 q9 k9
  have b9 := F9.binds (ps := ["_law_script", "_law_at"]) fun _ _ _ _ _ _ us hl => match us, hl with | [_, _], _ => rfl
  have A9 : Fn K mg "_law_dice" sDice ["_law_script", "_law_at"] f9 _ := ⟨PySem.W.mg_of X G d9, F9, b9⟩
  have F10 := fun_mk (st := sRoll) l10 q10 k10
  have b10 := F10.binds (ps := ["_law_dice_here", "_law_total"]) fun _ _ _ _ _ _ us hl => match us, hl with | [_, _], _ => rfl
  have A10 : Fn K mg "_law_roll" sRoll ["_law_dice_here", "_law_total"] f10 _ := ⟨PySem.W.mg_of X G d10, F10, b10⟩
  have F11 := fun_mk (st := sOne) l11 q11 k11
  have b11 := F11.binds (ps := ["_law_dice_here", "_law_items"]) fun _ _ _ _ _ _ us hl => match us, hl with | [_, _], _ => rfl
  have A11 : Fn K mg "_law_one_of" sOne ["_law_dice_here", "_law_items"] f11 _ := ⟨PySem.W.mg_of X G d11, F11, b11⟩
  have F12 := fun_mk (st := sMixed) l12 q12 k12
  have b12 := F12.binds (ps := ["_law_dice_here", "_law_items"]) fun _ _ _ _ _ _ us hl => match us, hl with | [_, _], _ => rfl
  have A12 : Fn K mg "_law_mixed" sMixed ["_law_dice_here", "_law_items"] f12 _ := ⟨PySem.W.mg_of X G d12, F12, b12⟩
  have F13 := fun_mk (st := sMet) l13 q13 k13
  have b13 := F13.binds (ps := ["_law_call"]) fun _ _ _ _ _ _ us hl => match us, hl with | [_], _ => rfl
  have A13 : Fn K mg "_law_met" sMet ["_law_call"] f13 _ := ⟨PySem.W.mg_of X G d13, F13, b13⟩
  have F14 := fun_mk (st := sAbove) l14 q14 k14
  have b14 := F14.binds (ps := ["_law_sort"]) fun _ _ _ _ _ _ us hl => match us, hl with | [_], _ => rfl
  have A14 : Fn K mg "_law_above" sAbove ["_law_sort"] f14 _ := ⟨PySem.W.mg_of X G d14, F14, b14⟩
  have F15 := fun_mk (st := sRight) l15 q15 k15
  have b15 := F15.binds (ps := ["_law_dice_here"]) fun _ _ _ _ _ _ us hl => match us, hl with | [_], _ => rfl
  have A15 : Fn K mg "_law_right" sRight ["_law_dice_here"] f15 _ := ⟨PySem.W.mg_of X G d15, F15, b15⟩
  have F16 := fun_mk (st := sLaw) l16 q16 k16
  refine ⟨PySem.W.fnOf "law" "law" (defArgs sLaw) (defBody sLaw) (defScope sLaw) .none kV16 dc16 pm16 an16 cd16 ct16, [(cR, PT)], spLaw K PT, ?_, ?_, ?_, fun s v => .of_eq rfl, fun H a ns hl _ hT hS => ⟨a, ns, rfl, hS, hl, ?_, fun _ => rfl⟩, fun base _ _ hB => ?_⟩
  · exact fun p hp => by
      rw [List.mem_singleton.mp hp]
      exact hP
  · exact fun p hp => by
      rw [List.mem_singleton.mp hp]
      exact nP
  · exact fun p hp => by
      rw [List.mem_singleton.mp hp]
      exact PySem.W.codeHd_of_K X hC
  · exact fun q hq => by
      rw [List.mem_singleton.mp hq]
      exact LamX.TabS.nil (hT _ (.head _))
  have TB : LamX.TabB base mg cR PT := hB _ (.head _)
  have G0 := ok_issort (P := l.prog) (w := w) (mg := mg) (base := base) F0 T S
  have G1 := ok_need (P := l.prog) (w := w) (mg := mg) (base := base) F1 T S A0
  have G2 := ok_below F2 S A1 G1
  have G3 := ok_ups F3 T S A1 G1 A2 G2
  have G4 := ok_lows F4 T S A1 G1 A2 G2
  have G8 := ok_are F8 T A0 G0
  have G6 := ok_least F6 T S A8 G8 A4 G4
  have G5 := ok_join F5 T S A1 G1 A2 G2 A3 G3 A6 G6
  have G7 := ok_upset F7 T S A8 G8 A3 G3
  have G9 := ok_dice (P := l.prog) (w := w) (mg := mg) (base := base) (K := K) F9 T.dice
  have G14 := ok_above (P := l.prog) (w := w) (mg := mg) (base := base) (K := K) F14 T
  have G15 := ok_right l15 q15 T S TE TB A10 A11 A12 A13 A14 G14 A0 G0 A2 G2 A3 G3 A4 G4 A5 G5 A6 G6 A7 G7
  exact ok_law F16 T S A9 G9 A15 G15 A14 G14 A2 G2 A3 G3 A4 G4 A5 G5 A7 G7
end WK
open PySem PySem.W PyProof.Rows
set_option maxRecDepth 100000 in
set_option maxHeartbeats 0 in
theorem PySem.Challenge.cw_watchkinds_k11_sorts_and_their_order_holds : PySem.Challenge.rw_watchkinds_k11_sorts_and_their_order.Holds := by
  w_on; o_law; k_head; (case hw => w_witness2)
  k_fill
  refine LamX.walk_ofTs (l := PySem.Challenge.rw_watchkinds_k11_sorts_and_their_order) (n := 63) (k := 10) (x := "_law_script") (CX := fun _ => L2.CX0) rfl (by decide) rfl ⟨rfl, by decide, by decide⟩ (fun w h Y => PySem.W.km_in_of Y) ?F (fun _ _ _ _ _ z => z)
  case F =>
    intro w mg fa h Y KX G hmg
    refine' WK.all_mk KX G hmg ?hP ?d0 ?l0 ?q0 ?k0 ?d1 ?l1 ?q1 ?k1 ?d2 ?l2 ?q2 ?k2 ?d3 ?l3 ?q3 ?k3 ?d4 ?l4 ?q4 ?k4 ?d5 ?l5 ?q5 ?k5 ?d6 ?l6 ?q6 ?k6 ?d7 ?l7 ?q7 ?k7 ?d8 ?l8 ?q8 ?k8 ?d9 ?l9 ?q9 ?k9 ?d10 ?l10 ?q10 ?k10 ?d11 ?l11 ?q11 ?k11 ?d12 ?l12 ?q12 ?k12 ?d13 ?l13 ?q13 ?k13 ?d14 ?l14 ?q14 ?k14 ?d15 ?l15 ?q15 ?k15 ?d16 ?l16 ?q16 ?k16 ?nP ?hC ?gS ?tS ?gA ?tA ?vA ?gO ?gW ?gM ?gB ?xE ?kO ?bO ?tO ?xW ?xM ?xB ?xO ?z_len ?z_int ?z_abs ?z_isinstance ?z_str ?z_all ?z_any ?z_range ?z_tuple ?z_list ?z_max ?z_min
    (case hP => exact PySem.W.km_tabs_of Y _ (.head _))
    (case d0 => k_is)
    (case l0 => k_is)
    (case q0 => k_is)
    (case k0 => k_is)
    (case d1 => k_is)
    (case l1 => k_is)
    (case q1 => k_is)
    (case k1 => k_is)
    (case d2 => k_is)
    (case l2 => k_is)
    (case q2 => k_is)
    (case k2 => k_is)
    (case d3 => k_is)
    (case l3 => k_is)
    (case q3 => k_is)
    (case k3 => k_is)
    (case d4 => k_is)
    (case l4 => k_is)
    (case q4 => k_is)
    (case k4 => k_is)
    (case d5 => k_is)
    (case l5 => k_is)
    (case q5 => k_is)
    (case k5 => k_is)
    (case d6 => k_is)
    (case l6 => k_is)
    (case q6 => k_is)
    (case k6 => k_is)
    (case d7 => k_is)
    (case l7 => k_is)
    (case q7 => k_is)
    (case k7 => k_is)
    (case d8 => k_is)
    (case l8 => k_is)
    (case q8 => k_is)
    (case k8 => k_is)
    (case d9 => k_is)
    (case l9 => k_is)
    (case q9 => k_is)
    (case k9 => k_is)
    (case d10 => k_is)
    (case l10 => k_is)
    (case q10 => k_is)
    (case k10 => k_is)
    (case d11 => k_is)
    (case l11 => k_is)
    (case q11 => k_is)
    (case k11 => k_is)
    (case d12 => k_is)
    (case l12 => k_is)
    (case q12 => k_is)
    (case k12 => k_is)
    (case d13 => k_is)
    (case l13 => k_is)
    (case q13 => k_is)
    (case k13 => k_is)
    (case d14 => k_is)
    (case l14 => k_is)
    (case q14 => k_is)
    (case k14 => k_is)
    (case d15 => k_is)
    (case l15 => k_is)
    (case q15 => k_is)
    (case k15 => k_is)
    (case d16 => k_is)
    (case l16 => k_is)
    (case q16 => k_is)
    (case k16 => k_is)
    (case nP => kernel_rfl)
    (case hC => kernel_rfl)
    (case gS => k_is)
    (case tS => kernel_rfl)
    (case gA => k_is)
    (case tA => kernel_rfl)
    (case vA => kernel_rfl)
    (case gO => k_is)
    (case gW => k_is)
    (case gM => k_is)
    (case gB => k_is)
    (case xE => kernel_rfl)
    (case kO => k_is)
    (case bO => kernel_rfl)
    (case tO => kernel_rfl)
    (case xW => kernel_rfl)
    (case xM => kernel_rfl)
    (case xB => kernel_rfl)
    (case xO => kernel_rfl)
    (case z_len => k_is)
    (case z_int => k_is)
    (case z_abs => k_is)
    (case z_isinstance => k_is)
    (case z_str => k_is)
    (case z_all => k_is)
    (case z_any => k_is)
    (case z_range => k_is)
    (case z_tuple => k_is)
    (case z_list => k_is)
    (case z_max => k_is)
    (case z_min => k_is)
#print axioms PySem.Challenge.cw_watchkinds_k11_sorts_and_their_order_holds

