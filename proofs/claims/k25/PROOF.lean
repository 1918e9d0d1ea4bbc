import PyProof.Rows.All
import Wide.All
import OpenK.AllK
import Wide.FinOn
import HandS.Words
import HandS.Nested
import HandS.Lambda
import HandS.ForMost
import PyProof.ReprRoads
import HandS.Wide
import HandS.IsInst
import HandS.ExcInit
import HandS.ExcValue
import HandS.Flow
import HandS.Codes
import KE.KExcIs
import KE.KExcInit
import PyProof.ExcBaseAll.OverflowError
import PyProof.ExcBaseAll.ArithmeticError
import PyProof.ExcBaseAll.RuntimeError
import PyProof.ExcBaseAll.IndexError
import PyProof.ExcBaseAll.LookupError
import HandS.Exc
import HandS.TryOnly
import PyProof.Rows.SetFrom
import PyProof.StrWalks
import HandS.Set
import HandS.TupSets
import HandS.SetTxt0
import HandS.SetTxtIn
import HandS.Strs
import HandS.Style
import HandS.StrMore
import HandS.Text
import PyProof.StrLawsFrom
import PyProof.Rows.StrCountLaw
import PyProof.Rows.StrRev
import PyProof.Rows.StrMul
import HandS.Conv
import HandS.Walk
import HandS.WordsExc
import HandS.ExcField
import HandS.RaiseMore
import HandS.ExcOwn
import HandS.Defaults
import HandS.Property
import HandS.SlotsOwn
import HandS.EndTab
import HandS.Dict
import PyProof.Rows.TupDisplay
import KE.GoesNew
import HandS.DictComp
import HandS.More
import KE.KCallOwn
import KE.KFmtOwn
import PyProof.InstNe
import PyProof.NeKinds
import HandS.TupMul
import HandS.HeadHook3
import HandS.Head2
import HandS.Head3
import HandS.HeadHook2
import HandS.HeadHook1
import HandS.HeadWalk
import PySem.Challenge.RW_watchkinds_k25_errors_of_pieces
set_option Elab.async false
set_option linter.all false
set_option maxRecDepth 100000
set_option maxHeartbeats 6000000
namespace FV
open PySem PySem.Spec PyProof.Rows L2 LamX NdefX
/-- the very object o stands at c -/
def Fix (c : Addr) (o : Obj) : HO := .ext fun h => h.get? c = some o
abbrev Cs := List (Addr × Obj)
def Lay (cs : Cs) (H : Hp) : Prop := ∀ p ∈ cs, H p.1 = some (Fix p.1 p.2)
def off (cs : Cs) (H : Hp) : Hp := fun b => if b ∈ cs.map (·.1) then none else H b
def onn (cs : Cs) (H : Hp) : Hp := cs.foldr (fun p G => upd G p.1 (Fix p.1 p.2)) H
theorem off_in {cs : Cs} {H : Hp} {b : Addr} (h : b ∈ cs.map (·.1)) : off cs H b = none := if_pos h
theorem off_out {cs : Cs} {H : Hp} {b : Addr} (h : b ∉ cs.map (·.1)) : off cs H b = H b := if_neg h
theorem onn_out {H : Hp} {b : Addr} : ∀ {cs : Cs}, b ∉ cs.map (·.1) → onn cs H b = H b
  | [], _ => rfl
  | p :: cs, h => by
    show upd (onn cs H) p.1 _ b = _
    rw [upd_ne fun (z : b = p.1) => h (List.mem_map.mpr ⟨p, List.mem_cons_self, z.symm⟩)]
    exact onn_out fun z => h (List.mem_cons_of_mem _ z)
theorem onn_lay {H : Hp} : ∀ {cs : Cs}, (cs.map (·.1)).Nodup → Lay cs (onn cs H)
  | [], _, _, hp => (List.not_mem_nil hp).elim
  | q :: cs, nd, p, hp => by
    obtain ⟨h1, h2⟩ := List.nodup_cons.mp nd
    show upd (onn cs H) q.1 _ p.1 = _
    rcases List.mem_cons.mp hp with rfl | z
    · exact upd_same
    · rw [upd_ne fun (e : p.1 = q.1) => h1 (List.mem_map.mpr ⟨p, z, e⟩)]
      exact onn_lay h2 p z
theorem lay_none {cs : Cs} {H : Hp} (l : Lay cs H) {b : Addr} (h : H b = none) : b ∉ cs.map (·.1) := fun z => by
  obtain ⟨p, hp, rfl⟩ := List.mem_map.mp z
  rw [l p hp] at h
  cases h
theorem lay_not {cs : Cs} {H : Hp} (l : Lay cs H) {b : Addr} {o : HO} (h : H b = some o) (n : ∀ φ, o ≠ .ext φ) : b ∉ cs.map (·.1) := fun z => by
  obtain ⟨p, hp, rfl⟩ := List.mem_map.mp z
  rw [l p hp] at h
  exact n _ (Option.some.inj h).symm
theorem Lay.same {cs : Cs} {H H' : Hp} (l : Lay cs H) (s : ∀ b o, H b = some o → (∀ ps, o ≠ .tbl ps) → H' b = some o) : Lay cs H' := fun p hp => s _ _ (l p hp) fun _ z => nomatch z
section
variable {P : Program} {w : World} {H H' : Hp} {h h' : Heap} {cs : Cs} {fs : List Addr}
theorem lay_at (ok : HOk P w H h) (l : Lay cs H) : ∀ p ∈ cs, h.get? p.1 = some p.2 := fun p hp => (ok p.1 _ (l p hp)).1
theorem hok_off (ok : HOk P w H h) (l : Lay cs H) : HOk P w (off cs H) h := fun b u e => by
  have nb : b ∉ cs.map (·.1) := fun z => by rw [off_in z] at e; cases e
  rw [off_out nb] at e
  exact (ok b u e).stay (fun _ _ _ q => q) (fun d q => by rw [off_out (lay_not l q fun _ z => nomatch z)]; exact q) fun d xs q => by rw [off_out (lay_not l q fun _ z => nomatch z)]; exact q
theorem hok_on (ok : HOk P w H h) (nd : (cs.map (·.1)).Nodup) (n : ∀ p ∈ cs, H p.1 = none) (at_ : ∀ p ∈ cs, h.get? p.1 = some p.2) : HOk P w (onn cs H) h := fun b u e => by
  have out : ∀ {d : Addr} {o : HO}, H d = some o → d ∉ cs.map (·.1) := fun {d o} q z => by
    obtain ⟨p, hp, rfl⟩ := List.mem_map.mp z
    rw [n p hp] at q
    cases q
  by_cases hb : b ∈ cs.map (·.1)
  · obtain ⟨p, hp, rfl⟩ := List.mem_map.mp hb
    rw [onn_lay nd p hp] at e
    cases e
    exact ⟨at_ p hp, ⟨_, at_ p hp⟩, fun _ _ a k => k _ a⟩
  · rw [onn_out hb] at e
    exact (ok b u e).stay (fun _ _ _ q => q) (fun d q => by rw [onn_out (out q)]; exact q) fun d xs q => by rw [onn_out (out q)]; exact q
/-- what a call left of the heap without the cells, told with them -/
theorem un_on (u : Un fs [] (off cs H) H' h h') (l : Lay cs H) : Un fs [] H (onn cs H') h h' where
  keep := fun b o e n hb hx => u.keep b o e (by rw [off_out (lay_none l n)]; exact n) hb hx
  slot := fun b o e n hb hx => u.slot b o e (by rw [off_out (lay_none l n)]; exact n) hb hx
  free := fun b o e n hx => by
    rw [onn_out (lay_none l n)]
    exact u.free b o e (by rw [off_out (lay_none l n)]; exact n) hx
  there := u.there
  tups := fun b xs e => by
    have nb := lay_not l e fun _ z => nomatch z
    rw [onn_out nb]
    exact u.tups b xs (by rw [off_out nb]; exact e)
  frzs := fun b o v e => by
    have nb := lay_not l e fun _ z => nomatch z
    rw [onn_out nb]
    exact u.frzs b o v (by rw [off_out nb]; exact e)
  tbls := fun b ps e => by
    have nb := lay_not l e fun _ z => nomatch z
    obtain ⟨more, q⟩ := u.tbls b ps (by rw [off_out nb]; exact e)
    exact ⟨more, by rw [onn_out nb]; exact q⟩
/-- what a call that was told of the cells left, told without them -/
theorem un_off (u : Un fs [] (onn cs H) H' h h') (nd : (cs.map (·.1)).Nodup) (n : ∀ p ∈ cs, H p.1 = none) (at_ : ∀ p ∈ cs, h.get? p.1 = some p.2) (ok : HOk P w H' h') (l : Lay cs H') : Un fs [] H (off cs H') h h' := by
  have out : ∀ {d : Addr} {o : HO}, H d = some o → d ∉ cs.map (·.1) := fun {d o} q z => by
    obtain ⟨p, hp, rfl⟩ := List.mem_map.mp z
    rw [n p hp] at q
    cases q
  refine ⟨fun b o e nb hb hx => ?_, fun b o e nb hb hx => ?_, fun b o e nb hx => ?_, u.there, fun b xs e => ?_, fun b o v e => ?_, fun b ps e => ?_⟩
  · by_cases hc : b ∈ cs.map (·.1)
    · obtain ⟨p, hp, rfl⟩ := List.mem_map.mp hc
      rw [lay_at ok l p hp, ← e, at_ p hp]
    · exact u.keep b o e (by rw [onn_out hc]; exact nb) hb hx
  · by_cases hc : b ∈ cs.map (·.1)
    · obtain ⟨p, hp, rfl⟩ := List.mem_map.mp hc
      exact ⟨o.slots, by rw [lay_at ok l p hp, ← at_ p hp, e]⟩
    · exact u.slot b o e (by rw [onn_out hc]; exact nb) hb hx
  · by_cases hc : b ∈ cs.map (·.1)
    · exact off_in hc
    · rw [off_out hc]
      exact u.free b o e (by rw [onn_out hc]; exact nb) hx
  · rw [off_out fun z => by obtain ⟨p, hp, rfl⟩ := List.mem_map.mp z; have := u.tups p.1 xs (by rw [onn_out (out e)]; exact e); rw [l p hp] at this; cases this]
    exact u.tups b xs (by rw [onn_out (out e)]; exact e)
  · rw [off_out fun z => by obtain ⟨p, hp, rfl⟩ := List.mem_map.mp z; have := u.frzs p.1 o v (by rw [onn_out (out e)]; exact e); rw [l p hp] at this; cases this]
    exact u.frzs b o v (by rw [onn_out (out e)]; exact e)
  · obtain ⟨more, q⟩ := u.tbls b ps (by rw [onn_out (out e)]; exact e)
    exact ⟨more, by rw [off_out (lay_not l q fun _ z => nomatch z)]; exact q⟩
end
/-- the closure cl has the names fr, at these cells with these values -/
structure Fits (cl : List (Str × Addr)) (fr : List Str) (cs : Cs) (vals : List V) : Prop where
  len : cs.length = fr.length
  lenV : vals.length = fr.length
  at_ : ∀ (i : Nat) (y : Str) (p : Addr × Obj), fr[i]? = some y → cs[i]? = some p → cl.lookup y = some p.1
  only : ∀ (y : Str) (c : Addr), cl.lookup y = some c → y ∈ fr
  nd : (cs.map (·.1)).Nodup
  val : ∀ (i : Nat) (p : Addr × Obj) (v : V), cs[i]? = some p → vals[i]? = some v → ∃ u, RelV v u ∧ p.2.data = .cell (some u)
theorem nodup_at {α : Type} {l : List α} (nd : l.Nodup) {i j : Nat} {x : α} (a : l[i]? = some x) (b : l[j]? = some x) : i = j := by
  obtain ⟨h1, e1⟩ := List.getElem?_eq_some_iff.mp a
  obtain ⟨h2, e2⟩ := List.getElem?_eq_some_iff.mp b
  exact (List.getElem_inj nd).mp (e1.trans e2.symm)
theorem Fits.mem {cl : List (Str × Addr)} {fr : List Str} {cs : Cs} {vals : List V} (F : Fits cl fr cs vals) {y : Str} {c : Addr} (e : cl.lookup y = some c) : ∃ (i : Nat) (p : Addr × Obj), fr[i]? = some y ∧ cs[i]? = some p ∧ p.1 = c := by
  obtain ⟨i, hi⟩ := List.mem_iff_getElem?.mp (F.only y c e)
  have hl : i < cs.length := by rw [F.len]; exact (List.getElem?_eq_some_iff.mp hi).1
  refine ⟨i, cs[i], hi, List.getElem?_eq_getElem hl, ?_⟩
  have := F.at_ i y cs[i] hi (List.getElem?_eq_getElem hl)
  rw [e] at this
  exact (Option.some.inj this).symm
theorem Fits.cells {P : Program} {w : World} {cl : List (Str × Addr)} {fr : List Str} {cs : Cs} {vals : List V} {H : Hp} {h : Heap} (F : Fits cl fr cs vals) (ok : HOk P w H h) (l : Lay cs H) : CellsAt cl fr (vals.map some) h (off cs H) := by
  have cell : ∀ (i : Nat) (p : Addr × Obj), cs[i]? = some p → ∃ v u, vals[i]? = some v ∧ RelV v u ∧ h.IsCell p.1 (some u) := fun i p hp => by
    have hl : i < vals.length := by rw [F.lenV, ← F.len]; exact (List.getElem?_eq_some_iff.mp hp).1
    obtain ⟨u, r, d⟩ := F.val i p vals[i] hp (List.getElem?_eq_getElem hl)
    exact ⟨vals[i], u, List.getElem?_eq_getElem hl, r, p.2, lay_at ok l p (List.mem_of_getElem? hp), d⟩
  refine ⟨by rw [List.length_map]; exact F.lenV, fun y c e => ?_, fun x y c e1 e2 => ?_, fun i y e => ?_⟩
  · obtain ⟨i, p, _, hp, rfl⟩ := F.mem e
    obtain ⟨v, u, _, _, z⟩ := cell i p hp
    exact ⟨off_in (List.mem_map.mpr ⟨p, List.mem_of_getElem? hp, rfl⟩), _, z⟩
  · obtain ⟨i, p, hi, hp, rfl⟩ := F.mem e1
    obtain ⟨j, q, hj, hq, e⟩ := F.mem e2
    have : i = j := nodup_at F.nd (x := p.1) (by rw [List.getElem?_map, hp] <;> rfl) (by rw [List.getElem?_map, hq, ← e] <;> rfl)
    rw [this, hj] at hi
    exact (Option.some.inj hi).symm
  · have hl : i < cs.length := by rw [F.len]; exact (List.getElem?_eq_some_iff.mp e).1
    obtain ⟨v, u, hv, r, z⟩ := cell i cs[i] (List.getElem?_eq_getElem hl)
    refine ⟨cs[i].1, F.at_ i y cs[i] e (List.getElem?_eq_getElem hl), fun v' hv' => ?_⟩
    rw [List.getElem?_map, hv] at hv'
    cases hv'
    exact ⟨u, r, z⟩
/-- the function at f may be called wherever G holds of the heap -/
structure CallV (P : Program) (w : World) (K : PySem.W.Frag) (mg : Str → Option Value) (base : Heap) (CX : CXT) (k : Nat) (f : Addr) (G : Hp → Prop) (sp : Sp) : Prop where
  fn : ∀ {H : Hp} {h : Heap}, HOk P w H h → G H → PySem.W.FnAt f h
  run : ∀ (A : Around) (outer : List Env) (s : Shared) (H : Hp) (us : List Value) (vs : List V) (Q : VK) (E : XK), Room k A → Env0 P w K mg base A outer s H → G H → Vals vs us → sp vs H Q E → codeAny (model P w) A (.call (.ref f) ⟨us, []⟩) (CR CX outer P w H s Q E) s
theorem CallV.mono {P : Program} {w : World} {K : PySem.W.Frag} {mg : Str → Option Value} {base : Heap} {CX : CXT} {j k : Nat} {f : Addr} {G : Hp → Prop} {sp : Sp} (c : CallV P w K mg base CX j f G sp) (h : j ≤ k) : CallV P w K mg base CX k f G sp :=
  ⟨c.fn, fun A outer s H us vs Q E hr => c.run A outer s H us vs Q E (hr.mono h)⟩
theorem CallV.imp {P : Program} {w : World} {K : PySem.W.Frag} {mg : Str → Option Value} {base : Heap} {CX : CXT} {k : Nat} {f : Addr} {G G' : Hp → Prop} {sp sp' : Sp} (c : CallV P w K mg base CX k f G sp) (hG : ∀ H, G' H → G H) (h : ∀ vs H Q E, G' H → sp' vs H Q E → sp vs H Q E) : CallV P w K mg base CX k f G' sp' :=
  ⟨fun ok g => c.fn ok (hG _ g), fun A outer s H us vs Q E hr e0 g r q => c.run A outer s H us vs Q E hr e0 (hG _ g) r (h _ _ _ _ g q)⟩
section
variable {P : Program} {w : World} {K : PySem.W.Frag} {mg : Str → Option Value} {base : Heap} {CX : CXT} {A : Around} {outer : List Env} {s s' : Shared} {H : Hp} {cs : Cs} {Q : VK} {u : Value}
theorem env0_off (e0 : Env0 P w K mg base A outer s H) (l : Lay cs H) : Env0 P w K mg base A outer s (off cs H) :=
  have n : ∀ {b : Addr}, H b = none → off cs H b = none := fun {b} h => by rw [off_out (lay_none l h)]; exact h
  ⟨e0.frames, e0.mod, fun b o e => ⟨(e0.bs b o e).1, n (e0.bs b o e).2⟩, e0.bsz, e0.funs, fun b hb => n (e0.frf b hb), hok_off e0.hok l, e0.bare⟩
theorem ce_on (e0 : Env0 P w K mg base A outer s H) (nd : (cs.map (·.1)).Nodup) (l : Lay cs H) (h : CE outer P w (off cs H) s (fun v H' => (∀ p ∈ cs, H' p.1 = none) → Q v (onn cs H')) u s') : CE outer P w H s Q u s' := by
  obtain ⟨v, H', os, bare, un, ok, r, q⟩ := h
  have kept : ∀ p ∈ cs, s'.heap.get? p.1 = some p.2 ∧ H' p.1 = none := fun p hp => by
    have e := lay_at e0.hok l p hp
    have n : off cs H p.1 = none := off_in (List.mem_map.mpr ⟨p, hp, rfl⟩)
    refine ⟨un.keep p.1 p.2 e n (fun z => ?_) List.not_mem_nil, un.free p.1 p.2 e n List.not_mem_nil⟩
    have := e0.frf p.1 z
    rw [l p hp] at this
    cases this
  exact ⟨v, onn cs H', os, bare, un_on un l, hok_on ok nd (fun p hp => (kept p hp).2) fun p hp => (kept p hp).1, r, q fun p hp => (kept p hp).2⟩
end
end FV
set_option Elab.async false
set_option linter.all false
set_option maxRecDepth 100000
set_option maxHeartbeats 6000000
namespace FV
open PySem PySem.Spec PyProof.Rows L2 LamX NdefX
/-- a lambda with the words of F (whose own body is not looked at) and the body b -/
def LamO (f : Addr) (F : NF) (b : Expr) : HO := .ext fun h => ∃ pm ctv, h.get? f = some (PySem.W.kla_obj "<lambda>" F.qual F.params b F.scope F.cl pm F.c ctv)
section
variable {P : Program} {w : World} {K : PySem.W.Frag} {mg : Str → Option Value} {base : Heap} {CX : CXT} {F : NF} {b : Expr} {f : Addr} {k : Nat} {N ps fr : List Str} {sp : List (Option V) → Sp}
structure LOk (P : Program) (w : World) (K : PySem.W.Frag) (mg : Str → Option Value) (base : Heap) (CX : CXT) (k : Nat) (f : Addr) (F : NF) (b : Expr) (fr : List Str) (sp : List (Option V) → Sp) : Prop where
  run : ∀ (A : Around) (outer : List Env) (s : Shared) (H : Hp) (us : List Value) (vs : List V) (ws : List (Option V)) (Q : VK) (E : XK), Room k A → Env0 P w K mg base A outer s H → H f = some (LamO f F b) → H F.c = some (CodeO F.c F.qual) →
    CellsAt F.cl fr ws s.heap H → Vals vs us → sp ws vs H Q E → codeAny (model P w) A (.call (.ref f) ⟨us, []⟩) (CR CX outer P w H s Q E) s
/-- a lambda by its body -/
theorem lok_of (S : NScope N ps fr F.scope) (bind : ∀ (pm cv ctv : Value) (us : List Value), us.length = ps.length → bindArgs (PySem.W.kla_fn "<lambda>" F.qual F.params b F.scope F.cl pm cv ctv) ⟨us, []⟩ = pure (ps.zip us)) (len : ∀ ws vs H Q E, sp ws vs H Q E → vs.length = ps.length)
    (body : ∀ (A : Around) (outer : List Env) (s : Shared) (H : Hp) (vs : List V) (ws : List (Option V)) (Q : VK) (E : XK), Room k (A.deeper (envF F f s.heap.objs.size)) → ws.length = fr.length → sp ws vs H Q E →
      ∃ te, PE (ncx CX P w K mg base N F f A outer s H E) b te ∧ te (startF N vs ws) H Q) : LOk P w K mg base CX (k + 1) f F b fr sp := by
  refine ⟨fun A outer s H us vs ws Q E hr e0 hf hc C r told => ?_⟩
  have few := len _ _ _ _ _ told
  obtain ⟨pm, ctv, at_⟩ := (e0.hok f _ hf).1
  obtain ⟨oc, parts, t, c1, c2, c3⟩ := (e0.hok F.c _ hc).1
  have lim : s.heap.NoLimit := e0.mod.nolimit.keeps fun d o e => (e0.bs d o e).1
  obtain ⟨te, rule, q⟩ := body A outer s H vs ws Q E (hr.deeper _) C.len told
  refine PySem.W.kla_callFunE hr.depth at_ rfl S.co S.gen rfl ⟨F.c, oc, parts, t, rfl, c1, c2, c3⟩ ?_
  rw [bind pm _ ctv us (by rw [← r.length]; exact few)]
  refine wpAny_pure (wpAny_newFunctionEnv S.nocell (fun ⟨n, _⟩ m => S.par n (List.of_mem_zip m).1) (fun hZ ns sb => ⟨lim.fresh _ sb, PySem.W.kla_codeExpr ?_⟩) S.kind)
  have I : Inv (ncx CX P w K mg base N F f A outer s H E) [] (startF N vs ws) H { s with heap := hZ, toks := s.toks + (ps.zip us).length } :=
    inv_startN S hr.hd e0 few r C ns fun d o e => sb.extBut d o (Nat.ne_of_lt (Heap.lt_size e)) (Heap.get?_push_of_some _ e)
  exact wpAny_mono (rule.run [] _ _ H Q I q) (fun _ _ z => let ⟨v, H', J, rv, qv⟩ := z; ⟨v, H', J.os, J.bare, J.base, J.hok, rv, qv⟩) fun _ _ z => z
end
section
variable {X : Cx} {σ : L2.St} {H : Hp} {s : Shared} {pins : List (Addr × Obj)} {cs : Cs}
theorem env0_on (I : Inv X pins σ H s) (nd : (cs.map (·.1)).Nodup) (n : ∀ p ∈ cs, H p.1 = none) (at_ : ∀ p ∈ cs, s.heap.get? p.1 = some p.2) (young : ∀ p ∈ cs, X.s_0.heap.objs.size ≤ p.1 ∧ p.1 ≠ X.env.locals) : Env0 X.prog X.w X.K X.mg X.base X.A X.stack s (onn cs H) := by
  have e := I.env0
  have out : ∀ {b : Addr}, b < X.s_0.heap.objs.size → b ∉ cs.map (·.1) := fun {b} lt z => by
    obtain ⟨p, hp, rfl⟩ := List.mem_map.mp z
    exact absurd lt (Nat.not_lt.mpr (young p hp).1)
  refine ⟨e.frames, e.mod, fun b o eb => ⟨(e.bs b o eb).1, ?_⟩, e.bsz, e.funs, fun b hb => ?_, hok_on I.hok nd n at_, e.bare⟩
  · rw [onn_out (out (Nat.lt_of_lt_of_le (Heap.lt_size eb) I.ok.bsz))]
    exact (e.bs b o eb).2
  · have nb : b ∉ cs.map (·.1) := by
      rcases List.mem_cons.mp (I.stkSub b hb) with z | z
      · intro y
        obtain ⟨p, hp, e2⟩ := List.mem_map.mp y
        exact (young p hp).2 (e2.trans z)
      · obtain ⟨_, o, ho, _⟩ := I.ok.funs.mem z
        exact out (Heap.lt_size ho)
    rw [onn_out nb]
    exact e.frf b hb
/-- the running frame's cells, as they stand -/
theorem fits_of {cl : List (Str × Addr)} {fr : List Str} {js : List Nat} {vals : List V} (I : Inv X pins σ H s) (cp : Caps X cl fr js) (only : ∀ (y : Str) (c : Addr), cl.lookup y = some c → y ∈ fr) (nd : fr.Nodup) (hv : js.map (fun j => σ[j]?) = vals.map fun v => some (some v)) :
    ∃ cs, Fits cl fr cs vals ∧ (∀ p ∈ cs, H p.1 = none ∧ s.heap.get? p.1 = some p.2 ∧ ∃ y ∈ fr, X.env.cells.lookup y = some p.1) := by
  have C := cells_of I cp
  have lenJ : js.length = fr.length := by
    have := congrArg List.length cp.at_
    rw [List.length_map, List.length_map] at this
    exact this
  have lenV : vals.length = fr.length := by
    have := congrArg List.length hv
    rw [List.length_map, List.length_map] at this
    omega
  have each : ∀ i : Fin fr.length, ∃ p : Addr × Obj, cl.lookup (fr[i.1]'i.2) = some p.1 ∧ s.heap.get? p.1 = some p.2 ∧ ∃ u, RelV (vals[i.1]'(Nat.lt_of_lt_of_eq i.2 lenV.symm)) u ∧ p.2.data = .cell (some u) := fun ⟨i, hi⟩ => by
    obtain ⟨c, hc, at_⟩ := C.has i _ (List.getElem?_eq_getElem hi)
    have hj : i < js.length := Nat.lt_of_lt_of_eq hi lenJ.symm
    have hV : i < vals.length := Nat.lt_of_lt_of_eq hi lenV.symm
    have e : σ[js[i]]? = some (some vals[i]) := by
      have := congrArg (fun l => l[i]?) hv
      rw [List.getElem?_map, List.getElem?_map, List.getElem?_eq_getElem hj, List.getElem?_eq_getElem hV] at this
      exact Option.some.inj this
    obtain ⟨u, r, o, ho, d⟩ := at_ vals[i] (by rw [List.getElem?_map, List.getElem?_eq_getElem hj]; exact congrArg some (slotAt_of e))
    exact ⟨(c, o), hc, ho, u, r, d⟩
  obtain ⟨g, hg⟩ := Classical.axiomOfChoice each
  have at_ : ∀ (i : Nat) (p : Addr × Obj), (List.ofFn g)[i]? = some p → ∃ hi : i < fr.length, p = g ⟨i, hi⟩ := fun i p h => by
    obtain ⟨h1, h2⟩ := List.getElem?_eq_some_iff.mp h
    have hi : i < fr.length := by rw [List.length_ofFn] at h1; exact h1
    exact ⟨hi, by rw [← h2, List.getElem_ofFn]⟩
  refine ⟨List.ofFn g, ⟨List.length_ofFn, lenV, fun i y p hy hp => ?_, only, ?_, fun i p v hp hv2 => ?_⟩, fun p hp => ?_⟩
  · obtain ⟨hi, rfl⟩ := at_ i p hp
    have := (hg ⟨i, hi⟩).1
    rw [List.getElem?_eq_getElem hi] at hy
    rw [← Option.some.inj hy]
    exact this
  · rw [List.map_ofFn]
    refine List.pairwise_iff_getElem.mpr fun i j h1 h2 lt e => ?_
    rw [List.length_ofFn] at h1 h2
    rw [List.getElem_ofFn, List.getElem_ofFn] at e
    have e2 : (g ⟨i, h1⟩).1 = (g ⟨j, h2⟩).1 := e
    have e3 := C.inj _ _ _ (hg ⟨i, h1⟩).1 (e2 ▸ (hg ⟨j, h2⟩).1)
    have : i = j := nodup_at nd (List.getElem?_eq_getElem h1) (by rw [List.getElem?_eq_getElem h2]; exact congrArg some e3.symm)
    omega
  · obtain ⟨hi, rfl⟩ := at_ i p hp
    have hV : i < vals.length := Nat.lt_of_lt_of_eq hi lenV.symm
    rw [List.getElem?_eq_getElem hV] at hv2
    rw [← Option.some.inj hv2]
    exact (hg ⟨i, hi⟩).2.2
  · obtain ⟨i, hi⟩ := List.mem_iff_getElem?.mp hp
    obtain ⟨hj, rfl⟩ := at_ i p hi
    exact ⟨(C.all _ _ (hg ⟨i, hj⟩).1).1, (hg ⟨i, hj⟩).2.1, _, List.getElem_mem hj, cp.sub _ _ (hg ⟨i, hj⟩).1⟩
end
/-- f(e, ..) of a def of the module that is told of the running frame's cells -/
def tCallC (cl : List (Str × Addr)) (fr : List Str) (js : List Nat) (sp : Sp) (t : TA) : TE := fun σ H Q => t σ H fun vs H1 => ∃ vals : List V, js.map (fun j => σ[j]?) = vals.map (fun v => some (some v)) ∧
  ∀ cs, Fits cl fr cs vals → (∀ p ∈ cs, H1 p.1 = none) → sp vs (onn cs H1) (fun v H' => Lay cs H' ∧ Q v (off cs H')) E0
end FV
set_option Elab.async false
set_option linter.all false
set_option maxRecDepth 100000
set_option maxHeartbeats 6000000
namespace FV
open PySem PySem.Spec PyProof.Rows L2 LamX NdefX
/-- the words of a lambda that is made in X -/
abbrev lamF (X : Cx) (params : Arguments) (scope : Scope) (c : Addr) : NF := ⟨"<lambda>", X.env.qual ++ "<lambda>", params, [], scope, cloFrom X.env.cells scope.names [], c⟩
/-- nothing that was tracked is lost, but for tables of code objects, which grow -/
def Grows (T : List (Addr × Str)) (H H1 : Hp) : Prop := ExtN H H1 ∧ Tabs T H1 ∧ ∀ d, H1 d = none → H d = none
def tLamV (X : Cx) (T : List (Addr × Str)) (params : Arguments) (body : Expr) (scope : Scope) : TE := fun σ H Q => Tabs T H ∧ ∀ (f c : Addr) (H1 : Hp), H f = none → Grows T H H1 → H1 f = some (LamO f (lamF X params scope c) body) → H1 c = some (CodeO c (X.env.qual ++ "<lambda>")) → Q (.ref f) H1
section
variable {X : Cx} {T : List (Addr × Str)} {c P : Addr} {params : Arguments} {body : Expr} {scope : Scope} {pos : Pos}
theorem lamO_ok {P : Program} {w : World} {H : Hp} {h : Heap} {f : Addr} {F : NF} {b : Expr} {pm ctv : Value} (e : h.get? f = some (PySem.W.kla_obj "<lambda>" F.qual F.params b F.scope F.cl pm F.c ctv)) : ObjOk P w H h f (LamO f F b) :=
  ⟨⟨pm, ctv, e⟩, ⟨_, e⟩, fun _ _ ⟨pm, ctv, e⟩ k => ⟨pm, ctv, k _ e⟩⟩
theorem pe_lamV (TB : TabB X.base X.mg c P) (code : X.env.code = .ref c) (mem : (P, X.env.qual ++ "<lambda>") ∈ T) (uniq : ∀ p ∈ T, p.1 = P → p.2 = X.env.qual ++ "<lambda>") (plain : defaultsOf params X.env = ([], []))
    (taken : X.Ok → ∀ y ∈ scope.names, y.2 = .free → ∃ c, X.env.cells.lookup y.1 = some c) : PE X (.Lambda params body scope pos) (tLamV X T params body scope) := by
  refine ⟨fun pins s σ H Q I ⟨tabs, told⟩ => PySem.W.kla_eval plain ?_⟩
  obtain ⟨ps, atP, three, known⟩ := tabs _ mem
  have clo := closure_ok (taken I.ok)
  have bP : s.heap.BuiltinsAt X.mg P := TB.bm.keeps I.bk
  have tabO : s.heap.get? P = some (PySem.W.tabObj ps) := I.hok P _ atP
  cases old : codeAmong pos ps.toList with
  | some cv =>
    obtain ⟨c', rfl, isCode⟩ := known pos cv old
    refine PySem.W.kla_makeFunctionHit (mg := X.mg) (c := c) (P := P) (ps := ps) clo I.ok.glob (I.mod.glob.keeps I.bk) code (TB.code.keeps I.bk) tabO three old bP fun ctv h' tk keep size => ?_
    have free : H h'.objs.size = none := I.hok.fresh size
    have J : Inv X pins σ H { s with heap := h', toks := tk } := I.kept (t' := tk) keep
    have J2 := J.laid (t' := tk) (h' := h'.push (PySem.W.kla_obj "<lambda>" (X.env.qual ++ "<lambda>") params body scope (cloFrom X.env.cells scope.names []) ((X.mg "__name__").getD .none) c' ctv)) (fun b u e => Heap.get?_push_of_some _ e) (Nat.le_refl _) (lamO_ok (F := lamF X params scope c') (b := body) (Heap.get?_push_size _ rfl))
    have ext : ∀ b o, H b = some o → upd H h'.objs.size (LamO h'.objs.size (lamF X params scope c') body) b = some o := fun b o e => by rw [upd_ne (ne_of_none e free)]; exact e
    refine ⟨.ref h'.objs.size, _, J2, rfl, told _ c' _ free ⟨ExtN.of ext, tabs.ext ext, fun d n => ?_⟩ upd_same (ext _ _ isCode)⟩
    by_cases z : d = h'.objs.size
    · rw [z]; exact free
    · rw [upd_ne z] at n; exact n
  | none =>
    refine PySem.W.kla_makeFunction (mg := X.mg) (c := c) (P := P) (ps := ps) clo I.ok.glob (I.mod.glob.keeps I.bk) code (TB.code.keeps I.bk) tabO three old TB.gP bP fun c' ctv h' tk but young below isRec grown => ?_
    obtain ⟨_, oc, parts, t, same, c1, c2, c3⟩ := isRec
    cases same
    have newC : H c' = none := I.hok.fresh young
    have J := inv_table (t' := tk) (more := #[rawInt pos.line, rawInt pos.col, .ref c']) (h' := h') I atP (fun b o n e => but b o n e) grown young ⟨oc, parts, t, c1, c2, c3⟩
    have lt : s.heap.objs.size < h'.objs.size := Nat.lt_of_le_of_lt young below
    have ltP : P < h'.objs.size := Nat.lt_trans (Heap.lt_size tabO) lt
    have free0 : H h'.objs.size = none := I.hok.fresh (Nat.le_of_lt lt)
    have J2 := J.laid (t' := tk) (h' := h'.push (PySem.W.kla_obj "<lambda>" (X.env.qual ++ "<lambda>") params body scope (cloFrom X.env.cells scope.names []) ((X.mg "__name__").getD .none) c' ctv)) (fun b u e => Heap.get?_push_of_some _ e) (Nat.le_refl _) (lamO_ok (F := lamF X params scope c') (b := body) (Heap.get?_push_size _ rfl))
    have atC : ∀ (o : HO), upd (upd (upd H P (.tbl (ps ++ #[rawInt pos.line, rawInt pos.col, .ref c']))) c' (CodeO c' (X.env.qual ++ "<lambda>"))) h'.objs.size o c' = some (CodeO c' (X.env.qual ++ "<lambda>")) := fun o => by rw [upd_ne (Nat.ne_of_lt below), upd_same]
    have atP2 : ∀ (o : HO), upd (upd (upd H P (.tbl (ps ++ #[rawInt pos.line, rawInt pos.col, .ref c']))) c' (CodeO c' (X.env.qual ++ "<lambda>"))) h'.objs.size o P = some (.tbl (ps ++ #[rawInt pos.line, rawInt pos.col, .ref c'])) := fun o => by rw [upd_ne (Nat.ne_of_lt ltP), upd_ne (ne_of_none atP newC), upd_same]
    have rest : ∀ (o : HO) (b : Addr) (u : HO), b ≠ P → H b = some u → upd (upd (upd H P (.tbl (ps ++ #[rawInt pos.line, rawInt pos.col, .ref c']))) c' (CodeO c' (X.env.qual ++ "<lambda>"))) h'.objs.size o b = some u := fun o b u n e => by
      rw [upd_ne (ne_of_none e free0), upd_ne (ne_of_none e newC), upd_ne n]
      exact e
    have ext : ∀ (o : HO), ExtN H (upd (upd (upd H P (.tbl (ps ++ #[rawInt pos.line, rawInt pos.col, .ref c']))) c' (CodeO c' (X.env.qual ++ "<lambda>"))) h'.objs.size o) := fun o b u e n => rest o b u (fun z => by rw [z, atP] at e; exact n ps (Option.some.inj e).symm) e
    refine ⟨.ref h'.objs.size, _, J2, rfl, told _ c' _ free0 ⟨ext _, fun p hp => ?_, fun d n => ?_⟩ upd_same (atC _)⟩
    · by_cases hb : p.1 = P
      · refine ⟨_, by rw [hb]; exact atP2 _, by rw [Array.toList_append]; exact PySem.TriplesOk_snoc _ _ _ _ three, fun p' cv hcv => ?_⟩
        rw [Array.toList_append] at hcv
        rw [uniq p hp hb]
        rcases among_app _ three hcv with z | z
        · obtain ⟨d, e1, e2⟩ := known p' cv z
          exact ⟨d, e1, ext _ _ _ e2 codeO_ne⟩
        · exact ⟨c', z, atC _⟩
      · obtain ⟨qs, a1, a2, a3⟩ := tabs p hp
        refine ⟨qs, rest _ _ _ hb a1, a2, fun p' cv hcv => ?_⟩
        obtain ⟨d, e1, e2⟩ := a3 p' cv hcv
        exact ⟨d, e1, ext _ _ _ e2 codeO_ne⟩
    · have n1 : d ≠ h'.objs.size := fun z => by rw [z, upd_same] at n; cases n
      rw [upd_ne n1] at n
      have n2 : d ≠ c' := fun z => by rw [z, upd_same] at n; cases n
      rw [upd_ne n2] at n
      have n3 : d ≠ P := fun z => by rw [z, upd_same] at n; cases n
      rw [upd_ne n3] at n
      exact n
end
end FV
set_option Elab.async false
set_option linter.all false
set_option maxRecDepth 100000
set_option maxHeartbeats 4000000
namespace WG
open PySem L2 PyProof.Rows
/-- as FnOk, where nothing is being written out around -/
structure FnG (P : Program) (w : World) (K : PySem.W.Frag) (mg : Str → Option Value) (base : Heap) (k : Nat) (f : Addr) (fd : FuncData) (ps : List Str) (sp : Sp) : Prop where
  len : ∀ us H Q E, sp us H Q E → us.length = ps.length
  run : ∀ (A : Around) (outer : List Env) (s : Shared) (H : Hp) (args : Args) (us : List Value) (vs : List V) (Q : VK) (E : XK), Room k A → A.guards = some [] → Env0 P w K mg base A outer s H → BindsTo s fd args (ps.zip us) → Vals vs us →
    sp vs H Q E → codeAny (model P w) A (.call (.ref f) args) (CR CX0 outer P w H s Q E) s
section
variable {P : Program} {w : World} {K : PySem.W.Frag} {mg mb : Str → Option Value} {base : Heap} {k : Nat} {f : Addr} {N ps : List Str} {sp : Sp}
theorem okG {x qual : Str} {st : Stmt} {fd : FuncData} (F : Fun K x qual st f fd) (S : FnScope N ps (defScope st)) (len : ∀ vs H Q E, sp vs H Q E → vs.length = ps.length)
    (hbody : ∀ (cdv : Value) (A : Around) (outer : List Env) (s : Shared) (H : Hp) (vs : List V) (Q : VK) (E : XK), Room k (A.deeper (envOfC qual (defScope st) s.heap.objs.size f cdv)) → A.guards = some [] → sp vs H Q E →
      ∃ t, PSs (cxOf CX0 P w K mg base N qual (defScope st) f cdv A outer s H E).nox (defBody st) t ∧ t { nx := fun _ H' => Q .non H', rt := Q } (start N vs) H) : FnG P w K mg base (k + 1) f fd ps sp := by
  rcases F.ex with ⟨_, _, kV, doc, pm, an, cdv, ct, osl, rfl, lk, hcd⟩
  refine ⟨len, fun A outer s H args us vs Q E hr hg e0 hb r hsp => ?_⟩
  have hl := len _ _ _ _ hsp
  have stays : ∀ b o, base.get? b = some o → s.heap.get? b = some o := fun b o e => (e0.bs b o e).1
  have KX : K.In s.heap := e0.mod.kin.keeps stays
  have kinds : ∀ y ∈ ps.zip us, (defScope st).names.lookup y.1 = some .local ∨ ((defScope st).names.lookup y.1 = some .cell ∧ ((cellsFrom (s.heap.objs.size + 1) (defScope st).names []).lookup y.1).isSome = true) := fun y hy => by
    rcases S.par y.1 (List.of_mem_zip (show (y.1, y.2) ∈ ps.zip us from hy)).1 with q | q
    · exact Or.inl q
    · exact Or.inr (And.intro q (PySem.W.cellsFrom_some _ _ _ (.inl q)))
  refine codeAny_call_function hr.depth (KX _ _ lk) rfl S.co S.gen rfl (PySem.W.codeRec_of KX hcd) (hb _ _ _ _ (wpAny_newFunctionEnv_cells S.kind kinds fun env he s1 x => ?_))
  subst he
  refine ⟨(e0.mod.nolimit.keeps stays).keeps x.toInCall.keep, codeAny_func ?_⟩
  obtain ⟨t, ht, hq⟩ := hbody cdv A outer s H vs Q E (hr.deeper _) hg hsp
  have I := inv_start (CX := CX0) S hr.hd e0 hl (E := E) r x
  refine wpAny_mono (ht.nox.run [] s1 (start N vs) H _ I hq) (fun fl s' hs => ?_) fun e s' hs => hs
  cases fl with
  | next => exact let ⟨_, H', J, q⟩ := hs; ⟨.non, H', J.os, J.bare, J.base, J.hok, rfl, q⟩
  | ret u => exact let ⟨v, _, H', J, rv, q⟩ := hs; ⟨v, H', J.os, J.bare, J.base, J.hok, rv, q⟩
  | brk => exact let ⟨_, _, _, q⟩ := hs; q.elim
  | cont => exact let ⟨_, _, _, q⟩ := hs; q.elim
end
section
variable {X : Cx} {k : Nat} {f : Addr} {fd : FuncData} {ps : List Str} {sp : Sp} {E : XK} {x : Str} {e : Expr} {es : List Expr} {t : TA} {p pos : Pos}
theorem pe_callG (F : FnG X.prog X.w X.K X.mg X.base k f fd ps sp) (hr : Room k X.A) (hgd : X.A.guards = some []) (hm : X.mg x = some (.ref f)) (hk : PySem.W.keepIn X.K (.ref f) = true) (hb : L2.Binds X.K fd ps []) (ha : PA X (e :: es) t) (hg : Gl X x := by rfl)
    (hdb : (x == ("__debug__" : Str)) = false := by decide) (he : starEach (e :: es) X.env = (false, eval e X.env) :: starEach es X.env := by rfl) (hpl : (backTo pos (starEach es X.env)).any (·.1) = false := by rfl) :
    PE X (.Call (.Name x p) (e :: es) [] pos) (tCall sp [] E t) := by
  refine ⟨fun pins s σ H Q I h => ?_⟩
  refine wpAny_Call_Name_kw (ld_glob I hg hm (PySem.W.callWith_K (h₀ := X.base) I.ok.mod.kin hk (thn (ha.run pos pins s σ H _ I h) fun us s1 ⟨vs, H1, I1, r, q⟩ => ⟨I1.kIn, ?_⟩) he hpl) hdb)
  have r2 : Vals (vs ++ []) (us ++ []) := r.append .nil
  have hl : (us ++ []).length = ps.length := by rw [← r2.length]; exact F.len _ _ _ _ q
  refine wpAny_call (codeAny_mono (F.run X.A X.stack s1 H1 ⟨us, []⟩ (us ++ []) (vs ++ []) Q E hr hgd I1.env0 (hb s1 us I1.kIn hl) r2 q) fun r' s' hq => ?_)
  cases r' with
  | error er => exact pass0 pins σ H1 s1 er s' I1 hq
  | ok fl =>
    cases fl with
    | ret u => exact I1.after hq
    | _ => exact (show False from hq).elim
end
end WG
set_option Elab.async false
set_option linter.all false
set_option maxRecDepth 100000
set_option maxHeartbeats 6000000
namespace FV
open PySem PySem.Spec PyProof.Rows L2 LamX NdefX
section
variable {P : Program} {w : World} {cs : Cs} {outer : List Env} {s s' : Shared} {H : Hp} {E : XK} {e : Value}
theorem cx_on (nd : (cs.map (·.1)).Nodup) (l : Lay cs H) (ok : HOk P w H s.heap) (frf : ∀ b ∈ frs outer, H b = none)
    (h : L2.CX P w outer (off cs H) s (fun cls d H' => (∀ p ∈ cs, H' p.1 = none) → E cls d (onn cs H')) e s') : L2.CX P w outer H s E e s' := by
  obtain ⟨a, B, H', cls, d, rfl, fl, okB, ub, na, os, bare, q⟩ := h
  have gone : ∀ p ∈ cs, off cs H p.1 = none := fun p hp => off_in (List.mem_map.mpr ⟨p, hp, rfl⟩)
  have apart : ∀ p ∈ cs, p.1 ∉ frs outer := fun p hp z => by
    have y := frf p.1 z
    rw [l p hp] at y
    cases y
  have at_ : ∀ p ∈ cs, B.get? p.1 = some p.2 := fun p hp => ub.keep p.1 p.2 (lay_at ok l p hp) (gone p hp) (apart p hp)
  have n : ∀ p ∈ cs, H' p.1 = none := fun p hp => ub.free p.1 p.2 (lay_at ok l p hp) (gone p hp)
  have nofl : a ∉ cs.map (·.1) := fun z => by
    obtain ⟨p, hp, e⟩ := List.mem_map.mp z
    have y := at_ p hp
    rw [e, fl.2.1] at y
    cases y
  refine ⟨a, B, onn cs H', cls, d, rfl, fl, hok_on okB nd n at_, ⟨fun b o e nb hb => ?_, ub.slot, fun b o e nb => ?_, ub.there, fun b xs e => ?_, fun b o v e => ?_, fun b ps e => ?_⟩, ?_, os, bare, q n⟩
  · exact ub.keep b o e (by rw [off_out (lay_none l nb)]; exact nb) hb
  · rw [onn_out (lay_none l nb)]
    exact ub.free b o e (by rw [off_out (lay_none l nb)]; exact nb)
  · have nb := lay_not l e fun _ z => nomatch z
    rw [onn_out nb]
    exact ub.tups b xs (by rw [off_out nb]; exact e)
  · have nb := lay_not l e fun _ z => nomatch z
    rw [onn_out nb]
    exact ub.frzs b o v (by rw [off_out nb]; exact e)
  · have nb := lay_not l e fun _ z => nomatch z
    obtain ⟨more, y⟩ := ub.tbls b ps (by rw [off_out nb]; exact e)
    exact ⟨more, by rw [onn_out nb]; exact y⟩
  · rw [onn_out nofl]
    exact na
end
/-- the closure cl has the names fr; their cells are among cs, with these values -/
structure Sits (cl : List (Str × Addr)) (fr : List Str) (cs : Cs) (vals : List V) : Prop where
  len : vals.length = fr.length
  at_ : ∀ (i : Nat) (y : Str), fr[i]? = some y → ∃ p ∈ cs, cl.lookup y = some p.1 ∧ ∀ v, vals[i]? = some v → ∃ u, RelV v u ∧ p.2.data = .cell (some u)
  only : ∀ (y : Str) (c : Addr), cl.lookup y = some c → y ∈ fr
  inj : ∀ x y c, cl.lookup x = some c → cl.lookup y = some c → x = y
def Cells (cs : Cs) : Prop := (cs.map (·.1)).Nodup ∧ ∀ p ∈ cs, ∃ u, p.2.data = .cell (some u)
theorem Sits.cells {P : Program} {w : World} {cl : List (Str × Addr)} {fr : List Str} {cs : Cs} {vals : List V} {H : Hp} {h : Heap} (F : Sits cl fr cs vals) (C : Cells cs) (ok : HOk P w H h) (l : Lay cs H) : CellsAt cl fr (vals.map some) h (off cs H) := by
  refine ⟨by rw [List.length_map]; exact F.len, fun y c e => ?_, F.inj, fun i y hy => ?_⟩
  · obtain ⟨i, hi⟩ := List.mem_iff_getElem?.mp (F.only y c e)
    obtain ⟨p, hp, e2, _⟩ := F.at_ i y hi
    rw [e] at e2
    obtain rfl := Option.some.inj e2
    obtain ⟨u, d⟩ := C.2 p hp
    exact ⟨off_in (List.mem_map.mpr ⟨p, hp, rfl⟩), _, p.2, lay_at ok l p hp, d⟩
  · obtain ⟨p, hp, e2, k⟩ := F.at_ i y hy
    refine ⟨p.1, e2, fun v hv => ?_⟩
    rw [List.getElem?_map] at hv
    cases z : vals[i]? with
    | none => rw [z] at hv; cases hv
    | some x =>
      rw [z] at hv
      obtain rfl : x = v := Option.some.inj (Option.some.inj hv)
      obtain ⟨u, r, d⟩ := k x z
      exact ⟨u, r, p.2, lay_at ok l p hp, d⟩
theorem Fits.all {cl : List (Str × Addr)} {fr : List Str} {cs : Cs} {vals : List V} (F : Fits cl fr cs vals) : Cells cs := by
  refine ⟨F.nd, fun p hp => ?_⟩
  obtain ⟨i, hi⟩ := List.mem_iff_getElem?.mp hp
  have hl : i < vals.length := by rw [F.lenV, ← F.len]; exact (List.getElem?_eq_some_iff.mp hi).1
  obtain ⟨u, _, d⟩ := F.val i p vals[i] hi (List.getElem?_eq_getElem hl)
  exact ⟨u, d⟩
section
variable {P : Program} {w : World} {K : PySem.W.Frag} {mg : Str → Option Value} {base : Heap} {F : NF} {b : Expr} {f : Addr} {k : Nat} {fr : List Str} {sp : List (Option V) → Sp} {vals : List V} {cs : Cs}
/-- such a lambda, wherever its cells are told -/
theorem callV_lam (o : LOk P w K mg base (L2.CX P w) k f F b fr sp) (ft : Sits F.cl fr cs vals) (C : Cells cs) :
    CallV P w K mg base (L2.CX P w) k f (fun H => H f = some (LamO f F b) ∧ H F.c = some (CodeO F.c F.qual) ∧ Lay cs H) (fun vs H Q E => sp (vals.map some) vs (off cs H) (fun v H' => (∀ p ∈ cs, H' p.1 = none) → Q v (onn cs H')) (fun cls d H' => (∀ p ∈ cs, H' p.1 = none) → E cls d (onn cs H'))) := by
  refine ⟨fun ok g => let ⟨_, _, e⟩ := (ok f _ g.1).1; ⟨_, _, _, _, e⟩, fun A outer s H us vs Q E hr e0 ⟨g1, g2, l⟩ r q => ?_⟩
  have n1 : f ∉ cs.map (·.1) := fun z => by
    obtain ⟨p, hp, e⟩ := List.mem_map.mp z
    obtain ⟨pm, ctv, ho⟩ := (e0.hok f _ g1).1
    obtain ⟨u, d⟩ := C.2 p hp
    have := lay_at e0.hok l p hp
    rw [e, ho] at this
    rw [← Option.some.inj this] at d
    cases d
  have n2 : F.c ∉ cs.map (·.1) := fun z => by
    obtain ⟨p, hp, e⟩ := List.mem_map.mp z
    obtain ⟨oc, vs2, t, h1, h2, _⟩ := (e0.hok F.c _ g2).1
    obtain ⟨u, d⟩ := C.2 p hp
    have := lay_at e0.hok l p hp
    rw [e, h1] at this
    rw [← Option.some.inj this, h2] at d
    cases d
  refine codeAny_mono (o.run A outer s (off cs H) us vs _ _ _ hr (env0_off e0 l) (by rw [off_out n1]; exact g1) (by rw [off_out n2]; exact g2) (ft.cells C e0.hok l) r q) fun r s' h => ?_
  cases r with
  | error e => exact cx_on C.1 l e0.hok e0.frf h
  | ok fl =>
    cases fl with
    | ret u => exact ce_on e0 C.1 l h
    | next => exact False.elim h
    | brk => exact False.elim h
    | cont => exact False.elim h
end
section
variable {P : Program} {w : World} {K : PySem.W.Frag} {mg : Str → Option Value} {base : Heap} {k : Nat} {f : Addr} {N ps fr : List Str} {js : List Nat} {sp : Sp}
/-- as okG, its code object known -/
theorem okGx {x qual : Str} {st : Stmt} {oc kV doc pm cdv ct : Value} {an od : Option Addr} {osl : Array (Option Value)} (lk : K.lookup f = some ⟨oc, od, .func (PySem.W.fnOf x qual (defArgs st) (defBody st) (defScope st) .none kV doc pm an cdv ct), osl⟩) (hcd : PySem.W.codeIn K cdv qual = true)
    (S : FnScope N ps (defScope st)) (len : ∀ vs H Q E, sp vs H Q E → vs.length = ps.length)
    (hbody : ∀ (A : Around) (outer : List Env) (s : Shared) (H : Hp) (vs : List V) (Q : VK) (E : XK), Room k (A.deeper (envOfC qual (defScope st) s.heap.objs.size f cdv)) → A.guards = some [] → sp vs H Q E →
      ∃ t, PSs (cxOf CX0 P w K mg base N qual (defScope st) f cdv A outer s H E).nox (defBody st) t ∧ t { nx := fun _ H' => Q .non H', rt := Q } (start N vs) H) : WG.FnG P w K mg base (k + 1) f (PySem.W.fnOf x qual (defArgs st) (defBody st) (defScope st) .none kV doc pm an cdv ct) ps sp := by
  refine ⟨len, fun A outer s H args us vs Q E hr hg e0 hb r hsp => ?_⟩
  have hl := len _ _ _ _ hsp
  have stays : ∀ b o, base.get? b = some o → s.heap.get? b = some o := fun b o e => (e0.bs b o e).1
  have KX : K.In s.heap := e0.mod.kin.keeps stays
  have kinds : ∀ y ∈ ps.zip us, (defScope st).names.lookup y.1 = some .local ∨ ((defScope st).names.lookup y.1 = some .cell ∧ ((cellsFrom (s.heap.objs.size + 1) (defScope st).names []).lookup y.1).isSome = true) := fun y hy => by
    rcases S.par y.1 (List.of_mem_zip (show (y.1, y.2) ∈ ps.zip us from hy)).1 with q | q
    · exact Or.inl q
    · exact Or.inr (And.intro q (PySem.W.cellsFrom_some _ _ _ (.inl q)))
  refine codeAny_call_function hr.depth (KX _ _ lk) rfl S.co S.gen rfl (PySem.W.codeRec_of KX hcd) (hb _ _ _ _ (wpAny_newFunctionEnv_cells S.kind kinds fun env he s1 x => ?_))
  subst he
  refine ⟨(e0.mod.nolimit.keeps stays).keeps x.toInCall.keep, codeAny_func ?_⟩
  obtain ⟨t, ht, hq⟩ := hbody A outer s H vs Q E (hr.deeper _) hg hsp
  have I := inv_start (CX := CX0) S hr.hd e0 hl (E := E) r x
  refine wpAny_mono (ht.nox.run [] s1 (start N vs) H _ I hq) (fun fl s' hs => ?_) fun e s' hs => hs
  cases fl with
  | next => exact let ⟨_, H', J, q⟩ := hs; ⟨.non, H', J.os, J.bare, J.base, J.hok, rfl, q⟩
  | ret u => exact let ⟨v, _, H', J, rv, q⟩ := hs; ⟨v, H', J.os, J.bare, J.base, J.hok, rv, q⟩
  | brk => exact let ⟨_, _, _, q⟩ := hs; q.elim
  | cont => exact let ⟨_, _, _, q⟩ := hs; q.elim
end
section
variable {X : Cx} {k : Nat} {f : Addr} {fd : FuncData} {ps : List Str} {sp : Sp} {x : Str} {p pos : Pos} {e : Expr} {es : List Expr} {t : TA} {cl : List (Str × Addr)} {fr : List Str} {js : List Nat}
theorem pe_callCG (F : WG.FnG X.prog X.w X.K X.mg X.base k f fd ps sp) (hr : Room k X.A) (hgd : X.A.guards = some []) (hg : Gl X x) (hm : X.mg x = some (.ref f)) (hk : PySem.W.keepIn X.K (.ref f) = true) (hb : Binds X.K fd ps [])
    (cp : X.Ok → Caps X cl fr js) (only : ∀ (y : Str) (c : Addr), cl.lookup y = some c → y ∈ fr) (nd : fr.Nodup) (own : ∀ y ∈ fr, X.fn y = true) (ha : PA X (e :: es) t) (hdb : (x == ("__debug__" : Str)) = false := by decide)
    (he : starEach (e :: es) X.env = (false, eval e X.env) :: starEach es X.env := by rfl) (hpl : (backTo pos (starEach es X.env)).any (·.1) = false := by rfl) : PE X (.Call (.Name x p) (e :: es) [] pos) (tCallC cl fr js sp t) := by
  refine ⟨fun pins s σ H Q I h => wpAny_Call_Name_kw (ld_glob I hg hm (PySem.W.callWith_K (h₀ := X.base) I.ok.mod.kin hk (thn (ha.run pos pins s σ H _ I h) fun us s1 ⟨vs, H1, I1, r, vals, hv, q⟩ => ⟨I1.kIn, ?_⟩) he hpl) hdb)⟩
  obtain ⟨cs, ft, hcs⟩ := fits_of I1 (cp I1.ok) only nd hv
  have none_ : ∀ p ∈ cs, H1 p.1 = none := fun p hp => (hcs p hp).1
  have at_ : ∀ p ∈ cs, s1.heap.get? p.1 = some p.2 := fun p hp => (hcs p hp).2.1
  have e0 := env0_on I1 ft.nd none_ at_ fun p hp => let ⟨y, hy, e⟩ := (hcs p hp).2.2; ⟨I1.ok.cab y p.1 (own y hy) e, I1.cne y p.1 e⟩
  have q := q cs ft none_
  have hl : us.length = ps.length := by rw [← r.length]; exact F.len _ _ _ _ q
  have hb2 := hb s1 us I1.kIn (by rw [List.append_nil]; exact hl)
  rw [List.append_nil] at hb2
  refine wpAny_call (codeAny_mono (F.run X.A X.stack s1 (onn cs H1) ⟨us, []⟩ us vs _ E0 hr hgd e0 hb2 r q) fun r s' h => ?_)
  exact match r, h with
    | .error _, h => (show False from h).elim
    | .ok (.ret _), h => I1.after (let ⟨v, H', os, bare, un, ok, rv, l, qv⟩ := h; ⟨v, off cs H', os, bare, un_off un ft.nd none_ at_ ok l, hok_off ok l, rv, qv⟩)
    | .ok .next, h => h.elim
    | .ok .brk, h => h.elim
    | .ok .cont, h => h.elim
end
end FV
set_option Elab.async false
set_option linter.all false
set_option maxRecDepth 100000
set_option maxHeartbeats 4000000
namespace WE
open PySem L2 PyProof.Rows PySem.W
/-- what the written part says of a class of errors at C -/
def errB (K : Frag) (C : Addr) : Bool :=
  (clsIn K C).isSome && (findIn K (.ref C) "__getattribute__" == some (some (.builtin "BaseException.__getattribute__"))) && (findIn K (.ref C) "__getattr__" == some none)
    && (subIn K (.ref C) (.type "BaseException") == some true) && hasDictIn K C && (findIn K (.ref C) "__class__" == some (some (.builtin "object.__class__")))
    && (mroIn K C (.type "object") == some true) && keepIn K (.ref C) && (specialIn K (.builtin "object.__class__") "__get__" == some (some (.builtin "getset_descriptor.__get__")))
    && (takesIn K (.builtin "object.__class__") == some true)
structure ErrT (K : Frag) (C : Addr) : Prop where
  cl : (clsIn K C).isSome = true
  ga : findIn K (.ref C) "__getattribute__" = some (some (.builtin "BaseException.__getattribute__"))
  gg : findIn K (.ref C) "__getattr__" = some none
  sb : subIn K (.ref C) (.type "BaseException") = some true
  hd : hasDictIn K C = true
  ca : findIn K (.ref C) "__class__" = some (some (.builtin "object.__class__"))
  ob : mroIn K C (.type "object") = some true
  kp : keepIn K (.ref C) = true
  gs : specialIn K (.builtin "object.__class__") "__get__" = some (some (.builtin "getset_descriptor.__get__"))
  tk : takesIn K (.builtin "object.__class__") = some true
theorem ErrT.of {K : Frag} {C : Addr} (h : errB K C = true) : ErrT K C := by
  unfold errB at h
  simp only [Bool.and_eq_true, beq_iff_eq] at h
  obtain ⟨⟨⟨⟨⟨⟨⟨⟨⟨h1, h2⟩, h3⟩, h4⟩, h5⟩, h6⟩, h7⟩, h8⟩, h9⟩, h10⟩ := h
  exact ⟨h1, h2, h3, h4, h5, h6, h7, h8, h9, h10⟩
/-- with an __init__ of its own at f, over the built-in class with the chain bm, that stores the field nm -/
def errI (K : Frag) (C f : Addr) (bm : List Value) (newId : String) (nm : Str) : Bool :=
  excInitIn K C bm newId && excOver K C bm && (findIn K (.ref C) "__setattr__" == some (some (.builtin "object.__setattr__"))) && (findIn K (.ref C) "__init__" == some (some (.ref f)))
    && (typeIn K (.ref f) == some (.type "function")) && (takerIn K C nm == some none) && (findIn K (.ref C) nm == some none)
structure ErrI (K : Frag) (C f : Addr) (bm : List Value) (newId : String) (nm : Str) : Prop where
  im : excInitIn K C bm newId = true
  ov : excOver K C bm = true
  sa : findIn K (.ref C) "__setattr__" = some (some (.builtin "object.__setattr__"))
  fi : findIn K (.ref C) "__init__" = some (some (.ref f))
  tf : typeIn K (.ref f) = some (.type "function")
  tn : takerIn K C nm = some none
  no : findIn K (.ref C) nm = some none
theorem ErrI.of {K : Frag} {C f : Addr} {bm : List Value} {newId : String} {nm : Str} (h : errI K C f bm newId nm = true) : ErrI K C f bm newId nm := by
  unfold errI at h
  simp only [Bool.and_eq_true, beq_iff_eq] at h
  exact let ⟨⟨⟨⟨⟨⟨im, ov⟩, sa⟩, fi⟩, tf⟩, tn⟩, no⟩ := h; ⟨im, ov, sa, fi, tf, tn, no⟩
/-- an error of the class at C stands at a, with its dict or without one -/
def ErrAt (H : Hp) (a C : Addr) : Prop := ∃ d, H a = some (exo a C d) ∧ (d = none ∨ ∃ dx fs, d = some dx ∧ H dx = some (exd dx fs))
theorem ErrAt.same {H H' : Hp} {a C : Addr} (s : Same H H') (e : ErrAt H a C) : ErrAt H' a C := by
  obtain ⟨d, ha, hd⟩ := e
  refine ⟨d, s _ _ ha, ?_⟩
  rcases hd with h | ⟨dx, fs, h, hx⟩
  · exact .inl h
  · exact .inr ⟨dx, fs, h, s _ _ hx⟩
/-- how an instance of a class over such a chain is made, its own __init__ run -/
def MakesBy (bmB : List Value) (newId : String) : Prop := ∀ {prog : Program} {w : World} {A : Around} {R : Result → Shared → Prop} {h : Heap} {g : Array GenState} {d : Drawn} {t : Nat} {os : OsState} {nm q : Str} {C N : Addr} {bs bm : List Value} {hdct : Bool} {sn : List Str} {sub : List Value}
    {ab : Bool} {col : Option Bool} {dd : Option Addr} {k0 k1 k2 k3 k5 : Option Value} {rest : List Value} {fI : Addr}, (∀ X : String, bm.contains (.type X) = bmB.contains (.type X)) →
    h.get? C = some (excClassObj nm q C N bs bm hdct sn sub ab col dd k0 k1 k2 k3 k5 newId) → Looks (model prog w) h (typeLookup (.ref C) "__init__") (some (.ref fI)) → (∀ self, Looks (model prog w) h (bindSpecial (.ref fI) self) (.ref fI, [self])) → rest.length ≤ sizeLine →
    codeAny (model prog w) (A.under (.builtin "type.__call__" ⟨.ref C :: rest, []⟩)) (.call (.ref fI) ⟨.ref (h.objs.size + 1) :: rest, []⟩) (InitBack (h.objs.size + 1) R) ⟨(h.push (kdv_tup rest)).push (HandSPX.excO C h.objs.size), g, d, t, os⟩ →
    codeAny (model prog w) A (.call (.ref C) ⟨rest, []⟩) R ⟨h, g, d, t, os⟩
theorem MakesBy.of {bmB : List Value} {B newId initId : String} (F : ExcBaseFacts B newId initId bmB) : MakesBy bmB newId := fun hT hC hi hb hz hq => HandSPX.call_own F hT hC hi hb hz hq
section
variable {prog : Program} {w : World} {A : Around} {R : Result → Shared → Prop} {hp : Heap} {g : Array GenState} {d : Drawn} {t : Nat} {os : OsState}
theorem osa_err {K : Frag} {name : Str} {tk : Tok} {v : Value} {x C : Addr} {fv : Array Value} {bmB : List Value} {B : String} (SF : StoreFacts B bmB "object.__setattr__" "object")
    (X : K.In hp) (hx : hp.get? x = some { cls := .ref C, data := .fields fv }) (ov : excOver K C bmB = true) (tn : takerIn K C name = some none) (hdc : hasDictIn K C = true)
    (done : ∀ k u dx, (∀ b q, b ≠ x → hp.get? b = some q → k.get? b = some q) → hp.objs.size ≤ dx → dx ≠ x → k.get? x = some { cls := .ref C, dict := some dx, data := .fields fv } → k.Ns1 dx (fun y => if y = name then some v else none) →
      R (.ok (.ret .none)) ⟨k, g, d, u, os⟩) : codeAny (model prog w) A (.call (.builtin "object.__setattr__") ⟨[.ref x, .str name tk, v], []⟩) R ⟨hp, g, d, t, os⟩ := by
  have I : InstAt hp x { cls := .ref C, data := .fields fv } C none := ⟨hx, rfl, rfl, trivial⟩
  refine osa_openX (s := ⟨hp, g, d, t, os⟩) SF X I ov tn fun b => ?_
  obtain ⟨cd, hcd, dictful⟩ := any_some hdc
  have isCls : Looks (model prog w) hp (classData C) cd := looks_clsIn X hcd
  have old : x ≠ hp.objs.size := Nat.ne_of_lt (Heap.lt_size hx)
  show wpAny _ _ (Builtin.ObjectAttr.storeInOwnDict (.ref x) (.ref C) (.str name tk) name v b) _ _ _
  rcases cd with ⟨_, _, _, _, _, hd, _, _, _, _, _⟩
  cases (dictful : hd = true)
  unfold Builtin.ObjectAttr.storeInOwnDict; unfold Builtin.ObjectAttr.ownDictForStores
  repeat first | with_reducible refine HandSPX.store_in_new ?_ ?_ | with_reducible refine isCls.at ?_ | with_reducible refine wpAny_loadPart_at hx ?_ | wp_step
  · exact ⟨_, #[], _, (Heap.get?_update_ne _ _ _ _ old.symm).trans (Heap.get?_push_at rfl rfl), rfl, (fun e at_e => (show False by simp at at_e).elim), fun _ => rfl⟩
  · intro k u ns same
    have there : (hp.push { cls := .type "dict", data := .dict #[] }).get? x = some { cls := .ref C, data := .fields fv } := Heap.get?_push_of_some _ hx
    refine done k u hp.objs.size (fun c q nx at_c => (same.2 c (Nat.ne_of_lt (Heap.lt_size at_c))).trans ?_) (Nat.le_refl _) old.symm ((same.2 x old).trans (Heap.get?_update_self _ there rfl)) ns
    exact (Heap.get?_update_ne _ _ _ _ nx).trans (Heap.get?_push_of_some _ at_c)
end
section
variable {X : Cx}
/-- self.nm = e on such an error -/
theorem set_err {pins : List (Addr × Obj)} {σ : L2.St} {H : Hp} {s : Shared} {a C fI : Addr} {nm : Str} {y : V} {u : Value} {bmB : List Value} {B newId : String} {Q : Unit → Shared → Prop} {E : Value → Shared → Prop} {A : Around}
    (SF : StoreFacts B bmB "object.__setattr__" "object") (T : ErrT X.K C) (TI : ErrI X.K C fI bmB newId nm) (I : L2.Inv X pins σ H s) (e : H a = some (exo a C none)) (ry : RelV y u)
    (h : ∀ dx s', H dx = none → dx ≠ a → L2.Inv X pins σ (upd (upd H dx (exd dx [(nm, y)])) a (exo a C (some dx))) s' → Q () s') : wpAny (model X.prog X.w) A (setAttr (.ref a) nm u) Q E s := by
  have ⟨t1, ho⟩ := exo_at I.hok e
  obtain ⟨hp, g, d, t, os⟩ := s
  refine set_plain I.kIn (od := none) ⟨ho, rfl, rfl, trivial⟩ TI.sa ?_
  refine osa_err SF I.kIn ho TI.ov TI.tn T.hd fun h' tk' dx k dxNew dne hx hn => ?_
  have dxFree : H dx = none := I.hok.fresh dxNew
  have offDx : ∀ {b : Addr} {o : Obj}, hp.get? b = some o → b ≠ dx := fun {b o} q => Nat.ne_of_lt (Nat.lt_of_lt_of_le (Heap.lt_size q) dxNew)
  have offA : ∀ {b : Addr}, H b = none → b ≠ a := fun {b} n z => nomatch (z ▸ n).symm.trans e
  have un : Un X.fs [] H (upd (upd H dx (exd dx [(nm, y)])) a (exo a C (some dx))) hp h' :=
    ⟨fun b o q n _ _ => k b o (offA n) q, fun b o q n _ _ => ⟨o.slots, k b o (offA n) q⟩, fun b o q n _ => by rw [upd_ne (offA n), upd_ne (offDx q)]; exact n,
      fun b o q _ => if hb : b = a then ⟨_, hb ▸ hx⟩ else ⟨o, k b o hb q⟩,
      fun b xs q => by rw [upd_ne (at_ne e q exo_tup), upd_ne (ne_of_none q dxFree)]; exact q, fun b o v q => by rw [upd_ne (at_ne e q exo_frz), upd_ne (ne_of_none q dxFree)]; exact q,
      fun b ps q => ⟨#[], by rw [upd_ne (at_ne e q exo_tbl), upd_ne (ne_of_none q dxFree), q]; simp⟩⟩
  refine h dx _ dxFree dne (I.un (t' := tk') un fun b o q => ?_)
  by_cases hb : b = a
  · subst hb
    rw [upd_same] at q
    cases q
    exact exo_ok hx
  · rw [upd_ne hb] at q
    by_cases hd : b = dx
    · subst hd
      rw [upd_same] at q
      cases q
      exact exd_ok hn (relO_put (fs := []) ry fun _ => trivial)
    · rw [upd_ne hd] at q
      refine (I.hok b o q).stay (fun c v hc z => k c v ?_ z) (fun c hc => by rw [upd_ne (at_ne e hc exo_own), upd_ne (ne_of_none hc dxFree)]; exact hc) fun c xs hc => by rw [upd_ne (at_ne e hc exo_tup), upd_ne (ne_of_none hc dxFree)]; exact hc
      rcases hc with hc | hc
      · rw [hc]
        exact hb
      · exact at_ne e hc exo_own
def tSetE (nm : Str) (C : Addr) (to te : TE) : TS := fun D σ H => te σ H fun y H1 => to σ H1 fun x H2 => ∃ a : Addr, x = .ref a ∧ H2 a = some (exo a C none) ∧
  ∀ dx, H2 dx = none → dx ≠ a → D.nx σ (upd (upd H2 dx (exd dx [(nm, y)])) a (exo a C (some dx)))
theorem ps_setE {C fI : Addr} {nm : Str} {bmB : List Value} {B newId : String} {o e : Expr} {to te : TE} {p' pos : Pos} (SF : StoreFacts B bmB "object.__setattr__" "object") (T : ErrT X.K C) (TI : ErrI X.K C fI bmB newId nm) (ho : PE X o to) (he : PE X e te)
    (hs : swapsWith e (some (.Attribute o nm p')) pos.line X.env = pure false := by rfl) : PS X (.Assign [.Attribute o nm p'] e pos) (tSetE nm C to te) := by
  refine ⟨fun pins s σ H D I h => ?_⟩
  refine plainObj_wpAny_Assign_Attribute (thn (he.run pins s σ H _ I h) fun v s1 ⟨y, H1, I1, r1, q1⟩ => thn (ho.run pins s1 σ H1 _ I1 q1) fun u s2 ⟨x, H2, I2, r2, a, ex, ea, q⟩ => ?_) hs
  subst ex
  cases (r2 : u = Value.ref a)
  exact set_err SF T TI I2 ea r1 fun dx s' n ne J => ⟨σ, _, J, q dx n ne⟩
/-- what such an __init__ promises -/
def spErrI (C : Addr) (nm : Str) : Sp := fun vs H Q _ => ∃ (a : Addr) (v : V), vs = [.ref a, v] ∧ H a = some (exo a C none) ∧ ∀ d, H d = none → d ≠ a → Q .non (upd (upd H d (exd d [(nm, v)])) a (exo a C (some d)))
end
end WE
set_option Elab.async false
set_option linter.all false
set_option maxRecDepth 100000
set_option maxHeartbeats 4000000
namespace WE
open PySem L2 PyProof.Rows PySem.W
section
variable {X : Cx}
/-- its dict d stays where it was made -/
def tMkI (C : Addr) (nm : Str) (ta : TA) : L2.St → Hp → XK → Prop := fun σ H Q => ta σ H fun vs H1 => ∃ v, vs = [v] ∧ ∀ d H2, H1 d = none → (∀ b o, H1 b = some o → H2 b = some o) → H2 d = some (.xd [(nm, v)]) → Q (.ref C) (some d) H2
theorem pmk_errI {C fI : Addr} {nm : Str} {bmB : List Value} {newId : String} {x : Str} {k : Nat} {fd : FuncData} {ps : List Str} {e : Expr} {ta : TA} {p pos : Pos} (MB : MakesBy bmB newId) (T : ErrT X.K C) (TI : ErrI X.K C fI bmB newId nm) (R : Raises X (.ref C))
    (G : FnOk X.prog X.w X.K X.mg X.base CX0 k fI fd ps (spErrI C nm)) (hr : Room (k + 1) X.A) (b : L2.Binds X.K fd ps []) (gC : X.mg x = some (.ref C)) (ha : PA X [e] ta) (hg : Gl X x := by rfl)
    (hs : starEach [e] X.env = (false, eval e X.env) :: starEach [] X.env := by rfl) (hpl : (backTo pos (starEach [] X.env)).any (·.1) = false := by rfl) (hdb : (x == ("__debug__" : Str)) = false := by decide) : PMk X (.Call (.Name x p) [e] [] pos) (tMkI C nm ta) := by
  intro pins s σ H Q I h
  refine wpAny_Call_Name_kw (ld_glob I hg gC (callWith_K (h₀ := X.base) I.ok.mod.kin T.kp (thn (ha.run pos pins s σ H _ I h) fun us s1 ⟨vs, H1, I1, r1, v, ev, q1⟩ => ⟨I1.kIn, ?_⟩) hs hpl) hdb)
  subst ev
  obtain ⟨nm0, N, qn, bs, bm, hdct, sn, sub, ab, col, dd, k0, k1, k2, k3, k5, hC, hT⟩ := excInit_of I1.kIn TI.im
  rw [List.nil_append]
  obtain ⟨hp, g, dr, tk, os⟩ := s1
  have hn : H1 (hp.objs.size + 1) = none := I1.hok.fresh (Nat.le_succ _)
  have kk : ∀ c o, hp.get? c = some o → ((hp.push (kdv_tup us)).push (HandSPX.excO C hp.objs.size)).get? c = some o := fun c o z => Heap.get?_push_of_some _ (Heap.get?_push_of_some _ z)
  have hget : ((hp.push (kdv_tup us)).push (HandSPX.excO C hp.objs.size)).get? (hp.objs.size + 1) = some (HandSPX.excO C hp.objs.size) := by heap_get
  have I2 : L2.Inv X pins σ (upd H1 (hp.objs.size + 1) (exo (hp.objs.size + 1) C none)) ⟨(hp.push (kdv_tup us)).push (HandSPX.excO C hp.objs.size), g, dr, tk, os⟩ :=
    I1.laid (t' := tk) (a := hp.objs.size + 1) (o := exo (hp.objs.size + 1) C none) (h' := (hp.push (kdv_tup us)).push (HandSPX.excO C hp.objs.size)) kk (Nat.le_succ _) (exo_ok hget)
  have r2 : Vals [V.ref (hp.objs.size + 1), v] (Value.ref (hp.objs.size + 1) :: us) := .cons rfl r1
  have want : spErrI C nm [V.ref (hp.objs.size + 1), v] (upd H1 (hp.objs.size + 1) (exo (hp.objs.size + 1) C none)) (fun z H2 => z = .non ∧ ∃ d, H1 d = none ∧ d ≠ hp.objs.size + 1 ∧ H2 = upd (upd (upd H1 (hp.objs.size + 1) (exo (hp.objs.size + 1) C none)) d (exd d [(nm, v)])) (hp.objs.size + 1) (exo (hp.objs.size + 1) C (some d))) (fun _ _ _ => False) := by
    refine ⟨_, _, rfl, upd_same, fun d hd hne => ⟨rfl, d, ?_, hne, rfl⟩⟩
    rw [upd_ne hne] at hd
    exact hd
  have hl : (Value.ref (hp.objs.size + 1) :: us).length = ps.length := by
    rw [← r2.length]
    exact G.len _ _ _ _ want
  have hus : us.length ≤ sizeLine := (Paired.length r1) ▸ (by rw [sizeLine_eq]; exact (by decide : 1 ≤ 16777216))
  refine wpAny_call (MB hT hC (looks_findIn I1.kIn TI.fi) (fun self => bind_fn I1.kIn self TI.tf) hus
    (codeAny_mono (G.run _ X.stack _ _ ⟨Value.ref (hp.objs.size + 1) :: us, []⟩ (Value.ref (hp.objs.size + 1) :: us) _ _ _ (hr.make C us []) (I2.env0.make C us []) (by have z := b _ (Value.ref (hp.objs.size + 1) :: us) I2.kIn (by simpa using hl); simpa using z) r2 want) fun r s' hq' => ?_))
  cases r with
  | error er => exact pass0 pins σ _ _ er s' I2 hq'
  | ok fl =>
    cases fl with
    | ret u =>
      obtain ⟨z, H2, e1, e2, e3, e4, rv, ez, d, d1, d2, eH⟩ := hq'
      subst ez
      subst eH
      have na : hp.objs.size + 1 ≠ d := fun z => d2 z.symm
      refine ⟨rv, mk_end (d := d) (fs := [(nm, v)]) R I1 (Nat.le_succ _) kk e3 e4 e1 e2 upd_same ?_ d1 (q1 d _ d1 (fun b o z => ?_) upd_same)⟩
      · rw [upd_ne d2, upd_same]
      · have nb : b ≠ d := ne_of_none z d1
        have nb2 : b ≠ hp.objs.size + 1 := ne_of_none z hn
        rw [upd_ne nb, del_ne nb2, upd_ne nb2, upd_ne nb, upd_ne nb2]
        exact z
    | _ => exact (show False from hq').elim
end
end WE
set_option Elab.async false
set_option linter.all false
set_option maxRecDepth 100000
set_option maxHeartbeats 6000000
namespace TRY
open PySem PySem.Spec PyProof.Rows L2
/-- an exception of class cls is caught in the frame of X: the state behind is J's, the flight stands at a -/
structure Caught (X : Cx) (pins : List (Addr × Obj)) (B : Heap) (a : Addr) (cls : Value) (d : Option Addr) (σ : L2.St) (H : Hp) (sI s : Shared) (h3 : Heap) : Prop where
  inv : Inv X pins σ H sI
  nb : ∀ b o, sI.heap.get? b = some o → b ∉ frs X.stack → B.get? b = some o
  fl : HandSPX.FlyingZ B (X.env :: X.outer) a (Zc cls d) h3
  up : sI.heap.UpToSlots h3
  na : H a = none
  os : s.os = sI.os
  bare : AllBare s.gens
/-- the clauses do what W wishes -/
def Does (X : Cx) (hds : List ExceptHandler) (W : Ends → WX) : Prop := ∀ (pins : List (Addr × Obj)) (D : Ends) (B : Heap) (a : Addr) (cls : Value) (d : Option Addr) (σ : L2.St) (H : Hp) (sI s : Shared) (h3 : Heap),
  Caught X pins B a cls d σ H sI s h3 → W D cls d σ H → wpAny (model X.prog X.w) X.A (handleBy (.ref a) X.env hds) (SP X pins D) X.xe { s with heap := h3 }
/-- none of them is ever asked -/
theorem does_stop {X : Cx} {hds : List ExceptHandler} : Does X hds (fun _ _ _ _ _ => False) := fun _ _ _ _ _ _ _ _ _ _ _ _ w => w.elim
/-- a clause's wish, and that of those behind it -/
def wCl (K : PySem.W.Frag) (c : Value) (ts : Addr → Value → Option Addr → TS) (W : Ends → WX) : Ends → WX := fun D cls d σ H =>
  ∃ b, PySem.W.exmOne K cls c = some b ∧ (b = true → ∀ a, H a = none → ts a cls d D σ H) ∧ (b = false → W D cls d σ H)
section
variable {X : Cx} {pins : List (Addr × Obj)} {B : Heap} {a : Addr} {cls : Value} {d : Option Addr} {σ : L2.St} {H : Hp} {sI s : Shared} {h3 : Heap}
theorem Caught.apart (k : Caught X pins B a cls d σ H sI s h3) (hs : X.stack = X.env :: X.outer) (hf : X.env.frame = some X.env.locals) : a ≠ X.env.locals ∧ a ∉ X.fs := by
  obtain ⟨oe, vs, e1, _, e2⟩ := k.fl.there
  have out : a ∉ frs (X.env :: X.outer) := fun m => by
    obtain ⟨_, o, e, n⟩ := k.fl.2.2.1.mem m
    obtain rfl : oe = o := Option.some.inj (e1.symm.trans e)
    exact n _ e2
  refine ⟨fun z => out (List.mem_filterMap.mpr ⟨X.env, .head _, by rw [hf, z]⟩), fun m => ?_⟩
  obtain ⟨e, m1, m2⟩ := List.mem_filterMap.mp m
  exact out (List.mem_filterMap.mpr ⟨e, .tail _ m1, m2⟩)
theorem Caught.here (k : Caught X pins B a cls d σ H sI s h3) : Inv X pins σ H { s with heap := h3 } := k.inv.landed k.nb k.fl.1 k.up k.os k.bare
theorem Caught.in (k : Caught X pins B a cls d σ H sI s h3) (hs : X.stack = X.env :: X.outer) (hf : X.env.frame = some X.env.locals) : ∃ oe, Zc cls d oe ∧ (∃ vs, oe.data = .fields vs) ∧ h3.get? a = some oe ∧ Inv (X.suite a ((a, oe) :: (X.pn ++ pins))) [] σ H { s with heap := h3 } := by
  obtain ⟨oe, vs, e1, z, e2⟩ := k.fl.there
  obtain ⟨n1, n2⟩ := k.apart hs hf
  exact ⟨oe, z, ⟨vs, e2⟩, e1, k.here.suite e1 e2 k.na n1 n2⟩
/-- landed once more -/
theorem Caught.again (k : Caught X pins B a cls d σ H sI s h3) {h4 : Heap} (fl : HandSPX.FlyingZ B (X.env :: X.outer) a (Zc cls d) h4) (up : h3.UpToSlots h4) : Caught X pins B a cls d σ H sI s h4 := ⟨k.inv, k.nb, fl, k.up.trans up, k.na, k.os, k.bare⟩
/-- the clause's test -/
theorem Caught.test (k : Caught X pins B a cls d σ H sI s h3) (hs : X.stack = X.env :: X.outer) (hf : X.env.frame = some X.env.locals) {x : Str} {c : Value} {np : Pos} (hc : Names X x c) {b : Bool} (hb : PySem.W.exmOne X.K cls c = some b) {Q : Bool → Shared → Prop} {E : Value → Shared → Prop} {A2 : Around}
    (q : Q b { s with heap := h3 }) : wpAny (model X.prog X.w) (X.A.mark (some (.ref a))) (eval (.Name x np) X.env) (fun v s' => wpAny (model X.prog X.w) A2 (excMatches (.ref a) v) Q E s') E { s with heap := h3 } := by
  obtain ⟨oe, z, ⟨vs, e2⟩, e1, S⟩ := k.in hs hf
  have ty : PySem.W.Looks (model X.prog X.w) h3 (typeOf (.ref a)) cls := fun A Q E s kp q => wpAny_typeOf_ref (kp _ _ e1) (by rw [z.1]; exact q)
  have mt := (PySem.W.exm_one (M := model X.prog X.w) k.here.kIn ty hb)
  obtain ⟨hg, hd, hm | ⟨hm, hv, hn⟩⟩ := hc
  · exact ld_glob (X := X.suite a ((a, oe) :: (X.pn ++ pins))) S hg hm (mt.here q) hd
  · exact ld_blt (X := X.suite a ((a, oe) :: (X.pn ++ pins))) S hg hm hv (mt.here q) hn hd
end
section
variable {X : Cx} {x n : Str} {c : Value} {i : Nat} {suite : List Stmt} {b₀ : Stmt} {np pos' : Pos} {rest : List ExceptHandler} {ts : Addr → Value → Option Addr → TS} {W : Ends → WX}
/-- what a suite's end gives, in the frame -/
theorem suite_end {a : Addr} {q : Addr × Obj} {pins pn' : List (Addr × Obj)} {D : Ends} {f : Flow} {s : Shared} (ok : X.Ok) (h : SP (X.suite a (q :: (X.pn ++ pins))) pn' D f s) : SP X pins D f s := by
  cases f with
  | ret u => exact let ⟨v, σ', H', S, r, z⟩ := h; ⟨v, σ', H', S.unsuite ok, r, z⟩
  | next => exact let ⟨σ', H', S, z⟩ := h; ⟨σ', H', S.unsuite ok, z⟩
  | brk => exact let ⟨σ', H', S, z⟩ := h; ⟨σ', H', S.unsuite ok, z⟩
  | cont => exact let ⟨σ', H', S, z⟩ := h; ⟨σ', H', S.unsuite ok, z⟩
/-- except x: suite -/
theorem does_cons (hs : X.stack = X.env :: X.outer) (hf : X.env.frame = some X.env.locals) (hc : Names X x c)
    (hsu : ∀ (a : Addr) (oe : Obj) (cls : Value) (d : Option Addr) (pn : List (Addr × Obj)), Zc cls d oe → (∃ vs, oe.data = .fields vs) → PSs (X.suite a ((a, oe) :: pn)) (b₀ :: suite) (ts a cls d)) (r : Does X rest W) :
    Does X (.ExceptHandler (some (.Name x np)) none (b₀ :: suite) pos' :: rest) (wCl X.K c ts W) := by
  intro pins D B a cls d σ H sI s h3 k ⟨b, hb, yes, no⟩
  refine wpAny_handleBy_cons (codeAny_handlers_test (k.test hs hf hc hb ?_)) (fun z => by cases z)
  cases b with
  | false => exact r pins D B a cls d σ H sI s h3 k (no rfl)
  | true =>
    refine codeAny_handlers_suite (HandSPX.lands_againZ k.fl fun h4 fl4 up4 => ?_)
    obtain ⟨oe, z, hv, _, S⟩ := (k.again fl4 up4).in hs hf
    exact wpAny_mono ((hsu a oe cls d (X.pn ++ pins) z hv).run [] _ _ H D S (yes rfl a k.na)) (fun f s6 q => suite_end k.inv.ok q) fun _ _ z => z.elim
/-- a clause with a name: the name holds the exception within, and nothing behind -/
def wClAs (K : PySem.W.Frag) (c : Value) (i : Nat) (ts : Addr → Value → Option Addr → TS) (W : Ends → WX) : Ends → WX := fun D cls d σ H =>
  ∃ b, PySem.W.exmOne K cls c = some b ∧ (b = true → ∀ a, H a = none → ts a cls d ⟨fun σ' H' => D.nx (σ'.set i none) H', D.rt, fun σ' H' => D.bk (σ'.set i none) H', fun σ' H' => D.ct (σ'.set i none) H'⟩ (σ.set i (some (.ref a))) H) ∧ (b = false → W D cls d σ H)
theorem does_as (hs : X.stack = X.env :: X.outer) (hf : X.env.frame = some X.env.locals) (hN : X.N.Nodup) (hi : X.N[i]? = some n) (hln : X.env.kindOf n = some .local) (hc : Names X x c)
    (hsu : ∀ (a : Addr) (oe : Obj) (cls : Value) (d : Option Addr) (pn : List (Addr × Obj)), Zc cls d oe → (∃ vs, oe.data = .fields vs) → PSs (X.suite a ((a, oe) :: pn)) (b₀ :: suite) (ts a cls d)) (r : Does X rest W) :
    Does X (.ExceptHandler (some (.Name x np)) (some n) (b₀ :: suite) pos' :: rest) (wClAs X.K c i ts W) := by
  intro pins D B a cls d σ H sI s h3 k ⟨b, hb, yes, no⟩
  refine wpAny_handleBy_cons (codeAny_handlers_test (k.test hs hf hc hb ?_)) (fun z => by cases z)
  cases b with
  | false => exact r pins D B a cls d σ H sI s h3 k (no rfl)
  | true =>
    refine codeAny_handlers_suite_as (HandSPX.lands_againZ k.fl fun h4 fl4 up4 => ?_)
    obtain ⟨oe, z, hv, _, S⟩ := (k.again fl4 up4).in hs hf
    refine store_ok (X := X.suite a ((a, oe) :: (X.pn ++ pins))) (v := .ref a) S hN hi (.inl hln) rfl (fun s5 S5 => ?_) (.inr hln)
    refine wpAny_mono ((hsu a oe cls d (X.pn ++ pins) z hv).run [] s5 _ H _ S5 (yes rfl a k.na)) (fun f s6 q => ?_) fun _ _ z => z.elim
    have q' := suite_end (X := X) k.inv.ok q
    cases f with
    | ret u => exact let ⟨v, σ', H', J, e, q⟩ := q'; gone_ok J hN hi hln fun s7 J7 => ⟨v, _, H', J7, e, q⟩
    | next => exact let ⟨σ', H', J, q⟩ := q'; gone_ok J hN hi hln fun s7 J7 => ⟨_, H', J7, q⟩
    | brk => exact let ⟨σ', H', J, q⟩ := q'; gone_ok J hN hi hln fun s7 J7 => ⟨_, H', J7, q⟩
    | cont => exact let ⟨σ', H', J, q⟩ := q'; gone_ok J hN hi hln fun s7 J7 => ⟨_, H', J7, q⟩
end
section
variable {X : Cx} {body : List Stmt} {h₀ : ExceptHandler} {hds : List ExceptHandler} {pos : Pos} {tb : WX → TS} {W : Ends → WX}
theorem ps_try_by (hs : X.stack = X.env :: X.outer) (hf : X.env.frame = some X.env.locals)
    (hb : ∀ (W : WX) (pn : List (Addr × Obj)) (xe : Value → Shared → Prop), Takes (X.tr pn xe) W → PassesOwn (model X.prog X.w) X.A X.env xe → PSs (X.tr pn xe) body (tb W))
    (dz : Does X (h₀ :: hds) W) : PS X (.Try body (h₀ :: hds) [] [] pos) (fun D σ H => tb (W D) D σ H) := by
  refine ⟨fun pins s σ H D I h => wpAny_Try_except (wpAny_mono ((hb (W D) (X.pn ++ pins) _ (fun u s1 xx => ?_) PassesOwn.looking).run [] s σ H D (I.toTry _) h) (fun f s1 q => ?_) fun e s1 he => he)⟩
  · obtain ⟨a, B, sI, pins', σ', H', cls, d, rfl, J, nb, up, sky, na, os, ag, w⟩ := xx
    have J1 : Inv X pins σ' H' sI := J.ofTry I.ok
    show wpAny _ X.A (noteFrame (.ref a) X.env) _ _ _
    refine Sky.land Zc.steady (by rw [I.ok.frames, hs]) hf (by rw [← hs]; exact sky) fun h3 fl3 up3 => ?_
    exact dz pins D B a cls d σ' H' sI s1 h3 ⟨J1, nb, fl3, up.trans up3, na, os, ag⟩ w
  · have leave : ∀ {xe : Value → Shared → Prop} {σ' : L2.St} {H' : Hp}, Inv (X.tr (X.pn ++ pins) xe) [] σ' H' s1 → Inv X pins σ' H' s1 := fun J => J.ofTry I.ok
    cases f with
    | ret u => exact let ⟨v, σ', H', J, r, z⟩ := q; ⟨v, σ', H', leave J, r, z⟩
    | next => exact let ⟨σ', H', J, z⟩ := q; wpAny_execs_nil ⟨σ', H', leave J, z⟩
    | brk => exact let ⟨σ', H', J, z⟩ := q; ⟨σ', H', leave J, z⟩
    | cont => exact let ⟨σ', H', J, z⟩ := q; ⟨σ', H', leave J, z⟩
end
end TRY
set_option Elab.async false
set_option linter.all false
set_option maxRecDepth 100000
set_option maxHeartbeats 4000000
namespace WK
open PySem L2 PyProof.Rows
def top (i : Nat) : Stmt := PySem.Challenge.pw_watchkinds_k25_errors_of_pieces.main.body.getD i (.Pass ⟨0, 0, 0, 0⟩)
abbrev sDice : Stmt := top 106
abbrev sRoll : Stmt := top 107
abbrev sOne : Stmt := top 108
/-- a power of any two numbers of which the result is not too long -/
def CPowW (i j : Int) : Prop := 0 ≤ j ∧ (Builtin.Int.intBits i : Int) * j ≤ 2 ^ 27
theorem op_powW {X : Cx} : OpR X (binaryOp .Pow) (rI CPowW fun i j => .int (i ^ j.toNat)) := opI fun _ _ _ _ _ _ _ hc q => pow_int hc.1 hc.2 q
/-- the dice stand at p -/
def DiceAt (H : Hp) (p : Addr) : Prop := ∃ a b c : Int, H p = some (.lst [.int a, .int b, .int c]) ∧ 0 ≤ a ∧ 0 ≤ b ∧ 0 ≤ c
/-- all that was tracked stands, but for what is at p -/
def But (p : Addr) (H H' : Hp) : Prop := ∀ b o, H b = some o → b ≠ p → H' b = some o
theorem But.refl (p : Addr) (H : Hp) : But p H H := fun _ _ h _ => h
theorem But.trans {p : Addr} {H H1 H2 : Hp} (a : But p H H1) (b : But p H1 H2) : But p H H2 := fun c o h n => b c o (a c o h n) n
theorem But.ofSame {p : Addr} {H H' : Hp} (s : Same H H') : But p H H' := fun b o h _ => s b o h
theorem But.upd {p : Addr} {H : Hp} {o : HO} : But p H (upd H p o) := fun b u h n => by rw [upd_ne n]; exact h
/-- law's number of a cell -/
def big : Int := (10 ^ 60) ^ 10
theorem big_pos : 0 < big := by decide +kernel
def spDice (K : PySem.W.Frag) : Sp := fun vs H Q _ => ∃ (s : Addr) (ns : List Int) (k : Int), vs = [.ref s, .int k] ∧ SqL K H s (ns.map V.int) ∧ 0 ≤ k ∧
  ∀ (p : Addr) (H' : Hp), H p = none → Same H H' → DiceAt H' p → Q (.ref p) H'
def spRoll : Sp := fun vs H Q _ => ∃ (p : Addr) (n : Int), vs = [.ref p, .int n] ∧ DiceAt H p ∧ 0 < n ∧ n < 1073741824 ∧
  ∀ (r : Int) (H' : Hp), 0 ≤ r → r < n → DiceAt H' p → But p H H' → Q (.int r) H'
def spOne : Sp := fun vs H Q _ => ∃ (p q : Addr) (xs : List V), vs = [.ref p, .ref q] ∧ DiceAt H p ∧ q ≠ p ∧ H q = some (.lst xs) ∧ 0 < xs.length ∧ xs.length < 1000000 ∧
  ∀ (v : V) (H' : Hp), v ∈ xs → DiceAt H' p → But p H H' → Q v H'
structure TDice (mg : Str → Option Value) : Prop where
  len : mg "len" = none
  int : mg "int" = none
  abs : mg "abs" = none
section
variable {P : Program} {w : World} {K : PySem.W.Frag} {mg : Str → Option Value} {base : Heap}
theorem scD : FnScope ["_law_script", "_law_at", "_law_cell", "_law_great", "_law_left", "_law_mixed_here"] ["_law_script", "_law_at"] (defScope sDice) := ⟨rfl, rfl, rfl, by decide +kernel, rfl, by decide +kernel, by decide +kernel⟩
theorem ok_dice {f : Addr} {fd : FuncData} (F : Fun K "_law_dice" "_law_dice" sDice f fd) (T : TDice mg) : FnOk P w K mg base CX0 1 f fd ["_law_script", "_law_at"] (spDice K) := by
  refine F.ok scD (fun vs H Q E h => ?_) (fun cdv A outer s H vs Q E hr h => ?_)
  · obtain ⟨s, ns, k, rfl, _⟩ := h
    rfl
  · obtain ⟨s, ns, k, rfl, hS, hk, q⟩ := h
    refine ⟨_, pss_cons (ps_set (i := 2) scD.nd rfl (Or.inl rfl) (pe_op op_add (pe_op op_mul pe_int (pv 1)) pe_int))
      (C8.pss_cut (ps_if (pt_cmpR op_lt (pv 1) (pe_callB call_len_seq (by rfl) T.len PySem.boot_len (pa_cons (pv 0) pa_nil)) (nomark _))
        (pss_one (ps_set (i := 2) scD.nd rfl (Or.inl rfl) (pe_ix ix_list (pv 0) (pv 1) (fun _ _ => rfl)))) pss_nil)
      (pss_cons (ps_set (i := 3) scD.nd rfl (Or.inl rfl) (pe_op op_mod (pe_callTy call_int1 (by rfl) T.int (by decide +kernel) (pa_cons (pe_callB call_abs (by rfl) T.abs (by decide +kernel) (pa_cons (pv 2) pa_nil)) pa_nil)) (pe_op op_powW (pe_op op_pow pe_int pe_int) pe_int)))
      (pss_cons (ps_set (i := 4) scD.nd rfl (Or.inl rfl) (pe_op op_fdivW (pv 3) (pe_op op_pow pe_int pe_int)))
      (pss_cons (ps_set (i := 5) scD.nd rfl (Or.inl rfl) (pe_op op_add (pe_op op_add (pe_op op_add (pe_op op_mul (pe_op op_mod (pv 3) pe_int) pe_int) (pe_op op_mul pe_int (pv 1)))
          (pe_op op_mul pe_int (pe_callTy call_int1 (by rfl) T.int (by decide +kernel) (pa_cons (pe_cmpR op_lt (pv 2) pe_int (nomark _)) pa_nil)))) pe_int))
      (pss_one (ps_ret (pe_lst (pa_cons (pv 4) (pa_cons (pe_op op_mod (pv 5) pe_int) (pa_cons pe_int pa_nil)))))))))), ?_⟩
    refine ⟨_, rfl, _, _, rfl, rfl, .inl ⟨by decide, by decide⟩, _, _, rfl, rfl, ?_⟩
    -- behind the if: some cell
    refine ⟨fun σ H' => H' = H ∧ ∃ c : Int, σ = [some (.ref s), some (.int k), some (.int c), none, none, none], ?_, ?_⟩
    · refine ⟨_, rfl, _, rfl, s, _, rfl, .inl hS, _, _, rfl, rfl, _, rfl, ?_⟩
      refine ite2 (fun hc => ?_) (fun _ => ?_)
      · have hl : k < ((ns.map V.int).length : Int) := of_decide_eq_true hc
        rw [List.length_map] at hl
        have hj : k.toNat < ns.length := by omega
        have e1 : (ns.map V.int)[k.toNat]? = some (V.int ns[k.toNat]) := by
          rw [List.getElem?_map, List.getElem?_eq_getElem hj]
          rfl
        have e2 := atI_nat e1
        rw [Int.toNat_of_nonneg hk] at e2
        exact ⟨_, rfl, _, rfl, s, _, _, _, rfl, rfl, hS, e2, rfl, _, rfl⟩
      · exact ⟨rfl, _, rfl⟩
    · rintro σ H' ⟨rfl, c, rfl⟩
      refine ⟨_, rfl, _, rfl, .inl ⟨_, rfl, ?_⟩⟩
      refine ⟨_, _, rfl, rfl, ⟨by decide, by decide, by decide +kernel⟩, _, _, rfl, rfl, ⟨by decide, by decide +kernel⟩, _, _, rfl, rfl, big_pos, ?_⟩
      refine ⟨_, rfl, _, _, rfl, rfl, ⟨by decide, by decide, by decide +kernel⟩, _, _, rfl, rfl, wide_div (b := 64) (by decide +kernel) (by decide +kernel) (by decide) (by decide), ?_⟩
      refine ⟨_, rfl, _, _, rfl, rfl, (by show (0 : Int) < 2147483059; decide), _, _, rfl, rfl, .inr ⟨by decide, by decide⟩, _, rfl, _, _, rfl, rfl, .inl ⟨by decide, by decide⟩, _, _, rfl, rfl, ?_⟩
      refine ⟨_, rfl, _, _, rfl, rfl, .inr ⟨_, rfl, ?_⟩⟩
      refine ⟨_, _, rfl, rfl, .inl ⟨by decide, by decide⟩, _, _, rfl, rfl, _, _, rfl, rfl, ?_⟩
      refine ⟨_, rfl, _, rfl, _, _, rfl, rfl, (by show (0 : Int) < 2147483053; decide), (by show 3 ≤ sizeLine; decide), fun p hp => q p _ hp (fun b o e => by rw [upd_ne (ne_of_none e hp)]; exact e) ⟨_, _, _, upd_same, ?_, ?_, Int.le_refl 0⟩⟩
      · exact Int.ediv_nonneg (Int.emod_nonneg _ (Int.ne_of_gt big_pos)) (by decide)
      · exact Int.emod_nonneg _ (by decide)
/-- of a roll -/
theorem scR : FnScope ["_law_dice_here", "_law_total", "_law_number", "_law_drawn", "_law_one", "_law_two"] ["_law_dice_here", "_law_total"] (defScope sRoll) := ⟨rfl, rfl, rfl, by decide +kernel, rfl, by decide +kernel, by decide +kernel⟩
theorem ok_roll {f : Addr} {fd : FuncData} (F : Fun K "_law_roll" "_law_roll" sRoll f fd) (T : TDice mg) : FnOk P w K mg base CX0 1 f fd ["_law_dice_here", "_law_total"] spRoll := by
  refine F.ok scR (fun vs H Q E h => ?_) (fun cdv A outer s H vs Q E hr h => ?_)
  · obtain ⟨p, n, rfl, _⟩ := h
    rfl
  · obtain ⟨p, n, rfl, ⟨a, b, c, hD, ha, hb, hc⟩, hn, hn2, q⟩ := h
    refine ⟨_, pss_cons (ps_set (i := 2) scR.nd rfl (Or.inl rfl) (pe_callTy call_int1 (by rfl) T.int (by decide +kernel) (pa_cons (pv 1) pa_nil)))
      (pss_cons (ps_if (pt_cmpR op_gt (pe_ix ix_list (pv 0) pe_int (fun _ _ => rfl)) pe_int (nomark _))
        (pss_cons (ps_set (i := 3) scR.nd rfl (Or.inl rfl) (pe_op op_mod (pe_ix ix_list (pv 0) pe_int (fun _ _ => rfl)) (pv 2)))
        (pss_cons (ps_asg (pe_op op_fdiv (pe_ix ix_list (pv 0) pe_int (fun _ _ => rfl)) (pv 2)) (pg_sub (pv 0) pe_int set_list))
        (pss_one (ps_ret (pe_callTy call_int1 (by rfl) T.int (by decide +kernel) (pa_cons (pv 3) pa_nil)))))) pss_nil)
      (pss_cons (ps_asg (pe_op op_add (pe_ix ix_list (pv 0) pe_int (fun _ _ => rfl)) pe_int) (pg_sub (pv 0) pe_int set_list))
      (pss_cons (ps_set (i := 4) scR.nd rfl (Or.inl rfl) (pe_op op_mod (pe_op op_add (pe_ix ix_list (pv 0) pe_int (fun _ _ => rfl)) (pe_op op_mul pe_int (pe_ix ix_list (pv 0) pe_int (fun _ _ => rfl)))) pe_int))
      (pss_cons (ps_set (i := 5) scR.nd rfl (Or.inl rfl) (pe_op op_add (pe_op op_mul (pe_op op_mod (pe_op op_mul (pv 4) (pv 4)) pe_int) (pv 4)) (pe_op op_mul pe_int (pe_ix ix_list (pv 0) pe_int (fun _ _ => rfl)))))
      (pss_cons (ps_set (i := 5) scR.nd rfl (Or.inl rfl) (pe_op op_mod (pv 5) pe_int))
      (pss_one (ps_ret (pe_callTy call_int1 (by rfl) T.int (by decide +kernel) (pa_cons (pe_op op_mod (pe_op op_fdiv (pv 5) pe_int) (pv 2)) pa_nil))))))))), ?_⟩
    refine ⟨_, rfl, .inl ⟨_, rfl, ?_⟩⟩
    refine ⟨_, rfl, p, _, _, _, rfl, rfl, SqL.of hD, atI_nat (j := 0) rfl, _, _, rfl, rfl, _, rfl, ?_⟩
    refine ite2 (fun hc' => ?_) (fun hc' => ?_)
    · refine ⟨_, rfl, p, _, _, _, rfl, rfl, SqL.of hD, atI_nat (j := 0) rfl, _, rfl, _, _, rfl, rfl, hn, ?_⟩
      refine ⟨_, rfl, p, _, _, _, rfl, rfl, SqL.of hD, atI_nat (j := 0) rfl, _, rfl, _, _, rfl, rfl, ⟨hn, hn2⟩, ?_⟩
      refine ⟨_, rfl, p, _, _, 0, rfl, rfl, hD, rfl, ?_⟩
      refine ⟨_, rfl, .inl ⟨_, rfl, ?_⟩⟩
      exact q _ _ (Int.emod_nonneg _ (Int.ne_of_gt hn)) (Int.emod_lt_of_pos _ hn) ⟨_, _, _, upd_same, Int.ediv_nonneg ha (Int.le_of_lt hn), hb, hc⟩ But.upd
    · refine ⟨_, rfl, p, _, _, _, rfl, rfl, SqL.of hD, atI_nat (j := 2) rfl, _, _, rfl, rfl, _, rfl, p, _, _, 2, rfl, rfl, hD, rfl, ?_⟩
      have h2 : (upd H p (.lst [.int a, .int b, .int (c + 1)])) p = some (.lst [.int a, .int b, .int (c + 1)]) := upd_same
      refine ⟨_, rfl, p, _, _, _, rfl, rfl, SqL.of h2, atI_nat (j := 1) rfl, _, rfl, p, _, _, _, rfl, rfl, SqL.of h2, atI_nat (j := 2) rfl, _, _, rfl, rfl, .inl ⟨by decide, by decide⟩, _, _, rfl, rfl, _, _, rfl, rfl, (by show (0 : Int) < 2305843009213693951; decide), ?_⟩
      have one0 : ∀ x : Int, -(2 ^ 64) < x % 2305843009213693951 ∧ x % 2305843009213693951 < 2 ^ 64 := fun x => by
        have l := Int.emod_nonneg x (show (2305843009213693951 : Int) ≠ 0 by decide)
        have u := Int.emod_lt_of_pos x (show (0 : Int) < 2305843009213693951 by decide)
        exact ⟨by omega, by omega⟩
      refine ⟨_, rfl, _, rfl, _, _, rfl, rfl, .inl (one0 _), _, _, rfl, rfl, (by show (0 : Int) < 2305843009213693921; decide), _, rfl, _, _, rfl, rfl, .inr (one0 _), _, rfl, p, _, _, _, rfl, rfl, SqL.of h2, atI_nat (j := 2) rfl, _, _, rfl, rfl, .inl ⟨by decide, by decide⟩, _, _, rfl, rfl, ?_⟩
      refine ⟨_, rfl, _, _, rfl, rfl, (by show (0 : Int) < 2305843009213693907; decide), ?_⟩
      refine ⟨_, rfl, _, _, rfl, rfl, ⟨by decide, by decide⟩, _, rfl, _, _, rfl, rfl, hn, .inl ⟨_, rfl, ?_⟩⟩
      exact q _ _ (Int.emod_nonneg _ (Int.ne_of_gt hn)) (Int.emod_lt_of_pos _ hn) ⟨_, _, _, upd_same, ha, hb, by omega⟩ But.upd
theorem scO : FnScope ["_law_dice_here", "_law_items"] ["_law_dice_here", "_law_items"] (defScope sOne) := ⟨rfl, rfl, rfl, by decide +kernel, rfl, by decide +kernel, by decide +kernel⟩
theorem ok_one {f fR : Addr} {fd fdR : FuncData} (F : Fun K "_law_one_of" "_law_one_of" sOne f fd) (T : TDice mg) (gR : mg "_law_roll" = some (.ref fR)) (FR : Fun K "_law_roll" "_law_roll" sRoll fR fdR) (bR : Binds K fdR ["_law_dice_here", "_law_total"] []) :
    FnOk P w K mg base CX0 2 f fd ["_law_dice_here", "_law_items"] spOne := by
  have GR : FnOk P w K mg base CX0 1 fR fdR ["_law_dice_here", "_law_total"] spRoll := ok_roll FR T
  refine F.ok scO (fun vs H Q E h => ?_) (fun cdv A outer s H vs Q E hr h => ?_)
  · obtain ⟨p, n, _, rfl, _⟩ := h
    rfl
  · obtain ⟨p, a, xs, rfl, hD, hne, hx, h0, h1, q⟩ := h
    refine ⟨_, pss_one (ps_ret (pe_ix ix_list (pv 1) (pe_call GR hr rfl gR FR.kp bR .nil pass0 (pa_cons (pv 0) (pa_cons (pe_callB call_len_seq (by rfl) T.len PySem.boot_len (pa_cons (pv 1) pa_nil)) pa_nil))) (fun _ _ => rfl))), ?_⟩
    refine ⟨_, rfl, _, rfl, _, rfl, a, _, rfl, .inl (SqL.of hx), p, _, rfl, hD, by omega, by omega, fun r H' hr0 hr1 hD' hB => ?_⟩
    have hj : r.toNat < xs.length := by omega
    have e1 : xs[r.toNat]? = some xs[r.toNat] := List.getElem?_eq_getElem hj
    have e2 := atI_nat e1
    rw [Int.toNat_of_nonneg hr0] at e2
    exact ⟨a, _, _, _, rfl, rfl, SqL.of (hB _ _ hx hne), e2, q _ _ (List.getElem_mem hj) hD' hB⟩
end
end WK
set_option Elab.async false
set_option linter.all false
set_option maxRecDepth 100000
set_option maxHeartbeats 4000000
namespace TX
open PySem PySem.Spec PyProof.Rows L2
/-- the text of an entry -/
def txOf (e : Int × Value) : Str := strOf e.2
def GoodX (w : World) (e : Int × Value) : Prop := ∃ k tk, e.2 = Value.str k tk ∧ e.1 = hashStr w k
/-- what holds of the entries of a set of texts, whatever object bears them: T says its members -/
structure Fine (w : World) (T : Str → Bool) (es : Array (Int × Value)) (t : SetTable) : Prop where
  good : ∀ e ∈ es.toList, GoodX w e
  once : (es.toList.map txOf).Nodup
  mem : ∀ k, T k = true ↔ k ∈ es.toList.map txOf
  few : es.size < scanBound
  fit : t.fits es.size = true
  ris : Ris t.place.toList
  led : t.led = true ∨ w.params.followText "set-order" = true
/-- a set of n texts at a -/
structure SetX (w : World) (h : Heap) (a : Addr) (T : Str → Bool) (n : Nat) (o : Obj) (es : Array (Int × Value)) (ep : Nat) (t : SetTable) : Prop where
  ob : h.get? a = some o
  ex : o.ExactSet
  dat : o.data = .set es ep t
  sz : es.size = n
  fine : Fine w T es t
def HasX (w : World) (h : Heap) (a : Addr) (T : Str → Bool) (n : Nat) : Prop := ∃ o es ep t, SetX w h a T n o es ep t
section
variable {P : Program} {w : World} {h h' : Heap} {a : Addr} {T : Str → Bool} {n : Nat}
theorem HasX.at (R : HasX w h a T n) (k : ∀ o, h.get? a = some o → h'.get? a = some o) : HasX w h' a T n := by
  obtain ⟨o, es, ep, t, r⟩ := R
  exact ⟨o, es, ep, t, { r with ob := k o r.ob }⟩
theorem good_elems {l : List (Int × Value)} (g : ∀ e ∈ l, GoodX w e) : ElemsOf (PySem.strKind P w) l := fun e at_e =>
  match e, g e at_e with
  | (_, _), ⟨k, tk, rfl, hash⟩ => ⟨⟨k, Froz.is_str k tk, hash⟩, by rfl⟩
theorem good_is {e : Int × Value} (g : GoodX w e) (k : Str) : (PySem.strKind P w).is k e.2 = true ↔ txOf e = k :=
  match e, g with
  | (_, _), ⟨j, tk, rfl, _⟩ => ⟨fun q => (PySem.strKind P w).inj (.str j tk) j k (Froz.is_str j tk) q, fun q => q ▸ Froz.is_str j tk⟩
/-- the scan of the entries finds a text just where T says so -/
theorem Fine.look {es : Array (Int × Value)} {t : SetTable} (F : Fine w T es t) (k : Str) : (es.toList.findIdx? fun e => (PySem.strKind P w).is k e.2).isSome = T k := by
  rw [List.findIdx?_isSome, Bool.eq_iff_iff, List.any_eq_true, F.mem k, List.mem_map]
  exact ⟨fun ⟨e, at_e, q⟩ => ⟨e, at_e, (good_is (F.good e at_e) k).mp q⟩, fun ⟨e, at_e, q⟩ => ⟨e, at_e, (good_is (F.good e at_e) k).mpr q⟩⟩
theorem Fine.moved {es fs : Array (Int × Value)} {t u : SetTable} (F : Fine w T es t) (p : fs.toList.Perm es.toList) (fit : u.fits fs.size = true) (ris : Ris u.place.toList) (led : u.led = t.led) : Fine w T fs u ∧ fs.size = es.size := by
  have size := p.length_eq
  rw [Array.length_toList, Array.length_toList] at size
  exact ⟨⟨fun e at_e => F.good e (p.mem_iff.mp at_e), (p.map txOf).nodup_iff.mpr F.once, fun k => (F.mem k).trans (p.map txOf).mem_iff.symm, size ▸ F.few, fit, ris, led ▸ F.led⟩, size⟩
theorem Fine.more {es fs : Array (Int × Value)} {t u : SetTable} {k : Str} {tk : Tok} (F : Fine w T es t) (out : T k = false) (room : es.size + 1 < scanBound)
    (p : fs.toList.Perm (es.push ((PySem.strKind P w).hash k, .str k tk)).toList) (fit : u.fits fs.size = true) (ris : Ris u.place.toList) (led : u.led = t.led) :
    Fine w (fun j => T j || decide (j = k)) fs u ∧ fs.size = es.size + 1 := by
  have pe : fs.toList.Perm (((PySem.strKind P w).hash k, Value.str k tk) :: es.toList) := p.trans (by rw [Array.toList_push]; exact List.perm_append_singleton _ _)
  have pt : (fs.toList.map txOf).Perm (k :: es.toList.map txOf) := pe.map txOf
  have size := pe.length_eq
  rw [List.length_cons, Array.length_toList, Array.length_toList] at size
  refine ⟨⟨fun e at_e => ?_, pt.nodup_iff.mpr (List.nodup_cons.mpr ⟨fun z => ?_, F.once⟩), fun j => ?_, size ▸ room, fit, ris, led ▸ F.led⟩, size⟩
  · cases pe.mem_iff.mp at_e with
    | head => exact ⟨k, tk, rfl, rfl⟩
    | tail _ old => exact F.good e old
  · exact Bool.false_ne_true (out.symm.trans ((F.mem k).mpr z))
  · simp only [pt.mem_iff, List.mem_cons, Bool.or_eq_true, decide_eq_true_eq, F.mem j]
    exact Or.comm
theorem Fine.plainOff {es : Array (Int × Value)} {t : SetTable} (F : Fine w T es t) : Fine w T es { t with plain := false } := { F with fit := SetTable.fits_plain_off F.fit }
end
section
variable {P : Program} {w : World} {A : Around} {E : Value → Shared → Prop} {s : Shared} {a : Addr} {T : Str → Bool} {n : Nat}
/-- the entries are laid down, and laid anew where the table is too full -/
theorem lay {g : Bool → Sem Unit} (calm : ∀ (b : Bool) (r : Shared) (K : Unit → Shared → Prop), K () r → wpAny (model P w) A (g b) K E r) {o : Obj} {es fs : Array (Int × Value)} {ep : Nat} {t u : SetTable}
    (ob : s.heap.get? a = some o) (ex : o.ExactSet) (dat : o.data = .set es ep t) (F : Fine w T fs u) {again : Bool} {R : Option Bool → Shared → Prop}
    (done : ∀ k, Heap.SameBut a s.heap k → HasX w k a T fs.size → R (some true) { s with heap := k }) :
    wpAny (model P w) A (storeSet a fs u >>= fun _ => if (!again && u.tooFull) = true then
        g (relayAll u fs (SetTable.grown fs.size)).2.2 >>= fun _ => storeSet a (relayAll u fs (SetTable.grown fs.size)).1 (relayAll u fs (SetTable.grown fs.size)).2.1 >>= fun _ => pure (some true)
      else pure (some true)) R E s := by
  have same1 := Heap.SameBut.update s.heap a (Obj.putSet fs u)
  have at1 := store_at (es' := fs) (t' := u) ob dat
  refine wpAny_bind (wpAny_storeSet_of ob dat ?_ (fits_of_scanBound F.few))
  by_cases full : (!again && u.tooFull) = true
  · rw [if_pos full]
    obtain ⟨F2, size2⟩ := F.moved (relayAll_perm u fs (SetTable.grown fs.size)) (relayAll_fits u fs _) (relayAll_ris u fs _) (relayAll_led u fs _)
    exact wpAny_bind (calm _ _ _ (wpAny_bind (wpAny_storeSet_of at1 rfl (wpAny_pure (done _ (same1.trans (Heap.SameBut.update _ a _)) ⟨_, _, _, _, store_at at1 rfl, ex, rfl, size2, F2⟩)) (fits_of_scanBound F2.few))))
  · rw [if_neg full]
    exact wpAny_pure (done _ same1 ⟨_, fs, _, u, at1, ex, rfl, rfl, F⟩)
theorem add {k : Str} {tk : Tok} {Q : Bool → Shared → Prop} (R : HasX w s.heap a T n) (room : n + 1 < scanBound)
    (hQ : ∀ h', Heap.SameBut a s.heap h' → HasX w h' a (fun j => T j || decide (j = k)) (if T k = true then n else n + 1) → Q (!T k) { s with heap := h' }) :
    wpAny (model P w) A (setAddHashed a (.str k tk) ((PySem.strKind P w).hash k)) Q E s := by
  obtain ⟨o, es, ep, t, ob, ex, dat, rfl, F⟩ := R
  have scans : (Value.str k tk).scannable = true := rfl
  have els := good_elems (P := P) F.good
  have calm : ∀ (b : Bool) (r : Shared) (K : Unit → Shared → Prop), K () r → wpAny (model P w) A (match b with | true => rule "set.scan.the-table-gave-way" | false => pure ()) K E r
    | true, _, _, q => wpAny_rule q
    | false, _, _, q => wpAny_pure q
  unfold setAddHashed; unfold setAddHashedIn
  refine wpAny_holding (wpAny_bind (wpAny_setState_of ob dat F.fit ?_))
  simp only [byScan_of scans F.few els, ↓reduceIte]
  unfold setAddByScan
  refine wpAny_bind (wpAny_bind (wpAny_rule (wpAny_bind (wpAny_setScan_of (Froz.is_str k tk) ob dat F.fit els ?_))))
  have seen := F.look (P := P) k
  cases found : es.toList.findIdx? (fun e => (PySem.strKind P w).is k e.2) with
  | some j =>
    rw [found] at seen
    have inT : T k = true := seen.symm
    have q := hQ s.heap (Heap.SameBut.refl a s.heap) ⟨o, es, ep, t, ob, ex, dat, (if_pos inT).symm, { F with mem := fun i => (F.mem i).symm.trans ?_ |>.symm }⟩
    · rw [inT] at q
      exact wpAny_pure (wpAny_pure q)
    · simp only [Bool.or_eq_true, decide_eq_true_eq]
      exact ⟨.inl, fun z => z.elim id fun e => e ▸ inT⟩
  | none =>
    rw [found] at seen
    have out : T k = false := seen.symm
    have F1 := F.more (P := P) (k := k) (tk := tk) out room (layNew_perm t es _ _) (layNew_fits t es _ _) (layNew_ris t es _ _ F.ris) (layNew_led t es _ _)
    revert F1
    generalize layNew t es ((PySem.strKind P w).hash k) (.str k tk) = Z
    rcases Z with ⟨fs, u, again, gave⟩
    rintro ⟨F1, size1⟩
    have fin : ∀ g, Heap.SameBut a s.heap g → HasX w g a (fun j => T j || decide (j = k)) fs.size → Q true { s with heap := g } := fun g same r => by
      have q := hQ g same
      simp only [out, Bool.false_eq_true, if_false, Bool.not_false] at q
      exact q (size1 ▸ r)
    dsimp only
    refine wpAny_bind (calm _ _ _ ?_)
    split
    · rw [hashByValue_scannable 8 scans]
      refine wpAny_bind (wpAny_pure (lay (T := fun j => T j || decide (j = k)) ?_ ob ex dat ?_ fun g same r => ?_))
      · exact fun b r K q => by cases b <;> first | exact wpAny_rule q | exact wpAny_pure q
      · first | exact F1 | (split <;> first | exact F1 | exact F1.plainOff)
      · dsimp only
        exact wpAny_pure (fin g same r)
    · refine wpAny_bind (wpAny_pure ?_)
      simp only [↓reduceIte]
      refine lay (T := fun j => T j || decide (j = k)) ?_ ob ex dat F1 fun g same r => ?_
      · exact fun b r K q => by cases b <;> first | exact wpAny_rule q | exact wpAny_pure q
      · dsimp only
        exact wpAny_pure (fin g same r)
end
/-- a set as it is made -/
abbrev newSet (w : World) : Obj := { cls := .type "set", dict := none, data := .set #[] 0 (.fresh 0 0 (!w.params.followText "set-order")) }
theorem fresh {h : Heap} (w : World) : HasX w (h.push (newSet w)) h.objs.size (fun _ => false) 0 := by
  refine ⟨_, #[], 0, _, Heap.get?_push_size _ rfl, ⟨rfl, rfl, rfl⟩, rfl, rfl, ⟨fun e at_e => by simp at at_e, by simp, fun k => by simp, by decide, by rfl, List.Pairwise.nil, ?_⟩⟩
  show (!w.params.followText "set-order") = true ∨ _
  cases w.params.followText "set-order" <;> simp
section
variable {prog : Program} {w : World} {A : Around} {R : Result → Shared → Prop} {I : Addr} {fp wr : List Addr} {n : Nat} {x : Str} {St : Nat → Heap → Prop}
/-- the signs of a text, one after the other, into the set: left of them are still to come -/
theorem loop (W : Walks prog w A.in1 I fp wr n (SignAt x) St) (hn : n = x.cps.size) (S : Addr) (away : S ∉ fp) (room : n + 1 < scanBound) :
    ∀ (left i : Nat) (s : Shared) (T : Str → Bool) (c : Nat), n - i = left → i ≤ n → St i s.heap → HasX w s.heap S T c → c ≤ i →
      (∀ g tk T' c', HasX w g S T' c' → c' ≤ n → (∀ k, T' k = (T k || (x.cps.toList.drop i).any fun z => decide (k = ⟨#[z]⟩))) → (∀ b q, b ∉ S :: wr → s.heap.get? b = some q → g.get? b = some q) →
        R (.ok (.ret .none)) { s with heap := g, toks := tk }) →
      codeAny (model prog w) A (.builtin "set.update.loop" ⟨[.ref S, .ref I], []⟩) R s := by
  have apart : S ∉ wr := fun z => away (W.sub _ z)
  intro left
  induction left with
  | zero =>
    intro i s T c hm hi st isSet hc done
    obtain rfl : i = n := by omega
    refine codeAny_builtin PyProof.Rows.F.entry_set_update_loop (Around.under_plainId PyProof.Rows.F.plain_set_update_loop _ ▸ wpAny_bind (m := pyNext (.ref I)) (W.done s _ _ st fun g tk keep => ?_))
    refine wpAny_pure (done g tk T c (isSet.at fun q at_S => keep S q apart at_S) hc (fun k => ?_) fun b q nb at_b => keep b q (fun z => nb (.tail _ z)) at_b)
    rw [List.drop_of_length_le (by rw [hn]; simp)]
    simp
  | succ left ih =>
    intro i s T c hm hi st isSet hc done
    have more : i < n := by omega
    refine codeAny_builtin PyProof.Rows.F.entry_set_update_loop (Around.under_plainId PyProof.Rows.F.plain_set_update_loop _ ▸ wpAny_bind (m := pyNext (.ref I)) (W.item i s _ _ more st fun v g tk isSign st' keep => ?_))
    obtain ⟨z, t, hz, rfl⟩ := isSign
    refine wpAny_bind (m := holding [Value.str ⟨#[z]⟩ t] (setAdd S (.str ⟨#[z]⟩ t))) (wpAny_holding ?_)
    unfold setAdd
    refine wpAny_holding (wpAny_bind ((PySem.strKind prog w).pyHash (k := ⟨#[z]⟩) (Froz.is_str _ _) ?_))
    refine add (s := { s with heap := g, toks := tk + 1 }) (isSet.at fun q at_S => keep S q apart at_S) (by omega) fun g2 same isSet2 => ?_
    have keep2 : ∀ b q, b ∉ S :: wr → s.heap.get? b = some q → g2.get? b = some q := fun b q nb at_b => (same.2 b fun z => nb (z ▸ List.mem_cons_self)).trans (keep b q (fun z => nb (.tail _ z)) at_b)
    refine wpAny_pure ⟨plainId_quiet PyProof.Rows.F.plain_set_update_loop _, ih (i + 1) { s with heap := g2, toks := tk + 1 } _ _ (by omega) more (W.frame _ g _ st' fun b hb q at_b => ?_) isSet2 (by split <;> omega) fun g3 tk3 T3 c3 r3 l3 m3 k3 => ?_⟩
    · exact (same.2 b fun z : b = S => away (z ▸ hb)).trans at_b
    · refine done g3 tk3 T3 c3 r3 l3 (fun k => ?_) fun b q nb at_b => k3 b q nb (keep2 b q nb at_b)
      rw [m3 k, Fz.drop_at hz, List.any_cons, Bool.or_assoc]
end
section
variable {P : Program} {w : World} {A : Around} {E : Value → Shared → Prop} {s : Shared}
set_option maxHeartbeats 6400000 in
/-- set(text) -/
theorem call_set {x : Str} {t : Tok} {Q : Value → Shared → Prop} (calm : A.handled = none) (room : x.cps.size + 1 < scanBound)
    (h : ∀ (g : Heap) (tk : Nat) T c, HasX w g s.heap.objs.size T c → c ≤ x.cps.size → (∀ k, T k = x.cps.toList.any fun z => decide (k = ⟨#[z]⟩)) → (∀ b q, s.heap.get? b = some q → g.get? b = some q) → Q (.ref s.heap.objs.size) { s with heap := g, toks := tk }) :
    wpAny (model P w) A (call (.type "set") [.str x t]) Q E s := by
  have made := F.called_set.made; have isSub := F.called_set.sub; have noType := F.called_set.notType; have creates := F.called_set.canCreate
  obtain ⟨_, _, _⟩ := F.called_set.mro
  have typeCall := F.typeCall_set_1 (.str x t)
  refine wpAny_call (codeAny_of_tree ?_)
  change wpAny _ _ (callAny (.type "set") _) _ _ s
  refine wpAny_pure (And.intro (Code.quiet_builtin _ (by decide +kernel)) (codeAny_builtin F.entry_type_call ?_))
  rw [Around.under_plain (weight_type_call_type "set" [.str x t] []) rfl]
  repeat any_goals first | assumption | wp_step
  refine codeAny_mono (code_set_led1 (.str x t) (E := E) (Q₁ := fun v r => v = .ref s.heap.objs.size ∧ r = { s with heap := s.heap.push (newSet w) }) ⟨rfl, rfl⟩) fun
    | .error _, _, hr => hr
    | .ok (.ret _), _, ⟨rfl, rfl⟩ => ?_
    | .ok .next, _, hr => hr.elim
    | .ok .brk, _, hr => hr.elim
    | .ok .cont, _, hr => hr.elim
  have isTy : Shared.TypeIs { s with heap := s.heap.push (newSet w) } (.ref s.heap.objs.size) "set" := ⟨_, Heap.get?_push_size _ rfl, rfl⟩
  have found := F.called_set.init.lookup
  have bound := F.called_set.init.bind (.ref s.heap.objs.size)
  repeat any_goals first | assumption | wp_step
  refine codeAny_mono (codeAny_call_builtin (R := wants (fun v r => v = .none ∧ ∃ g tk T c, r = { s with heap := g, toks := tk } ∧ HasX w g s.heap.objs.size T c ∧ c ≤ x.cps.size ∧ (∀ k, T k = x.cps.toList.any fun z => decide (k = ⟨#[z]⟩)) ∧
      ∀ b q, s.heap.get? b = some q → g.get? b = some q) E) F.called_set.init.plain F.entry_set_init (check_set_init_1 isTy ?_)) fun
    | .error _, _, hr => hr
    | .ok (.ret _), _, ⟨rfl, _, _, _, _, rfl, r1, r2, r3, r4⟩ => ?_
    | .ok .next, _, hr => hr.elim
    | .ok .brk, _, hr => hr.elim
    | .ok .cont, _, hr => hr.elim
  · have f1 := F.sub_str_set; have f2 := F.sub_str_frozenset; have f3 := typeIs_str
    have f4 : (Value.type "str" == Value.type "dict") = false := by decide
    unfold Builtin.«set.__init__» noKeywords; unfold Builtin.Frozenset.updateFrom
    generalize asIter : pyIter = PI
    wp_walk
    subst asIter
    have size1 : (s.heap.push (newSet w)).objs.size = s.heap.objs.size + 1 := Heap.size_push ..
    refine wpAny_pyIter_str fun o St W st => wpAny_bind (wpAny_runValue (loop (W _ (by simp [calm])) rfl s.heap.objs.size ?_ room _ 0 _ (fun _ => false) 0 rfl (Nat.zero_le _) st ((fresh w).at fun q at_b => Heap.get?_push_of_some _ at_b) (Nat.le_refl _) fun g tk T c r lc m keep => ?_))
    · rw [List.mem_singleton, size1]
      exact Nat.ne_of_lt (Nat.lt_succ_self _)
    · show wpAny _ _ _ _ _ _
      refine wpAny_pure (wpAny_pure ⟨rfl, g, tk, T, c, rfl, r, lc, fun z => by rw [m z, List.drop_zero, Bool.false_or], fun b q at_b => keep b q ?_ (Heap.get?_push_of_some _ (Heap.get?_push_of_some _ at_b))⟩)
      have below := Heap.lt_size at_b
      simp only [List.mem_cons, List.mem_singleton, List.not_mem_nil, or_false, not_or, size1]
      exact ⟨Nat.ne_of_lt below, Nat.ne_of_lt (Nat.lt_succ_of_lt below)⟩
  · repeat any_goals first | assumption | wp_step
    exact h _ _ _ _ r1 r2 r3 r4
end
end TX
set_option Elab.async false
set_option linter.all false
set_option maxRecDepth 100000
set_option maxHeartbeats 4000000
namespace TX
open PySem PySem.Spec PyProof.Rows L2
def ins (c : Nat) : List Nat → List Nat
  | [] => [c]
  | d :: r => if c < d then c :: d :: r else if c = d then d :: r else d :: ins c r
/-- the numbers of a list, each once, ascending -/
def sigs : List Nat → List Nat
  | [] => []
  | c :: r => ins c (sigs r)
theorem mem_ins (c k : Nat) : ∀ l : List Nat, k ∈ ins c l ↔ k = c ∨ k ∈ l
  | [] => by simp [ins]
  | d :: r => by
    unfold ins
    split
    · simp
    · split
      · rename_i _ e
        subst e
        simp
      · simp only [List.mem_cons, mem_ins c k r]
        exact ⟨fun h => h.elim (fun e => .inr (.inl e)) (fun h => h.elim .inl fun h => .inr (.inr h)), fun h => h.elim (fun e => .inr (.inl e)) fun h => h.elim .inl fun h => .inr (.inr h)⟩
theorem mem_sigs (k : Nat) : ∀ l : List Nat, k ∈ sigs l ↔ k ∈ l
  | [] => Iff.rfl
  | c :: r => by rw [sigs, mem_ins, mem_sigs k r, List.mem_cons]
theorem asc_ins (c : Nat) : ∀ l : List Nat, l.Pairwise (· < ·) → (ins c l).Pairwise (· < ·)
  | [], _ => List.pairwise_singleton ..
  | d :: r, h => by
    have ⟨h1, h2⟩ := List.pairwise_cons.mp h
    unfold ins
    split
    · rename_i q
      exact List.pairwise_cons.mpr ⟨fun y hy => by
        rcases List.mem_cons.mp hy with z | z
        · omega
        · have := h1 y z
          omega, h⟩
    · split
      · exact h
      · refine List.pairwise_cons.mpr ⟨fun y hy => ?_, asc_ins c r h2⟩
        rcases (mem_ins c y r).mp hy with z | z
        · omega
        · exact h1 y z
theorem asc_sigs : ∀ l : List Nat, (sigs l).Pairwise (· < ·)
  | [] => List.Pairwise.nil
  | c :: r => asc_ins c _ (asc_sigs r)
theorem asc_eq : ∀ l m : List Nat, l.Pairwise (· < ·) → m.Pairwise (· < ·) → (∀ k, k ∈ l ↔ k ∈ m) → l = m
  | [], [], _, _, _ => rfl
  | [], d :: m, _, _, h => absurd ((h d).mpr List.mem_cons_self) (by simp)
  | c :: l, [], _, _, h => absurd ((h c).mp List.mem_cons_self) (by simp)
  | c :: l, d :: m, hl, hm, h => by
    obtain ⟨l1, l2⟩ := List.pairwise_cons.mp hl
    obtain ⟨m1, m2⟩ := List.pairwise_cons.mp hm
    have e : c = d := by
      rcases List.mem_cons.mp ((h c).mp List.mem_cons_self) with z | z
      · exact z
      · rcases List.mem_cons.mp ((h d).mpr List.mem_cons_self) with y | y
        · exact y.symm
        · have := l1 d y
          have := m1 c z
          omega
    subst e
    rw [asc_eq l m l2 m2 fun k => ?_]
    constructor
    · intro hk
      rcases List.mem_cons.mp ((h k).mp (List.mem_cons_of_mem _ hk)) with z | z
      · have := l1 k hk
        omega
      · exact z
    · intro hk
      rcases List.mem_cons.mp ((h k).mpr (List.mem_cons_of_mem _ hk)) with z | z
      · have := m1 k hk
        omega
      · exact z
/-- a text of one sign -/
abbrev sg (c : Nat) : Str := ⟨#[c]⟩
def hd1 (x : Str) : Nat := x.cps.toList.headD 0
theorem sg_inj {a b : Nat} (h : sg a = sg b) : a = b := congrArg hd1 h
theorem lt_sg (a b : Nat) : ltCps (sg a).cps.toList (sg b).cps.toList = decide (a < b) := by
  rw [ltCps_eq]
  show decide ([a] < [b]) = decide (a < b)
  by_cases h : a < b
  · rw [decide_eq_true h, decide_eq_true]
    exact List.Lex.rel h
  · rw [decide_eq_false h, decide_eq_false]
    intro q
    cases q with
    | rel r => exact h r
    | cons r => cases r
theorem rising_le : ∀ (l : List Nat) (p : Nat), risingS (sg p) (l.map sg) = true → (p :: l).Pairwise (· ≤ ·)
  | [], p, _ => List.pairwise_singleton ..
  | c :: l, p, h => by
    have h' : (!ltCps (sg c).cps.toList (sg p).cps.toList && risingS (sg c) (l.map sg)) = true := h
    rw [Bool.and_eq_true, lt_sg, Bool.not_eq_true', decide_eq_false_iff_not] at h'
    have ih := rising_le l c h'.2
    obtain ⟨i1, _⟩ := List.pairwise_cons.mp ih
    refine List.pairwise_cons.mpr ⟨fun y hy => ?_, ih⟩
    rcases List.mem_cons.mp hy with z | z
    · omega
    · have := i1 y z
      omega
theorem sorted_le (l : List Nat) (h : sortedS (l.map sg) = true) : l.Pairwise (· ≤ ·) := by
  cases l with
  | nil => exact List.Pairwise.nil
  | cons p r => exact rising_le r p h
theorem lt_of_le : ∀ l : List Nat, l.Pairwise (· ≤ ·) → l.Nodup → l.Pairwise (· < ·)
  | [], _, _ => .nil
  | x :: l, .cons up rest, .cons new once => .cons (fun y at_y => Nat.lt_of_le_of_ne (up y at_y) (new y at_y)) (lt_of_le l rest once)
theorem all_sg : ∀ l : List Str, (∀ x ∈ l, ∃ c, x = sg c) → l = (l.map hd1).map sg
  | [], _ => rfl
  | x :: l, h => by
    obtain ⟨c, rfl⟩ := h x List.mem_cons_self
    rw [List.map_cons, List.map_cons, ← all_sg l fun y hy => h y (List.mem_cons_of_mem _ hy)] <;> rfl
theorem sorted_is {ss : List Str} {l : List Nat} (hs : sortedS ss = true) (hn : ss.Nodup) (hm : ∀ k, k ∈ ss ↔ ∃ z ∈ l, k = sg z) : ss = (sigs l).map sg := by
  have e := all_sg ss fun x hx => let ⟨z, _, q⟩ := (hm x).mp hx; ⟨z, q⟩
  have hn2 : (ss.map hd1).Nodup := by
    rw [e] at hn
    exact (List.pairwise_map.mp hn).imp fun h q => h (by rw [q])
  have hs2 : sortedS ((ss.map hd1).map sg) = true := by rw [← e]; exact hs
  have q : ss.map hd1 = sigs l := by
    refine asc_eq _ _ (lt_of_le _ (sorted_le _ hs2) hn2) (asc_sigs l) fun k => ?_
    rw [mem_sigs, List.mem_map]
    constructor
    · rintro ⟨x, hx, rfl⟩
      obtain ⟨z, hz, rfl⟩ := (hm x).mp hx
      exact hz
    · intro hk
      exact ⟨sg k, (hm _).mpr ⟨k, hk, rfl⟩, rfl⟩
  rw [e, q]
theorem len_sigs (l : List Nat) : (sigs l).length ≤ l.length := by
  induction l with
  | nil => exact Nat.le_refl _
  | cons c r ih =>
    have h : ∀ m : List Nat, (ins c m).length ≤ m.length + 1 := by
      intro m
      induction m with
      | nil => exact Nat.le_refl _
      | cons d m ih2 =>
        unfold ins
        split
        · simp
        · split
          · simp
          · simp only [List.length_cons]
            omega
    show (ins c (sigs r)).length ≤ r.length + 1
    have := h (sigs r)
    omega
section
variable {P : Program} {w : World} {A : Around} {E : Value → Shared → Prop} {s : Shared} {a : Addr}
/-- sorted(the set of the signs of x): its signs, rising -/
theorem sorted_set {x : Str} {T : Str → Bool} {n : Nat} {Q : Value → Shared → Prop} (R : HasX w s.heap a T n) (hT : ∀ k, T k = x.cps.toList.any fun z => decide (k = ⟨#[z]⟩)) (calm : A.handled = none) (h64 : n < 64)
    (hQ : ∀ r p (out : Array Value) (c : Nat), (∀ b q, s.heap.get? b = some q → r.heap.get? b = some q) → r.gens = s.gens → r.os = s.os → s.heap.objs.size ≤ p →
      r.heap.get? p = some (seqObj "list" out c) → StrsAre out.toList ((sigs x.cps.toList).map sg) → Q (.ref p) r) : wpAny (model P w) A (call (.builtin "sorted") [.ref a]) Q E s := by
  obtain ⟨o, es, ep, t, ob, ex, dat, sz, F⟩ := R
  refine Calls.call_function_entry kind_sorted plain_sorted entry_sorted (args_sorted1 _) (wpAny_bind (m := checkCount "sorted" 1 1 _) (wpAny_pure (wpAny_bind ?_)))
  refine collect_set (A := A.in1) calm ⟨o, ob, ex.1, dat⟩ F.fit F.few F.ris F.led.symm fun r vs keep grows gens os perm => ?_
  have count : vs.length = n := by rw [← sz, perm.length_eq, List.length_map, Array.length_toList]
  have texts : StrsAre vs (vs.map strOf) := strsAre_map vs fun v at_v =>
    let ⟨e, at_e, q⟩ := List.mem_map.mp (perm.mem_iff.mp at_v)
    let ⟨k, tk, isStr, _⟩ := F.good e at_e
    ⟨k, tk, q ▸ isStr⟩
  have perm2 : (vs.map strOf).Perm (es.toList.map txOf) := by have := perm.map strOf; rw [List.map_map] at this; exact this
  refine wpAny_bind (wpAny_newList (wpAny_bind ?_) (by have := count; rw [sizeLine_eq]; omega))
  have listAt : (r.heap.push (seqObj "list" vs.toArray 0)).get? r.heap.objs.size = some (seqObj "list" vs.toArray 0) := Heap.get?_push_size _ rfl
  refine wpAny_holding (wpAny_call_entry slot_list_sort ⟨_, listAt, rfl⟩ entry_list_sort (list_sort_treeK (κ := PyProof.Rows.strKind) strKind_oneLt listAt texts.keysOf (fun v₁ v₂ rest e => keyKind_strs (e ▸ texts)) (by omega) fun st done isSorted => ⟨_, rfl, wpAny_pure ⟨_, rfl, ?_⟩⟩) (args_list_sort _))
  obtain ⟨ss, are, perm3, up⟩ := sorted_out_str texts done isSorted
  obtain ⟨c, outAt⟩ := sortedHeap_at (vs := vs) (out := (arrOf st).map (·.2)) listAt
  have all : ss.Perm (es.toList.map txOf) := perm3.trans perm2
  have eq : ss = (sigs x.cps.toList).map sg := sorted_is up (all.nodup_iff.mpr F.once) fun k => by
    rw [all.mem_iff, ← F.mem k, hT k, List.any_eq_true]
    exact ⟨fun ⟨z, at_z, e⟩ => ⟨z, at_z, of_decide_eq_true e⟩, fun ⟨z, at_z, e⟩ => ⟨z, at_z, decide_eq_true e⟩⟩
  refine hQ _ r.heap.objs.size _ c (fun b q at_b => ?_) gens os grows outAt (eq ▸ are)
  have below := Heap.lt_size (keep b q at_b)
  exact (sortedHeap_old (Nat.ne_of_lt below) (by rw [size_push']; exact Nat.lt_succ_of_lt below)).trans (Heap.get?_push_of_some _ (keep b q at_b))
end
/-- the set of the signs of x at a -/
def SetO (w : World) (a : Addr) (x : Str) : HO := .ext fun h => ∃ T n, HasX w h a T n ∧ n ≤ x.cps.size ∧ ∀ k, T k = x.cps.toList.any fun z => decide (k = ⟨#[z]⟩)
theorem setO_new {P : Program} {w : World} {H : Hp} {h : Heap} {a : Addr} {x : Str} {T : Str → Bool} {n : Nat} (R : HasX w h a T n) (hn : n ≤ x.cps.size) (hT : ∀ k, T k = x.cps.toList.any fun z => decide (k = ⟨#[z]⟩)) : ObjOk P w H h a (SetO w a x) := by
  refine ⟨⟨T, n, R, hn, hT⟩, ?_, fun h1 h2 p k => ?_⟩
  · exact let ⟨o, _, _, _, r⟩ := R; ⟨o, r.ob⟩
  · obtain ⟨T', n', R', q⟩ := p
    exact ⟨T', n', R'.at k, q⟩
theorem vals_strs : ∀ {vs : List Value} {ss : List Str}, StrsAre vs ss → Vals (ss.map V.str) vs
  | _, _, .nil => .nil
  | _, _, .cons x t r => .cons ⟨t, rfl⟩ (vals_strs r)
section
variable {X : Cx}
def rSetX (w : World) : List V → Hp → VK → Prop := fun xs H Q => ∃ x : Str, xs = [V.str x] ∧ x.cps.size < 64 ∧ ∀ a o, H a = none → o = SetO w a x → Q (.ref a) (upd H a o)
theorem call_setX (hc : X.calm = true) : CallR X (.type "set") (rSetX X.w) := by
  rintro pins s σ H _ us Q I r ⟨x, rfl, hx, q⟩
  rcases vals1 r with ⟨_, rfl, t, rfl⟩
  refine call_set (P := X.prog) (w := X.w) (I.ok.hd hc) (by unfold scanBound; omega) fun h' tk T c r1 r2 r3 k => ?_
  exact ⟨.ref s.heap.objs.size, upd H s.heap.objs.size (SetO X.w s.heap.objs.size x), I.laid (t' := tk) k (Nat.le_refl _) (setO_new r1 r2 r3), rfl, q _ _ (I.hok.fresh (Nat.le_refl _)) rfl⟩
def rSortX (w : World) : List V → Hp → VK → Prop := fun xs H Q => ∃ (a : Addr) (x : Str) (o : HO), xs = [V.ref a] ∧ H a = some o ∧ o = SetO w a x ∧ x.cps.size < 64 ∧ ∀ p, H p = none → Q (.ref p) (upd H p (.lst ((sigs x.cps.toList).map fun c => V.str (sg c))))
theorem cr_sortX (hc : X.calm = true) : CallR X (.builtin "sorted") (rSortX X.w) := by
  rintro pins s σ H _ us Q I r ⟨a, x, _, rfl, ha, rfl, hx, q⟩
  obtain ⟨T, n, R, hn, hT⟩ := (I.hok a _ ha).1
  rw [Vals.ref1 r]
  refine sorted_set (x := x) R hT (I.ok.hd hc) (by omega) fun s' p out c k g o hp hg hS => ?_
  have hlen : ((sigs x.cps.toList).map fun c => V.str (sg c)).length ≤ sizeLine := by
    have h1 : (sigs x.cps.toList).length ≤ x.cps.toList.length := len_sigs _
    have h2 : x.cps.toList.length = x.cps.size := Array.length_toList
    have h3 := sizeLine_eq
    rw [List.length_map]
    omega
  have free : H p = none := I.hok.fresh hp
  have hv : Vals ((sigs x.cps.toList).map fun c => V.str (sg c)) out.toList := by
    have := vals_strs hS
    rw [List.map_map] at this
    exact this
  have J : Inv X pins σ (upd H p (.lst ((sigs x.cps.toList).map fun c => V.str (sg c)))) { s with heap := s'.heap, gens := s'.gens, drawn := s'.drawn, toks := s'.toks } :=
    I.call (ch := []) (Un.laid k hp free) (I.hok.laid k hp ⟨hlen, _, c, hv, hg⟩) (g ▸ I.bare) nofun
  have same : { s with heap := s'.heap, gens := s'.gens, drawn := s'.drawn, toks := s'.toks } = s' := by
    rcases s with ⟨⟩; rcases s' with ⟨⟩; cases o; rfl
  exact same ▸ ⟨.ref p, _, J, rfl, q p free⟩
/-- list(text) -/
theorem vals_signs {x : Str} : ∀ (l : List Value) (cs : List Nat), l.length = cs.length → (∀ (i : Nat) (v : Value), l[i]? = some v → ∃ (c : Nat) (u : Tok), cs[i]? = some c ∧ v = Value.str ⟨#[c]⟩ u) → Vals (cs.map fun c => V.str (sg c)) l
  | [], [], _, _ => .nil
  | v :: l, c :: cs, h, q => by
    obtain ⟨c', u, e1, e2⟩ := q 0 v rfl
    have e3 : c = c' := Option.some.inj e1
    subst e3
    exact .cons ⟨u, e2⟩ (vals_signs (x := x) l cs (Nat.succ.inj h) fun i v' e => q (i + 1) v' e)
  | [], _ :: _, h, _ => nomatch h
  | _ :: _, [], h, _ => nomatch h
theorem call_listX (hc : X.calm = true) : CallR X (.type "list") (fun xs H Q => ∃ x : Str, xs = [V.str x] ∧ x.cps.size ≤ sizeLine ∧ ∀ l, H l = none → Q (.ref l) (upd H l (.lst (x.cps.toList.map fun c => V.str (sg c))))) := by
  rintro pins s σ H _ us Q I r ⟨x, rfl, hx, q⟩
  rcases vals1 r with ⟨_, rfl, t, rfl⟩
  refine call_list_str (I.ok.hd hc) x t (fun h' tk acc c k hS hacc => ?_) hx
  have hlen : (x.cps.toList.map fun c => V.str (sg c)).length ≤ sizeLine := by
    have h2 : x.cps.toList.length = x.cps.size := Array.length_toList
    rw [List.length_map, h2]
    exact hx
  have hv : Vals (x.cps.toList.map fun c => V.str (sg c)) acc.toList := by
    refine vals_signs (x := x) _ _ (by rw [Array.length_toList, hacc.1, Array.length_toList]) fun i v e => ?_
    rw [Array.getElem?_toList] at e
    obtain ⟨c, u, h1, h2⟩ := hacc.2 i v e
    exact ⟨c, u, by rw [Array.getElem?_toList]; exact h1, h2⟩
  exact ⟨.ref s.heap.objs.size, _, I.laid (t' := tk) k (Nat.le_refl _) (show ObjOk X.prog X.w _ h' _ (.lst _) from ⟨hlen, acc.toList, c, hv, hS⟩), rfl, q _ (I.hok.fresh (Nat.le_refl _))⟩
end
end TX
set_option Elab.async false
set_option linter.all false
set_option maxRecDepth 100000
set_option maxHeartbeats 4000000
namespace K1
abbrev W := List Nat
/-- the words of just k letters, and of at most k -/
def lay (L : W) : Nat → List W
  | 0 => [[]]
  | k + 1 => (lay L k).flatMap fun u => L.map fun c => u ++ [c]
def allW (L : W) : Nat → List W
  | 0 => [[]]
  | k + 1 => allW L k ++ lay L (k + 1)
/-- what is left behind the first c -/
def after (c : Nat) : W → Option W
  | [] => none
  | d :: r => if d = c then some r else after c r
/-- what is left behind the first place of a piece -/
def rest : W → W → Option W
  | [], w => some w
  | a :: u, w => (after a w).bind (rest u)
def isP (u w : W) : Bool := (rest u w).isSome
/-- what is left of a word, by the law's walk -/
def lp : W → W → W
  | u, [] => u
  | [], _ :: _ => []
  | a :: u, c :: w => if a = c then lp u w else lp (a :: u) w
/-- the pieces of just k letters, each with what is left behind it -/
def pl (S w : W) : Nat → List (W × W)
  | 0 => [([], w)]
  | k + 1 => (pl S w k).flatMap fun p => S.filterMap fun c => (after c p.2).map fun r => (p.1 ++ [c], r)
/-- the pieces of a word, as it is told -/
def told (w : W) (m : Nat) : List W := (allW (TX.sigs w) m).filter fun u => isP u w
/-- the place behind the first c from e on -/
def nx (w : W) (c e : Nat) : Option Nat := (after c (w.drop e)).map fun r => w.length - r.length
end K1
set_option Elab.async false
set_option linter.all false
set_option maxRecDepth 100000
set_option maxHeartbeats 4000000
namespace K1
open PySem PySem.Spec PyProof.Rows L2
open TX (sg sigs)
/-- the text of a word -/
def tx (w : W) : Str := ⟨w.toArray⟩
theorem tx_of (x : Str) : tx x.cps.toList = x := by
  unfold tx
  rw [Array.toArray_toList]
theorem tx_list (w : W) : (tx w).cps.toList = w := by
  show w.toArray.toList = w
  rw [List.toList_toArray]
theorem tx_len (w : W) : (tx w).length = w.length := by
  show w.toArray.size = w.length
  rw [List.size_toArray]
theorem join_eq0 (ps : List W) : Txt.join (tx []) (ps.map tx) = tx ps.flatten := by
  rw [TL.join_eq]
  have h := TL.tl_join (tx []) (ps.map tx)
  have e : ∀ qs : List (List Nat), TL.joinL [] qs = qs.flatten := by
    intro qs
    induction qs with
    | nil => rfl
    | cons p r ih =>
      cases r with
      | nil => simp [TL.joinL]
      | cons q r => simp [TL.joinL] at ih ⊢; exact ih
  have e1 : TL.tl (tx []) = [] := rfl
  rw [e1, e, List.map_map] at h
  have e2 : (TL.tl ∘ tx) = (id : W → W) := by
    funext u
    exact tx_list u
  rw [e2, List.map_id] at h
  have h2 : (Str.join (tx []) (ps.map tx)).cps.toList = ps.flatten := h
  rw [← tx_of (Str.join (tx []) (ps.map tx)), h2]
/-- the letters a to z -/
def Low (w : W) : Prop := ∀ c ∈ w, 97 ≤ c ∧ c ≤ 122
theorem uni : ∀ k : Fin 26, Unicode.isAlpha (97 + k.val) = true ∧ Unicode.isLower (97 + k.val) = true ∧ Unicode.isUpper (97 + k.val) = false ∧ Unicode.isTitle (97 + k.val) = false := by decide +kernel
theorem uni_low {c : Nat} (h : 97 ≤ c ∧ c ≤ 122) : Unicode.isAlpha c = true ∧ Unicode.isLower c = true ∧ Unicode.isUpper c = false ∧ Unicode.isTitle c = false := by
  have := uni ⟨c - 97, by omega⟩
  have e : 97 + (c - 97) = c := by omega
  simp only [e] at this
  exact this
theorem low_facts {w : W} (h : Low w) (hne : w ≠ []) : Txt.isascii (tx w) = true ∧ Txt.isalpha (tx w) = true ∧ Txt.islower (tx w) = true := by
  refine ⟨?_, ?_, ?_⟩
  · show (w.toArray).all _ = true
    rw [List.all_toArray, List.all_eq_true]
    intro c hc
    have := h c hc
    simp only [decide_eq_true_eq]
    omega
  · show ((decide ((tx w).length > 0)) && (w.toArray).all _) = true
    rw [List.all_toArray, tx_len, Bool.and_eq_true]
    refine ⟨decide_eq_true (List.length_pos_iff.mpr hne), ?_⟩
    rw [List.all_eq_true]
    exact fun c hc => (uni_low (h c hc)).1
  · show ((w.toArray).any _ && !(w.toArray).any _) = true
    rw [List.any_toArray, List.any_toArray, Bool.and_eq_true]
    constructor
    · rw [List.any_eq_true]
      obtain ⟨c, r, rfl⟩ : ∃ c r, w = c :: r := by
        cases w with
        | nil => exact absurd rfl hne
        | cons c r => exact ⟨c, r, rfl⟩
      exact ⟨c, List.mem_cons_self, (uni_low (h c List.mem_cons_self)).2.1⟩
    · rw [Bool.not_eq_true', List.any_eq_false]
      intro c hc
      have := uni_low (h c hc)
      rw [this.2.2.1, this.2.2.2]
      exact Bool.false_ne_true
end K1
set_option Elab.async false
set_option linter.all false
set_option maxRecDepth 100000
set_option maxHeartbeats 8000000
namespace WK
open PySem L2 PyProof.Rows K1
open TX (sg sigs)
open PySem.W (Frag kitOne)
/-- a def of the module by its name -/
structure Fn (K : Frag) (mg : Str → Option Value) (nm : Str) (st : Stmt) (ps : List Str) (f : Addr) (fd : FuncData) : Prop where
  g : mg nm = some (.ref f)
  F : Fun K nm nm st f fd
  b : L2.Binds K fd ps []
structure TN (mg : Str → Option Value) : Prop where
  len : mg "len" = none
  int : mg "int" = none
  abs : mg "abs" = none
  isi : mg "isinstance" = none
  bool : mg "bool" = none
  str : mg "str" = none
  all : mg "all" = none
  rng : mg "range" = none
  sorted : mg "sorted" = none
  set : mg "set" = none
  tuple : mg "tuple" = none
  list : mg "list" = none
  max : mg "max" = none
  min : mg "min" = none
  zip : mg "zip" = none
  most : ∃ t, mg "MAX_LETTERS" = some (.int 3 t)
theorem TN.dice {mg : Str → Option Value} (T : TN mg) : TDice mg := ⟨T.len, T.int, T.abs⟩
abbrev sIsInt : Stmt := top 26
abbrev sIsNum : Stmt := top 27
abbrev sNeedNum : Stmt := top 28
abbrev sAsc : Stmt := top 30
abbrev sIsLet : Stmt := top 38
abbrev sIsWord : Stmt := top 39
abbrev sIsOver : Stmt := top 41
abbrev sNeedLet : Stmt := top 42
abbrev sNeedOver : Stmt := top 44
theorem same_upd {H : Hp} {p : Addr} {o : HO} (h : H p = none) : Same H (upd H p o) := fun b u e => by rw [upd_ne (ne_of_none e h)]; exact e
theorem same_at {H H1 : Hp} {p : Addr} {o : HO} (s : Same H H1) (h : H p = none) : Same H (upd H1 p o) := fun b u e => by rw [upd_ne (ne_of_none e h)]; exact s b u e
theorem same_two {H H1 : Hp} {p : Addr} {o : HO} (s : Same H H1) (h : H1 p = none) : Same H (upd H1 p o) := s.trans (same_upd h)
theorem pe_ty {X : Cx} {x : Str} {pos : Pos} (n : String) (hm : X.mg x = none) (hv : bootBuiltins x = some (.type n)) (hg : Gl X x := by rfl) (hn : x ≠ "__name__" := by decide) (hd : (x == ("__debug__" : Str)) = false := by decide) : PE X (.Name x pos) (tC (.ty n)) := pe_bltn hg hm hv rfl hn hd
/-- a set of letters: one to three, ascending, of a to z -/
structure Let (L : W) : Prop where
  low : Low L
  asc : L.Pairwise (· < ·)
  ne : L ≠ []
  few : L.length ≤ 3
/-- what is told of a text: whether it is a word -/
def wordB (x : Str) : Bool := if x = "" then true else if Txt.isascii x = true then if Txt.isalpha x = true then Txt.islower x else false else false
theorem wordB_low {w : W} (h : Low w) : wordB (tx w) = true := by
  unfold wordB
  by_cases e : tx w = ""
  · rw [if_pos e]
  · rw [if_neg e]
    have hne : w ≠ [] := fun z => e (by rw [z] <;> rfl)
    obtain ⟨h1, h2, h3⟩ := low_facts h hne
    rw [if_pos h1, if_pos h2, h3]
def ascB (w : W) : Bool := decide (w.Pairwise (· < ·))
def letB (x : Str) : Bool := wordB x && (decide (1 ≤ x.length) && decide (x.length ≤ 3)) && ascB x.cps.toList
theorem letB_let {L : W} (h : Let L) : letB (tx L) = true := by
  unfold letB
  rw [wordB_low h.low, tx_len, tx_list]
  have h1 : ascB L = true := decide_eq_true h.asc
  have h2 := List.length_pos_iff.mpr h.ne
  rw [h1, decide_eq_true (show 1 ≤ L.length from h2), decide_eq_true h.few] <;> rfl
def spAsc : Sp := fun vs H Q _ => ∃ w : W, vs = [.str (tx w)] ∧ w ≠ [] ∧ w.length ≤ 1000 ∧ ∀ H', Same H H' → Q (.bl (ascB w)) H'
/-- no text -/
def NoText (K : Frag) (H : Hp) (v : V) : Prop := ∃ t, TyX K H v (.type t) ∧ PySem.W.kitOne K (.type t) (.type "str") = some false
def spIsWord (K : Frag) : Sp := fun vs H Q _ => ∃ v, vs = [v] ∧ ((∃ x, v = .str x ∧ Q (.bl (wordB x)) H) ∨ (NoText K H v ∧ Q (.bl false) H))
def spIsLet (K : Frag) : Sp := fun vs H Q _ => ∃ v, vs = [v] ∧ ((∃ x : Str, v = .str x ∧ x.length ≤ 1000 ∧ ∀ H', Same H H' → Q (.bl (letB x)) H') ∨ (NoText K H v ∧ Q (.bl false) H))
section
variable {P : Program} {w : World} {K : PySem.W.Frag} {mg : Str → Option Value} {base : Heap}
theorem scII : FnScope ["value"] ["value"] (defScope sIsInt) := ⟨rfl, rfl, rfl, by decide +kernel, rfl, by decide +kernel, by decide +kernel⟩
theorem scIN : FnScope ["value", "least", "most"] ["value", "least", "most"] (defScope sIsNum) := ⟨rfl, rfl, rfl, by decide +kernel, rfl, by decide +kernel, by decide +kernel⟩
theorem scNN : FnScope ["value", "least", "most"] ["value", "least", "most"] (defScope sNeedNum) := ⟨rfl, rfl, rfl, by decide +kernel, rfl, by decide +kernel, by decide +kernel⟩
theorem scAs : FnScope ["values", "at"] ["values"] (defScope sAsc) := ⟨rfl, rfl, rfl, by decide +kernel, rfl, by decide +kernel, by decide +kernel⟩
theorem lt_one (a b : Nat) : decide ((sg a).cps.toList < (sg b).cps.toList) = decide (a < b) := by
  rw [← ltCps_eq, TX.lt_sg]
/-- each less than the next -/
def adj (w : W) (i : Nat) : Bool := decide (w.getD i 0 < w.getD (i + 1) 0)
theorem adj_asc : ∀ (w : W), w ≠ [] → ((List.range (w.length - 1)).map (adj w)).all id = ascB w
  | [], h => absurd rfl h
  | [a], _ => by simp [ascB]
  | a :: b :: r, _ => by
    have ih := adj_asc (b :: r) (by simp)
    have e : (a :: b :: r).length - 1 = (b :: r).length - 1 + 1 := by simp
    rw [e, List.range_succ_eq_map, List.map_cons, List.all_cons, List.map_map]
    have e2 : (adj (a :: b :: r) ∘ Nat.succ) = adj (b :: r) := by
      funext i
      rfl
    rw [e2, ih]
    show (decide (a < b) && ascB (b :: r)) = ascB (a :: b :: r)
    unfold ascB
    rw [← Bool.decide_and]
    apply decide_eq_decide.mpr
    rw [List.pairwise_cons (a := a)]
    constructor
    · rintro ⟨h1, h2⟩
      refine ⟨fun y hy => ?_, h2⟩
      rcases List.mem_cons.mp hy with z | z
      · omega
      · have := (List.pairwise_cons.mp h2).1 y z
        omega
    · rintro ⟨h1, h2⟩
      exact ⟨h1 b List.mem_cons_self, h2⟩
theorem ok_asc {f : Addr} {fd : FuncData} (F : Fun K "ascends" "ascends" sAsc f fd) (T : TN mg) : FnOk P w K mg base CX0 1 f fd ["values"] spAsc := by
  refine F.ok scAs (fun vs H Q E h => ?_) (fun cdv A outer s H vs Q E hr h => ?_)
  · obtain ⟨w, rfl, _⟩ := h
    rfl
  · obtain ⟨w, rfl, hne, hl, q⟩ := h
    have hpos := List.length_pos_iff.mpr hne
    refine ⟨_, pss_one (ps_ret (pe_callB (cr_all rfl) (by rfl) T.all (by decide +kernel) (pa_cons (pe_lc (own := [("at", 1)]) (g := gName 1) (tt := tYes) rfl scAs.nd
      (pi_range1 rfl T.rng (pa_cons (pe_op op_sub (pe_callB call_len_str (by rfl) T.len PySem.boot_len (pa_cons (pv 0) pa_nil)) pe_int) pa_nil))
      (blkOk_by (own := [("at", 1)]) (N := ["values", "at"]) (sc := defScope sAsc) (by decide +kernel)) (fun _ _ _ _ _ => pg_name (i := 1) scAs.nd rfl (Or.inl rfl)) (fun _ _ _ _ _ => pts_nil)
      (fun _ _ _ _ _ => pe_cmpR op_lt_str (pe_ix ix_str (pv 0) (pv 1) (fun _ _ => rfl)) (pe_ix ix_str (pv 0) (pe_op op_add (pv 1) pe_int) (fun _ _ => rfl)) (nomark _))) pa_nil))), ?_⟩
    refine ⟨_, rfl, _, rfl, ?_, _, _, rfl, rfl, _, rfl, ?_, ?_, fun D hD => ?_⟩
    · rw [tx_len, sizeLine_eq]; omega
    · rw [tx_len]; omega
    · rw [tx_len]; omega
    · rw [tx_len]
      have e1 : ((w.length : Int) - 1) = ((w.length - 1 : Nat) : Int) := by omega
      rw [e1]
      refine lc_range (lo := 0) (n := w.length - 1) (fun i H1 => Same H H1 ∧ H1 D = some (.lst (((List.range i).map (adj w)).map V.bl))) ?_ ?_ ?_
      · exact ⟨same_upd hD, upd_same⟩
      · rintro i H1 hi ⟨s1, hd⟩
        have hz : (tx w).length ≤ sizeLine := by rw [tx_len, sizeLine_eq]; omega
        have at1 : atI (tx w).cps.toList (0 + (i : Int)) = some (w.getD i 0) := by
          rw [tx_list, Int.zero_add]
          exact atI_nat (by rw [List.getD_eq_getElem?_getD, List.getElem?_eq_getElem (by omega)] <;> rfl)
        have at2 : atI (tx w).cps.toList (0 + (i : Int) + 1) = some (w.getD (i + 1) 0) := by
          have e2 : (0 + (i : Int) + 1) = ((i + 1 : Nat) : Int) := by omega
          rw [tx_list, e2]
          exact atI_nat (by rw [List.getD_eq_getElem?_getD, List.getElem?_eq_getElem (by omega)] <;> rfl)
        refine ⟨rfl, _, rfl, _, rfl, _, _, w.getD i 0, rfl, rfl, hz, at1, _, rfl, _, rfl, _, _, rfl, rfl, _, _, w.getD (i + 1) 0, rfl, rfl, hz, at2, _, _, rfl, rfl, _, hd, ?_, same_at s1 hD, ?_⟩
        · rw [List.length_map, List.length_map, List.length_range, sizeLine_eq]
          omega
        · have e3 := lt_one (w.getD i 0) (w.getD (i + 1) 0)
          rw [e3, upd_same, List.range_succ, List.map_append, List.map_append] <;> rfl
      · rintro H1 ⟨s1, hd⟩
        refine ⟨D, _, rfl, SqL.of hd, ?_⟩
        rw [adj_asc w hne]
        exact q _ s1
theorem scIW : FnScope ["value"] ["value"] (defScope sIsWord) := ⟨rfl, rfl, rfl, by decide +kernel, rfl, by decide +kernel, by decide +kernel⟩
theorem ok_isword {f : Addr} {fd : FuncData} (F : Fun K "is_word" "is_word" sIsWord f fd) (T : TN mg) : FnOk P w K mg base CX0 1 f fd ["value"] (spIsWord K) := by
  refine F.ok scIW (fun vs H Q E h => ?_) (fun cdv A outer s H vs Q E hr h => ?_)
  · obtain ⟨v, rfl, _⟩ := h
    rfl
  · obtain ⟨v, rfl, h⟩ := h
    refine ⟨_, pss_cons (ps_if (pt_not (pt_val (pe_callB call_isi (by rfl) T.isi (by decide +kernel) (pa_cons (pv 0) (pa_cons (pe_ty "str" T.str (by decide +kernel)) pa_nil))))) (pss_one (ps_ret pe_bl)) pss_nil)
      (pss_one (ps_ret (pe_or (pe_cmpR op_eq (pv 0) pe_str (nomark _))
        (pe_one (pe_and (pe_m0 PySem.F.slot_str_isascii PySem.F.type_str_isascii mt_isascii (pv 0))
          (pe_and (pe_m0 PySem.F.slot_str_isalpha PySem.F.type_str_isalpha mt_isalpha (pv 0)) (pe_one (pe_m0 PySem.F.slot_str_islower PySem.F.type_str_islower mt_islower (pv 0))))))))), ?_⟩
    rcases h with ⟨x, rfl, q⟩ | ⟨⟨t, ty, hk⟩, q⟩
    · refine ⟨_, rfl, _, _, _, _, true, rfl, .ty "str", .base (.str _), kit_ty (by decide +kernel), true, rfl, ?_⟩
      refine ⟨_, rfl, rfl, _, rfl, ?_⟩
      unfold wordB at q
      by_cases h1 : x = ""
      · rw [if_pos h1] at q
        rw [if_pos (decide_eq_true (by rw [h1]))]
        exact q
      · rw [if_neg h1] at q
        rw [if_neg (fun z => h1 (V.str.inj (of_decide_eq_true z)))]
        refine ⟨_, rfl, ⟨_, rfl⟩, _, rfl, rfl, trivial, _, rfl, ?_⟩
        by_cases h2 : Txt.isascii x = true
        · rw [if_pos h2] at q ⊢
          refine ⟨_, rfl, ⟨_, rfl⟩, _, rfl, rfl, trivial, _, rfl, ?_⟩
          by_cases h3 : Txt.isalpha x = true
          · rw [if_pos h3] at q ⊢
            exact ⟨_, rfl, ⟨_, rfl⟩, _, rfl, rfl, trivial, q⟩
          · rw [if_neg h3] at q ⊢
            exact q
        · rw [if_neg h2] at q ⊢
          exact q
    · refine ⟨_, rfl, _, _, _, _, false, rfl, .ty "str", ty, hk, false, rfl, ?_⟩
      exact q
theorem scIL : FnScope ["value"] ["value"] (defScope sIsLet) := ⟨rfl, rfl, rfl, by decide +kernel, rfl, by decide +kernel, by decide +kernel⟩
theorem ok_islet {f g h : Addr} {fd gd hd : FuncData} (F : Fun K "is_letters" "is_letters" sIsLet f fd) (T : TN mg) (A1 : Fn K mg "is_word" sIsWord ["value"] g gd) (A2 : Fn K mg "ascends" sAsc ["values"] h hd) : FnOk P w K mg base CX0 2 f fd ["value"] (spIsLet K) := by
  have G1 : FnOk P w K mg base CX0 1 g gd _ (spIsWord K) := ok_isword A1.F T
  have G2 : FnOk P w K mg base CX0 1 h hd _ spAsc := ok_asc A2.F T
  obtain ⟨tM, hM⟩ := T.most
  refine F.ok scIL (fun vs H Q E h => ?_) (fun cdv A outer s H vs Q E hr h => ?_)
  · obtain ⟨v, rfl, _⟩ := h
    rfl
  · obtain ⟨v, rfl, h⟩ := h
    refine ⟨_, pss_one (ps_ret (pe_and (pe_call G1 hr rfl A1.g A1.F.kp A1.b .nil pass0 (pa_cons (pv 0) pa_nil))
      (pe_and (pe_chain op_le op_le pe_int (pe_callB call_len_str (by rfl) T.len PySem.boot_len (pa_cons (pv 0) pa_nil)) (pe_glob rfl hM (show RelV (.int 3) (.int 3 tM) from ⟨tM, rfl⟩)))
        (pe_one (pe_call G2 hr rfl A2.g A2.F.kp A2.b .nil pass0 (pa_cons (pv 0) pa_nil)))))), ?_⟩
    rcases h with ⟨x, rfl, hx, q⟩ | ⟨hn, q⟩
    · unfold letB at q
      refine ⟨_, rfl, _, rfl, .inl ⟨x, rfl, ?_⟩⟩
      refine ⟨_, rfl, ?_⟩
      by_cases h1 : wordB x = true
      · rw [if_pos h1]
        rw [h1] at q
        have hz : x.length ≤ sizeLine := by rw [sizeLine_eq]; omega
        refine ⟨_, rfl, _, rfl, hz, _, _, rfl, rfl, _, rfl, ?_⟩
        by_cases h2 : 1 ≤ x.length
        · have h2' : ((1 : Int) ≤ (x.length : Int)) := by omega
          rw [if_pos (decide_eq_true h2')]
          refine ⟨_, _, rfl, rfl, _, rfl, ?_⟩
          by_cases h3 : x.length ≤ 3
          · have h3' : ((x.length : Int) ≤ 3) := by omega
            rw [if_pos (decide_eq_true h3')]
            rw [decide_eq_true h2, decide_eq_true h3] at q
            refine ⟨_, rfl, x.cps.toList, (by rw [tx_of]; rfl), ?_, ?_, fun H' s1 => q H' s1⟩
            · intro z
              have : x.cps.toList.length = x.length := Array.length_toList
              rw [z] at this
              have h0 : x.length = 0 := this.symm
              omega
            · have : x.cps.toList.length = x.length := Array.length_toList
              omega
          · have h3' : ¬ ((x.length : Int) ≤ 3) := by omega
            rw [decide_eq_true h2, decide_eq_false h3] at q
            rw [if_neg (fun z => h3' (of_decide_eq_true z))]
            exact q _ (Same.refl _)
        · have h2' : ¬ ((1 : Int) ≤ (x.length : Int)) := by omega
          rw [if_neg (fun z => h2' (of_decide_eq_true z))]
          rw [decide_eq_false h2] at q
          exact ⟨_, rfl, q _ (Same.refl _)⟩
      · have h1' : wordB x = false := eq_false_of_ne_true h1
        rw [if_neg h1]
        rw [h1'] at q
        exact q _ (Same.refl _)
    · refine ⟨_, rfl, _, rfl, .inr ⟨hn, ?_⟩⟩
      exact ⟨_, rfl, q⟩
theorem scIO : FnScope ["letters", "word", "letter"] ["letters", "word"] (defScope sIsOver) := ⟨rfl, rfl, rfl, by decide +kernel, rfl, by decide +kernel, by decide +kernel⟩
theorem size_tx (u : W) : (tx u).cps.size = u.length := List.size_toArray
theorem scNL : FnScope ["letters"] ["letters"] (defScope sNeedLet) := ⟨rfl, rfl, rfl, by decide +kernel, rfl, by decide +kernel, by decide +kernel⟩
theorem scNO : FnScope ["letters", "word"] ["letters", "word"] (defScope sNeedOver) := ⟨rfl, rfl, rfl, by decide +kernel, rfl, by decide +kernel, by decide +kernel⟩
end
end WK
set_option Elab.async false
set_option linter.all false
set_option maxRecDepth 100000
set_option maxHeartbeats 8000000
namespace WK
open PySem L2 PyProof.Rows K1
open TX (sg sigs)
open PySem.W (Frag kitOne)
abbrev sMixed : Stmt := top 109
abbrev sLetters : Stmt := top 110
theorem but_at {p a : Addr} {H H1 : Hp} {o : HO} (B : But p H H1) (h : H a = none) : But p H (upd H1 a o) := fun b u e n => by rw [upd_ne (ne_of_none e h)]; exact B b u e n
theorem but_two {p a : Addr} {H H1 : Hp} {o : HO} (B : But p H H1) (h : H1 a = none) : But p H (upd H1 a o) := B.trans (But.ofSame (same_upd h))
theorem DiceAt.keep {H H' : Hp} {p : Addr} (h : DiceAt H p) (k : ∀ o, H p = some o → H' p = some o) : DiceAt H' p := by
  obtain ⟨a, b, c, e, r⟩ := h
  exact ⟨a, b, c, k _ e, r⟩
theorem DiceAt.new {H : Hp} {p a : Addr} {o : HO} (h : DiceAt H p) (ha : H a = none) : DiceAt (upd H a o) p := h.keep fun _ e => same_upd ha _ _ e
theorem DiceAt.ne {H : Hp} {p a : Addr} (h : DiceAt H p) (ha : H a = none) : a ≠ p := fun z => by
  obtain ⟨_, _, _, e, _⟩ := h
  rw [← z, ha] at e
  cases e
theorem dp_strs {K : Frag} {H : Hp} : ∀ ys : List Str, DpAll K H (ys.map V.str) (ys.map PyData.str)
  | [] => .nil
  | y :: ys => .cons (.str y) (dp_strs ys)
theorem shaped_strs (ys : List Str) (h : ∀ y ∈ ys, PyData.canLay0 (.str y) = true) : SeqAt.shaped (.list (ys.map PyData.str)) = true ∧ SeqAt.shaped (.tuple (ys.map PyData.str)) = true := by
  have h1 : ∀ ys : List Str, (∀ y ∈ ys, PyData.canLay0 (.str y) = true) → PyData.canLayAll0 (ys.map PyData.str) = true := by
    intro ys
    induction ys with
    | nil => intro _; rfl
    | cons y ys ih =>
      intro h
      show (PyData.canLay0 (.str y) && PyData.canLayAll0 (ys.map PyData.str)) = true
      rw [h y List.mem_cons_self, ih fun z hz => h z (List.mem_cons_of_mem _ hz)] <;> rfl
  have h2 : ∀ ys : List Str, PyData.depthAll (ys.map PyData.str) = 0 := by
    intro ys
    induction ys with
    | nil => rfl
    | cons y ys ih =>
      show max (PyData.depth (.str y)) (PyData.depthAll (ys.map PyData.str)) = 0
      rw [ih] <;> rfl
  constructor
  · show (PyData.canLayAll0 _ && decide (PyData.depthAll _ + 1 ≤ 64)) = true
    rw [h1 ys h, h2 ys] <;> rfl
  · show (PyData.canLayAll0 _ && decide (PyData.depthAll _ + 1 ≤ 64)) = true
    rw [h1 ys h, h2 ys] <;> rfl
theorem eqv_nil (ys : List Str) : PyData.eqv (.list (ys.map PyData.str)) (.list []) = ys.isEmpty := by
  cases ys <;> rfl
theorem seqIx {i : Int} {n : Nat} (h0 : 0 ≤ i) (h1 : i < (n : Int)) : seqIndex? i n = some i.toNat := by
  unfold seqIndex?
  have e : ¬ i < 0 := by omega
  simp only [e, if_false]
  rw [decide_eq_true h0, decide_eq_true h1] <;> rfl
theorem map_erase {α β : Type} (f : α → β) : ∀ (xs : List α) (k : Nat), (xs.map f).eraseIdx k = (xs.eraseIdx k).map f
  | [], _ => rfl
  | _ :: _, 0 => rfl
  | x :: xs, k + 1 => by
    show f x :: (xs.map f).eraseIdx k = f x :: (xs.eraseIdx k).map f
    rw [map_erase f xs k]
def spMixed : Sp := fun vs H Q _ => ∃ (p q : Addr) (ys : List Str), vs = [.ref p, .ref q] ∧ DiceAt H p ∧ q ≠ p ∧ H q = some (.lst (ys.map V.str)) ∧ ys.length < 100 ∧ (∀ y ∈ ys, PyData.canLay0 (.str y) = true) ∧
  ∀ (r : Addr) (zs : List Str) (H' : Hp), zs.Perm ys → H r = none → DiceAt H' p → But p H H' → H' r = some (.lst (zs.map V.str)) → r ≠ p → Q (.ref r) H'
section
variable {P : Program} {w : World} {K : PySem.W.Frag} {mg : Str → Option Value} {base : Heap}
variable {fR fM fO : Addr} {dR dM dO : FuncData}
def muMix : L2.St → Hp → Nat := fun σ H => match σ with
  | [_, _, some (.ref l), _] => (match H l with | some (.lst xs) => xs.length | _ => 0)
  | _ => 0
theorem scMi : FnScope ["_law_dice_here", "_law_items", "_law_left", "_law_found"] ["_law_dice_here", "_law_items"] (defScope sMixed) := ⟨rfl, rfl, rfl, by decide +kernel, rfl, by decide +kernel, by decide +kernel⟩
theorem ok_mixed {f : Addr} {fd : FuncData} (F : Fun K "_law_mixed" "_law_mixed" sMixed f fd) (T : TN mg) (AR : Fn K mg "_law_roll" sRoll ["_law_dice_here", "_law_total"] fR dR) : FnOk P w K mg base CX0 2 f fd ["_law_dice_here", "_law_items"] spMixed := by
  have GR : FnOk P w K mg base CX0 1 fR dR ["_law_dice_here", "_law_total"] spRoll := ok_roll AR.F T.dice
  refine F.ok scMi (fun vs H Q E h => ?_) (fun cdv A outer s H vs Q E hr h => ?_)
  · obtain ⟨u, n, _, rfl, _⟩ := h
    rfl
  · obtain ⟨p, q, ys, rfl, hD, hqp, hq, hl, hy, qq⟩ := h

    refine ⟨_, pss_cons (ps_par (i := 2) (j := 3) (by rfl) scMi.nd rfl rfl (by decide) rfl rfl (pa_cons (pe_callTy call_list_of (by rfl) T.list (by decide +kernel) (pa_cons (pv 1) pa_nil)) (pa_cons (pe_lst pa_nil) pa_nil)) (by rfl))
      (pss_cons (ps_while PassesOwn.never (pt_cmpR (op_neD hr.units) (pv 2) (pe_lst pa_nil) (nomark _))
        (pss_one (ps_expr (pe_bm PySem.F.plainAttrs_list PySem.F.slot_list_append PySem.F.type_list_append mt_append (pv 3) (pa_cons
          (pe_bm PySem.F.plainAttrs_list PySem.F.slot_list_pop PySem.F.type_list_pop mt_popAt (pv 2) (pa_cons
            (pe_call GR hr rfl AR.g AR.F.kp AR.b .nil pass0 (pa_cons (pv 0) (pa_cons (pe_callB call_len_seq (by rfl) T.len PySem.boot_len (pa_cons (pv 2) pa_nil)) pa_nil))) pa_nil)) pa_nil)))))
      (pss_one (ps_ret (pv 3)))), ?_⟩
    refine ⟨_, rfl, q, _, rfl, .inl (SqL.of hq), fun l hl1 => ⟨(by show 0 ≤ sizeLine; decide), fun r hr1 => ⟨_, _, rfl, ?_⟩⟩⟩
    refine while_by (fun σ H1 => ∃ zs fs : List Str, σ = [some (.ref p), some (.ref q), some (.ref l), some (.ref r)] ∧ DiceAt H1 p ∧ But p H H1 ∧ H1 l = some (.lst (zs.map V.str)) ∧ H1 r = some (.lst (fs.map V.str)) ∧ (zs ++ fs).Perm ys) muMix ?_ ?_ ?_
    · exact ⟨ys, [], rfl, (hD.new hl1).new hr1, But.ofSame (same_two (same_upd hl1) hr1), same_upd hr1 _ _ upd_same, upd_same, by rw [List.append_nil]⟩
    · have nr : H r = none := (same_upd hl1).free hr1
      have lp := hD.ne hl1
      have rp := hD.ne nr
      have lr : l ≠ r := fun z => by rw [← z, upd_same] at hr1; cases hr1
      rintro σ H1 ⟨zs, fs, rfl, hD1, hB1, hz, hf, hp⟩
      have hzy : ∀ y ∈ zs, PyData.canLay0 (.str y) = true := fun y hm => hy y (hp.mem_iff.mp (List.mem_append_left _ hm))
      have hlen : zs.length + fs.length = ys.length := by rw [← List.length_append, hp.length_eq]
      refine ⟨_, rfl, (by show 0 ≤ sizeLine; decide), fun e he => ⟨.list (zs.map PyData.str), .list [], .lst (SqL.of (same_upd he _ _ hz)) (dp_strs zs), .lst (SqL.of upd_same) .nil, (shaped_strs zs hzy).1, by decide, _, rfl, ?_⟩⟩
      rw [eqv_nil]
      have eD := hD1.new he (o := .lst [])
      have eB : But p H (upd H1 e (.lst [])) := but_two hB1 he
      have ez := same_upd he (o := .lst []) _ _ hz
      have ef := same_upd he (o := .lst []) _ _ hf
      generalize upd H1 e (.lst []) = H2 at eD eB ez ef ⊢
      cases zs with
      | nil => exact ⟨_, rfl, qq r fs _ hp nr eD eB ef rp⟩
      | cons z zs =>
        have len : (((z :: zs).map V.str).length : Int) = (z :: zs).length := by rw [List.length_map]
        have len2 : (z :: zs).length < 100 := by omega
        have len3 : 0 < (z :: zs).length := Nat.succ_pos _
        refine ⟨_, rfl, .inl ⟨rfl, _, SqL.of ef⟩, _, rfl, .inl ⟨rfl, _, SqL.of ez⟩, _, rfl, _, rfl, l, _, rfl, .inl (SqL.of ez), p, _, rfl, eD, by rw [len]; omega, by rw [len]; omega, fun i H3 hi0 hi1 hD3 hB3 => ?_⟩
        rw [len] at hi1
        have hk : i.toNat < (z :: zs).length := by omega
        have hz3 := hB3 _ _ ez lp
        have hf3 := hB3 _ _ ef rp
        have hget : ((z :: zs).map V.str)[i.toNat]? = some (V.str (z :: zs)[i.toNat]) := by rw [List.getElem?_map, List.getElem?_eq_getElem hk] <;> rfl
        have hidx : seqIndex? i ((z :: zs).map V.str).length = some i.toNat := by
          exact seqIx hi0 (by rw [len]; exact hi1)
        refine ⟨l, _, i, i.toNat, _, rfl, rfl, hz3, by omega, by omega, hidx, hget, r, _, _, rfl, rfl, (by rw [upd_ne (Ne.symm lr)]; exact hf3), ?_, ?_, ?_⟩
        · rw [List.length_map, sizeLine_eq]
          omega
        · refine ⟨(z :: zs).eraseIdx i.toNat, fs ++ [(z :: zs)[i.toNat]], rfl, ?_, ?_, ?_, ?_, ?_⟩
          · exact hD3.keep fun o e => by rw [upd_ne (Ne.symm rp), upd_ne (Ne.symm lp)]; exact e
          · exact but_at (but_at (eB.trans hB3) hl1) nr
          · rw [upd_ne lr, upd_same, map_erase]
          · rw [upd_same, List.map_append] <;> rfl
          · refine List.Perm.trans ?_ hp
            have h1 := erase_perm (z :: zs) i.toNat _ (List.getElem?_eq_getElem hk)
            refine List.Perm.trans ?_ (h1.append_right fs)
            show List.Perm (_ ++ (fs ++ [_])) (_ :: (_ ++ fs))
            rw [← List.append_assoc]
            exact List.perm_append_singleton _ _
        · show (match (upd (upd H3 l _) r _) l with | some (.lst xs) => xs.length | _ => 0) < (match H1 l with | some (.lst xs) => xs.length | _ => 0)
          rw [upd_ne lr, upd_same, hz]
          show (((z :: zs).map V.str).eraseIdx i.toNat).length < ((z :: zs).map V.str).length
          rw [List.length_eraseIdx, if_pos (by rw [List.length_map]; exact hk), List.length_map]
          omega
    · exact fun σ H Q Q' hm ⟨v, hv, hl, h⟩ => ⟨v, hv, hl, fun l hl' => let ⟨d, e, a, b, c, dd, k, hk, q⟩ := h l hl'; ⟨d, e, a, b, c, dd, k, hk, hm _ _ q⟩⟩
end
end WK
set_option Elab.async false
set_option linter.all false
set_option maxRecDepth 100000
set_option maxHeartbeats 8000000
namespace WK
open PySem L2 PyProof.Rows K1
open TX (sg sigs)
open PySem.W (Frag kitOne)
theorem but_free {p a : Addr} {H H1 : Hp} (B : But p H H1) (ha : H1 a = none) (hne : a ≠ p) : H a = none := by
  cases e : H a with
  | none => rfl
  | some o => rw [B a o e hne] at ha; cases ha
theorem flat_one (us : W) : (us.map fun c => [c]).flatten = us := by
  induction us with
  | nil => rfl
  | cons c us ih => rw [List.map_cons, List.flatten_cons, ih] <;> rfl
theorem join_sg (us : W) : Txt.join (tx []) (us.map sg) = tx us := by
  have e : us.map sg = (us.map fun c => [c]).map tx := by rw [List.map_map] <;> rfl
  rw [e, join_eq0, flat_one]
theorem sum_sg (us : W) : ((us.map sg).map (·.length)).sum = us.length := by
  induction us with
  | nil => rfl
  | cons c us ih =>
    rw [List.map_cons, List.map_cons, List.sum_cons, ih, List.length_cons]
    show 1 + us.length = us.length + 1
    omega
theorem cut_take {α : Type} (f : α → V) (zs : List α) (n : Nat) : cutV (zs.map f) none (some (n : Int)) = (zs.take n).map f := by
  unfold cutV
  have h1 : HT.sIx (zs.map f).length 0 none = 0 := rfl
  have h2 : HT.sIx (zs.map f).length (zs.map f).length (some (n : Int)) = min n zs.length := by
    unfold HT.sIx
    simp
    try omega
  rw [h1, h2, List.drop_zero, Nat.sub_zero, List.map_take]
  by_cases h : n ≤ zs.length
  · rw [Nat.min_eq_left h]
  · rw [Nat.min_eq_right (by omega), List.take_of_length_le (by rw [List.length_map]; exact Nat.le_refl _), List.take_of_length_le (by rw [List.length_map]; omega)]
def six : W := [97, 98, 100, 109, 114, 120]
theorem six_is : ("abdmrx" : Str) = tx six := by decide +kernel
def spLetters : Sp := fun vs H Q _ => ∃ (p : Addr) (n : Int), vs = [.ref p, .int n] ∧ DiceAt H p ∧ 1 ≤ n ∧ n ≤ 3 ∧ ∀ (L : W) (H' : Hp), Let L → (L.length : Int) = n → DiceAt H' p → But p H H' → Q (.str (tx L)) H'
section
variable {P : Program} {w : World} {K : PySem.W.Frag} {mg : Str → Option Value} {base : Heap}
variable {fR fM fO : Addr} {dR dM dO : FuncData}
theorem scLe : FnScope ["_law_dice_here", "_law_total"] ["_law_dice_here", "_law_total"] (defScope sLetters) := ⟨rfl, rfl, rfl, by decide +kernel, rfl, by decide +kernel, by decide +kernel⟩
theorem ok_letters {f : Addr} {fd : FuncData} (F : Fun K "_law_letters" "_law_letters" sLetters f fd) (T : TN mg) (AM : Fn K mg "_law_mixed" sMixed ["_law_dice_here", "_law_items"] fM dM) (GM : FnOk P w K mg base CX0 2 fM dM ["_law_dice_here", "_law_items"] spMixed) : FnOk P w K mg base CX0 3 f fd ["_law_dice_here", "_law_total"] spLetters := by
  refine F.ok scLe (fun vs H Q E h => ?_) (fun cdv A outer s H vs Q E hr h => ?_)
  · obtain ⟨u, n, rfl, _⟩ := h
    rfl
  · obtain ⟨p, n, rfl, hD, h1, h3, q⟩ := h
    refine ⟨_, pss_one (ps_ret (pe_join pe_str (pe_callB cr_sortedS (by rfl) T.sorted (by decide +kernel) (pa_cons (pe_slice sl_list
      (pe_call GM hr rfl AM.g AM.F.kp AM.b .nil pass0 (pa_cons (pv 0) (pa_cons (pe_callTy (TX.call_listX rfl) (by rfl) T.list (by decide +kernel) (pa_cons pe_str pa_nil)) pa_nil))) po_none (po_some (pv 1))) pa_nil)))), ?_⟩
    have e0 : (tx six).cps.toList.map (fun c => V.str (sg c)) = (six.map sg).map V.str := by rw [tx_list, List.map_map] <;> rfl
    refine ⟨⟨_, rfl⟩, _, rfl, "abdmrx", rfl, by decide +kernel, fun l hl => ?_⟩
    rw [six_is, e0]
    have lp := hD.ne hl
    refine ⟨p, l, six.map sg, rfl, hD.new hl, lp, upd_same, by decide, by decide +kernel, fun r zs H' hz hr1 hD' hB' hr2 hrp => ?_⟩
    have nr : H r = none := (same_upd hl).free hr1
    have B2 : But p H H' := (But.ofSame (same_upd hl)).trans hB'
    refine ⟨_, rfl, n, rfl, r, _, rfl, SqL.of hr2, fun t ht => ?_⟩
    have en : n = ((n.toNat : Nat) : Int) := by omega
    have zl : zs.length = 6 := hz.length_eq
    rw [en, cut_take]
    refine ⟨t, zs.take n.toNat, rfl, SqL.of upd_same, by rw [List.length_take]; omega, fun ys d hp hs hd => ?_⟩
    -- the letters
    have allz : ∀ x ∈ zs, ∃ c, x = sg c ∧ c ∈ six := fun x hx => by
      obtain ⟨c, hc, e⟩ := List.mem_map.mp (hz.mem_iff.mp hx)
      exact ⟨c, e.symm, hc⟩
    have ally : ∀ x ∈ ys, ∃ c, x = sg c ∧ c ∈ six := fun x hx => allz x (List.mem_of_mem_take (hp.mem_iff.mp hx))
    have ey : ys = (ys.map TX.hd1).map sg := TX.all_sg ys fun x hx => let ⟨c, e, _⟩ := ally x hx; ⟨c, e⟩
    have nz : zs.Nodup := hz.nodup_iff.mpr (by decide)
    have ny : ys.Nodup := hp.nodup_iff.mpr (nz.sublist (List.take_sublist _ _))
    have lenL : (ys.map TX.hd1).length = n.toNat := by
      rw [List.length_map, hp.length_eq, List.length_take]
      omega
    have hL : Let (ys.map TX.hd1) := by
      refine ⟨fun c hc => ?_, ?_, fun z => ?_, by omega⟩
      · obtain ⟨x, hx, e⟩ := List.mem_map.mp hc
        obtain ⟨c', rfl, hc'⟩ := ally x hx
        have : c' = c := e
        rw [← this]
        have h6 : ∀ c ∈ six, 97 ≤ c ∧ c ≤ 122 := by decide
        exact h6 _ hc'
      · rw [ey] at hs ny
        refine TX.lt_of_le _ (TX.sorted_le _ hs) ((List.pairwise_map.mp ny).imp fun h q => h (by rw [q]))
      · rw [z] at lenL
        have : (0 : Nat) = n.toNat := lenL
        omega
    have ey2 : ys.map V.str = ((ys.map TX.hd1).map sg).map V.str := by rw [← ey]
    refine ⟨tx [], d, (ys.map TX.hd1).map sg, rfl, rfl, .inl (SqL.of (by rw [upd_same, ← ey])), ?_, ?_⟩
    · rw [sum_sg]
      show (ys.map TX.hd1).length + _ * 0 ≤ _
      omega
    · rw [join_sg]
      exact q _ _ hL (by rw [lenL]; omega) ((hD'.new ht).new hd) (but_two (but_two B2 ht) hd)
end
end WK
set_option Elab.async false
set_option linter.all false
set_option maxRecDepth 100000
set_option maxHeartbeats 6000000
namespace LCX
open PySem L2 PyProof.Rows WK
open PySem.W (Frag)
theorem seqT {K : Frag} {H H' : Hp} {a : Addr} {xs : List V} (e : Same H H') (h : SqT K H a xs) : SqT K H' a xs := by
  rcases h with h | h
  · rcases h with h | ⟨ob, h⟩
    · exact .inl (.inl (e _ _ h))
    · exact .inl (.inr ⟨ob, e _ _ h⟩)
  · exact .inr h
theorem take_succ_flat {α : Type} (l : List α) (r : α → List V) (i : Nat) (x : α) (h : l[i]? = some x) : (l.take (i + 1)).flatMap r = (l.take i).flatMap r ++ r x := by
  rw [List.take_add_one, h]
  simp [List.flatMap_append]
theorem flat_map {α : Type} (l : List α) (v : α → V) : l.flatMap (fun x => [v x]) = l.map v := by
  induction l with
  | nil => rfl
  | cons x l ih => rw [List.flatMap_cons, ih] <;> rfl
theorem flat_len {α : Type} (l : List α) (r : α → List V) (h : ∀ x, (r x).length ≤ 1) : (l.flatMap r).length ≤ l.length := by
  induction l with
  | nil => exact Nat.le_refl _
  | cons x l ih =>
    rw [List.flatMap_cons, List.length_append, List.length_cons]
    have := h x
    omega
section
variable {K : Frag} {a D : Addr} {α : Type} {l : List α} {val : α → V} {r : α → List V} {g : TG} {tt : TT} {te : TE} {vs : List Nat} {σ : L2.St} {H1 : Hp} {Qd : Hp → Prop} {G : List V → Prop}
/-- one turn -/
abbrev Turn (g : TG) (tt : TT) (te : TE) (vs : List Nat) (σ : L2.St) (D : Addr) (x : V) (H : Hp) (N : Hp → Prop) : Prop := g x (wipe σ vs) H fun σ2 H2 => wipe σ2 vs = wipe σ vs ∧ tt σ2 H2 fun b H3 =>
  if b = true then te σ2 H3 fun y H4 => ∃ acc, H4 D = some (.lst acc) ∧ acc.length < sizeLine ∧ N (upd H4 D (.lst (acc ++ [y]))) else N H3
/-- what a comprehension asks that adds to the list at D what it picks -/
abbrev Went (J : It) (g : TG) (tt : TT) (te : TE) (vs : List Nat) (σ : L2.St) (D : Addr) (H1 : Hp) (Qd : Hp → Prop) : Prop :=
  ∃ W : Nat → Nat → Hp → Prop, (∃ m, W 0 m (upd H1 D (.lst []))) ∧ ∀ j n G, W j n G → (J.stop j G ∧ Qd G) ∨ (J.go j G ∧ ∃ N : Hp → Prop, (∀ G', N G' → ∃ n', n' < n ∧ W (j + 1) n' G') ∧ ∀ v G', J.yld j G v G' → Turn g tt te vs σ D v G' N)
/-- with an invariant of one's own -/
theorem pick_list (Iv : Hp → Prop) (h0 : Iv (upd H1 D (.lst []))) (hl : ∀ H, Iv H → SqL K H a (l.map val)) (hn : l.length < sizeLine) (hr : ∀ x, (r x).length ≤ 1)
    (hs : ∀ x ∈ l, ∀ H acc, Iv H → H D = some (.lst acc) → acc.length < sizeLine → ∀ N : Hp → Prop, (∀ H', Iv H' → H' D = some (.lst (acc ++ r x)) → N H') → Turn g tt te vs σ D (val x) H N)
    (hd : ∀ H, Iv H → H D = some (.lst (l.flatMap r)) → Qd H) :
    Went (Itl K a) g tt te vs σ D H1 Qd := by
  refine lc_list (K := K) (a := a) (xs := l.map val) (fun i H => Iv H ∧ H D = some (.lst ((l.take i).flatMap r))) ⟨h0, upd_same⟩ (fun i H _ p => hl H p.1) (fun i x H hx p => ?_) (fun H p => ?_)
  · rw [List.getElem?_map] at hx
    cases e : l[i]? with
    | none => rw [e] at hx; cases hx
    | some y =>
      rw [e] at hx
      obtain rfl : val y = x := Option.some.inj hx
      have hlen := flat_len (l.take i) r hr
      have : (l.take i).length ≤ l.length := by rw [List.length_take]; exact Nat.min_le_right ..
      exact hs y (List.mem_of_getElem? e) H _ p.1 p.2 (by omega) _ fun H' q1 q2 => ⟨q1, by rw [take_succ_flat l r i y e]; exact q2⟩
  · rw [List.length_map, List.take_length] at p
    exact hd H p.1 p.2
theorem pick_tup (Iv : Hp → Prop) (h0 : Iv (upd H1 D (.lst []))) (hl : ∀ H, Iv H → SqT K H a (l.map val)) (hn : l.length < sizeLine) (hr : ∀ x, (r x).length ≤ 1)
    (hs : ∀ x ∈ l, ∀ H acc, Iv H → H D = some (.lst acc) → acc.length < sizeLine → ∀ N : Hp → Prop, (∀ H', Iv H' → H' D = some (.lst (acc ++ r x)) → N H') → Turn g tt te vs σ D (val x) H N)
    (hd : ∀ H, Iv H → H D = some (.lst (l.flatMap r)) → Qd H) :
    Went (Itt K a) g tt te vs σ D H1 Qd := by
  refine lc_tup (K := K) (a := a) (xs := l.map val) (fun i H => Iv H ∧ H D = some (.lst ((l.take i).flatMap r))) ⟨h0, upd_same⟩ (fun i H _ p => hl H p.1) (fun i x H hx p => ?_) (fun H p => ?_)
  · rw [List.getElem?_map] at hx
    cases e : l[i]? with
    | none => rw [e] at hx; cases hx
    | some y =>
      rw [e] at hx
      obtain rfl : val y = x := Option.some.inj hx
      have hlen := flat_len (l.take i) r hr
      have : (l.take i).length ≤ l.length := by rw [List.length_take]; exact Nat.min_le_right ..
      exact hs y (List.mem_of_getElem? e) H _ p.1 p.2 (by omega) _ fun H' q1 q2 => ⟨q1, by rw [take_succ_flat l r i y e]; exact q2⟩
  · rw [List.length_map, List.take_length] at p
    exact hd H p.1 p.2
/-- nothing but new things: over a list, over a tuple -/
theorem same_list (hD : H1 D = none) (hl : SqL K H1 a (l.map val)) (hn : l.length < sizeLine) (hr : ∀ x, (r x).length ≤ 1)
    (hs : ∀ x ∈ l, ∀ H acc, Same H1 H → H D = some (.lst acc) → acc.length < sizeLine → ∀ N : Hp → Prop, (∀ H', Same H1 H' → H' D = some (.lst (acc ++ r x)) → N H') → Turn g tt te vs σ D (val x) H N)
    (hd : ∀ H, Same H1 H → H D = some (.lst (l.flatMap r)) → Qd H) :
    Went (Itl K a) g tt te vs σ D H1 Qd :=
  pick_list (Same H1) (same_upd hD) (fun H s => s.seq hl) hn hr hs hd
theorem same_tup (hD : H1 D = none) (hl : SqT K H1 a (l.map val)) (hn : l.length < sizeLine) (hr : ∀ x, (r x).length ≤ 1)
    (hs : ∀ x ∈ l, ∀ H acc, Same H1 H → H D = some (.lst acc) → acc.length < sizeLine → ∀ N : Hp → Prop, (∀ H', Same H1 H' → H' D = some (.lst (acc ++ r x)) → N H') → Turn g tt te vs σ D (val x) H N)
    (hd : ∀ H, Same H1 H → H D = some (.lst (l.flatMap r)) → Qd H) :
    Went (Itt K a) g tt te vs σ D H1 Qd :=
  pick_tup (Same H1) (same_upd hD) (fun H s => seqT s hl) hn hr hs hd
end
end LCX
set_option Elab.async false
set_option linter.all false
set_option maxRecDepth 100000
set_option maxHeartbeats 8000000
namespace WK
open PySem L2 PyProof.Rows LCX
open PySem.W (Frag kitOne)
abbrev sIsAsc : Stmt := top 31
abbrev sIsTab : Stmt := top 33
abbrev sIsRow : Stmt := top 35
/-- a whole number, True or False -/
def isNum (v : V) : Prop := (∃ i, v = .int i) ∨ ∃ b, v = .bl b
def numB (v : V) (a b : Int) : Bool := match v with
  | .int i => decide (a ≤ i) && decide (i ≤ b)
  | _ => false
def intOf (v : V) : Int := match v with
  | .int i => i
  | _ => 0
def ascI (is : List Int) : Bool := decide (is.Pairwise (· < ·))
/-- an ascending tuple of numbers below m -/
def ascV (xs : List V) (m : Int) : Bool := (xs.map fun x => numB x 0 (m - 1)).all id && ascI (xs.map intOf)
def rowB (xs : List V) (wd m : Int) : Bool := decide ((xs.length : Int) = wd) && (xs.map fun x => numB x 0 (m - 1)).all id
/-- a table by its rows; none is a row that is no tuple -/
def tabB (rs : List (Option (List V))) (wd most : Int) : Bool := decide (1 ≤ (rs.length : Int)) && decide ((rs.length : Int) ≤ most) && (rs.map fun r => match r with
  | some xs => rowB xs wd rs.length
  | none => false).all id
/-- no tuple, as long as old things stay -/
def NT (H : Hp) (v : V) : Prop := (∃ x, v = .str x) ∨ v = .non ∨ (∃ i, v = .int i) ∨ (∃ b, v = .bl b) ∨ ∃ a xs, v = .ref a ∧ H a = some (.lst xs)
theorem NT.ext {H H' : Hp} {v : V} (h : NT H v) (s : Same H H') : NT H' v := by
  rcases h with h | h | h | h | ⟨a, xs, h, q⟩
  · exact .inl h
  · exact .inr (.inl h)
  · exact .inr (.inr (.inl h))
  · exact .inr (.inr (.inr (.inl h)))
  · exact .inr (.inr (.inr (.inr ⟨a, xs, h, s _ _ q⟩)))
theorem NT.ty {K : Frag} {H : Hp} {v : V} (h : NT H v) : ∃ t, TyX K H v (.type t) ∧ kitOne K (.type t) (.type "tuple") = some false := by
  rcases h with ⟨x, rfl⟩ | rfl | ⟨i, rfl⟩ | ⟨b, rfl⟩ | ⟨a, xs, rfl, q⟩
  · exact ⟨_, .base (.str _), kit_ty (by decide +kernel)⟩
  · exact ⟨_, .base .non, kit_ty (by decide +kernel)⟩
  · exact ⟨_, .base (.int _), kit_ty (by decide +kernel)⟩
  · exact ⟨_, .base (.bl _), kit_ty (by decide +kernel)⟩
  · exact ⟨_, .base (.lst q), kit_ty (by decide +kernel)⟩
theorem tyT {K : Frag} {H : Hp} {a : Addr} {xs : List V} (h : SqT K H a xs) : TyX K H (.ref a) (.type "tuple") := by
  rcases h with (h | ⟨o, h⟩) | ⟨o, its, n, h1, h2, _⟩
  · exact .base (.tup h)
  · exact .fTuple h
  · exact .kTuple h1 h2
/-- a row of a table -/
def RowV (K : Frag) (H : Hp) (v : V) : Option (List V) → Prop
  | some xs => ∃ a, v = .ref a ∧ SqT K H a xs ∧ xs.length ≤ 100 ∧ ∀ x ∈ xs, isNum x
  | none => NT H v
theorem RowV.ext {K : Frag} {H H' : Hp} {v : V} {r : Option (List V)} (h : RowV K H v r) (s : Same H H') : RowV K H' v r := by
  cases r with
  | none => exact NT.ext h s
  | some xs =>
    obtain ⟨a, e, t, l, q⟩ := h
    exact ⟨a, e, seqT s t, l, q⟩
def spInt2 : Sp := fun vs H Q _ => ∃ v, vs = [v] ∧ ((∃ i, v = .int i ∧ Q (.bl true) H) ∨ ∃ b, v = .bl b ∧ Q (.bl false) H)
def spNum2 : Sp := fun vs H Q _ => ∃ v a b, vs = [v, .int a, .int b] ∧ isNum v ∧ Q (.bl (numB v a b)) H
def spAscT (K : Frag) : Sp := fun vs H Q _ => ∃ (a : Addr) (is : List Int), vs = [.ref a] ∧ SqT K H a (is.map V.int) ∧ is.length ≤ 100 ∧ ∀ H', Same H H' → Q (.bl (ascI is)) H'
def spIsAsc (K : Frag) : Sp := fun vs H Q _ => ∃ v m, vs = [v, .int m] ∧ ((∃ a xs, v = .ref a ∧ SqT K H a xs ∧ xs.length ≤ 100 ∧ (∀ x ∈ xs, isNum x) ∧ ∀ H', Same H H' → Q (.bl (ascV xs m)) H') ∨ (NT H v ∧ Q (.bl false) H))
def spRow (K : Frag) : Sp := fun vs H Q _ => ∃ v wd m r, vs = [v, .int wd, .int m] ∧ RowV K H v r ∧ ∀ H', Same H H' → Q (.bl (match r with
  | some xs => rowB xs wd m
  | none => false)) H'
/-- its rows are these -/
def Rows (K : Frag) (H : Hp) : List V → List (Option (List V)) → Prop
  | [], [] => True
  | x :: xs, r :: rs => RowV K H x r ∧ Rows K H xs rs
  | _, _ => False
def spTab (K : Frag) : Sp := fun vs H Q _ => ∃ v wd most, vs = [v, .int wd, .int most] ∧ ((∃ a xs rs, v = .ref a ∧ SqT K H a xs ∧ xs.length ≤ 100 ∧ Rows K H xs rs ∧ ∀ H', Same H H' → Q (.bl (tabB rs wd most)) H') ∨ (NT H v ∧ Q (.bl false) H))
section
variable {P : Program} {w : World} {K : PySem.W.Frag} {mg : Str → Option Value} {base : Heap}
theorem ok_int2 {f : Addr} {fd : FuncData} (F : Fun K "is_integer" "is_integer" sIsInt f fd) (T : TN mg) : FnOk P w K mg base CX0 1 f fd ["value"] spInt2 := by
  refine F.ok scII (fun vs H Q E h => ?_) (fun cdv A outer s H vs Q E hr h => ?_)
  · obtain ⟨v, rfl, _⟩ := h
    rfl
  · obtain ⟨v, rfl, h⟩ := h
    refine ⟨_, pss_one (ps_ret (pe_and (pe_callB call_isi (by rfl) T.isi (by decide +kernel) (pa_cons (pv 0) (pa_cons (pe_ty "int" T.int (by decide +kernel)) pa_nil)))
      (pe_one (pe_not (pe_callB call_isi (by rfl) T.isi (by decide +kernel) (pa_cons (pv 0) (pa_cons (pe_ty "bool" T.bool (by decide +kernel)) pa_nil))))))), ?_⟩
    rcases h with ⟨i, rfl, q⟩ | ⟨b, rfl, q⟩
    · refine ⟨_, rfl, _, _, _, _, true, rfl, .ty "int", .base (.int _), kit_ty (by decide +kernel), true, rfl, ?_⟩
      exact ⟨_, rfl, _, _, _, _, false, rfl, .ty "bool", .base (.int _), kit_ty (by decide +kernel), false, rfl, q⟩
    · refine ⟨_, rfl, _, _, _, _, true, rfl, .ty "int", .base (.bl _), kit_ty (by decide +kernel), true, rfl, ?_⟩
      exact ⟨_, rfl, _, _, _, _, true, rfl, .ty "bool", .base (.bl _), kit_ty (by decide +kernel), true, rfl, q⟩
theorem ok_num2 {f g : Addr} {fd gd : FuncData} (F : Fun K "is_number" "is_number" sIsNum f fd) (T : TN mg) (A0 : Fn K mg "is_integer" sIsInt ["value"] g gd) : FnOk P w K mg base CX0 2 f fd ["value", "least", "most"] spNum2 := by
  have G0 : FnOk P w K mg base CX0 1 g gd ["value"] spInt2 := ok_int2 A0.F T
  refine F.ok scIN (fun vs H Q E h => ?_) (fun cdv A outer s H vs Q E hr h => ?_)
  · obtain ⟨v, a, b, rfl, _⟩ := h
    rfl
  · obtain ⟨v, a, b, rfl, hn, q⟩ := h
    refine ⟨_, pss_one (ps_ret (pe_and (pe_call G0 hr rfl A0.g A0.F.kp A0.b .nil pass0 (pa_cons (pv 0) pa_nil)) (pe_one (pe_chain op_le op_le (pv 1) (pv 0) (pv 2))))), ?_⟩
    rcases hn with ⟨i, rfl⟩ | ⟨c, rfl⟩
    · refine ⟨_, rfl, _, rfl, .inl ⟨i, rfl, true, rfl, ?_⟩⟩
      refine ⟨_, rfl, _, rfl, _, _, rfl, rfl, _, rfl, ?_⟩
      have q : Q (.bl (decide (a ≤ i) && decide (i ≤ b))) H := q
      by_cases h1 : a ≤ i
      · rw [decide_eq_true h1] at q ⊢
        exact ⟨_, rfl, _, _, rfl, rfl, q⟩
      · rw [decide_eq_false h1] at q ⊢
        exact q
    · exact ⟨_, rfl, _, rfl, .inr ⟨c, rfl, false, rfl, q⟩⟩
theorem scIA : FnScope ["value", "many", "part"] ["value", "many"] (defScope sIsAsc) := ⟨rfl, rfl, rfl, by decide +kernel, rfl, by decide +kernel, by decide +kernel⟩
theorem scRw : FnScope ["value", "width", "many", "after"] ["value", "width", "many"] (defScope sIsRow) := ⟨rfl, rfl, rfl, by decide +kernel, rfl, by decide +kernel, by decide +kernel⟩
theorem scTb : FnScope ["value", "width", "most", "row"] ["value", "width", "most"] (defScope sIsTab) := ⟨rfl, rfl, rfl, by decide +kernel, rfl, by decide +kernel, by decide +kernel⟩
/-- a row's numbers -/
theorem ok_row {f g : Addr} {fd gd : FuncData} (F : Fun K "_is_row" "_is_row" sIsRow f fd) (T : TN mg) (A1 : Fn K mg "is_number" sIsNum ["value", "least", "most"] g gd) (G1 : FnOk P w K mg base CX0 2 g gd ["value", "least", "most"] spNum2) : FnOk P w K mg base CX0 3 f fd ["value", "width", "many"] (spRow K) := by
  refine F.ok scRw (fun vs H Q E h => ?_) (fun cdv A outer s H vs Q E hr h => ?_)
  · obtain ⟨v, wd, m, r, rfl, _⟩ := h
    rfl
  · obtain ⟨v, wd, m, r, rfl, hv, q⟩ := h
    refine ⟨_, pss_cons (ps_if (PW.pt (pw_or (pt_not (pt_val (pe_callB call_isi (by rfl) T.isi (by decide +kernel) (pa_cons (pv 0) (pa_cons (pe_ty "tuple" T.tuple (by decide +kernel)) pa_nil)))))
        (pw_or1 (pt_cmpR op_ne (pe_callB call_len_seq (by rfl) T.len PySem.boot_len (pa_cons (pv 0) pa_nil)) (pv 1) (nomark _))))) (pss_one (ps_ret pe_bl)) pss_nil)
      (pss_one (ps_ret (pe_callB (cr_all rfl) (by rfl) T.all (by decide +kernel) (pa_cons (pe_lc (own := [("after", 3)]) (g := gName 3) (tt := tYes) rfl scRw.nd (pi_tup (pv 0))
        (blkOk_by (own := [("after", 3)]) (N := ["value", "width", "many", "after"]) (sc := defScope sIsRow) (by decide +kernel)) (fun _ _ _ _ _ => pg_name (i := 3) scRw.nd rfl (Or.inl rfl)) (fun _ _ _ _ _ => pts_nil)
        (fun _ _ _ _ _ => pe_call G1 hr rfl A1.g A1.F.kp A1.b .nil pass0 (pa_cons (pv 3) (pa_cons pe_int (pa_cons (pe_op op_sub (pv 2) pe_int) pa_nil))))) pa_nil)))), ?_⟩
    cases r with
    | none =>
      obtain ⟨t, ty, hk⟩ := NT.ty (K := K) hv
      exact ⟨_, rfl, _, _, _, _, false, rfl, .ty "tuple", ty, hk, false, rfl, q _ (Same.refl H)⟩
    | some xs =>
      obtain ⟨a, rfl, hT, hl, hx⟩ := hv
      refine ⟨_, rfl, _, _, _, _, true, rfl, .ty "tuple", tyT hT, kit_ty (by decide +kernel), true, rfl, ?_⟩
      refine ⟨_, rfl, a, xs, rfl, .inr hT, _, rfl, rfl, _, rfl, ?_⟩
      have q : ∀ H', Same H H' → Q (.bl (rowB xs wd m)) H' := q
      by_cases hw : (xs.length : Int) = wd
      · have e1 : (!decide (V.int (xs.length : Int) = V.int wd)) = false := by rw [decide_eq_true (by rw [hw])] <;> rfl
        rw [e1]
        refine ⟨_, rfl, a, rfl, ⟨_, hT⟩, fun D hD => ?_⟩
        have hT' : SqT K H a (xs.map id) := by rw [List.map_id]; exact hT
        refine same_tup (val := id) (r := fun x => [V.bl (numB x 0 (m - 1))]) hD hT' (by rw [sizeLine_eq]; omega) (fun _ => Nat.le_refl _) (fun x hx' H1 acc s1 hacc hlen N hN => ?_) (fun H1 s1 hd => ?_)
        · exact ⟨rfl, _, rfl, _, rfl, _, _, rfl, rfl, x, _, _, rfl, hx x hx', acc, hacc, hlen, hN _ (same_at s1 hD) upd_same⟩
        · have e : xs.flatMap (fun x => [V.bl (numB x 0 (m - 1))]) = (xs.map fun x => numB x 0 (m - 1)).map V.bl := by rw [flat_map, List.map_map] <;> rfl
          rw [e] at hd
          refine ⟨D, _, rfl, SqL.of hd, ?_⟩
          have q2 := q _ s1
          unfold rowB at q2
          rw [decide_eq_true hw] at q2
          exact q2
      · have e1 : (!decide (V.int (xs.length : Int) = V.int wd)) = true := by rw [decide_eq_false (fun z => hw (V.int.inj z))] <;> rfl
        rw [e1]
        have q2 := q _ (Same.refl H)
        unfold rowB at q2
        rw [decide_eq_false hw] at q2
        exact q2
def adjI (w : List Int) (i : Nat) : Bool := decide (w.getD i 0 < w.getD (i + 1) 0)
theorem adjI_asc : ∀ w : List Int, ((List.range (w.length - 1)).map (adjI w)).all id = ascI w
  | [] => by simp [ascI]
  | [a] => by simp [ascI]
  | a :: b :: r => by
    have ih := adjI_asc (b :: r)
    have e : (a :: b :: r).length - 1 = (b :: r).length - 1 + 1 := by simp
    rw [e, List.range_succ_eq_map, List.map_cons, List.all_cons, List.map_map]
    have e2 : (adjI (a :: b :: r) ∘ Nat.succ) = adjI (b :: r) := by
      funext i
      rfl
    rw [e2, ih]
    show (decide (a < b) && ascI (b :: r)) = ascI (a :: b :: r)
    unfold ascI
    rw [← Bool.decide_and]
    refine decide_eq_decide.mpr ⟨fun ⟨h1, h2⟩ => ?_, fun h => ?_⟩
    · refine List.pairwise_cons.mpr ⟨fun y hy => ?_, h2⟩
      rcases List.mem_cons.mp hy with z | z
      · omega
      · have := (List.pairwise_cons.mp h2).1 y z
        omega
    · obtain ⟨h1, h2⟩ := List.pairwise_cons.mp h
      exact ⟨h1 b List.mem_cons_self, h2⟩
theorem ok_ascT {f : Addr} {fd : FuncData} (F : Fun K "ascends" "ascends" sAsc f fd) (T : TN mg) : FnOk P w K mg base CX0 1 f fd ["values"] (spAscT K) := by
  refine F.ok scAs (fun vs H Q E h => ?_) (fun cdv A outer s H vs Q E hr h => ?_)
  · obtain ⟨w, is, rfl, _⟩ := h
    rfl
  · obtain ⟨a, is, rfl, hT, hl, q⟩ := h
    refine ⟨_, pss_one (ps_ret (pe_callB (cr_all rfl) (by rfl) T.all (by decide +kernel) (pa_cons (pe_lc (own := [("at", 1)]) (g := gName 1) (tt := tYes) (te := tOp (rI0 fun i j => .bl (decide (i < j))) (tOp (rIxT K) (tVar 0) (tVar 1)) (tOp (rIxT K) (tVar 0) (tOp (rI0 fun i j => .int (i + j)) (tVar 1) (tC (.int 1))))) rfl scAs.nd
      (pi_range1 rfl T.rng (pa_cons (pe_op op_sub (pe_callB call_len_seq (by rfl) T.len PySem.boot_len (pa_cons (pv 0) pa_nil)) pe_int) pa_nil))
      (blkOk_by (own := [("at", 1)]) (N := ["values", "at"]) (sc := defScope sAsc) (by decide +kernel)) (fun _ _ _ _ _ => pg_name (i := 1) scAs.nd rfl (Or.inl rfl)) (fun _ _ _ _ _ => pts_nil)
      (fun _ _ _ _ _ => pe_cmpR op_lt (pe_ix ix_tup (pv 0) (pv 1) (fun _ _ => rfl)) (pe_ix ix_tup (pv 0) (pe_op op_add (pv 1) pe_int) (fun _ _ => rfl)) (nomark _))) pa_nil))), ?_⟩
    have hl2 : ((is.map V.int).length : Int) ≤ 100 := by rw [List.length_map]; omega
    refine ⟨_, rfl, a, _, rfl, .inr hT, _, _, rfl, rfl, _, rfl, (by omega), (by omega), fun D hD => ?_⟩
    have e1 : (((is.map V.int).length : Int) - 1).toNat = is.length - 1 := by rw [List.length_map]; omega
    rw [e1]
    refine lc_range (lo := 0) (n := is.length - 1) (fun i H1 => Same H H1 ∧ H1 D = some (.lst (((List.range i).map (adjI is)).map V.bl))) ⟨same_upd hD, upd_same⟩ ?_ ?_
    · rintro i H1 hi ⟨s1, hd⟩
      have at1 : ∀ j : Nat, j < is.length → atI (is.map V.int) (j : Int) = some (.int (is.getD j 0)) := fun j hj => by
        refine atI_nat ?_
        rw [List.getElem?_map, List.getD_eq_getElem?_getD, List.getElem?_eq_getElem hj] <;> rfl
      have e2 : (0 + (i : Int)) = ((i : Nat) : Int) := by omega
      have e3 : (0 + (i : Int) + 1) = ((i + 1 : Nat) : Int) := by omega
      refine ⟨rfl, _, rfl, _, rfl, a, _, _, _, rfl, rfl, seqT s1 hT, (by rw [e2]; exact at1 i (by omega)), _, rfl, _, rfl, _, _, rfl, rfl, a, _, _, _, rfl, rfl, seqT s1 hT, (by rw [e3]; exact at1 (i + 1) (by omega)), _, _, rfl, rfl, _, hd, ?_, same_at s1 hD, ?_⟩
      · rw [List.length_map, List.length_map, List.length_range, sizeLine_eq]
        omega
      · rw [upd_same, List.range_succ, List.map_append, List.map_append] <;> rfl
    · rintro H1 ⟨s1, hd⟩
      refine ⟨D, _, rfl, SqL.of hd, ?_⟩
      rw [adjI_asc]
      exact q _ s1
theorem ok_isasc {f g c : Addr} {fd gd cd : FuncData} (F : Fun K "is_ascending" "is_ascending" sIsAsc f fd) (T : TN mg) (A1 : Fn K mg "is_number" sIsNum ["value", "least", "most"] g gd) (G1 : FnOk P w K mg base CX0 2 g gd ["value", "least", "most"] spNum2)
    (A2 : Fn K mg "ascends" sAsc ["values"] c cd) (G2 : FnOk P w K mg base CX0 1 c cd ["values"] (spAscT K)) : FnOk P w K mg base CX0 3 f fd ["value", "many"] (spIsAsc K) := by
  have hX : ∀ {k}, Room 2 k → Room 1 k := fun h => h.mono (by decide)
  refine F.ok scIA (fun vs H Q E h => ?_) (fun cdv A outer s H vs Q E hr h => ?_)
  · obtain ⟨v, m, rfl, _⟩ := h
    rfl
  · obtain ⟨v, m, rfl, h⟩ := h
    refine ⟨_, pss_cons (ps_if (pt_not (pt_val (pe_callB call_isi (by rfl) T.isi (by decide +kernel) (pa_cons (pv 0) (pa_cons (pe_ty "tuple" T.tuple (by decide +kernel)) pa_nil))))) (pss_one (ps_ret pe_bl)) pss_nil)
      (pss_one (ps_ret (pe_and (pe_callB (cr_all rfl) (by rfl) T.all (by decide +kernel) (pa_cons (pe_lc (own := [("part", 2)]) (g := gName 2) (tt := tYes) rfl scIA.nd (pi_tup (pv 0))
        (blkOk_by (own := [("part", 2)]) (N := ["value", "many", "part"]) (sc := defScope sIsAsc) (by decide +kernel)) (fun _ _ _ _ _ => pg_name (i := 2) scIA.nd rfl (Or.inl rfl)) (fun _ _ _ _ _ => pts_nil)
        (fun _ _ _ _ _ => pe_call G1 hr rfl A1.g A1.F.kp A1.b .nil pass0 (pa_cons (pv 2) (pa_cons pe_int (pa_cons (pe_op op_sub (pv 1) pe_int) pa_nil))))) pa_nil))
        (pe_one (pe_call G2 (hX hr) rfl A2.g A2.F.kp A2.b .nil pass0 (pa_cons (pv 0) pa_nil)))))), ?_⟩
    rcases h with ⟨a, xs, rfl, hT, hl, hx, q⟩ | ⟨hn, q⟩
    · refine ⟨_, rfl, _, _, _, _, true, rfl, .ty "tuple", tyT hT, kit_ty (by decide +kernel), true, rfl, ?_⟩
      refine ⟨_, rfl, a, rfl, ⟨_, hT⟩, fun D hD => ?_⟩
      have hT' : SqT K H a (xs.map id) := by rw [List.map_id]; exact hT
      refine same_tup (val := id) (r := fun x => [V.bl (numB x 0 (m - 1))]) hD hT' (by rw [sizeLine_eq]; omega) (fun _ => Nat.le_refl _) (fun x hx' H1 acc s1 hacc hlen N hN => ?_) (fun H1 s1 hd => ?_)
      · exact ⟨rfl, _, rfl, _, rfl, _, _, rfl, rfl, x, _, _, rfl, hx x hx', acc, hacc, hlen, hN _ (same_at s1 hD) upd_same⟩
      · have e : xs.flatMap (fun x => [V.bl (numB x 0 (m - 1))]) = (xs.map fun x => numB x 0 (m - 1)).map V.bl := by rw [flat_map, List.map_map] <;> rfl
        rw [e] at hd
        refine ⟨D, _, rfl, SqL.of hd, ?_⟩
        unfold ascV at q
        cases e2 : (xs.map fun x => numB x 0 (m - 1)).all id with
        | false =>
          rw [e2] at q
          exact ⟨false, rfl, q _ s1⟩
        | true =>
          rw [e2] at q
          have e3 : xs = (xs.map intOf).map V.int := by
            rw [List.map_map]
            refine (List.map_id xs).symm.trans (List.map_congr_left fun x hx' => ?_)
            have h4 := List.all_eq_true.mp e2 _ (List.mem_map.mpr ⟨x, hx', rfl⟩)
            rcases hx x hx' with ⟨i, rfl⟩ | ⟨b, rfl⟩
            · rfl
            · cases h4
          refine ⟨true, rfl, _, rfl, a, xs.map intOf, rfl, by rw [← e3]; exact seqT s1 hT, by rw [List.length_map]; exact hl, fun H2 s2 => ?_⟩
          exact q _ (s1.trans s2)
    · obtain ⟨t, ty, hk⟩ := NT.ty (K := K) hn
      exact ⟨_, rfl, _, _, _, _, false, rfl, .ty "tuple", ty, hk, false, rfl, q⟩
theorem Rows.ext {H H' : Hp} (s : Same H H') : ∀ {xs : List V} {rs : List (Option (List V))}, Rows K H xs rs → Rows K H' xs rs
  | [], [], _ => trivial
  | _ :: _, _ :: _, h => ⟨h.1.ext s, h.2.ext s⟩
  | [], _ :: _, h => h.elim
  | _ :: _, [], h => h.elim
theorem Rows.len {H : Hp} : ∀ {xs : List V} {rs : List (Option (List V))}, Rows K H xs rs → xs.length = rs.length
  | [], [], _ => rfl
  | _ :: _, _ :: _, h => congrArg Nat.succ h.2.len
  | [], _ :: _, h => h.elim
  | _ :: _, [], h => h.elim
theorem Rows.mem {H : Hp} : ∀ {xs : List V} {rs : List (Option (List V))}, Rows K H xs rs → ∀ p ∈ xs.zip rs, RowV K H p.1 p.2
  | [], [], _, _, hp => (List.not_mem_nil hp).elim
  | _ :: _, _ :: _, h, p, hp => (List.mem_cons.mp hp).elim (fun e => e ▸ h.1) fun z => h.2.mem p z
  | [], _ :: _, h, _, _ => h.elim
  | _ :: _, [], h, _, _ => h.elim
abbrev rLn (K : Frag) : List V → Hp → VK → Prop := fun xs H Q => ∃ p ys, xs = [.ref p] ∧ (SqL K H p ys ∨ SqT K H p ys) ∧ Q (.int ys.length) H
def rowOk (wd m : Int) : Option (List V) → Bool
  | some xs => rowB xs wd m
  | none => false
theorem ok_table {f g : Addr} {fd gd : FuncData} (F : Fun K "is_table" "is_table" sIsTab f fd) (T : TN mg) (A1 : Fn K mg "_is_row" sIsRow ["value", "width", "many"] g gd) (G1 : FnOk P w K mg base CX0 3 g gd ["value", "width", "many"] (spRow K)) :
    FnOk P w K mg base CX0 4 f fd ["value", "width", "most"] (spTab K) := by
  refine F.ok scTb (fun vs H Q E h => ?_) (fun cdv A outer s H vs Q E hr h => ?_)
  · obtain ⟨v, wd, m, rfl, _⟩ := h
    rfl
  · obtain ⟨v, wd, m, rfl, h⟩ := h
    refine ⟨_, pss_cons (ps_if (PW.pt (pw_or (pt_not (pt_val (pe_callB call_isi (by rfl) T.isi (by decide +kernel) (pa_cons (pv 0) (pa_cons (pe_ty "tuple" T.tuple (by decide +kernel)) pa_nil)))))
        (pw_or1 (pt_not (pt_chain op_le op_le pe_int (pe_callB call_len_seq (by rfl) T.len PySem.boot_len (pa_cons (pv 0) pa_nil)) (pv 2)))))) (pss_one (ps_ret pe_bl)) pss_nil)
      (pss_one (ps_ret (pe_callB (cr_all rfl) (by rfl) T.all (by decide +kernel) (pa_cons (pe_lc (own := [("row", 3)]) (g := gName 3) (tt := tYes)
        (te := tCall (spRow K) [] E0 (tCons (tVar 3) (tCons (tVar 1) (tCons (tCB (rLn K) (tCons (tVar 0) tNil)) tNil)))) rfl scTb.nd (pi_tup (pv 0))
        (blkOk_by (own := [("row", 3)]) (N := ["value", "width", "most", "row"]) (sc := defScope sIsTab) (by decide +kernel)) (fun _ _ _ _ _ => pg_name (i := 3) scTb.nd rfl (Or.inl rfl)) (fun _ _ _ _ _ => pts_nil)
        (fun _ _ _ _ _ => pe_call G1 hr rfl A1.g A1.F.kp A1.b .nil pass0 (pa_cons (pv 3) (pa_cons (pv 1) (pa_cons (pe_callB call_len_seq (by rfl) T.len PySem.boot_len (pa_cons (pv 0) pa_nil)) pa_nil))))) pa_nil)))), ?_⟩
    rcases h with ⟨a, xs, rs, rfl, hT, hl, hR, q⟩ | ⟨hn, q⟩
    · refine ⟨_, rfl, _, _, _, _, true, rfl, .ty "tuple", tyT hT, kit_ty (by decide +kernel), true, rfl, ?_⟩
      have hlen := hR.len
      have q0 : ∀ H', Same H H' → Q (.bl (decide (1 ≤ (xs.length : Int)) && decide ((xs.length : Int) ≤ m) && (rs.map (rowOk wd xs.length)).all id)) H' := fun H' s => by
        have e : tabB rs wd m = (decide (1 ≤ (xs.length : Int)) && decide ((xs.length : Int) ≤ m) && (rs.map (rowOk wd xs.length)).all id) := by
          unfold tabB
          rw [hlen]
          rfl
        rw [← e]
        exact q H' s
      refine ⟨_, rfl, a, xs, rfl, .inr hT, _, _, rfl, rfl, _, rfl, ?_⟩
      by_cases h1 : 1 ≤ (xs.length : Int)
      · rw [decide_eq_true h1] at q0 ⊢
        refine ⟨_, rfl, _, _, rfl, rfl, _, rfl, ?_⟩
        by_cases h2 : (xs.length : Int) ≤ m
        · rw [decide_eq_true h2] at q0 ⊢
          refine ⟨_, rfl, a, rfl, ⟨_, hT⟩, fun D hD => ?_⟩
          have hT' : SqT K H a ((xs.zip rs).map (·.1)) := by rw [List.map_fst_zip (Nat.le_of_eq hlen)]; exact hT
          have hz : (xs.zip rs).length < sizeLine := by rw [List.length_zip, sizeLine_eq]; omega
          refine same_tup (l := xs.zip rs) (val := (·.1)) (r := fun p => [V.bl (rowOk wd xs.length p.2)]) hD hT' hz (fun _ => Nat.le_refl _) (fun p hp H1 acc s1 hacc hlen1 N hN => ?_) (fun H1 s1 hd => ?_)
          · refine ⟨rfl, _, rfl, _, rfl, _, rfl, a, xs, rfl, .inr (seqT s1 hT), p.1, _, _, p.2, rfl, (hR.mem p hp).ext s1, fun H2 s2 => ?_⟩
            refine ⟨acc, s2 _ _ hacc, hlen1, hN _ (same_at (s1.trans s2) hD) ?_⟩
            rw [upd_same]
            cases p.2 <;> rfl
          · have e : (xs.zip rs).flatMap (fun p => [V.bl (rowOk wd xs.length p.2)]) = (rs.map (rowOk wd xs.length)).map V.bl := by
              rw [flat_map, List.map_map]
              conv => rhs; rw [← List.map_snd_zip (l₁ := xs) (l₂ := rs) (Nat.le_of_eq hlen.symm)]
              rw [List.map_map] <;> rfl
            rw [e] at hd
            exact ⟨D, _, rfl, SqL.of hd, q0 _ s1⟩
        · rw [decide_eq_false h2] at q0 ⊢
          exact q0 _ (Same.refl H)
      · rw [decide_eq_false h1] at q0 ⊢
        exact ⟨false, rfl, q0 _ (Same.refl H)⟩
    · obtain ⟨t, ty, hk⟩ := NT.ty (K := K) hn
      exact ⟨_, rfl, _, _, _, _, false, rfl, .ty "tuple", ty, hk, false, rfl, q⟩
end
end WK
set_option Elab.async false
set_option linter.all false
set_option maxRecDepth 100000
set_option maxHeartbeats 4000000
namespace WK
open PySem L2 PyProof.Rows LCX K1
def Bel (n : Int) (ns : List Int) : Prop := ∀ i ∈ ns, 0 ≤ i ∧ i < n
abbrev oTup (r : List Int) : HO := .tup (r.map V.int)
/-- at these places stand these rows -/
def Objs (mk : List Int → HO) (H : Hp) : List Addr → List (List Int) → Prop
  | [], [] => True
  | a :: as, r :: rs => H a = some (mk r) ∧ Objs mk H as rs
  | _, _ => False
theorem Objs.to {mk : List Int → HO} {H H' : Hp} : ∀ {as : List Addr} {rs : List (List Int)}, Objs mk H as rs → (∀ a ∈ as, ∀ r, H a = some (mk r) → H' a = some (mk r)) → Objs mk H' as rs
  | [], [], _, _ => trivial
  | a :: as, _ :: _, h, k => ⟨k a (.head _) _ h.1, h.2.to fun b hb => k b (.tail _ hb)⟩
  | [], _ :: _, h, _ => h.elim
  | _ :: _, [], h, _ => h.elim
theorem Objs.snoc {mk : List Int → HO} {H : Hp} {b : Addr} {s : List Int} : ∀ {as : List Addr} {rs : List (List Int)}, Objs mk H as rs → H b = some (mk s) → Objs mk H (as ++ [b]) (rs ++ [s])
  | [], [], _, k => ⟨k, trivial⟩
  | _ :: _, _ :: _, h, k => ⟨h.1, h.2.snoc k⟩
  | [], _ :: _, h, _ => h.elim
  | _ :: _, [], h, _ => h.elim
theorem Objs.len {mk : List Int → HO} {H : Hp} : ∀ {as : List Addr} {rs : List (List Int)}, Objs mk H as rs → as.length = rs.length
  | [], [], _ => rfl
  | _ :: _, _ :: _, h => congrArg Nat.succ h.2.len
  | [], _ :: _, h => h.elim
  | _ :: _, [], h => h.elim
theorem Objs.at_ {mk : List Int → HO} {H : Hp} : ∀ {as : List Addr} {rs : List (List Int)}, Objs mk H as rs → ∀ p ∈ as.zip rs, H p.1 = some (mk p.2)
  | [], [], _, _, hp => (List.not_mem_nil hp).elim
  | _ :: _, _ :: _, h, p, hp => (List.mem_cons.mp hp).elim (fun e => e ▸ h.1) fun z => h.2.at_ p z
  | [], _ :: _, h, _, _ => h.elim
  | _ :: _, [], h, _, _ => h.elim
theorem Objs.mem {mk : List Int → HO} {H : Hp} : ∀ {as : List Addr} {rs : List (List Int)}, Objs mk H as rs → ∀ a ∈ as, ∃ r ∈ rs, H a = some (mk r)
  | [], [], _, _, ha => (List.not_mem_nil ha).elim
  | _ :: _, _ :: _, h, a, ha => (List.mem_cons.mp ha).elim (fun e => ⟨_, .head _, e ▸ h.1⟩) fun z => let ⟨r, hr, e⟩ := h.2.mem a z; ⟨r, .tail _ hr, e⟩
  | [], _ :: _, h, _, _ => h.elim
  | _ :: _, [], h, _, _ => h.elim
end WK
set_option Elab.async false
set_option linter.all false
set_option maxRecDepth 100000
set_option maxHeartbeats 8000000
namespace WK
open PySem L2 PyProof.Rows LCX
open PySem.W (Frag kitOne)
abbrev sAct : Stmt := top 111
abbrev sLTab : Stmt := top 112
abbrev sLMac : Stmt := top 113
theorem noD {H H' : Hp} {p D : Addr} (b : But p H H') (h : H' D = none) (hD : DiceAt H' p) : H D = none := but_free b h (hD.ne h)
/-- a list of drawn numbers: the dice roll at each turn -/
theorem rolls {g : TG} {tt : TT} {te : TE} {vs : List Nat} {σ : L2.St} {p D : Addr} {H : Hp} {n : Nat} {Qd : Hp → Prop} (good : Int → Prop) (hn : n < sizeLine) (hD : DiceAt H p) (hd : H D = none)
    (hs : ∀ i : Nat, i < n → ∀ (H3 : Hp) (ns : List Int), DiceAt H3 p → H3 D = some (.lst (ns.map V.int)) → ns.length = i → ∀ N : Hp → Prop, (∀ (k : Int) (H4 : Hp), good k → DiceAt H4 p → But p H3 H4 → N (upd H4 D (.lst (ns.map V.int ++ [V.int k])))) →
      Turn g tt te vs σ D (.int (0 + i)) H3 N)
    (hq : ∀ (H3 : Hp) (ns : List Int), DiceAt H3 p → But p H H3 → H3 D = some (.lst (ns.map V.int)) → ns.length = n → (∀ k ∈ ns, good k) → Qd H3) : Went (Itr 0 n) g tt te vs σ D H Qd := by
  have Dp := hD.ne hd
  refine lc_range (lo := 0) (n := n) (fun i H3 => DiceAt H3 p ∧ But p H H3 ∧ ∃ ns : List Int, ns.length = i ∧ (∀ k ∈ ns, good k) ∧ H3 D = some (.lst (ns.map V.int))) ⟨hD.new hd, but_two (But.refl p H) hd, [], rfl, fun k hk => (nomatch hk), upd_same⟩ ?_ ?_
  · rintro i H3 hi ⟨hD3, hB3, ns, hl, hg, h3⟩
    refine hs i hi H3 ns hD3 h3 hl _ fun k H4 hk hD4 hB4 => ⟨hD4.keep fun o e => by rw [upd_ne (Ne.symm Dp)]; exact e, but_at (hB3.trans hB4) hd, ns ++ [k], ?_, ?_, ?_⟩
    · rw [List.length_append, hl] <;> rfl
    · intro j hj
      rcases List.mem_append.mp hj with z | z
      · exact hg j z
      · rw [List.mem_singleton.mp z]
        exact hk
    · rw [upd_same, List.map_append] <;> rfl
  · rintro H3 ⟨hD3, hB3, ns, hl, hg, h3⟩
    exact hq H3 ns hD3 hB3 h3 hl hg
theorem rgV_bel {n : Int} (h : 0 ≤ n) : ∃ ns : List Int, rgV 0 n = ns.map V.int ∧ (ns.length : Int) = n ∧ Bel n ns := by
  refine ⟨(List.range (n - 0).toNat).map fun i => 0 + ((i : Nat) : Int), by rw [List.map_map] <;> rfl, by rw [List.length_map, List.length_range]; omega, fun i hi => ?_⟩
  obtain ⟨j, hj, rfl⟩ := List.mem_map.mp hi
  have := List.mem_range.mp hj
  omega
def spAct : Sp := fun vs H Q _ => ∃ (p : Addr) (n s : Int), vs = [.ref p, .int n, .int s] ∧ DiceAt H p ∧ 1 ≤ n ∧ n ≤ 60 ∧ ∀ (l : Addr) (ns : List Int) (H' : Hp), H l = none → l ≠ p → DiceAt H' p → But p H H' → H' l = some (.lst (ns.map V.int)) → (ns.length : Int) = n → Bel n ns → Q (.ref l) H'
abbrev NAc : List Str := ["_law_dice_here", "_law_size", "_law_sort", "_law_spot", "_law_by", "_law_found", "_law_one", "_law_other", "_law_place"]
section
variable {P : Program} {w : World} {K : PySem.W.Frag} {mg : Str → Option Value} {base : Heap} {fR fO fA fT : Addr} {dR dO dA dT : FuncData}
theorem scAc : FnScope NAc ["_law_dice_here", "_law_size", "_law_sort"] (defScope sAct) := ⟨rfl, rfl, rfl, by decide +kernel, rfl, by decide +kernel, by decide +kernel⟩
theorem Bel.set {n b : Int} {ns : List Int} (h : Bel n ns) (hb : 0 ≤ b ∧ b < n) (j : Nat) : Bel n (ns.set j b) := fun i hi => (List.mem_or_eq_of_mem_set hi).elim (h i) fun e => e ▸ hb
theorem ixN_in {n : Nat} {i : Int} (h0 : 0 ≤ i) (h1 : i < n) : ixN n i = some i.toNat := by
  unfold ixN
  rw [if_pos h0, if_pos h1]
theorem ok_act {f : Addr} {fd : FuncData} (F : Fun K "_law_action" "_law_action" sAct f fd) (T : TN mg) (AR : Fn K mg "_law_roll" sRoll ["_law_dice_here", "_law_total"] fR dR) :
    FnOk P w K mg base CX0 2 f fd ["_law_dice_here", "_law_size", "_law_sort"] spAct := by
  have GR : FnOk P w K mg base CX0 1 fR dR ["_law_dice_here", "_law_total"] spRoll := ok_roll AR.F T.dice
  refine F.ok scAc (fun vs H Q E h => ?_) (fun cdv A outer s H vs Q E hr h => ?_)
  · obtain ⟨p, n, s, rfl, _⟩ := h
    rfl
  · obtain ⟨p, n, s, rfl, hD, h1, h60, q⟩ := h
    refine ⟨_, pss_cons (ps_if (pt_cmpR op_eq (pv 2) pe_int (nomark _)) (pss_one (ps_ret (pe_lc (own := [("_law_place", 8)]) (g := gName 8) (tt := tYes) rfl scAc.nd (pi_range1 rfl T.rng (pa_cons (pv 1) pa_nil))
        (blkOk_by (own := [("_law_place", 8)]) (N := NAc) (sc := defScope sAct) (by decide +kernel)) (fun _ _ _ _ _ => pg_name (i := 8) scAc.nd rfl (Or.inl rfl)) (fun _ _ _ _ _ => pts_nil)
        (fun _ _ _ _ _ => pe_op op_add (pv 8) (pe_call GR hr rfl AR.g AR.F.kp AR.b .nil pass0 (pa_cons (pv 0) (pa_cons (pe_op op_sub (pv 1) (pv 8)) pa_nil))))))) pss_nil)
      (pss_cons (ps_if (pt_cmpR op_eq (pv 2) pe_int (nomark _)) (pss_cons (ps_set (i := 3) scAc.nd rfl (Or.inr rfl) (pe_call GR hr rfl AR.g AR.F.kp AR.b .nil pass0 (pa_cons (pv 0) (pa_cons (pv 1) pa_nil))))
        (pss_one (ps_ret (pe_lc (own := [("_law_place", 8)]) (g := gName 8) (tt := tYes) rfl scAc.nd (pi_range1 rfl T.rng (pa_cons (pv 1) pa_nil))
        (blkOk_by (own := [("_law_place", 8)]) (N := NAc) (sc := defScope sAct) (by decide +kernel)) (fun _ _ _ _ _ => pg_name (i := 8) scAc.nd rfl (Or.inl rfl)) (fun _ _ _ _ _ => pts_nil)
        (fun _ _ _ _ _ => pv 3))))) pss_nil)
      (pss_cons (ps_if (pt_cmpR op_eq (pv 2) pe_int (nomark _)) (pss_cons (ps_set (i := 4) scAc.nd rfl (Or.inr rfl) (pe_call GR hr rfl AR.g AR.F.kp AR.b .nil pass0 (pa_cons (pv 0) (pa_cons (pv 1) pa_nil))))
        (pss_one (ps_ret (pe_lc (own := [("_law_place", 8)]) (g := gName 8) (tt := tYes) rfl scAc.nd (pi_range1 rfl T.rng (pa_cons (pv 1) pa_nil))
        (blkOk_by (own := [("_law_place", 8)]) (N := NAc) (sc := defScope sAct) (by decide +kernel)) (fun _ _ _ _ _ => pg_name (i := 8) scAc.nd rfl (Or.inl rfl)) (fun _ _ _ _ _ => pts_nil)
        (fun _ _ _ _ _ => pe_op op_mod (pe_callTy call_int1 (by rfl) T.int (by decide +kernel) (pa_cons (pe_op op_add (pv 8) (pv 4)) pa_nil)) (pv 1)))))) pss_nil)
      (pss_cons (ps_if (pt_cmpR op_eq (pv 2) pe_int (nomark _)) (pss_one (ps_ret (pe_listRg rfl rfl T.list (prg_1 rfl T.rng (pv 1))))) pss_nil)
      (pss_cons (ps_if (pt_cmpR op_eq (pv 2) pe_int (nomark _)) (pss_one (ps_ret (pe_callB cr_sorted (by rfl) T.sorted (by decide +kernel) (pa_cons (pe_lc (own := [("_law_place", 8)]) (g := gName 8) (tt := tYes) rfl scAc.nd (pi_range1 rfl T.rng (pa_cons (pv 1) pa_nil))
        (blkOk_by (own := [("_law_place", 8)]) (N := NAc) (sc := defScope sAct) (by decide +kernel)) (fun _ _ _ _ _ => pg_name (i := 8) scAc.nd rfl (Or.inl rfl)) (fun _ _ _ _ _ => pts_nil)
        (fun _ _ _ _ _ => pe_call GR hr rfl AR.g AR.F.kp AR.b .nil pass0 (pa_cons (pv 0) (pa_cons (pv 1) pa_nil)))) pa_nil)))) pss_nil)
      (pss_cons (ps_set (i := 5) scAc.nd rfl (Or.inl rfl) (pe_ifExp (pt_cmpR op_eq (pv 2) pe_int (nomark _)) (pe_lc (own := [("_law_place", 8)]) (g := gName 8) (tt := tYes) rfl scAc.nd (pi_range1 rfl T.rng (pa_cons (pv 1) pa_nil))
        (blkOk_by (own := [("_law_place", 8)]) (N := NAc) (sc := defScope sAct) (by decide +kernel)) (fun _ _ _ _ _ => pg_name (i := 8) scAc.nd rfl (Or.inl rfl)) (fun _ _ _ _ _ => pts_nil)
        (fun _ _ _ _ _ => pe_call GR hr rfl AR.g AR.F.kp AR.b .nil pass0 (pa_cons (pv 0) (pa_cons (pv 1) pa_nil)))) (pe_listRg rfl rfl T.list (prg_1 rfl T.rng (pv 1)))))
      (pss_cons (ps_if (pt_cmpR op_eq (pv 2) pe_int (nomark _)) (pss_cons (ps_par rfl scAc.nd (i := 6) (j := 7) rfl rfl (by decide) rfl rfl (pa_cons (pe_call GR hr rfl AR.g AR.F.kp AR.b .nil pass0 (pa_cons (pv 0) (pa_cons (pv 1) pa_nil))) (pa_cons (pe_call GR hr rfl AR.g AR.F.kp AR.b .nil pass0 (pa_cons (pv 0) (pa_cons (pv 1) pa_nil))) pa_nil)) (by rfl))
        (pss_one (ps_asg (pe_tup (pa_cons (pv 7) (pa_cons (pv 6) pa_nil))) (pg_tup (by rfl) (pgs_cons (pg_sub (pv 5) (pv 6) set_list (fun _ => rfl)) (pgs_cons (pg_sub (pv 5) (pv 7) set_list (fun _ => rfl)) pgs_nil)))))) pss_nil)
      (pss_one (ps_ret (pv 5))))))))), ?_⟩
    have hn : n.toNat < sizeLine := by rw [sizeLine_eq]; omega
    have hln : ∀ ns : List Int, ns.length = n.toNat → (ns.length : Int) = n := fun ns e => by omega
    have hsz : ∀ (i : Nat) (ns : List Int), ns.length = i → i < n.toNat → (ns.map V.int).length < sizeLine := fun i ns e hi => by rw [List.length_map, sizeLine_eq]; omega
    have hrg : RgOk 0 n := RgOk.of_le (by decide) (by omega) (by decide) (by omega)
    -- 1: up
    refine ⟨_, rfl, rfl, _, rfl, ite2 (fun _ => ?_) (fun _ => ?_)⟩
    · refine ⟨_, rfl, _, rfl, by omega, by omega, fun D hD2 => ?_⟩
      refine rolls (fun k => 0 ≤ k ∧ k < n) hn hD hD2 (fun i hi H3 ns hD3 h3 hli N hN => ?_) fun H3 ns hD3 hB3 h3 hl hg => q D ns H3 hD2 (hD.ne hD2) hD3 hB3 h3 (hln ns hl) hg
      refine ⟨rfl, _, rfl, _, rfl, _, rfl, _, rfl, _, _, rfl, rfl, p, _, rfl, hD3, by omega, by omega, fun r H4 r0 r1 hD4 hB4 => ⟨_, _, rfl, rfl, _, hB4 _ _ h3 (hD.ne hD2), hsz i ns hli hi, hN _ H4 ⟨by omega, by omega⟩ hD4 hB4⟩⟩
    -- 2: to one place
    refine ⟨_, rfl, rfl, _, rfl, ite2 (fun _ => ?_) (fun _ => ?_)⟩
    · refine ⟨_, rfl, _, rfl, p, _, rfl, hD, by omega, by omega, fun r H1 r0 r1 hD1 hB1 => ?_⟩
      refine ⟨_, rfl, _, rfl, by omega, by omega, fun D hD2 => ?_⟩
      refine rolls (fun k => 0 ≤ k ∧ k < n) hn hD1 hD2 (fun i hi H3 ns hD3 h3 hli N hN => ?_) fun H3 ns hD3 hB3 h3 hl hg => q D ns H3 (noD hB1 hD2 hD1) (hD1.ne hD2) hD3 (hB1.trans hB3) h3 (hln ns hl) hg
      refine ⟨rfl, _, rfl, _, h3, hsz i ns hli hi, hN _ H3 ⟨r0, r1⟩ hD3 (But.refl _ _)⟩
    -- 3: round
    refine ⟨_, rfl, rfl, _, rfl, ite2 (fun _ => ?_) (fun _ => ?_)⟩
    · refine ⟨_, rfl, _, rfl, p, _, rfl, hD, by omega, by omega, fun r H1 r0 r1 hD1 hB1 => ?_⟩
      refine ⟨_, rfl, _, rfl, by omega, by omega, fun D hD2 => ?_⟩
      refine rolls (fun k => 0 ≤ k ∧ k < n) hn hD1 hD2 (fun i hi H3 ns hD3 h3 hli N hN => ?_) fun H3 ns hD3 hB3 h3 hl hg => q D ns H3 (noD hB1 hD2 hD1) (hD1.ne hD2) hD3 (hB1.trans hB3) h3 (hln ns hl) hg
      refine ⟨rfl, _, rfl, _, rfl, _, _, rfl, rfl, .inl ⟨_, rfl, _, rfl, _, _, rfl, rfl, by omega, _, h3, hsz i ns hli hi, hN _ H3 ⟨?_, ?_⟩ hD3 (But.refl _ _)⟩⟩
      · exact Int.emod_nonneg _ (by omega)
      · exact Int.emod_lt_of_pos _ (by omega)
    -- 4: nowhere
    refine ⟨_, rfl, rfl, _, rfl, ite2 (fun _ => ?_) (fun _ => ?_)⟩
    · refine ⟨_, rfl, n, rfl, hrg, fun l hl => ?_⟩
      obtain ⟨ns, e, hl1, hb⟩ := rgV_bel (n := n) (by omega)
      exact q l ns _ hl (hD.ne hl) (hD.new hl) (but_two (But.refl _ _) hl) (by rw [upd_same, e]) hl1 hb
    -- 5: in order
    refine ⟨_, rfl, rfl, _, rfl, ite2 (fun _ => ?_) (fun _ => ?_)⟩
    · refine ⟨_, rfl, _, rfl, by omega, by omega, fun D hD2 => ?_⟩
      refine rolls (fun k => 0 ≤ k ∧ k < n) hn hD hD2 (fun i hi H3 ns hD3 h3 hli N hN => ?_) fun H3 ns hD3 hB3 h3 hl hg => ?_
      · refine ⟨rfl, _, rfl, _, rfl, p, _, rfl, hD3, by omega, by omega, fun r H4 r0 r1 hD4 hB4 => ⟨_, hB4 _ _ h3 (hD.ne hD2), hsz i ns hli hi, hN _ H4 ⟨r0, r1⟩ hD4 hB4⟩⟩
      · refine ⟨D, ns, rfl, SqL.of h3, by omega, fun ns' t hp _ ht => ?_⟩
        exact q t ns' _ (noD hB3 ht hD3) (hD3.ne ht) (hD3.new ht) (but_two hB3 ht) upd_same (by rw [hp.length_eq]; exact hln ns hl) fun k hk => hg k (hp.mem_iff.mp hk)
    -- anyhow, or in order; then perhaps two exchanged
    refine ⟨_, rfl, rfl, _, rfl, ite2 (fun _ => ?_) (fun _ => ?_)⟩
    · refine ⟨_, rfl, _, rfl, by omega, by omega, fun l hl0 => ?_⟩
      refine rolls (fun k => 0 ≤ k ∧ k < n) hn hD hl0 (fun i hi H3 ns hD3 h3 hli N hN => ?_) fun H3 ns hD3 hB3 h3 hl hg => ?_
      · exact ⟨rfl, _, rfl, _, rfl, p, _, rfl, hD3, by omega, by omega, fun r H4 r0 r1 hD4 hB4 => ⟨_, hB4 _ _ h3 (hD.ne hl0), hsz i ns hli hi, hN _ H4 ⟨r0, r1⟩ hD4 hB4⟩⟩
      have lp := hD.ne hl0
      have hlen := hln ns hl
      have hb : Bel n ns := hg
      clear hl hg
      refine ⟨_, rfl, rfl, _, rfl, ite2 (fun _ => ?_) (fun _ => ?_)⟩
      refine ⟨_, rfl, _, rfl, p, _, rfl, hD3, by omega, by omega, fun a H4 a0 a1 hD4 hB4 => ?_⟩
      refine ⟨_, rfl, _, rfl, p, _, rfl, hD4, by omega, by omega, fun b H5 b0 b1 hD5 hB5 => ?_⟩
      refine ⟨_, _, rfl, ?_⟩
      refine ⟨_, rfl, _, rfl, (by rw [sizeLine_eq]; show 2 ≤ 16777216; decide), fun t ht => ?_⟩
      have h5 : H5 l = some (.lst (ns.map V.int)) := hB5 _ _ (hB4 _ _ h3 lp) lp
      have h6 : (upd H5 t (.tup [V.int b, V.int a])) l = some (.lst (ns.map V.int)) := same_upd ht _ _ h5
      refine ⟨t, _, rfl, SqT.of upd_same, rfl, ?_⟩
      refine ⟨_, _, rfl, _, rfl, _, rfl, l, _, a, a.toNat, rfl, rfl, h6, ixN_in a0 (by rw [List.length_map]; omega), ?_⟩
      refine ⟨_, _, rfl, _, rfl, _, rfl, l, _, b, b.toNat, rfl, rfl, upd_same, ixN_in b0 (by rw [List.length_set, List.length_map]; omega), ?_⟩
      have kp : ∀ (G : Hp) (o : HO), DiceAt G p → DiceAt (upd G l o) p := fun G o hG => hG.keep fun _ e => by rw [upd_ne (Ne.symm lp)]; exact e
      refine ⟨rfl, _, rfl, q l ((ns.set a.toNat b).set b.toNat a) _ hl0 lp (kp _ _ (kp _ _ (hD5.new ht))) (but_at (but_at (but_two ((hB3.trans hB4).trans hB5) ht) hl0) hl0) (by rw [upd_same, List.map_set, List.map_set]) (by rw [List.length_set, List.length_set]; exact hlen) ((hb.set ⟨b0, b1⟩ _).set ⟨a0, a1⟩ _)⟩
      exact ⟨_, rfl, q l ns H3 hl0 lp hD3 hB3 h3 hlen hb⟩
    · refine ⟨_, rfl, n, rfl, hrg, fun l hl0 => ?_⟩
      obtain ⟨ns, e, hl1, hb⟩ := rgV_bel (n := n) (by omega)
      have lp := hD.ne hl0
      have hlen := hl1
      have hD3 : DiceAt (upd H l (.lst (rgV 0 n))) p := hD.new hl0
      have hB3 : But p H (upd H l (.lst (rgV 0 n))) := but_two (But.refl _ _) hl0
      have h3 : (upd H l (.lst (rgV 0 n))) l = some (.lst (ns.map V.int)) := by rw [upd_same, e]
      clear hl1 e
      generalize upd H l (.lst (rgV 0 n)) = H3 at hD3 hB3 h3 ⊢
      refine ⟨_, rfl, rfl, _, rfl, ite2 (fun _ => ?_) (fun _ => ?_)⟩
      refine ⟨_, rfl, _, rfl, p, _, rfl, hD3, by omega, by omega, fun a H4 a0 a1 hD4 hB4 => ?_⟩
      refine ⟨_, rfl, _, rfl, p, _, rfl, hD4, by omega, by omega, fun b H5 b0 b1 hD5 hB5 => ?_⟩
      refine ⟨_, _, rfl, ?_⟩
      refine ⟨_, rfl, _, rfl, (by rw [sizeLine_eq]; show 2 ≤ 16777216; decide), fun t ht => ?_⟩
      have h5 : H5 l = some (.lst (ns.map V.int)) := hB5 _ _ (hB4 _ _ h3 lp) lp
      have h6 : (upd H5 t (.tup [V.int b, V.int a])) l = some (.lst (ns.map V.int)) := same_upd ht _ _ h5
      refine ⟨t, _, rfl, SqT.of upd_same, rfl, ?_⟩
      refine ⟨_, _, rfl, _, rfl, _, rfl, l, _, a, a.toNat, rfl, rfl, h6, ixN_in a0 (by rw [List.length_map]; omega), ?_⟩
      refine ⟨_, _, rfl, _, rfl, _, rfl, l, _, b, b.toNat, rfl, rfl, upd_same, ixN_in b0 (by rw [List.length_set, List.length_map]; omega), ?_⟩
      have kp : ∀ (G : Hp) (o : HO), DiceAt G p → DiceAt (upd G l o) p := fun G o hG => hG.keep fun _ e => by rw [upd_ne (Ne.symm lp)]; exact e
      refine ⟨rfl, _, rfl, q l ((ns.set a.toNat b).set b.toNat a) _ hl0 lp (kp _ _ (kp _ _ (hD5.new ht))) (but_at (but_at (but_two ((hB3.trans hB4).trans hB5) ht) hl0) hl0) (by rw [upd_same, List.map_set, List.map_set]) (by rw [List.length_set, List.length_set]; exact hlen) ((hb.set ⟨b0, b1⟩ _).set ⟨a0, a1⟩ _)⟩
      exact ⟨_, rfl, q l ns H3 hl0 lp hD3 hB3 h3 hlen hb⟩
end
end WK
set_option Elab.async false
set_option linter.all false
set_option maxRecDepth 100000
set_option maxHeartbeats 8000000
namespace WK
open PySem L2 PyProof.Rows LCX K1
open TX (sg sigs)
open PySem.W (Frag kitOne)
abbrev oLst (r : List Int) : HO := .lst (r.map V.int)
/-- a plain table at l: a list of tuples -/
def PTab (H : Hp) (l : Addr) (tb : List (List Int)) : Prop := ∃ as, H l = some (.lst (as.map V.ref)) ∧ Objs oTup H as tb
/-- a table of n rows, each of wd numbers below n -/
structure TabOk (tb : List (List Int)) (wd : Nat) (n : Int) : Prop where
  len : (tb.length : Int) = n
  row : ∀ r ∈ tb, r.length = wd ∧ Bel n r
theorem DiceAt.tup {H : Hp} {p a : Addr} {xs : List V} (h : DiceAt H p) (e : H a = some (.tup xs)) : a ≠ p := fun z => by
  obtain ⟨x, y, w, k, _⟩ := h
  rw [z, k] at e
  cases e
theorem PTab.but {H H' : Hp} {p l : Addr} {tb : List (List Int)} (h : PTab H l tb) (lp : l ≠ p) (hD : DiceAt H p) (b : But p H H') : PTab H' l tb := by
  obtain ⟨as, h1, h2⟩ := h
  exact ⟨as, b _ _ h1 lp, h2.to fun a _ r e => b _ _ e (hD.tup e)⟩
def spLTab : Sp := fun vs H Q _ => ∃ (p q : Addr) (L : W) (n : Int) (ss : List Int), vs = [.ref p, .str (tx L), .int n, .ref q] ∧ DiceAt H p ∧ L ≠ [] ∧ L.length ≤ 26 ∧ 1 ≤ n ∧ n ≤ 60 ∧ q ≠ p ∧ H q = some (.lst (ss.map V.int)) ∧ ss ≠ [] ∧ ss.length ≤ 100 ∧
  ∀ (l : Addr) (tb : List (List Int)) (H' : Hp), H l = none → l ≠ p → DiceAt H' p → But p H H' → PTab H' l tb → TabOk tb L.length n → Q (.ref l) H'
abbrev NTb : List Str := ["_law_dice_here", "_law_letters_here", "_law_size", "_law_sorts", "_law_rows", "_law_letter", "_law_place", "_law_row"]
abbrev scT2 : Scope := { kind := .function, names := [(".0", .local), ("_law_place", .cell), ("tuple", .globalImplicit), ("_law_rows", .cell)], isGenerator := false, isCoroutine := false }
abbrev rTupL (K : Frag) : List V → Hp → VK → Prop := fun xs H Q => ∃ p ys, xs = [.ref p] ∧ ((SqL K H p ys ∧ ∀ l, H l = none → Q (.ref l) (upd H l (.tup ys))) ∨ (SqT K H p ys ∧ Q (.ref p) H))
section
variable {P : Program} {w : World} {K : PySem.W.Frag} {mg : Str → Option Value} {base : Heap} {fR fO fA fT : Addr} {dR dO dA dT : FuncData}
theorem scTa : FnScope NTb ["_law_dice_here", "_law_letters_here", "_law_size", "_law_sorts"] (defScope sLTab) := ⟨rfl, rfl, rfl, by decide +kernel, rfl, by decide +kernel, by decide +kernel⟩
theorem ok_ltab {f : Addr} {fd : FuncData} (F : Fun K "_law_table" "_law_table" sLTab f fd) (T : TN mg) (AR : Fn K mg "_law_roll" sRoll ["_law_dice_here", "_law_total"] fR dR) (AO : Fn K mg "_law_one_of" sOne ["_law_dice_here", "_law_items"] fO dO)
    (AA : Fn K mg "_law_action" sAct ["_law_dice_here", "_law_size", "_law_sort"] fA dA) : FnOk P w K mg base CX0 3 f fd ["_law_dice_here", "_law_letters_here", "_law_size", "_law_sorts"] spLTab := by
  have GO : FnOk P w K mg base CX0 2 fO dO ["_law_dice_here", "_law_items"] spOne := ok_one AO.F T.dice AR.g AR.F AR.b
  have GA : FnOk P w K mg base CX0 2 fA dA ["_law_dice_here", "_law_size", "_law_sort"] spAct := ok_act AA.F T AR
  refine F.ok scTa (fun vs H Q E h => ?_) (fun cdv A outer s H vs Q E hr h => ?_)
  · obtain ⟨p, q, L, n, ss, rfl, _⟩ := h
    rfl
  · obtain ⟨p, q, L, n, ss, rfl, hD, hL, hL2, h1, h60, qp, hq, hs0, hs1, k⟩ := h
    refine ⟨_, pss_cons (ps_set (i := 4) scTa.nd rfl (Or.inr rfl) (pe_lc (own := [("_law_letter", 5)]) (g := gName 5) (tt := tYes) rfl scTa.nd (pi_str (pv 1))
        (blkOk_by (own := [("_law_letter", 5)]) (N := NTb) (sc := defScope sLTab) (by decide +kernel)) (fun _ _ _ _ _ => pg_name (i := 5) scTa.nd rfl (Or.inl rfl)) (fun _ _ _ _ _ => pts_nil)
        (fun _ _ _ _ _ => pe_call GA hr rfl AA.g AA.F.kp AA.b .nil pass0 (pa_cons (pv 0) (pa_cons (pv 2) (pa_cons (pe_call GO hr rfl AO.g AO.F.kp AO.b .nil pass0 (pa_cons (pv 0) (pa_cons (pv 3) pa_nil))) pa_nil))))))
      (pss_one (ps_ret (pe_lc (own := [("_law_place", 6)]) (g := gName 6) (tt := tYes) (te := tCB (rTupL K) (tCons (tLc (iList K (tVar 4)) (gName 7) tYes (tOp (rIxL K) (tVar 7) (tVar 6)) [7]) tNil)) rfl scTa.nd (pi_range1 rfl T.rng (pa_cons (pv 2) pa_nil))
        (blkOk_by (own := [("_law_place", 6)]) (N := NTb) (sc := defScope sLTab) (by decide +kernel)) (fun _ _ _ _ _ => pg_name (i := 6) scTa.nd rfl (Or.inr rfl)) (fun _ _ _ _ _ => pts_nil)
        (fun _ _ _ _ _ => pe_callTy call_tuple_of (by rfl) T.tuple (by decide +kernel) (pa_cons (pe_lc (own := [("_law_row", 7)]) (g := gName 7) (tt := tYes) (te := tOp (rIxL K) (tVar 7) (tVar 6)) rfl scTa.nd (pi_list (pv 4))
          (blkOk_by (own := [("_law_row", 7)]) (N := NTb) (sc := scT2) (by decide +kernel)) (fun _ _ _ _ _ => pg_name (i := 7) scTa.nd rfl (Or.inl rfl)) (fun _ _ _ _ _ => pts_nil)
          (fun _ _ _ _ _ => pe_ix ix_list (pv 7) (pv 6) (fun _ _ => rfl))) pa_nil))))), ?_⟩
    have ssp : 0 < (ss.map V.int).length := by rw [List.length_map]; exact List.length_pos_iff.mpr hs0
    have ss1 : (ss.map V.int).length < 1000000 := by rw [List.length_map]; omega
    refine ⟨_, rfl, tx L, rfl, fun D hD2 => ?_⟩
    have Dp := hD.ne hD2
    have qD : q ≠ D := ne_of_none hq hD2
    refine lc_it walk_str (fun i H3 => DiceAt H3 p ∧ But p H H3 ∧ ∃ (as : List Addr) (rs : List (List Int)), as.length = i ∧ H3 D = some (.lst (as.map V.ref)) ∧ Objs oLst H3 as rs ∧ (∀ r ∈ rs, (r.length : Int) = n ∧ Bel n r) ∧ ∀ a ∈ as, a ≠ D ∧ a ≠ p)
      ⟨hD.new hD2, but_two (But.refl p H) hD2, [], [], rfl, upd_same, trivial, fun r hr => (nomatch hr), fun r hr => (nomatch hr)⟩ (fun _ _ _ _ => trivial) ?_ ?_
    · rintro i x H3 H4 hi ⟨hD4, hB4, as, rs, hl, hd, ho, hr2, hn⟩ ⟨rfl, c, hx, rfl⟩
      have hx' : L[i]? = some c := by
        rw [← Array.getElem?_toList, tx_list] at hx
        exact hx
      have hiL := (List.getElem?_eq_some_iff.mp hx').1
      refine ⟨rfl, _, rfl, _, rfl, _, rfl, _, rfl, p, q, _, rfl, hD4, qp, hB4 _ _ hq qp, ssp, ss1, fun v H5 hv hD5 hB5 => ?_⟩
      obtain ⟨s0, _, rfl⟩ := List.mem_map.mp hv
      refine ⟨p, n, s0, rfl, hD5, h1, h60, fun l ns H6 hl6 lp hD6 hB6 h6 hlen hb => ?_⟩
      have hd6 : H6 D = some (.lst (as.map V.ref)) := hB6 _ _ (hB5 _ _ hd Dp) Dp
      have lD : l ≠ D := fun z => by rw [z, hB5 _ _ hd Dp] at hl6; cases hl6
      have ho6 : Objs oLst H6 as rs := ho.to fun a ha r e => hB6 _ _ (hB5 _ _ e (hn a ha).2) (hn a ha).2
      refine ⟨_, hd6, by rw [List.length_map, sizeLine_eq]; omega, hD6.keep fun o e => by rw [upd_ne (Ne.symm Dp)]; exact e, but_at ((hB4.trans hB5).trans hB6) hD2, as ++ [l], rs ++ [ns], by rw [List.length_append, hl] <;> rfl, by rw [upd_same, List.map_append] <;> rfl, ?_, ?_, ?_⟩
      · refine Objs.snoc (ho6.to fun a ha r e => by rw [upd_ne (hn a ha).1]; exact e) (by rw [upd_ne lD]; exact h6)
      · intro r hr
        rcases List.mem_append.mp hr with z | z
        · exact hr2 r z
        · rw [List.mem_singleton.mp z]
          exact ⟨hlen, hb⟩
      · intro a ha
        rcases List.mem_append.mp ha with z | z
        · exact hn a z
        · rw [List.mem_singleton.mp z]
          exact ⟨lD, lp⟩
    · rintro H3 ⟨hD3, hB3, as, rs, hl, hd, ho, hr2, hn⟩
      have hl : as.length = L.length := by rw [hl, size_tx]
      have hrl : rs.length = L.length := ho.len.symm.trans hl
      refine ⟨_, rfl, _, rfl, by omega, by omega, fun D2 hD4 => ?_⟩
      have D2p := hD3.ne hD4
      have nD2 : H D2 = none := but_free hB3 hD4 D2p
      refine lc_range (lo := 0) (n := n.toNat) (fun i H4 => DiceAt H4 p ∧ But p H3 H4 ∧ ∃ (ts : List Addr) (tb : List (List Int)), ts.length = i ∧ H4 D2 = some (.lst (ts.map V.ref)) ∧ Objs oTup H4 ts tb ∧ ∀ r ∈ tb, r.length = L.length ∧ Bel n r)
        ⟨hD3.new hD4, but_two (But.refl p H3) hD4, [], [], rfl, upd_same, trivial, fun r hr => (nomatch hr)⟩ ?_ ?_
      · rintro i H4 hi ⟨hD4', hB4, ts, tb, hlt, hd2, ho2, hr3⟩
        have hd4 : H4 D = some (.lst (as.map V.ref)) := hB4 _ _ hd Dp
        have ho4 : Objs oLst H4 as rs := ho.to fun a ha r e => hB4 _ _ e (hn a ha).2
        refine ⟨rfl, _, rfl, D, rfl, ⟨_, SqL.of hd4⟩, fun D3 hD3' => ?_⟩
        have hz : (as.zip rs).length < sizeLine := by rw [List.length_zip, sizeLine_eq]; omega
        have eas : as.map V.ref = (as.zip rs).map fun z => V.ref z.1 := by
          rw [show (fun z : Addr × List Int => V.ref z.1) = V.ref ∘ Prod.fst from rfl, ← List.map_map, List.map_fst_zip (Nat.le_of_eq ho.len)]
        refine same_list (l := as.zip rs) (val := fun z => V.ref z.1) (r := fun z => [V.int (z.2.getD i 0)]) hD3' (SqL.of (by rw [← eas]; exact hd4)) hz (fun _ => Nat.le_refl _) (fun z hz H5 acc s5 hacc hlen N hN => ?_) (fun H5 s5 hd5 => ?_)
        · obtain ⟨e1, e2⟩ := hr2 z.2 (List.of_mem_zip hz).2
          have hii : i < z.2.length := by omega
          have at1 : atI (z.2.map V.int) (0 + (i : Int)) = some (.int (z.2.getD i 0)) := by
            rw [Int.zero_add]
            refine atI_nat ?_
            rw [List.getElem?_map, List.getD_eq_getElem?_getD, List.getElem?_eq_getElem hii] <;> rfl
          exact ⟨rfl, _, rfl, _, rfl, z.1, _, _, _, rfl, rfl, SqL.of (s5 _ _ (ho4.at_ z hz)), at1, acc, hacc, hlen, hN _ (same_at s5 hD3') upd_same⟩
        · have e : (as.zip rs).flatMap (fun z => [V.int (z.2.getD i 0)]) = (rs.map fun r => r.getD i 0).map V.int := by
            rw [flat_map, List.map_map]
            conv => rhs; rw [← List.map_snd_zip (l₁ := as) (l₂ := rs) (Nat.le_of_eq ho.len.symm)]
            rw [List.map_map] <;> rfl
          rw [e] at hd5
          refine ⟨D3, _, rfl, .inl ⟨SqL.of hd5, fun t ht => ?_⟩⟩
          have s6 : Same H4 (upd H5 t (.tup ((rs.map fun r => r.getD i 0).map V.int))) := same_two s5 ht
          have hd6 := s6 _ _ hd2
          have D2t : ∀ a ∈ ts, a ≠ D2 := fun a ha z => by
            obtain ⟨r, _, e⟩ := ho2.mem a ha
            rw [z, hd2] at e
            cases e
          have tD2 : t ≠ D2 := fun z => by rw [z] at ht; rw [s5 _ _ hd2] at ht; cases ht
          refine ⟨_, hd6, by rw [List.length_map, sizeLine_eq]; omega, ?_, ?_, ts ++ [t], tb ++ [rs.map fun r => r.getD i 0], by rw [List.length_append, hlt] <;> rfl, by rw [upd_same, List.map_append] <;> rfl, ?_, ?_⟩
          · exact (hD4'.keep fun o e => s6 _ _ e).keep fun o e => by rw [upd_ne (Ne.symm D2p)]; exact e
          · exact but_at (hB4.trans (But.ofSame s6)) hD4
          · refine Objs.snoc (ho2.to fun a ha r e => by rw [upd_ne (D2t a ha)]; exact s6 _ _ e) (by rw [upd_ne tD2, upd_same])
          · intro r hr
            rcases List.mem_append.mp hr with z | z
            · exact hr3 r z
            · rw [List.mem_singleton.mp z]
              refine ⟨by rw [List.length_map, hrl], fun j hj => ?_⟩
              obtain ⟨r', hr', rfl⟩ := List.mem_map.mp hj
              obtain ⟨e1, e2⟩ := hr2 r' hr'
              have hii : i < r'.length := by omega
              rw [List.getD_eq_getElem?_getD, List.getElem?_eq_getElem hii]
              exact e2 _ (List.getElem_mem hii)
      · rintro H4 ⟨hD4', hB4, ts, tb, hlt, hd2, ho2, hr3⟩
        exact k D2 tb H4 nD2 D2p hD4' (hB3.trans hB4) ⟨ts, hd2, ho2⟩ ⟨by rw [← ho2.len, hlt]; omega, hr3⟩
end
end WK
set_option Elab.async false
set_option linter.all false
set_option maxRecDepth 100000
set_option maxHeartbeats 8000000
namespace WK
open PySem L2 PyProof.Rows LCX
open PySem.W (Frag kitOne)
abbrev sMInit : Stmt := inClass (top 49) 0
def plainTys : List String := ["tuple", "list", "str", "NoneType", "int", "bool"]
theorem NT.ty2 {K : Frag} {H : Hp} {v : V} (h : NT H v) : ∃ t, t ∈ plainTys ∧ TyX K H v (.type t) ∧ kitOne K (.type t) (.type "tuple") = some false := by
  rcases h with ⟨x, rfl⟩ | rfl | ⟨i, rfl⟩ | ⟨b, rfl⟩ | ⟨a, xs, rfl, q⟩
  · exact ⟨_, by decide, .base (.str _), kit_ty (by decide +kernel)⟩
  · exact ⟨_, by decide, .base .non, kit_ty (by decide +kernel)⟩
  · exact ⟨_, by decide, .base (.int _), kit_ty (by decide +kernel)⟩
  · exact ⟨_, by decide, .base (.bl _), kit_ty (by decide +kernel)⟩
  · exact ⟨_, by decide, .base (.lst q), kit_ty (by decide +kernel)⟩
/-- the class Machine at C, the class Made at cD, the error at cM -/
structure TMc (K : Frag) (mg : Str → Option Value) (C cD cM : Addr) : Prop where
  cl : Cls K C
  nT : NoAttr K C "_table"
  nL : NoAttr K C "_letters"
  nE : NoAttr K C "_ends"
  gC : mg "Machine" = some (.ref C)
  gD : mg "Made" = some (.ref cD)
  iD : ∀ t ∈ plainTys, kitOne K (.type t) (.ref cD) = some false
  gM : mg "InvalidMachine" = some (.ref cM)
  xM : PySem.W.excIn K cM [.type "ValueError", .type "Exception", .type "BaseException", .type "object"] "ValueError.__new__" = true
  kM : PySem.W.keepIn K (.ref cM) = true
  bM : PySem.W.subIn K (.ref cM) (.type "BaseException") = some true
  tM : PySem.W.typeIn K (.ref cM) = some (.type "type")
  most : ∃ t, mg "MAX_STATES" = some (.int 4 t)
/-- its fields -/
def mfl (lt tb en : V) : List (Str × V) := [("_table", tb), ("_letters", lt), ("_ends", en)]
/-- what is handed in: letters (none: no text), a table (none: no tuple), ends (none: no tuple) -/
def LetV (v : V) : Option Str → Prop
  | some x => v = .str x ∧ x.length ≤ 1000
  | none => v = .non
def TabV (K : Frag) (H : Hp) (v : V) : Option (List (Option (List V))) → Prop
  | some rs => ∃ a xs, v = .ref a ∧ SqT K H a xs ∧ xs.length ≤ 100 ∧ Rows K H xs rs
  | none => NT H v
def letO : Option Str → Bool
  | some x => letB x
  | none => false
def tabO (wd : Int) : Option (List (Option (List V))) → Bool
  | some rs => tabB rs wd 4
  | none => false
def ascO (m : Int) : Option (List V) → Bool
  | some xs => ascV xs m
  | none => false
def lenO {α : Type} : Option (List α) → Int
  | some l => l.length
  | none => 0
def lenX : Option Str → Int
  | some x => x.length
  | none => 0
def madeB (lt : Option Str) (tb : Option (List (Option (List V)))) (en : Option (List V)) : Bool := letO lt && tabO (lenX lt) tb && ascO (lenO tb) en
def spMInit (K : Frag) (C cM : Addr) : Sp := fun vs H Q E => ∃ p dx l t e lt tb en, vs = [.ref p, l, t, e] ∧ H p = some (.ins C dx []) ∧ LetV l lt ∧ TabV K H t tb ∧ RowV K H e en ∧
  ((madeB lt tb en = true ∧ ∀ H', H' p = some (.ins C dx (mfl l t e)) → (∀ b o, H b = some o → b ≠ p → H' b = some o) → Q .non H') ∨ (madeB lt tb en = false ∧ ∀ H', (∀ b o, H b = some o → b ≠ p → H' b = some o) → E (.ref cM) none H'))
theorem put2 (l t : V) : putF "_letters" l (putF "_table" t []) = ([("_table", t), ("_letters", l)] : List (Str × V)) := by
  show (if ("_table" : Str) = "_letters" then [(("_table" : Str), l)] else (("_table" : Str), t) :: putF "_letters" l []) = ([("_table", t), ("_letters", l)] : List (Str × V))
  rw [if_neg (by decide +kernel)]
  all_goals rfl
theorem put3 (l t e : V) : putF "_ends" e ([("_table", t), ("_letters", l)] : List (Str × V)) = mfl l t e := by
  show (if ("_table" : Str) = "_ends" then [(("_table" : Str), e), ("_letters", l)] else (("_table" : Str), t) :: (if ("_letters" : Str) = "_ends" then [(("_letters" : Str), e)] else (("_letters" : Str), l) :: putF "_ends" e [])) = mfl l t e
  rw [if_neg (by decide +kernel), if_neg (by decide +kernel)]
  all_goals rfl
theorem made_s (x : Str) (tb : Option (List (Option (List V)))) (en : Option (List V)) : madeB (some x) tb en = (letB x && tabO x.length tb && ascO (lenO tb) en) := rfl
theorem made_t (x : Str) (rs : List (Option (List V))) (en : Option (List V)) : madeB (some x) (some rs) en = (letB x && tabB rs x.length 4 && ascO rs.length en) := rfl
theorem sq_ins {K : Frag} {H : Hp} {a p C dx : Addr} {xs : List V} {fs : List (Str × V)} {o : HO} (h : SqT K H a xs) (hp : H p = some (.ins C dx fs)) : SqT K (upd H p o) a xs := by
  rcases h with h | h
  · rcases h with h | ⟨ob, h⟩
    · exact .inl (.inl (by rw [upd_ne (ne_of h hp (fun z => nomatch z))]; exact h))
    · exact .inl (.inr ⟨ob, by rw [upd_ne (ne_of h hp (fun z => nomatch z))]; exact h⟩)
  · exact .inr h
theorem NT.ins {H : Hp} {v : V} {p C dx : Addr} {fs : List (Str × V)} {o : HO} (h : NT H v) (hp : H p = some (.ins C dx fs)) : NT (upd H p o) v := by
  rcases h with h | h | h | h | ⟨a, xs, h, q⟩
  · exact .inl h
  · exact .inr (.inl h)
  · exact .inr (.inr (.inl h))
  · exact .inr (.inr (.inr (.inl h)))
  · exact .inr (.inr (.inr (.inr ⟨a, xs, h, by rw [upd_ne (ne_of q hp (fun z => nomatch z))]; exact q⟩)))
theorem RowV.ins {K : Frag} {H : Hp} {v : V} {r : Option (List V)} {p C dx : Addr} {fs : List (Str × V)} {o : HO} (h : RowV K H v r) (hp : H p = some (.ins C dx fs)) : RowV K (upd H p o) v r := by
  cases r with
  | none => exact NT.ins h hp
  | some xs =>
    obtain ⟨a, e, t, l, q⟩ := h
    exact ⟨a, e, sq_ins t hp, l, q⟩
section
variable {P : Program} {w : World} {K : PySem.W.Frag} {mg : Str → Option Value} {base : Heap} {C cD cM fL fT fA : Addr} {dL dT dA : FuncData}
theorem scMI : FnScope ["self", "letters", "table", "ends"] ["self", "letters", "table", "ends"] (defScope sMInit) := ⟨rfl, rfl, rfl, by decide +kernel, rfl, by decide +kernel, by decide +kernel⟩
theorem ok_minit {f : Addr} {oc kV dc pm ct cd dV : Value} {an od : Option Addr} {sl : Array (Option Value)} (lk : K.lookup f = some ⟨oc, od, .func (PySem.W.fnOf "__init__" "Machine.__init__" (defArgs sMInit) (defBody sMInit) (defScope sMInit) dV kV dc pm an cd ct), sl⟩) (hcd : PySem.W.codeIn K cd "Machine.__init__" = true)
    (T : TN mg) (M : TMc K mg C cD cM) (AL : Fn K mg "is_letters" sIsLet ["value"] fL dL) (GL : FnOk P w K mg base CX0 2 fL dL ["value"] (spIsLet K)) (AT : Fn K mg "is_table" sIsTab ["value", "width", "most"] fT dT) (GT : FnOk P w K mg base CX0 4 fT dT ["value", "width", "most"] (spTab K))
    (AA : Fn K mg "is_ascending" sIsAsc ["value", "many"] fA dA) (GA : FnOk P w K mg base CX0 3 fA dA ["value", "many"] (spIsAsc K)) :
    FnOk P w K mg base (L2.CX P w) 5 f (PySem.W.fnOf "__init__" "Machine.__init__" (defArgs sMInit) (defBody sMInit) (defScope sMInit) dV kV dc pm an cd ct) ["self", "letters", "table", "ends"] (spMInit K C cM) := by
  obtain ⟨tm, most⟩ := M.most
  refine fn_of lk hcd scMI (fun vs H Q E h => ?_) (fun A outer s H vs Q E hr h => ?_)
  · obtain ⟨p, dx, l, t, e, _, _, _, rfl, _⟩ := h
    rfl
  · obtain ⟨p, dx, l, t, e, lt, tb, en, rfl, hp, hl, ht, he, q⟩ := h
    have hr3 : Room 3 _ := hr.mono (by decide)
    have hr2 : Room 2 _ := hr.mono (by decide)
    refine ⟨_, pss_cons (ps_if (pt_not (pt_val (pe_call GL hr2 rfl AL.g AL.F.kp AL.b .nil pass0 (pa_cons (pv 1) pa_nil)))) (pss_one (ps_raise rfl (takes_of rfl rfl rfl rfl) (pmk_own PySem.F.excBase_ValueError M.xM M.gM M.kM (raises_own M.bM M.tM) rfl))) pss_nil)
      (pss_cons (ps_if (pt_val (pe_callB call_isi (by rfl) T.isi (by decide +kernel) (pa_cons (pv 2) (pa_cons (pe_glob rfl M.gD (show RelV (.ref cD) (.ref cD) from rfl)) pa_nil)))) (pss_one (ps_fld (pv 0) (pe_fld (pv 2) rfl) rfl))
        (pss_one (ps_if (pt_val (pe_call GT hr rfl AT.g AT.F.kp AT.b .nil pass0 (pa_cons (pv 2) (pa_cons (pe_callB call_len_str (by rfl) T.len PySem.boot_len (pa_cons (pv 1) pa_nil)) (pa_cons (pe_glob rfl most (show RelV (.int 4) (.int 4 tm) from ⟨tm, rfl⟩)) pa_nil)))))
          (pss_one (ps_fld (pv 0) (pv 2) rfl)) (pss_one (ps_raise rfl (takes_of rfl rfl rfl rfl) (pmk_own PySem.F.excBase_ValueError M.xM M.gM M.kM (raises_own M.bM M.tM) rfl))))))
      (pss_cons (ps_if (pt_not (pt_val (pe_call GA hr3 rfl AA.g AA.F.kp AA.b .nil pass0 (pa_cons (pv 3) (pa_cons (pe_callB call_len_seq (by rfl) T.len PySem.boot_len (pa_cons (pe_fld (pv 0) rfl) pa_nil)) pa_nil))))) (pss_one (ps_raise rfl (takes_of rfl rfl rfl rfl) (pmk_own PySem.F.excBase_ValueError M.xM M.gM M.kM (raises_own M.bM M.tM) rfl))) pss_nil)
      (pss_cons (ps_fld (pv 0) (pv 1) rfl) (pss_one (ps_fld (pv 0) (pv 3) rfl))))), ?_⟩
    have qT : madeB lt tb en = true → ∀ H', H' p = some (.ins C dx (mfl l t e)) → (∀ b o, H b = some o → b ≠ p → H' b = some o) → Q .non H' := fun h => q.elim (·.2) fun z => absurd (h.symm.trans z.1) (fun y => nomatch y)
    have qF : madeB lt tb en = false → ∀ H', (∀ b o, H b = some o → b ≠ p → H' b = some o) → E (.ref cM) none H' := fun h => q.elim (fun z => absurd (z.1.symm.trans h) (fun y => nomatch y)) (·.2)
    clear q
    cases lt with
    | none =>
      obtain rfl : l = .non := hl
      exact ⟨_, rfl, _, rfl, .inr ⟨⟨"NoneType", .base .non, kit_ty (by decide +kernel)⟩, _, rfl, qF rfl _ fun b o z _ => z⟩⟩
    | some x =>
      obtain ⟨rfl, hx⟩ := hl
      refine ⟨_, rfl, _, rfl, .inl ⟨x, rfl, hx, fun H1 s1 => ⟨_, rfl, ?_⟩⟩⟩
      cases e1 : letB x with
      | false => exact qF (by rw [made_s, e1] <;> rfl) _ fun b o z _ => s1 _ _ z
      | true =>
        have hz : x.length ≤ sizeLine := by rw [sizeLine_eq]; omega
        cases tb with
        | none =>
          obtain ⟨ty, ht1, ht2, ht3⟩ := NT.ty2 (K := K) (NT.ext (show NT H t from ht) s1)
          refine ⟨_, rfl, _, _, _, _, false, rfl, .own cD, ht2, M.iD ty ht1, false, rfl, ?_⟩
          refine ⟨_, rfl, _, rfl, _, rfl, hz, t, _, _, rfl, .inr ⟨NT.ext (show NT H t from ht) s1, _, rfl, ?_⟩⟩
          exact qF (by rw [made_s, show tabO x.length none = false from rfl, Bool.and_false] <;> rfl) _ fun b o z _ => s1 _ _ z
        | some rs =>
          obtain ⟨a, xs, rfl, hT, hxl, hR⟩ := ht
          refine ⟨_, rfl, _, _, _, _, false, rfl, .own cD, tyT (seqT s1 hT), M.iD _ (by decide), false, rfl, ?_⟩
          refine ⟨_, rfl, _, rfl, _, rfl, hz, .ref a, _, _, rfl, .inl ⟨a, xs, rs, rfl, seqT s1 hT, hxl, hR.ext s1, fun H2 s2 => ⟨_, rfl, ?_⟩⟩⟩
          have s02 : Same H H2 := s1.trans s2
          cases e2 : tabB rs x.length 4 with
          | false => exact qF (by rw [made_t, e2, Bool.and_false] <;> rfl) _ fun b o z _ => s02 _ _ z
          | true =>
            have hp2 : H2 p = some (.ins C dx []) := s02 _ _ hp
            refine ⟨_, rfl, _, rfl, p, C, dx, [], rfl, hp2, M.cl, M.nT, (by decide), ?_⟩
            refine ⟨_, rfl, _, rfl, p, C, dx, _, _, rfl, upd_same, M.cl, M.nT, rfl, a, xs, rfl, .inr (sq_ins (seqT s02 hT) hp2), ?_⟩
            have hN : ∀ H3, Same (upd H2 p (.ins C dx (putF "_table" (V.ref a) []))) H3 → ∀ b o, H b = some o → b ≠ p → H3 b = some o := fun H3 s3 b o z n => s3 _ _ (by rw [upd_ne n]; exact s02 _ _ z)
            have he2 : RowV K (upd H2 p (.ins C dx (putF "_table" (V.ref a) []))) e en := (RowV.ext he s02).ins hp2
            have hlen : xs.length = rs.length := hR.len
            have hp3 : (upd H2 p (.ins C dx (putF "_table" (V.ref a) []))) p = some (.ins C dx (putF "_table" (V.ref a) [])) := upd_same
            cases en with
            | none => exact ⟨e, _, rfl, .inr ⟨he2, _, rfl, qF (by rw [made_t, show ascO rs.length none = false from rfl, Bool.and_false]) _ (hN _ (Same.refl _))⟩⟩
            | some ys =>
              obtain ⟨b, rfl, hE, hyl, hyn⟩ := he2
              refine ⟨_, _, rfl, .inl ⟨b, ys, rfl, hE, hyl, hyn, fun H3 s3 => ⟨_, rfl, ?_⟩⟩⟩
              rw [hlen]
              cases e3 : ascV ys (rs.length : Int) with
              | false => exact qF (by rw [made_t, show ascO rs.length (some ys) = ascV ys rs.length from rfl, e3, Bool.and_false]) _ (hN _ s3)
              | true =>
                refine ⟨_, rfl, _, rfl, p, C, dx, _, rfl, s3 _ _ hp3, M.cl, M.nL, (by show 1 < 1000; decide), ?_⟩
                refine ⟨_, rfl, _, rfl, p, C, dx, _, rfl, upd_same, M.cl, M.nE, (by rw [put2]; show 2 < 1000; decide), ?_⟩
                refine qT (by rw [made_t, show ascO rs.length (some ys) = ascV ys rs.length from rfl, e1, e2, e3] <;> rfl) _ (by rw [upd_same, put2, put3]) fun c o z n => ?_
                rw [upd_ne n, upd_ne n]
                exact hN _ s3 c o z n
end
end WK
set_option Elab.async false
set_option linter.all false
set_option maxRecDepth 100000
set_option maxHeartbeats 8000000
namespace WK
open PySem L2 PyProof.Rows LCX K1
open TX (sg sigs)
open PySem.W (Frag kitOne)
abbrev kL : Key := Sum.inr "letters"
abbrev kTb : Key := Sum.inr "table"
abbrev kE : Key := Sum.inr "ends"
/-- a plain machine's dict -/
def pkv (L : W) (lt le : Addr) : List (Key × V) := [(kL, .str (tx L)), (kTb, .ref lt), (kE, .ref le)]
/-- ascending numbers from 0 to n -/
def Asc (n : Int) (es : List Int) : Prop := Bel n es ∧ es.Pairwise (· < ·)
structure PlainM (H : Hp) (m : Addr) (L : W) (tb : List (List Int)) (es : List Int) : Prop where
  ex : ∃ lt le, H m = some (.dK (pkv L lt le)) ∧ PTab H lt tb ∧ H le = some (.lst (es.map V.int))
structure MacOk (L : W) (tb : List (List Int)) (es : List Int) (n : Int) : Prop where
  tab : TabOk tb L.length n
  asc : Asc n es
  one : 1 ≤ n
/-- a plain machine's lists are not at p -/
def OffP (H : Hp) (m p : Addr) (L : W) : Prop := ∀ lt l, H m = some (.dK (pkv L lt l)) → lt ≠ p ∧ l ≠ p
theorem pkv_inj {L : W} {a b c d : Addr} (h : pkv L a b = pkv L c d) : a = c ∧ b = d := by
  injection h with _ h
  injection h with h1 h
  injection h with h2 _
  injection h1 with _ h1
  injection h2 with _ h2
  injection h1 with h1
  injection h2 with h2
  exact ⟨h1, h2⟩
def spLMac : Sp := fun vs H Q _ => ∃ (p : Addr) (L : W) (n : Int), vs = [.ref p, .str (tx L), .int n] ∧ DiceAt H p ∧ L ≠ [] ∧ L.length ≤ 26 ∧ 1 ≤ n ∧ n ≤ 50 ∧
  ∀ (m : Addr) (tb : List (List Int)) (es : List Int) (z : Int) (H' : Hp), H m = none → m ≠ p → DiceAt H' p → But p H H' → PlainM H' m L tb es → OffP H' m p L → MacOk L tb es z → z ≤ n → Q (.ref m) H'
abbrev NMa : List Str := ["_law_dice_here", "_law_letters_here", "_law_states", "_law_size", "_law_table_here", "_law_ends", "_law_state"]
theorem PTab.same {H H' : Hp} {l : Addr} {tb : List (List Int)} (h : PTab H l tb) (s : Same H H') : PTab H' l tb := by
  obtain ⟨as, h1, h2⟩ := h
  exact ⟨as, s _ _ h1, h2.to fun a _ r e => s _ _ e⟩
theorem merge3 (a b c : V) : mergeK [] ([(kL, a), (kTb, b), (kE, c)] : List (Key × V)) = [(kL, a), (kTb, b), (kE, c)] := by
  have h1 : decide ((kL : Key) = kTb) = false := by decide +kernel
  have h2 : decide ((kL : Key) = kE) = false := by decide +kernel
  have h3 : decide ((kTb : Key) = kE) = false := by decide +kernel
  show putK (putK (putK [] kL a) kTb b) kE c = _
  have e1 : putK ([] : List (Key × V)) kL a = [(kL, a)] := rfl
  have e2 : putK [(kL, a)] kTb b = [(kL, a), (kTb, b)] := by
    unfold putK
    rw [List.any_cons, h1]
    rfl
  have e3 : putK [(kL, a), (kTb, b)] kE c = [(kL, a), (kTb, b), (kE, c)] := by
    unfold putK
    rw [List.any_cons, List.any_cons, h2, h3]
    rfl
  rw [e1, e2, e3]
section
variable {P : Program} {w : World} {K : PySem.W.Frag} {mg : Str → Option Value} {base : Heap} {fR fO fA fT : Addr} {dR dO dA dT : FuncData}
theorem scMa : FnScope NMa ["_law_dice_here", "_law_letters_here", "_law_states"] (defScope sLMac) := ⟨rfl, rfl, rfl, by decide +kernel, rfl, by decide +kernel, by decide +kernel⟩
theorem ok_lmac {f : Addr} {fd : FuncData} (F : Fun K "_law_machine" "_law_machine" sLMac f fd) (T : TN mg) (AR : Fn K mg "_law_roll" sRoll ["_law_dice_here", "_law_total"] fR dR) (AT : Fn K mg "_law_table" sLTab ["_law_dice_here", "_law_letters_here", "_law_size", "_law_sorts"] fT dT)
    (GT : FnOk P w K mg base CX0 3 fT dT ["_law_dice_here", "_law_letters_here", "_law_size", "_law_sorts"] spLTab) : FnOk P w K mg base CX0 4 f fd ["_law_dice_here", "_law_letters_here", "_law_states"] spLMac := by
  have GR : FnOk P w K mg base CX0 1 fR dR ["_law_dice_here", "_law_total"] spRoll := ok_roll AR.F T.dice
  refine F.ok scMa (fun vs H Q E h => ?_) (fun cdv A outer s H vs Q E hr h => ?_)
  · obtain ⟨p, L, n, rfl, _⟩ := h
    rfl
  · obtain ⟨p, L, n, rfl, hD, hL, hL2, h1, h50, k⟩ := h
    have hr1 : Room 1 _ := hr.mono (by decide)
    refine ⟨_, pss_cons (ps_set (i := 3) scMa.nd rfl (Or.inl rfl) (pe_op op_add pe_int (pe_call GR hr1 rfl AR.g AR.F.kp AR.b .nil pass0 (pa_cons (pv 0) (pa_cons (pv 2) pa_nil)))))
      (pss_cons (ps_set (i := 4) scMa.nd rfl (Or.inl rfl) (pe_call GT hr rfl AT.g AT.F.kp AT.b .nil pass0 (pa_cons (pv 0) (pa_cons (pv 1) (pa_cons (pv 3) (pa_cons (pe_lst (pa_cons pe_int (pa_cons pe_int (pa_cons pe_int (pa_cons pe_int (pa_cons pe_int (pa_cons pe_int (pa_cons pe_int (pa_cons pe_int pa_nil))))))))) pa_nil))))))
      (pss_cons (ps_setLc (i := 5) (own := [("_law_state", 6)]) (g := gName 6) (tt := tTest (tOp rEq (tCall spRoll [] E0 (tCons (tVar 0) (tCons (tC (.int 2)) tNil))) (tC (.int 0)))) rfl scMa.nd rfl rfl (sw_true rfl rfl rfl (by decide +kernel)) (pi_range1 rfl T.rng (pa_cons (pv 3) pa_nil))
        (blkOk_by (own := [("_law_state", 6)]) (N := NMa) (sc := defScope sLMac) (by decide +kernel)) (fun _ _ _ _ _ => pg_name (i := 6) scMa.nd rfl (Or.inl rfl))
        (fun _ _ _ _ _ => pts_one (pt_cmpR op_eq (pe_call GR hr1 rfl AR.g AR.F.kp AR.b .nil pass0 (pa_cons (pv 0) (pa_cons pe_int pa_nil))) pe_int (nomark _))) (fun _ _ _ _ _ => pv 6))
      (pss_one (ps_ret (pe_disp (pps_cons pe_str (pv 1) (pps_cons pe_str (pv 4) (pps_cons pe_str (pv 5) pps_nil))) (by rfl) (by rfl) (fun z => by cases z) (by decide)))))), ?_⟩
    refine ⟨_, rfl, _, rfl, p, _, rfl, hD, by omega, by omega, fun r H1 r0 r1 hD1 hB1 => ⟨_, _, rfl, rfl, ?_⟩⟩
    refine ⟨_, rfl, _, rfl, _, rfl, by decide, fun q hq => ?_⟩
    refine ⟨p, q, L, 1 + r, [0, 1, 2, 3, 3, 4, 5, 6], rfl, hD1.new hq, hL, hL2, by omega, by omega, hD1.ne hq, upd_same, by decide, by decide, fun lt tb H3 hl lp hD3 hB3 ht tok => ?_⟩
    refine ⟨_, rfl, _, rfl, by omega, by omega, fun D hD4 => ?_⟩
    have Dp := hD3.ne hD4
    refine lc_range (lo := 0) (n := (1 + r).toNat) (fun i H4 => DiceAt H4 p ∧ But p H3 H4 ∧ ∃ es : List Int, es.length ≤ i ∧ H4 D = some (.lst (es.map V.int)) ∧ Asc i es) ⟨hD3.new hD4, but_two (But.refl p H3) hD4, [], Nat.le_refl _, upd_same, fun e he => (nomatch he), List.Pairwise.nil⟩ ?_ ?_
    · rintro i H4 hi ⟨hD4', hB4, es, hl4, hd, ha⟩
      refine ⟨rfl, _, rfl, p, _, rfl, hD4', by decide, by decide, fun c H5 c0 c1 hD5 hB5 => ⟨rfl, _, rfl, ?_⟩⟩
      have hd5 := hB5 _ _ hd Dp
      refine ite2 (fun _ => ?_) (fun _ => ?_)
      · refine ⟨_, rfl, _, hd5, by rw [List.length_map, sizeLine_eq]; omega, hD5.keep fun o e => by rw [upd_ne (Ne.symm Dp)]; exact e, but_at (hB4.trans hB5) hD4, es ++ [0 + (i : Int)], by rw [List.length_append, List.length_singleton]; omega, by rw [upd_same, List.map_append] <;> rfl, fun e he => ?_, ?_⟩
        · rcases List.mem_append.mp he with z | z
          · have := ha.1 e z
            omega
          · rw [List.mem_singleton.mp z]
            omega
        · refine List.pairwise_append.mpr ⟨ha.2, List.pairwise_singleton _ _, fun x hx y hy => ?_⟩
          rw [List.mem_singleton.mp hy]
          have := ha.1 x hx
          omega
      · exact ⟨hD5, hB4.trans hB5, es, by omega, hd5, fun e he => by have := ha.1 e he; omega, ha.2⟩
    · rintro H4 ⟨hD4', hB4, es, hl4, hd, ha⟩
      refine fun m hm => ⟨_, rfl, _, rfl, _, rfl, upd_same, pkv L lt D, rfl, (by show 3 ≤ 15; decide), ?_⟩
      have Dm : D ≠ m := ne_of_none hd hm
      have ht4 : PTab H4 lt tb := ht.but lp hD3 hB4
      have hBm : But p H (upd (upd H4 m (.dK [])) m (.dK (mergeK [] (pkv L lt D)))) := by
        rw [upd_upd]
        exact but_two (((hB1.trans (but_two (But.refl _ _) hq)).trans hB3).trans hB4) hm
      have nm : H m = none := but_free (((hB1.trans (but_two (But.refl _ _) hq)).trans hB3).trans hB4) hm (hD4'.ne hm)
      refine k m tb es (1 + r) _ nm (hD4'.ne hm) (by rw [upd_upd]; exact hD4'.new hm) hBm ⟨lt, D, ?_, ?_, ?_⟩ (fun a b e => ?_) ⟨tok, ⟨fun e he => by have := ha.1 e he; omega, ha.2⟩, by omega⟩ (by omega)
      · rw [upd_same, pkv, merge3]
      · rw [upd_upd]
        exact ht4.same (same_upd hm)
      · rw [upd_upd, upd_ne Dm]
        exact hd
      · rw [upd_same, pkv, merge3] at e
        injection e with e
        injection e with e
        obtain ⟨rfl, rfl⟩ := pkv_inj (L := L) e
        exact ⟨lp, Dp⟩
end
end WK
set_option Elab.async false
set_option linter.all false
set_option maxRecDepth 100000
set_option maxHeartbeats 8000000
namespace WK
open PySem L2 PyProof.Rows LCX K1
open TX (sg sigs)
open PySem.W (Frag kitOne)
abbrev sMade : Stmt := top 114
theorem no_pass {P : Program} {w : World} {X : Cx} : Passes (L2.CX P w) X (fun _ _ _ => False) := fun _ _ _ _ _ _ _ hc => by
  obtain ⟨a, B, H', cls, d, z1, fl, z2, ub, z3, z4, z5, z6⟩ := hc
  exact z6.elim
theorem numB_in {i m : Int} (h : 0 ≤ i ∧ i < m) : numB (.int i) 0 (m - 1) = true := by
  show (decide (0 ≤ i) && decide (i ≤ m - 1)) = true
  rw [decide_eq_true h.1, decide_eq_true (by omega)]
  rfl
theorem nums_in {is : List Int} {m : Int} (h : Bel m is) : ((is.map V.int).map fun x => numB x 0 (m - 1)).all id = true := by
  rw [List.map_map, List.all_eq_true]
  intro b hb
  obtain ⟨i, hi, rfl⟩ := List.mem_map.mp hb
  exact numB_in (h i hi)
theorem int_of (is : List Int) : (is.map V.int).map intOf = is := by
  rw [List.map_map]
  exact (List.map_congr_left fun _ _ => rfl).trans (List.map_id is)
theorem ascV_in {es : List Int} {n : Int} (h : Asc n es) : ascV (es.map V.int) n = true := by
  unfold ascV
  rw [nums_in h.1, int_of]
  exact decide_eq_true h.2
theorem rowB_in {r : List Int} {wd : Nat} {m : Int} (h1 : r.length = wd) (h2 : Bel m r) : rowB (r.map V.int) wd m = true := by
  unfold rowB
  rw [nums_in h2, decide_eq_true (by rw [List.length_map, h1])]
  rfl
abbrev rsOf (tb : List (List Int)) : List (Option (List V)) := tb.map fun r => some (r.map V.int)
theorem tabB_in {tb : List (List Int)} {wd : Nat} {n most : Int} (h : TabOk tb wd n) (h1 : 1 ≤ n) (h2 : n ≤ most) : tabB (rsOf tb) wd most = true := by
  have e : ((rsOf tb).length : Int) = n := by rw [List.length_map]; exact h.len
  unfold tabB
  rw [e, decide_eq_true h1, decide_eq_true h2]
  show ((rsOf tb).map _).all id = true
  rw [List.map_map, List.all_eq_true]
  intro b hb
  obtain ⟨r, hr, rfl⟩ := List.mem_map.mp hb
  exact rowB_in (h.row r hr).1 (h.row r hr).2
theorem rows_of {K : Frag} {H : Hp} {wd : Nat} (hw : wd ≤ 100) : ∀ {ts : List Addr} {tb : List (List Int)}, Objs oTup H ts tb → (∀ r ∈ tb, r.length = wd) → Rows K H (ts.map V.ref) (rsOf tb)
  | [], [], _, _ => trivial
  | t :: ts, r :: tb, h, k => ⟨⟨t, rfl, SqT.of h.1, by rw [List.length_map, k r (.head _)]; exact hw, fun x hx => by obtain ⟨i, _, rfl⟩ := List.mem_map.mp hx; exact .inl ⟨i, rfl⟩⟩, rows_of hw h.2 fun r hr => k r (.tail _ hr)⟩
  | [], _ :: _, h, _ => h.elim
  | _ :: _, [], h, _ => h.elim
theorem asc_from {n : Int} : ∀ (es : List Int) (a : Int), a ≤ n → (∀ i ∈ es, a ≤ i ∧ i < n) → es.Pairwise (· < ·) → (es.length : Int) ≤ n - a
  | [], _, h, _, _ => by
    show (0 : Int) ≤ _
    omega
  | e :: es, a, _, hb, hp => by
    obtain ⟨h1, h2⟩ := List.pairwise_cons.mp hp
    have he := hb e (.head _)
    have := asc_from es (e + 1) (by omega) (fun i hi => ⟨h1 i hi, (hb i (.tail _ hi)).2⟩) h2
    rw [List.length_cons]
    omega
theorem asc_len {n : Int} {es : List Int} (h : Asc n es) (h0 : 0 ≤ n) : (es.length : Int) ≤ n := by
  have := asc_from es 0 h0 h.1 h.2
  omega
/-- a machine stands at o -/
structure MacAt (C : Addr) (H : Hp) (o : Addr) (L : W) (tb : List (List Int)) (es : List Int) : Prop where
  ex : ∃ (dx t e : Addr) (ts : List Addr), H o = some (.ins C dx (mfl (.str (tx L)) (.ref t) (.ref e))) ∧ H t = some (.tup (ts.map V.ref)) ∧ Objs oTup H ts tb ∧ H e = some (.tup (es.map V.int))
theorem MacAt.same {C : Addr} {H H' : Hp} {o : Addr} {L : W} {tb : List (List Int)} {es : List Int} (h : MacAt C H o L tb es) (s : Same H H') : MacAt C H' o L tb es := by
  obtain ⟨dx, t, e, ts, h1, h2, h3, h4⟩ := h.ex
  exact ⟨dx, t, e, ts, s _ _ h1, s _ _ h2, h3.to fun a _ r z => s _ _ z, s _ _ h4⟩
def spMade (C : Addr) : Sp := fun vs H Q _ => ∃ (m : Addr) (L : W) (tb : List (List Int)) (es : List Int) (n : Int), vs = [.ref m] ∧ PlainM H m L tb es ∧ MacOk L tb es n ∧ n ≤ 4 ∧ Let L ∧ ∀ (o : Addr) (H' : Hp), H o = none → Same H H' → MacAt C H' o L tb es → Q (.ref o) H'
theorem pkv_L (L : W) (lt le : Addr) : valV (pkv L lt le) kL = some (.str (tx L)) := rfl
theorem val_skip {k1 k : Key} {v : V} {r : List (Key × V)} (h : decide (k1 = k) = false) : valV ((k1, v) :: r) k = valV r k := by
  unfold valV
  rw [List.find?_cons, show decide ((k1, v).1 = k) = false from h]
theorem pkv_T (L : W) (lt le : Addr) : valV (pkv L lt le) kTb = some (.ref lt) := (val_skip (by decide +kernel)).trans rfl
theorem pkv_E (L : W) (lt le : Addr) : valV (pkv L lt le) kE = some (.ref le) := (val_skip (by decide +kernel)).trans ((val_skip (by decide +kernel)).trans rfl)
section
variable {P : Program} {w : World} {K : PySem.W.Frag} {mg : Str → Option Value} {base : Heap} {C cD cM fI : Addr} {dI : FuncData}
theorem scMd : FnScope ["_law_plain"] ["_law_plain"] (defScope sMade) := ⟨rfl, rfl, rfl, by decide +kernel, rfl, by decide +kernel, by decide +kernel⟩
theorem ok_made {f : Addr} {fd : FuncData} (F : Fun K "_law_made_machine" "_law_made_machine" sMade f fd) (T : TN mg) (M : TMc K mg C cD cM) (MI : Mk K C fI) (GI : FnOk P w K mg base (L2.CX P w) 5 fI dI ["self", "letters", "table", "ends"] (spMInit K C cM)) (bI : Binds K dI ["self", "letters", "table", "ends"] []) :
    FnOk P w K mg base CX0 7 f fd ["_law_plain"] (spMade C) := by
  refine F.ok scMd (fun vs H Q E h => ?_) (fun cdv A outer s H vs Q E hr h => ?_)
  · obtain ⟨m, L, tb, es, n, rfl, _⟩ := h
    rfl
  · obtain ⟨m, L, tb, es, n, rfl, hp, ok, h4, hL, k⟩ := h
    have hu := hu_of hr
    refine ⟨_, pss_one (ps_ret (pe_make (E := fun _ _ _ => False) MI GI hr rfl M.gC bI .nil no_pass (pa_cons (pe_dget hu (pv 0) pe_str (fun _ _ => rfl))
      (pa_cons (pe_callTy call_tuple_of (by rfl) T.tuple (by decide +kernel) (pa_cons (pe_dget hu (pv 0) pe_str (fun _ _ => rfl)) pa_nil))
      (pa_cons (pe_callTy call_tuple_of (by rfl) T.tuple (by decide +kernel) (pa_cons (pe_dget hu (pv 0) pe_str (fun _ _ => rfl)) pa_nil)) pa_nil))))), ?_⟩
    obtain ⟨lt, le, h1, ⟨ts, h2, h3⟩, h5⟩ := hp.ex
    have g : ∀ (H' : Hp) (kk : Key) (v : V), Same H H' → valV (pkv L lt le) kk = some v → DGet H' m (kV kk) (some v) := fun H' kk v s e => e ▸ DGet.k (s _ _ h1)
    refine ⟨_, rfl, m, _, rfl, g H kL _ (Same.refl H) (pkv_L L lt le), ?_⟩
    refine ⟨_, rfl, m, _, rfl, g H kTb _ (Same.refl H) (pkv_T L lt le), lt, _, rfl, .inl ⟨SqL.of h2, fun t ht => ?_⟩⟩
    have s1 : Same H (upd H t (.tup (ts.map V.ref))) := same_upd ht
    refine ⟨_, rfl, m, _, rfl, g _ kE _ s1 (pkv_E L lt le), le, _, rfl, .inl ⟨SqL.of (s1 _ _ h5), fun e he => ?_⟩⟩
    have s2 : Same H (upd (upd H t (.tup (ts.map V.ref))) e (.tup (es.map V.int))) := same_two s1 he
    have ht2 : (upd (upd H t (.tup (ts.map V.ref))) e (.tup (es.map V.int))) t = some (.tup (ts.map V.ref)) := same_upd he _ _ upd_same
    have he2 : (upd (upd H t (.tup (ts.map V.ref))) e (.tup (es.map V.int))) e = some (.tup (es.map V.int)) := upd_same
    generalize upd (upd H t (.tup (ts.map V.ref))) e (.tup (es.map V.int)) = H2 at s2 ht2 he2 ⊢
    intro x dx hx hdx ne
    have s3 : Same H2 (upd (upd H2 dx (.own x)) x (.ins C dx [])) := fun b o z => by rw [upd_ne (ne_of_none z hx), upd_ne (ne_of_none z hdx)]; exact z
    have o3 : Objs oTup (upd (upd H2 dx (.own x)) x (.ins C dx [])) ts tb := h3.to fun a _ r z => s3 _ _ (s2 _ _ z)
    have hlen := h3.len
    have htl := ok.tab.len
    refine ⟨x, dx, .str (tx L), .ref t, .ref e, some (tx L), some (rsOf tb), some (es.map V.int), rfl, upd_same, ⟨rfl, by rw [tx_len]; have := hL.few; omega⟩, ⟨t, _, rfl, SqT.of (s3 _ _ ht2), by rw [List.length_map]; omega, rows_of (by have := hL.few; omega) o3 fun r hr => (ok.tab.row r hr).1⟩, ⟨e, rfl, SqT.of (s3 _ _ he2), ?_, ?_⟩, .inl ⟨?_, fun H4 h4' k4 => ⟨rfl, ?_⟩⟩⟩
    · have := asc_len ok.asc (by have := ok.one; omega)
      rw [List.length_map]
      omega
    · intro y hy
      obtain ⟨i, _, rfl⟩ := List.mem_map.mp hy
      exact .inl ⟨i, rfl⟩
    · have e1 : ((rsOf tb).length : Int) = n := by rw [List.length_map]; exact htl
      rw [made_t, letB_let hL, tx_len, tabB_in ok.tab ok.one h4, e1]
      exact ascV_in ok.asc
    · have s4 : Same H2 H4 := fun b o z => k4 b o (s3 _ _ z) (ne_of_none z hx)
      exact k x H4 (s2.free hx) (s2.trans s4) ⟨dx, t, e, ts, h4', s4 _ _ ht2, h3.to fun a _ r z => s4 _ _ (s2 _ _ z), s4 _ _ he2⟩
end
end WK
set_option Elab.async false
set_option linter.all false
set_option maxRecDepth 100000
set_option maxHeartbeats 8000000
namespace WK
open PySem L2 PyProof.Rows LCX K1 FV LamX NdefX
open PySem.W (Frag kitOne)
abbrev sMet : Stmt := top 115
/-- a value whose text is known -/
inductive Shw (H : Hp) : V → Str → Prop
  | non : Shw H .non "None"
  | int (i : Int) (h : i.natAbs.log2 < 1920) (hl : ((toString i : String) : Str).length ≤ 1000) (hc : PyData.canLay0 (.str ((toString i : String) : Str)) = true) : Shw H (.int i) ((toString i : String) : Str)
  | tru : Shw H (.bl true) "True"
  | one : Shw H (.str "1") (reprText "1")
  | nul : Shw H (.str "0") (reprText "0")
  | cap : Shw H (.str "caps") (reprText "caps")
  | tup {a : Addr} (h : H a = some (.tup [])) : Shw H (.ref a) (tupleText [])
  | lst {a : Addr} (h : H a = some (.lst [])) : Shw H (.ref a) (listText [])
  | dic {a : Addr} (h : H a = some (.dK [])) : Shw H (.ref a) (dictText [])
theorem Shw.to {H H' : Hp} {v : V} {x : Str} (h : Shw H v x) (k : ∀ a o, v = .ref a → H a = some o → H' a = some o) : Shw H' v x := by
  cases h with
  | non => exact .non
  | int i h hl hc => exact .int i h hl hc
  | tru => exact .tru
  | one => exact .one
  | nul => exact .nul
  | cap => exact .cap
  | tup h => exact .tup (k _ _ rfl h)
  | lst h => exact .lst (k _ _ rfl h)
  | dic h => exact .dic (k _ _ rfl h)
theorem Shw.few {H : Hp} {v : V} {x : Str} (h : Shw H v x) : x.length ≤ 1000 := by
  cases h with
  | int i h hl hc => exact hl
  | _ => decide +kernel
theorem Shw.lay {H : Hp} {v : V} {x : Str} (h : Shw H v x) : PyData.canLay0 (.str x) = true := by
  cases h with
  | int i h hl hc => exact hc
  | _ => decide +kernel
def rReprV : List V → Hp → VK → Prop := fun xs H Q => ∃ v x, xs = [v] ∧ Shw H v x ∧ Q (.str x) H
section
variable {X : Cx}
theorem call_reprV (hg : X.A.guards = some []) (hu : X.A.units + 100 < cLine) : CallR X (.builtin "repr") rReprV := by
  rintro pins s σ H _ us Q I r ⟨v, x, rfl, h, q⟩
  obtain ⟨u, rfl, e⟩ := vals1 r
  cases h with
  | non =>
    cases (show u = Value.none from e)
    exact PySem.P.repr_of_none ⟨.str _, H, I.tok _, ⟨_, rfl⟩, q⟩
  | int i h hl hc =>
    obtain ⟨t, rfl⟩ := e
    exact PySem.P.repr_of_int h ⟨.str _, H, I.tok _, ⟨_, rfl⟩, q⟩
  | tru =>
    cases (show u = Value.bool true from e)
    exact PySem.P.repr_of_bool ⟨.str _, H, I.tok _, ⟨_, rfl⟩, q⟩
  | one =>
    obtain ⟨t, rfl⟩ := e
    exact PySem.P.repr_of_str ⟨.str _, H, I.tok _, ⟨_, rfl⟩, q⟩ (by rw [sizeLine_eq]; decide +kernel)
  | nul =>
    obtain ⟨t, rfl⟩ := e
    exact PySem.P.repr_of_str ⟨.str _, H, I.tok _, ⟨_, rfl⟩, q⟩ (by rw [sizeLine_eq]; decide +kernel)
  | cap =>
    obtain ⟨t, rfl⟩ := e
    exact PySem.P.repr_of_str ⟨.str _, H, I.tok _, ⟨_, rfl⟩, q⟩ (by rw [sizeLine_eq]; decide +kernel)
  | @tup a h =>
    cases (show u = Value.ref a from e)
    obtain ⟨_, its, rv, o, e1, e2, n, e3⟩ := (show ObjOk X.prog X.w H s.heap a (.tup []) from I.hok a _ h)
    cases rv
    have R : Reads s.heap (.ref a) (.tuple []) [] := Reads.tuple e1 e2 e3 ReadsAll.nil
    exact repr_of_reads' R rfl ((nomatch ·)) hg (by show X.A.units + (1 + 1) < cLine; omega) (fun b o e => e) (fun h' u tk k => ⟨.str _, H, I.kept (t' := tk) k, ⟨_, rfl⟩, q⟩) (by rw [sizeLine_eq]; decide +kernel)
  | @lst a h =>
    cases (show u = Value.ref a from e)
    obtain ⟨z, its, n, rv, hl, ho⟩ := I.lstM h
    cases rv
    have R : Reads s.heap (.ref a) (.list []) _ := Reads.list ho rfl rfl ReadsAll.nil
    exact repr_of_reads' R rfl ((nomatch ·)) hg (by show X.A.units + (1 + 1) < cLine; omega) (fun b o e => e) (fun h' u tk k => ⟨.str _, H, I.kept (t' := tk) k, ⟨_, rfl⟩, q⟩) (by rw [sizeLine_eq]; decide +kernel)
  | @dic a h =>
    cases (show u = Value.ref a from e)
    obtain ⟨z, hs, vs, rel, ⟨o, es, ep, ho, hx, hd, hk, hp, hn⟩⟩ := dk_of I.hok h
    cases rel
    obtain ⟨esl⟩ := es
    dsimp only at hp
    cases hp
    have R : Reads s.heap (.ref a) (.dict []) _ := Reads.dict ho hx.1 hd .nil .nil
    refine repr_of_reads' R rfl (fun _ hm => ?_) hg (by show X.A.units + (1 + 1) < cLine; omega) (fun b o e => e) (fun h' u tk k => ⟨.str _, H, I.kept (t' := tk) k, ⟨_, rfl⟩, q⟩) (by rw [sizeLine_eq]; decide +kernel)
    simp only [List.append_nil, List.mem_cons, List.not_mem_nil, or_false] at hm
    rw [hm] at hs
    simp at hs
end
/-- x(), x a slot that holds a function; what is raised is wished for at the very slots -/
def tCallVS (P : Program) (w : World) (K : PySem.W.Frag) (mg : Str → Option Value) (base : Heap) (CX : CXT) (k i : Nat) (E : L2.St → XK) : TE := fun σ H Q => ∃ f G sp, σ[i]? = some (some (.ref f)) ∧ CallV P w K mg base CX k f G sp ∧ G H ∧ sp [] H Q (E σ)
theorem pe_callV0S {X : Cx} {CX : CXT} {k i : Nat} {x : Str} {E : L2.St → XK} {p pos : Pos} (hr : Room k X.A) (hx : ∀ σ, PassesAt CX X σ (E σ)) (hN : X.N[i]? = some x) (hv : Vis X.env.scope x) (hd : (x == ("__debug__" : Str)) = false := by decide) (hcd : (x == ("__classdict__" : Str)) = false := by decide) : PE X (.Call (.Name x p) [] [] pos) (tCallVS X.prog X.w X.K X.mg X.base CX k i E) := by
  refine ⟨fun pins s σ H Q I ⟨f, G, sp, hs, c, g, q⟩ => ?_⟩
  refine wpAny_Call_Name_kw (thn ((pe_var (pos := p) hN hv hd hcd).run pins s σ H (fun v H1 => v = .ref f ∧ H1 = H) I ⟨_, hs, rfl, rfl⟩) fun u s1 ⟨v, H1, I1, r1, ev, eH⟩ => ?_)
  subst ev
  subst eH
  cases (show u = Value.ref f from r1)
  exact PySem.W.callWith_F0 (first := []) (c.fn I1.hok g) (wpAny_call (codeAny_mono (c.run X.A X.stack s1 H1 [] [] Q (E σ) hr I1.env0 g .nil q) fun r s' h => match r, h with
    | .error e, h => hx σ pins H1 s1 e s' I1 h
    | .ok (.ret _), h => I1.after h
    | .ok .next, h => h.elim
    | .ok .brk, h => h.elim
    | .ok .cont, h => h.elim))
/-- the classes of errors -/
structure ErrC where
  W : Addr
  M : Addr
  B : Addr
  O : Addr
  P : Addr
  U : Addr
  N : Addr
  T : Addr
  X : Addr
  R : Addr
/-- the word of an error -/
inductive ErrW (c : ErrC) (H : Hp) : Value → Option Addr → Str → Prop
  | w {d} : ErrW c H (.ref c.W) d "word"
  | m {d} : ErrW c H (.ref c.M) d "machine"
  | b {d} : ErrW c H (.ref c.B) d "box"
  | o {d} : ErrW c H (.ref c.O) d "operation"
  | n {dd : Addr} {v : V} {x : Str} (h : H dd = some (.xd [("value", v)])) (s : Shw H v x) : ErrW c H (.ref c.N) (some dd) ("number " ++ x)
  | r {dd : Addr} {v : V} {x : Str} (h : H dd = some (.xd [("reason", v)])) (s : Shw H v x) : ErrW c H (.ref c.R) (some dd) ("refused " ++ x)
/-- what the module says of them: each clause takes just its own -/
structure TErr (K : Frag) (mg : Str → Option Value) (c : ErrC) : Prop where
  gW : mg "InvalidWord" = some (.ref c.W)
  gM : mg "InvalidMachine" = some (.ref c.M)
  gB : mg "InvalidBox" = some (.ref c.B)
  gO : mg "InvalidOperation" = some (.ref c.O)
  gP : mg "ParseError" = some (.ref c.P)
  gU : mg "UnknownName" = some (.ref c.U)
  gN : mg "InvalidNumber" = some (.ref c.N)
  gT : mg "TooMany" = some (.ref c.T)
  gX : mg "NothingToUndo" = some (.ref c.X)
  gR : mg "Refused" = some (.ref c.R)
  ww : PySem.W.exmOne K (.ref c.W) (.ref c.W) = some true
  mw : PySem.W.exmOne K (.ref c.M) (.ref c.W) = some false
  mm : PySem.W.exmOne K (.ref c.M) (.ref c.M) = some true
  bw : PySem.W.exmOne K (.ref c.B) (.ref c.W) = some false
  bm : PySem.W.exmOne K (.ref c.B) (.ref c.M) = some false
  bb : PySem.W.exmOne K (.ref c.B) (.ref c.B) = some true
  ow : PySem.W.exmOne K (.ref c.O) (.ref c.W) = some false
  om : PySem.W.exmOne K (.ref c.O) (.ref c.M) = some false
  ob : PySem.W.exmOne K (.ref c.O) (.ref c.B) = some false
  oo : PySem.W.exmOne K (.ref c.O) (.ref c.O) = some true
  nw : PySem.W.exmOne K (.ref c.N) (.ref c.W) = some false
  nm : PySem.W.exmOne K (.ref c.N) (.ref c.M) = some false
  nb : PySem.W.exmOne K (.ref c.N) (.ref c.B) = some false
  no : PySem.W.exmOne K (.ref c.N) (.ref c.O) = some false
  np : PySem.W.exmOne K (.ref c.N) (.ref c.P) = some false
  nu : PySem.W.exmOne K (.ref c.N) (.ref c.U) = some false
  nn : PySem.W.exmOne K (.ref c.N) (.ref c.N) = some true
  rw : PySem.W.exmOne K (.ref c.R) (.ref c.W) = some false
  rm : PySem.W.exmOne K (.ref c.R) (.ref c.M) = some false
  rb : PySem.W.exmOne K (.ref c.R) (.ref c.B) = some false
  ro : PySem.W.exmOne K (.ref c.R) (.ref c.O) = some false
  rp : PySem.W.exmOne K (.ref c.R) (.ref c.P) = some false
  ru : PySem.W.exmOne K (.ref c.R) (.ref c.U) = some false
  rn : PySem.W.exmOne K (.ref c.R) (.ref c.N) = some false
  rt : PySem.W.exmOne K (.ref c.R) (.ref c.T) = some false
  rx : PySem.W.exmOne K (.ref c.R) (.ref c.X) = some false
  rr : PySem.W.exmOne K (.ref c.R) (.ref c.R) = some true
  fN : XfC K c.N
  fR : XfC K c.R
  vN : PySem.W.findIn K (.ref c.N) "value" = some none
  lR : PySem.W.findIn K (.ref c.R) "reason" = some none
  repr : mg "repr" = none
  str : mg "str" = none
def spMet (P : Program) (w : World) (K : Frag) (mg : Str → Option Value) (base : Heap) (c : ErrC) (k : Nat) : Sp := fun vs H Q _ => ∃ (f : Addr) (G : Hp → Prop) (sp : Sp), vs = [.ref f] ∧ CallV P w K mg base (L2.CX P w) k f G sp ∧ G H ∧ (∀ vs H (Q Q' : VK) (E E' : XK), (∀ v H', Q v H' → Q' v H') → (∀ cls d H', E cls d H' → E' cls d H') → sp vs H Q E → sp vs H Q' E') ∧
  sp [] H (fun _ H' => Q (.str "fine") H') (fun cls d H' => ∃ wd, ErrW c H' cls d wd ∧ Q (.str wd) H')
section
variable {P : Program} {w : World} {K : PySem.W.Frag} {mg : Str → Option Value} {base : Heap} {c : ErrC} {k : Nat}
abbrev NM : List Str := ["_law_call", "e"]
theorem scMet : FnScope NM ["_law_call"] (defScope sMet) := ⟨rfl, rfl, rfl, by decide +kernel, rfl, by decide +kernel, by decide +kernel⟩
theorem names_of {X : Cx} {e : Str} {C : Addr} (h1 : X.env.scope.names.lookup e = some .globalImplicit) (h2 : X.mg e = some (.ref C)) (h3 : (e == ("__debug__" : Str)) = false := by decide) : Names X e (.ref C) := ⟨h1, h3, .inl h2⟩
theorem ok_met {fM : Addr} {fd : FuncData} (F : Fun K "_law_met" "_law_met" sMet fM fd) (T : TErr K mg c) : WG.FnG P w K mg base (k + 4) fM fd ["_law_call"] (spMet P w K mg base c k) := by
  refine WG.okG (f := fM) F scMet (fun vs H Q E h => ?_) (fun cdv A outer s H vs Q E hr hg h => ?_)
  · obtain ⟨f, G, sp, rfl, _⟩ := h
    rfl
  · obtain ⟨f, G, sp, rfl, cv, g, hsp, q⟩ := h
    have hr0 : Room k _ := hr.mono (by omega)
    have hrX : Room (k + 3) _ := hr
    have hu : (A.deeper (envOfC "_law_met" (defScope sMet) s.heap.objs.size fM cdv)).units + 100 < cLine := by
      have := hr.un
      omega
    refine ⟨_, pss_cons (TRY.ps_try_by (X := (cxOf CX0 P w K mg base NM "_law_met" (defScope sMet) _ cdv A outer s H E).nox)
        (tb := fun W D σ H => tCallVS P w K mg base (L2.CX P w) k 0 (WE W) σ H (fun _ H' => D.nx σ H'))
        rfl rfl (fun W pn xe tk _ => ?_)
        (TRY.does_cons rfl rfl (names_of rfl T.gW) (fun _ _ _ _ _ _ _ => pss_one (ps_ret pe_str))
        (TRY.does_cons rfl rfl (names_of rfl T.gM) (fun _ _ _ _ _ _ _ => pss_one (ps_ret pe_str))
        (TRY.does_cons rfl rfl (names_of rfl T.gB) (fun _ _ _ _ _ _ _ => pss_one (ps_ret pe_str))
        (TRY.does_cons rfl rfl (names_of rfl T.gO) (fun _ _ _ _ _ _ _ => pss_one (ps_ret pe_str))
        (TRY.does_as (i := 1) rfl rfl scMet.nd rfl rfl (names_of rfl T.gP) (fun _ _ _ _ _ _ _ => pss_one ps_never)
        (TRY.does_as (i := 1) rfl rfl scMet.nd rfl rfl (names_of rfl T.gU) (fun _ _ _ _ _ _ _ => pss_one ps_never)
        (TRY.does_as (i := 1) rfl rfl scMet.nd rfl rfl (names_of rfl T.gN) (fun a oe cls d pn hz hf => pss_one (ps_ret (pe_op op_add_str pe_str (pe_callB (call_reprV hg hu) (by rfl) T.repr (by decide +kernel) (pa_cons (pe_xf T.fN T.vN hz hf (pv 1)) pa_nil)))))
        (TRY.does_as (i := 1) rfl rfl scMet.nd rfl rfl (names_of rfl T.gT) (fun _ _ _ _ _ _ _ => pss_one ps_never)
        (TRY.does_as (i := 1) rfl rfl scMet.nd rfl rfl (names_of rfl T.gX) (fun _ _ _ _ _ _ _ => pss_one ps_never)
        (TRY.does_as (i := 1) rfl rfl scMet.nd rfl rfl (names_of rfl T.gR) (fun a oe cls d pn hz hf => pss_one (ps_ret (pe_op op_add_str pe_str (pe_callB (call_reprV hg hu) (by rfl) T.repr (by decide +kernel) (pa_cons (pe_xf T.fR T.lR hz hf (pv 1)) pa_nil)))))
        TRY.does_stop))))))))))) (pss_one (ps_ret pe_str)), ?_⟩
    · exact pss_one (ps_expr (pe_callV0S hr0 (passAt tk) rfl (.inl rfl)))
    · refine ⟨f, G, sp, rfl, cv, g, ?_⟩
      refine hsp [] H _ _ _ _ (fun _ H' q => q) (fun cls d H' ⟨wd, ew, q⟩ => ?_) q
      cases ew with
      | w => exact ⟨true, T.ww, fun _ a ha => q, (nomatch ·)⟩
      | m => exact ⟨false, T.mw, (nomatch ·), fun _ => ⟨true, T.mm, fun _ a ha => q, (nomatch ·)⟩⟩
      | b => exact ⟨false, T.bw, (nomatch ·), fun _ => ⟨false, T.bm, (nomatch ·), fun _ => ⟨true, T.bb, fun _ a ha => q, (nomatch ·)⟩⟩⟩
      | o => exact ⟨false, T.ow, (nomatch ·), fun _ => ⟨false, T.om, (nomatch ·), fun _ => ⟨false, T.ob, (nomatch ·), fun _ => ⟨true, T.oo, fun _ a ha => q, (nomatch ·)⟩⟩⟩⟩
      | @n dd v x h s =>
        refine ⟨false, T.nw, (nomatch ·), fun _ => ⟨false, T.nm, (nomatch ·), fun _ => ⟨false, T.nb, (nomatch ·), fun _ => ⟨false, T.no, (nomatch ·), fun _ => ⟨false, T.np, (nomatch ·), fun _ => ⟨false, T.nu, (nomatch ·), fun _ => ⟨true, T.nn, fun _ a ha => ?_, (nomatch ·)⟩⟩⟩⟩⟩⟩⟩
        have hl := s.few
        exact ⟨_, rfl, rfl, rfl, dd, _, v, rfl, h, rfl, v, x, rfl, s, _, _, rfl, rfl, by rw [sizeLine_eq]; show 7 + x.length ≤ _; omega, q⟩
      | @r dd v x h s =>
        refine ⟨false, T.rw, (nomatch ·), fun _ => ⟨false, T.rm, (nomatch ·), fun _ => ⟨false, T.rb, (nomatch ·), fun _ => ⟨false, T.ro, (nomatch ·), fun _ => ⟨false, T.rp, (nomatch ·), fun _ => ⟨false, T.ru, (nomatch ·), fun _ => ⟨false, T.rn, (nomatch ·), fun _ => ⟨false, T.rt, (nomatch ·), fun _ => ⟨false, T.rx, (nomatch ·), fun _ => ⟨true, T.rr, fun _ a ha => ?_, (nomatch ·)⟩⟩⟩⟩⟩⟩⟩⟩⟩⟩
        have hl := s.few
        exact ⟨_, rfl, rfl, rfl, dd, _, v, rfl, h, rfl, v, x, rfl, s, _, _, rfl, rfl, by rw [sizeLine_eq]; show 8 + x.length ≤ _; omega, q⟩
end
end WK
set_option Elab.async false
set_option linter.all false
set_option maxRecDepth 100000
set_option maxHeartbeats 8000000
namespace WK
open PySem L2 PyProof.Rows LCX K1 FV LamX NdefX
open TX (sg sigs)
open PySem.W (Frag kitOne)
/-- a plain value: a number, a text, a tuple, a list, a dict .. -/
inductive OV (H : Hp) : V → Prop
  | non : OV H .non
  | int (i : Int) : OV H (.int i)
  | bl (b : Bool) : OV H (.bl b)
  | str (x : Str) : OV H (.str x)
  | tup {a : Addr} {xs : List V} (h : H a = some (.tup xs)) : OV H (.ref a)
  | lst {a : Addr} {xs : List V} (h : H a = some (.lst xs)) : OV H (.ref a)
  | dic {a : Addr} {xs : List (Key × V)} (h : H a = some (.dK xs)) : OV H (.ref a)
theorem OV.to {H H' : Hp} {v : V} (h : OV H v) (k : ∀ a o, v = .ref a → H a = some o → H' a = some o) : OV H' v := by
  cases h with
  | non => exact .non
  | int i => exact .int i
  | bl b => exact .bl b
  | str x => exact .str x
  | tup h => exact .tup (k _ _ rfl h)
  | lst h => exact .lst (k _ _ rfl h)
  | dic h => exact .dic (k _ _ rfl h)
theorem OV.same {H H' : Hp} {v : V} (h : OV H v) (s : Same H H') : OV H' v := h.to fun _ _ _ e => s _ _ e
abbrev tyNames : List String := ["NoneType", "int", "bool", "str", "tuple", "list", "dict"]
theorem OV.ty {K : Frag} {H : Hp} {v : V} (h : OV H v) : ∃ t ∈ tyNames, TyX K H v (.type t) := by
  cases h with
  | non => exact ⟨"NoneType", by decide, .base .non⟩
  | int i => exact ⟨"int", by decide, .base (.int i)⟩
  | bl b => exact ⟨"bool", by decide, .base (.bl b)⟩
  | str x => exact ⟨"str", by decide, .base (.str x)⟩
  | tup h => exact ⟨"tuple", by decide, .base (.tup h)⟩
  | lst h => exact ⟨"list", by decide, .base (.lst h)⟩
  | dic h => exact ⟨"dict", by decide, .base (.dK h)⟩
theorem OV.noInt {K : Frag} {H : Hp} {v : V} (h : OV H v) : (∃ i, v = .int i) ∨ (∃ b, v = .bl b) ∨ ((∀ i, v ≠ .int i) ∧ ∃ t, TyX K H v (.type t) ∧ kitOne K (.type t) (.type "int") = some false) := by
  cases h with
  | non => exact .inr (.inr ⟨fun _ => (nomatch ·), _, .base .non, kit_ty (by decide +kernel)⟩)
  | int i => exact .inl ⟨i, rfl⟩
  | bl b => exact .inr (.inl ⟨b, rfl⟩)
  | str x => exact .inr (.inr ⟨fun _ => (nomatch ·), _, .base (.str x), kit_ty (by decide +kernel)⟩)
  | tup h => exact .inr (.inr ⟨fun _ => (nomatch ·), _, .base (.tup h), kit_ty (by decide +kernel)⟩)
  | lst h => exact .inr (.inr ⟨fun _ => (nomatch ·), _, .base (.lst h), kit_ty (by decide +kernel)⟩)
  | dic h => exact .inr (.inr ⟨fun _ => (nomatch ·), _, .base (.dK h), kit_ty (by decide +kernel)⟩)
theorem OV.text {K : Frag} {H : Hp} {v : V} (h : OV H v) : (∃ x, v = .str x) ∨ NoText K H v := by
  cases h with
  | str x => exact .inl ⟨x, rfl⟩
  | non => exact .inr ⟨_, .base .non, kit_ty (by decide +kernel)⟩
  | int i => exact .inr ⟨_, .base (.int i), kit_ty (by decide +kernel)⟩
  | bl b => exact .inr ⟨_, .base (.bl b), kit_ty (by decide +kernel)⟩
  | tup h => exact .inr ⟨_, .base (.tup h), kit_ty (by decide +kernel)⟩
  | lst h => exact .inr ⟨_, .base (.lst h), kit_ty (by decide +kernel)⟩
  | dic h => exact .inr ⟨_, .base (.dK h), kit_ty (by decide +kernel)⟩
theorem OV.tuple {K : Frag} {H : Hp} {v : V} (h : OV H v) : (∃ a xs, v = .ref a ∧ H a = some (.tup xs)) ∨ ∃ t, TyX K H v (.type t) ∧ kitOne K (.type t) (.type "tuple") = some false := by
  cases h with
  | @tup a xs h => exact .inl ⟨a, xs, rfl, h⟩
  | str x => exact .inr ⟨_, .base (.str x), kit_ty (by decide +kernel)⟩
  | non => exact .inr ⟨_, .base .non, kit_ty (by decide +kernel)⟩
  | int i => exact .inr ⟨_, .base (.int i), kit_ty (by decide +kernel)⟩
  | bl b => exact .inr ⟨_, .base (.bl b), kit_ty (by decide +kernel)⟩
  | lst h => exact .inr ⟨_, .base (.lst h), kit_ty (by decide +kernel)⟩
  | dic h => exact .inr ⟨_, .base (.dK h), kit_ty (by decide +kernel)⟩
/-- the module has such a def -/
def Has (P : Program) (w : World) (K : Frag) (mg : Str → Option Value) (base : Heap) (CX : CXT) (k : Nat) (nm : Str) (ps : List Str) (sp : Sp) : Prop := ∃ f fd, mg nm = some (.ref f) ∧ PySem.W.keepIn K (.ref f) = true ∧ L2.Binds K fd ps [] ∧ FnOk P w K mg base CX k f fd ps sp
theorem pe_has {X : Cx} {CX : CXT} {k : Nat} {nm : Str} {ps : List Str} {sp : Sp} {E : XK} {e : Expr} {es : List Expr} {t : TA} {p pos : Pos} (h : Has X.prog X.w X.K X.mg X.base CX k nm ps sp) (hr : Room k X.A) (hx : Passes CX X E) (ha : PA X (e :: es) t) (hg : Gl X nm := by rfl)
    (hdb : (nm == ("__debug__" : Str)) = false := by decide) (he : starEach (e :: es) X.env = (false, eval e X.env) :: starEach es X.env := by rfl) (hpl : (backTo pos (starEach es X.env)).any (·.1) = false := by rfl) : PE X (.Call (.Name nm p) (e :: es) [] pos) (tCall sp [] E t) := by
  obtain ⟨f, fd, g, kp, b, G⟩ := h
  exact pe_call G hr hg g kp b .nil hx ha hdb he hpl
theorem has_of {P : Program} {w : World} {K : Frag} {mg : Str → Option Value} {base : Heap} {CX : CXT} {k : Nat} {nm : Str} {st : Stmt} {f : Addr} {fd : FuncData} {ps : List Str} {sp : Sp} (A : Fn K mg nm st ps f fd) (G : FnOk P w K mg base CX k f fd ps sp) : Has P w K mg base CX k nm ps sp := ⟨f, fd, A.g, A.F.kp, A.b, G⟩
/-- an error without an __init__ of its own can be raised -/
structure Rs (K : Frag) (mg : Str → Option Value) (nm : Str) (C : Addr) : Prop where
  x : PySem.W.excIn K C [.type "ValueError", .type "Exception", .type "BaseException", .type "object"] "ValueError.__new__" = true
  g : mg nm = some (.ref C)
  k : PySem.W.keepIn K (.ref C) = true
  b : PySem.W.subIn K (.ref C) (.type "BaseException") = some true
  t : PySem.W.typeIn K (.ref C) = some (.type "type")
abbrev ntChain : List Value := [.type "RuntimeError", .type "Exception", .type "BaseException", .type "object"]
/-- InvalidNumber can be raised -/
structure RsN (P : Program) (w : World) (K : Frag) (mg : Str → Option Value) (base : Heap) (C : Addr) : Prop where
  T : WE.ErrT K C
  I : ∃ fI, WE.ErrI K C fI ntChain "RuntimeError.__new__" "value" ∧ ∃ dI, FnOk P w K mg base CX0 1 fI dI ["self", "value"] (WE.spErrI C "value") ∧ L2.Binds K dI ["self", "value"] []
  g : mg "InvalidNumber" = some (.ref C)
  b : PySem.W.subIn K (.ref C) (.type "BaseException") = some true
  t : PySem.W.typeIn K (.ref C) = some (.type "type")
def isIntB : V → Bool
  | .int _ => true
  | _ => false
def spIntV : Sp := fun vs H Q _ => ∃ v, vs = [v] ∧ OV H v ∧ Q (.bl (isIntB v)) H
def spNumV : Sp := fun vs H Q _ => ∃ v a b, vs = [v, .int a, .int b] ∧ OV H v ∧ Q (.bl (numB v a b)) H
def ErrN (cN : Addr) (v : V) (H : Hp) (E : XK) : Prop := ∀ d H', H d = none → Same H H' → H' d = some (.xd [("value", v)]) → E (.ref cN) (some d) H'
def spNN (cN : Addr) : Sp := fun vs H Q E => ∃ v a b, vs = [v, .int a, .int b] ∧ OV H v ∧ ((numB v a b = true ∧ Q .non H) ∨ (numB v a b = false ∧ ErrN cN v H E))
def spNLx (K : Frag) (cO : Addr) : Sp := fun vs H Q E => ∃ v, vs = [v] ∧ ((∃ x : Str, v = .str x ∧ x.length ≤ 1000 ∧ ((letB x = true ∧ ∀ H', Same H H' → Q .non H') ∨ (letB x = false ∧ ∀ H', Same H H' → E (.ref cO) none H'))) ∨ (NoText K H v ∧ E (.ref cO) none H))
def ovrB (L u : W) : Bool := (sigs u).all fun c => decide (c ∈ L)
def spOvr : Sp := fun vs H Q _ => ∃ L u : W, vs = [.str (tx L), .str (tx u)] ∧ u.length < 64 ∧ ∀ H', Same H H' → Q (.bl (ovrB L u)) H'
def spNOx (cO : Addr) : Sp := fun vs H Q E => ∃ L u : W, vs = [.str (tx L), .str (tx u)] ∧ u.length < 64 ∧ ((ovrB L u = true ∧ ∀ H', Same H H' → Q .non H') ∨ (ovrB L u = false ∧ ∀ H', Same H H' → E (.ref cO) none H'))
section
variable {P : Program} {w : World} {K : PySem.W.Frag} {mg : Str → Option Value} {base : Heap} {cN cO cW : Addr}
theorem ok_intV {f : Addr} {fd : FuncData} (F : Fun K "is_integer" "is_integer" sIsInt f fd) (T : TN mg) : FnOk P w K mg base CX0 1 f fd ["value"] spIntV := by
  refine F.ok scII (fun vs H Q E h => ?_) (fun cdv A outer s H vs Q E hr h => ?_)
  · obtain ⟨v, rfl, _⟩ := h
    rfl
  · obtain ⟨v, rfl, ov, q⟩ := h
    refine ⟨_, pss_one (ps_ret (pe_and (pe_callB call_isi (by rfl) T.isi (by decide +kernel) (pa_cons (pv 0) (pa_cons (pe_ty "int" T.int (by decide +kernel)) pa_nil)))
      (pe_one (pe_not (pe_callB call_isi (by rfl) T.isi (by decide +kernel) (pa_cons (pv 0) (pa_cons (pe_ty "bool" T.bool (by decide +kernel)) pa_nil))))))), ?_⟩
    rcases ov.noInt (K := K) with ⟨i, rfl⟩ | ⟨b, rfl⟩ | ⟨ni, t, ty, hk⟩
    · refine ⟨_, rfl, _, _, _, _, true, rfl, .ty "int", .base (.int _), kit_ty (by decide +kernel), true, rfl, ?_⟩
      exact ⟨_, rfl, _, _, _, _, false, rfl, .ty "bool", .base (.int _), kit_ty (by decide +kernel), false, rfl, q⟩
    · refine ⟨_, rfl, _, _, _, _, true, rfl, .ty "int", .base (.bl _), kit_ty (by decide +kernel), true, rfl, ?_⟩
      exact ⟨_, rfl, _, _, _, _, true, rfl, .ty "bool", .base (.bl _), kit_ty (by decide +kernel), true, rfl, q⟩
    · refine ⟨_, rfl, _, _, _, _, false, rfl, .ty "int", ty, hk, false, rfl, ?_⟩
      have e : isIntB v = false := by cases v <;> first | rfl | exact absurd rfl (ni _)
      rw [e] at q
      exact q
theorem ok_numV {f : Addr} {fd : FuncData} (F : Fun K "is_number" "is_number" sIsNum f fd) (hI : Has P w K mg base CX0 1 "is_integer" ["value"] spIntV) : FnOk P w K mg base CX0 2 f fd ["value", "least", "most"] spNumV := by
  refine F.ok scIN (fun vs H Q E h => ?_) (fun cdv A outer s H vs Q E hr h => ?_)
  · obtain ⟨v, a, b, rfl, _⟩ := h
    rfl
  · obtain ⟨v, a, b, rfl, ov, q⟩ := h
    refine ⟨_, pss_one (ps_ret (pe_and (pe_has hI hr pass0 (pa_cons (pv 0) pa_nil)) (pe_one (pe_chain op_le op_le (pv 1) (pv 0) (pv 2))))), ?_⟩
    refine ⟨_, rfl, v, rfl, ov, ?_⟩
    rcases ov.noInt (K := K) with ⟨i, rfl⟩ | ⟨c, rfl⟩ | ⟨ni, _⟩
    · refine ⟨true, rfl, _, rfl, _, rfl, _, _, rfl, rfl, _, rfl, ?_⟩
      have q : Q (.bl (decide (a ≤ i) && decide (i ≤ b))) H := q
      by_cases h1 : a ≤ i
      · rw [decide_eq_true h1] at q ⊢
        exact ⟨_, rfl, _, _, rfl, rfl, q⟩
      · rw [decide_eq_false h1] at q ⊢
        exact q
    · exact ⟨false, rfl, q⟩
    · have e : isIntB v = false := by cases v <;> first | rfl | exact absurd rfl (ni _)
      have e2 : numB v a b = false := by cases v <;> first | rfl | exact absurd rfl (ni _)
      rw [e]
      rw [e2] at q
      exact ⟨false, rfl, q⟩
theorem ok_nn {f : Addr} {fd : FuncData} (F : Fun K "need_number" "need_number" sNeedNum f fd) (hN : Has P w K mg base CX0 2 "is_number" ["value", "least", "most"] spNumV) (R : RsN P w K mg base cN) : FnOk P w K mg base (L2.CX P w) 3 f fd ["value", "least", "most"] (spNN cN) := by
  obtain ⟨T, ⟨fI, EI, dI, GI, bI⟩, gN, bN, tN⟩ := R
  refine F.okX scNN (fun vs H Q E h => ?_) (fun cdv A outer s H vs Q E hr h => ?_)
  · obtain ⟨v, a, b, rfl, _⟩ := h
    rfl
  · obtain ⟨v, a, b, rfl, ov, h⟩ := h
    refine ⟨_, pss_one (ps_if (pt_not (pt_val (pe_has hN hr pass0 (pa_cons (pv 0) (pa_cons (pv 1) (pa_cons (pv 2) pa_nil)))))) (pss_one (ps_raise rfl (takes_of rfl rfl rfl rfl) (WE.pmk_errI (WE.MakesBy.of PySem.F.excBase_RuntimeError) T EI (raises_own bN tN) GI hr bI gN (pa_cons (pv 0) pa_nil)))) pss_nil), ?_⟩
    refine ⟨_, rfl, _, rfl, _, rfl, _, _, _, rfl, ov, ?_⟩
    rcases h with ⟨e, q⟩ | ⟨e, q⟩
    · rw [e]
      exact ⟨_, rfl, q⟩
    · rw [e]
      exact ⟨_, rfl, _, rfl, v, rfl, fun d H2 n s2 e2 => q d H2 n s2 e2⟩
theorem ok_nlx {f : Addr} {fd : FuncData} (F : Fun K "need_letters" "need_letters" sNeedLet f fd) (hL : Has P w K mg base CX0 2 "is_letters" ["value"] (spIsLet K)) (R : Rs K mg "InvalidOperation" cO) : FnOk P w K mg base (L2.CX P w) 3 f fd ["letters"] (spNLx K cO) := by
  refine F.okX scNL (fun vs H Q E h => ?_) (fun cdv A outer s H vs Q E hr h => ?_)
  · obtain ⟨v, rfl, _⟩ := h
    rfl
  · obtain ⟨v, rfl, h⟩ := h
    refine ⟨_, pss_one (ps_if (pt_not (pt_val (pe_has hL hr pass0 (pa_cons (pv 0) pa_nil)))) (pss_one (ps_raise rfl (takes_of rfl rfl rfl rfl) (pmk_own PySem.F.excBase_ValueError R.x R.g R.k (raises_own R.b R.t) rfl))) pss_nil), ?_⟩
    rcases h with ⟨x, rfl, hx, h⟩ | ⟨hn, q⟩
    · refine ⟨_, rfl, _, rfl, .inl ⟨x, rfl, hx, fun H' s1 => ⟨_, rfl, ?_⟩⟩⟩
      rcases h with ⟨e, q⟩ | ⟨e, q⟩ <;> rw [e] <;> exact q H' s1
    · exact ⟨_, rfl, _, rfl, .inr ⟨hn, _, rfl, q⟩⟩
theorem ok_ovr {f : Addr} {fd : FuncData} (F : Fun K "is_over" "is_over" sIsOver f fd) (T : TN mg) : FnOk P w K mg base CX0 1 f fd ["letters", "word"] spOvr := by
  refine F.ok scIO (fun vs H Q E h => ?_) (fun cdv A outer s H vs Q E hr h => ?_)
  · obtain ⟨L, u, rfl, _⟩ := h
    rfl
  · obtain ⟨L, u, rfl, hu, q⟩ := h
    refine ⟨_, pss_one (ps_ret (pe_callB (cr_all rfl) (by rfl) T.all (by decide +kernel) (pa_cons (pe_lc (own := [("letter", 2)]) (g := gName 2) (tt := tYes) rfl scIO.nd
      (pi_list (pe_callB (TX.cr_sortX rfl) (by rfl) T.sorted (by decide +kernel) (pa_cons (pe_callTy (TX.call_setX rfl) (by rfl) T.set (by decide +kernel) (pa_cons (pv 1) pa_nil)) pa_nil)))
      (blkOk_by (own := [("letter", 2)]) (N := ["letters", "word", "letter"]) (sc := defScope sIsOver) (by decide +kernel)) (fun _ _ _ _ _ => pg_name (i := 2) scIO.nd rfl (Or.inl rfl)) (fun _ _ _ _ _ => pts_nil)
      (fun _ _ _ _ _ => pe_cmpR op_in_sign (pv 2) (pv 0) rfl)) pa_nil))), ?_⟩
    have hz : (tx u).cps.size < 64 := by rw [size_tx]; exact hu
    refine ⟨_, rfl, tx u, rfl, hz, fun a o ha ho => ?_⟩
    refine ⟨a, tx u, o, rfl, upd_same, ho, hz, fun p hp => ?_⟩
    rw [tx_list]
    refine ⟨p, rfl, ⟨_, SqL.of upd_same⟩, fun D hD => ?_⟩
    have sp : Same H (upd (upd H a o) p (.lst ((sigs u).map fun c => V.str (sg c)))) := same_two (same_upd ha) hp
    have hq : (upd (upd H a o) p (.lst ((sigs u).map fun c => V.str (sg c)))) p = some (.lst ((sigs u).map fun c => V.str (sg c))) := upd_same
    generalize upd (upd H a o) p (.lst ((sigs u).map fun c => V.str (sg c))) = G at sp hq hD ⊢
    refine lc_list (xs := (sigs u).map fun c => V.str (sg c)) (fun i H1 => Same G H1 ∧ H1 D = some (.lst ((((sigs u).take i).map fun c => decide (c ∈ L)).map V.bl))) ⟨same_upd hD, upd_same⟩ (fun i H1 _ ⟨s1, _⟩ => SqL.of (s1 _ _ hq)) ?_ ?_
    · rintro i x H1 hx ⟨s1, hd⟩
      rw [List.getElem?_map] at hx
      cases hc : (sigs u)[i]? with
      | none => rw [hc] at hx; cases hx
      | some c =>
        rw [hc] at hx
        obtain rfl : V.str (sg c) = x := Option.some.inj hx
        have hi : i < (sigs u).length := (List.getElem?_eq_some_iff.mp hc).1
        have hi2 := TX.len_sigs u
        refine ⟨rfl, _, rfl, _, rfl, c, tx L, rfl, rfl, _, hd, ?_, same_at s1 hD, ?_⟩
        · rw [List.length_map, List.length_map, List.length_take, sizeLine_eq]
          omega
        · rw [upd_same, tx_list, List.take_add_one, hc, List.map_append, List.map_append] <;> rfl
    · rintro H1 ⟨s1, hd⟩
      rw [List.length_map, List.take_length] at hd
      refine ⟨D, _, rfl, SqL.of hd, ?_⟩
      rw [List.all_map]
      exact q _ (sp.trans s1)
theorem ok_nox {f : Addr} {fd : FuncData} (F : Fun K "need_over" "need_over" sNeedOver f fd) (hO : Has P w K mg base CX0 1 "is_over" ["letters", "word"] spOvr) (R : Rs K mg "InvalidOperation" cO) : FnOk P w K mg base (L2.CX P w) 2 f fd ["letters", "word"] (spNOx cO) := by
  refine F.okX scNO (fun vs H Q E h => ?_) (fun cdv A outer s H vs Q E hr h => ?_)
  · obtain ⟨L, u, rfl, _⟩ := h
    rfl
  · obtain ⟨L, u, rfl, hu, h⟩ := h
    refine ⟨_, pss_one (ps_if (pt_not (pt_val (pe_has hO hr pass0 (pa_cons (pv 0) (pa_cons (pv 1) pa_nil))))) (pss_one (ps_raise rfl (takes_of rfl rfl rfl rfl) (pmk_own PySem.F.excBase_ValueError R.x R.g R.k (raises_own R.b R.t) rfl))) pss_nil), ?_⟩
    refine ⟨_, rfl, _, rfl, L, u, rfl, hu, fun H' s1 => ⟨_, rfl, ?_⟩⟩
    rcases h with ⟨e, q⟩ | ⟨e, q⟩ <;> rw [e] <;> exact q H' s1
end
end WK
set_option Elab.async false
set_option linter.all false
set_option maxRecDepth 100000
set_option maxHeartbeats 4000000
set_option Elab.async false
set_option linter.all false
set_option maxRecDepth 100000
set_option maxHeartbeats 8000000
namespace WK
open PySem L2 PyProof.Rows LCX K1 FV LamX NdefX
open TX (sg sigs)
open PySem.W (Frag kitOne)
def lamSc : Expr → Scope
  | .Lambda _ _ s _ => s
  | _ => defScope (.Pass ⟨0, 0, 0, 0⟩)
def lamPar : Expr → Arguments
  | .Lambda a _ _ _ => a
  | _ => defArgs (.Pass ⟨0, 0, 0, 0⟩)
def lamBody : Expr → Expr
  | .Lambda _ b _ _ => b
  | e => e
theorem clo_only {cells : List (Str × Addr)} {y : Str} {c : Addr} : ∀ {names : List (Str × NameKind)} {acc : List (Str × Addr)}, (cloFrom cells names acc).lookup y = some c → (y, NameKind.free) ∈ names ∨ acc.lookup y = some c
  | [], _, h => .inr h
  | (n, k) :: r, acc, h => by
    unfold cloFrom at h
    by_cases hk : (k == NameKind.free) = true
    · rw [if_pos hk] at h
      rcases clo_only h with z | z
      · exact .inl (.tail _ z)
      · rw [List.lookup_cons] at z
        by_cases hy : (y == n) = true
        · have e1 : y = n := beq_iff_eq.mp hy
          have e2 : k = .free := by cases k <;> first | rfl | cases hk
          rw [e1, e2]
          exact .inl (.head _)
        · rw [show (y == n) = false from Bool.eq_false_iff.mpr hy] at z
          exact .inr z
    · rw [if_neg hk] at h
      rcases clo_only h with z | z
      · exact .inl (.tail _ z)
      · exact .inr z
end WK
set_option Elab.async false
set_option linter.all false
set_option maxRecDepth 100000
set_option maxHeartbeats 4000000
set_option Elab.async false
set_option linter.all false
set_option maxRecDepth 100000
set_option maxHeartbeats 8000000
namespace WK
open PySem L2 PyProof.Rows LCX K1 FV LamX NdefX
open TX (sg sigs)
open PySem.W (Frag kitOne)
/-- what stands but at the dice and in the tables -/
def ButT (p : Addr) (H H' : Hp) : Prop := ∀ b o, H b = some o → b ≠ p → (∀ ps, o ≠ .tbl ps) → H' b = some o
/-- .. and but what is known of functions -/
def Bx (p : Addr) (H H' : Hp) : Prop := ∀ b o, H b = some o → b ≠ p → (∀ ps, o ≠ .tbl ps) → (∀ φ, o ≠ .ext φ) → H' b = some o
theorem ButT.refl (p : Addr) (H : Hp) : ButT p H H := fun _ _ h _ _ => h
theorem ButT.trans {p : Addr} {H H1 H2 : Hp} (a : ButT p H H1) (b : ButT p H1 H2) : ButT p H H2 := fun c o h n t => b c o (a c o h n t) n t
theorem ButT.ofBut {p : Addr} {H H' : Hp} (h : But p H H') : ButT p H H' := fun b o e n _ => h b o e n
theorem ButT.ofSame {p : Addr} {H H' : Hp} (h : Same H H') : ButT p H H' := fun b o e _ _ => h b o e
theorem ButT.ofX {p : Addr} {H H' : Hp} (h : ExtN H H') : ButT p H H' := fun b o e _ n => h b o e n
theorem ButT.bx {p : Addr} {H H' : Hp} (h : ButT p H H') : Bx p H H' := fun b o e n t _ => h b o e n t
theorem Bx.trans {p : Addr} {H H1 H2 : Hp} (a : Bx p H H1) (b : Bx p H1 H2) : Bx p H H2 := fun c o h n t x => b c o (a c o h n t x) n t x
theorem Bx.same {p : Addr} {H H1 H2 : Hp} (a : Bx p H H1) (b : Same H1 H2) : Bx p H H2 := fun c o h n t x => b c o (a c o h n t x)
theorem DiceAt.off {H : Hp} {p a : Addr} {o : HO} (h : DiceAt H p) (e : H a = some o) (n : ∀ x y z : Int, o ≠ .lst [.int x, .int y, .int z]) : a ≠ p := fun z => by
  obtain ⟨x, y, w, q, _⟩ := h
  rw [z, q] at e
  exact n x y w (Option.some.inj e).symm
theorem tabs_but {T : List (Addr × Str)} {p : Addr} {H H' : Hp} (t : Tabs T H) (d : DiceAt H p) (b : But p H H') : Tabs T H' := fun q hq => by
  obtain ⟨ps, h1, h2, h3⟩ := t q hq
  refine ⟨ps, b _ _ h1 (d.off h1 fun _ _ _ => (nomatch ·)), h2, fun pos cv hc => ?_⟩
  obtain ⟨c, e1, e2⟩ := h3 pos cv hc
  exact ⟨c, e1, b _ _ e2 (d.off e2 fun _ _ _ => (nomatch ·))⟩
section
variable (P : Program) (w : World) (K : Frag) (mg : Str → Option Value) (base : Heap) (c : ErrC) (p : Addr)
/-- the function at f, called with nothing, raises what is met as wd -/
def Tells (H0 : Hp) (f : Addr) (wd : Str) : Prop := CallV P w K mg base (L2.CX P w) 10 f (ButT p H0) (fun vs H Q E => vs = [] ∧ (∀ cls d H', Same H H' → ErrW c H' cls d wd → E cls d H') ∧ (wd = "fine" → ∀ v H', Same H H' → Q v H'))
def Calls (H : Hp) (vs : List V) : Prop := ∀ x ∈ vs, ∃ (t f : Addr) (due : Str), x = .ref t ∧ H t = some (.tup [.ref f, .str due]) ∧ Tells P w K mg base c p H f due ∧ PyData.canLay0 (.str due) = true
end
section
variable {P : Program} {w : World} {K : Frag} {mg : Str → Option Value} {base : Heap} {c : ErrC} {p : Addr}
theorem Tells.to {H H' : Hp} {f : Addr} {wd : Str} (h : Tells P w K mg base c p H f wd) (b : ButT p H H') : Tells P w K mg base c p H' f wd := CallV.imp h (fun G g => b.trans g) fun _ _ _ _ _ q => q
theorem Calls.to {H H' : Hp} {vs : List V} (h : Calls P w K mg base c p H vs) (b : ButT p H H') (d : DiceAt H p) : Calls P w K mg base c p H' vs := fun x hx => by
  obtain ⟨t, f, due, e, ht, tl, lay⟩ := h x hx
  exact ⟨t, f, due, e, b _ _ ht (d.off ht fun _ _ _ => (nomatch ·)) (fun _ => (nomatch ·)), tl.to b, lay⟩
theorem fits_inj {cl : List (Str × Addr)} {fr : List Str} {cs : Cs} {vals : List V} (F : Fits cl fr cs vals) : ∀ x y c, cl.lookup x = some c → cl.lookup y = some c → x = y := fun x y c e1 e2 => by
  obtain ⟨i, q, hi, hq, rfl⟩ := F.mem e1
  obtain ⟨j, r, hj, hr, e⟩ := F.mem e2
  have : i = j := nodup_at F.nd (x := q.1) (by rw [List.getElem?_map, hq] <;> rfl) (by rw [List.getElem?_map, hr, ← e] <;> rfl)
  rw [this, hj] at hi
  exact (Option.some.inj hi).symm
theorem shw_on {cs : Cs} {H : Hp} {v : V} {x : Str} (h : Shw H v x) (n : ∀ p ∈ cs, H p.1 = none) : Shw (onn cs H) v x := h.to fun a o _ e => by
  rw [onn_out fun z => by obtain ⟨p, hp, rfl⟩ := List.mem_map.mp z; rw [n p hp] at e; cases e]
  exact e
theorem errw_on {cs : Cs} {H : Hp} {cls : Value} {d : Option Addr} {wd : Str} (h : ErrW c H cls d wd) (n : ∀ p ∈ cs, H p.1 = none) : ErrW c (onn cs H) cls d wd := by
  have at_ : ∀ {a : Addr} {o : HO}, H a = some o → onn cs H a = some o := fun {a o} e => by
    rw [onn_out fun z => by obtain ⟨p, hp, rfl⟩ := List.mem_map.mp z; rw [n p hp] at e; cases e]
    exact e
  cases h with
  | w => exact .w
  | m => exact .m
  | b => exact .b
  | o => exact .o
  | n h s => exact .n (at_ h) (shw_on s n)
  | r h s => exact .r (at_ h) (shw_on s n)
end
/-- the calls made so far: each a tuple of a lambda and its word -/
def Its (q : Str) (cl0 : List (Str × Addr)) (H : Hp) : List V → List (Expr × Str) → Prop
  | [], [] => True
  | x :: vs, (l, due) :: ls => (∃ t f c' : Addr, x = .ref t ∧ H t = some (.tup [.ref f, .str due]) ∧ H f = some (LamO f ⟨"<lambda>", q, lamPar l, [], lamSc l, cloFrom cl0 (lamSc l).names [], c'⟩ (lamBody l)) ∧ H c' = some (CodeO c' q)) ∧ Its q cl0 H vs ls
  | _, _ => False
theorem Its.to {q : Str} {cl0 : List (Str × Addr)} {H H' : Hp} (k : ∀ b o, H b = some o → (∀ ps, o ≠ .tbl ps) → (∀ xs, o ≠ .lst xs) → H' b = some o) : ∀ {vs : List V} {ls : List (Expr × Str)}, Its q cl0 H vs ls → Its q cl0 H' vs ls
  | [], [], _ => trivial
  | _ :: _, _ :: _, ⟨⟨t, f, c', e, h1, h2, h3⟩, r⟩ => ⟨⟨t, f, c', e, k _ _ h1 (fun _ => (nomatch ·)) (fun _ => (nomatch ·)), k _ _ h2 (fun _ => (nomatch ·)) (fun _ => (nomatch ·)), k _ _ h3 codeO_ne (fun _ => (nomatch ·))⟩, r.to k⟩
  | [], _ :: _, h => h.elim
  | _ :: _, [], h => h.elim
theorem Its.snoc {q : Str} {cl0 : List (Str × Addr)} {H : Hp} {x : V} {l : Expr} {due : Str} (a : ∃ t f c' : Addr, x = .ref t ∧ H t = some (.tup [.ref f, .str due]) ∧ H f = some (LamO f ⟨"<lambda>", q, lamPar l, [], lamSc l, cloFrom cl0 (lamSc l).names [], c'⟩ (lamBody l)) ∧ H c' = some (CodeO c' q)) : ∀ {vs : List V} {ls : List (Expr × Str)}, Its q cl0 H vs ls → Its q cl0 H (vs ++ [x]) (ls ++ [(l, due)])
  | [], [], _ => ⟨a, trivial⟩
  | _ :: _, _ :: _, h => ⟨h.1, h.2.snoc a⟩
  | [], _ :: _, h => h.elim
  | _ :: _, [], h => h.elim
theorem pe_imp {X : Cx} {e : Expr} {t t' : TE} (h : PE X e t) (i : ∀ σ H Q, t' σ H Q → t σ H Q) : PE X e t' := ⟨fun pins s σ H Q I q => h.run pins s σ H Q I (i σ H Q q)⟩
end WK
set_option Elab.async false
set_option linter.all false
set_option maxRecDepth 100000
set_option maxHeartbeats 8000000
namespace WK
open PySem L2 PyProof.Rows LCX K1 FV LamX NdefX
open TX (sg sigs)
open PySem.W (Frag kitOne)
def ErrS (C : Addr) (H : Hp) (E : XK) : Prop := ∀ H', Same H H' → E (.ref C) none H'
theorem ErrS.to {C : Addr} {H H' : Hp} {E : XK} (h : ErrS C H E) (s : Same H H') : ErrS C H' E := fun G g => h G (s.trans g)
theorem ErrN.to {cN : Addr} {v : V} {H H' : Hp} {E : XK} (h : ErrN cN v H E) (s : Same H H') : ErrN cN v H' E := fun d H2 n s2 e => h d H2 (s.free n) (s.trans s2) e
abbrev HNL (P : Program) (w : World) (K : Frag) (mg : Str → Option Value) (base : Heap) (cO : Addr) : Prop := Has P w K mg base (L2.CX P w) 3 "need_letters" ["letters"] (spNLx K cO)
abbrev HNO (P : Program) (w : World) (K : Frag) (mg : Str → Option Value) (base : Heap) (cO : Addr) : Prop := Has P w K mg base (L2.CX P w) 2 "need_over" ["letters", "word"] (spNOx cO)
end WK
set_option Elab.async false
set_option linter.all false
set_option maxRecDepth 100000
set_option maxHeartbeats 8000000
namespace WK
open PySem L2 PyProof.Rows LCX K1 FV LamX NdefX
open TX (sg sigs)
open PySem.W (Frag kitOne)
abbrev sNeedMs : Stmt := top 51
abbrev sSame : Stmt := top 52
abbrev sTwo : Stmt := top 53
/-- isinstance of the class's own things -/
structure OwnI (K : Frag) (C : Addr) : Prop where
  is : SlX.SIsi K C
  kC : kitOne K (.ref C) (.ref C) = some true
  no : ∀ t ∈ tyNames, kitOne K (.type t) (.ref C) = some false
/-- a machine of these letters -/
def MacL (C : Addr) (H : Hp) (o : Addr) (L : W) : Prop := ∃ dx t e, H o = some (.ins C dx (mfl (.str (tx L)) t e))
theorem MacAt.letters {C : Addr} {H : Hp} {o : Addr} {L : W} {tb : List (List Int)} {es : List Int} (h : MacAt C H o L tb es) : MacL C H o L := by
  obtain ⟨dx, t, e, ts, h1, _⟩ := h.ex
  exact ⟨dx, _, _, h1⟩
theorem MacL.ext {C : Addr} {H H' : Hp} {o : Addr} {L : W} (h : MacL C H o L) (k : ExtN H H') : MacL C H' o L := by
  obtain ⟨dx, t, e, h1⟩ := h
  exact ⟨dx, t, e, k _ _ h1 fun _ => (nomatch ·)⟩
theorem MacL.same {C : Addr} {H H' : Hp} {o : Addr} {L : W} (h : MacL C H o L) (k : Same H H') : MacL C H' o L := by
  obtain ⟨dx, t, e, h1⟩ := h
  exact ⟨dx, t, e, k _ _ h1⟩
theorem fld_L {l t e : V} : (mfl l t e).lookup ("_letters" : Str) = some l := by
  have e1 : (("_letters" : Str) == "_table") = false := by decide +kernel
  show (match (("_letters" : Str) == "_table") with | true => some t | false => List.lookup ("_letters" : Str) [("_letters", l), ("_ends", e)]) = _
  rw [e1] <;> rfl
theorem fld_T {l t e : V} : (mfl l t e).lookup ("_table" : Str) = some t := rfl
/-- a thing that may be asked for: a machine, or a plain value -/
def MOr (C : Addr) (H : Hp) (x : V) : Prop := OV H x ∨ ∃ a L, x = .ref a ∧ MacL C H a L
theorem MOr.same {C : Addr} {H H' : Hp} {x : V} (h : MOr C H x) (s : Same H H') : MOr C H' x := h.imp (fun o => o.same s) fun ⟨a, L, e, m⟩ => ⟨a, L, e, m.same s⟩
theorem ov_mac {C : Addr} {H : Hp} {x : V} (h : OV H x) : ¬ ∃ a L, x = .ref a ∧ MacL C H a L := fun ⟨a, L, e, dx, t, f, z⟩ => by
  subst e
  cases h with
  | tup q => rw [q] at z; cases z
  | lst q => rw [q] at z; cases z
  | dic q => rw [q] at z; cases z
def spNMx (K : Frag) (C cM : Addr) : Sp := fun vs H Q E => ∃ (t : Addr) (xs : List V), vs = [.ref t] ∧ SqT K H t xs ∧ (∀ x ∈ xs, MOr C H x) ∧ (((∀ x ∈ xs, ∃ a L, x = .ref a ∧ MacL C H a L) ∧ Q .non H) ∨ ((∃ x ∈ xs, OV H x) ∧ E (.ref cM) none H))
def spNSx (cO : Addr) : Sp := fun vs H Q E => ∃ x y : Str, vs = [.str x, .str y] ∧ ((x = y ∧ Q .non H) ∨ (x ≠ y ∧ E (.ref cO) none H))
def BadTwo (C : Addr) (H : Hp) (x y : V) : Prop := MOr C H x ∧ MOr C H y ∧ (OV H x ∨ OV H y)
def FarTwo (C : Addr) (H : Hp) (x y : V) : Prop := ∃ a b L L', x = .ref a ∧ y = .ref b ∧ MacL C H a L ∧ MacL C H b L' ∧ tx L ≠ tx L'
def spTwo (C cM cO : Addr) : Sp := fun vs H Q E => ∃ x y, vs = [x, y] ∧ ((BadTwo C H x y ∧ ErrS cM H E) ∨ (FarTwo C H x y ∧ ErrS cO H E) ∨ (∃ a b L, x = .ref a ∧ y = .ref b ∧ MacL C H a L ∧ MacL C H b L ∧ ∀ H', Same H H' → Q .non H'))
structure PropL (P : Program) (w : World) (K : Frag) (mg : Str → Option Value) (base : Heap) (C : Addr) : Prop where
  ex : ∃ (p g : Addr) (d : FuncData), PropOf K C "letters" p g ∧ FnOk P w K mg base CX0 1 g d ["self"] (getSp C "_letters") ∧ Binds K d ["self"] []
section
variable {P : Program} {w : World} {K : PySem.W.Frag} {mg : Str → Option Value} {base : Heap} {cN cO cW cM cI C cD : Addr}
theorem scNM : FnScope ["machines", "machine"] ["machines"] (defScope sNeedMs) := ⟨rfl, rfl, rfl, by decide +kernel, rfl, by decide +kernel, by decide +kernel⟩
theorem scSm : FnScope ["one", "other"] ["one", "other"] (defScope sSame) := ⟨rfl, rfl, rfl, by decide +kernel, rfl, by decide +kernel, by decide +kernel⟩
theorem ok_nmx {f : Addr} {fd : FuncData} (F : Fun K "need_machines" "need_machines" sNeedMs f fd) (T : TN mg) (M : TMc K mg C cD cI) (Y : OwnI K C) (R : Rs K mg "InvalidMachine" cM) : FnOk P w K mg base (L2.CX P w) 1 f fd ["machines"] (spNMx K C cM) := by
  refine F.okX scNM (fun vs H Q E h => ?_) (fun cdv A outer s H vs Q E hr h => ?_)
  · obtain ⟨t, _, rfl, _⟩ := h
    rfl
  · obtain ⟨t, xs, rfl, hT, ms, h⟩ := h
    refine ⟨_, pss_one (ps_for (passes_of rfl) rfl (pi_tup (pv 0)) (pg_name (i := 1) scNM.nd rfl (Or.inl rfl))
      (pss_one (ps_if (pt_not (pt_val (pe_callB call_isi (by rfl) T.isi (by decide +kernel) (pa_cons (pv 1) (pa_cons (pe_glob rfl M.gC (show RelV (.ref C) (.ref C) from rfl)) pa_nil))))) (pss_one (ps_raise rfl (takes_of rfl rfl rfl rfl) (pmk_own PySem.F.excBase_ValueError R.x R.g R.k (raises_own R.b R.t) rfl))) pss_nil))), ?_⟩
    refine ⟨_, rfl, t, rfl, ⟨_, hT⟩, ?_⟩
    refine for_tup (xs := xs) (fun i σ H' => (∃ x, σ = [some (.ref t), x]) ∧ H' = H ∧ ∀ x ∈ xs.take i, ∃ a L, x = .ref a ∧ MacL C H a L) ⟨⟨_, rfl⟩, rfl, fun x hx => absurd hx List.not_mem_nil⟩ (fun _ _ H' _ h => by rw [h.2.1]; exact hT) ?_ ?_
    · rintro i x σ H2 hx ⟨⟨y, rfl⟩, rfl, pre⟩
      have hm := List.mem_of_getElem? hx
      rcases ms x hm with ov | ⟨z, L, rfl, dx, t', e', hz⟩
      · obtain ⟨tn, ht, ty⟩ := ov.ty (K := K)
        refine ⟨_, rfl, _, _, _, _, false, rfl, .own C, ty, Y.no _ ht, _, rfl, ?_⟩
        rcases h with ⟨all, q⟩ | ⟨_, q⟩
        · exact absurd (all x hm) (ov_mac ov)
        · exact q
      · refine ⟨_, rfl, _, _, _, _, true, rfl, .own C, .base (.ins hz M.cl Y.is.ca Y.is.cn Y.is.ct Y.is.cm), Y.kC, _, rfl, ⟨_, rfl⟩, rfl, fun x hx' => ?_⟩
        rw [List.take_add_one, hx] at hx'
        rcases List.mem_append.mp hx' with z1 | z1
        · exact pre x z1
        · rw [List.mem_singleton.mp z1]
          exact ⟨z, L, rfl, dx, _, _, hz⟩
    · rintro σ H2 ⟨⟨y, rfl⟩, rfl, all⟩
      rw [List.take_length] at all
      rcases h with ⟨_, q⟩ | ⟨⟨x, hx, ov⟩, q⟩
      · exact q
      · exact absurd (all x hx) (ov_mac ov)
theorem ok_nsx {f : Addr} {fd : FuncData} (F : Fun K "need_same_letters" "need_same_letters" sSame f fd) (R : Rs K mg "InvalidOperation" cO) : FnOk P w K mg base (L2.CX P w) 1 f fd ["one", "other"] (spNSx cO) := by
  refine F.okX scSm (fun vs H Q E h => ?_) (fun cdv A outer s H vs Q E hr h => ?_)
  · obtain ⟨x, y, rfl, _⟩ := h
    rfl
  · obtain ⟨x, y, rfl, h⟩ := h
    refine ⟨_, pss_one (ps_if (pt_cmpR op_ne (pv 0) (pv 1) (nomark _)) (pss_one (ps_raise rfl (takes_of rfl rfl rfl rfl) (pmk_own PySem.F.excBase_ValueError R.x R.g R.k (raises_own R.b R.t) rfl))) pss_nil), ?_⟩
    refine ⟨_, rfl, _, rfl, rfl, _, rfl, ?_⟩
    rcases h with ⟨e, q⟩ | ⟨e, q⟩
    · rw [decide_eq_true (by rw [e])]
      exact q
    · rw [decide_eq_false (fun z => e (V.str.inj z))]
      exact q
theorem ok_two {f : Addr} {fd : FuncData} (F : Fun K "need_two" "need_two" sTwo f fd) (M : TMc K mg C cD cI) (hM : Has P w K mg base (L2.CX P w) 1 "need_machines" ["machines"] (spNMx K C cM)) (hS : Has P w K mg base (L2.CX P w) 1 "need_same_letters" ["one", "other"] (spNSx cO)) (pl : PropL P w K mg base C) :
    FnOk P w K mg base (L2.CX P w) 3 f fd ["one", "other"] (spTwo C cM cO) := by
  obtain ⟨p, g, d, hp, hg, hb⟩ := pl.ex
  refine F.okX (N := ["one", "other"]) ⟨rfl, rfl, rfl, by decide +kernel, rfl, by decide +kernel, by decide +kernel⟩ (fun vs H Q E h => ?_) (fun cdv A outer s H vs Q E hr h => ?_)
  · obtain ⟨x, y, rfl, _⟩ := h
    rfl
  · obtain ⟨x, y, rfl, h⟩ := h
    have hr1 : Room 1 _ := hr.mono (by decide)
    refine ⟨_, pss_cons (ps_expr (pe_has (E := E) hM hr1 (passes_call (takes_of rfl rfl rfl rfl) (fun _ _ _ _ h => h)) (pa_cons (pe_tup (pa_cons (pv 0) (pa_cons (pv 1) pa_nil))) pa_nil)))
      (pss_one (ps_expr (pe_has (E := E) hS hr1 (passes_call (takes_of rfl rfl rfl rfl) (fun _ _ _ _ h => h)) (pa_cons (pe_prop (E := E0) (pv 0) M.cl hp hg hr hb .nil pass0 rfl) (pa_cons (pe_prop (E := E0) (pv 1) M.cl hp hg hr hb .nil pass0 rfl) pa_nil))))), ?_⟩
    refine ⟨_, rfl, _, rfl, by show 2 ≤ sizeLine; decide, fun t ht => ?_⟩
    have s1 := same_upd (o := .tup [x, y]) ht
    rcases h with ⟨⟨mx, my, o⟩, q⟩ | ⟨⟨a, b, L, L', rfl, rfl, ma, mb, ne⟩, q⟩ | ⟨a, b, L, rfl, rfl, ma, mb, q⟩
    · refine ⟨t, _, rfl, SqT.of upd_same, fun z hz => ?_, .inr ⟨?_, q _ s1⟩⟩
      · rcases List.mem_cons.mp hz with rfl | hz
        · exact mx.same s1
        · rw [List.mem_singleton.mp hz]
          exact my.same s1
      · exact o.elim (fun o => ⟨_, .head _, o.same s1⟩) fun o => ⟨_, .tail _ (.head _), o.same s1⟩
    · have all : ∀ z ∈ [V.ref a, V.ref b], ∃ c M, z = .ref c ∧ MacL C (upd H t (.tup [.ref a, .ref b])) c M := fun z hz => by
        rcases List.mem_cons.mp hz with rfl | hz
        · exact ⟨a, L, rfl, ma.same s1⟩
        · rw [List.mem_singleton.mp hz]
          exact ⟨b, L', rfl, mb.same s1⟩
      refine ⟨t, _, rfl, SqT.of upd_same, fun z hz => .inr (all z hz), .inl ⟨all, ?_⟩⟩
      obtain ⟨dx, t1, e1, h1⟩ := ma.same s1
      obtain ⟨dy, t2, e2, h2⟩ := mb.same s1
      exact ⟨_, rfl, a, dx, _, rfl, h1, a, dx, _, _, rfl, h1, fld_L, _, rfl, b, dy, _, rfl, h2, b, dy, _, _, rfl, h2, fld_L, tx L, tx L', rfl, .inr ⟨ne, q _ s1⟩⟩
    · have all : ∀ z ∈ [V.ref a, V.ref b], ∃ c M, z = .ref c ∧ MacL C (upd H t (.tup [.ref a, .ref b])) c M := fun z hz => by
        rcases List.mem_cons.mp hz with rfl | hz
        · exact ⟨a, L, rfl, ma.same s1⟩
        · rw [List.mem_singleton.mp hz]
          exact ⟨b, L, rfl, mb.same s1⟩
      refine ⟨t, _, rfl, SqT.of upd_same, fun z hz => .inr (all z hz), .inl ⟨all, ?_⟩⟩
      obtain ⟨dx, t1, e1, h1⟩ := ma.same s1
      obtain ⟨dy, t2, e2, h2⟩ := mb.same s1
      exact ⟨_, rfl, a, dx, _, rfl, h1, a, dx, _, _, rfl, h1, fld_L, _, rfl, b, dy, _, rfl, h2, b, dy, _, _, rfl, h2, fld_L, tx L, tx L, rfl, .inl ⟨rfl, q _ s1⟩⟩
end
end WK
set_option Elab.async false
set_option linter.all false
set_option maxRecDepth 100000
set_option maxHeartbeats 4000000
namespace WG
open PySem PySem.Spec L2 PyProof.Rows LamX
section
variable {P : Program} {w : World} {K : PySem.W.Frag} {mg mb : Str → Option Value} {k : Nat} {fa a : Addr} {fd : FuncData} {x : Str} {sp : Sp} {s1 : Shared} {vs : List Value} {ns : List Int} {cs : List (Addr × Addr)}
/-- what an abstract heap at the entry may hold: the script, and the tables, which are empty -/
structure Entry (cs : List (Addr × Addr)) (K : PySem.W.Frag) (a : Addr) (H : Hp) : Prop where
  tabs : ∀ p ∈ cs, H p.2 = some (.tbl #[])
  only : ∀ b, H b = none ∨ (∃ p ∈ cs, p.2 = b) ∨ (b = a ∧ K.lookup a = none ∧ ∃ o xs, H b = some (.frz o (.lst xs)))
theorem endGT (H : Hp) (En : Entry cs K a H) (hS : SqL K H a (ns.map V.int)) (hok : HOk P w H s1.heap) (KX : K.In s1.heap) (hns : s1.heap.Ns mainGlobals mg) (hb : s1.heap.Ns builtinsNs mb)
    (hbb : ∀ x : Str, x ≠ "__name__" → mb x = bootBuiltins x) (hlim : s1.heap.NoLimit) (hg : s1.gens = #[]) (hT : ∀ p ∈ cs, s1.heap.get? p.2 = some { cls := .none, data := .fields #[] }) (nT : ∀ p ∈ cs, K.lookup p.2 = none) (C : ∀ p ∈ cs, PySem.W.CodeHd s1.heap p.1 p.2)
    (hbm : ∃ (bm : Addr) (ob : Obj), mg "__builtins__" = some (.ref bm) ∧ bm ≠ builtinsNs ∧ s1.heap.get? bm = some ob ∧ ob.cls = .type "module" ∧ ob.dict = some builtinsNs ∧ ob.data = .plain)
    (ha : s1.heap.get? a = some { cls := .type "list", data := .seq vs.toArray }) (hr : Room k callerA)
    (F : ∀ base : Heap, K.In base → base.Ns mainGlobals mg → (∀ p ∈ cs, TabB base mg p.1 p.2) → FnG P w K mg base k fa fd [x] sp) (hbind : ∀ (s : Shared) (u : Value), BindsTo s fd ⟨[u], []⟩ [(x, u)]) (hsp : sp [.ref a] H (fun v _ => v = .bl true) fun _ _ _ => False) :
    codeAny (model P w) callerA (.call (.ref fa) ⟨[.ref a], []⟩) (fun r s' => r = .ok (.ret (.bool true)) ∧ OldK s1.heap s'.heap ∧ s'.os = s1.os ∧ AllBare s'.gens) s1 := by
  -- what is neither a list nor an empty row of fields is not tracked
  have free : ∀ {b : Addr} {o : Obj}, s1.heap.get? b = some o → (∀ u n, o.data ≠ .seq u n) → o.data ≠ .fields #[] → H b = none := fun {b o} e n1 n2 => by
    rcases En.only b with z | ⟨p, hp, rfl⟩ | ⟨rfl, _⟩
    · exact z
    · rw [hT p hp] at e
      cases e
      exact absurd rfl n2
    · rw [ha] at e
      cases e
      exact absurd rfl (n1 _ _)
  have down : ∀ {b : Addr} {o : Obj}, s1.heap.get? b = some o → (∀ u n, o.data ≠ .seq u n) → o.data ≠ .fields #[] → (hidT s1.heap H).get? b = some o := fun e n1 n2 => hidT_get e (free e n1 n2)
  have dict : ∀ {b : Addr} {m : Str → Option Value}, s1.heap.Ns b m → (hidT s1.heap H).Ns b m := fun {b m} ⟨o, es, ep, e, d, r⟩ => ⟨o, es, ep, down e (fun u n z => nomatch d.symm.trans z) (fun z => nomatch d.symm.trans z), d, r⟩
  have kin : K.In (hidT s1.heap H) := fun b o e => by
    refine hidT_get (KX b o e) ?_
    rcases En.only b with z | ⟨p, hp, rfl⟩ | ⟨rfl, z, _⟩
    · exact z
    · exact nomatch e.symm.trans (nT p hp)
    · exact nomatch e.symm.trans z
  have md : Mod K mg (hidT s1.heap H) := ⟨kin, dict hns, ⟨mb, dict hb, hbb⟩, let ⟨mc, h1, h2⟩ := hlim; ⟨mc, dict h1, h2⟩⟩
  obtain ⟨gO, ges, gep, gAt, gD, _⟩ := id hns
  have tab : ∀ p ∈ cs, TabB (hidT s1.heap H) mg p.1 p.2 := fun p hp => by
    have tp := hT p hp
    obtain ⟨bm, ob, b1, b2, b3, b4, b5, b6⟩ := hbm
    refine ⟨?_, ⟨bm, ob, b1, b2, fun z => ?_, fun z => ?_, down b3 (fun u n z => nomatch b6.symm.trans z) (fun z => nomatch b6.symm.trans z), b4, b5, b6⟩, fun z => ?_⟩
    · obtain ⟨o, us, file, tf, flags, tg, inF, text, tt, e1, r1, r2, r3, rest⟩ := C p hp
      refine ⟨o, us, file, tf, flags, tg, inF, text, tt, down e1 (fun u n z => nomatch r2.symm.trans z) (fun z => ?_), r1, r2, r3, rest⟩
      have y := r2.symm.trans z
      cases y
      simp at r3
    · rw [z, gAt] at b3
      cases b3
      exact nomatch gD.symm.trans b6
    · rw [z, tp] at b3
      cases b3
      cases b6
    · rw [z, tp] at gAt
      cases gAt
      cases gD
  have e0 : Env0 P w K mg (hidT s1.heap H) callerA [] s1 H := ⟨rfl, md, fun b o e => of_hidT e, Nat.le_of_eq (hidT_size _ _), trivial, fun b hb => absurd (show b ∈ ([] : List Addr) from hb) (by simp), hok, .of_eq hg⟩
  refine codeAny_mono ((F _ kin (dict hns) tab).run callerA [] s1 H ⟨[.ref a], []⟩ [.ref a] [.ref a] _ _ hr rfl e0 (hbind s1 (.ref a)) (.cons rfl .nil) hsp) fun r s' h => ?_
  cases r with
  | error e => exact False.elim (show False from h)
  | ok fl =>
    cases fl with
    | next => exact False.elim h
    | brk => exact False.elim h
    | cont => exact False.elim h
    | ret u =>
      rcases h with ⟨v, H', os, bare, un, hok', r', q⟩
      cases (q : v = .bl true)
      cases (r' : u = Value.bool true)
      -- each object stands, or is a table that may have grown
      have each : ∀ b o, s1.heap.get? b = some o → s'.heap.get? b = some o ∨ ∃ p ∈ cs, p.2 = b ∧ ∃ more : Array Value, s'.heap.get? b = some { cls := .none, data := .fields more } := fun b o e => by
        rcases En.only b with z | ⟨p, hp, y⟩ | ⟨_, _, ob, xs, z⟩
        · exact .inl (un.keep b o e z (by intro y; exact absurd (show b ∈ ([] : List Addr) from y) (by simp)) (by simp))
        · obtain ⟨more, z⟩ := un.tbls p.2 #[] (En.tabs p hp)
          exact .inr ⟨p, hp, y, _, y ▸ hok' p.2 _ z⟩
        · obtain ⟨e1, _⟩ := hok b _ z
          obtain ⟨e2, _⟩ := hok' b _ (un.frzs b ob _ z)
          rw [e] at e1
          cases e1
          exact .inl e2
      refine And.intro rfl (And.intro ⟨fun b o e => ?_, fun b o e => ?_⟩ ⟨os, bare⟩)
      · rcases each b o e with z | ⟨p, hp, y, more, z⟩
        · exact .inl z
        · subst y
          rw [hT p hp] at e
          cases e
          exact .inr (.inl ⟨((C p hp).tab (hT p hp)).isCodeTable, rfl, #[], more, rfl, by rw [Array.empty_append]; exact z⟩)
      · rcases each b o e with z | ⟨p, hp, y, more, z⟩
        · exact ⟨o, z⟩
        · exact ⟨_, z⟩
end
/-- as LamX.LawAtS, of a law that holds where nothing is being written out -/
def LawAtG (l : PySem.W.OpenLaw) (w : World) (K : PySem.W.Frag) (k n : Nat) (x : Str) (mg : Str → Option Value) (fa : Addr) (h : Heap) : Prop :=
  ∃ (fd : FuncData) (cs : List (Addr × Addr)) (sp : Sp), (∀ p ∈ cs, h.get? p.2 = some { cls := .none, data := .fields #[] } ∧ K.lookup p.2 = none ∧ PySem.W.CodeHd h p.1 p.2) ∧ (∀ (s : Shared) (u : Value), BindsTo s fd ⟨[u], []⟩ [(x, u)]) ∧
    (∀ (H : Hp) (a : Addr) (ns : List Int), ns.length ≤ n → (∀ p ∈ cs, H p.2 = some (.tbl #[])) → SqL K H a (ns.map V.int) → sp [.ref a] H (fun v _ => v = .bl true) fun _ _ _ => False) ∧
    ∀ base : Heap, K.In base → base.Ns mainGlobals mg → (∀ p ∈ cs, TabB base mg p.1 p.2) → FnG l.prog w K mg base k fa fd [x] sp
theorem walkGTE {l : PySem.W.OpenLaw} {n k : Nat} {q : Program} {loose : List Str} {XP : (Str → Option Value) → Heap → Prop} {YP : World → Heap → Prop} {d : DefRec} {x : Str}
    (hn : l.most = some n) (hn2 : n ≤ sizeLine) (hdf : d.params.defaults = []) (hr : Room k callerA)
    (F : ∀ (w : World) (mg : Str → Option Value) (fa : Addr) (h : Heap), YP w h → h.Ns mainGlobals mg → mg d.name = some (.ref fa) → ∃ K : PySem.W.Frag, K.In h ∧ LawAtG l w K k n x mg fa h) :
    PySem.W.WalkO q loose XP YP l.row.toRowW d [] (fun f vs => PySem.call f vs) := by
  refine Att.attach_call hn hdf fun w s0 s1 mg mb fa o pm cd doc a vs ns G Y ho hd hcd hmg ha hi hlen hg => ?_
  have hl := Nat.le_trans hlen hn2
  have rv := vals_ints hi
  have lenV := hi.length
  obtain ⟨K, KX, fd, cs, sp, hcs, hbind, hsp, hF⟩ := F w mg fa _ Y G.T.g hmg
  have hT := fun p hp => (hcs p hp).1
  have nT := fun p hp => (hcs p hp).2.1
  have hC := fun p hp => (hcs p hp).2.2
  have apart : ∀ p ∈ cs, p.2 ≠ a := fun p hp z => by
    have y := hT p hp
    rw [z, ha] at y
    cases y
  cases hk : K.lookup a with
  | some ob =>
    have e := KX a ob hk
    rw [ha] at e
    cases e
    have hS : ∀ H : Hp, SqL K H a (ns.map V.int) := fun H => .inr ⟨_, vs.toArray, _, hk, rfl, rfl, rfl, by rw [List.size_toArray, lenV]; exact hl, by simpa using rv⟩
    have row : ∀ b, (∃ p ∈ cs, p.2 = b) → (fun b => if b ∈ cs.map (·.2) then some (HO.tbl #[]) else none : Hp) b = some (.tbl #[]) := fun b ⟨p, hp, e⟩ => if_pos (List.mem_map.mpr ⟨p, hp, e⟩)
    refine endGT (fun b => if b ∈ cs.map (·.2) then some (.tbl #[]) else none) ⟨fun p hp => row _ ⟨p, hp, rfl⟩, fun b => ?_⟩ (hS _) (fun b u z => ?_) KX G.T.g G.T.b G.T.builtins G.T.nolimit hg hT nT hC G.T.bmain ha hr hF hbind (hsp _ a ns hlen (fun p hp => row _ ⟨p, hp, rfl⟩) (hS _))
    · by_cases hb : b ∈ cs.map (·.2)
      · exact .inr (.inl (List.mem_map.mp hb))
      · exact .inl (if_neg hb)
    · by_cases hb : b ∈ cs.map (·.2)
      · obtain ⟨p, hp, rfl⟩ := List.mem_map.mp hb
        cases (row _ ⟨p, hp, rfl⟩).symm.trans z
        exact hT p hp
      · cases (if_neg hb).symm.trans z
  | none =>
    generalize hHe : (fun b => if b = a then some (HO.frz { cls := .type "list", data := .seq vs.toArray } (.lst (ns.map V.int))) else if b ∈ cs.map (·.2) then some (.tbl #[]) else none : Hp) = He
    have atA : He a = some (.frz { cls := .type "list", data := .seq vs.toArray } (.lst (ns.map V.int))) := by rw [← hHe]; exact if_pos rfl
    have atT : ∀ p ∈ cs, He p.2 = some (.tbl #[]) := fun p hp => by
      rw [← hHe]
      exact (if_neg (apart p hp)).trans (if_pos (List.mem_map.mpr ⟨p, hp, rfl⟩))
    have else_ : ∀ b, b ≠ a → b ∉ cs.map (·.2) → He b = none := fun b h1 h2 => by
      rw [← hHe]
      exact (if_neg h1).trans (if_neg h2)
    have hS : SqL K He a (ns.map V.int) := .inl (.inr ⟨_, atA⟩)
    refine endGT He ⟨atT, fun b => ?_⟩ hS (fun b u z => ?_) KX G.T.g G.T.b G.T.builtins G.T.nolimit hg hT nT hC G.T.bmain ha hr hF hbind (hsp _ a ns hlen atT hS)
    · by_cases h1 : b = a
      · exact .inr (.inr ⟨h1, hk, _, _, h1 ▸ atA⟩)
      · by_cases h2 : b ∈ cs.map (·.2)
        · exact .inr (.inl (List.mem_map.mp h2))
        · exact .inl (else_ b h1 h2)
    · by_cases h1 : b = a
      · subst h1
        cases atA.symm.trans z
        exact ⟨ha, by rw [List.length_map]; exact hl, vs, _, rv, ha⟩
      · by_cases h2 : b ∈ cs.map (·.2)
        · obtain ⟨p, hp, rfl⟩ := List.mem_map.mp h2
          cases (atT p hp).symm.trans z
          exact hT p hp
        · cases (else_ b h1 h2).symm.trans z
end WG
set_option Elab.async false
set_option linter.all false
set_option maxRecDepth 100000
set_option maxHeartbeats 4000000
namespace DP
open PySem PySem.Spec PyProof.Rows L2
end DP
set_option Elab.async false
set_option linter.all false
set_option maxRecDepth 100000
set_option maxHeartbeats 8000000
namespace WK
open PySem L2 PyProof.Rows LCX K1 FV DP
open TX (sg sigs)
open PySem.W (Frag kitOne)
/-- how keys of a kind lie in the heap, and how a dict has their numbers -/
structure Kit (α : Type) [DecidableEq α] where
  is : Hp → V → α → Prop
  keep : ∀ {H H' : Hp} {v : V} {a : α}, is H v a → (∀ b xs, H b = some (.tup xs) → H' b = some (.tup xs)) → is H' v a
  ho : List α → HO
  kind : ∀ l, (∃ kvs, ho l = .dK kvs) ∨ ∃ kvs, ho l = .dT kvs
  emp : ho [] = .dK [] ∨ ho [] = .dT []
  get : ∀ {H : Hp} {D : Addr} {l : List α} {v : V} {a : α}, H D = some (ho l) → is H v a → DGet H D v (if a ∈ l then some (.int ((l.idxOf a : Nat) : Int)) else none)
  put : ∀ {H : Hp} {D : Addr} {l : List α} {v : V} {a : α}, H D = some (ho l) → is H v a → a ∉ l → l.length < sizeLine → DPut H D v (.int ((l.length : Nat) : Int)) (upd H D (ho (l ++ [a])))
section
variable {α : Type} [DecidableEq α] {kit : Kit α} {H H' : Hp}
def Are (kit : Kit α) (H : Hp) : List V → List α → Prop
  | [], [] => True
  | v :: vs, a :: l => kit.is H v a ∧ Are kit H vs l
  | _, _ => False
theorem Are.keep : ∀ {vs : List V} {l : List α}, Are kit H vs l → (∀ b xs, H b = some (.tup xs) → H' b = some (.tup xs)) → Are kit H' vs l
  | [], [], _, _ => trivial
  | _ :: _, _ :: _, h, k => ⟨kit.keep h.1 k, h.2.keep k⟩
  | [], _ :: _, h, _ => h.elim
  | _ :: _, [], h, _ => h.elim
theorem Are.len : ∀ {vs : List V} {l : List α}, Are kit H vs l → vs.length = l.length
  | [], [], _ => rfl
  | _ :: _, _ :: _, h => congrArg Nat.succ h.2.len
  | [], _ :: _, h => h.elim
  | _ :: _, [], h => h.elim
theorem Are.snoc {v : V} {a : α} : ∀ {vs : List V} {l : List α}, Are kit H vs l → kit.is H v a → Are kit H (vs ++ [v]) (l ++ [a])
  | [], [], _, k => ⟨k, trivial⟩
  | _ :: _, _ :: _, h, k => ⟨h.1, h.2.snoc k⟩
  | [], _ :: _, h, _ => h.elim
  | _ :: _, [], h, _ => h.elim
theorem Are.get {a : α} : ∀ {vs : List V} {l : List α} {i : Nat}, Are kit H vs l → l[i]? = some a → ∃ v, vs[i]? = some v ∧ kit.is H v a
  | v :: _, b :: _, 0, h, e => ⟨v, rfl, by cases e; exact h.1⟩
  | _ :: _, _ :: _, i + 1, h, e => h.2.get (i := i) e
  | [], [], _, _, e => by cases e
  | [], _ :: _, _, h, _ => h.elim
  | _ :: _, [], _, h, _ => h.elim
end
/-- what is known of functions stays -/
def KeepsExt (H H' : Hp) : Prop := ∀ b φ, H b = some (.ext φ) → H' b = some (.ext φ)
def KeepsTup (H H' : Hp) : Prop := ∀ b xs, H b = some (.tup xs) → H' b = some (.tup xs)
theorem Same.tup' {H H' : Hp} (s : Same H H') : KeepsTup H H' := fun b _ e => s b _ e
theorem KeepsTup.trans {H H1 H2 : Hp} (a : KeepsTup H H1) (b : KeepsTup H1 H2) : KeepsTup H H2 := fun d xs e => b d xs (a d xs e)
theorem KeepsExt.trans {H H1 H2 : Hp} (a : KeepsExt H H1) (b : KeepsExt H1 H2) : KeepsExt H H2 := fun d xs e => b d xs (a d xs e)
theorem objs_tup {H H' : Hp} {as : List Addr} {rs : List (List Int)} (o : Objs oTup H as rs) (k : KeepsTup H H') : Objs oTup H' as rs := o.to fun a _ r e => k a _ e
end WK
set_option Elab.async false
set_option linter.all false
set_option maxRecDepth 100000
set_option maxHeartbeats 4000000
namespace WK
open PySem L2 PyProof.Rows LCX K1 FV DP
open TX (sg sigs)
end WK
set_option Elab.async false
set_option linter.all false
set_option maxRecDepth 100000
set_option maxHeartbeats 8000000
namespace WK
open PySem L2 PyProof.Rows LCX K1 FV DP
open TX (sg sigs)
open PySem.W (Frag kitOne)
/-- rows as the package made them stand at g -/
def RowsAt (H : Hp) (r : Addr) (tb : List (List Int)) : Prop := ∃ ts : List Addr, H r = some (.tup (ts.map V.ref)) ∧ Objs oTup H ts tb
theorem RowsAt.keep {H H' : Hp} {r : Addr} {tb : List (List Int)} (h : RowsAt H r tb) (k : KeepsTup H H') : RowsAt H' r tb := by
  obtain ⟨ts, h1, h2⟩ := h
  exact ⟨ts, k _ _ h1, objs_tup h2 k⟩
def MadeAt (cD : Addr) (H : Hp) (g : Addr) (tb : List (List Int)) : Prop := ∃ dx r : Addr, H g = some (.ins cD dx [("rows", .ref r)]) ∧ RowsAt H r tb
theorem MadeAt.same {cD : Addr} {H H' : Hp} {g : Addr} {tb : List (List Int)} (h : MadeAt cD H g tb) (s : Same H H') : MadeAt cD H' g tb := by
  obtain ⟨dx, r, h1, h2⟩ := h
  exact ⟨dx, r, s _ _ h1, h2.keep (Same.tup' s)⟩
end WK
set_option Elab.async false
set_option linter.all false
set_option maxRecDepth 100000
set_option maxHeartbeats 8000000
namespace ENU
open PySem PySem.Spec PyProof.Rows L2
/-- the walk over a text: each sign in a new pair -/
def EnS (x : Str) : It := ⟨fun i _ => i < x.cps.size, fun i H v H' => ∃ T c, v = .ref T ∧ H T = none ∧ H' = upd H T (.tup [.int (i : Nat), .str ⟨#[c]⟩]) ∧ x.cps[i]? = some c, fun i _ => i = x.cps.size⟩
section
variable {X : Cx} {s : Shared} {σ : L2.St} {H : Hp} {pins : List (Addr × Obj)}
/-- one turn, by what the inner walk draws -/
theorem en_item {e it : Addr} {fp : List Addr} {n i kk : Nat} {Pv : Nat → Value → Prop} {St : Nat → Heap → Prop} {E : Value → Shared → Prop} {elts : List Expr} {tpos : Pos} {old : Value} {R : V → Hp → Heap → Prop} (I : Inv X pins σ H s) (D : Draws X.prog X.w X.A.in1 it fp n Pv St)
    (he : IsEnum s.heap e it ((i : Nat) : Int) old) (hst : St i s.heap) (hlt : i < n) (hne : e ≠ it) (hef : e ∉ fp) (hit : it < s.heap.objs.size) (hf : ∀ b ∈ [e, it], FpOk X pins H b)
    (hR : ∀ u, Pv i u → ∃ y, RelV y u ∧ ∀ (T : Addr) (h2 : Heap), H T = none → St (i + 1) h2 → (∃ old, IsEnum h2 e it ((i + 1 : Nat) : Int) old) → R (.ref T) (upd H T (.tup [.int (i : Nat), y])) h2) :
    wpAny (model X.prog X.w) X.A (pyNext (.ref e)) (fun r s1 => ∃ u, r = some u ∧
      wpAny (model X.prog X.w) X.A (letOwnedTupleGo (.Tuple elts kk tpos) (.ref e) u) (fun _ s2 => ∃ x H', Inv X pins σ H' s2 ∧ RelV x u ∧ R x H' s2.heap ∧ ∀ b ∈ [e, it], H' b = none) E s1) E s := by
  have elt : e < s.heap.objs.size := Heap.lt_size he
  refine wpAny_pyNext_enum_itemD D he hst hlt hne hef fun u h1 tk hP ho hst1 hT hsz kp => ⟨_, rfl, wpAny_letOwnedTupleGo_enum (s := { s with heap := h1, toks := tk + 1 }) ho fun h2 he2 sb => ?_⟩
  obtain ⟨y, ry, q⟩ := hR u hP
  have fresh : H s.heap.objs.size = none := I.hok.fresh (Nat.le_refl _)
  have stay : ∀ b o, b ∉ [e, it] → s.heap.get? b = some o → h2.get? b = some o := fun b o hb z => (sb.2 b fun w => hb (by simp [w])).trans (kp b o (fun w => hb (by simp [w])) (fun w => hb (by simp [w])) z)
  have pair : h2.get? s.heap.objs.size = some { cls := .type "tuple", data := .seq #[.int i tk, u] } := (sb.2 _ (Nat.ne_of_gt elt)).trans hT
  have new : ObjOk X.prog X.w (upd H s.heap.objs.size (.tup [.int (i : Nat), y])) h2 s.heap.objs.size (.tup [.int (i : Nat), y]) := ⟨by show 2 ≤ sizeLine; decide, [.int i tk, u], .cons ⟨_, rfl⟩ (.cons ry .nil), _, pair, rfl, _, rfl⟩
  refine ⟨.ref s.heap.objs.size, _, I.turnedNew (ch := [e, it]) stay hf (Nat.le_refl _) new, rfl, q _ _ fresh (D.frame _ _ _ hst1 fun b hb o z => (sb.2 b fun w => hef (w ▸ hb)).trans z) ⟨u, ?_⟩, fun b hb => ?_⟩
  · rw [show ((i + 1 : Nat) : Int) = (i : Int) + 1 from Int.natCast_add i 1]
    exact he2
  · have hlt : b < s.heap.objs.size := by
      obtain z | z := List.mem_cons.mp hb
      · rw [z]
        exact elt
      · rw [List.mem_singleton.mp z]
        exact hit
    rw [upd_ne (Nat.ne_of_lt hlt)]
    exact (hf b hb).1
end
theorem turn_enS {P : Program} {w : World} {K : PySem.W.Frag} {elts : List Expr} {kk : Nat} {tpos : Pos} (x : Str) (t : Tok) (e it : Addr) :
    Turn P w K (.Tuple elts kk tpos) (EnS x) [e, it] e (fun i h => (∃ old, IsEnum h e it ((i : Nat) : Int) old) ∧ h.IsStrIter it (strIterType x) x t i ∧ e ≠ it) where
  mem := .head _
  obj := fun i h st b hb => by
    obtain ⟨⟨old, he⟩, ⟨o, ho, _, hd⟩, _⟩ := st
    obtain z | z := List.mem_cons.mp hb
    · exact ⟨_, z ▸ he, fun v q => by cases q⟩
    · exact ⟨o, List.mem_singleton.mp z ▸ ho, fun v q => by cases hd.symm.trans q⟩
  keep := fun i h h' st k => let ⟨⟨old, he⟩, ⟨o, ho, r⟩, hne⟩ := st; ⟨⟨old, k e (.head _) _ he⟩, ⟨o, k it (.tail _ (.head _)) _ ho, r⟩, hne⟩
  item := by
    intro X hP hw hK hc i pins s σ H E I hf ⟨⟨old, he⟩, hit, hne⟩ hg
    subst hP hw hK
    obtain ⟨o, ho, _⟩ := id hit
    have D := Draws.text (prog := X.prog) (w := X.w) (A := X.A.in1) (I.ok.hd hc) it x t
    refine wpAny_mono (en_item (elts := elts) (kk := kk) (tpos := tpos) (R := fun v H' h2 => (EnS x).yld i H v H' ∧ (∃ old, IsEnum h2 e it ((i + 1 : Nat) : Int) old) ∧ h2.IsStrIter it (strIterType x) x t (i + 1)) I D he hit hg hne (fun z => hne (List.mem_singleton.mp z)) (Heap.lt_size ho) hf (fun u hu => ?_)) (fun r s1 q => ?_) fun _ _ z => z
    · obtain ⟨c, tk, hx, eu⟩ := hu
      exact ⟨.str ⟨#[c]⟩, ⟨tk, eu⟩, fun T h2 hT st z => ⟨⟨T, c, rfl, hT, rfl, hx⟩, z, st⟩⟩
    obtain ⟨u, rfl, q⟩ := q
    exact ⟨u, rfl, wpAny_mono q (fun _ s2 ⟨v, H', I', rv, ⟨a, b, c⟩, d⟩ => ⟨v, H', I', rv, a, ⟨b, c, hne⟩, d⟩) fun _ _ z => z⟩
  done := by
    intro X hP hw hK hc i pins s σ H E I hf ⟨⟨old, he⟩, hit, hne⟩ hg
    subst hP hw hK
    obtain ⟨f0, f1, f2, f3, f4, f5⟩ := hf it (.tail _ (.head _))
    have D := Draws.text (prog := X.prog) (w := X.w) (A := X.A.in1) (I.ok.hd hc) it x t
    exact wpAny_pyNext_enum_endD D he (show s.heap.IsStrIter it (strIterType x) x t x.cps.size from hg ▸ hit) fun h1 eb => ⟨rfl, I.turned (t' := s.toks) (fun b o hb q => eb b o hb q) f0 f1 f3 f4 f5⟩
  self := fun _ _ _ _ _ st q => wpAny_pyIter_enum st.1.choose_spec q
/-- enumerate(v) of anything whose iterator is one new object -/
theorem meets_one {v : Value} {o : Obj} {G : Heap → Prop} (B : PySem.Begins v o G) : Meets (Builtin.«enumerate.__new__» ⟨[.type "enumerate", v], []⟩) (fun _ R s => G s.heap ∧
    R (.ok (.ret (.ref (s.heap.push o).objs.size))) { s with heap := (s.heap.push o).push { cls := .type "enumerate", data := .fields #[.none, .bool false, .ref s.heap.objs.size, rawInt 0, .none, .none] } }) :=
  .of_wp fun prog w _ _ ⟨hp, g, d, tk, os⟩ ⟨h1, h2⟩ => by
    have f1 := sub_enumerate
    have f2 : ∀ {A1 : Around} {E : Value → Shared → Prop} {Q : Value → Shared → Prop}, Q (.ref hp.objs.size) ⟨hp.push o, g, d, tk, os⟩ → wpAny (model prog w) A1 (pyIter v) Q E ⟨hp, g, d, tk, os⟩ := fun q => B.iter prog w _ _ _ _ h1 q
    wp_walk using f2
    refine wpAny_stack_any fun _ => wpAny_pure ?_
    split
    · rename_i c _ _ _ _ _
      cases (c == Value.type "enumerate") <;> (wp_walk using f2; exact ⟨_, rfl, h2⟩)
    · wp_walk using f2
      exact ⟨_, rfl, h2⟩
theorem call_one {prog : Program} {w : World} {A : Around} {E : Value → Shared → Prop} {s : Shared} {v : Value} {o : Obj} {G : Heap → Prop} {Q : Value → Shared → Prop} (B : PySem.Begins v o G) (h1 : G s.heap)
    (k : ∀ h1, IsEnum h1 (s.heap.objs.size + 1) s.heap.objs.size 0 .none → h1.get? s.heap.objs.size = some o → (∀ b u, s.heap.get? b = some u → h1.get? b = some u) → Q (.ref (s.heap.objs.size + 1)) { s with heap := h1 }) :
    wpAny (model prog w) A (call (.type "enumerate") [v]) Q E s := by
  have sz : (s.heap.push o).objs.size = s.heap.objs.size + 1 := Heap.size_push ..
  have at_ : IsEnum ((s.heap.push o).push { cls := .type "enumerate", data := .fields #[.none, .bool false, .ref s.heap.objs.size, rawInt 0, .none, .none] }) (s.heap.objs.size + 1) s.heap.objs.size 0 .none := by
    have z := Heap.get?_push_size (s.heap.push o) (o := { cls := .type "enumerate", data := .fields #[.none, .bool false, .ref s.heap.objs.size, rawInt 0, .none, .none] }) rfl
    rw [sz] at z
    exact z
  refine callType_new F.called_enumerate (by decide) (F.typeCall_enumerate_1 _) (F.newCall_enumerate_1 _) (fun obj => F.args_object_init_2 obj _) F.entry_enumerate_new (meets_one B) ⟨h1, ?_⟩
  rw [sz]
  exact ⟨⟨_, at_, rfl⟩, k _ at_ (Heap.get?_push_of_some _ (Heap.get?_push_size _ B.free)) fun b u x => Heap.get?_push_of_some _ (Heap.get?_push_of_some _ x)⟩
def iEnS (ta : TA) : TI := fun σ H R => ta σ H fun vs H1 => ∃ x, vs = [.str x] ∧ R (EnS x) H1
section
variable {X : Cx} {e : Expr} {ta : TA} {p pos tpos : Pos} {elts : List Expr} {kk : Nat}
theorem two_new {pins : List (Addr × Obj)} {σ : L2.St} {H : Hp} {s : Shared} (I : Inv X pins σ H s) : ∀ b ∈ [s.heap.objs.size + 1, s.heap.objs.size], FpOk X pins H b := fun b hb => by
  have le : s.heap.objs.size ≤ b := by
    obtain z | z := List.mem_cons.mp hb
    · rw [z]
      exact Nat.le_succ _
    · rw [List.mem_singleton.mp z]
      exact Nat.le_refl _
  exact I.fpOk le (I.hok.fresh le)
theorem pi_enS (hg : Gl X "enumerate") (hm : X.mg "enumerate" = none) (ha : PA X [e] ta) (hs : starEach [e] X.env = [(false, eval e X.env)] := by rfl) : PI X (.Tuple elts kk tpos) (.Call (.Name "enumerate" p) [e] [] pos) (iEnS ta) := by
  refine ⟨fun pins s σ H R I h => Call_ (ld_blt I hg hm boot_enumerate (PyProof.Rows.callWith_type1 (thn (ha.run pos pins s σ H _ I h) fun us s1 ⟨vs, H1, I1, r1, x, ex, q⟩ => ?_) hs rfl))⟩
  subst ex
  obtain ⟨u, rfl, t, rfl⟩ := r1.one
  refine call_one (PySem.begins_text x t) trivial fun h1 he hi kp => wpAny_pyIter_enum he ?_
  exact ⟨s1.heap.objs.size + 1, _, _, _, H1, rfl, I1.kept (t' := s1.toks) kp, turn_enS x t _ s1.heap.objs.size, ⟨⟨.none, he⟩, ⟨_, hi, rfl, rfl⟩, Nat.succ_ne_self _⟩, two_new I1, q⟩
end
theorem walk_enS {z : Str} : Walk (EnS z) z.cps.size (fun _ => True) (fun i H v H' => ∃ T c, v = .ref T ∧ H T = none ∧ H' = upd H T (.tup [.int (i : Nat), .str ⟨#[c]⟩]) ∧ z.cps[i]? = some c) := ⟨fun _ _ hi _ => hi, fun _ _ => rfl, fun _ _ _ _ _ _ y => y⟩
end ENU
set_option Elab.async false
set_option linter.all false
set_option maxRecDepth 100000
set_option maxHeartbeats 8000000
namespace L2
open PySem PySem.Spec PyProof.Rows
section
variable {X : Cx}
/-- y = {k: v for .. in ..} -/
theorem ps_setDc {i : Nat} {y : Str} {py pos spos : Pos} {kx vx tg iter : Expr} {ifs : List Expr} {scope : Scope} {own : List (Str × Nat)} {wi : TI} {g : TG} {tt : TT} {tk tv : TE} (hc : X.calm = true) (hN : X.N.Nodup) (hy : X.N[i]? = some y) (hyl : X.env.scope.names.lookup y = some .local)
    (hsw : swapsWith (.DictComp kx vx [⟨tg, iter, ifs, 0⟩] scope pos) (some (.Name y py)) spos.line X.env = pure true) (hi : PI X tg iter wi) (ok : BlkOk X.N X.env.scope scope own)
    (hg : ∀ s H C cl fp, PG (X.blk s H scope (compEnvC scope cl C X.env) fp) tg g) (ht : ∀ s H C cl fp, PTs (X.blk s H scope (compEnvC scope cl C X.env) fp) ifs tt) (hk : ∀ s H C cl fp, PE (X.blk s H scope (compEnvC scope cl C X.env) fp) kx tk) (he : ∀ s H C cl fp, PE (X.blk s H scope (compEnvC scope cl C X.env) fp) vx tv)
    (hs : ∀ x, foldedSetIterable iter X.env x = pure x := by intro _; rfl) : PS X (.Assign [.Name y py] (.DictComp kx vx [⟨tg, iter, ifs, 0⟩] scope pos) spos) (tAsg (tDc wi g tt tk tv (own.map (·.2))) (gName i)) := by
  refine ⟨fun pins s σ H D I h => ?_⟩
  have made : wpAny (model X.prog X.w) X.A (comprehension (.DictComp kx vx [⟨tg, iter, ifs, 0⟩] scope pos) scope X.env (firstIterPos [⟨tg, iter, ifs, 0⟩] pos) newDict false (eval iter X.env) (some (assign (.Name y py) X.env))) (fun _ s' => SP X pins D .next s') X.xe s := by
    refine dc_core hc hN I hi ok hg ht hk he hs (Q := fun x H1 => gName i x σ H1 D.nx) h fun L C s' m H' I' q hn f => ?_
    obtain ⟨g0, g1, _, g3, g4, g5⟩ := f
    show wpAny (model X.prog X.w) X.A (assign (.Name y py) X.env (.ref L)) _ X.xe _
    refine wpAny_assign_Name (store_ok2 (v := .ref L) I' hN hy (.inl hyl) rfl (fun s2 I2 z => ?_) (.inr hyl))
    obtain ⟨a, sb, at_⟩ := z
    exact ⟨m, hn.sameBut sb (at_.elim (fun z => z ▸ g1) fun z w => g4 y a z w.symm), fun h3 sb3 => ⟨_, H', I2.turned (t' := s2.toks) (fun b o hb e => (sb3.2 b hb).trans e) g0 g1 g3 g4 g5, q⟩⟩
  rw [exec_Assign_Name_used (hs := hsw)]
  refine wpAny_bind (wpAny_standAt ?_)
  refine wpAny_bind ?_
  show wpAny _ X.A (do let _ ← comprehension (.DictComp kx vx [⟨tg, iter, ifs, 0⟩] scope pos) scope X.env (firstIterPos [⟨tg, iter, ifs, 0⟩] pos) newDict false (eval iter X.env) (some (assign (.Name y py) X.env))) _ _ s
  exact wpAny_bind (thn made fun _ _ z => wpAny_pure (wpAny_pure z))
end
end L2
namespace LCX
open PySem L2 PyProof.Rows WK
/-- one turn of a dict's comprehension -/
abbrev DTurn (g : TG) (tt : TT) (tk tv : TE) (vs : List Nat) (σ : L2.St) (D : Addr) (x : V) (H : Hp) (N : Hp → Prop) : Prop := g x (wipe σ vs) H fun σ2 H2 => wipe σ2 vs = wipe σ vs ∧ tt σ2 H2 fun b H3 =>
  if b = true then tk σ2 H3 fun y H4 => tv σ2 H4 fun z H5 => ∃ kvs k, y = kV k ∧ H5 D = some (.dK kvs) ∧ kvs.length < sizeLine ∧ N (upd H5 D (.dK (putK kvs k z))) else N H3
abbrev DWent (J : It) (g : TG) (tt : TT) (tk tv : TE) (vs : List Nat) (σ : L2.St) (D : Addr) (H1 : Hp) (Qd : Hp → Prop) : Prop :=
  ∃ W : Nat → Nat → Hp → Prop, (∃ m, W 0 m (upd H1 D (.dK []))) ∧ ∀ j n G, W j n G → (J.stop j G ∧ Qd G) ∨ (J.go j G ∧ ∃ N : Hp → Prop, (∀ G', N G' → ∃ n', n' < n ∧ W (j + 1) n' G') ∧ ∀ v G', J.yld j G v G' → DTurn g tt tk tv vs σ D v G' N)
theorem dc_it {J : It} {n : Nat} {G : Hp → Prop} {Y : Nat → Hp → V → Hp → Prop} (wk : Walk J n G Y) {g : TG} {tt : TT} {tk tv : TE} {vs : List Nat} {σ : L2.St} {H1 : Hp} {D : Addr} {Qd : Hp → Prop} (Pv : Nat → Hp → Prop) (h0 : Pv 0 (upd H1 D (.dK []))) (hG : ∀ i H, i ≤ n → Pv i H → G H)
    (hs : ∀ i x H H', i < n → Pv i H → Y i H x H' → DTurn g tt tk tv vs σ D x H' (Pv (i + 1))) (hd : ∀ H, Pv n H → Qd H) : DWent J g tt tk tv vs σ D H1 Qd := by
  refine ⟨fun i m H => m + i = n ∧ Pv i H, ⟨n, rfl, h0⟩, fun i m H ⟨e, p⟩ => ?_⟩
  have gd := hG i H (by omega) p
  rcases Nat.lt_or_ge i n with lt | ge
  · exact .inr ⟨wk.goes i H lt gd, Pv (i + 1), fun H' p' => ⟨m - 1, by omega, by omega, p'⟩, fun x H' y => hs i x H H' lt p (wk.yields i H x H' lt gd y)⟩
  · obtain rfl : i = n := by omega
    exact .inl ⟨wk.stops H gd, hd H p⟩
end LCX
namespace WK
open PySem L2 PyProof.Rows LCX K1
open TX (sg sigs)
open PySem.W (Frag kitOne)
abbrev sLed : Stmt := top 15
/-- one step, and the way of a word -/
def stepL (L : W) (tb : List (List Int)) (r : Int) (c : Nat) : Int := (tb.getD r.toNat []).getD (L.idxOf c) 0
def ledL (L : W) (tb : List (List Int)) (u : W) (st : Int) : Int := u.foldl (stepL L tb) st
theorem stepL_in {L : W} {tb : List (List Int)} {n r : Int} {c : Nat} (ok : TabOk tb L.length n) (hr : 0 ≤ r ∧ r < n) (hc : c ∈ L) : 0 ≤ stepL L tb r c ∧ stepL L tb r c < n := by
  have hl := ok.len
  have h1 : r.toNat < tb.length := by omega
  have e1 : tb.getD r.toNat [] = tb[r.toNat] := by rw [List.getD_eq_getElem?_getD, List.getElem?_eq_getElem h1] <;> rfl
  obtain ⟨a, b⟩ := ok.row _ (List.getElem_mem h1)
  have h2 : L.idxOf c < tb[r.toNat].length := by rw [a]; exact List.idxOf_lt_length_of_mem hc
  unfold stepL
  rw [e1, List.getD_eq_getElem?_getD, List.getElem?_eq_getElem h2]
  exact b _ (List.getElem_mem h2)
theorem Objs.get {mk : List Int → HO} {H : Hp} : ∀ {as : List Addr} {rs : List (List Int)} {i : Nat}, Objs mk H as rs → i < rs.length → ∃ a, as[i]? = some a ∧ H a = some (mk (rs.getD i []))
  | _ :: _, _ :: _, 0, h, _ => ⟨_, rfl, h.1⟩
  | _ :: _, _ :: _, _ + 1, h, hi => h.2.get (Nat.lt_of_succ_lt_succ hi)
  | [], _ :: _, _, h, _ => h.elim
  | _, [], _, _, hi => absurd hi (Nat.not_lt_zero _)
theorem ledL_snoc (L : W) (tb : List (List Int)) (u : W) (c : Nat) (st : Int) : ledL L tb (u ++ [c]) st = stepL L tb (ledL L tb u st) c := by
  unfold ledL
  rw [List.foldl_append] <;> rfl
theorem ledL_in {L : W} {tb : List (List Int)} {n : Int} (ok : TabOk tb L.length n) : ∀ {u : W} {st : Int}, 0 ≤ st ∧ st < n → (∀ c ∈ u, c ∈ L) → 0 ≤ ledL L tb u st ∧ ledL L tb u st < n
  | [], _, h, _ => h
  | c :: u, st, h, hc => ledL_in ok (u := u) (stepL_in ok h (hc c (.head _))) fun d hd => hc d (.tail _ hd)
theorem nodup_of {L : W} (h : Let L) : L.Nodup := h.asc.imp fun z => Nat.ne_of_lt z
theorem idx_of {L : W} (h : L.Nodup) {i c : Nat} (e : L[i]? = some c) : L.idxOf c = i := by
  obtain ⟨hi, rfl⟩ := List.getElem?_eq_some_iff.mp e
  exact List.Nodup.idxOf_getElem h i hi
/-- a table in tuples at t -/
def TTab (K : Frag) (H : Hp) (t : Addr) (tb : List (List Int)) : Prop := ∃ ts : List Addr, SqT K H t (ts.map V.ref) ∧ Objs oTup H ts tb
theorem TTab.same {K : Frag} {H H' : Hp} {t : Addr} {tb : List (List Int)} (h : TTab K H t tb) (s : Same H H') : TTab K H' t tb := let ⟨ts, a, b⟩ := h; ⟨ts, seqT s a, b.to fun _ _ _ z => s _ _ z⟩
def spLed (K : Frag) : Sp := fun vs H Q _ => ∃ (t : Addr) (L u : W) (tb : List (List Int)) (n st : Int), vs = [.str (tx L), .ref t, .str (tx u), .int st] ∧ TTab K H t tb ∧ Let L ∧ TabOk tb L.length n ∧ n ≤ 1000 ∧ 0 ≤ st ∧ st < n ∧ u.length ≤ 1000 ∧ (∀ c ∈ u, c ∈ L) ∧
  ∀ H', Same H H' → Q (.int (ledL L tb u st)) H'
abbrev NLd : List Str := ["letters", "table", "word", "start", "columns", "row", "letter", "at"]
section
variable {P : Program} {w : World} {K : PySem.W.Frag} {mg : Str → Option Value} {base : Heap}
theorem scLd : FnScope NLd ["letters", "table", "word", "start"] (defScope sLed) := ⟨rfl, rfl, rfl, by decide +kernel, rfl, by decide +kernel, by decide +kernel⟩
theorem ok_led {f : Addr} {fd : FuncData} (F : Fun K "led" "led" sLed f fd) (en : mg "enumerate" = none) : FnOk P w K mg base CX0 1 f fd ["letters", "table", "word", "start"] (spLed K) := by
  refine F.ok scLd (fun vs H Q E h => ?_) (fun cdv A outer s H vs Q E hr h => ?_)
  · obtain ⟨t, L, u, tb, n, st, rfl, _⟩ := h
    rfl
  · obtain ⟨t, L, u, tb, n, st, rfl, hT, hL, ok, hn, s0, s1, hu, hc, q⟩ := h
    have hub := hu_of hr
    refine ⟨_, pss_cons (ps_setDc (i := 4) (own := [("at", 7), ("letter", 6)]) (g := gTup K 2 (gCons (gName 7) (gCons (gName 6) gNil))) (tt := tYes) (tk := tVar 6) (tv := tVar 7) rfl scLd.nd rfl rfl (by rfl) (ENU.pi_enS rfl en (pa_cons (pv 0) pa_nil))
        (blkOk_by (own := [("at", 7), ("letter", 6)]) (N := NLd) (sc := defScope sLed) (by decide +kernel)) (fun _ _ _ _ _ => pg_tup (by rfl) (pgs_cons (pg_name (i := 7) scLd.nd rfl (Or.inl rfl)) (pgs_cons (pg_name (i := 6) scLd.nd rfl (Or.inl rfl)) pgs_nil))) (fun _ _ _ _ _ => pts_nil)
        (fun _ _ _ _ _ => pv 6) (fun _ _ _ _ _ => pv 7))
      (pss_cons (ps_set (i := 5) scLd.nd rfl (Or.inl rfl) (pv 3))
      (pss_cons (ps_for PassesOwn.never rfl (pi_str (pv 2)) (pg_name (i := 6) scLd.nd rfl (Or.inl rfl))
        (pss_one (ps_set (i := 5) scLd.nd rfl (Or.inl rfl) (pe_ix ix_tup (pe_ix ix_tup (pv 1) (pv 5) (fun _ _ => rfl)) (pe_dget hub (pv 4) (pv 6) (fun _ _ => rfl)) (fun _ _ => rfl)))))
      (pss_one (ps_ret (pv 5))))), ?_⟩
    have hnd := nodup_of hL
    refine ⟨_, rfl, tx L, rfl, fun D hD => ?_⟩
    refine dc_it ENU.walk_enS (fun i H3 => Same H H3 ∧ ∃ kvs : List (Key × V), H3 D = some (.dK kvs) ∧ kvs.length ≤ i ∧ ∀ c ∈ L.take i, valV kvs (Sum.inr (sg c) : Key) = some (.int ((L.idxOf c : Nat) : Int))) ⟨same_upd hD, [], upd_same, Nat.le_refl _, fun c hc => by simp at hc⟩ (fun _ _ _ _ => trivial) ?_ ?_
    · rintro i x H3 H4 hi ⟨s3, kvs, hd, hl, hv⟩ ⟨T, c, rfl, hT2, rfl, hx⟩
      have hx' : L[i]? = some c := by
        rw [← Array.getElem?_toList, tx_list] at hx
        exact hx
      have hi' : i < L.length := (List.getElem?_eq_some_iff.mp hx').1
      have s4 : Same H3 (upd H3 T (.tup [.int (i : Nat), .str ⟨#[c]⟩])) := same_upd hT2
      refine ⟨T, _, rfl, SqT.of upd_same, rfl, _, _, rfl, _, _, rfl, rfl, rfl, _, rfl, _, rfl, kvs, Sum.inr (sg c), rfl, s4 _ _ hd, by have := hL.few; rw [sizeLine_eq]; omega, same_at (s3.trans s4) hD, _, upd_same, ?_, fun d hd2 => ?_⟩
      · have := length_putK kvs (Sum.inr (sg c) : Key) (.int (i : Nat))
        omega
      · rw [valV_put]
        by_cases e : d = c
        · rw [if_pos (by rw [e]), e, idx_of hnd hx']
        · rw [if_neg fun z => e (TX.sg_inj (Sum.inr.inj z))]
          refine hv d ?_
          rw [List.take_add_one, hx'] at hd2
          rcases List.mem_append.mp hd2 with z | z
          · exact z
          · exact absurd (by simpa using z) e
    · rintro H3 ⟨s3, kvs, hd, hl, hv⟩
      rw [size_tx, List.take_length] at hv
      refine ⟨_, rfl, _, rfl, tx u, rfl, ?_⟩
      refine for_it walk_str (fun i σ H1 => H1 = H3 ∧ ∃ l : Option V, σ = [some (.str (tx L)), some (.ref t), some (.str (tx u)), some (.int st), some (.ref D), some (.int (ledL L tb (u.take i) st)), l, none]) ⟨rfl, none, rfl⟩ (fun _ _ _ _ _ => trivial) ?_ ?_
      · rintro i x σ H1 H2 hi ⟨rfl, l, rfl⟩ ⟨rfl, c, hx, rfl⟩
        have hx' : u[i]? = some c := by
          rw [← Array.getElem?_toList, tx_list] at hx
          exact hx
        have hcL : c ∈ L := hc c (List.mem_of_getElem? hx')
        have hin := ledL_in ok (u := u.take i) (st := st) ⟨s0, s1⟩ fun d hd => hc d (List.mem_of_mem_take hd)
        obtain ⟨ts, h1, h2⟩ := hT.same s3
        have hrl : (ledL L tb (u.take i) st).toNat < tb.length := by have := ok.len; omega
        obtain ⟨a, e1, e2⟩ := h2.get hrl
        have at1 : atI (ts.map V.ref) (ledL L tb (u.take i) st) = some (.ref a) := by
          have e3 : ledL L tb (u.take i) st = (((ledL L tb (u.take i) st).toNat : Nat) : Int) := by omega
          rw [e3]
          exact atI_nat (by rw [List.getElem?_map, e1] <;> rfl)
        have e4 : tb.getD (ledL L tb (u.take i) st).toNat [] = tb[(ledL L tb (u.take i) st).toNat] := by rw [List.getD_eq_getElem?_getD, List.getElem?_eq_getElem hrl] <;> rfl
        have hil : L.idxOf c < (tb.getD (ledL L tb (u.take i) st).toNat []).length := by rw [e4, (ok.row _ (List.getElem_mem hrl)).1]; exact List.idxOf_lt_length_of_mem hcL
        have at2 : atI ((tb.getD (ledL L tb (u.take i) st).toNat []).map V.int) ((L.idxOf c : Nat) : Int) = some (.int (stepL L tb (ledL L tb (u.take i) st) c)) := by
          refine atI_nat ?_
          unfold stepL
          rw [List.getElem?_map, List.getD_eq_getElem?_getD (l := tb.getD _ _), List.getElem?_eq_getElem hil] <;> rfl
        refine ⟨_, rfl, _, rfl, t, _, _, _, rfl, rfl, h1, at1, _, rfl, _, rfl, D, _, rfl, (hv c hcL) ▸ DGet.k (k := Sum.inr (sg c)) hd, a, _, _, _, rfl, rfl, SqT.of e2, at2, rfl, some (.str (sg c)), ?_⟩
        rw [List.take_add_one, hx']
        show _ = [_, _, _, _, _, some (V.int (ledL L tb (u.take i ++ [c]) st)), _, _]
        rw [ledL_snoc] <;> rfl
      · rintro σ H1 ⟨rfl, l, rfl⟩
        rw [size_tx, List.take_length]
        exact ⟨_, rfl, q _ s3⟩
end
end WK
set_option Elab.async false
set_option linter.all false
set_option maxRecDepth 100000
set_option maxHeartbeats 8000000
namespace OWN
open PySem PySem.Spec L2 PyProof.Rows
/-- an instance that stands in H -/
theorem inst_at {X : Cx} {pins : List (Addr × Obj)} {σ : L2.St} {H : Hp} {s : Shared} {a C dx : Addr} {fs : List (Str × V)} (I : Inv X pins σ H s) (at_ : H a = some (.ins C dx fs)) : ∃ od : Obj, PySem.W.InstAt s.heap a (PySem.W.instObj C dx) C (some od) :=
  let ⟨_, j, _⟩ := ins_get I.hok at_
  let ⟨od, k, _⟩ := j.look
  ⟨od, k⟩
section
variable {X : Cx} {C g : Addr} {n : Nat} {sp : Sp}
def rLenO (C : Addr) (sp : Sp) : List V → Hp → VK → Prop := fun xs H Q => ∃ a dx fs, xs = [.ref a] ∧ H a = some (.ins C dx fs) ∧ sp [.ref a] H (fun z H' => ∃ k : Nat, z = .int k ∧ (k : Int) < 2 ^ 62 ∧ Q z H') E0
theorem call_lenO (hs : PySem.W.findIn X.K (.ref C) "__len__" = some (some (.ref g))) (hf : PySem.W.isFn X.K (.ref g) = true) (F : FnR X.prog X.w X.K X.mg X.base CX0 n g sp) (hr : Room (n + 1) X.A) : CallR X (.builtin "len") (rLenO C sp) := by
  intro _ s _ _ _ _ _ I r ⟨a, dx, fs, ex, ha, q⟩
  subst ex
  obtain ⟨u, rfl, ru⟩ := r.one
  obtain rfl : u = .ref a := ru
  obtain ⟨od, J⟩ := inst_at I ha
  obtain ⟨m, hF⟩ := I.fr
  refine PySem.W.len_K hF I.ok.mod.kin J hs hf (wpAny_mono (wpAny_call (SlX.run_at (us := [.ref a]) (ws := [.ref a]) F (Room.in1 hr) I.env0.in1 pass0 I (.cons rfl .nil) q)) (fun w s' z => ?_) fun _ _ x => x)
  obtain ⟨z', H', I', rz, k, ez, hk, qz⟩ := z
  subst ez
  obtain ⟨t, e⟩ := (show ∃ t, w = Value.int k t from rz)
  cases e
  exact ⟨⟨by omega, by omega⟩, .int k, H', I'.tok _, ⟨_, rfl⟩, qz⟩
/-- x in o, x not in o -/
def rInO (C : Addr) (sp : Sp) (neg : Bool) : R2 := fun x y H Q => ∃ a dx fs, y = .ref a ∧ H a = some (.ins C dx fs) ∧ sp [.ref a, x] H (fun z H' => ∃ b : Bool, z = .bl b ∧ Q (.bl (if neg = true then !b else b)) H') E0
theorem op_inO (hs : PySem.W.findIn X.K (.ref C) "__contains__" = some (some (.ref g))) (hf : PySem.W.isFn X.K (.ref g) = true) (F : FnR X.prog X.w X.K X.mg X.base CX0 n g sp) (hr : Room n X.A) : OpR X (compareOp .In) (rInO C sp false) := by
  intro pins s σ H x _ v _ Q I rx ry ⟨a, dx, fs, ey, ha, q⟩
  subst ey
  obtain rfl : _ = Value.ref a := ry
  obtain ⟨od, J⟩ := inst_at I ha
  obtain ⟨m, hF⟩ := I.fr
  refine PySem.W.in_K hF I.ok.mod.kin J hs hf (wpAny_mono (wpAny_call (run_fnR (us := [.ref a, v]) (vs := [.ref a, x]) F hr pass0 I (.cons rfl (.cons rx .nil)) q)) (fun w s' z => ?_) fun _ _ x => x)
  obtain ⟨z', H', I', rz, b, ez, qz⟩ := z
  subst ez
  cases (show w = Value.bool b from rz)
  exact wpAny_truthy_bool ⟨.bl b, H', I', rfl, qz⟩
end
end OWN
set_option Elab.async false
set_option linter.all false
set_option maxRecDepth 100000
set_option maxHeartbeats 8000000
namespace WK
open PySem L2 PyProof.Rows LCX K1 FV LamX NdefX
open TX (sg sigs)
open PySem.W (Frag kitOne)
abbrev sIsPair : Stmt := top 29
abbrev sWB : Stmt := top 89
abbrev sMHas : Stmt := inClass (top 49) 14
def Mac2 (C : Addr) (H : Hp) (x y : V) : Prop := ∃ a b L L', x = .ref a ∧ y = .ref b ∧ MacL C H a L ∧ MacL C H b L'
theorem Mac2.same {C : Addr} {H H' : Hp} {x y : V} (h : Mac2 C H x y) (s : Same H H') : Mac2 C H' x y := let ⟨a, b, L, L', e1, e2, m1, m2⟩ := h; ⟨a, b, L, L', e1, e2, m1.same s, m2.same s⟩
theorem FarTwo.same {C : Addr} {H H' : Hp} {x y : V} (h : FarTwo C H x y) (s : Same H H') : FarTwo C H' x y := let ⟨a, b, L, L', e1, e2, m1, m2, n⟩ := h; ⟨a, b, L, L', e1, e2, m1.same s, m2.same s, n⟩
/-- what is no pair of 'word' and a word -/
def NoWB (H : Hp) (v : V) : Prop := (OV H v ∧ ∀ a xs, v = .ref a → H a = some (.tup xs) → xs.length ≠ 2) ∨ (∃ a y z, v = .ref a ∧ H a = some (.tup [.str y, z]) ∧ y ≠ "word") ∨ (∃ a z, v = .ref a ∧ H a = some (.tup [.str "word", .str z]) ∧ wordB z = false)
/-- a machine, told whole -/
structure MacE (C : Addr) (H : Hp) (o : Addr) (L : W) (tb : List (List Int)) (es : List Int) (n : Int) : Prop where
  at_ : MacAt C H o L tb es
  ok : MacOk L tb es n
  few : n ≤ 1000
  let_ : Let L
theorem MacE.same {C : Addr} {H H' : Hp} {o : Addr} {L : W} {tb : List (List Int)} {es : List Int} {n : Int} (h : MacE C H o L tb es n) (s : Same H H') : MacE C H' o L tb es n := ⟨h.at_.same s, h.ok, h.few, h.let_⟩
theorem pe_neverX {X : Cx} {e : Expr} : PE X e (fun _ _ _ => False) := ⟨fun _ _ _ _ _ _ h => h.elim⟩
theorem int_in (r : Int) (es : List Int) : inV (.int r) (es.map V.int) = decide (r ∈ es) := by
  unfold inV
  rw [List.any_map, Bool.eq_iff_iff, decide_eq_true_eq, List.any_eq_true]
  refine ⟨fun ⟨e, he, h⟩ => ?_, fun h => ⟨r, h, ?_⟩⟩
  · have h : (e == r) = true := h
    rw [← beq_iff_eq.mp h]
    exact he
  · show (r == r) = true
    exact beq_self_eq_true r
theorem ints_flat (es : List Int) : (es.map V.int).all flatV = true := by
  rw [List.all_map, List.all_eq_true]
  exact fun _ _ => rfl
def spPairV (K : Frag) : Sp := fun vs H Q _ => ∃ v, vs = [v] ∧ OV H v ∧ (∀ a xs, v = .ref a → H a = some (.tup xs) → xs.length ≤ 1000 ∧ (xs.length = 2 → Q (.bl true) H) ∧ (xs.length ≠ 2 → Q (.bl false) H)) ∧ ((∀ a xs, v = .ref a → H a ≠ some (.tup xs)) → Q (.bl false) H)
def spMHx (C : Addr) : Sp := fun vs H Q _ => ∃ (o : Addr) (z : Str), vs = [.ref o, .str z] ∧ wordB z = false ∧ Q (.bl false) H
def spWBx (C : Addr) : Sp := fun vs H Q _ => ∃ x y v, vs = [x, y, v] ∧ Mac2 C H x y ∧ OV H v ∧ (∀ a xs, v = .ref a → H a = some (.tup xs) → xs.length ≤ 1000) ∧ NoWB H v ∧ Q (.bl false) H
section
variable {P : Program} {w : World} {K : PySem.W.Frag} {mg : Str → Option Value} {base : Heap} {cN cO cW cM cI C cD gH : Addr}
theorem ok_pair {f : Addr} {fd : FuncData} (F : Fun K "is_pair" "is_pair" sIsPair f fd) (T : TN mg) : FnOk P w K mg base CX0 1 f fd ["value"] (spPairV K) := by
  refine F.ok (N := ["value"]) ⟨rfl, rfl, rfl, by decide +kernel, rfl, by decide +kernel, by decide +kernel⟩ (fun vs H Q E h => ?_) (fun cdv A outer s H vs Q E hr h => ?_)
  · obtain ⟨v, rfl, _⟩ := h
    rfl
  · obtain ⟨v, rfl, ov, q1, q2⟩ := h
    refine ⟨_, pss_one (ps_ret (pe_and (pe_callB call_isi (by rfl) T.isi (by decide +kernel) (pa_cons (pv 0) (pa_cons (pe_ty "tuple" T.tuple (by decide +kernel)) pa_nil)))
      (pe_one (pe_cmpR op_eq (pe_callB call_len_seq (by rfl) T.len PySem.boot_len (pa_cons (pv 0) pa_nil)) pe_int (nomark _))))), ?_⟩
    by_cases z : ∃ a xs, v = .ref a ∧ H a = some (.tup xs)
    · obtain ⟨a, xs, rfl, e⟩ := z
      obtain ⟨l, q3, q4⟩ := q1 a xs rfl e
      refine ⟨_, rfl, _, _, _, _, true, rfl, .ty "tuple", .base (.tup e), kit_ty (by decide +kernel), true, rfl, ?_⟩
      refine ⟨_, rfl, a, xs, rfl, .inr (SqT.of e), rfl, ?_⟩
      by_cases h2 : xs.length = 2
      · rw [decide_eq_true (show V.int (xs.length : Int) = V.int 2 by rw [h2] <;> rfl)]
        exact q3 h2
      · rw [decide_eq_false (show ¬ (V.int (xs.length : Int) = V.int 2) from fun z => h2 (by have := V.int.inj z; omega))]
        exact q4 h2
    · have no : ∀ a xs, v = .ref a → H a ≠ some (.tup xs) := fun a xs e1 e2 => z ⟨a, xs, e1, e2⟩
      rcases ov.tuple (K := K) with ⟨a, xs, rfl, e⟩ | ⟨t, ty, hk⟩
      · exact absurd e (no a xs rfl)
      · exact ⟨_, rfl, _, _, _, _, false, rfl, .ty "tuple", ty, hk, false, rfl, q2 no⟩
theorem ok_mhx {f : Addr} {fd : FuncData} (F : Fun K "__contains__" "Machine.__contains__" sMHas f fd) (hW : Has P w K mg base CX0 1 "is_word" ["value"] (spIsWord K)) : FnOk P w K mg base CX0 2 f fd ["self", "x"] (spMHx C) := by
  refine F.ok (N := ["self", "x"]) ⟨rfl, rfl, rfl, by decide +kernel, rfl, by decide +kernel, by decide +kernel⟩ (fun vs H Q E h => ?_) (fun cdv A outer s H vs Q E hr h => ?_)
  · obtain ⟨o, z, rfl, _⟩ := h
    rfl
  · obtain ⟨o, z, rfl, e, q⟩ := h
    refine ⟨_, pss_cons (ps_if (PW.pt (pw_or (pt_not (pt_val (pe_has hW hr pass0 (pa_cons (pv 1) pa_nil)))) (pw_or1 (pt_not (pt_val pe_neverX))))) (pss_one (ps_ret pe_bl)) pss_nil) pss_never, ?_⟩
    refine ⟨_, rfl, _, rfl, .inl ⟨z, rfl, _, rfl, ?_⟩⟩
    rw [e]
    exact q
theorem ok_wbx {f : Addr} {fd : FuncData} (F : Fun K "is_word_blur" "is_word_blur" sWB f fd) (hP : Has P w K mg base CX0 1 "is_pair" ["value"] (spPairV K)) (hH : PySem.W.findIn K (.ref C) "__contains__" = some (some (.ref gH))) (fH : PySem.W.isFn K (.ref gH) = true) (H2 : FnR P w K mg base CX0 2 gH (fun vs H Q E => spMHx C (vs ++ []) H Q E)) :
    FnOk P w K mg base CX0 3 f fd ["one", "other", "value"] (spWBx C) := by
  refine F.ok (N := ["one", "other", "value"]) ⟨rfl, rfl, rfl, by decide +kernel, rfl, by decide +kernel, by decide +kernel⟩ (fun vs H Q E h => ?_) (fun cdv A outer s H vs Q E hr h => ?_)
  · obtain ⟨x, y, v, rfl, _⟩ := h
    rfl
  · obtain ⟨x, y, v, rfl, ⟨a, b, L, L', rfl, rfl, ma, mb⟩, ov, few, no, q⟩ := h
    have hr1 : Room 1 _ := hr.mono (by decide)
    refine ⟨_, pss_one (ps_ret (pe_and (pe_has hP hr1 pass0 (pa_cons (pv 2) pa_nil)) (pe_and (pe_cmpR op_eq (pe_ix ix_tup (pv 2) pe_int (fun _ _ => rfl)) pe_str (nomark _)) (pe_and (pe_cmpR (OWN.op_inO hH fH H2 hr) (pe_ix ix_tup (pv 2) pe_int (fun _ _ => rfl)) (pv 0) rfl) (pe_one pe_neverX))))), ?_⟩
    refine ⟨_, rfl, v, rfl, ov, fun c xs e1 e2 => ⟨few c xs e1 e2, fun l2 => ?_, fun _ => ⟨false, rfl, q⟩⟩, fun _ => ⟨false, rfl, q⟩⟩
    subst e1
    rcases no with ⟨_, n2⟩ | ⟨d, y, z, e, h, ne⟩ | ⟨d, z, e, h, wz⟩
    · exact absurd l2 (n2 c xs rfl e2)
    · cases e
      rw [e2] at h
      cases h
      refine ⟨true, rfl, _, rfl, c, _, 0, .str y, rfl, rfl, SqT.of e2, rfl, rfl, ?_⟩
      rw [decide_eq_false (fun z => ne (V.str.inj z))]
      exact ⟨false, rfl, q⟩
    · cases e
      rw [e2] at h
      cases h
      refine ⟨true, rfl, _, rfl, c, _, 0, .str "word", rfl, rfl, SqT.of e2, rfl, rfl, ?_⟩
      rw [decide_eq_true rfl]
      obtain ⟨dx, t1, e1, h1⟩ := ma
      exact ⟨true, rfl, _, rfl, c, _, 1, .str z, rfl, rfl, SqT.of e2, rfl, _, rfl, a, dx, _, rfl, h1, a, z, rfl, wz, false, rfl, false, rfl, q⟩
end
end WK
set_option Elab.async false
set_option linter.all false
set_option maxRecDepth 100000
set_option maxHeartbeats 8000000
namespace WK
open PySem L2 PyProof.Rows LCX K1 FV LamX NdefX
open TX (sg sigs)
open PySem.W (Frag kitOne)
abbrev s_pieces_blur : Stmt := top 75
abbrev s_pieces_clear : Stmt := top 76
abbrev s_is_pieces_clear : Stmt := top 77
abbrev s_is_path : Stmt := top 93
abbrev s_path_ends : Stmt := top 94
abbrev s_is_pieces_blur : Stmt := top 95
abbrev s_are_told : Stmt := top 78
abbrev s_least_pieces : Stmt := top 79
abbrev s_pieces_pair : Stmt := top 80
abbrev s_need_most : Stmt := top 81
/-- two that are refused -/
def Ref2 (C cM cO : Addr) (H : Hp) (x y : V) (E : XK) : Prop := (BadTwo C H x y ∧ ErrS cM H E) ∨ (FarTwo C H x y ∧ ErrS cO H E)
def spKi (C cM cO : Addr) : Sp := fun vs H _ E => ∃ x y, vs = [x, y] ∧ Ref2 C cM cO H x y E
def spKi3 (C cM cO : Addr) : Sp := fun vs H _ E => ∃ x y v, vs = [x, y, v] ∧ Ref2 C cM cO H x y E
section
variable {P : Program} {w : World} {K : PySem.W.Frag} {mg : Str → Option Value} {base : Heap} {cN cO cW cM cI C cD : Addr}
theorem ok_pieces_blur {f : Addr} {fd : FuncData} (F : Fun K "pieces_blur" "pieces_blur" s_pieces_blur f fd) (hT : Has P w K mg base (L2.CX P w) 3 "need_two" ["one", "other"] (spTwo C cM cO)) : FnOk P w K mg base (L2.CX P w) 4 f fd ["one", "other"] (spKi C cM cO) := by
  refine F.okX (N := ["one", "other"]) ⟨rfl, rfl, rfl, by decide +kernel, rfl, by decide +kernel, by decide +kernel⟩ (fun vs H Q E h => ?_) (fun cdv A outer s H vs Q E hr h => ?_)
  · obtain ⟨x, y, rfl, _⟩ := h
    rfl
  · obtain ⟨x, y, rfl, h⟩ := h
    refine ⟨_, pss_cons (ps_expr (pe_has (E := E) hT hr (passes_call (takes_of rfl rfl rfl rfl) (fun _ _ _ _ h => h)) (pa_cons (pv 0) (pa_cons (pv 1) pa_nil)))) pss_never, ?_⟩
    refine ⟨_, rfl, _, rfl, x, y, rfl, ?_⟩
    rcases h with h | h
    · exact .inl h
    · exact .inr (.inl h)
theorem ok_pieces_clear {f : Addr} {fd : FuncData} (F : Fun K "pieces_clear" "pieces_clear" s_pieces_clear f fd) (hT : Has P w K mg base (L2.CX P w) 3 "need_two" ["one", "other"] (spTwo C cM cO)) : FnOk P w K mg base (L2.CX P w) 4 f fd ["one", "other"] (spKi C cM cO) := by
  refine F.okX (N := ["one", "other"]) ⟨rfl, rfl, rfl, by decide +kernel, rfl, by decide +kernel, by decide +kernel⟩ (fun vs H Q E h => ?_) (fun cdv A outer s H vs Q E hr h => ?_)
  · obtain ⟨x, y, rfl, _⟩ := h
    rfl
  · obtain ⟨x, y, rfl, h⟩ := h
    refine ⟨_, pss_cons (ps_expr (pe_has (E := E) hT hr (passes_call (takes_of rfl rfl rfl rfl) (fun _ _ _ _ h => h)) (pa_cons (pv 0) (pa_cons (pv 1) pa_nil)))) pss_never, ?_⟩
    refine ⟨_, rfl, _, rfl, x, y, rfl, ?_⟩
    rcases h with h | h
    · exact .inl h
    · exact .inr (.inl h)
theorem ok_is_pieces_clear {f : Addr} {fd : FuncData} (F : Fun K "is_pieces_clear" "is_pieces_clear" s_is_pieces_clear f fd) (hT : Has P w K mg base (L2.CX P w) 3 "need_two" ["one", "other"] (spTwo C cM cO)) : FnOk P w K mg base (L2.CX P w) 4 f fd ["one", "other", "value"] (spKi3 C cM cO) := by
  refine F.okX (N := ["one", "other", "value"]) ⟨rfl, rfl, rfl, by decide +kernel, rfl, by decide +kernel, by decide +kernel⟩ (fun vs H Q E h => ?_) (fun cdv A outer s H vs Q E hr h => ?_)
  · obtain ⟨x, y, v, rfl, _⟩ := h
    rfl
  · obtain ⟨x, y, v, rfl, h⟩ := h
    refine ⟨_, pss_cons (ps_expr (pe_has (E := E) hT hr (passes_call (takes_of rfl rfl rfl rfl) (fun _ _ _ _ h => h)) (pa_cons (pv 0) (pa_cons (pv 1) pa_nil)))) pss_never, ?_⟩
    refine ⟨_, rfl, _, rfl, x, y, rfl, ?_⟩
    rcases h with h | h
    · exact .inl h
    · exact .inr (.inl h)
theorem ok_is_path {f : Addr} {fd : FuncData} (F : Fun K "is_path" "is_path" s_is_path f fd) (hT : Has P w K mg base (L2.CX P w) 3 "need_two" ["one", "other"] (spTwo C cM cO)) : FnOk P w K mg base (L2.CX P w) 4 f fd ["one", "other", "value"] (spKi3 C cM cO) := by
  refine F.okX (N := ["one", "other", "value"]) ⟨rfl, rfl, rfl, by decide +kernel, rfl, by decide +kernel, by decide +kernel⟩ (fun vs H Q E h => ?_) (fun cdv A outer s H vs Q E hr h => ?_)
  · obtain ⟨x, y, v, rfl, _⟩ := h
    rfl
  · obtain ⟨x, y, v, rfl, h⟩ := h
    refine ⟨_, pss_cons (ps_expr (pe_has (E := E) hT hr (passes_call (takes_of rfl rfl rfl rfl) (fun _ _ _ _ h => h)) (pa_cons (pv 0) (pa_cons (pv 1) pa_nil)))) pss_never, ?_⟩
    refine ⟨_, rfl, _, rfl, x, y, rfl, ?_⟩
    rcases h with h | h
    · exact .inl h
    · exact .inr (.inl h)
theorem ok_are_told {f : Addr} {fd : FuncData} (F : Fun K "are_told_by_pieces" "are_told_by_pieces" s_are_told f fd) (hC : Has P w K mg base (L2.CX P w) 4 "pieces_clear" ["one", "other"] (spKi C cM cO)) : FnOk P w K mg base (L2.CX P w) 5 f fd ["one", "other"] (spKi C cM cO) := by
  refine F.okX (N := ["one", "other"]) ⟨rfl, rfl, rfl, by decide +kernel, rfl, by decide +kernel, by decide +kernel⟩ (fun vs H Q E h => ?_) (fun cdv A outer s H vs Q E hr h => ?_)
  · obtain ⟨x, y, rfl, _⟩ := h
    rfl
  · obtain ⟨x, y, rfl, h⟩ := h
    refine ⟨_, pss_one (ps_ret (pe_cmpR op_notN (pe_has (E := E) hC hr (passes_call (takes_of rfl rfl rfl rfl) (fun _ _ _ _ h => h)) (pa_cons (pv 0) (pa_cons (pv 1) pa_nil))) pe_non (nomark _))), ?_⟩
    exact ⟨_, rfl, _, rfl, x, y, rfl, h⟩
end
end WK
set_option Elab.async false
set_option linter.all false
set_option maxRecDepth 100000
set_option maxHeartbeats 8000000
namespace WK
open PySem L2 PyProof.Rows LCX K1 FV LamX NdefX
open TX (sg sigs)
open PySem.W (Frag kitOne)
/-- two machines of these letters -/
def MacTwo (C : Addr) (H : Hp) (x y : V) (L : W) : Prop := ∃ a b, x = .ref a ∧ y = .ref b ∧ MacL C H a L ∧ MacL C H b L
def mostOf (L : W) : Int := if L.length = 3 then 2 else 3
def spNM (C cM cO cN : Addr) : Sp := fun vs H _ E => ∃ x y v, vs = [x, y, v] ∧ (Ref2 C cM cO H x y E ∨ ∃ L, L.length ≤ 26 ∧ MacTwo C H x y L ∧ (∀ H', Same H H' → OV H' v) ∧ numB v 0 (mostOf L) = false ∧ ErrN cN v H E)
theorem ErrN.to_ {cN : Addr} {v : V} {H H' : Hp} {E : XK} (h : ErrN cN v H E) (s : Same H H') : ErrN cN v H' E := fun d H2 n s2 e => h d H2 (s.free n) (s.trans s2) e
section
variable {P : Program} {w : World} {K : PySem.W.Frag} {mg : Str → Option Value} {base : Heap} {cN cO cW cM cI C cD : Addr}
theorem ok_nmost {f : Addr} {fd : FuncData} (F : Fun K "_need_most" "_need_most" s_need_most f fd) (T : TN mg) (M : TMc K mg C cD cI) (pl : PropL P w K mg base C) (t3 : ∃ t, mg "_MAX_OF_THREE" = some (.int 2 t)) (mp : ∃ t, mg "MAX_PIECES" = some (.int 3 t)) (hT : Has P w K mg base (L2.CX P w) 3 "need_two" ["one", "other"] (spTwo C cM cO)) (hN : Has P w K mg base (L2.CX P w) 3 "need_number" ["value", "least", "most"] (spNN cN)) : FnOk P w K mg base (L2.CX P w) 4 f fd ["one", "other", "most"] (spNM C cM cO cN) := by
  obtain ⟨pp, gg, dd, k1, G1, b1⟩ := pl.ex
  obtain ⟨tt, g3⟩ := t3
  obtain ⟨tm, gm⟩ := mp
  refine F.okX (N := ["one", "other", "most"]) ⟨rfl, rfl, rfl, by decide +kernel, rfl, by decide +kernel, by decide +kernel⟩ (fun vs H Q E h => ?_) (fun cdv A outer s H vs Q E hr h => ?_)
  · obtain ⟨x, y, v, rfl, _⟩ := h
    rfl
  · obtain ⟨x, y, v, rfl, h⟩ := h
    have hr2 : Room 2 _ := hr.mono (by decide)
    refine ⟨_, pss_cons (ps_expr (pe_has (E := E) hT hr (passes_call (takes_of rfl rfl rfl rfl) (fun _ _ _ _ h => h)) (pa_cons (pv 0) (pa_cons (pv 1) pa_nil)))) (pss_one (ps_expr (pe_has (E := E) hN hr (passes_call (takes_of rfl rfl rfl rfl) (fun _ _ _ _ h => h)) (pa_cons (pv 2) (pa_cons pe_int (pa_cons (pe_ifExp (pt_cmpR op_eq (pe_callB call_len_str (by rfl) T.len PySem.boot_len (pa_cons (pe_prop (E := E0) (pv 0) M.cl k1 G1 hr2 b1 .nil pass0 rfl) pa_nil)) pe_int (nomark _)) (pe_glob rfl g3 (show RelV (.int 2) (.int 2 tt) from ⟨tt, rfl⟩)) (pe_glob rfl gm (show RelV (.int 3) (.int 3 tm) from ⟨tm, rfl⟩))) pa_nil)))))), ?_⟩
    refine ⟨_, rfl, _, rfl, x, y, rfl, ?_⟩
    rcases h with (h | h) | ⟨L, few, ⟨a, b, rfl, rfl, ma, mb⟩, ov, nb, e⟩
    · exact .inl h
    · exact .inr (.inl h)
    · refine .inr (.inr ⟨a, b, L, rfl, rfl, ma, mb, fun H1 s1 => ?_⟩)
      obtain ⟨dx, t, e1, h1⟩ := ma.same s1
      refine ⟨_, rfl, _, rfl, a, dx, _, rfl, h1, a, dx, _, _, rfl, h1, fld_L, _, rfl, by rw [tx_len, sizeLine_eq]; omega, ?_⟩
      rw [tx_len]
      by_cases z : L.length = 3
      · refine ⟨rfl, true, congrArg V.bl (decide_eq_true (show V.int ((L.length : Nat) : Int) = .int 3 by rw [z] <;> rfl)), v, 0, 2, rfl, ov _ s1, .inr ⟨?_, ErrN.to_ e s1⟩⟩
        rw [show mostOf L = 2 from if_pos z] at nb
        exact nb
      · refine ⟨rfl, false, congrArg V.bl (decide_eq_false (show ¬ V.int ((L.length : Nat) : Int) = .int 3 from fun y => z (by have := V.int.inj y; omega))), v, 0, 3, rfl, ov _ s1, .inr ⟨?_, ErrN.to_ e s1⟩⟩
        rw [show mostOf L = 3 from if_neg z] at nb
        exact nb
theorem ok_least_pieces {f : Addr} {fd : FuncData} (F : Fun K "least_pieces" "least_pieces" s_least_pieces f fd) (hM : Has P w K mg base (L2.CX P w) 4 "_need_most" ["one", "other", "most"] (spNM C cM cO cN)) : FnOk P w K mg base (L2.CX P w) 5 f fd ["one", "other", "most"] (spNM C cM cO cN) := by
  refine F.okX (N := ["one", "other", "most"]) ⟨rfl, rfl, rfl, by decide +kernel, rfl, by decide +kernel, by decide +kernel⟩ (fun vs H Q E h => ?_) (fun cdv A outer s H vs Q E hr h => ?_)
  · obtain ⟨x, y, v, rfl, _⟩ := h
    rfl
  · obtain ⟨x, y, v, rfl, h⟩ := h
    refine ⟨_, pss_cons (ps_expr (pe_has (E := E) hM hr (passes_call (takes_of rfl rfl rfl rfl) (fun _ _ _ _ h => h)) (pa_cons (pv 0) (pa_cons (pv 1) (pa_cons (pv 2) pa_nil))))) pss_never, ?_⟩
    exact ⟨_, rfl, _, rfl, _, rfl, x, y, v, rfl, h⟩
theorem ok_pieces_pair {f : Addr} {fd : FuncData} (F : Fun K "pieces_pair" "pieces_pair" s_pieces_pair f fd) (hM : Has P w K mg base (L2.CX P w) 4 "_need_most" ["one", "other", "most"] (spNM C cM cO cN)) : FnOk P w K mg base (L2.CX P w) 5 f fd ["one", "other", "most"] (spNM C cM cO cN) := by
  refine F.okX (N := ["one", "other", "most"]) ⟨rfl, rfl, rfl, by decide +kernel, rfl, by decide +kernel, by decide +kernel⟩ (fun vs H Q E h => ?_) (fun cdv A outer s H vs Q E hr h => ?_)
  · obtain ⟨x, y, v, rfl, _⟩ := h
    rfl
  · obtain ⟨x, y, v, rfl, h⟩ := h
    refine ⟨_, pss_cons (ps_expr (pe_has (E := E) hM hr (passes_call (takes_of rfl rfl rfl rfl) (fun _ _ _ _ h => h)) (pa_cons (pv 0) (pa_cons (pv 1) (pa_cons (pv 2) pa_nil))))) pss_never, ?_⟩
    exact ⟨_, rfl, _, rfl, _, rfl, x, y, v, rfl, h⟩
end
end WK
set_option Elab.async false
set_option linter.all false
set_option maxRecDepth 100000
set_option maxHeartbeats 8000000
namespace WK
open PySem L2 PyProof.Rows LCX K1 FV LamX NdefX
open TX (sg sigs)
open PySem.W (Frag kitOne)
abbrev s_after_step : Stmt := top 101
abbrev s_pairs_on : Stmt := top 100
abbrev s_pieces_words : Stmt := top 96
/-- no path: no tuple, or one whose first step is a text -/
def BadPath (H : Hp) (v : V) : Prop := OV H v ∧ ∀ a xs, v = .ref a → H a = some (.tup xs) → xs.length ≤ 60 ∧ ∃ y r, xs = .str y :: r
theorem BadPath.same {H H' : Hp} {v : V} (h : BadPath H v) (s : Same H H') : BadPath H' v := by
  refine ⟨h.1.same s, fun a xs e q => ?_⟩
  cases h.1 with
  | @tup b ys hb =>
    cases e
    rw [s _ _ hb] at q
    cases q
    exact h.2 _ _ rfl hb
  | lst hb =>
    cases e
    rw [s _ _ hb] at q
    cases q
  | dic hb =>
    cases e
    rw [s _ _ hb] at q
    cases q
  | _ => cases e
def spAS : Sp := fun vs H Q _ => ∃ x y p z, vs = [x, y, p, .str z] ∧ Q .non H
def spPO : Sp := fun vs H Q _ => ∃ x y v, vs = [x, y, v] ∧ BadPath H v ∧ ∀ H', Same H H' → Q .non H'
/-- no blur for the pieces -/
inductive BadPB (H : Hp) : V → Prop
  | non : BadPB H .non
  | int (i : Int) : BadPB H (.int i)
  | str : BadPB H (.str "word")
  | emp {a : Addr} (h : H a = some (.tup [])) : BadPB H (.ref a)
  | blk {a : Addr} (h : H a = some (.tup [.str "blocks", .non])) : BadPB H (.ref a)
  | wrd {a : Addr} (h : H a = some (.tup [.str "word", .str "A"])) : BadPB H (.ref a)
  | lst {a : Addr} (h : H a = some (.lst [.str "word", .str ""])) : BadPB H (.ref a)
  | dic {a : Addr} {xs : List (Key × V)} (h : H a = some (.dK xs)) : BadPB H (.ref a)
theorem BadPB.to {H H' : Hp} {v : V} (h : BadPB H v) (k : ∀ a o, v = .ref a → H a = some o → H' a = some o) : BadPB H' v := by
  cases h with
  | non => exact .non
  | int i => exact .int i
  | str => exact .str
  | emp h => exact .emp (k _ _ rfl h)
  | blk h => exact .blk (k _ _ rfl h)
  | wrd h => exact .wrd (k _ _ rfl h)
  | lst h => exact .lst (k _ _ rfl h)
  | dic h => exact .dic (k _ _ rfl h)
theorem BadPB.same {H H' : Hp} {v : V} (h : BadPB H v) (s : Same H H') : BadPB H' v := h.to fun _ _ _ e => s _ _ e
theorem BadPB.ov {H : Hp} {v : V} (h : BadPB H v) : OV H v := by
  cases h with
  | non => exact .non
  | int i => exact .int i
  | str => exact .str _
  | emp h => exact .tup h
  | blk h => exact .tup h
  | wrd h => exact .tup h
  | lst h => exact .lst h
  | dic h => exact .dic h
/-- a tuple it may be -/
theorem BadPB.tup {H : Hp} {v : V} (h : BadPB H v) : ∀ a xs, v = .ref a → H a = some (.tup xs) → xs = [] ∨ xs = [.str "blocks", .non] ∨ ∃ z : Str, wordB z = false ∧ xs = [.str "word", .str z] := fun a xs e q => by
  cases h with
  | emp h =>
    cases e
    rw [h] at q
    cases q
    exact .inl rfl
  | blk h =>
    cases e
    rw [h] at q
    cases q
    exact .inr (.inl rfl)
  | wrd h =>
    cases e
    rw [h] at q
    cases q
    exact .inr (.inr ⟨"A", by decide +kernel, rfl⟩)
  | lst h =>
    cases e
    rw [h] at q
    cases q
  | dic h =>
    cases e
    rw [h] at q
    cases q
  | _ => cases e
theorem BadPB.few {H : Hp} {v : V} (h : BadPB H v) : ∀ a xs, v = .ref a → H a = some (.tup xs) → xs.length ≤ 1000 := fun a xs e q => by
  rcases h.tup a xs e q with rfl | rfl | ⟨_, _, rfl⟩
  · exact Nat.zero_le _
  · show 2 ≤ 1000
    decide
  · show 2 ≤ 1000
    decide
theorem BadPB.no {H : Hp} {v : V} (h : BadPB H v) : NoWB H v := by
  by_cases z : ∃ a xs, v = .ref a ∧ H a = some (.tup xs)
  · obtain ⟨a, xs, rfl, e⟩ := z
    rcases h.tup a xs rfl e with rfl | rfl | ⟨z, n, rfl⟩
    · exact .inl ⟨h.ov, fun b ys e1 e2 => by cases e1; rw [e] at e2; cases e2; decide⟩
    · exact .inr (.inl ⟨a, "blocks", .non, rfl, e, by decide⟩)
    · exact .inr (.inr ⟨a, z, rfl, e, n⟩)
  · exact .inl ⟨h.ov, fun a xs e1 e2 => absurd ⟨a, xs, e1, e2⟩ z⟩
/-- a machine of which each word leads to an end -/
structure Mac0 (C : Addr) (H : Hp) (o : Addr) (L : W) (tb : List (List Int)) (es : List Int) (n : Int) : Prop where
  at_ : MacAt C H o L tb es
  ok : TabOk tb L.length n
  one : 1 ≤ n
  few : n ≤ 1000
  let_ : Let L
  zer : (0 : Int) ∈ es
theorem Mac0.same {C : Addr} {H H' : Hp} {o : Addr} {L : W} {tb : List (List Int)} {es : List Int} {n : Int} (h : Mac0 C H o L tb es n) (s : Same H H') : Mac0 C H' o L tb es n := ⟨h.at_.same s, h.ok, h.one, h.few, h.let_, h.zer⟩
def spWB0 (C : Addr) : Sp := fun vs H Q _ => ∃ (o a : Addr) (L : W) (tb : List (List Int)) (es : List Int) (n : Int), vs = [.ref o, .ref o, .ref a] ∧ Mac0 C H o L tb es n ∧ H a = some (.tup [.str "word", .str ""]) ∧ ∀ H', Same H H' → Q (.bl true) H'
def spPB (C cM cO : Addr) : Sp := fun vs H Q E => ∃ x y v, vs = [x, y, v] ∧ (Ref2 C cM cO H x y E ∨ (∃ L, MacTwo C H x y L ∧ BadPB H v ∧ ∀ H', Same H H' → Q (.bl false) H') ∨ (∃ (o : Addr) (L : W) (tb : List (List Int)) (es : List Int) (n : Int) (a : Addr), x = .ref o ∧ y = .ref o ∧ v = .ref a ∧ Mac0 C H o L tb es n ∧ H a = some (.tup [.str "word", .str ""]) ∧ ∀ H', Same H H' → Q (.bl true) H'))
section
variable {P : Program} {w : World} {K : PySem.W.Frag} {mg : Str → Option Value} {base : Heap} {cN cO cW cM cI C cD : Addr}
theorem ok_after {f : Addr} {fd : FuncData} (F : Fun K "_after_step" "_after_step" s_after_step f fd) (T : TN mg) : FnOk P w K mg base CX0 1 f fd ["one", "other", "pair", "step"] spAS := by
  refine F.ok (N := ["one", "other", "pair", "step", "column", "after"]) ⟨rfl, rfl, rfl, by decide +kernel, rfl, by decide +kernel, by decide +kernel⟩ (fun vs H Q E h => ?_) (fun cdv A outer s H vs Q E hr h => ?_)
  · obtain ⟨x, y, p, z, rfl, _⟩ := h
    rfl
  · obtain ⟨x, y, p, z, rfl, q⟩ := h
    refine ⟨_, pss_cons (ps_if (PW.pt (pw_or (pt_not (pt_val (pe_callB call_isi (by rfl) T.isi (by decide +kernel) (pa_cons (pv 3) (pa_cons (pe_ty "tuple" T.tuple (by decide +kernel)) pa_nil))))) (pw_or1 (pt_cmpR op_eq pe_neverX pe_neverX (nomark _))))) (pss_one (ps_ret pe_non)) pss_nil) pss_never, ?_⟩
    exact ⟨_, rfl, _, _, _, _, false, rfl, .ty "tuple", .base (.str z), kit_ty (by decide +kernel), false, rfl, q⟩
theorem ok_pairs_on {f : Addr} {fd : FuncData} (F : Fun K "_pairs_on" "_pairs_on" s_pairs_on f fd) (T : TN mg) (mx : ∃ t, mg "MAX_STEPS" = some (.int 60 t)) (hA : Has P w K mg base CX0 1 "_after_step" ["one", "other", "pair", "step"] spAS) : FnOk P w K mg base CX0 2 f fd ["one", "other", "value"] spPO := by
  obtain ⟨tm, gm⟩ := mx
  have sc : FnScope ["one", "other", "value", "pairs", "step", "after"] ["one", "other", "value"] (defScope s_pairs_on) := ⟨rfl, rfl, rfl, by decide +kernel, rfl, by decide +kernel, by decide +kernel⟩
  refine F.ok sc (fun vs H Q E h => ?_) (fun cdv A outer s H vs Q E hr h => ?_)
  · obtain ⟨x, y, v, rfl, _⟩ := h
    rfl
  · obtain ⟨x, y, v, rfl, bad, q⟩ := h
    refine ⟨_, pss_cons (ps_if (PW.pt (pw_or (pt_not (pt_val (pe_callB call_isi (by rfl) T.isi (by decide +kernel) (pa_cons (pv 2) (pa_cons (pe_ty "tuple" T.tuple (by decide +kernel)) pa_nil))))) (pw_or1 (pt_cmpR op_gt (pe_callB call_len_seq (by rfl) T.len PySem.boot_len (pa_cons (pv 2) pa_nil)) (pe_glob rfl gm (show RelV (.int 60) (.int 60 tm) from ⟨tm, rfl⟩)) (nomark _))))) (pss_one (ps_ret pe_non)) pss_nil)
      (pss_cons (ps_set (i := 3) sc.nd rfl (Or.inl rfl) (pe_lst (pa_cons (pe_tup (pa_cons pe_int (pa_cons pe_int pa_nil))) pa_nil)))
      (pss_cons (ps_for PassesOwn.never rfl (pi_tup (pv 2)) (pg_name (i := 4) sc.nd rfl (Or.inl rfl)) (pss_cons (ps_set (i := 5) sc.nd rfl (Or.inl rfl) (pe_has hA hr pass0 (pa_cons (pv 0) (pa_cons (pv 1) (pa_cons (pe_ix ix_list (pv 3) (pe_un un_neg pe_int) (fun _ _ => rfl)) (pa_cons (pv 4) pa_nil))))))
        (pss_cons (ps_if (pt_cmpR op_isN (pv 5) pe_non (nomark _)) (pss_one (ps_ret pe_non)) pss_nil) pss_never))) pss_never)), ?_⟩
    by_cases z : ∃ a xs, v = .ref a ∧ H a = some (.tup xs)
    · obtain ⟨a, xs, rfl, e⟩ := z
      obtain ⟨few, y1, r, rfl⟩ := bad.2 a xs rfl e
      refine ⟨_, rfl, _, _, _, _, true, rfl, .ty "tuple", .base (.tup e), kit_ty (by decide +kernel), true, rfl, ?_⟩
      refine ⟨_, rfl, a, _, rfl, .inr (SqT.of e), _, _, rfl, rfl, _, rfl, ?_⟩
      have l60 : ((V.str y1 :: r).length : Int) ≤ 60 := by omega
      rw [decide_eq_false (Int.not_lt.mpr l60)]
      refine ⟨by show 2 ≤ sizeLine; decide, fun t ht => ⟨by show 1 ≤ sizeLine; decide, fun l hl => ?_⟩⟩
      have s1 : Same H (upd (upd H t (.tup [.int 0, .int 0])) l (.lst [.ref t])) := same_two (same_upd ht) hl
      have hl1 : (upd (upd H t (.tup [.int 0, .int 0])) l (.lst [.ref t])) l = some (.lst [.ref t]) := upd_same
      generalize upd (upd H t (.tup [.int 0, .int 0])) l (.lst [.ref t]) = H1 at s1 hl1 ⊢
      refine ⟨_, rfl, a, rfl, ⟨_, SqT.of (s1 _ _ e)⟩, ?_⟩
      refine for_tup (xs := .str y1 :: r) (fun i σ G => i = 0 ∧ G = H1 ∧ ∃ b d, σ = [some x, some y, some (.ref a), some (.ref l), b, d]) ⟨rfl, rfl, _, _, rfl⟩ (fun i _ G hi h => by rw [h.2.1]; exact SqT.of (s1 _ _ e)) ?_ ?_
      · rintro i z σ G hz ⟨rfl, rfl, b, d, rfl⟩
        obtain rfl : V.str y1 = z := Option.some.inj hz
        exact ⟨_, rfl, _, rfl, _, rfl, 1, rfl, l, [.ref t], -1, .ref t, rfl, rfl, SqL.of hl1, rfl, _, rfl, _, _, _, y1, rfl, _, rfl, rfl, _, rfl, q _ s1⟩
      · rintro σ G ⟨z, _⟩
        exact absurd z (Nat.succ_ne_zero _)
    · have no : ∀ a xs, v = .ref a → H a ≠ some (.tup xs) := fun a xs e1 e2 => z ⟨a, xs, e1, e2⟩
      rcases bad.1.tuple (K := K) with ⟨a, xs, rfl, e⟩ | ⟨t, ty, hk⟩
      · exact absurd e (no a xs rfl)
      · exact ⟨_, rfl, _, _, _, _, false, rfl, .ty "tuple", ty, hk, false, rfl, q H (Same.refl H)⟩
theorem ok_pblur {f : Addr} {fd : FuncData} (F : Fun K "is_pieces_blur" "is_pieces_blur" s_is_pieces_blur f fd) (hT : Has P w K mg base (L2.CX P w) 3 "need_two" ["one", "other"] (spTwo C cM cO)) (hP : Has P w K mg base CX0 1 "is_pair" ["value"] (spPairV K)) (hW : Has P w K mg base CX0 3 "is_word_blur" ["one", "other", "value"] (spWBx C)) (hW0 : Has P w K mg base CX0 3 "is_word_blur" ["one", "other", "value"] (spWB0 C)) (hO : Has P w K mg base CX0 2 "_pairs_on" ["one", "other", "value"] spPO) : FnOk P w K mg base (L2.CX P w) 4 f fd ["one", "other", "value"] (spPB C cM cO) := by
  have sc : FnScope ["one", "other", "value", "pairs"] ["one", "other", "value"] (defScope s_is_pieces_blur) := ⟨rfl, rfl, rfl, by decide +kernel, rfl, by decide +kernel, by decide +kernel⟩
  refine F.okX sc (fun vs H Q E h => ?_) (fun cdv A outer s H vs Q E hr h => ?_)
  · obtain ⟨x, y, v, rfl, _⟩ := h
    rfl
  · obtain ⟨x, y, v, rfl, h⟩ := h
    have hr1 : Room 1 _ := hr.mono (by decide)
    have hr2 : Room 2 _ := hr.mono (by decide)
    rcases h with h | ⟨L, mt, bad, q⟩ | ⟨o, L, tb, es, n, a, rfl, rfl, rfl, m0, ha, q⟩
    · refine ⟨_, pss_cons (ps_expr (pe_has (E := E) hT hr (passes_call (takes_of rfl rfl rfl rfl) (fun _ _ _ _ h => h)) (pa_cons (pv 0) (pa_cons (pv 1) pa_nil)))) pss_never, ?_⟩
      refine ⟨_, rfl, _, rfl, x, y, rfl, ?_⟩
      rcases h with h | h
      · exact .inl h
      · exact .inr (.inl h)
    · refine ⟨_, pss_cons (ps_expr (pe_has (E := E) hT hr (passes_call (takes_of rfl rfl rfl rfl) (fun _ _ _ _ h => h)) (pa_cons (pv 0) (pa_cons (pv 1) pa_nil))))
        (pss_cons (ps_if (pt_val (pe_has hW hr pass0 (pa_cons (pv 0) (pa_cons (pv 1) (pa_cons (pv 2) pa_nil))))) (pss_one (ps_ret pe_bl)) pss_nil)
        (pss_cons (ps_if (PW.pt (pw_or (pt_not (pt_val (pe_has hP hr1 pass0 (pa_cons (pv 2) pa_nil)))) (pw_or1 (pt_cmpR op_ne (pe_ix ix_tup (pv 2) pe_int (fun _ _ => rfl)) pe_str (nomark _))))) (pss_one (ps_ret pe_bl)) pss_nil)
        (pss_cons (ps_set (i := 3) sc.nd rfl (Or.inl rfl) (pe_has hO hr2 pass0 (pa_cons (pv 0) (pa_cons (pv 1) (pa_cons (pe_ix ix_tup (pv 2) pe_int (fun _ _ => rfl)) pa_nil)))))
        (pss_one (ps_ret (pe_and (pe_cmpR op_notN (pv 3) pe_non (nomark _)) (pe_and pe_neverX (pe_one pe_neverX)))))))), ?_⟩
      obtain ⟨i, j, rfl, rfl, mi, mj⟩ := mt
      refine ⟨_, rfl, _, rfl, _, _, rfl, .inr (.inr ⟨i, j, L, rfl, rfl, mi, mj, fun H1 s1 => ?_⟩)⟩
      have bad1 := bad.same s1
      have m2 : Mac2 C H1 (.ref i) (.ref j) := ⟨i, j, L, L, rfl, rfl, mi.same s1, mj.same s1⟩
      refine ⟨_, rfl, _, rfl, _, rfl, _, _, _, rfl, m2, bad1.ov, bad1.few, bad1.no, false, rfl, ?_⟩
      refine ⟨_, rfl, _, rfl, bad1.ov, fun c xs e1 e2 => ⟨bad1.few c xs e1 e2, fun l2 => ?_, fun _ => ⟨false, rfl, q _ s1⟩⟩, fun _ => ⟨false, rfl, q _ s1⟩⟩
      refine ⟨true, rfl, ?_⟩
      subst e1
      rcases bad1.tup c xs rfl e2 with rfl | rfl | ⟨z, wz, rfl⟩
      · cases l2
      · refine ⟨_, rfl, c, _, 0, .str "blocks", rfl, rfl, SqT.of e2, rfl, rfl, _, rfl, ?_⟩
        rw [decide_eq_true rfl]
        refine ⟨_, rfl, _, rfl, _, rfl, c, _, 1, .non, rfl, rfl, SqT.of e2, rfl, _, _, _, rfl, ⟨.non, fun a xs e => nomatch e⟩, fun H2 s2 => ?_⟩
        exact ⟨_, rfl, rfl, false, rfl, q _ (s1.trans s2)⟩
      · refine ⟨_, rfl, c, _, 0, .str "word", rfl, rfl, SqT.of e2, rfl, rfl, _, rfl, ?_⟩
        rw [decide_eq_false (by decide)]
        exact q _ s1
    · refine ⟨_, pss_cons (ps_expr (pe_has (E := E) hT hr (passes_call (takes_of rfl rfl rfl rfl) (fun _ _ _ _ h => h)) (pa_cons (pv 0) (pa_cons (pv 1) pa_nil))))
        (pss_cons (ps_if (pt_val (pe_has hW0 hr pass0 (pa_cons (pv 0) (pa_cons (pv 1) (pa_cons (pv 2) pa_nil))))) (pss_one (ps_ret pe_bl)) pss_nil) pss_never), ?_⟩
      refine ⟨_, rfl, _, rfl, _, _, rfl, .inr (.inr ⟨o, o, L, rfl, rfl, m0.at_.letters, m0.at_.letters, fun H1 s1 => ?_⟩)⟩
      exact ⟨_, rfl, _, rfl, _, rfl, o, a, L, tb, es, n, rfl, m0.same s1, s1 _ _ ha, fun H2 s2 => ⟨true, rfl, q _ (s1.trans s2)⟩⟩
end
end WK
set_option Elab.async false
set_option linter.all false
set_option maxRecDepth 100000
set_option maxHeartbeats 8000000
namespace WK
open PySem L2 PyProof.Rows LCX K1 FV LamX NdefX
open TX (sg sigs)
open PySem.W (Frag kitOne)
abbrev sMLen : Stmt := inClass (top 49) 15
abbrev s_ring_letters : Stmt := top 97
abbrev s_block_ends : Stmt := top 98
def spMLen (C : Addr) : Sp := fun vs H Q _ => ∃ (o : Addr) (L : W) (tb : List (List Int)) (es : List Int), vs = [.ref o] ∧ MacAt C H o L tb es ∧ Q (.int (tb.length : Int)) H
def spMH0 (C : Addr) : Sp := fun vs H Q _ => ∃ (o : Addr) (L : W) (tb : List (List Int)) (es : List Int) (n : Int), vs = [.ref o, .str ""] ∧ Mac0 C H o L tb es n ∧ ∀ H', Same H H' → Q (.bl true) H'
/-- no letters that this machine takes -/
def BadLs (K : Frag) (L : W) (H : Hp) (v : V) : Prop := NoText K H v ∨ (∃ x : Str, v = .str x ∧ x.length ≤ 1000 ∧ letB x = false) ∨ (∃ u : W, v = .str (tx u) ∧ u.length < 64 ∧ letB (tx u) = true ∧ ovrB L u = false)
def One1 (C cM : Addr) (H : Hp) (x : V) (E : XK) : Prop := OV H x ∧ ErrS cM H E
/-- a number that is no state -/
def NoSt (C cN : Addr) (H : Hp) (x v : V) (E : XK) : Prop := ∃ (o : Addr) (L : W) (tb : List (List Int)) (es : List Int), x = .ref o ∧ MacAt C H o L tb es ∧ tb.length ≤ 1000 ∧ (∀ H', Same H H' → OV H' v) ∧ numB v 0 ((tb.length : Int) - 1) = false ∧ ErrN cN v H E
def spRL (C cM cN : Addr) : Sp := fun vs H _ E => ∃ x v, vs = [x, v] ∧ (One1 C cM H x E ∨ NoSt C cN H x v E)
def spBE (K : Frag) (C cM cN cO : Addr) : Sp := fun vs H _ E => ∃ x v l, vs = [x, v, l] ∧ (One1 C cM H x E ∨ NoSt C cN H x v E ∨ ∃ (o : Addr) (L : W) (tb : List (List Int)) (es : List Int), x = .ref o ∧ v = .int 0 ∧ MacAt C H o L tb es ∧ 1 ≤ tb.length ∧ tb.length ≤ 1000 ∧ (∀ H', Same H H' → BadLs K L H' l) ∧ ErrS cO H E)
section
variable {P : Program} {w : World} {K : PySem.W.Frag} {mg : Str → Option Value} {base : Heap} {cN cO cW cM cI C cD gH gL : Addr}
theorem scML : FnScope ["self"] ["self"] (defScope sMLen) := ⟨rfl, rfl, rfl, by decide +kernel, rfl, by decide +kernel, by decide +kernel⟩
theorem scMH : FnScope ["self", "x"] ["self", "x"] (defScope sMHas) := ⟨rfl, rfl, rfl, by decide +kernel, rfl, by decide +kernel, by decide +kernel⟩
theorem ok_mlen {f : Addr} {fd : FuncData} (F : Fun K "__len__" "Machine.__len__" sMLen f fd) (T : TN mg) (M : TMc K mg C cD cM) : FnOk P w K mg base CX0 1 f fd ["self"] (spMLen C) := by
  refine F.ok scML (fun vs H Q E h => ?_) (fun cdv A outer s H vs Q E hr h => ?_)
  · obtain ⟨o, _, _, _, rfl, _⟩ := h
    rfl
  · obtain ⟨o, L, tb, es, rfl, ⟨dx, t, e, ts, h1, h2, h3, h4⟩, q⟩ := h
    refine ⟨_, pss_one (ps_ret (pe_callB call_len_seq (by rfl) T.len PySem.boot_len (pa_cons (pe_fld (pv 0) rfl) pa_nil))), ?_⟩
    refine ⟨_, rfl, o, C, dx, _, _, rfl, h1, M.cl, M.nT, rfl, t, _, rfl, .inr (SqT.of h2), ?_⟩
    rw [List.length_map, h3.len]
    exact q
theorem ok_mh0 {f : Addr} {fd : FuncData} (F : Fun K "__contains__" "Machine.__contains__" sMHas f fd) (M : TMc K mg C cD cM) (hW : Has P w K mg base CX0 1 "is_word" ["value"] (spIsWord K)) (hO : Has P w K mg base CX0 1 "is_over" ["letters", "word"] spOvr) (hL : Has P w K mg base CX0 1 "led" ["letters", "table", "word", "start"] (spLed K)) :
    FnOk P w K mg base CX0 2 f fd ["self", "x"] (spMH0 C) := by
  refine F.ok scMH (fun vs H Q E h => ?_) (fun cdv A outer s H vs Q E hr h => ?_)
  · obtain ⟨o, _, _, _, _, rfl, _⟩ := h
    rfl
  · obtain ⟨o, L, tb, es, n, rfl, ⟨⟨dx, t, e, ts, h1, h2, h3, h4⟩, ok, n1, n2, lL, zer⟩, q⟩ := h
    refine ⟨_, pss_cons (ps_if (PW.pt (pw_or (pt_not (pt_val (pe_has hW hr pass0 (pa_cons (pv 1) pa_nil))))
        (pw_or1 (pt_not (pt_val (pe_has hO hr pass0 (pa_cons (pe_fld (pv 0) rfl) (pa_cons (pv 1) pa_nil)))))))) (pss_one (ps_ret pe_bl)) pss_nil)
      (pss_one (ps_ret (pe_cmpR op_in_seq (pe_has hL hr pass0 (pa_cons (pe_fld (pv 0) rfl) (pa_cons (pe_fld (pv 0) rfl) (pa_cons (pv 1) (pa_cons pe_int pa_nil))))) (pe_fld (pv 0) rfl) (by rfl)))), ?_⟩
    refine ⟨_, rfl, _, rfl, .inl ⟨"", rfl, _, rfl, ?_⟩⟩
    rw [show wordB "" = true by decide +kernel]
    refine ⟨_, rfl, o, C, dx, _, _, rfl, h1, M.cl, M.nL, rfl, _, rfl, L, [], rfl, by decide, fun H1 s1 => ⟨_, rfl, ?_⟩⟩
    have h1' := s1 _ _ h1
    rw [show ovrB L [] = true from rfl]
    refine ⟨_, rfl, o, C, dx, _, _, rfl, h1', M.cl, M.nL, rfl, _, rfl, o, C, dx, _, _, rfl, h1', M.cl, M.nT, rfl, _, rfl, t, L, [], tb, n, 0, rfl, ⟨ts, SqT.of (s1 _ _ h2), h3.to fun a _ r e => s1 _ _ e⟩, lL, ok, n2, Int.le_refl _, by omega, by show 0 ≤ 1000; decide, (fun c hc => absurd hc List.not_mem_nil), fun H2 s2 => ?_⟩
    have s12 := s1.trans s2
    refine ⟨_, rfl, o, C, dx, _, _, rfl, s12 _ _ h1, M.cl, M.nE, rfl, e, _, rfl, .inr (SqT.of (s12 _ _ h4)), rfl, ints_flat es, ?_⟩
    rw [if_neg (by decide), show ledL L tb [] 0 = 0 from rfl, int_in, decide_eq_true zer]
    exact q _ s12
theorem ok_wb0 {f : Addr} {fd : FuncData} (F : Fun K "is_word_blur" "is_word_blur" sWB f fd) (hP : Has P w K mg base CX0 1 "is_pair" ["value"] (spPairV K)) (hH : PySem.W.findIn K (.ref C) "__contains__" = some (some (.ref gH))) (fH : PySem.W.isFn K (.ref gH) = true) (H2 : FnR P w K mg base CX0 2 gH (fun vs H Q E => spMH0 C (vs ++ []) H Q E)) :
    FnOk P w K mg base CX0 3 f fd ["one", "other", "value"] (spWB0 C) := by
  refine F.ok (N := ["one", "other", "value"]) ⟨rfl, rfl, rfl, by decide +kernel, rfl, by decide +kernel, by decide +kernel⟩ (fun vs H Q E h => ?_) (fun cdv A outer s H vs Q E hr h => ?_)
  · obtain ⟨o, a, L, tb, es, n, rfl, _⟩ := h
    rfl
  · obtain ⟨o, a, L, tb, es, n, rfl, m0, ha, q⟩ := h
    have hr1 : Room 1 _ := hr.mono (by decide)
    refine ⟨_, pss_one (ps_ret (pe_and (pe_has hP hr1 pass0 (pa_cons (pv 2) pa_nil)) (pe_and (pe_cmpR op_eq (pe_ix ix_tup (pv 2) pe_int (fun _ _ => rfl)) pe_str (nomark _)) (pe_and (pe_cmpR (OWN.op_inO hH fH H2 hr) (pe_ix ix_tup (pv 2) pe_int (fun _ _ => rfl)) (pv 0) rfl) (pe_one (pe_cmpR (OWN.op_inO hH fH H2 hr) (pe_ix ix_tup (pv 2) pe_int (fun _ _ => rfl)) (pv 1) rfl)))))), ?_⟩
    refine ⟨_, rfl, _, rfl, .tup ha, fun c xs e1 e2 => ?_, fun no => absurd ha (no a _ rfl)⟩
    cases e1
    rw [ha] at e2
    cases e2
    refine ⟨by show 2 ≤ 1000; decide, fun _ => ?_, fun z => absurd rfl z⟩
    refine ⟨true, rfl, _, rfl, a, _, 0, .str "word", rfl, rfl, SqT.of ha, rfl, rfl, ?_⟩
    rw [decide_eq_true rfl]
    obtain ⟨dx, t, e, ts, h1, _⟩ := m0.at_.ex
    refine ⟨true, rfl, _, rfl, a, _, 1, .str "", rfl, rfl, SqT.of ha, rfl, _, rfl, o, dx, _, rfl, h1, o, L, tb, es, n, rfl, m0, fun H1 s1 => ⟨true, rfl, true, rfl, ?_⟩⟩
    refine ⟨_, rfl, a, _, 1, .str "", rfl, rfl, SqT.of (s1 _ _ ha), rfl, _, rfl, o, dx, _, rfl, s1 _ _ h1, o, L, tb, es, n, rfl, m0.same s1, fun H3 s3 => ⟨true, rfl, q _ (s1.trans s3)⟩⟩
theorem ok_rl {f : Addr} {fd : FuncData} (F : Fun K "ring_letters" "ring_letters" s_ring_letters f fd) (T : TN mg) (nAt : PySem.W.findIn K (.ref C) "__len__" = some (some (.ref gL))) (nFn : PySem.W.isFn K (.ref gL) = true) (nR : FnR P w K mg base CX0 1 gL (fun vs H Q E => spMLen C (vs ++ []) H Q E)) (hM : Has P w K mg base (L2.CX P w) 1 "need_machines" ["machines"] (spNMx K C cM)) (hN : Has P w K mg base (L2.CX P w) 3 "need_number" ["value", "least", "most"] (spNN cN)) :
    FnOk P w K mg base (L2.CX P w) 4 f fd ["machine", "state"] (spRL C cM cN) := by
  refine F.okX (N := ["machine", "state"]) ⟨rfl, rfl, rfl, by decide +kernel, rfl, by decide +kernel, by decide +kernel⟩ (fun vs H Q E h => ?_) (fun cdv A outer s H vs Q E hr h => ?_)
  · obtain ⟨x, v, rfl, _⟩ := h
    rfl
  · obtain ⟨x, v, rfl, h⟩ := h
    have hr1 : Room 1 _ := hr.mono (by decide)
    have hr2 : Room 2 _ := hr.mono (by decide)
    refine ⟨_, pss_cons (ps_expr (pe_has (E := E) hM hr1 (passes_call (takes_of rfl rfl rfl rfl) (fun _ _ _ _ h => h)) (pa_cons (pe_tup (pa_cons (pv 0) pa_nil)) pa_nil)))
      (pss_cons (ps_expr (pe_has (E := E) hN hr (passes_call (takes_of rfl rfl rfl rfl) (fun _ _ _ _ h => h)) (pa_cons (pv 1) (pa_cons pe_int (pa_cons (pe_op op_sub (pe_callB (OWN.call_lenO nAt nFn nR hr2) (by rfl) T.len PySem.boot_len (pa_cons (pv 0) pa_nil)) pe_int) pa_nil))))) pss_never), ?_⟩
    refine ⟨_, rfl, by show 1 ≤ sizeLine; decide, fun t ht => ?_⟩
    have s1 := same_upd (o := .tup [x]) ht
    rcases h with ⟨ov, er⟩ | ⟨o, L, tb, es, rfl, ma, few, ov, nb, er⟩
    · exact ⟨t, _, rfl, SqT.of upd_same, fun z hz => by rw [List.mem_singleton.mp hz]; exact .inl (ov.same s1), .inr ⟨⟨x, .head _, ov.same s1⟩, er _ s1⟩⟩
    · have all : ∀ z ∈ [V.ref o], ∃ c M, z = .ref c ∧ MacL C (upd H t (.tup [.ref o])) c M := fun z hz => by
        rw [List.mem_singleton.mp hz]
        exact ⟨o, L, rfl, ma.letters.same s1⟩
      refine ⟨t, _, rfl, SqT.of upd_same, fun z hz => .inr (all z hz), .inl ⟨all, ?_⟩⟩
      have m1 := ma.same s1
      obtain ⟨dx, t1, e1, ts, h1, _⟩ := m1.ex
      refine ⟨_, rfl, _, rfl, o, dx, _, rfl, h1, o, L, tb, es, rfl, m1, tb.length, rfl, by omega, ?_⟩
      exact ⟨_, _, rfl, rfl, v, 0, _, rfl, ov _ s1, .inr ⟨nb, er.to s1⟩⟩
theorem ok_be {f : Addr} {fd : FuncData} (F : Fun K "block_ends" "block_ends" s_block_ends f fd) (T : TN mg) (M : TMc K mg C cD cI) (pl : PropL P w K mg base C) (nAt : PySem.W.findIn K (.ref C) "__len__" = some (some (.ref gL))) (nFn : PySem.W.isFn K (.ref gL) = true) (nR : FnR P w K mg base CX0 1 gL (fun vs H Q E => spMLen C (vs ++ []) H Q E)) (hM : Has P w K mg base (L2.CX P w) 1 "need_machines" ["machines"] (spNMx K C cM)) (hN : Has P w K mg base (L2.CX P w) 3 "need_number" ["value", "least", "most"] (spNN cN)) (hL : HNL P w K mg base cO) (hO : HNO P w K mg base cO) :
    FnOk P w K mg base (L2.CX P w) 4 f fd ["machine", "state", "letters"] (spBE K C cM cN cO) := by
  obtain ⟨pp, gg, dd, k1, G1, b1⟩ := pl.ex
  refine F.okX (N := ["machine", "state", "letters"]) ⟨rfl, rfl, rfl, by decide +kernel, rfl, by decide +kernel, by decide +kernel⟩ (fun vs H Q E h => ?_) (fun cdv A outer s H vs Q E hr h => ?_)
  · obtain ⟨x, v, l, rfl, _⟩ := h
    rfl
  · obtain ⟨x, v, l, rfl, h⟩ := h
    have hr1 : Room 1 _ := hr.mono (by decide)
    have hr2 : Room 2 _ := hr.mono (by decide)
    refine ⟨_, pss_cons (ps_expr (pe_has (E := E) hM hr1 (passes_call (takes_of rfl rfl rfl rfl) (fun _ _ _ _ h => h)) (pa_cons (pe_tup (pa_cons (pv 0) pa_nil)) pa_nil)))
      (pss_cons (ps_expr (pe_has (E := E) hN hr (passes_call (takes_of rfl rfl rfl rfl) (fun _ _ _ _ h => h)) (pa_cons (pv 1) (pa_cons pe_int (pa_cons (pe_op op_sub (pe_callB (OWN.call_lenO nAt nFn nR hr2) (by rfl) T.len PySem.boot_len (pa_cons (pv 0) pa_nil)) pe_int) pa_nil)))))
      (pss_cons (ps_expr (pe_has (E := E) hL hr (passes_call (takes_of rfl rfl rfl rfl) (fun _ _ _ _ h => h)) (pa_cons (pv 2) pa_nil)))
      (pss_cons (ps_expr (pe_has (E := E) hO hr2 (passes_call (takes_of rfl rfl rfl rfl) (fun _ _ _ _ h => h)) (pa_cons (pe_prop (E := E0) (pv 0) M.cl k1 G1 hr2 b1 .nil pass0 rfl) (pa_cons (pv 2) pa_nil)))) pss_never))), ?_⟩
    refine ⟨_, rfl, by show 1 ≤ sizeLine; decide, fun t ht => ?_⟩
    have s1 := same_upd (o := .tup [x]) ht
    rcases h with ⟨ov, er⟩ | ⟨o, L, tb, es, rfl, ma, few, ov, nb, er⟩ | ⟨o, L, tb, es, rfl, rfl, ma, one, few, bad, er⟩
    · exact ⟨t, _, rfl, SqT.of upd_same, fun z hz => by rw [List.mem_singleton.mp hz]; exact .inl (ov.same s1), .inr ⟨⟨x, .head _, ov.same s1⟩, er _ s1⟩⟩
    · have all : ∀ z ∈ [V.ref o], ∃ c M, z = .ref c ∧ MacL C (upd H t (.tup [.ref o])) c M := fun z hz => by
        rw [List.mem_singleton.mp hz]
        exact ⟨o, L, rfl, ma.letters.same s1⟩
      refine ⟨t, _, rfl, SqT.of upd_same, fun z hz => .inr (all z hz), .inl ⟨all, ?_⟩⟩
      have m1 := ma.same s1
      obtain ⟨dx, t1, e1, ts, h1, _⟩ := m1.ex
      refine ⟨_, rfl, _, rfl, o, dx, _, rfl, h1, o, L, tb, es, rfl, m1, tb.length, rfl, by omega, ?_⟩
      exact ⟨_, _, rfl, rfl, v, 0, _, rfl, ov _ s1, .inr ⟨nb, er.to s1⟩⟩
    · have all : ∀ z ∈ [V.ref o], ∃ c M, z = .ref c ∧ MacL C (upd H t (.tup [.ref o])) c M := fun z hz => by
        rw [List.mem_singleton.mp hz]
        exact ⟨o, L, rfl, ma.letters.same s1⟩
      refine ⟨t, _, rfl, SqT.of upd_same, fun z hz => .inr (all z hz), .inl ⟨all, ?_⟩⟩
      have m1 := ma.same s1
      obtain ⟨dx, t1, e1, ts, h1, _⟩ := m1.ex
      refine ⟨_, rfl, _, rfl, o, dx, _, rfl, h1, o, L, tb, es, rfl, m1, tb.length, rfl, by omega, ?_⟩
      refine ⟨_, _, rfl, rfl, .int 0, 0, _, rfl, .int 0, .inl ⟨?_, ?_⟩⟩
      · show (decide ((0 : Int) ≤ 0) && decide ((0 : Int) ≤ (tb.length : Int) - 1)) = true
        rw [decide_eq_true (by omega), decide_eq_true (by omega)] <;> rfl
      · rcases bad _ s1 with nt | ⟨x, rfl, hx, lb⟩ | ⟨u, rfl, hu, lb, nb⟩
        · exact ⟨_, rfl, _, rfl, .inr ⟨nt, er _ s1⟩⟩
        · exact ⟨_, rfl, _, rfl, .inl ⟨x, rfl, hx, .inr ⟨lb, fun H2 s2 => er _ (s1.trans s2)⟩⟩⟩
        · refine ⟨_, rfl, _, rfl, .inl ⟨_, rfl, by rw [tx_len]; omega, .inl ⟨lb, fun H2 s2 => ?_⟩⟩⟩
          have m2 := m1.same s2
          obtain ⟨dx, t1, e1, ts, h1, _⟩ := m2.ex
          exact ⟨_, rfl, o, dx, _, rfl, h1, o, dx, _, _, rfl, h1, fld_L, _, rfl, L, u, rfl, hu, .inr ⟨nb, fun H3 s3 => er _ (s1.trans (s2.trans s3))⟩⟩
end
end WK
set_option Elab.async false
set_option linter.all false
set_option maxRecDepth 100000
set_option maxHeartbeats 8000000
namespace WK
open PySem L2 PyProof.Rows LCX K1 FV LamX NdefX
open TX (sg sigs)
open PySem.W (Frag kitOne)
def spPE (C cM cO : Addr) : Sp := fun vs H _ E => ∃ x y v, vs = [x, y, v] ∧ (Ref2 C cM cO H x y E ∨ ∃ L, MacTwo C H x y L ∧ BadPath H v ∧ ErrS cO H E)
def spPW (C cM cO cN : Addr) : Sp := fun vs H Q E => ∃ x y v k, vs = [x, y, v, k] ∧ (Ref2 C cM cO H x y E ∨ (∃ L, MacTwo C H x y L ∧ BadPB H v ∧ ErrS cO H E) ∨ ∃ (o : Addr) (L : W) (tb : List (List Int)) (es : List Int) (n : Int) (a : Addr), x = .ref o ∧ y = .ref o ∧ v = .ref a ∧ Mac0 C H o L tb es n ∧ H a = some (.tup [.str "word", .str ""]) ∧ (∀ H', Same H H' → OV H' k) ∧ ((numB k 0 20 = false ∧ ErrN cN k H E) ∨ (numB k 0 20 = true ∧ ∀ z H', Same H H' → Q z H')))
theorem Ref2.to {C cM cO : Addr} {H H' : Hp} {x y : V} {E : XK} (h : Ref2 C cM cO H x y E) (s : Same H H') : Ref2 C cM cO H' x y E := by
  rcases h with ⟨⟨m1, m2, o⟩, e⟩ | ⟨f, e⟩
  · exact .inl ⟨⟨m1.same s, m2.same s, o.imp (fun z => z.same s) fun z => z.same s⟩, e.to s⟩
  · exact .inr ⟨f.same s, e.to s⟩
section
variable {P : Program} {w : World} {K : PySem.W.Frag} {mg : Str → Option Value} {base : Heap} {cN cO cW cM cI C cD gH gL : Addr}
theorem ok_pends {f : Addr} {fd : FuncData} (F : Fun K "path_ends" "path_ends" s_path_ends f fd) (hT : Has P w K mg base (L2.CX P w) 3 "need_two" ["one", "other"] (spTwo C cM cO)) (hO : Has P w K mg base CX0 2 "_pairs_on" ["one", "other", "value"] spPO) (R : Rs K mg "InvalidOperation" cO) : FnOk P w K mg base (L2.CX P w) 4 f fd ["one", "other", "path"] (spPE C cM cO) := by
  have sc : FnScope ["one", "other", "path", "pairs"] ["one", "other", "path"] (defScope s_path_ends) := ⟨rfl, rfl, rfl, by decide +kernel, rfl, by decide +kernel, by decide +kernel⟩
  refine F.okX sc (fun vs H Q E h => ?_) (fun cdv A outer s H vs Q E hr h => ?_)
  · obtain ⟨x, y, v, rfl, _⟩ := h
    rfl
  · obtain ⟨x, y, v, rfl, h⟩ := h
    have hr2 : Room 2 _ := hr.mono (by decide)
    refine ⟨_, pss_cons (ps_expr (pe_has (E := E) hT hr (passes_call (takes_of rfl rfl rfl rfl) (fun _ _ _ _ h => h)) (pa_cons (pv 0) (pa_cons (pv 1) pa_nil))))
      (pss_cons (ps_set (i := 3) sc.nd rfl (Or.inl rfl) (pe_has hO hr2 pass0 (pa_cons (pv 0) (pa_cons (pv 1) (pa_cons (pv 2) pa_nil)))))
      (pss_cons (ps_if (pt_cmpR op_isN (pv 3) pe_non (nomark _)) (pss_one (ps_raise rfl (takes_of rfl rfl rfl rfl) (pmk_own PySem.F.excBase_ValueError R.x R.g R.k (raises_own R.b R.t) rfl))) pss_nil) pss_never)), ?_⟩
    rcases h with (h | h) | ⟨L, ⟨i, j, rfl, rfl, mi, mj⟩, bad, er⟩
    · exact ⟨_, rfl, _, rfl, x, y, rfl, .inl h⟩
    · exact ⟨_, rfl, _, rfl, x, y, rfl, .inr (.inl h)⟩
    · refine ⟨_, rfl, _, rfl, _, _, rfl, .inr (.inr ⟨i, j, L, rfl, rfl, mi, mj, fun H1 s1 => ?_⟩)⟩
      refine ⟨_, rfl, _, rfl, _, rfl, _, _, _, rfl, bad.same s1, fun H2 s2 => ?_⟩
      exact ⟨_, rfl, rfl, _, rfl, er _ (s1.trans s2)⟩
theorem ok_pwords {f : Addr} {fd : FuncData} (F : Fun K "pieces_words" "pieces_words" s_pieces_words f fd) (hB : Has P w K mg base (L2.CX P w) 4 "is_pieces_blur" ["one", "other", "value"] (spPB C cM cO)) (hN : Has P w K mg base (L2.CX P w) 3 "need_number" ["value", "least", "most"] (spNN cN)) (m20 : ∃ t, mg "_MAX_MADE" = some (.int 20 t)) (R : Rs K mg "InvalidOperation" cO) : FnOk P w K mg base (L2.CX P w) 5 f fd ["one", "other", "blur", "number"] (spPW C cM cO cN) := by
  obtain ⟨t20, g20⟩ := m20
  refine F.okX (N := ["one", "other", "blur", "number"]) ⟨rfl, rfl, rfl, by decide +kernel, rfl, by decide +kernel, by decide +kernel⟩ (fun vs H Q E h => ?_) (fun cdv A outer s H vs Q E hr h => ?_)
  · obtain ⟨x, y, v, k, rfl, _⟩ := h
    rfl
  · obtain ⟨x, y, v, k, rfl, h⟩ := h
    have hr3 : Room 3 _ := hr.mono (by decide)
    refine ⟨_, pss_cons (ps_if (pt_not (pt_val (pe_has (E := E) hB hr (passes_call (takes_of rfl rfl rfl rfl) (fun _ _ _ _ h => h)) (pa_cons (pv 0) (pa_cons (pv 1) (pa_cons (pv 2) pa_nil)))))) (pss_one (ps_raise rfl (takes_of rfl rfl rfl rfl) (pmk_own PySem.F.excBase_ValueError R.x R.g R.k (raises_own R.b R.t) rfl))) pss_nil)
      (pss_cons (ps_expr (pe_has (E := E) hN hr3 (passes_call (takes_of rfl rfl rfl rfl) (fun _ _ _ _ h => h)) (pa_cons (pv 3) (pa_cons pe_int (pa_cons (pe_glob rfl g20 (show RelV (.int 20) (.int 20 t20) from ⟨t20, rfl⟩)) pa_nil)))))
      (pss_cons (ps_if (pt_cmpR op_eq (pe_ix ix_tup (pv 2) pe_int (fun _ _ => rfl)) pe_str (nomark _)) (pss_one (ps_ret (pe_tup (pa_cons (pe_ix ix_tup (pv 2) pe_int (fun _ _ => rfl)) (pa_cons (pe_ix ix_tup (pv 2) pe_int (fun _ _ => rfl)) pa_nil))))) pss_nil) pss_never)), ?_⟩
    rcases h with h | ⟨L, mt, bad, er⟩ | ⟨o, L, tb, es, n, a, rfl, rfl, rfl, m0, ha, ov, h⟩
    · exact ⟨_, rfl, _, rfl, _, rfl, x, y, v, rfl, .inl h⟩
    · exact ⟨_, rfl, _, rfl, _, rfl, x, y, v, rfl, .inr (.inl ⟨L, mt, bad, fun H1 s1 => ⟨false, rfl, er _ s1⟩⟩)⟩
    · refine ⟨_, rfl, _, rfl, _, rfl, _, _, _, rfl, .inr (.inr ⟨o, L, tb, es, n, a, rfl, rfl, rfl, m0, ha, fun H1 s1 => ⟨true, rfl, ?_⟩⟩)⟩
      rcases h with ⟨nb, er⟩ | ⟨nb, q⟩
      · exact ⟨_, rfl, k, 0, 20, rfl, ov _ s1, .inr ⟨nb, er.to s1⟩⟩
      · refine ⟨_, rfl, k, 0, 20, rfl, ov _ s1, .inl ⟨nb, ?_⟩⟩
        have h1 := s1 _ _ ha
        refine ⟨_, rfl, a, _, 0, .str "word", rfl, rfl, SqT.of h1, rfl, rfl, _, rfl, ?_⟩
        rw [decide_eq_true rfl]
        refine ⟨_, rfl, a, _, 1, .str "", rfl, rfl, SqT.of h1, rfl, _, rfl, a, _, 1, .str "", rfl, rfl, SqT.of h1, rfl, ?_⟩
        refine ⟨by show 2 ≤ sizeLine; decide, fun t ht => q _ _ (s1.trans (same_upd ht))⟩
end
end WK
set_option Elab.async false
set_option linter.all false
set_option maxRecDepth 100000
set_option maxHeartbeats 6000000
namespace DQ
open PySem PySem.Spec PyProof.Rows L2 SeqAt
section
variable {s : Shared} {A : Around}
theorem dict_no_ne (l b : Addr) (es : Array DictEntry) (ys : Array Value) (n m : Nat) (d1 d2 : Option Addr) (s1 s2 : Array (Option Value)) :
    Meets (Builtin.«dict.__ne__» ⟨[.ref l, .ref b], []⟩) (fun _ R s => s.heap.get? l = some { cls := .type "dict", dict := d1, data := .dict es n, slots := s1 } ∧ s.heap.get? b = some { cls := .type "tuple", dict := d2, data := .seq ys m, slots := s2 } ∧ R (.ok (.ret .notImplemented)) s) :=
  .of_wp fun _ _ _ _ ⟨hp, g, d, tk, os⟩ ⟨k1, k2, k⟩ => by
    have z := F.sub_tuple_dict
    wp_walk using wpAny_loadPart' k1, wpAny_loadPart' k2
    exact ⟨_, rfl, k⟩
theorem tuple_no_ne (l b : Addr) (es : Array DictEntry) (ys : Array Value) (n m : Nat) (d1 d2 : Option Addr) (s1 s2 : Array (Option Value)) :
    Meets (Builtin.«tuple.__ne__» ⟨[.ref b, .ref l], []⟩) (fun _ R s => s.heap.get? b = some { cls := .type "tuple", dict := d2, data := .seq ys m, slots := s2 } ∧ s.heap.get? l = some { cls := .type "dict", dict := d1, data := .dict es n, slots := s1 } ∧ R (.ok (.ret .notImplemented)) s) :=
  .of_wp fun _ _ _ _ ⟨hp, g, d, tk, os⟩ ⟨k1, k2, k⟩ => by
    have z := F.sub_dict_tuple
    wp_walk using wpAny_loadPart' k1, wpAny_loadPart' k2
    exact ⟨_, rfl, k⟩
theorem unlike_dict_tuple {l b : Addr} {o : Obj} {es : Array DictEntry} {n : Nat} {ys : Array Value} (ho : s.heap.get? l = some o) (hc : o.cls = .type "dict") (hd : o.data = .dict es n) (hb : s.heap.IsTuple b ys) (hu : A.units < cLine) : RcNeAt A s (.ref l) (.ref b) true := fun prog w E Q h => by
  obtain ⟨⟨c2, d2, t2, s2⟩, at2, z1, m, z2⟩ := id hb
  cases (show c2 = Value.type "tuple" from z1)
  cases (show t2 = Data.seq ys m from z2)
  obtain ⟨c1, d1, t1, s1⟩ := o
  cases (show c1 = Value.type "dict" from hc)
  cases (show t1 = Data.dict es n from hd)
  have two : l ≠ b := fun z => by
    rw [z, at2] at ho
    exact absurd (congrArg Obj.cls (Option.some.inj ho)) (show ¬ (Value.type "tuple" = Value.type "dict") by decide)
  refine rc_ne_decline_or (k := false) ⟨_, ho, rfl⟩ ⟨_, at2, rfl⟩ (by decide) F.sub_tuple_dict F.slot_dict_ne F.slot_tuple_ne_refl (fun _ q => ?_) (fun _ q => ?_) (fun _ q => wpAny_isSame_ref_other two ho at2 (by simp) q) (.inr hu) h
  · exact call_meets F.slot_dict_ne ⟨_, ho, rfl⟩ F.entry_dict_ne (F.args_dict_ne_2 _ _) (dict_no_ne l b es ys n m d1 d2 s1 s2) ⟨ho, at2, q⟩
  · exact call_meets F.slot_tuple_ne_refl ⟨_, at2, rfl⟩ F.entry_tuple_ne (F.args_tuple_ne_2 _ _) (tuple_no_ne l b es ys n m d1 d2 s1 s2) ⟨at2, ho, q⟩
end
def rNeDT (K : PySem.W.Frag) : R2 := fun x y H Q => rNeD K x y H Q ∨ ∃ (d t : Addr) (kvs : List (Key × V)) (xs : List V), x = .ref d ∧ y = .ref t ∧ H d = some (.dK kvs) ∧ SqT K H t xs ∧ Q (.bl true) H
theorem op_neDT {X : Cx} (hu : X.A.units + 64 < cLine) : OpR X (compareOp .NotEq) (rNeDT X.K) := by
  intro pins s σ H x y v u Q I rx ry h
  rcases h with h | ⟨d, t, kvs, xs, rfl, rfl, hd, ht, q⟩
  · exact op_neD hu pins s σ H x y v u Q I rx ry h
  · obtain rfl : v = Value.ref d := rx
    obtain rfl : u = Value.ref t := ry
    obtain ⟨_, _, _, _, ob, es, _, ho, r⟩ := I.hok d _ hd
    obtain ⟨its, _, ⟨o, e, c, n, z⟩, _⟩ := I.tuple ht
    exact unlike_dict_tuple ho r.1.1 r.2.1 ⟨o, e, c, n, z⟩ (Nat.lt_of_le_of_lt (Nat.le_add_right _ 64) hu) X.prog X.w X.xe _ ⟨.bl true, H, I, rfl, q⟩
end DQ
set_option Elab.async false
set_option linter.all false
set_option maxRecDepth 100000
set_option maxHeartbeats 8000000
namespace WK
open PySem L2 PyProof.Rows LCX K1 FV LamX NdefX
open TX (sg sigs)
open PySem.W (Frag kitOne)
theorem Its.len {q : Str} {cl0 : List (Str × Addr)} {H : Hp} : ∀ {vs : List V} {ls : List (Expr × Str)}, Its q cl0 H vs ls → vs.length = ls.length
  | [], [], _ => rfl
  | _ :: _, _ :: _, h => congrArg Nat.succ h.2.len
  | [], _ :: _, h => h.elim
  | _ :: _, [], h => h.elim
section
variable {cs : Cs} {H : Hp}
theorem on_at (n : ∀ p ∈ cs, H p.1 = none) {a : Addr} {o : HO} (e : H a = some o) : onn cs H a = some o := by
  rw [onn_out fun z => by obtain ⟨p, hp, rfl⟩ := List.mem_map.mp z; rw [n p hp] at e; cases e]
  exact e
end
theorem DiceAt.ext {H H' : Hp} {p : Addr} (d : DiceAt H p) (e : ExtN H H') : DiceAt H' p := d.keep fun o h => e _ _ h fun ps z => by
  obtain ⟨_, _, _, q, _⟩ := d
  rw [z, q] at h
  cases h
theorem lay_num {x : Str} (h : PyData.canLay0 (.str x) = true) : PyData.canLay0 (.str ("number " ++ x)) = true := by
  have h : x.cps.all (fun c => decide (c < 1114112)) = true := h
  show (("number " : Str).cps ++ x.cps).all _ = true
  rw [Array.all_append]
  exact Bool.and_eq_true_iff.mpr ⟨by decide +kernel, h⟩
end WK
set_option Elab.async false
set_option linter.all false
set_option maxRecDepth 100000
set_option maxHeartbeats 8000000
namespace WK
open PySem L2 PyProof.Rows LCX K1 FV LamX NdefX
open TX (sg sigs)
open PySem.W (Frag kitOne)
/-- the module has such a def, which holds where nothing is being written out -/
def HasG (P : Program) (w : World) (K : Frag) (mg : Str → Option Value) (base : Heap) (k : Nat) (nm : Str) (ps : List Str) (sp : Sp) : Prop := ∃ f fd, mg nm = some (.ref f) ∧ PySem.W.keepIn K (.ref f) = true ∧ L2.Binds K fd ps [] ∧ WG.FnG P w K mg base k f fd ps sp
theorem pe_hasG {X : Cx} {k : Nat} {nm : Str} {ps : List Str} {sp : Sp} {E : XK} {e : Expr} {es : List Expr} {t : TA} {p pos : Pos} (h : HasG X.prog X.w X.K X.mg X.base k nm ps sp) (hr : Room k X.A) (hgd : X.A.guards = some []) (ha : PA X (e :: es) t) (hg : Gl X nm := by rfl)
    (hdb : (nm == ("__debug__" : Str)) = false := by decide) (he : starEach (e :: es) X.env = (false, eval e X.env) :: starEach es X.env := by rfl) (hpl : (backTo pos (starEach es X.env)).any (·.1) = false := by rfl) : PE X (.Call (.Name nm p) (e :: es) [] pos) (tCall sp [] E t) := by
  obtain ⟨f, fd, g, kp, b, G⟩ := h
  exact WG.pe_callG G hr hgd g kp b ha hg hdb he hpl
/-- what the body of a lambda meets, wherever it runs with these values -/
def Meets (P : Program) (w : World) (K : Frag) (mg : Str → Option Value) (base : Heap) (c : ErrC) (T : List (Addr × Str)) (k : Nat) (fr : List Str) (vals : List V) (q : Str) (l : Expr) (H : Hp) (wd : Str) : Prop :=
  ∀ (cl : List (Str × Addr)) (c' f : Addr) (A : Around) (outer : List Env) (s : Shared) (H2 : Hp) (E : XK), Room k (A.deeper (envF ⟨"<lambda>", q, lamPar l, [], lamSc l, cl, c'⟩ f s.heap.objs.size)) → ExtN H H2 → Tabs T H2 → (∀ cls d H3, Same H2 H3 → ErrW c H3 cls d wd → E cls d H3) →
    ∃ te, PE (ncx (L2.CX P w) P w K mg base fr ⟨"<lambda>", q, lamPar l, [], lamSc l, cl, c'⟩ f A outer s H2 E) (lamBody l) te ∧ ∀ Q : VK, (wd = "fine" → ∀ v H3, Same H2 H3 → Q v H3) → te (startF fr [] (vals.map some)) H2 Q
/-- such a call as a term: its word, and what stands behind it -/
def tMeet (P : Program) (w : World) (K : Frag) (mg : Str → Option Value) (base : Heap) (c : ErrC) (T : List (Addr × Str)) (k : Nat) (fr : List Str) (js : List Nat) (q : Str) (l : Expr) : TE := fun σ H Q => ∃ (vals : List V) (wd : Str), js.map (fun j => σ[j]?) = vals.map (fun v => some (some v)) ∧ Tabs T H ∧ Meets P w K mg base c T k fr vals q l H wd ∧
  ∀ H', Grows T H H' → Q (.str wd) H'
section
variable {X : Cx} {k : Nat} {T : List (Addr × Str)} {c : ErrC} {cd PM : Addr} {p pos pl : Pos} {fr : List Str} {js : List Nat}
theorem off_onn {cs : Cs} {H : Hp} (n : ∀ p ∈ cs, H p.1 = none) : off cs (onn cs H) = H := funext fun b => by
  by_cases h : b ∈ cs.map (·.1)
  · rw [off_in h]
    obtain ⟨p, hp, rfl⟩ := List.mem_map.mp h
    exact (n p hp).symm
  · rw [off_out h, onn_out h]
theorem pe_meet {l : Expr} (HM : HasG X.prog X.w X.K X.mg X.base (k + 5) "_law_met" ["_law_call"] (spMet X.prog X.w X.K X.mg X.base c (k + 1))) (hr : Room (k + 5) X.A) (hgd : X.A.guards = some [])
    (TB : TabB X.base X.mg cd PM) (code : X.env.code = .ref cd) (mem : (PM, X.env.qual ++ "<lambda>") ∈ T) (uniq : ∀ p ∈ T, p.1 = PM → p.2 = X.env.qual ++ "<lambda>") (plain : defaultsOf (lamPar l) X.env = ([], []))
    (S : NScope fr [] fr (lamSc l)) (nd : fr.Nodup) (isL : ∃ a b s p, l = .Lambda a b s p) (cap : ∀ y ∈ (lamSc l).names, y.2 = .free → X.env.scope.names.lookup y.1 = some .cell) (hin : ∀ y ∈ (lamSc l).names, y.2 = .free → y.1 ∈ fr) (own : ∀ y ∈ fr, X.fn y = true)
    (cp : X.Ok → Caps X (cloFrom X.env.cells (lamSc l).names []) fr js)
    (bind : ∀ (cl : List (Str × Addr)) (c' : Addr) (pm cv ctv : Value), bindArgs (PySem.W.kla_fn "<lambda>" (X.env.qual ++ "<lambda>") (lamPar l) (lamBody l) (lamSc l) cl pm cv ctv) ⟨[], []⟩ = pure [])
    (hg : Gl X "_law_met" := by rfl) (he : starEach [l] X.env = (false, eval l X.env) :: starEach [] X.env := by rfl) :
    PE X (.Call (.Name "_law_met" p) [l] [] pos) (tMeet X.prog X.w X.K X.mg X.base c T k fr js (X.env.qual ++ "<lambda>") l) := by
  obtain ⟨fM, fdM, gM, kM, bM, GM⟩ := HM
  obtain ⟨a, b, sc, pl', rfl⟩ := isL
  have only : ∀ (y : Str) (d : Addr), (cloFrom X.env.cells sc.names []).lookup y = some d → y ∈ fr := fun y d e => by
    rcases clo_only e with z | z
    · exact hin _ z rfl
    · cases z
  have base_ := pe_callCG (js := js) GM hr hgd hg gM kM bM cp only nd own (pa_cons (pe_lamV (T := T) (pos := pl') TB code mem uniq plain (fun ok y hy e => ok.has _ (.inl (cap y hy e)))) pa_nil) (p := p) (pos := pos) (by decide) he rfl
  refine pe_imp base_ fun σ H Q ⟨vals, wd, hv, tabs, mt, q⟩ => ?_
  refine ⟨tabs, fun f c' H1 nf gr hf hc => ⟨vals, hv, fun cs ft n0 => ?_⟩⟩
  have lk : LOk X.prog X.w X.K X.mg X.base (L2.CX X.prog X.w) (k + 1) f ⟨"<lambda>", X.env.qual ++ "<lambda>", a, [], sc, cloFrom X.env.cells sc.names [], c'⟩ b fr
      (fun ws vs G Q E => vs = [] ∧ ws = vals.map some ∧ ExtN H G ∧ Tabs T G ∧ (∀ cls d H3, Same G H3 → ErrW c H3 cls d wd → E cls d H3) ∧ (wd = "fine" → ∀ v H3, Same G H3 → Q v H3)) := by
    refine lok_of (N := fr) (ps := []) S (fun pm cv ctv us hl => ?_) (fun ws vs G Q E h => by rw [h.1] <;> rfl) (fun A outer s G vs ws Q E hr hw h => ?_)
    · have : us = [] := List.length_eq_zero_iff.mp hl
      rw [this]
      exact bind _ c' pm cv ctv
    · obtain ⟨rfl, rfl, ex, tb, er, fine⟩ := h
      obtain ⟨te, pe, rd⟩ := mt _ c' f A outer s G E hr ex tb er
      exact ⟨te, pe, rd Q fine⟩
  have sits : Sits (cloFrom X.env.cells sc.names []) fr cs vals := ⟨ft.lenV, fun i y hy => by
    have hi : i < cs.length := by rw [ft.len]; exact (List.getElem?_eq_some_iff.mp hy).1
    exact ⟨cs[i], List.getElem_mem hi, ft.at_ i y _ hy (List.getElem?_eq_getElem hi), fun v hv2 => ft.val i _ v (List.getElem?_eq_getElem hi) hv2⟩, ft.only, fits_inj ft⟩
  have grow : ∀ H3, Same H1 H3 → Grows T H H3 := fun H3 s3 => ⟨fun b o e n => s3 _ _ (gr.1 b o e n), gr.2.1.ext s3, fun d n => gr.2.2 d (s3.free n)⟩
  refine ⟨f, _, _, rfl, callV_lam lk sits ft.all, ⟨on_at n0 hf, on_at n0 hc, onn_lay ft.nd⟩, fun vs G Q Q' E E' hQ hE ⟨e1, e2, ex, tb, er, fine⟩ => ⟨e1, e2, ex, tb, fun cls d H3 s3 ew n3 => hE _ _ _ (er cls d H3 s3 ew n3), fun e v H3 s3 n3 => hQ _ _ (fine e v H3 s3 n3)⟩, ?_⟩
  dsimp only
  rw [off_onn n0]
  refine ⟨rfl, rfl, gr.1, gr.2.1, fun cls d H3 s3 ew n3 => ⟨wd, errw_on ew n3, onn_lay ft.nd, ?_⟩, fun e v H3 s3 n3 => ⟨onn_lay ft.nd, ?_⟩⟩
  · rw [off_onn n3]
    exact q H3 (grow H3 s3)
  · rw [off_onn n3]
    have := q H3 (grow H3 s3)
    rw [e] at this
    exact this
end
end WK
set_option Elab.async false
set_option linter.all false
set_option maxRecDepth 100000
set_option maxHeartbeats 8000000
namespace WK
open PySem L2 PyProof.Rows LCX K1 FV LamX NdefX
open TX (sg sigs)
open PySem.W (Frag kitOne)
abbrev sPW : Stmt := top 116
abbrev sMR : Stmt := top 117
abbrev sLw : Stmt := top 118
def nthS (s : Stmt) (k : Nat) : Stmt := (defBody s).getD k (.Pass ⟨0, 0, 0, 0⟩)
abbrev qPW : Str := (envOfC "_law_pair_words" (defScope sPW) 0 0 .none).qual ++ "<lambda>"
abbrev qMR : Str := (envOfC "_law_more_right" (defScope sMR) 0 0 .none).qual ++ "<lambda>"
abbrev qLw : Str := (envOfC "law" (defScope sLw) 0 0 .none).qual ++ "<lambda>"
/-- the lambda that is met in a statement: x = [met(l)], x.append(met(l)), return x + [met(l)], return met(l) == .. and .. -/
def metLam : Stmt → Expr
  | .Assign _ (.List (.Call _ (l :: _) _ _ :: _) _) _ => l
  | .Expr (.Call _ (.Call _ (l :: _) _ _ :: _) _ _) _ => l
  | .Return (some (.BinOp _ _ (.List (.Call _ (l :: _) _ _ :: _) _) _)) _ => l
  | .Return (some (.BoolOp _ (.Compare (.Call _ (l :: _) _ _) _ _ _ :: _) _)) _ => l
  | _ => .Constant .none 0 ⟨0, 0, 0, 0⟩
/-- what the program's own text gives the calls -/
structure Lib (P : Program) (w : World) (K : Frag) (mg : Str → Option Value) (base : Heap) (c : ErrC) (C : Addr) : Prop where
  ip : Has P w K mg base (L2.CX P w) 4 "is_path" ["one", "other", "value"] (spKi3 C c.M c.O)
  pe : Has P w K mg base (L2.CX P w) 4 "path_ends" ["one", "other", "path"] (spPE C c.M c.O)
  ib : Has P w K mg base (L2.CX P w) 4 "is_pieces_blur" ["one", "other", "value"] (spPB C c.M c.O)
  pw : Has P w K mg base (L2.CX P w) 5 "pieces_words" ["one", "other", "blur", "number"] (spPW C c.M c.O c.N)
  pb : Has P w K mg base (L2.CX P w) 4 "pieces_blur" ["one", "other"] (spKi C c.M c.O)
  pc : Has P w K mg base (L2.CX P w) 4 "pieces_clear" ["one", "other"] (spKi C c.M c.O)
  ic : Has P w K mg base (L2.CX P w) 4 "is_pieces_clear" ["one", "other", "value"] (spKi3 C c.M c.O)
  ar : Has P w K mg base (L2.CX P w) 5 "are_told_by_pieces" ["one", "other"] (spKi C c.M c.O)
  lp : Has P w K mg base (L2.CX P w) 5 "least_pieces" ["one", "other", "most"] (spNM C c.M c.O c.N)
  pp : Has P w K mg base (L2.CX P w) 5 "pieces_pair" ["one", "other", "most"] (spNM C c.M c.O c.N)
  rl : Has P w K mg base (L2.CX P w) 4 "ring_letters" ["machine", "state"] (spRL C c.M c.N)
  be : Has P w K mg base (L2.CX P w) 4 "block_ends" ["machine", "state", "letters"] (spBE K C c.M c.N c.O)
  cl : Cls K C
theorem Bx.at_ {p : Addr} {H H' : Hp} (b : Bx p H H') (d : DiceAt H p) {a : Addr} {o : HO} (e : H a = some o) (n1 : ∀ x y z : Int, o ≠ .lst [.int x, .int y, .int z]) (n2 : ∀ ps, o ≠ .tbl ps) (n3 : ∀ φ, o ≠ .ext φ) : H' a = some o := b _ _ e (d.off e n1) n2 n3
theorem Shw.bx {p : Addr} {H H' : Hp} {v : V} {x : Str} (h : Shw H v x) (b : Bx p H H') (d : DiceAt H p) : Shw H' v x := by
  cases h with
  | non => exact .non
  | int i h hl hc => exact .int i h hl hc
  | tru => exact .tru
  | one => exact .one
  | nul => exact .nul
  | cap => exact .cap
  | tup h => exact .tup (b.at_ d h (fun _ _ _ => (nomatch ·)) (fun _ => (nomatch ·)) fun _ => (nomatch ·))
  | lst h => exact .lst (b.at_ d h (fun _ _ _ => (nomatch ·)) (fun _ => (nomatch ·)) fun _ => (nomatch ·))
  | dic h => exact .dic (b.at_ d h (fun _ _ _ => (nomatch ·)) (fun _ => (nomatch ·)) fun _ => (nomatch ·))
theorem Shw.ov {H : Hp} {v : V} {x : Str} (h : Shw H v x) : OV H v := by
  cases h with
  | non => exact .non
  | int i => exact .int i
  | tru => exact .bl true
  | one => exact .str _
  | nul => exact .str _
  | cap => exact .str _
  | tup h => exact .tup h
  | lst h => exact .lst h
  | dic h => exact .dic h
/-- plain values that do not hold three numbers in a list -/
inductive OP (H : Hp) : V → Prop
  | non : OP H .non
  | int (i : Int) : OP H (.int i)
  | bl (b : Bool) : OP H (.bl b)
  | str (x : Str) : OP H (.str x)
  | tup {a : Addr} {xs : List V} (h : H a = some (.tup xs)) : OP H (.ref a)
  | lst {a : Addr} {xs : List V} (h : H a = some (.lst xs)) (n : ∀ x y z : Int, xs ≠ [.int x, .int y, .int z]) : OP H (.ref a)
  | dic {a : Addr} {xs : List (Key × V)} (h : H a = some (.dK xs)) : OP H (.ref a)
theorem OP.ov {H : Hp} {v : V} (h : OP H v) : OV H v := by
  cases h with
  | non => exact .non
  | int i => exact .int i
  | bl b => exact .bl b
  | str x => exact .str x
  | tup h => exact .tup h
  | lst h n => exact .lst h
  | dic h => exact .dic h
theorem OP.bx {p : Addr} {H H' : Hp} {v : V} (h : OP H v) (b : Bx p H H') (d : DiceAt H p) : OP H' v := by
  cases h with
  | non => exact .non
  | int i => exact .int i
  | bl b => exact .bl b
  | str x => exact .str x
  | tup h => exact .tup (b.at_ d h (fun _ _ _ => (nomatch ·)) (fun _ => (nomatch ·)) fun _ => (nomatch ·))
  | lst h n => exact .lst (b.at_ d h (fun x y z e => n x y z (HO.lst.inj e)) (fun _ => (nomatch ·)) fun _ => (nomatch ·)) n
  | dic h => exact .dic (b.at_ d h (fun _ _ _ => (nomatch ·)) (fun _ => (nomatch ·)) fun _ => (nomatch ·))
theorem OP.ext {H H' : Hp} {v : V} (h : OP H v) (b : ExtN H H') : OP H' v := by
  cases h with
  | non => exact .non
  | int i => exact .int i
  | bl b => exact .bl b
  | str x => exact .str x
  | tup h => exact .tup (b _ _ h fun _ => (nomatch ·))
  | lst h n => exact .lst (b _ _ h fun _ => (nomatch ·)) n
  | dic h => exact .dic (b _ _ h fun _ => (nomatch ·))
theorem OP.same {H H' : Hp} {v : V} (h : OP H v) (b : Same H H') : OP H' v := h.ext fun x o e _ => b x o e
theorem MacL.bx {C p : Addr} {H H' : Hp} {o : Addr} {L : W} (h : MacL C H o L) (b : Bx p H H') (d : DiceAt H p) : MacL C H' o L := by
  obtain ⟨dx, t, e, h1⟩ := h
  exact ⟨dx, t, e, b.at_ d h1 (fun _ _ _ => (nomatch ·)) (fun _ => (nomatch ·)) fun _ => (nomatch ·)⟩
abbrev Wish (c : ErrC) (H : Hp) (wd : Str) (E : XK) : Prop := ∀ cls d H2, Same H H2 → ErrW c H2 cls d wd → E cls d H2
theorem wish_o {c : ErrC} {H : Hp} {E : XK} (e : Wish c H "operation" E) : ErrS c.O H E := fun _ s => e _ _ _ s .o
theorem wish_m {c : ErrC} {H : Hp} {E : XK} (e : Wish c H "machine" E) : ErrS c.M H E := fun _ s => e _ _ _ s .m
theorem wish_n {c : ErrC} {H : Hp} {E : XK} {v : V} {x : Str} (e : Wish c H ("number " ++ x) E) (h : Shw H v x) : ErrN c.N v H E := fun d H' n s hd => e _ _ _ s (.n hd (h.to fun a o _ z => s _ _ z))
theorem OV.extN {H H' : Hp} {v : V} (h : OV H v) (b : ExtN H H') : OV H' v := by
  cases h with
  | non => exact .non
  | int i => exact .int i
  | bl b => exact .bl b
  | str x => exact .str x
  | tup h => exact .tup (b _ _ h fun _ => (nomatch ·))
  | lst h => exact .lst (b _ _ h fun _ => (nomatch ·))
  | dic h => exact .dic (b _ _ h fun _ => (nomatch ·))
theorem Shw.ext {H H' : Hp} {v : V} {x : Str} (h : Shw H v x) (b : ExtN H H') : Shw H' v x := by
  cases h with
  | non => exact .non
  | int i h hl hc => exact .int i h hl hc
  | tru => exact .tru
  | one => exact .one
  | nul => exact .nul
  | cap => exact .cap
  | tup h => exact .tup (b _ _ h fun _ => (nomatch ·))
  | lst h => exact .lst (b _ _ h fun _ => (nomatch ·))
  | dic h => exact .dic (b _ _ h fun _ => (nomatch ·))
theorem BadPB.ext {H H' : Hp} {v : V} (h : BadPB H v) (b : ExtN H H') : BadPB H' v := by
  cases h with
  | non => exact .non
  | int i => exact .int i
  | str => exact .str
  | emp h => exact .emp (b _ _ h fun _ => (nomatch ·))
  | blk h => exact .blk (b _ _ h fun _ => (nomatch ·))
  | wrd h => exact .wrd (b _ _ h fun _ => (nomatch ·))
  | lst h => exact .lst (b _ _ h fun _ => (nomatch ·))
  | dic h => exact .dic (b _ _ h fun _ => (nomatch ·))
theorem BadPB.bx {p : Addr} {H H' : Hp} {v : V} (h : BadPB H v) (b : Bx p H H') (d : DiceAt H p) : BadPB H' v := by
  cases h with
  | non => exact .non
  | int i => exact .int i
  | str => exact .str
  | emp h => exact .emp (b.at_ d h (fun _ _ _ => (nomatch ·)) (fun _ => (nomatch ·)) fun _ => (nomatch ·))
  | blk h => exact .blk (b.at_ d h (fun _ _ _ => (nomatch ·)) (fun _ => (nomatch ·)) fun _ => (nomatch ·))
  | wrd h => exact .wrd (b.at_ d h (fun _ _ _ => (nomatch ·)) (fun _ => (nomatch ·)) fun _ => (nomatch ·))
  | lst h => exact .lst (b.at_ d h (fun _ _ _ z => by cases z) (fun _ => (nomatch ·)) fun _ => (nomatch ·))
  | dic h => exact .dic (b.at_ d h (fun _ _ _ => (nomatch ·)) (fun _ => (nomatch ·)) fun _ => (nomatch ·))
theorem Objs.extN {H H' : Hp} {ts : List Addr} {tb : List (List Int)} (h : Objs oTup H ts tb) (b : ExtN H H') : Objs oTup H' ts tb := h.to fun _ _ _ z => b _ _ z fun _ => (nomatch ·)
theorem MacAt.ext {C : Addr} {H H' : Hp} {o : Addr} {L : W} {tb : List (List Int)} {es : List Int} (h : MacAt C H o L tb es) (b : ExtN H H') : MacAt C H' o L tb es := by
  obtain ⟨dx, t, e, ts, h1, h2, h3, h4⟩ := h.ex
  exact ⟨dx, t, e, ts, b _ _ h1 (fun _ => (nomatch ·)), b _ _ h2 (fun _ => (nomatch ·)), h3.to fun a _ r z => b _ _ z fun _ => (nomatch ·), b _ _ h4 fun _ => (nomatch ·)⟩
theorem Mac0.ext {C : Addr} {H H' : Hp} {o : Addr} {L : W} {tb : List (List Int)} {es : List Int} {n : Int} (h : Mac0 C H o L tb es n) (s : ExtN H H') : Mac0 C H' o L tb es n := ⟨h.at_.ext s, h.ok, h.one, h.few, h.let_, h.zer⟩
/-- two that are refused, and by which word -/
def Prs (C : Addr) (H : Hp) (x y : V) (wd : Str) : Prop := (BadTwo C H x y ∧ wd = "machine") ∨ (FarTwo C H x y ∧ wd = "operation")
theorem MOr.ext {C : Addr} {H H' : Hp} {x : V} (h : MOr C H x) (s : ExtN H H') : MOr C H' x := h.imp (fun o => o.extN s) fun ⟨a, L, e, m⟩ => ⟨a, L, e, m.ext s⟩
theorem Prs.ext {C : Addr} {H H' : Hp} {x y : V} {wd : Str} (h : Prs C H x y wd) (b : ExtN H H') : Prs C H' x y wd := by
  rcases h with ⟨⟨m1, m2, o⟩, e⟩ | ⟨⟨a, d, L, L', e1, e2, m1, m2, n⟩, e⟩
  · exact .inl ⟨⟨m1.ext b, m2.ext b, o.imp (fun z => z.extN b) fun z => z.extN b⟩, e⟩
  · exact .inr ⟨⟨a, d, L, L', e1, e2, m1.ext b, m2.ext b, n⟩, e⟩
theorem Prs.ref {c : ErrC} {C : Addr} {H : Hp} {x y : V} {wd : Str} {E : XK} (h : Prs C H x y wd) (e : Wish c H wd E) : Ref2 C c.M c.O H x y E := by
  rcases h with ⟨b, rfl⟩ | ⟨b, rfl⟩
  · exact .inl ⟨b, wish_m e⟩
  · exact .inr ⟨b, wish_o e⟩
structure Told (T : List (Addr × Str)) (G0 : Hp) (lf : Addr) (us : List V) (H : Hp) : Prop where
  at_ : H lf = some (.lst us)
  few : us.length ≤ 100
  tabs : Tabs T H
  ext : ExtN G0 H
  new : G0 lf = none
abbrev tMetB (P : Program) (w : World) (K : Frag) (mg : Str → Option Value) (base : Heap) (c : ErrC) (T : List (Addr × Str)) (i : Nat) (fr : List Str) (js : List Nat) (q : Str) (l : Expr) : TS := tDrop (tBM K "list" rAppend (tVar i) (tCons (tMeet P w K mg base c T 9 fr js q l) tNil))
theorem Meets.ext {P : Program} {w : World} {K : Frag} {mg : Str → Option Value} {base : Heap} {c : ErrC} {T : List (Addr × Str)} {k : Nat} {fr : List Str} {vals : List V} {q : Str} {l : Expr} {H H' : Hp} {wd : Str} (h : Meets P w K mg base c T k fr vals q l H wd) (b : ExtN H H') : Meets P w K mg base c T k fr vals q l H' wd :=
  fun cl c' f A outer s H2 E hr ex => h cl c' f A outer s H2 E hr fun x o e n => ex _ _ (b _ _ e n) n
theorem told_step {P : Program} {w : World} {K : Frag} {mg : Str → Option Value} {base : Heap} {c : ErrC} {T : List (Addr × Str)} {i : Nat} {fr : List Str} {js : List Nat} {q : Str} {l : Expr} {vals : List V} {wd : Str} {D : Ends} {σ : L2.St} {H G0 : Hp} {lf : Addr} {us : List V}
    (fd : Told T G0 lf us H) (few : us.length < 100) (ev : js.map (fun j => σ[j]?) = vals.map (fun v => some (some v))) (elf : σ[i]? = some (some (.ref lf))) (mt : Meets P w K mg base c T 9 fr vals q l G0 wd)
    (next : ∀ H', Told T G0 lf (us ++ [.str wd]) H' → D.nx σ H') : tMetB P w K mg base c T i fr js q l D σ H := by
  obtain ⟨h1, h2, tb, ex, nw⟩ := fd
  refine ⟨_, elf, .inl ⟨rfl, _, SqL.of h1⟩, vals, wd, ev, tb, mt.ext ex, fun H1 gr => ?_⟩
  obtain ⟨g1, g2, g3⟩ := gr
  have hl1 := g1 _ _ h1 fun _ => (nomatch ·)
  refine ⟨lf, _, _, rfl, rfl, hl1, by rw [sizeLine_eq]; omega, ?_⟩
  refine next _ ⟨upd_same, by rw [List.length_append]; exact few, fun r hr => ?_, fun b o e n => ?_, nw⟩
  · obtain ⟨ps, e1, e2, e3⟩ := g2 r hr
    refine ⟨ps, by rw [upd_ne fun y => by rw [y, hl1] at e1; cases e1]; exact e1, e2, fun pos cv hcv => ?_⟩
    obtain ⟨d, e4, e5⟩ := e3 pos cv hcv
    exact ⟨d, e4, by rw [upd_ne fun y => by rw [y, hl1] at e5; cases e5]; exact e5⟩
  · rw [upd_ne fun z => by rw [z, nw] at e; cases e]
    exact g1 _ _ (ex _ _ e n) n
/-- the list begins -/
theorem told_one {T : List (Addr × Str)} {G0 H1 : Hp} {lf : Addr} {wd : Str} (g : Grows T G0 H1) (n : H1 lf = none) : Told T G0 lf [.str wd] (upd H1 lf (.lst [.str wd])) := by
  obtain ⟨g1, g2, g3⟩ := g
  exact ⟨upd_same, by show 1 ≤ 100; decide, g2.ext (same_upd n), fun b o e k => same_upd n _ _ (g1 _ _ e k), g3 _ n⟩
end WK
set_option Elab.async false
set_option linter.all false
set_option maxRecDepth 100000
set_option maxHeartbeats 16000000
namespace WK
open PySem L2 PyProof.Rows LCX K1 FV LamX NdefX
open TX (sg sigs)
open PySem.W (Frag kitOne)
abbrev NPW : List Str := ["_law_one", "_law_other", "_law_told"]
theorem scPW : FnScope NPW ["_law_one", "_law_other"] (defScope sPW) := ⟨rfl, rfl, rfl, by decide +kernel, rfl, by decide +kernel, by decide +kernel⟩
def spPWs (C : Addr) (T : List (Addr × Str)) : Sp := fun vs H Q _ => ∃ x y wd, vs = [x, y] ∧ Tabs T H ∧ Prs C H x y wd ∧ ∀ r H', ExtN H H' → Tabs T H' → H' r = some (.lst (List.replicate 10 (.str wd))) → Q (.ref r) H'
section
variable {P : Program} {w : World} {K : Frag} {mg : Str → Option Value} {base : Heap} {c : ErrC} {C cM PM : Addr} {T : List (Addr × Str)}
theorem meets_P0 (Lb : Lib P w K mg base c C) {H : Hp} {x y : V} {wd : Str} (h : Prs C H x y wd) : Meets P w K mg base c T 9 ["_law_one", "_law_other"] [x, y] qPW (metLam (nthS sPW 0)) H wd := by
  intro cl c' f A outer s H2 E hr ex tb e
  have r := (h.ext ex).ref e
  exact ⟨_, pe_has (E := E) Lb.ip (hr.mono (by decide)) (passes_call (takes_of rfl rfl rfl rfl) (fun _ _ _ _ h => h)) (pa_cons (pv 0) (pa_cons (pv 1) (pa_cons pe_non pa_nil))), fun Q _ => ⟨_, rfl, _, rfl, _, _, _, rfl, r⟩⟩
theorem meets_P1 (Lb : Lib P w K mg base c C) {H : Hp} {x y : V} {wd : Str} (h : Prs C H x y wd) : Meets P w K mg base c T 9 ["_law_one", "_law_other"] [x, y] qPW (metLam (nthS sPW 1)) H wd := by
  intro cl c' f A outer s H2 E hr ex tb e
  have r := (h.ext ex).ref e
  exact ⟨_, pe_has (E := E) Lb.pe (hr.mono (by decide)) (passes_call (takes_of rfl rfl rfl rfl) (fun _ _ _ _ h => h)) (pa_cons (pv 0) (pa_cons (pv 1) (pa_cons pe_non pa_nil))), fun Q _ => ⟨_, rfl, _, rfl, _, _, _, rfl, .inl r⟩⟩
theorem meets_P2 (Lb : Lib P w K mg base c C) {H : Hp} {x y : V} {wd : Str} (h : Prs C H x y wd) : Meets P w K mg base c T 9 ["_law_one", "_law_other"] [x, y] qPW (metLam (nthS sPW 2)) H wd := by
  intro cl c' f A outer s H2 E hr ex tb e
  have r := (h.ext ex).ref e
  exact ⟨_, pe_has (E := E) Lb.ib (hr.mono (by decide)) (passes_call (takes_of rfl rfl rfl rfl) (fun _ _ _ _ h => h)) (pa_cons (pv 0) (pa_cons (pv 1) (pa_cons pe_non pa_nil))), fun Q _ => ⟨_, rfl, _, rfl, _, _, _, rfl, .inl r⟩⟩
theorem meets_P3 (Lb : Lib P w K mg base c C) {H : Hp} {x y : V} {wd : Str} (h : Prs C H x y wd) : Meets P w K mg base c T 9 ["_law_one", "_law_other"] [x, y] qPW (metLam (nthS sPW 3)) H wd := by
  intro cl c' f A outer s H2 E hr ex tb e
  have r := (h.ext ex).ref e
  exact ⟨_, pe_has (E := E) Lb.pw (hr.mono (by decide)) (passes_call (takes_of rfl rfl rfl rfl) (fun _ _ _ _ h => h)) (pa_cons (pv 0) (pa_cons (pv 1) (pa_cons pe_non (pa_cons pe_non pa_nil)))), fun Q _ => ⟨_, rfl, _, rfl, _, _, _, _, rfl, .inl r⟩⟩
theorem meets_P4 (Lb : Lib P w K mg base c C) {H : Hp} {x y : V} {wd : Str} (h : Prs C H x y wd) : Meets P w K mg base c T 9 ["_law_one", "_law_other"] [x, y] qPW (metLam (nthS sPW 4)) H wd := by
  intro cl c' f A outer s H2 E hr ex tb e
  have r := (h.ext ex).ref e
  exact ⟨_, pe_has (E := E) Lb.pb (hr.mono (by decide)) (passes_call (takes_of rfl rfl rfl rfl) (fun _ _ _ _ h => h)) (pa_cons (pv 0) (pa_cons (pv 1) pa_nil)), fun Q _ => ⟨_, rfl, _, rfl, _, _, rfl, r⟩⟩
theorem meets_P5 (Lb : Lib P w K mg base c C) {H : Hp} {x y : V} {wd : Str} (h : Prs C H x y wd) : Meets P w K mg base c T 9 ["_law_one", "_law_other"] [x, y] qPW (metLam (nthS sPW 5)) H wd := by
  intro cl c' f A outer s H2 E hr ex tb e
  have r := (h.ext ex).ref e
  exact ⟨_, pe_has (E := E) Lb.pc (hr.mono (by decide)) (passes_call (takes_of rfl rfl rfl rfl) (fun _ _ _ _ h => h)) (pa_cons (pv 0) (pa_cons (pv 1) pa_nil)), fun Q _ => ⟨_, rfl, _, rfl, _, _, rfl, r⟩⟩
theorem meets_P6 (Lb : Lib P w K mg base c C) {H : Hp} {x y : V} {wd : Str} (h : Prs C H x y wd) : Meets P w K mg base c T 9 ["_law_one", "_law_other"] [x, y] qPW (metLam (nthS sPW 6)) H wd := by
  intro cl c' f A outer s H2 E hr ex tb e
  have r := (h.ext ex).ref e
  exact ⟨_, pe_has (E := E) Lb.ic (hr.mono (by decide)) (passes_call (takes_of rfl rfl rfl rfl) (fun _ _ _ _ h => h)) (pa_cons (pv 0) (pa_cons (pv 1) (pa_cons pe_non pa_nil))), fun Q _ => ⟨_, rfl, _, rfl, _, _, _, rfl, r⟩⟩
theorem meets_P7 (Lb : Lib P w K mg base c C) {H : Hp} {x y : V} {wd : Str} (h : Prs C H x y wd) : Meets P w K mg base c T 9 ["_law_one", "_law_other"] [x, y] qPW (metLam (nthS sPW 7)) H wd := by
  intro cl c' f A outer s H2 E hr ex tb e
  have r := (h.ext ex).ref e
  exact ⟨_, pe_has (E := E) Lb.ar (hr.mono (by decide)) (passes_call (takes_of rfl rfl rfl rfl) (fun _ _ _ _ h => h)) (pa_cons (pv 0) (pa_cons (pv 1) pa_nil)), fun Q _ => ⟨_, rfl, _, rfl, _, _, rfl, r⟩⟩
theorem meets_P8 (Lb : Lib P w K mg base c C) {H : Hp} {x y : V} {wd : Str} (h : Prs C H x y wd) : Meets P w K mg base c T 9 ["_law_one", "_law_other"] [x, y] qPW (metLam (nthS sPW 8)) H wd := by
  intro cl c' f A outer s H2 E hr ex tb e
  have r := (h.ext ex).ref e
  exact ⟨_, pe_has (E := E) Lb.lp (hr.mono (by decide)) (passes_call (takes_of rfl rfl rfl rfl) (fun _ _ _ _ h => h)) (pa_cons (pv 0) (pa_cons (pv 1) (pa_cons pe_non pa_nil))), fun Q _ => ⟨_, rfl, _, rfl, _, _, _, rfl, .inl r⟩⟩
theorem meets_P9 (Lb : Lib P w K mg base c C) {H : Hp} {x y : V} {wd : Str} (h : Prs C H x y wd) : Meets P w K mg base c T 9 ["_law_one", "_law_other"] [x, y] qPW (metLam (nthS sPW 9)) H wd := by
  intro cl c' f A outer s H2 E hr ex tb e
  have r := (h.ext ex).ref e
  exact ⟨_, pe_has (E := E) Lb.pp (hr.mono (by decide)) (passes_call (takes_of rfl rfl rfl rfl) (fun _ _ _ _ h => h)) (pa_cons (pv 0) (pa_cons (pv 1) (pa_cons pe_non pa_nil))), fun Q _ => ⟨_, rfl, _, rfl, _, _, _, rfl, .inl r⟩⟩
theorem ps_P0 {f : Addr} {A : Around} {outer : List Env} {s : Shared} {H : Hp} {E : XK} (HM : HasG P w K mg base 14 "_law_met" ["_law_call"] (spMet P w K mg base c 10)) (TB : TabB base mg cM PM) (mem : (PM, qPW) ∈ T) (uniq : ∀ p ∈ T, p.1 = PM → p.2 = qPW) (hr : Room 14 (A.deeper (envOfC "_law_pair_words" (defScope sPW) s.heap.objs.size f (.ref cM)))) (hg : A.guards = some []) : PS (cxOf CX0 P w K mg base NPW "_law_pair_words" (defScope sPW) f (.ref cM) A outer s H E).nox (nthS sPW 0) (tAsg (tLst (tCons (tMeet P w K mg base c T 9 ["_law_one", "_law_other"] [0, 1] qPW (metLam (nthS sPW 0))) tNil)) (gName 2)) :=
  ps_set (i := 2) scPW.nd rfl (Or.inl rfl) (pe_lst (pa_cons (pe_meet (l := metLam (nthS sPW 0)) (T := T) (fr := ["_law_one", "_law_other"]) (js := [0, 1]) HM hr hg TB rfl mem uniq rfl (nscope_by (by decide +kernel)) (by decide) ⟨_, _, _, _, rfl⟩ (by decide +kernel : ∀ y ∈ (lamSc (metLam (nthS sPW 0))).names, y.2 = .free → (defScope sPW).names.lookup y.1 = some .cell) (by decide +kernel) (fun _ _ => rfl) (fun ok => Caps.made (scope := lamSc (metLam (nthS sPW 0))) ok (fun y hy e => .inl ((by decide +kernel : ∀ y ∈ (lamSc (metLam (nthS sPW 0))).names, y.2 = .free → (defScope sPW).names.lookup y.1 = some .cell) y hy e)) (by decide +kernel) rfl) (fun _ _ _ _ _ => rfl)) pa_nil))
theorem ps_P1 {f : Addr} {A : Around} {outer : List Env} {s : Shared} {H : Hp} {E : XK} (HM : HasG P w K mg base 14 "_law_met" ["_law_call"] (spMet P w K mg base c 10)) (TB : TabB base mg cM PM) (mem : (PM, qPW) ∈ T) (uniq : ∀ p ∈ T, p.1 = PM → p.2 = qPW) (hr : Room 14 (A.deeper (envOfC "_law_pair_words" (defScope sPW) s.heap.objs.size f (.ref cM)))) (hg : A.guards = some []) : PS (cxOf CX0 P w K mg base NPW "_law_pair_words" (defScope sPW) f (.ref cM) A outer s H E).nox (nthS sPW 1) (tMetB P w K mg base c T 2 ["_law_one", "_law_other"] [0, 1] qPW (metLam (nthS sPW 1))) :=
  ps_expr (pe_bm PySem.F.plainAttrs_list PySem.F.slot_list_append PySem.F.type_list_append mt_append (pv 2) (pa_cons (pe_meet (l := metLam (nthS sPW 1)) (T := T) (fr := ["_law_one", "_law_other"]) (js := [0, 1]) HM hr hg TB rfl mem uniq rfl (nscope_by (by decide +kernel)) (by decide) ⟨_, _, _, _, rfl⟩ (by decide +kernel : ∀ y ∈ (lamSc (metLam (nthS sPW 1))).names, y.2 = .free → (defScope sPW).names.lookup y.1 = some .cell) (by decide +kernel) (fun _ _ => rfl) (fun ok => Caps.made (scope := lamSc (metLam (nthS sPW 1))) ok (fun y hy e => .inl ((by decide +kernel : ∀ y ∈ (lamSc (metLam (nthS sPW 1))).names, y.2 = .free → (defScope sPW).names.lookup y.1 = some .cell) y hy e)) (by decide +kernel) rfl) (fun _ _ _ _ _ => rfl)) pa_nil))
theorem ps_P2 {f : Addr} {A : Around} {outer : List Env} {s : Shared} {H : Hp} {E : XK} (HM : HasG P w K mg base 14 "_law_met" ["_law_call"] (spMet P w K mg base c 10)) (TB : TabB base mg cM PM) (mem : (PM, qPW) ∈ T) (uniq : ∀ p ∈ T, p.1 = PM → p.2 = qPW) (hr : Room 14 (A.deeper (envOfC "_law_pair_words" (defScope sPW) s.heap.objs.size f (.ref cM)))) (hg : A.guards = some []) : PS (cxOf CX0 P w K mg base NPW "_law_pair_words" (defScope sPW) f (.ref cM) A outer s H E).nox (nthS sPW 2) (tMetB P w K mg base c T 2 ["_law_one", "_law_other"] [0, 1] qPW (metLam (nthS sPW 2))) :=
  ps_expr (pe_bm PySem.F.plainAttrs_list PySem.F.slot_list_append PySem.F.type_list_append mt_append (pv 2) (pa_cons (pe_meet (l := metLam (nthS sPW 2)) (T := T) (fr := ["_law_one", "_law_other"]) (js := [0, 1]) HM hr hg TB rfl mem uniq rfl (nscope_by (by decide +kernel)) (by decide) ⟨_, _, _, _, rfl⟩ (by decide +kernel : ∀ y ∈ (lamSc (metLam (nthS sPW 2))).names, y.2 = .free → (defScope sPW).names.lookup y.1 = some .cell) (by decide +kernel) (fun _ _ => rfl) (fun ok => Caps.made (scope := lamSc (metLam (nthS sPW 2))) ok (fun y hy e => .inl ((by decide +kernel : ∀ y ∈ (lamSc (metLam (nthS sPW 2))).names, y.2 = .free → (defScope sPW).names.lookup y.1 = some .cell) y hy e)) (by decide +kernel) rfl) (fun _ _ _ _ _ => rfl)) pa_nil))
theorem ps_P3 {f : Addr} {A : Around} {outer : List Env} {s : Shared} {H : Hp} {E : XK} (HM : HasG P w K mg base 14 "_law_met" ["_law_call"] (spMet P w K mg base c 10)) (TB : TabB base mg cM PM) (mem : (PM, qPW) ∈ T) (uniq : ∀ p ∈ T, p.1 = PM → p.2 = qPW) (hr : Room 14 (A.deeper (envOfC "_law_pair_words" (defScope sPW) s.heap.objs.size f (.ref cM)))) (hg : A.guards = some []) : PS (cxOf CX0 P w K mg base NPW "_law_pair_words" (defScope sPW) f (.ref cM) A outer s H E).nox (nthS sPW 3) (tMetB P w K mg base c T 2 ["_law_one", "_law_other"] [0, 1] qPW (metLam (nthS sPW 3))) :=
  ps_expr (pe_bm PySem.F.plainAttrs_list PySem.F.slot_list_append PySem.F.type_list_append mt_append (pv 2) (pa_cons (pe_meet (l := metLam (nthS sPW 3)) (T := T) (fr := ["_law_one", "_law_other"]) (js := [0, 1]) HM hr hg TB rfl mem uniq rfl (nscope_by (by decide +kernel)) (by decide) ⟨_, _, _, _, rfl⟩ (by decide +kernel : ∀ y ∈ (lamSc (metLam (nthS sPW 3))).names, y.2 = .free → (defScope sPW).names.lookup y.1 = some .cell) (by decide +kernel) (fun _ _ => rfl) (fun ok => Caps.made (scope := lamSc (metLam (nthS sPW 3))) ok (fun y hy e => .inl ((by decide +kernel : ∀ y ∈ (lamSc (metLam (nthS sPW 3))).names, y.2 = .free → (defScope sPW).names.lookup y.1 = some .cell) y hy e)) (by decide +kernel) rfl) (fun _ _ _ _ _ => rfl)) pa_nil))
theorem ps_P4 {f : Addr} {A : Around} {outer : List Env} {s : Shared} {H : Hp} {E : XK} (HM : HasG P w K mg base 14 "_law_met" ["_law_call"] (spMet P w K mg base c 10)) (TB : TabB base mg cM PM) (mem : (PM, qPW) ∈ T) (uniq : ∀ p ∈ T, p.1 = PM → p.2 = qPW) (hr : Room 14 (A.deeper (envOfC "_law_pair_words" (defScope sPW) s.heap.objs.size f (.ref cM)))) (hg : A.guards = some []) : PS (cxOf CX0 P w K mg base NPW "_law_pair_words" (defScope sPW) f (.ref cM) A outer s H E).nox (nthS sPW 4) (tMetB P w K mg base c T 2 ["_law_one", "_law_other"] [0, 1] qPW (metLam (nthS sPW 4))) :=
  ps_expr (pe_bm PySem.F.plainAttrs_list PySem.F.slot_list_append PySem.F.type_list_append mt_append (pv 2) (pa_cons (pe_meet (l := metLam (nthS sPW 4)) (T := T) (fr := ["_law_one", "_law_other"]) (js := [0, 1]) HM hr hg TB rfl mem uniq rfl (nscope_by (by decide +kernel)) (by decide) ⟨_, _, _, _, rfl⟩ (by decide +kernel : ∀ y ∈ (lamSc (metLam (nthS sPW 4))).names, y.2 = .free → (defScope sPW).names.lookup y.1 = some .cell) (by decide +kernel) (fun _ _ => rfl) (fun ok => Caps.made (scope := lamSc (metLam (nthS sPW 4))) ok (fun y hy e => .inl ((by decide +kernel : ∀ y ∈ (lamSc (metLam (nthS sPW 4))).names, y.2 = .free → (defScope sPW).names.lookup y.1 = some .cell) y hy e)) (by decide +kernel) rfl) (fun _ _ _ _ _ => rfl)) pa_nil))
theorem ps_P5 {f : Addr} {A : Around} {outer : List Env} {s : Shared} {H : Hp} {E : XK} (HM : HasG P w K mg base 14 "_law_met" ["_law_call"] (spMet P w K mg base c 10)) (TB : TabB base mg cM PM) (mem : (PM, qPW) ∈ T) (uniq : ∀ p ∈ T, p.1 = PM → p.2 = qPW) (hr : Room 14 (A.deeper (envOfC "_law_pair_words" (defScope sPW) s.heap.objs.size f (.ref cM)))) (hg : A.guards = some []) : PS (cxOf CX0 P w K mg base NPW "_law_pair_words" (defScope sPW) f (.ref cM) A outer s H E).nox (nthS sPW 5) (tMetB P w K mg base c T 2 ["_law_one", "_law_other"] [0, 1] qPW (metLam (nthS sPW 5))) :=
  ps_expr (pe_bm PySem.F.plainAttrs_list PySem.F.slot_list_append PySem.F.type_list_append mt_append (pv 2) (pa_cons (pe_meet (l := metLam (nthS sPW 5)) (T := T) (fr := ["_law_one", "_law_other"]) (js := [0, 1]) HM hr hg TB rfl mem uniq rfl (nscope_by (by decide +kernel)) (by decide) ⟨_, _, _, _, rfl⟩ (by decide +kernel : ∀ y ∈ (lamSc (metLam (nthS sPW 5))).names, y.2 = .free → (defScope sPW).names.lookup y.1 = some .cell) (by decide +kernel) (fun _ _ => rfl) (fun ok => Caps.made (scope := lamSc (metLam (nthS sPW 5))) ok (fun y hy e => .inl ((by decide +kernel : ∀ y ∈ (lamSc (metLam (nthS sPW 5))).names, y.2 = .free → (defScope sPW).names.lookup y.1 = some .cell) y hy e)) (by decide +kernel) rfl) (fun _ _ _ _ _ => rfl)) pa_nil))
theorem ps_P6 {f : Addr} {A : Around} {outer : List Env} {s : Shared} {H : Hp} {E : XK} (HM : HasG P w K mg base 14 "_law_met" ["_law_call"] (spMet P w K mg base c 10)) (TB : TabB base mg cM PM) (mem : (PM, qPW) ∈ T) (uniq : ∀ p ∈ T, p.1 = PM → p.2 = qPW) (hr : Room 14 (A.deeper (envOfC "_law_pair_words" (defScope sPW) s.heap.objs.size f (.ref cM)))) (hg : A.guards = some []) : PS (cxOf CX0 P w K mg base NPW "_law_pair_words" (defScope sPW) f (.ref cM) A outer s H E).nox (nthS sPW 6) (tMetB P w K mg base c T 2 ["_law_one", "_law_other"] [0, 1] qPW (metLam (nthS sPW 6))) :=
  ps_expr (pe_bm PySem.F.plainAttrs_list PySem.F.slot_list_append PySem.F.type_list_append mt_append (pv 2) (pa_cons (pe_meet (l := metLam (nthS sPW 6)) (T := T) (fr := ["_law_one", "_law_other"]) (js := [0, 1]) HM hr hg TB rfl mem uniq rfl (nscope_by (by decide +kernel)) (by decide) ⟨_, _, _, _, rfl⟩ (by decide +kernel : ∀ y ∈ (lamSc (metLam (nthS sPW 6))).names, y.2 = .free → (defScope sPW).names.lookup y.1 = some .cell) (by decide +kernel) (fun _ _ => rfl) (fun ok => Caps.made (scope := lamSc (metLam (nthS sPW 6))) ok (fun y hy e => .inl ((by decide +kernel : ∀ y ∈ (lamSc (metLam (nthS sPW 6))).names, y.2 = .free → (defScope sPW).names.lookup y.1 = some .cell) y hy e)) (by decide +kernel) rfl) (fun _ _ _ _ _ => rfl)) pa_nil))
theorem ps_P7 {f : Addr} {A : Around} {outer : List Env} {s : Shared} {H : Hp} {E : XK} (HM : HasG P w K mg base 14 "_law_met" ["_law_call"] (spMet P w K mg base c 10)) (TB : TabB base mg cM PM) (mem : (PM, qPW) ∈ T) (uniq : ∀ p ∈ T, p.1 = PM → p.2 = qPW) (hr : Room 14 (A.deeper (envOfC "_law_pair_words" (defScope sPW) s.heap.objs.size f (.ref cM)))) (hg : A.guards = some []) : PS (cxOf CX0 P w K mg base NPW "_law_pair_words" (defScope sPW) f (.ref cM) A outer s H E).nox (nthS sPW 7) (tMetB P w K mg base c T 2 ["_law_one", "_law_other"] [0, 1] qPW (metLam (nthS sPW 7))) :=
  ps_expr (pe_bm PySem.F.plainAttrs_list PySem.F.slot_list_append PySem.F.type_list_append mt_append (pv 2) (pa_cons (pe_meet (l := metLam (nthS sPW 7)) (T := T) (fr := ["_law_one", "_law_other"]) (js := [0, 1]) HM hr hg TB rfl mem uniq rfl (nscope_by (by decide +kernel)) (by decide) ⟨_, _, _, _, rfl⟩ (by decide +kernel : ∀ y ∈ (lamSc (metLam (nthS sPW 7))).names, y.2 = .free → (defScope sPW).names.lookup y.1 = some .cell) (by decide +kernel) (fun _ _ => rfl) (fun ok => Caps.made (scope := lamSc (metLam (nthS sPW 7))) ok (fun y hy e => .inl ((by decide +kernel : ∀ y ∈ (lamSc (metLam (nthS sPW 7))).names, y.2 = .free → (defScope sPW).names.lookup y.1 = some .cell) y hy e)) (by decide +kernel) rfl) (fun _ _ _ _ _ => rfl)) pa_nil))
theorem ps_P8 {f : Addr} {A : Around} {outer : List Env} {s : Shared} {H : Hp} {E : XK} (HM : HasG P w K mg base 14 "_law_met" ["_law_call"] (spMet P w K mg base c 10)) (TB : TabB base mg cM PM) (mem : (PM, qPW) ∈ T) (uniq : ∀ p ∈ T, p.1 = PM → p.2 = qPW) (hr : Room 14 (A.deeper (envOfC "_law_pair_words" (defScope sPW) s.heap.objs.size f (.ref cM)))) (hg : A.guards = some []) : PS (cxOf CX0 P w K mg base NPW "_law_pair_words" (defScope sPW) f (.ref cM) A outer s H E).nox (nthS sPW 8) (tMetB P w K mg base c T 2 ["_law_one", "_law_other"] [0, 1] qPW (metLam (nthS sPW 8))) :=
  ps_expr (pe_bm PySem.F.plainAttrs_list PySem.F.slot_list_append PySem.F.type_list_append mt_append (pv 2) (pa_cons (pe_meet (l := metLam (nthS sPW 8)) (T := T) (fr := ["_law_one", "_law_other"]) (js := [0, 1]) HM hr hg TB rfl mem uniq rfl (nscope_by (by decide +kernel)) (by decide) ⟨_, _, _, _, rfl⟩ (by decide +kernel : ∀ y ∈ (lamSc (metLam (nthS sPW 8))).names, y.2 = .free → (defScope sPW).names.lookup y.1 = some .cell) (by decide +kernel) (fun _ _ => rfl) (fun ok => Caps.made (scope := lamSc (metLam (nthS sPW 8))) ok (fun y hy e => .inl ((by decide +kernel : ∀ y ∈ (lamSc (metLam (nthS sPW 8))).names, y.2 = .free → (defScope sPW).names.lookup y.1 = some .cell) y hy e)) (by decide +kernel) rfl) (fun _ _ _ _ _ => rfl)) pa_nil))
theorem ps_P9 {f : Addr} {A : Around} {outer : List Env} {s : Shared} {H : Hp} {E : XK} (HM : HasG P w K mg base 14 "_law_met" ["_law_call"] (spMet P w K mg base c 10)) (TB : TabB base mg cM PM) (mem : (PM, qPW) ∈ T) (uniq : ∀ p ∈ T, p.1 = PM → p.2 = qPW) (hr : Room 14 (A.deeper (envOfC "_law_pair_words" (defScope sPW) s.heap.objs.size f (.ref cM)))) (hg : A.guards = some []) : PS (cxOf CX0 P w K mg base NPW "_law_pair_words" (defScope sPW) f (.ref cM) A outer s H E).nox (nthS sPW 9) (tRet (tOp rCat (tVar 2) (tLst (tCons (tMeet P w K mg base c T 9 ["_law_one", "_law_other"] [0, 1] qPW (metLam (nthS sPW 9))) tNil)))) :=
  ps_ret (pe_op op_cat (pv 2) (pe_lst (pa_cons (pe_meet (l := metLam (nthS sPW 9)) (T := T) (fr := ["_law_one", "_law_other"]) (js := [0, 1]) HM hr hg TB rfl mem uniq rfl (nscope_by (by decide +kernel)) (by decide) ⟨_, _, _, _, rfl⟩ (by decide +kernel : ∀ y ∈ (lamSc (metLam (nthS sPW 9))).names, y.2 = .free → (defScope sPW).names.lookup y.1 = some .cell) (by decide +kernel) (fun _ _ => rfl) (fun ok => Caps.made (scope := lamSc (metLam (nthS sPW 9))) ok (fun y hy e => .inl ((by decide +kernel : ∀ y ∈ (lamSc (metLam (nthS sPW 9))).names, y.2 = .free → (defScope sPW).names.lookup y.1 = some .cell) y hy e)) (by decide +kernel) rfl) (fun _ _ _ _ _ => rfl)) pa_nil)))
theorem ok_pw {f : Addr} {oc kV doc pm ct : Value} {an od : Option Addr} {osl : Array (Option Value)} (lk : K.lookup f = some ⟨oc, od, .func (PySem.W.fnOf "_law_pair_words" "_law_pair_words" (defArgs sPW) (defBody sPW) (defScope sPW) .none kV doc pm an (.ref cM) ct), osl⟩) (hcd : PySem.W.codeIn K (.ref cM) "_law_pair_words" = true)
    (Lb : Lib P w K mg base c C) (TB : TabB base mg cM PM) (mem : (PM, qPW) ∈ T) (uniq : ∀ p ∈ T, p.1 = PM → p.2 = qPW) (HM : HasG P w K mg base 14 "_law_met" ["_law_call"] (spMet P w K mg base c 10)) :
    WG.FnG P w K mg base 15 f (PySem.W.fnOf "_law_pair_words" "_law_pair_words" (defArgs sPW) (defBody sPW) (defScope sPW) .none kV doc pm an (.ref cM) ct) ["_law_one", "_law_other"] (spPWs C T) := by
  refine okGx (N := NPW) lk hcd scPW (fun vs H Q E h => ?_) (fun A outer s H vs Q E hr hg h => ?_)
  · obtain ⟨x, y, wd, rfl, _⟩ := h
    rfl
  · obtain ⟨x, y, wd, rfl, hT, pr, q⟩ := h
    refine ⟨_, pss_cons (ps_P0 HM TB mem uniq hr hg) (pss_cons (ps_P1 HM TB mem uniq hr hg) (pss_cons (ps_P2 HM TB mem uniq hr hg) (pss_cons (ps_P3 HM TB mem uniq hr hg) (pss_cons (ps_P4 HM TB mem uniq hr hg) (pss_cons (ps_P5 HM TB mem uniq hr hg) (pss_cons (ps_P6 HM TB mem uniq hr hg) (pss_cons (ps_P7 HM TB mem uniq hr hg) (pss_cons (ps_P8 HM TB mem uniq hr hg) (pss_one (ps_P9 HM TB mem uniq hr hg)))))))))), ?_⟩
    have B0 : ∀ {n : Nat}, n ≤ 100 → n ≤ sizeLine := fun h => by rw [sizeLine_eq]; omega
    refine ⟨[x, y], wd, rfl, hT, meets_P0 Lb pr, fun H1 gr => ⟨B0 (by show 1 ≤ 100; decide), fun lf hlf => ?_⟩⟩
    have fd := told_one (wd := wd) gr hlf
    generalize upd H1 lf (.lst [.str wd]) = H2 at fd ⊢
    clear gr hlf
    refine told_step fd (by show 1 < 100; decide) (vals := [x, y]) (wd := wd) rfl rfl (meets_P1 Lb pr) (fun G1 fd => ?_)
    refine told_step fd (by show 2 < 100; decide) (vals := [x, y]) (wd := wd) rfl rfl (meets_P2 Lb pr) (fun G2 fd => ?_)
    refine told_step fd (by show 3 < 100; decide) (vals := [x, y]) (wd := wd) rfl rfl (meets_P3 Lb pr) (fun G3 fd => ?_)
    refine told_step fd (by show 4 < 100; decide) (vals := [x, y]) (wd := wd) rfl rfl (meets_P4 Lb pr) (fun G4 fd => ?_)
    refine told_step fd (by show 5 < 100; decide) (vals := [x, y]) (wd := wd) rfl rfl (meets_P5 Lb pr) (fun G5 fd => ?_)
    refine told_step fd (by show 6 < 100; decide) (vals := [x, y]) (wd := wd) rfl rfl (meets_P6 Lb pr) (fun G6 fd => ?_)
    refine told_step fd (by show 7 < 100; decide) (vals := [x, y]) (wd := wd) rfl rfl (meets_P7 Lb pr) (fun G7 fd => ?_)
    refine told_step fd (by show 8 < 100; decide) (vals := [x, y]) (wd := wd) rfl rfl (meets_P8 Lb pr) (fun G8 fd => ?_)
    refine ⟨_, rfl, [x, y], wd, rfl, fd.tabs, (meets_P9 Lb pr).ext fd.ext, fun H3 g3 => ⟨B0 (by show 1 ≤ 100; decide), fun p hp => ?_⟩⟩
    have h4 := same_upd (o := .lst [.str wd]) hp _ _ (g3.1 _ _ fd.at_ fun _ => (nomatch ·))
    refine ⟨lf, p, _, _, rfl, rfl, h4, upd_same, B0 (by show 10 ≤ 100; decide), fun r hr => ?_⟩
    have s5 : ∀ o, Same H3 (upd (upd H3 p (.lst [.str wd])) r o) := fun o => same_two (same_upd hp) hr
    refine q r _ (fun b o e n => s5 _ _ _ (g3.1 _ _ (fd.ext _ _ e n) n)) (g3.2.1.ext (s5 _)) ?_
    rw [upd_same]
    rfl
end
end WK
set_option Elab.async false
set_option linter.all false
set_option maxRecDepth 100000
set_option maxHeartbeats 16000000
namespace WK
open PySem L2 PyProof.Rows LCX K1 FV LamX NdefX
open TX (sg sigs)
open PySem.W (Frag kitOne)
abbrev NMR : List Str := ["_law_dice_here", "_law_one", "_law_other", "_law_told", "_law_due", "_law_all_of", "_law_bad", "_law_letters_here", "_law_most", "_law_number", "_law_state"]
theorem scMR : FnScope NMR ["_law_dice_here", "_law_one", "_law_other"] (defScope sMR) := ⟨rfl, rfl, rfl, by decide +kernel, rfl, by decide +kernel, by decide +kernel⟩
/-- no number from a to b, shown as x -/
def OddN (a b : Int) (H : Hp) (v : V) (x : Str) : Prop := Shw H v x ∧ numB v a b = false
theorem OddN.bx {a b : Int} {p : Addr} {H H' : Hp} {v : V} {x : Str} (h : OddN a b H v x) (k : Bx p H H') (d : DiceAt H p) : OddN a b H' v x := ⟨h.1.bx k d, h.2⟩
theorem OddN.ext {a b : Int} {H H' : Hp} {v : V} {x : Str} (h : OddN a b H v x) (k : ExtN H H') : OddN a b H' v x := ⟨h.1.ext k, h.2⟩
/-- two machines of two letters -/
structure Two2 (C : Addr) (H : Hp) (o p : Addr) (L : W) (tb : List (List Int)) (es : List Int) : Prop where
  one : MacAt C H o L tb es
  two : MacL C H p L
  let_ : Let L
  len : L.length = 2
  n1 : 1 ≤ tb.length
  n4 : tb.length ≤ 4
theorem Two2.ext {C : Addr} {H H' : Hp} {o p : Addr} {L : W} {tb : List (List Int)} {es : List Int} (h : Two2 C H o p L tb es) (k : ExtN H H') : Two2 C H' o p L tb es := ⟨h.one.ext k, h.two.ext k, h.let_, h.len, h.n1, h.n4⟩
theorem Two2.mt {C : Addr} {H : Hp} {o p : Addr} {L : W} {tb : List (List Int)} {es : List Int} (h : Two2 C H o p L tb es) : MacTwo C H (.ref o) (.ref p) L := ⟨o, p, rfl, rfl, h.one.letters, h.two⟩
theorem most2 {L : W} (h : L.length = 2) : mostOf L = 3 := if_neg (by rw [h]; decide)
/-- no letters that are known: none at all, or too many -/
inductive BadLt (H : Hp) : V → Prop
  | non : BadLt H .non
  | int (i : Int) : BadLt H (.int i)
  | str (x : Str) (l : x.length ≤ 1000) (n : letB x = false) : BadLt H (.str x)
  | xyz : BadLt H (.str "xyz")
  | tup {a : Addr} {xs : List V} (h : H a = some (.tup xs)) : BadLt H (.ref a)
theorem BadLt.ext {H H' : Hp} {v : V} (h : BadLt H v) (b : ExtN H H') : BadLt H' v := by
  cases h with
  | non => exact .non
  | int i => exact .int i
  | str x l n => exact .str x l n
  | xyz => exact .xyz
  | tup h => exact .tup (b _ _ h fun _ => (nomatch ·))
theorem BadLt.bx {p : Addr} {H H' : Hp} {v : V} (h : BadLt H v) (b : Bx p H H') (d : DiceAt H p) : BadLt H' v := by
  cases h with
  | non => exact .non
  | int i => exact .int i
  | str x l n => exact .str x l n
  | xyz => exact .xyz
  | tup h => exact .tup (b.at_ d h (fun _ _ _ => (nomatch ·)) (fun _ => (nomatch ·)) fun _ => (nomatch ·))
theorem xyz_not {L : W} (h : L.length = 2) : ovrB L [120, 121, 122] = false := by
  match L, h with
  | [a, b], _ =>
    unfold ovrB
    rw [show sigs [120, 121, 122] = [120, 121, 122] by decide +kernel]
    refine Bool.eq_false_iff.mpr fun z => ?_
    have all := List.all_eq_true.mp z
    have h1 := of_decide_eq_true (all 120 (.head _))
    have h2 := of_decide_eq_true (all 121 (.tail _ (.head _)))
    have h3 := of_decide_eq_true (all 122 (.tail _ (.tail _ (.head _))))
    simp only [List.mem_cons, List.not_mem_nil, or_false] at h1 h2 h3
    omega
theorem BadLt.bad {K : Frag} {L : W} {H : Hp} {v : V} (h : BadLt H v) (n : L.length = 2) : ∀ H', Same H H' → BadLs K L H' v := fun H' s => by
  cases h with
  | non => exact .inl ⟨_, .base .non, kit_ty (by decide +kernel)⟩
  | int i => exact .inl ⟨_, .base (.int i), kit_ty (by decide +kernel)⟩
  | str x l n => exact .inr (.inl ⟨x, rfl, l, n⟩)
  | xyz => exact .inr (.inr ⟨[120, 121, 122], rfl, by decide, by decide +kernel, xyz_not n⟩)
  | tup h => exact .inl ⟨_, .base (.tup (s _ _ h)), kit_ty (by decide +kernel)⟩
theorem BadPB.path {H : Hp} {v : V} (h : BadPB H v) (n : ∀ a, v = .ref a → H a ≠ some (.tup [])) : BadPath H v := ⟨h.ov, fun a xs e q => by
  rcases h.tup a xs e q with rfl | rfl | ⟨z, _, rfl⟩
  · exact absurd q (n a e)
  · exact ⟨by show 2 ≤ 60; decide, _, _, rfl⟩
  · exact ⟨by show 2 ≤ 60; decide, _, _, rfl⟩⟩
section
variable {P : Program} {w : World} {K : Frag} {mg : Str → Option Value} {base : Heap} {c : ErrC} {C cM PM : Addr} {T : List (Addr × Str)}
theorem meets_M6 (Lb : Lib P w K mg base c C) {H : Hp} {o p : Addr} {L : W} {tb : List (List Int)} {es : List Int} {vB vU : V} (m2 : Two2 C H o p L tb es) (bB : BadPB H vB) : Meets P w K mg base c T 9 ["_law_one", "_law_other", "_law_bad", "_law_number"] [.ref o, .ref p, vB, vU] qMR (metLam (nthS sMR 6)) H "operation" := by
  intro cl c' f A outer s H2 E hr ex tbs e
  have m2 := m2.ext ex
  have bB := bB.ext ex
  refine ⟨_, pe_has (E := E) Lb.pw (hr.mono (by decide)) (passes_call (takes_of rfl rfl rfl rfl) (fun _ _ _ _ h => h)) (pa_cons (pv 0) (pa_cons (pv 1) (pa_cons (pv 2) (pa_cons (pv 3) pa_nil)))), fun Q _ => ?_⟩
  exact ⟨_, rfl, _, rfl, _, rfl, _, rfl, _, _, _, _, rfl, .inr (.inl ⟨L, m2.mt, bB, wish_o e⟩)⟩
theorem meets_M7 (Lb : Lib P w K mg base c C) {H : Hp} {a : Addr} {L : W} {tb : List (List Int)} {es : List Int} {n : Int} {vU : V} {x : Str} (m0 : Mac0 C H a L tb es n) (oU : OddN 0 20 H vU x) : Meets P w K mg base c T 9 ["_law_all_of", "_law_number"] [.ref a, vU] qMR (metLam (nthS sMR 7)) H ("number " ++ x) := by
  intro cl c' f A outer s H2 E hr ex tbs e
  have m0 := m0.ext ex
  have oU := oU.ext ex
  refine ⟨_, pe_has (E := E) Lb.pw (hr.mono (by decide)) (passes_call (takes_of rfl rfl rfl rfl) (fun _ _ _ _ h => h)) (pa_cons (pv 0) (pa_cons (pv 0) (pa_cons (pe_tup (pa_cons pe_str (pa_cons pe_str pa_nil))) (pa_cons (pv 1) pa_nil)))), fun Q _ => ?_⟩
  refine ⟨_, rfl, _, rfl, by show 2 ≤ sizeLine; decide, fun t ht => ?_⟩
  have s1 := same_upd (o := .tup [.str "word", .str ""]) ht
  exact ⟨_, rfl, _, _, _, _, rfl, .inr (.inr ⟨a, L, tb, es, n, t, rfl, rfl, rfl, m0.same s1, upd_same, fun H3 s3 => oU.1.ov.same (s1.trans s3), .inl ⟨oU.2, (wish_n e oU.1).to s1⟩⟩)⟩
theorem meets_M8 (Lb : Lib P w K mg base c C) {H : Hp} {a : Addr} {L : W} {tb : List (List Int)} {es : List Int} {n : Int} (m0 : Mac0 C H a L tb es n) : Meets P w K mg base c T 9 ["_law_all_of"] [.ref a] qMR (metLam (nthS sMR 8)) H "fine" := by
  intro cl c' f A outer s H2 E hr ex tbs e
  have m0 := m0.ext ex
  refine ⟨_, pe_has (E := E) Lb.pw (hr.mono (by decide)) (passes_call (takes_of rfl rfl rfl rfl) (fun _ _ _ _ h => h)) (pa_cons (pv 0) (pa_cons (pv 0) (pa_cons (pe_tup (pa_cons pe_str (pa_cons pe_str pa_nil))) (pa_cons pe_int pa_nil)))), fun Q fine => ?_⟩
  refine ⟨_, rfl, _, rfl, by show 2 ≤ sizeLine; decide, fun t ht => ?_⟩
  have s1 := same_upd (o := .tup [.str "word", .str ""]) ht
  exact ⟨_, _, _, _, rfl, .inr (.inr ⟨a, L, tb, es, n, t, rfl, rfl, rfl, m0.same s1, upd_same, fun H3 s3 => .int 20, .inr ⟨by decide +kernel, fun z H3 s3 => fine rfl z H3 (s1.trans s3)⟩⟩)⟩
theorem meets_M9 (Lb : Lib P w K mg base c C) {H : Hp} {o p : Addr} {L : W} {tb : List (List Int)} {es : List Int} {vB : V} (m2 : Two2 C H o p L tb es) (bB : BadPB H vB) : Meets P w K mg base c T 9 ["_law_one", "_law_other", "_law_bad"] [.ref o, .ref p, vB] qMR (metLam (nthS sMR 9)) H "operation" := by
  intro cl c' f A outer s H2 E hr ex tbs e
  have m2 := m2.ext ex
  have bB := bB.ext ex
  have hu : (A.deeper (envF ⟨"<lambda>", qMR, lamPar (metLam (nthS sMR 9)), [], lamSc (metLam (nthS sMR 9)), cl, c'⟩ f s.heap.objs.size)).units + 64 < cLine := by
    have := hr.un
    omega
  refine ⟨_, pe_has (E := E) Lb.pe (hr.mono (by decide)) (passes_call (takes_of rfl rfl rfl rfl) (fun _ _ _ _ h => h)) (pa_cons (pv 0) (pa_cons (pv 1) (pa_cons (pe_ifExp (pt_cmpR (DQ.op_neDT hu) (pv 2) (pe_tup pa_nil) (nomark _)) (pv 2) pe_non) pa_nil))), fun Q _ => ?_⟩
  refine ⟨_, rfl, _, rfl, _, rfl, by show 0 ≤ sizeLine; decide, fun t ht => ?_⟩
  have s1 := same_upd (o := .tup []) ht
  have fin : ∀ v, BadPath H2 v → spPE C c.M c.O ([.ref o, .ref p, v] ++ []) (upd H2 t (.tup [])) Q E := fun v b => ⟨_, _, _, rfl, .inr ⟨L, (show MacTwo C (upd H2 t (.tup [])) (.ref o) (.ref p) L from ⟨o, p, rfl, rfl, m2.one.letters.same s1, m2.two.same s1⟩), b.same s1, (wish_o e).to s1⟩⟩
  have non : BadPath H2 .non := ⟨.non, fun a xs e => nomatch e⟩
  have tdp : Dp K (upd H2 t (.tup [])) (.ref t) (.tuple []) := .tup (SqT.of upd_same) .nil
  have sh0 : SeqAt.shaped (PyData.tuple []) = true := by decide +kernel
  cases bB with
  | non => exact .inl ⟨.none, .tuple [], .non, tdp, by decide +kernel, sh0, true, rfl, _, rfl, fin _ non⟩
  | int i => exact .inl ⟨.int i, .tuple [], .int i, tdp, rfl, sh0, true, rfl, _, rfl, fin _ ⟨.int i, fun a xs e => nomatch e⟩⟩
  | str => exact .inl ⟨.str "word", .tuple [], .str "word", tdp, by decide +kernel, sh0, true, rfl, _, rfl, fin _ ⟨.str _, fun a xs e => nomatch e⟩⟩
  | @emp a h => exact .inl ⟨.tuple [], .tuple [], .tup (SqT.of (s1 _ _ h)) .nil, tdp, sh0, sh0, false, rfl, fin _ non⟩
  | @blk a h => exact .inl ⟨.tuple [.str "blocks", .none], .tuple [], .tup (SqT.of (s1 _ _ h)) (.cons (.str _) (.cons .non .nil)), tdp, by decide +kernel, sh0, true, rfl, _, rfl, fin _ (BadPB.path (.blk h) fun b e q => by cases e; rw [h] at q; cases q)⟩
  | @wrd a h => exact .inl ⟨.tuple [.str "word", .str "A"], .tuple [], .tup (SqT.of (s1 _ _ h)) (.cons (.str _) (.cons (.str _) .nil)), tdp, by decide +kernel, sh0, true, rfl, _, rfl, fin _ (BadPB.path (.wrd h) fun b e q => by cases e; rw [h] at q; cases q)⟩
  | @lst a h => exact .inl ⟨.list [.str "word", .str ""], .tuple [], .lst (SqL.of (s1 _ _ h)) (.cons (.str _) (.cons (.str _) .nil)), tdp, by decide +kernel, sh0, true, rfl, _, rfl, fin _ (BadPB.path (.lst h) fun b e q => by cases e; rw [h] at q; cases q)⟩
  | @dic a xs h => exact .inr ⟨a, t, xs, [], rfl, rfl, s1 _ _ h, SqT.of upd_same, true, rfl, _, rfl, fin _ ⟨.dic h, fun b ys e q => by cases e; rw [h] at q; cases q⟩⟩
theorem meets_M10 (Lb : Lib P w K mg base c C) {H : Hp} {o p : Addr} {L : W} {tb : List (List Int)} {es : List Int} {vM : V} {x : Str} (m2 : Two2 C H o p L tb es) (oM : OddN 0 3 H vM x) : Meets P w K mg base c T 9 ["_law_one", "_law_other", "_law_most"] [.ref o, .ref p, vM] qMR (metLam (nthS sMR 10)) H ("number " ++ x) := by
  intro cl c' f A outer s H2 E hr ex tbs e
  have m2 := m2.ext ex
  have oM := oM.ext ex
  refine ⟨_, pe_has (E := E) Lb.lp (hr.mono (by decide)) (passes_call (takes_of rfl rfl rfl rfl) (fun _ _ _ _ h => h)) (pa_cons (pv 0) (pa_cons (pv 1) (pa_cons (pv 2) pa_nil))), fun Q _ => ?_⟩
  exact ⟨_, rfl, _, rfl, _, rfl, _, _, _, rfl, .inr ⟨L, by have := m2.len; omega, m2.mt, fun H3 s3 => oM.1.ov.same s3, by rw [most2 m2.len]; exact oM.2, wish_n e oM.1⟩⟩
theorem meets_M11 (Lb : Lib P w K mg base c C) {H : Hp} {o p : Addr} {L : W} {tb : List (List Int)} {es : List Int} {vM : V} {x : Str} (m2 : Two2 C H o p L tb es) (oM : OddN 0 3 H vM x) : Meets P w K mg base c T 9 ["_law_one", "_law_other", "_law_most"] [.ref o, .ref p, vM] qMR (metLam (nthS sMR 11)) H ("number " ++ x) := by
  intro cl c' f A outer s H2 E hr ex tbs e
  have m2 := m2.ext ex
  have oM := oM.ext ex
  refine ⟨_, pe_has (E := E) Lb.pp (hr.mono (by decide)) (passes_call (takes_of rfl rfl rfl rfl) (fun _ _ _ _ h => h)) (pa_cons (pv 0) (pa_cons (pv 1) (pa_cons (pv 2) pa_nil))), fun Q _ => ?_⟩
  exact ⟨_, rfl, _, rfl, _, rfl, _, _, _, rfl, .inr ⟨L, by have := m2.len; omega, m2.mt, fun H3 s3 => oM.1.ov.same s3, by rw [most2 m2.len]; exact oM.2, wish_n e oM.1⟩⟩
theorem meets_M12 (Lb : Lib P w K mg base c C) {H : Hp} {o p : Addr} {L : W} {tb : List (List Int)} {es : List Int} {vS : V} {x : Str} (m2 : Two2 C H o p L tb es) (oS : OddN 0 3 H vS x) (nS : numB vS 0 ((tb.length : Int) - 1) = false) : Meets P w K mg base c T 9 ["_law_one", "_law_state"] [.ref o, vS] qMR (metLam (nthS sMR 12)) H ("number " ++ x) := by
  intro cl c' f A outer s H2 E hr ex tbs e
  have m2 := m2.ext ex
  have oS := oS.ext ex
  refine ⟨_, pe_has (E := E) Lb.rl (hr.mono (by decide)) (passes_call (takes_of rfl rfl rfl rfl) (fun _ _ _ _ h => h)) (pa_cons (pv 0) (pa_cons (pv 1) pa_nil)), fun Q _ => ?_⟩
  exact ⟨_, rfl, _, rfl, _, _, rfl, .inr ⟨o, L, tb, es, rfl, m2.one, by have := m2.n4; omega, fun H3 s3 => oS.1.ov.same s3, nS, wish_n e oS.1⟩⟩
theorem meets_M13 (Lb : Lib P w K mg base c C) {H : Hp} {o p : Addr} {L : W} {tb : List (List Int)} {es : List Int} {vS vL : V} {x : Str} (m2 : Two2 C H o p L tb es) (oS : OddN 0 3 H vS x) (nS : numB vS 0 ((tb.length : Int) - 1) = false) : Meets P w K mg base c T 9 ["_law_one", "_law_state", "_law_letters_here"] [.ref o, vS, vL] qMR (metLam (nthS sMR 13)) H ("number " ++ x) := by
  intro cl c' f A outer s H2 E hr ex tbs e
  have m2 := m2.ext ex
  have oS := oS.ext ex
  refine ⟨_, pe_has (E := E) Lb.be (hr.mono (by decide)) (passes_call (takes_of rfl rfl rfl rfl) (fun _ _ _ _ h => h)) (pa_cons (pv 0) (pa_cons (pv 1) (pa_cons (pv 2) pa_nil))), fun Q _ => ?_⟩
  exact ⟨_, rfl, _, rfl, _, rfl, _, _, _, rfl, .inr (.inl ⟨o, L, tb, es, rfl, m2.one, by have := m2.n4; omega, fun H3 s3 => oS.1.ov.same s3, nS, wish_n e oS.1⟩)⟩
theorem meets_M14 (Lb : Lib P w K mg base c C) {H : Hp} {o p : Addr} {L : W} {tb : List (List Int)} {es : List Int} {vL : V} (m2 : Two2 C H o p L tb es) (bL : BadLt H vL) : Meets P w K mg base c T 9 ["_law_one", "_law_letters_here"] [.ref o, vL] qMR (metLam (nthS sMR 14)) H "operation" := by
  intro cl c' f A outer s H2 E hr ex tbs e
  have m2 := m2.ext ex
  have bL := bL.ext ex
  refine ⟨_, pe_has (E := E) Lb.be (hr.mono (by decide)) (passes_call (takes_of rfl rfl rfl rfl) (fun _ _ _ _ h => h)) (pa_cons (pv 0) (pa_cons pe_int (pa_cons (pv 1) pa_nil))), fun Q _ => ?_⟩
  exact ⟨_, rfl, _, rfl, _, _, _, rfl, .inr (.inr ⟨o, L, tb, es, rfl, rfl, m2.one, m2.n1, by have := m2.n4; omega, bL.bad m2.len, wish_o e⟩)⟩
def forB : Stmt → List Stmt
  | .For _ _ b _ _ => b
  | _ => []
def inB (s : Stmt) (k : Nat) : Stmt := (forB s).getD k (.Pass ⟨0, 0, 0, 0⟩)
theorem three {H : Hp} : Shw H (.int 3) "3" := .int 3 (by decide +kernel) (by decide +kernel) (by decide +kernel)
theorem meets_L0 (Lb : Lib P w K mg base c C) {H : Hp} {vN : V} (oN : OV H vN) : Meets P w K mg base c T 9 ["_law_none"] [vN] qLw (metLam (inB (nthS sLw 0) 8)) H "machine" := by
  intro cl c' f A outer s H2 E hr ex tbs e
  have oN := oN.extN ex
  refine ⟨_, pe_has (E := E) Lb.rl (hr.mono (by decide)) (passes_call (takes_of rfl rfl rfl rfl) (fun _ _ _ _ h => h)) (pa_cons (pv 0) (pa_cons pe_non pa_nil)), fun Q _ => ?_⟩
  exact ⟨_, rfl, _, _, rfl, .inl ⟨oN, wish_m e⟩⟩
theorem meets_L1 (Lb : Lib P w K mg base c C) {H : Hp} {vN : V} (oN : OV H vN) : Meets P w K mg base c T 9 ["_law_none"] [vN] qLw (metLam (inB (nthS sLw 0) 9)) H "machine" := by
  intro cl c' f A outer s H2 E hr ex tbs e
  have oN := oN.extN ex
  refine ⟨_, pe_has (E := E) Lb.be (hr.mono (by decide)) (passes_call (takes_of rfl rfl rfl rfl) (fun _ _ _ _ h => h)) (pa_cons (pv 0) (pa_cons pe_int (pa_cons pe_str pa_nil))), fun Q _ => ?_⟩
  exact ⟨_, rfl, _, _, _, rfl, .inl ⟨oN, wish_m e⟩⟩
theorem meets_L2 (Lb : Lib P w K mg base c C) {H : Hp} {o : Addr} {L : W} (mo : MacL C H o L) (l3 : L.length = 3) : Meets P w K mg base c T 9 ["_law_wide"] [.ref o] qLw (metLam (nthS sLw 2)) H "number 3" := by
  intro cl c' f A outer s H2 E hr ex tbs e
  have mo := mo.ext ex
  refine ⟨_, pe_has (E := E) Lb.lp (hr.mono (by decide)) (passes_call (takes_of rfl rfl rfl rfl) (fun _ _ _ _ h => h)) (pa_cons (pv 0) (pa_cons (pv 0) (pa_cons pe_int pa_nil))), fun Q _ => ?_⟩
  exact ⟨_, rfl, _, rfl, _, _, _, rfl, .inr ⟨L, by omega, ⟨o, o, rfl, rfl, mo, mo⟩, fun H3 s3 => .int 3, by rw [show mostOf L = 2 from if_pos l3]; decide +kernel, wish_n (x := "3") e three⟩⟩
end
end WK
set_option Elab.async false
set_option linter.all false
set_option maxRecDepth 100000
set_option maxHeartbeats 16000000
namespace WK
open PySem L2 PyProof.Rows LCX K1 FV LamX NdefX
open TX (sg sigs)
open PySem.W (Frag kitOne)
theorem MacAt.bx {C p : Addr} {H H' : Hp} {o : Addr} {L : W} {tb : List (List Int)} {es : List Int} (h : MacAt C H o L tb es) (b : Bx p H H') (d : DiceAt H p) : MacAt C H' o L tb es := by
  obtain ⟨dx, t, e, ts, h1, h2, h3, h4⟩ := h.ex
  refine ⟨dx, t, e, ts, b.at_ d h1 (fun _ _ _ => (nomatch ·)) (fun _ => (nomatch ·)) (fun _ => (nomatch ·)), b.at_ d h2 (fun _ _ _ => (nomatch ·)) (fun _ => (nomatch ·)) (fun _ => (nomatch ·)), h3.to fun a _ r z => ?_, b.at_ d h4 (fun _ _ _ => (nomatch ·)) (fun _ => (nomatch ·)) (fun _ => (nomatch ·))⟩
  exact b.at_ d z (fun _ _ _ => (nomatch ·)) (fun _ => (nomatch ·)) (fun _ => (nomatch ·))
theorem Two2.bx {C q : Addr} {H H' : Hp} {o p : Addr} {L : W} {tb : List (List Int)} {es : List Int} (h : Two2 C H o p L tb es) (k : Bx q H H') (d : DiceAt H q) : Two2 C H' o p L tb es := ⟨h.one.bx k d, h.two.bx k d, h.let_, h.len, h.n1, h.n4⟩
def spMR (C : Addr) (T : List (Addr × Str)) : Sp := fun vs H Q _ => ∃ (q o p : Addr) (L : W) (tb : List (List Int)) (es : List Int), vs = [.ref q, .ref o, .ref p] ∧ DiceAt H q ∧ Tabs T H ∧ Two2 C H o p L tb es ∧ ∀ H', ButT q H H' → Tabs T H' → Q (.bl true) H'
theorem zero_in {i : Int} (h : i ∈ ([0, 0] : List Int)) : 0 ≤ i ∧ i < 1 := by
  simp only [List.mem_cons, List.not_mem_nil, or_false, or_self] at h
  omega
/-- the class Machine is called -/
def IniM (P : Program) (w : World) (K : Frag) (mg : Str → Option Value) (base : Heap) (C cM : Addr) : Prop := mg "Machine" = some (.ref C) ∧ ∃ f fd, Mk K C f ∧ FnOk P w K mg base (L2.CX P w) 5 f fd ["self", "letters", "table", "ends"] (spMInit K C cM) ∧ L2.Binds K fd ["self", "letters", "table", "ends"] []
theorem dp_two {K : Frag} {H : Hp} {a b : Addr} (ws : List Str) (ha : H a = some (.lst (ws.map V.str))) (hb : H b = some (.lst (ws.map V.str))) (lay : ∀ y ∈ ws, PyData.canLay0 (.str y) = true) : ∃ d, Dp K H (.ref a) d ∧ Dp K H (.ref b) d ∧ SeqAt.shaped d = true ∧ PyData.eqv d d = true :=
  ⟨_, .lst (SqL.of ha) (dp_strs ws), .lst (SqL.of hb) (dp_strs ws), (shaped_strs ws lay).1, SeqAt.eqv_refl _ (SeqAt.canLay_of_shaped (shaped_strs ws lay).1)⟩
section
variable {P : Program} {w : World} {K : Frag} {mg : Str → Option Value} {base : Heap} {c : ErrC} {C cM PM cE : Addr} {T : List (Addr × Str)}
theorem ps_M6 {f : Addr} {A : Around} {outer : List Env} {s : Shared} {H : Hp} {E : XK} (HM : HasG P w K mg base 14 "_law_met" ["_law_call"] (spMet P w K mg base c 10)) (TB : TabB base mg cM PM) (mem : (PM, qMR) ∈ T) (uniq : ∀ p ∈ T, p.1 = PM → p.2 = qMR) (hr : Room 14 (A.deeper (envOfC "_law_more_right" (defScope sMR) s.heap.objs.size f (.ref cM)))) (hg : A.guards = some []) : PS (cxOf CX0 P w K mg base NMR "_law_more_right" (defScope sMR) f (.ref cM) A outer s H E).nox (nthS sMR 6) (tAsg (tLst (tCons (tMeet P w K mg base c T 9 ["_law_one", "_law_other", "_law_bad", "_law_number"] [1, 2, 6, 9] qMR (metLam (nthS sMR 6))) tNil)) (gName 3)) :=
  ps_set (i := 3) scMR.nd rfl (Or.inl rfl) (pe_lst (pa_cons (pe_meet (l := metLam (nthS sMR 6)) (T := T) (fr := ["_law_one", "_law_other", "_law_bad", "_law_number"]) (js := [1, 2, 6, 9]) HM hr hg TB rfl mem uniq rfl (nscope_by (by decide +kernel)) (by decide) ⟨_, _, _, _, rfl⟩ (by decide +kernel : ∀ y ∈ (lamSc (metLam (nthS sMR 6))).names, y.2 = .free → (defScope sMR).names.lookup y.1 = some .cell) (by decide +kernel) (fun _ _ => rfl) (fun ok => Caps.made (scope := lamSc (metLam (nthS sMR 6))) ok (fun y hy e => .inl ((by decide +kernel : ∀ y ∈ (lamSc (metLam (nthS sMR 6))).names, y.2 = .free → (defScope sMR).names.lookup y.1 = some .cell) y hy e)) (by decide +kernel) rfl) (fun _ _ _ _ _ => rfl)) pa_nil))
theorem ps_M7 {f : Addr} {A : Around} {outer : List Env} {s : Shared} {H : Hp} {E : XK} (HM : HasG P w K mg base 14 "_law_met" ["_law_call"] (spMet P w K mg base c 10)) (TB : TabB base mg cM PM) (mem : (PM, qMR) ∈ T) (uniq : ∀ p ∈ T, p.1 = PM → p.2 = qMR) (hr : Room 14 (A.deeper (envOfC "_law_more_right" (defScope sMR) s.heap.objs.size f (.ref cM)))) (hg : A.guards = some []) : PS (cxOf CX0 P w K mg base NMR "_law_more_right" (defScope sMR) f (.ref cM) A outer s H E).nox (nthS sMR 7) (tMetB P w K mg base c T 3 ["_law_all_of", "_law_number"] [5, 9] qMR (metLam (nthS sMR 7))) :=
  ps_expr (pe_bm PySem.F.plainAttrs_list PySem.F.slot_list_append PySem.F.type_list_append mt_append (pv 3) (pa_cons (pe_meet (l := metLam (nthS sMR 7)) (T := T) (fr := ["_law_all_of", "_law_number"]) (js := [5, 9]) HM hr hg TB rfl mem uniq rfl (nscope_by (by decide +kernel)) (by decide) ⟨_, _, _, _, rfl⟩ (by decide +kernel : ∀ y ∈ (lamSc (metLam (nthS sMR 7))).names, y.2 = .free → (defScope sMR).names.lookup y.1 = some .cell) (by decide +kernel) (fun _ _ => rfl) (fun ok => Caps.made (scope := lamSc (metLam (nthS sMR 7))) ok (fun y hy e => .inl ((by decide +kernel : ∀ y ∈ (lamSc (metLam (nthS sMR 7))).names, y.2 = .free → (defScope sMR).names.lookup y.1 = some .cell) y hy e)) (by decide +kernel) rfl) (fun _ _ _ _ _ => rfl)) pa_nil))
theorem ps_M8 {f : Addr} {A : Around} {outer : List Env} {s : Shared} {H : Hp} {E : XK} (HM : HasG P w K mg base 14 "_law_met" ["_law_call"] (spMet P w K mg base c 10)) (TB : TabB base mg cM PM) (mem : (PM, qMR) ∈ T) (uniq : ∀ p ∈ T, p.1 = PM → p.2 = qMR) (hr : Room 14 (A.deeper (envOfC "_law_more_right" (defScope sMR) s.heap.objs.size f (.ref cM)))) (hg : A.guards = some []) : PS (cxOf CX0 P w K mg base NMR "_law_more_right" (defScope sMR) f (.ref cM) A outer s H E).nox (nthS sMR 8) (tMetB P w K mg base c T 3 ["_law_all_of"] [5] qMR (metLam (nthS sMR 8))) :=
  ps_expr (pe_bm PySem.F.plainAttrs_list PySem.F.slot_list_append PySem.F.type_list_append mt_append (pv 3) (pa_cons (pe_meet (l := metLam (nthS sMR 8)) (T := T) (fr := ["_law_all_of"]) (js := [5]) HM hr hg TB rfl mem uniq rfl (nscope_by (by decide +kernel)) (by decide) ⟨_, _, _, _, rfl⟩ (by decide +kernel : ∀ y ∈ (lamSc (metLam (nthS sMR 8))).names, y.2 = .free → (defScope sMR).names.lookup y.1 = some .cell) (by decide +kernel) (fun _ _ => rfl) (fun ok => Caps.made (scope := lamSc (metLam (nthS sMR 8))) ok (fun y hy e => .inl ((by decide +kernel : ∀ y ∈ (lamSc (metLam (nthS sMR 8))).names, y.2 = .free → (defScope sMR).names.lookup y.1 = some .cell) y hy e)) (by decide +kernel) rfl) (fun _ _ _ _ _ => rfl)) pa_nil))
theorem ps_M9 {f : Addr} {A : Around} {outer : List Env} {s : Shared} {H : Hp} {E : XK} (HM : HasG P w K mg base 14 "_law_met" ["_law_call"] (spMet P w K mg base c 10)) (TB : TabB base mg cM PM) (mem : (PM, qMR) ∈ T) (uniq : ∀ p ∈ T, p.1 = PM → p.2 = qMR) (hr : Room 14 (A.deeper (envOfC "_law_more_right" (defScope sMR) s.heap.objs.size f (.ref cM)))) (hg : A.guards = some []) : PS (cxOf CX0 P w K mg base NMR "_law_more_right" (defScope sMR) f (.ref cM) A outer s H E).nox (nthS sMR 9) (tMetB P w K mg base c T 3 ["_law_one", "_law_other", "_law_bad"] [1, 2, 6] qMR (metLam (nthS sMR 9))) :=
  ps_expr (pe_bm PySem.F.plainAttrs_list PySem.F.slot_list_append PySem.F.type_list_append mt_append (pv 3) (pa_cons (pe_meet (l := metLam (nthS sMR 9)) (T := T) (fr := ["_law_one", "_law_other", "_law_bad"]) (js := [1, 2, 6]) HM hr hg TB rfl mem uniq rfl (nscope_by (by decide +kernel)) (by decide) ⟨_, _, _, _, rfl⟩ (by decide +kernel : ∀ y ∈ (lamSc (metLam (nthS sMR 9))).names, y.2 = .free → (defScope sMR).names.lookup y.1 = some .cell) (by decide +kernel) (fun _ _ => rfl) (fun ok => Caps.made (scope := lamSc (metLam (nthS sMR 9))) ok (fun y hy e => .inl ((by decide +kernel : ∀ y ∈ (lamSc (metLam (nthS sMR 9))).names, y.2 = .free → (defScope sMR).names.lookup y.1 = some .cell) y hy e)) (by decide +kernel) rfl) (fun _ _ _ _ _ => rfl)) pa_nil))
theorem ps_M10 {f : Addr} {A : Around} {outer : List Env} {s : Shared} {H : Hp} {E : XK} (HM : HasG P w K mg base 14 "_law_met" ["_law_call"] (spMet P w K mg base c 10)) (TB : TabB base mg cM PM) (mem : (PM, qMR) ∈ T) (uniq : ∀ p ∈ T, p.1 = PM → p.2 = qMR) (hr : Room 14 (A.deeper (envOfC "_law_more_right" (defScope sMR) s.heap.objs.size f (.ref cM)))) (hg : A.guards = some []) : PS (cxOf CX0 P w K mg base NMR "_law_more_right" (defScope sMR) f (.ref cM) A outer s H E).nox (nthS sMR 10) (tMetB P w K mg base c T 3 ["_law_one", "_law_other", "_law_most"] [1, 2, 8] qMR (metLam (nthS sMR 10))) :=
  ps_expr (pe_bm PySem.F.plainAttrs_list PySem.F.slot_list_append PySem.F.type_list_append mt_append (pv 3) (pa_cons (pe_meet (l := metLam (nthS sMR 10)) (T := T) (fr := ["_law_one", "_law_other", "_law_most"]) (js := [1, 2, 8]) HM hr hg TB rfl mem uniq rfl (nscope_by (by decide +kernel)) (by decide) ⟨_, _, _, _, rfl⟩ (by decide +kernel : ∀ y ∈ (lamSc (metLam (nthS sMR 10))).names, y.2 = .free → (defScope sMR).names.lookup y.1 = some .cell) (by decide +kernel) (fun _ _ => rfl) (fun ok => Caps.made (scope := lamSc (metLam (nthS sMR 10))) ok (fun y hy e => .inl ((by decide +kernel : ∀ y ∈ (lamSc (metLam (nthS sMR 10))).names, y.2 = .free → (defScope sMR).names.lookup y.1 = some .cell) y hy e)) (by decide +kernel) rfl) (fun _ _ _ _ _ => rfl)) pa_nil))
theorem ps_M11 {f : Addr} {A : Around} {outer : List Env} {s : Shared} {H : Hp} {E : XK} (HM : HasG P w K mg base 14 "_law_met" ["_law_call"] (spMet P w K mg base c 10)) (TB : TabB base mg cM PM) (mem : (PM, qMR) ∈ T) (uniq : ∀ p ∈ T, p.1 = PM → p.2 = qMR) (hr : Room 14 (A.deeper (envOfC "_law_more_right" (defScope sMR) s.heap.objs.size f (.ref cM)))) (hg : A.guards = some []) : PS (cxOf CX0 P w K mg base NMR "_law_more_right" (defScope sMR) f (.ref cM) A outer s H E).nox (nthS sMR 11) (tMetB P w K mg base c T 3 ["_law_one", "_law_other", "_law_most"] [1, 2, 8] qMR (metLam (nthS sMR 11))) :=
  ps_expr (pe_bm PySem.F.plainAttrs_list PySem.F.slot_list_append PySem.F.type_list_append mt_append (pv 3) (pa_cons (pe_meet (l := metLam (nthS sMR 11)) (T := T) (fr := ["_law_one", "_law_other", "_law_most"]) (js := [1, 2, 8]) HM hr hg TB rfl mem uniq rfl (nscope_by (by decide +kernel)) (by decide) ⟨_, _, _, _, rfl⟩ (by decide +kernel : ∀ y ∈ (lamSc (metLam (nthS sMR 11))).names, y.2 = .free → (defScope sMR).names.lookup y.1 = some .cell) (by decide +kernel) (fun _ _ => rfl) (fun ok => Caps.made (scope := lamSc (metLam (nthS sMR 11))) ok (fun y hy e => .inl ((by decide +kernel : ∀ y ∈ (lamSc (metLam (nthS sMR 11))).names, y.2 = .free → (defScope sMR).names.lookup y.1 = some .cell) y hy e)) (by decide +kernel) rfl) (fun _ _ _ _ _ => rfl)) pa_nil))
theorem ps_M12 {f : Addr} {A : Around} {outer : List Env} {s : Shared} {H : Hp} {E : XK} (HM : HasG P w K mg base 14 "_law_met" ["_law_call"] (spMet P w K mg base c 10)) (TB : TabB base mg cM PM) (mem : (PM, qMR) ∈ T) (uniq : ∀ p ∈ T, p.1 = PM → p.2 = qMR) (hr : Room 14 (A.deeper (envOfC "_law_more_right" (defScope sMR) s.heap.objs.size f (.ref cM)))) (hg : A.guards = some []) : PS (cxOf CX0 P w K mg base NMR "_law_more_right" (defScope sMR) f (.ref cM) A outer s H E).nox (nthS sMR 12) (tMetB P w K mg base c T 3 ["_law_one", "_law_state"] [1, 10] qMR (metLam (nthS sMR 12))) :=
  ps_expr (pe_bm PySem.F.plainAttrs_list PySem.F.slot_list_append PySem.F.type_list_append mt_append (pv 3) (pa_cons (pe_meet (l := metLam (nthS sMR 12)) (T := T) (fr := ["_law_one", "_law_state"]) (js := [1, 10]) HM hr hg TB rfl mem uniq rfl (nscope_by (by decide +kernel)) (by decide) ⟨_, _, _, _, rfl⟩ (by decide +kernel : ∀ y ∈ (lamSc (metLam (nthS sMR 12))).names, y.2 = .free → (defScope sMR).names.lookup y.1 = some .cell) (by decide +kernel) (fun _ _ => rfl) (fun ok => Caps.made (scope := lamSc (metLam (nthS sMR 12))) ok (fun y hy e => .inl ((by decide +kernel : ∀ y ∈ (lamSc (metLam (nthS sMR 12))).names, y.2 = .free → (defScope sMR).names.lookup y.1 = some .cell) y hy e)) (by decide +kernel) rfl) (fun _ _ _ _ _ => rfl)) pa_nil))
theorem ps_M13 {f : Addr} {A : Around} {outer : List Env} {s : Shared} {H : Hp} {E : XK} (HM : HasG P w K mg base 14 "_law_met" ["_law_call"] (spMet P w K mg base c 10)) (TB : TabB base mg cM PM) (mem : (PM, qMR) ∈ T) (uniq : ∀ p ∈ T, p.1 = PM → p.2 = qMR) (hr : Room 14 (A.deeper (envOfC "_law_more_right" (defScope sMR) s.heap.objs.size f (.ref cM)))) (hg : A.guards = some []) : PS (cxOf CX0 P w K mg base NMR "_law_more_right" (defScope sMR) f (.ref cM) A outer s H E).nox (nthS sMR 13) (tMetB P w K mg base c T 3 ["_law_one", "_law_state", "_law_letters_here"] [1, 10, 7] qMR (metLam (nthS sMR 13))) :=
  ps_expr (pe_bm PySem.F.plainAttrs_list PySem.F.slot_list_append PySem.F.type_list_append mt_append (pv 3) (pa_cons (pe_meet (l := metLam (nthS sMR 13)) (T := T) (fr := ["_law_one", "_law_state", "_law_letters_here"]) (js := [1, 10, 7]) HM hr hg TB rfl mem uniq rfl (nscope_by (by decide +kernel)) (by decide) ⟨_, _, _, _, rfl⟩ (by decide +kernel : ∀ y ∈ (lamSc (metLam (nthS sMR 13))).names, y.2 = .free → (defScope sMR).names.lookup y.1 = some .cell) (by decide +kernel) (fun _ _ => rfl) (fun ok => Caps.made (scope := lamSc (metLam (nthS sMR 13))) ok (fun y hy e => .inl ((by decide +kernel : ∀ y ∈ (lamSc (metLam (nthS sMR 13))).names, y.2 = .free → (defScope sMR).names.lookup y.1 = some .cell) y hy e)) (by decide +kernel) rfl) (fun _ _ _ _ _ => rfl)) pa_nil))
theorem ps_M14 {f : Addr} {A : Around} {outer : List Env} {s : Shared} {H : Hp} {E : XK} (HM : HasG P w K mg base 14 "_law_met" ["_law_call"] (spMet P w K mg base c 10)) (TB : TabB base mg cM PM) (mem : (PM, qMR) ∈ T) (uniq : ∀ p ∈ T, p.1 = PM → p.2 = qMR) (hr : Room 14 (A.deeper (envOfC "_law_more_right" (defScope sMR) s.heap.objs.size f (.ref cM)))) (hg : A.guards = some []) : PS (cxOf CX0 P w K mg base NMR "_law_more_right" (defScope sMR) f (.ref cM) A outer s H E).nox (nthS sMR 14) (tMetB P w K mg base c T 3 ["_law_one", "_law_letters_here"] [1, 7] qMR (metLam (nthS sMR 14))) :=
  ps_expr (pe_bm PySem.F.plainAttrs_list PySem.F.slot_list_append PySem.F.type_list_append mt_append (pv 3) (pa_cons (pe_meet (l := metLam (nthS sMR 14)) (T := T) (fr := ["_law_one", "_law_letters_here"]) (js := [1, 7]) HM hr hg TB rfl mem uniq rfl (nscope_by (by decide +kernel)) (by decide) ⟨_, _, _, _, rfl⟩ (by decide +kernel : ∀ y ∈ (lamSc (metLam (nthS sMR 14))).names, y.2 = .free → (defScope sMR).names.lookup y.1 = some .cell) (by decide +kernel) (fun _ _ => rfl) (fun ok => Caps.made (scope := lamSc (metLam (nthS sMR 14))) ok (fun y hy e => .inl ((by decide +kernel : ∀ y ∈ (lamSc (metLam (nthS sMR 14))).names, y.2 = .free → (defScope sMR).names.lookup y.1 = some .cell) y hy e)) (by decide +kernel) rfl) (fun _ _ _ _ _ => rfl)) pa_nil))
theorem ok_mr {f : Addr} {oc kV doc pm ct : Value} {an od : Option Addr} {osl : Array (Option Value)} (lk : K.lookup f = some ⟨oc, od, .func (PySem.W.fnOf "_law_more_right" "_law_more_right" (defArgs sMR) (defBody sMR) (defScope sMR) .none kV doc pm an (.ref cM) ct), osl⟩) (hcd : PySem.W.codeIn K (.ref cM) "_law_more_right" = true)
    (Lb : Lib P w K mg base c C) (TB : TabB base mg cM PM) (mem : (PM, qMR) ∈ T) (uniq : ∀ p ∈ T, p.1 = PM → p.2 = qMR) (HM : HasG P w K mg base 14 "_law_met" ["_law_call"] (spMet P w K mg base c 10)) (HO : Has P w K mg base CX0 2 "_law_one_of" ["_law_dice_here", "_law_items"] spOne) (pl : PropL P w K mg base C) (IM : IniM P w K mg base C cE) (TT : TN mg) (rp : mg "repr" = none) :
    WG.FnG P w K mg base 15 f (PySem.W.fnOf "_law_more_right" "_law_more_right" (defArgs sMR) (defBody sMR) (defScope sMR) .none kV doc pm an (.ref cM) ct) ["_law_dice_here", "_law_one", "_law_other"] (spMR C T) := by
  obtain ⟨ppL, ggL, ddL, hpL, gpL, hbL⟩ := pl.ex
  obtain ⟨gC, fI, dI, MI, GI, bI⟩ := IM
  refine okGx (N := NMR) lk hcd scMR (fun vs H Q E h => ?_) (fun A outer s H vs Q E hr hg h => ?_)
  · obtain ⟨q, o, p, L, tb, es, rfl, _⟩ := h
    rfl
  · obtain ⟨p, o, o2, L, tb, es, rfl, hD, hT, m2, q⟩ := h
    have hr2 : Room 2 _ := hr.mono (by decide)
    have hr6 : Room 6 _ := hr.mono (by decide)
    have hu : (A.deeper (envOfC "_law_more_right" (defScope sMR) s.heap.objs.size f (.ref cM))).units + 100 < cLine := by
      have := hr.un
      omega
    have hu64 : (A.deeper (envOfC "_law_more_right" (defScope sMR) s.heap.objs.size f (.ref cM))).units + 64 < cLine := by omega
    have z0 : PS (cxOf CX0 P w K mg base NMR "_law_more_right" (defScope sMR) f (.ref cM) A outer s H E).nox (nthS sMR 0) _ := ps_set (i := 6) scMR.nd rfl (Or.inr rfl) (pe_has (E := E0) HO hr2 pass0 (pa_cons (pv 0) (pa_cons (pe_lst (pa_cons pe_non (pa_cons pe_int (pa_cons (pe_tup pa_nil) (pa_cons pe_str (pa_cons (pe_tup (pa_cons pe_str (pa_cons pe_str pa_nil))) (pa_cons (pe_lst (pa_cons pe_str (pa_cons pe_str pa_nil))) (pa_cons pe_dnewK (pa_cons (pe_tup (pa_cons pe_str (pa_cons pe_non pa_nil))) pa_nil))))))))) pa_nil)))
    have z1 : PS (cxOf CX0 P w K mg base NMR "_law_more_right" (defScope sMR) f (.ref cM) A outer s H E).nox (nthS sMR 1) _ := ps_set (i := 9) scMR.nd rfl (Or.inr rfl) (pe_has (E := E0) HO hr2 pass0 (pa_cons (pv 0) (pa_cons (pe_lst (pa_cons pe_non (pa_cons (pe_un un_neg pe_int) (pa_cons pe_int (pa_cons pe_bl (pa_cons pe_str (pa_cons (pe_tup pa_nil) (pa_cons (pe_op op_pow pe_int pe_int) pa_nil)))))))) pa_nil)))
    have z2 : PS (cxOf CX0 P w K mg base NMR "_law_more_right" (defScope sMR) f (.ref cM) A outer s H E).nox (nthS sMR 2) _ := ps_set (i := 8) scMR.nd rfl (Or.inr rfl) (pe_has (E := E0) HO hr2 pass0 (pa_cons (pv 0) (pa_cons (pe_lst (pa_cons pe_non (pa_cons (pe_un un_neg pe_int) (pa_cons pe_int (pa_cons pe_bl (pa_cons pe_str (pa_cons (pe_tup pa_nil) pa_nil))))))) pa_nil)))
    have z3 : PS (cxOf CX0 P w K mg base NMR "_law_more_right" (defScope sMR) f (.ref cM) A outer s H E).nox (nthS sMR 3) _ := ps_set (i := 10) scMR.nd rfl (Or.inr rfl) (pe_has (E := E0) HO hr2 pass0 (pa_cons (pv 0) (pa_cons (pe_lst (pa_cons pe_non (pa_cons (pe_un un_neg pe_int) (pa_cons pe_int (pa_cons pe_bl (pa_cons pe_str (pa_cons (pe_tup pa_nil) (pa_cons (pe_op op_pow pe_int pe_int) pa_nil)))))))) pa_nil)))
    have z4 : PS (cxOf CX0 P w K mg base NMR "_law_more_right" (defScope sMR) f (.ref cM) A outer s H E).nox (nthS sMR 4) _ := ps_set (i := 7) scMR.nd rfl (Or.inr rfl) (pe_has (E := E0) HO hr2 pass0 (pa_cons (pv 0) (pa_cons (pe_lst (pa_cons pe_non (pa_cons pe_str (pa_cons pe_str (pa_cons pe_str (pa_cons pe_int (pa_cons (pe_tup pa_nil) (pa_cons pe_str (pa_cons (pe_tup (pa_cons pe_str pa_nil)) pa_nil))))))))) pa_nil)))
    have z5 : PS (cxOf CX0 P w K mg base NMR "_law_more_right" (defScope sMR) f (.ref cM) A outer s H E).nox (nthS sMR 5) _ := ps_set (i := 5) scMR.nd rfl (Or.inr rfl) (pe_make (E := fun _ _ _ => False) MI GI hr6 rfl gC bI .nil no_pass (pa_cons (pe_prop (E := E0) (pv 1) Lb.cl hpL gpL hr2 hbL .nil pass0 rfl) (pa_cons (pe_tup (pa_cons (pe_op op_repT (pe_tup (pa_cons pe_int pa_nil)) (pe_callB call_len_str (by rfl) TT.len PySem.boot_len (pa_cons (pe_prop (E := E0) (pv 1) Lb.cl hpL gpL hr2 hbL .nil pass0 rfl) pa_nil))) pa_nil)) (pa_cons (pe_tup (pa_cons pe_int pa_nil)) pa_nil))))
    have z15 : PS (cxOf CX0 P w K mg base NMR "_law_more_right" (defScope sMR) f (.ref cM) A outer s H E).nox (nthS sMR 15) _ := ps_set (i := 4) scMR.nd rfl (Or.inl rfl) (pe_op op_cat (pe_lst (pa_cons pe_str (pa_cons (pe_op op_add_str pe_str (pe_callB (call_reprV hg hu) (by rfl) rp (by decide +kernel) (pa_cons (pv 9) pa_nil))) (pa_cons pe_str (pa_cons pe_str pa_nil))))) (pe_op op_rep (pe_lst (pa_cons (pe_op op_add_str pe_str (pe_callB (call_reprV hg hu) (by rfl) rp (by decide +kernel) (pa_cons (pv 8) pa_nil))) pa_nil)) pe_int))
    have z16 : PS (cxOf CX0 P w K mg base NMR "_law_more_right" (defScope sMR) f (.ref cM) A outer s H E).nox (nthS sMR 16) _ := ps_ret (pe_cmpR (op_eqD hu64) (pv 3) (pe_op op_cat (pe_op op_cat (pv 4) (pe_op op_rep (pe_lst (pa_cons (pe_op op_add_str pe_str (pe_callB (call_reprV hg hu) (by rfl) rp (by decide +kernel) (pa_cons (pv 10) pa_nil))) pa_nil)) pe_int)) (pe_lst (pa_cons pe_str pa_nil))) (nomark _))
    refine ⟨_, (pss_cons z0 (pss_cons z1 (pss_cons z2 (pss_cons z3 (pss_cons z4 (pss_cons z5 (pss_cons (ps_M6 HM TB mem uniq hr hg) (pss_cons (ps_M7 HM TB mem uniq hr hg) (pss_cons (ps_M8 HM TB mem uniq hr hg) (pss_cons (ps_M9 HM TB mem uniq hr hg) (pss_cons (ps_M10 HM TB mem uniq hr hg) (pss_cons (ps_M11 HM TB mem uniq hr hg) (pss_cons (ps_M12 HM TB mem uniq hr hg) (pss_cons (ps_M13 HM TB mem uniq hr hg) (pss_cons (ps_M14 HM TB mem uniq hr hg) (pss_cons z15 (pss_one z16))))))))))))))))), ?_⟩
    clear z0 z1 z2 z3 z4 z5 z15 z16
    refine ⟨_, rfl, by rw [sizeLine_eq]; simp only [List.length_cons, List.length_nil]; omega, fun u1 hu1 => ⟨by rw [sizeLine_eq]; simp only [List.length_cons, List.length_nil]; omega, fun u2 hu2 => ⟨by rw [sizeLine_eq]; simp only [List.length_cons, List.length_nil]; omega, fun u3 hu3 => fun u4 hu4 => ⟨by rw [sizeLine_eq]; simp only [List.length_cons, List.length_nil]; omega, fun u5 hu5 => ⟨by rw [sizeLine_eq]; simp only [List.length_cons, List.length_nil]; omega, fun a1 ha1 => ?_⟩⟩⟩⟩⟩
    have s0_1 := same_upd (o := .tup []) hu1
    have s1_1 := same_two s0_1 (o := .tup [.str "word", .str "A"]) hu2
    have s2_1 := same_two s1_1 (o := .lst [.str "word", .str ""]) hu3
    have s3_1 := same_two s2_1 (o := .dK []) hu4
    have s4_1 := same_two s3_1 (o := .tup [.str "blocks", .non]) hu5
    have e_u1 := (same_upd hu5 (o := .tup [.str "blocks", .non]) _ _ (same_upd hu4 (o := .dK []) _ _ (same_upd hu3 (o := .lst [.str "word", .str ""]) _ _ (same_upd hu2 (o := .tup [.str "word", .str "A"]) _ _ (upd_same (H := H) (a := u1) (o := .tup []))))))
    have e_u2 := (same_upd hu5 (o := .tup [.str "blocks", .non]) _ _ (same_upd hu4 (o := .dK []) _ _ (same_upd hu3 (o := .lst [.str "word", .str ""]) _ _ (upd_same (H := (upd H u1 (.tup []))) (a := u2) (o := .tup [.str "word", .str "A"])))))
    have e_u3 := (same_upd hu5 (o := .tup [.str "blocks", .non]) _ _ (same_upd hu4 (o := .dK []) _ _ (upd_same (H := (upd (upd H u1 (.tup [])) u2 (.tup [.str "word", .str "A"]))) (a := u3) (o := .lst [.str "word", .str ""]))))
    have e_u4 := (same_upd hu5 (o := .tup [.str "blocks", .non]) _ _ (upd_same (H := (upd (upd (upd H u1 (.tup [])) u2 (.tup [.str "word", .str "A"])) u3 (.lst [.str "word", .str ""]))) (a := u4) (o := .dK [])))
    have e_u5 := (upd_same (H := (upd (upd (upd (upd H u1 (.tup [])) u2 (.tup [.str "word", .str "A"])) u3 (.lst [.str "word", .str ""])) u4 (.dK []))) (a := u5) (o := .tup [.str "blocks", .non]))
    generalize (upd (upd (upd (upd (upd H u1 (.tup [])) u2 (.tup [.str "word", .str "A"])) u3 (.lst [.str "word", .str ""])) u4 (.dK [])) u5 (.tup [.str "blocks", .non])) = G1 at s4_1 e_u1 e_u2 e_u3 e_u4 e_u5 ha1 ⊢
    have g1 : DiceAt G1 p := hD.keep fun _ e => s4_1 _ _ e
    refine ⟨p, a1, _, rfl, g1.new ha1, g1.ne ha1, upd_same, by simp only [List.length_cons, List.length_nil]; omega, by simp only [List.length_cons, List.length_nil]; omega, fun vB H1 hv1 d1 b1 => ?_⟩
    have bt1 : ButT p H H1 := ButT.ofBut ((But.ofSame (s4_1.trans (same_upd ha1))).trans b1)
    have T1 : Tabs T H1 := tabs_but ((hT.ext s4_1).ext (same_upd ha1)) (g1.new ha1) b1
    have k_u1 := b1 _ _ (same_upd ha1 _ _ e_u1) (g1.off e_u1 fun _ _ _ => (nomatch ·))
    have k_u2 := b1 _ _ (same_upd ha1 _ _ e_u2) (g1.off e_u2 fun _ _ _ => (nomatch ·))
    have k_u3 := b1 _ _ (same_upd ha1 _ _ e_u3) (g1.off e_u3 fun _ _ _ => (nomatch ·))
    have k_u4 := b1 _ _ (same_upd ha1 _ _ e_u4) (g1.off e_u4 fun _ _ _ => (nomatch ·))
    have k_u5 := b1 _ _ (same_upd ha1 _ _ e_u5) (g1.off e_u5 fun _ _ _ => (nomatch ·))
    clear e_u1 e_u2 e_u3 e_u4 e_u5
    have oB : BadPB H1 vB := by
      simp only [List.mem_cons, List.not_mem_nil, or_false] at hv1
      rcases hv1 with rfl | rfl | rfl | rfl | rfl | rfl | rfl | rfl
      · exact .non
      · exact .int _
      · exact .emp k_u1
      · exact .str
      · exact .wrd k_u2
      · exact .lst k_u3
      · exact .dic k_u4
      · exact .blk k_u5
    have m2 := m2.bx bt1.bx hD
    clear hv1 b1 ha1 g1 k_u1 k_u2 k_u3 k_u4 k_u5 s4_1 s3_1 s2_1 s1_1 s0_1 hu5 hu4 hu3 hu2 hu1
    refine ⟨_, rfl, _, rfl, by rw [sizeLine_eq]; simp only [List.length_cons, List.length_nil]; omega, fun c1 hc1 => ⟨_, _, rfl, rfl, ⟨by decide, by decide, by decide +kernel⟩, by rw [sizeLine_eq]; simp only [List.length_cons, List.length_nil]; omega, fun a2 ha2 => ?_⟩⟩
    have s0_2 := same_upd (o := .tup []) hc1
    have e_c1 := (upd_same (H := H1) (a := c1) (o := .tup []))
    generalize (upd H1 c1 (.tup [])) = G2 at s0_2 e_c1 ha2 ⊢
    have g2 : DiceAt G2 p := d1.keep fun _ e => s0_2 _ _ e
    refine ⟨p, a2, _, rfl, g2.new ha2, g2.ne ha2, upd_same, by simp only [List.length_cons, List.length_nil]; omega, by simp only [List.length_cons, List.length_nil]; omega, fun vU H2 hv2 d2 b2 => ?_⟩
    have bt2 : ButT p H1 H2 := ButT.ofBut ((But.ofSame (s0_2.trans (same_upd ha2))).trans b2)
    have T2 : Tabs T H2 := tabs_but ((T1.ext s0_2).ext (same_upd ha2)) (g2.new ha2) b2
    have k_c1 := b2 _ _ (same_upd ha2 _ _ e_c1) (g2.off e_c1 fun _ _ _ => (nomatch ·))
    clear e_c1
    obtain ⟨xU, oU⟩ : ∃ x, OddN 0 20 H2 vU x := by
      simp only [List.mem_cons, List.not_mem_nil, or_false] at hv2
      rcases hv2 with rfl | rfl | rfl | rfl | rfl | rfl | rfl
      · exact ⟨_, .non, rfl⟩
      · exact ⟨_, .int _ (by decide +kernel) (by decide +kernel) (by decide +kernel), by decide +kernel⟩
      · exact ⟨_, .int _ (by decide +kernel) (by decide +kernel) (by decide +kernel), by decide +kernel⟩
      · exact ⟨_, .tru, rfl⟩
      · exact ⟨_, .one, rfl⟩
      · exact ⟨_, .tup k_c1, rfl⟩
      · exact ⟨_, .int _ (by decide +kernel) (by decide +kernel) (by decide +kernel), by decide +kernel⟩
    have m2 := m2.bx bt2.bx d1
    have oB := oB.bx bt2.bx d1
    have bt02 := bt1.trans bt2
    clear hv2 b2 ha2 g2 k_c1 s0_2 hc1
    refine ⟨_, rfl, _, rfl, by rw [sizeLine_eq]; simp only [List.length_cons, List.length_nil]; omega, fun d1 hd1 => ⟨by rw [sizeLine_eq]; simp only [List.length_cons, List.length_nil]; omega, fun a3 ha3 => ?_⟩⟩
    have s0_3 := same_upd (o := .tup []) hd1
    have e_d1 := (upd_same (H := H2) (a := d1) (o := .tup []))
    generalize (upd H2 d1 (.tup [])) = G3 at s0_3 e_d1 ha3 ⊢
    have g3 : DiceAt G3 p := d2.keep fun _ e => s0_3 _ _ e
    refine ⟨p, a3, _, rfl, g3.new ha3, g3.ne ha3, upd_same, by simp only [List.length_cons, List.length_nil]; omega, by simp only [List.length_cons, List.length_nil]; omega, fun vM H3 hv3 d3 b3 => ?_⟩
    have bt3 : ButT p H2 H3 := ButT.ofBut ((But.ofSame (s0_3.trans (same_upd ha3))).trans b3)
    have T3 : Tabs T H3 := tabs_but ((T2.ext s0_3).ext (same_upd ha3)) (g3.new ha3) b3
    have k_d1 := b3 _ _ (same_upd ha3 _ _ e_d1) (g3.off e_d1 fun _ _ _ => (nomatch ·))
    clear e_d1
    obtain ⟨xM, oM⟩ : ∃ x, OddN 0 3 H3 vM x := by
      simp only [List.mem_cons, List.not_mem_nil, or_false] at hv3
      rcases hv3 with rfl | rfl | rfl | rfl | rfl | rfl
      · exact ⟨_, .non, rfl⟩
      · exact ⟨_, .int _ (by decide +kernel) (by decide +kernel) (by decide +kernel), by decide +kernel⟩
      · exact ⟨_, .int _ (by decide +kernel) (by decide +kernel) (by decide +kernel), by decide +kernel⟩
      · exact ⟨_, .tru, rfl⟩
      · exact ⟨_, .one, rfl⟩
      · exact ⟨_, .tup k_d1, rfl⟩
    have m2 := m2.bx bt3.bx d2
    have oB := oB.bx bt3.bx d2
    have oU := oU.bx bt3.bx d2
    have bt03 := bt02.trans bt3
    clear hv3 b3 ha3 g3 k_d1 s0_3 hd1
    refine ⟨_, rfl, _, rfl, by rw [sizeLine_eq]; simp only [List.length_cons, List.length_nil]; omega, fun f1 hf1 => ⟨_, _, rfl, rfl, ⟨by decide, by decide, by decide +kernel⟩, by rw [sizeLine_eq]; simp only [List.length_cons, List.length_nil]; omega, fun a4 ha4 => ?_⟩⟩
    have s0_4 := same_upd (o := .tup []) hf1
    have e_f1 := (upd_same (H := H3) (a := f1) (o := .tup []))
    generalize (upd H3 f1 (.tup [])) = G4 at s0_4 e_f1 ha4 ⊢
    have g4 : DiceAt G4 p := d3.keep fun _ e => s0_4 _ _ e
    refine ⟨p, a4, _, rfl, g4.new ha4, g4.ne ha4, upd_same, by simp only [List.length_cons, List.length_nil]; omega, by simp only [List.length_cons, List.length_nil]; omega, fun vS H4 hv4 d4 b4 => ?_⟩
    have bt4 : ButT p H3 H4 := ButT.ofBut ((But.ofSame (s0_4.trans (same_upd ha4))).trans b4)
    have T4 : Tabs T H4 := tabs_but ((T3.ext s0_4).ext (same_upd ha4)) (g4.new ha4) b4
    have k_f1 := b4 _ _ (same_upd ha4 _ _ e_f1) (g4.off e_f1 fun _ _ _ => (nomatch ·))
    clear e_f1
    obtain ⟨xS, oS, nS⟩ : ∃ x, OddN 0 3 H4 vS x ∧ numB vS 0 ((tb.length : Int) - 1) = false := by
      simp only [List.mem_cons, List.not_mem_nil, or_false] at hv4
      rcases hv4 with rfl | rfl | rfl | rfl | rfl | rfl | rfl
      · exact ⟨_, ⟨.non, rfl⟩, rfl⟩
      · exact ⟨_, ⟨.int _ (by decide +kernel) (by decide +kernel) (by decide +kernel), by decide +kernel⟩, by have := m2.n4; have := m2.n1; show (decide ((0 : Int) ≤ (-1)) && decide ((-1) ≤ (tb.length : Int) - 1)) = false; first | (rw [decide_eq_false (show ¬ ((0 : Int) ≤ (-1)) by omega)] <;> rfl) | (rw [decide_eq_false (show ¬ ((-1) ≤ (tb.length : Int) - 1) by omega), Bool.and_false])⟩
      · exact ⟨_, ⟨.int _ (by decide +kernel) (by decide +kernel) (by decide +kernel), by decide +kernel⟩, by have := m2.n4; have := m2.n1; show (decide ((0 : Int) ≤ 4) && decide (4 ≤ (tb.length : Int) - 1)) = false; first | (rw [decide_eq_false (show ¬ ((0 : Int) ≤ 4) by omega)] <;> rfl) | (rw [decide_eq_false (show ¬ (4 ≤ (tb.length : Int) - 1) by omega), Bool.and_false])⟩
      · exact ⟨_, ⟨.tru, rfl⟩, rfl⟩
      · exact ⟨_, ⟨.nul, rfl⟩, rfl⟩
      · exact ⟨_, ⟨.tup k_f1, rfl⟩, rfl⟩
      · exact ⟨_, ⟨.int _ (by decide +kernel) (by decide +kernel) (by decide +kernel), by decide +kernel⟩, by have := m2.n4; have e12 : ((10 : Int) ^ (12 : Int).toNat) = 1000000000000 := (by decide +kernel); show (decide ((0 : Int) ≤ (10 : Int) ^ (12 : Int).toNat) && decide ((10 : Int) ^ (12 : Int).toNat ≤ (tb.length : Int) - 1)) = false; rw [decide_eq_false (show ¬ ((10 : Int) ^ (12 : Int).toNat ≤ (tb.length : Int) - 1) by rw [e12]; omega), Bool.and_false]⟩
    have m2 := m2.bx bt4.bx d3
    have oB := oB.bx bt4.bx d3
    have oU := oU.bx bt4.bx d3
    have oM := oM.bx bt4.bx d3
    have bt04 := bt03.trans bt4
    clear hv4 b4 ha4 g4 k_f1 s0_4 hf1
    refine ⟨_, rfl, by rw [sizeLine_eq]; simp only [List.length_cons, List.length_nil]; omega, fun g1 hg1 => ⟨by rw [sizeLine_eq]; simp only [List.length_cons, List.length_nil]; omega, fun g2 hg2 => ⟨by rw [sizeLine_eq]; simp only [List.length_cons, List.length_nil]; omega, fun a5 ha5 => ?_⟩⟩⟩
    have s0_5 := same_upd (o := .tup []) hg1
    have s1_5 := same_two s0_5 (o := .tup [.str "a"]) hg2
    have e_g1 := (same_upd hg2 (o := .tup [.str "a"]) _ _ (upd_same (H := H4) (a := g1) (o := .tup [])))
    have e_g2 := (upd_same (H := (upd H4 g1 (.tup []))) (a := g2) (o := .tup [.str "a"]))
    generalize (upd (upd H4 g1 (.tup [])) g2 (.tup [.str "a"])) = G5 at s1_5 e_g1 e_g2 ha5 ⊢
    have g5 : DiceAt G5 p := d4.keep fun _ e => s1_5 _ _ e
    refine ⟨p, a5, _, rfl, g5.new ha5, g5.ne ha5, upd_same, by simp only [List.length_cons, List.length_nil]; omega, by simp only [List.length_cons, List.length_nil]; omega, fun vL H5 hv5 d5 b5 => ?_⟩
    have bt5 : ButT p H4 H5 := ButT.ofBut ((But.ofSame (s1_5.trans (same_upd ha5))).trans b5)
    have T5 : Tabs T H5 := tabs_but ((T4.ext s1_5).ext (same_upd ha5)) (g5.new ha5) b5
    have k_g1 := b5 _ _ (same_upd ha5 _ _ e_g1) (g5.off e_g1 fun _ _ _ => (nomatch ·))
    have k_g2 := b5 _ _ (same_upd ha5 _ _ e_g2) (g5.off e_g2 fun _ _ _ => (nomatch ·))
    clear e_g1 e_g2
    have oL : BadLt H5 vL := by
      simp only [List.mem_cons, List.not_mem_nil, or_false] at hv5
      rcases hv5 with rfl | rfl | rfl | rfl | rfl | rfl | rfl | rfl
      · exact .non
      · exact .str _ (by decide +kernel) (by decide +kernel)
      · exact .str _ (by decide +kernel) (by decide +kernel)
      · exact .str _ (by decide +kernel) (by decide +kernel)
      · exact .int _
      · exact .tup k_g1
      · exact .xyz
      · exact .tup k_g2
    have m2 := m2.bx bt5.bx d4
    have oB := oB.bx bt5.bx d4
    have oU := oU.bx bt5.bx d4
    have oM := oM.bx bt5.bx d4
    have oS := oS.bx bt5.bx d4
    have bt05 := bt04.trans bt5
    clear hv5 b5 ha5 g5 k_g1 k_g2 s1_5 s0_5 hg2 hg1
    clear hD hT T1 T2 T3 T4 d1 d2 d3 d4 bt1 bt2 bt3 bt4 bt5 bt02 bt03 bt04
    have B0 : ∀ {n : Nat}, n ≤ 100 → n ≤ sizeLine := fun h => by rw [sizeLine_eq]; omega
    -- the machine of all words
    obtain ⟨dxo, to, eo, tso, k1, k2, k3, k4⟩ := m2.one.ex
    have tl : (tx L).length = 2 := by rw [tx_len, m2.len]
    refine ⟨_, rfl, o, dxo, _, rfl, k1, o, dxo, _, _, rfl, k1, fld_L, B0 (by show 1 ≤ 100; decide), fun t0 h0 => ?_⟩
    have k1a := same_upd (o := .tup [.int 0]) h0 _ _ k1
    refine ⟨_, rfl, o, dxo, _, rfl, k1a, o, dxo, _, _, rfl, k1a, fld_L, _, rfl, by rw [tl]; exact B0 (by decide), ?_⟩
    rw [tl]
    refine ⟨t0, 2, _, rfl, rfl, SqT.of upd_same, (nomatch ·), by decide, by decide, by show 1 ≤ 1000; decide, fun t1 h1 => ⟨B0 (by show 1 ≤ 100; decide), fun t2 h2 => ⟨B0 (by show 1 ≤ 100; decide), fun t3 h3 z dx hx hdx nzd => ?_⟩⟩⟩
    have s0 := same_upd (o := .tup [.int 0]) h0
    have s1 := same_upd (o := .tup (List.replicate (2 : Int).toNat [V.int 0]).flatten) h1
    have s2 := same_upd (o := .tup [.ref t1]) h2
    have s3 := same_upd (o := .tup [.int 0]) h3
    have e1 := s3 _ _ (s2 _ _ (upd_same (H := upd H5 t0 (.tup [.int 0])) (a := t1) (o := .tup (List.replicate (2 : Int).toNat [V.int 0]).flatten)))
    have e2 := s3 _ _ (upd_same (H := upd (upd H5 t0 (.tup [.int 0])) t1 (.tup (List.replicate (2 : Int).toNat [V.int 0]).flatten)) (a := t2) (o := .tup [.ref t1]))
    have e3 := upd_same (H := upd (upd (upd H5 t0 (.tup [.int 0])) t1 (.tup (List.replicate (2 : Int).toNat [V.int 0]).flatten)) t2 (.tup [.ref t1])) (a := t3) (o := .tup [.int 0])
    have s03 := s0.trans (s1.trans (s2.trans s3))
    generalize upd (upd (upd (upd H5 t0 (.tup [.int 0])) t1 (.tup (List.replicate (2 : Int).toNat [V.int 0]).flatten)) t2 (.tup [.ref t1])) t3 (.tup [.int 0]) = G1 at e1 e2 e3 s03 hx hdx ⊢
    clear s0 s1 s2 s3 h0 h1 h2 h3
    have s5 : Same G1 (upd (upd G1 dx (.own z)) z (.ins C dx [])) := fun b o y => by rw [upd_ne (ne_of_none y hx), upd_ne (ne_of_none y hdx)]; exact y
    have o1 : Objs oTup (upd (upd G1 dx (.own z)) z (.ins C dx [])) [t1] [[0, 0]] := ⟨s5 _ _ e1, trivial⟩
    refine ⟨z, dx, .str (tx L), .ref t2, .ref t3, some (tx L), some (rsOf [[0, 0]]), some [.int 0], rfl, upd_same, ⟨rfl, by rw [tl]; decide⟩, ⟨t2, _, rfl, SqT.of (s5 _ _ e2), by show 1 ≤ 100; decide, rows_of (wd := 2) (by decide) o1 fun r hr => (by rw [List.mem_singleton.mp hr] <;> rfl)⟩, ⟨t3, rfl, SqT.of (s5 _ _ e3), by decide, fun y hy => (by rw [List.mem_singleton.mp hy]; exact .inl ⟨0, rfl⟩)⟩, .inl ⟨?_, fun H6 h6 k6 => ⟨rfl, ?_⟩⟩⟩
    · rw [made_t, letB_let m2.let_, tl]
      decide +kernel
    have s6 : Same G1 H6 := fun b o y => k6 b o (s5 _ _ y) (ne_of_none y hx)
    have m0 : Mac0 C H6 z L [[0, 0]] [0] 1 := ⟨⟨dx, t2, t3, [t1], h6, s6 _ _ e2, ⟨s6 _ _ e1, trivial⟩, s6 _ _ e3⟩, ⟨rfl, fun r hr => (by rw [List.mem_singleton.mp hr]; exact ⟨m2.len.symm, fun i hi => zero_in hi⟩)⟩, by decide, by decide, m2.let_, by decide⟩
    have x6 : ExtN H5 H6 := fun b o e _ => s6 _ _ (s03 _ _ e)
    have T6 : Tabs T H6 := T5.ext (s03.trans s6)
    have bt6 : ButT p H5 H6 := ButT.ofSame (s03.trans s6)
    have bt06 := bt05.trans bt6
    have m2 := m2.ext x6
    have oB := oB.ext x6
    have oU := oU.ext x6
    have oM := oM.ext x6
    have oS := oS.ext x6
    have oL := oL.ext x6
    have d6 : DiceAt H6 p := d5.keep fun _ e => s6 _ _ (s03 _ _ e)
    clear e1 e2 e3 s03 s5 s6 o1 h6 k6 hx hdx nzd k1 k1a k2 k3 k4 x6 bt05 bt6 T5 d5
    -- the calls
    refine ⟨[.ref o, .ref o2, vB, vU], _, rfl, T6, meets_M6 Lb m2 oB, fun G gr => ⟨B0 (by show 1 ≤ 100; decide), fun lf hlf => ?_⟩⟩
    have fd := told_one (wd := "operation") gr hlf
    generalize upd G lf (.lst [.str "operation"]) = G2 at fd ⊢
    clear gr hlf
    refine told_step fd (by show 1 < 100; decide) (vals := [.ref z, vU]) (wd := ("number " ++ xU)) rfl rfl (meets_M7 Lb m0 oU) (fun G7 fd => ?_)
    refine told_step fd (by show 2 < 100; decide) (vals := [.ref z]) (wd := "fine") rfl rfl (meets_M8 Lb m0) (fun G8 fd => ?_)
    refine told_step fd (by show 3 < 100; decide) (vals := [.ref o, .ref o2, vB]) (wd := "operation") rfl rfl (meets_M9 Lb m2 oB) (fun G9 fd => ?_)
    refine told_step fd (by show 4 < 100; decide) (vals := [.ref o, .ref o2, vM]) (wd := ("number " ++ xM)) rfl rfl (meets_M10 Lb m2 oM) (fun G10 fd => ?_)
    refine told_step fd (by show 5 < 100; decide) (vals := [.ref o, .ref o2, vM]) (wd := ("number " ++ xM)) rfl rfl (meets_M11 Lb m2 oM) (fun G11 fd => ?_)
    refine told_step fd (by show 6 < 100; decide) (vals := [.ref o, vS]) (wd := ("number " ++ xS)) rfl rfl (meets_M12 Lb m2 oS nS) (fun G12 fd => ?_)
    refine told_step fd (by show 7 < 100; decide) (vals := [.ref o, vS, vL]) (wd := ("number " ++ xS)) rfl rfl (meets_M13 Lb m2 oS nS) (fun G13 fd => ?_)
    refine told_step fd (by show 8 < 100; decide) (vals := [.ref o, vL]) (wd := "operation") rfl rfl (meets_M14 Lb m2 oL) (fun G14 fd => ?_)
    have x14 := fd.ext
    have e_lf := fd.at_
    have T14 := fd.tabs
    clear fd
    have shU := oU.1.ext x14
    have shM := oM.1.ext x14
    have shS := oS.1.ext x14
    have len7 : (("number " : Str)).length = 7 := by decide +kernel
    have zU : ("number " : Str).length + xU.length ≤ sizeLine := by have := shU.few; rw [sizeLine_eq]; omega
    have zM : ("number " : Str).length + xM.length ≤ sizeLine := by have := shM.few; rw [sizeLine_eq]; omega
    have zS : ("number " : Str).length + xS.length ≤ sizeLine := by have := shS.few; rw [sizeLine_eq]; omega
    have lays : ∀ y ∈ (["operation", "number " ++ xU, "fine", "operation", "number " ++ xM, "number " ++ xM, "number " ++ xS, "number " ++ xS, "operation"] : List Str), PyData.canLay0 (.str y) = true := fun y hy => by
      simp only [List.mem_cons, List.not_mem_nil, or_false] at hy
      rcases hy with rfl | rfl | rfl | rfl | rfl | rfl | rfl | rfl | rfl
      · decide +kernel
      · exact lay_num shU.lay
      · decide +kernel
      · decide +kernel
      · exact lay_num shM.lay
      · exact lay_num shM.lay
      · exact lay_num shS.lay
      · exact lay_num shS.lay
      · decide +kernel
    -- what is due
    refine ⟨_, rfl, _, xU, rfl, shU, _, _, rfl, rfl, zU, B0 (by show 4 ≤ 100; decide), fun l1 hl1 => ?_⟩
    have s1 := same_upd (o := .lst [.str "operation", .str ("number " ++ xU), .str "fine", .str "operation"]) hl1
    refine ⟨_, rfl, _, xM, rfl, shM.to fun _ _ _ e => s1 _ _ e, _, _, rfl, rfl, zM, B0 (by show 1 ≤ 100; decide), fun l2 hl2 => ?_⟩
    have s2 := same_upd (o := .lst [.str ("number " ++ xM)]) hl2
    refine ⟨l2, 2, _, rfl, rfl, upd_same, by decide, by decide, B0 (by show 2 ≤ 100; decide), fun l3 hl3 => ?_⟩
    have s3 := same_upd (o := .lst (List.replicate (2 : Int).toNat [V.str ("number " ++ xM)]).flatten) hl3
    refine ⟨l1, l3, _, _, rfl, rfl, s3 _ _ (s2 _ _ upd_same), upd_same, B0 (by show 6 ≤ 100; decide), fun l4 hl4 => ?_⟩
    have s4 := same_upd (o := .lst ([.str "operation", .str ("number " ++ xU), .str "fine", .str "operation"] ++ (List.replicate (2 : Int).toNat [V.str ("number " ++ xM)]).flatten)) hl4
    have e4 := upd_same (H := upd (upd (upd G14 l1 (.lst [.str "operation", .str ("number " ++ xU), .str "fine", .str "operation"])) l2 (.lst [.str ("number " ++ xM)])) l3 (.lst (List.replicate (2 : Int).toNat [V.str ("number " ++ xM)]).flatten)) (a := l4) (o := .lst ([.str "operation", .str ("number " ++ xU), .str "fine", .str "operation"] ++ (List.replicate (2 : Int).toNat [V.str ("number " ++ xM)]).flatten))
    have s14 := s1.trans (s2.trans (s3.trans s4))
    generalize upd (upd (upd (upd G14 l1 (.lst [.str "operation", .str ("number " ++ xU), .str "fine", .str "operation"])) l2 (.lst [.str ("number " ++ xM)])) l3 (.lst (List.replicate (2 : Int).toNat [V.str ("number " ++ xM)]).flatten)) l4 _ = G15 at e4 s14 ⊢
    clear s1 s2 s3 s4 hl1 hl2 hl3 hl4
    refine ⟨_, rfl, _, rfl, _, rfl, _, xS, rfl, shS.to fun _ _ _ e => s14 _ _ e, _, _, rfl, rfl, zS, B0 (by show 1 ≤ 100; decide), fun m1 hm1 => ?_⟩
    have s1 := same_upd (o := .lst [.str ("number " ++ xS)]) hm1
    refine ⟨m1, 2, _, rfl, rfl, upd_same, by decide, by decide, B0 (by show 2 ≤ 100; decide), fun m2' hm2 => ?_⟩
    have s2 := same_upd (o := .lst (List.replicate (2 : Int).toNat [V.str ("number " ++ xS)]).flatten) hm2
    refine ⟨l4, m2', _, _, rfl, rfl, s2 _ _ (s1 _ _ e4), upd_same, B0 (by show 8 ≤ 100; decide), fun m3 hm3 => ⟨B0 (by show 1 ≤ 100; decide), fun m4 hm4 => ?_⟩⟩
    have s3 := fun o => same_upd (o := o) hm3
    have s4 := same_upd (o := .lst [.str "operation"]) hm4
    refine ⟨m3, m4, _, _, rfl, rfl, s4 _ _ upd_same, upd_same, B0 (by show 9 ≤ 100; decide), fun m5 hm5 => ?_⟩
    have s5 := fun o => same_upd (o := o) hm5
    have sF := fun o => s14.trans (s1.trans (s2.trans ((s3 _).trans (s4.trans (s5 o)))))
    obtain ⟨d, dp1, dp2, sh, ev⟩ := dp_two (K := K) _ (sF _ _ _ e_lf) upd_same lays
    refine ⟨d, d, dp1, dp2, sh, sh, ?_⟩
    rw [ev]
    exact q _ (bt06.trans ((ButT.ofX x14).trans (ButT.ofSame (sF _)))) (T14.ext (sF _))
end
end WK
set_option Elab.async false
set_option linter.all false
set_option maxRecDepth 100000
set_option maxHeartbeats 8000000
namespace WK
open PySem L2 PyProof.Rows K1
open TX (sg sigs)
open Walks
open PySem.W (Frag kitOne)
theorem cut_to (u : W) (i : Nat) : cutS (tx u) none (some (i : Int)) = tx (u.take i) := by
  unfold cutS
  rw [tx_len, tx_list]
  have h1 : HT.sIx u.length 0 none = 0 := rfl
  have h2 : HT.sIx u.length u.length (some (i : Int)) = min i u.length := by
    unfold HT.sIx
    simp
    try omega
  rw [h1, h2, List.drop_zero, Nat.sub_zero]
  show (⟨_⟩ : Str) = ⟨_⟩
  congr 2
  by_cases h : i ≤ u.length
  · rw [Nat.min_eq_left h]
  · rw [Nat.min_eq_right (by omega), List.take_of_length_le (Nat.le_refl _), List.take_of_length_le (by omega)]
end WK
set_option Elab.async false
set_option linter.all false
set_option maxRecDepth 100000
set_option maxHeartbeats 16000000
namespace WK
open PySem L2 PyProof.Rows LCX K1 FV LamX NdefX
open TX (sg sigs)
open PySem.W (Frag kitOne)
abbrev NLw : List Str := ["_law_script", "_law_spot", "_law_dice_here", "_law_letters_here", "_law_one", "_law_other", "_law_far", "_law_told", "_law_none", "_law_wide"]
theorem scLw : FnScope NLw ["_law_script"] (defScope sLw) := ⟨rfl, rfl, rfl, by decide +kernel, rfl, by decide +kernel, by decide +kernel⟩
def spLw (K : Frag) (T : List (Addr × Str)) : Sp := fun vs H Q _ => ∃ (s : Addr) (ns : List Int), vs = [.ref s] ∧ SqL K H s (ns.map V.int) ∧ ns.length ≤ 63 ∧ Tabs T H ∧ ∀ H', Q (.bl true) H'
theorem seqB {K : Frag} {H H' : Hp} {a : Addr} {xs : List V} (e : ExtN H H') (h : SqL K H a xs) : SqL K H' a xs := by
  rcases h with (h | ⟨o, h⟩) | h
  · exact .inl (.inl (e _ _ h fun _ z => nomatch z))
  · exact .inl (.inr ⟨o, e _ _ h fun _ z => nomatch z⟩)
  · exact .inr h
theorem let_one {L : W} (h : Let L) (n : (L.length : Int) = 2) : Let (L.take 1) := by
  match L, h, n with
  | [a, b], h, _ => exact ⟨fun c hc => h.low c (by rw [List.mem_singleton.mp hc]; exact .head _), List.pairwise_singleton _ _, (nomatch ·), by show 1 ≤ 3; decide⟩
theorem unlike_one {L : W} (n : (L.length : Int) = 2) : tx L ≠ tx (L.take 1) := fun z => by
  have e := congrArg (fun s : Str => s.cps.toList.length) z
  simp only [tx_list, List.length_map, List.length_take] at e
  omega
/-- ten words told, held against ten -/
theorem ten_ne {K : Frag} {H : Hp} {a b : Addr} (wd : Str) (n : Nat) (few : n ≤ 10) (ha : H a = some (.lst (List.replicate n (.str wd)))) (hb : H b = some (.lst (List.replicate n (.str wd)))) (lay : PyData.canLay0 (.str wd) = true) {Q : V → Hp → Prop} (q : Q (.bl false) H) : rNeD K (.ref a) (.ref b) H Q := by
  have e : (List.replicate n wd).map V.str = List.replicate n (.str wd) := List.map_replicate
  obtain ⟨d, d1, d2, sh, ev⟩ := dp_two (K := K) (List.replicate n wd) (e ▸ ha) (e ▸ hb) fun y hy => by rw [(List.mem_replicate.mp hy).2]; exact lay
  refine ⟨d, d, d1, d2, sh, sh, ?_⟩
  rw [ev]
  exact q
section
variable {P : Program} {w : World} {K : Frag} {mg : Str → Option Value} {base : Heap} {c : ErrC} {C cM PM cE fD : Addr} {dD : FuncData} {T : List (Addr × Str)}
theorem ok_lw {f : Addr} {oc kV doc pm ct : Value} {an od : Option Addr} {osl : Array (Option Value)} (lk : K.lookup f = some ⟨oc, od, .func (PySem.W.fnOf "law" "law" (defArgs sLw) (defBody sLw) (defScope sLw) .none kV doc pm an (.ref cM) ct), osl⟩) (hcd : PySem.W.codeIn K (.ref cM) "law" = true)
    (Lb : Lib P w K mg base c C) (TB : TabB base mg cM PM) (mem : (PM, qLw) ∈ T) (uniq : ∀ p ∈ T, p.1 = PM → p.2 = qLw) (TT : TN mg) (AD : Fn K mg "_law_dice" sDice ["_law_script", "_law_at"] fD dD) (GD : FnOk P w K mg base CX0 1 fD dD ["_law_script", "_law_at"] (spDice K))
    (HM : HasG P w K mg base 14 "_law_met" ["_law_call"] (spMet P w K mg base c 10)) (HO : Has P w K mg base CX0 2 "_law_one_of" ["_law_dice_here", "_law_items"] spOne) (HLe : Has P w K mg base CX0 3 "_law_letters" ["_law_dice_here", "_law_total"] spLetters) (HMd : Has P w K mg base CX0 7 "_law_made_machine" ["_law_plain"] (spMade C)) (HMc : Has P w K mg base CX0 4 "_law_machine" ["_law_dice_here", "_law_letters_here", "_law_states"] spLMac)
    (tbl : ∃ (p g : Addr) (d : FuncData), PropOf K C "table" p g ∧ FnOk P w K mg base CX0 1 g d ["self"] (getSp C "_table") ∧ Binds K d ["self"] []) (IM : IniM P w K mg base C cE) (mp : ∃ t, mg "MAX_PIECES" = some (.int 3 t))
    (HPW : HasG P w K mg base 15 "_law_pair_words" ["_law_one", "_law_other"] (spPWs C T)) (HMR : HasG P w K mg base 15 "_law_more_right" ["_law_dice_here", "_law_one", "_law_other"] (spMR C T)) :
    WG.FnG P w K mg base 16 f (PySem.W.fnOf "law" "law" (defArgs sLw) (defBody sLw) (defScope sLw) .none kV doc pm an (.ref cM) ct) ["_law_script"] (spLw K T) := by
  obtain ⟨ppT, ggT, ddT, hpT, gpT, hbT⟩ := tbl
  obtain ⟨gC, fI, dI, MI, GI, bI⟩ := IM
  obtain ⟨tP, gP⟩ := mp
  refine okGx (N := NLw) lk hcd scLw (fun vs H Q E h => ?_) (fun A outer s H vs Q E hr hg h => ?_)
  · obtain ⟨sc, ns, rfl, _⟩ := h
    rfl
  · obtain ⟨sc, ns, rfl, hS, hl, hT, q⟩ := h
    have hr1 : Room 1 _ := hr.mono (by decide)
    have hr2 : Room 2 _ := hr.mono (by decide)
    have hr3 : Room 3 _ := hr.mono (by decide)
    have hr4 : Room 4 _ := hr.mono (by decide)
    have hr6 : Room 6 _ := hr.mono (by decide)
    have hr7 : Room 7 _ := hr.mono (by decide)
    have hr14 : Room 14 _ := hr.mono (by decide)
    have hu64 : (A.deeper (envOfC "law" (defScope sLw) s.heap.objs.size f (.ref cM))).units + 64 < cLine := by
      have := hr.un
      omega
    have y0 : PS (cxOf CX0 P w K mg base NLw "law" (defScope sLw) f (.ref cM) A outer s H E).nox (inB (nthS sLw 0) 0) _ := ps_set (i := 2) scLw.nd rfl (Or.inl rfl) (pe_call GD hr1 rfl AD.g AD.F.kp AD.b .nil pass0 (pa_cons (pv 0) (pa_cons (pv 1) pa_nil)))
    have y1 : PS (cxOf CX0 P w K mg base NLw "law" (defScope sLw) f (.ref cM) A outer s H E).nox (inB (nthS sLw 0) 1) _ := ps_set (i := 3) scLw.nd rfl (Or.inl rfl) (pe_has (E := E0) HLe hr3 pass0 (pa_cons (pv 2) (pa_cons pe_int pa_nil)))
    have y2 : PS (cxOf CX0 P w K mg base NLw "law" (defScope sLw) f (.ref cM) A outer s H E).nox (inB (nthS sLw 0) 2) _ := ps_set (i := 4) scLw.nd rfl (Or.inl rfl) (pe_has (E := E0) HMd hr7 pass0 (pa_cons (pe_has (E := E0) HMc hr4 pass0 (pa_cons (pv 2) (pa_cons (pv 3) (pa_cons pe_int pa_nil)))) pa_nil))
    have y3 : PS (cxOf CX0 P w K mg base NLw "law" (defScope sLw) f (.ref cM) A outer s H E).nox (inB (nthS sLw 0) 3) _ := ps_set (i := 5) scLw.nd rfl (Or.inl rfl) (pe_has (E := E0) HMd hr7 pass0 (pa_cons (pe_has (E := E0) HMc hr4 pass0 (pa_cons (pv 2) (pa_cons (pv 3) (pa_cons pe_int pa_nil)))) pa_nil))
    have y4 : PS (cxOf CX0 P w K mg base NLw "law" (defScope sLw) f (.ref cM) A outer s H E).nox (inB (nthS sLw 0) 4) _ := ps_set (i := 6) scLw.nd rfl (Or.inl rfl) (pe_has (E := E0) HMd hr7 pass0 (pa_cons (pe_has (E := E0) HMc hr4 pass0 (pa_cons (pv 2) (pa_cons (pe_slice sl_str (pv 3) po_none (po_some pe_int)) (pa_cons pe_int pa_nil)))) pa_nil))
    have y5 : PS (cxOf CX0 P w K mg base NLw "law" (defScope sLw) f (.ref cM) A outer s H E).nox (inB (nthS sLw 0) 5) _ := ps_set (i := 8) scLw.nd rfl (Or.inr rfl) (pe_has (E := E0) HO hr2 pass0 (pa_cons (pv 2) (pa_cons (pe_lst (pa_cons pe_non (pa_cons pe_int (pa_cons pe_str (pa_cons (pe_tup pa_nil) (pa_cons pe_dnewK (pa_cons (pe_prop (E := E0) (pv 4) Lb.cl hpT gpT hr2 hbT .nil pass0 rfl) (pa_cons (pe_lst (pa_cons (pv 4) pa_nil)) (pa_cons pe_bl pa_nil))))))))) pa_nil)))
    have y6 : PS (cxOf CX0 P w K mg base NLw "law" (defScope sLw) f (.ref cM) A outer s H E).nox (inB (nthS sLw 0) 6) _ := ps_if (PW.pt (pw_or (pt_cmpR (op_neD hu64) (pe_hasG (E := E0) HPW hr hg (pa_cons (pv 8) (pa_cons (pv 8) pa_nil))) (pe_op op_rep (pe_lst (pa_cons pe_str pa_nil)) pe_int) (nomark _)) (pw_or1 (pt_cmpR (op_neD hu64) (pe_hasG (E := E0) HPW hr hg (pa_cons (pv 4) (pa_cons (pv 8) pa_nil))) (pe_op op_rep (pe_lst (pa_cons pe_str pa_nil)) pe_int) (nomark _))))) (pss_one (ps_ret pe_bl)) pss_nil
    have y7 : PS (cxOf CX0 P w K mg base NLw "law" (defScope sLw) f (.ref cM) A outer s H E).nox (inB (nthS sLw 0) 7) _ := ps_if (PW.pt (pw_or (pt_cmpR (op_neD hu64) (pe_hasG (E := E0) HPW hr hg (pa_cons (pv 4) (pa_cons (pv 6) pa_nil))) (pe_op op_rep (pe_lst (pa_cons pe_str pa_nil)) pe_int) (nomark _)) (pw_or1 (pt_not (pt_val (pe_hasG (E := E0) HMR hr hg (pa_cons (pv 2) (pa_cons (pv 4) (pa_cons (pv 5) pa_nil))))))))) (pss_one (ps_ret pe_bl)) pss_nil
    have y8 : PS (cxOf CX0 P w K mg base NLw "law" (defScope sLw) f (.ref cM) A outer s H E).nox (inB (nthS sLw 0) 8) _ := ps_set (i := 7) scLw.nd rfl (Or.inl rfl) (pe_lst (pa_cons (pe_meet (l := metLam (inB (nthS sLw 0) 8)) (T := T) (fr := ["_law_none"]) (js := [8]) HM hr14 hg TB rfl mem uniq rfl (nscope_by (by decide +kernel)) (by decide) ⟨_, _, _, _, rfl⟩ (by decide +kernel : ∀ y ∈ (lamSc (metLam (inB (nthS sLw 0) 8))).names, y.2 = .free → (defScope sLw).names.lookup y.1 = some .cell) (by decide +kernel) (fun _ _ => rfl) (fun ok => Caps.made (scope := lamSc (metLam (inB (nthS sLw 0) 8))) ok (fun y hy e => .inl ((by decide +kernel : ∀ y ∈ (lamSc (metLam (inB (nthS sLw 0) 8))).names, y.2 = .free → (defScope sLw).names.lookup y.1 = some .cell) y hy e)) (by decide +kernel) rfl) (fun _ _ _ _ _ => rfl)) pa_nil))
    have y9 : PS (cxOf CX0 P w K mg base NLw "law" (defScope sLw) f (.ref cM) A outer s H E).nox (inB (nthS sLw 0) 9) _ := ps_expr (pe_bm PySem.F.plainAttrs_list PySem.F.slot_list_append PySem.F.type_list_append mt_append (pv 7) (pa_cons (pe_meet (l := metLam (inB (nthS sLw 0) 9)) (T := T) (fr := ["_law_none"]) (js := [8]) HM hr14 hg TB rfl mem uniq rfl (nscope_by (by decide +kernel)) (by decide) ⟨_, _, _, _, rfl⟩ (by decide +kernel : ∀ y ∈ (lamSc (metLam (inB (nthS sLw 0) 9))).names, y.2 = .free → (defScope sLw).names.lookup y.1 = some .cell) (by decide +kernel) (fun _ _ => rfl) (fun ok => Caps.made (scope := lamSc (metLam (inB (nthS sLw 0) 9))) ok (fun y hy e => .inl ((by decide +kernel : ∀ y ∈ (lamSc (metLam (inB (nthS sLw 0) 9))).names, y.2 = .free → (defScope sLw).names.lookup y.1 = some .cell) y hy e)) (by decide +kernel) rfl) (fun _ _ _ _ _ => rfl)) pa_nil))
    have y10 : PS (cxOf CX0 P w K mg base NLw "law" (defScope sLw) f (.ref cM) A outer s H E).nox (inB (nthS sLw 0) 10) _ := ps_if (pt_cmpR (op_neD hu64) (pv 7) (pe_op op_rep (pe_lst (pa_cons pe_str pa_nil)) pe_int) (nomark _)) (pss_one (ps_ret pe_bl)) pss_nil
    have z0 : PS (cxOf CX0 P w K mg base NLw "law" (defScope sLw) f (.ref cM) A outer s H E).nox (nthS sLw 0) _ := ps_for PassesOwn.never rfl (pi_range1 rfl TT.rng (pa_cons (pe_callB (call_max2 rfl) (by rfl) TT.max (by decide +kernel) (pa_cons pe_int (pa_cons (pe_callB (call_min2 rfl) (by rfl) TT.min (by decide +kernel) (pa_cons pe_int (pa_cons (pe_callB call_len_seq (by rfl) TT.len PySem.boot_len (pa_cons (pv 0) pa_nil)) pa_nil))) pa_nil))) pa_nil)) (pg_name (i := 1) scLw.nd rfl (Or.inl rfl)) (pss_cons y0 (pss_cons y1 (pss_cons y2 (pss_cons y3 (pss_cons y4 (pss_cons y5 (pss_cons y6 (pss_cons y7 (pss_cons y8 (pss_cons y9 (pss_one y10)))))))))))
    have z1 : PS (cxOf CX0 P w K mg base NLw "law" (defScope sLw) f (.ref cM) A outer s H E).nox (nthS sLw 1) _ := ps_set (i := 9) scLw.nd rfl (Or.inr rfl) (pe_make (E := fun _ _ _ => False) MI GI hr6 rfl gC bI .nil no_pass (pa_cons pe_str (pa_cons (pe_tup (pa_cons (pe_tup (pa_cons pe_int (pa_cons pe_int (pa_cons pe_int pa_nil)))) pa_nil)) (pa_cons (pe_tup (pa_cons pe_int pa_nil)) pa_nil))))
    have z2 : PS (cxOf CX0 P w K mg base NLw "law" (defScope sLw) f (.ref cM) A outer s H E).nox (nthS sLw 2) _ := ps_ret (pe_and (pe_cmpR op_eq (pe_meet (l := metLam (nthS sLw 2)) (T := T) (fr := ["_law_wide"]) (js := [9]) HM hr14 hg TB rfl mem uniq rfl (nscope_by (by decide +kernel)) (by decide) ⟨_, _, _, _, rfl⟩ (by decide +kernel : ∀ y ∈ (lamSc (metLam (nthS sLw 2))).names, y.2 = .free → (defScope sLw).names.lookup y.1 = some .cell) (by decide +kernel) (fun _ _ => rfl) (fun ok => Caps.made (scope := lamSc (metLam (nthS sLw 2))) ok (fun y hy e => .inl ((by decide +kernel : ∀ y ∈ (lamSc (metLam (nthS sLw 2))).names, y.2 = .free → (defScope sLw).names.lookup y.1 = some .cell) y hy e)) (by decide +kernel) rfl) (fun _ _ _ _ _ => rfl)) pe_str (nomark _)) (pe_one (pe_cmpR op_eq (pe_glob rfl gP (show RelV (.int 3) (.int 3 tP) from ⟨tP, rfl⟩)) pe_int (nomark _))))
    refine ⟨_, pss_cons z0 (pss_cons z1 (pss_one z2)), ?_⟩
    clear z0 z1 z2 y0 y1 y2 y3 y4 y5 y6 y7 y8 y9 y10
    have B0 : ∀ {n : Nat}, n ≤ 100 → n ≤ sizeLine := fun h => by rw [sizeLine_eq]; omega
    have lm : PyData.canLay0 (.str "machine") = true := by decide +kernel
    have lo : PyData.canLay0 (.str "operation") = true := by decide +kernel
    have len : ((ns.map V.int).length : Int) ≤ 63 := by
      rw [List.length_map]
      omega
    have len0 : (0 : Int) ≤ ((ns.map V.int).length : Int) := Int.natCast_nonneg _
    refine ⟨_, rfl, sc, _, rfl, .inl hS, _, _, rfl, _, _, rfl, _, rfl, by split <;> split <;> omega, by split <;> split <;> omega, ?_⟩
    refine for_range (lo := 0) (fun i σ H1 => (∃ a1 a2 a3 a4 a5 a6 a7 a8 a9, σ = [some (.ref sc), a1, a2, a3, a4, a5, a6, a7, a8, a9]) ∧ ExtN H H1 ∧ Tabs T H1) ⟨⟨_, _, _, _, _, _, _, _, _, rfl⟩, ExtN.refl H, hT⟩ ?_ ?_
    · rintro i σ H0 hi ⟨⟨a1, a2, a3, a4, a5, a6, a7, a8, a9, rfl⟩, s0, t0⟩
      refine ⟨_, rfl, _, rfl, sc, ns, _, rfl, seqB s0 hS, by omega, fun p G0 hp sD hD => ?_⟩
      have tD : Tabs T G0 := t0.ext sD
      refine ⟨_, rfl, p, 2, rfl, hD, by decide, by decide, fun L G1 hL nL d1 b1 => ?_⟩
      have le26 : L.length ≤ 26 := by omega
      have hL1 := let_one hL nL
      have lne := unlike_one nL
      refine ⟨_, rfl, _, rfl, p, L, 4, rfl, d1, hL.ne, le26, by decide, by decide, fun m tb es n G2 nm np d2 b2 pm off ok nle => ?_⟩
      refine ⟨m, L, tb, es, n, rfl, pm, ok, by omega, hL, fun o G3 no s3 mat => ?_⟩
      have d3 : DiceAt G3 p := d2.keep fun _ e => s3 _ _ e
      have tb4 : tb.length ≤ 4 ∧ 1 ≤ tb.length := by have := ok.tab.len; have := ok.one; omega
      clear pm off ok nm np no
      refine ⟨_, rfl, _, rfl, p, L, 4, rfl, d3, hL.ne, le26, by decide, by decide, fun m' tb' es' n' G4 nm np d4 b4 pm off ok nle' => ?_⟩
      refine ⟨m', L, tb', es', n', rfl, pm, ok, by omega, hL, fun o2 G5 no s5 mat2 => ?_⟩
      have d5 : DiceAt G5 p := d4.keep fun _ e => s5 _ _ e
      clear pm off ok nm np no
      refine ⟨_, rfl, _, rfl, 1, rfl, tx L, rfl, by rw [tx_len, sizeLine_eq]; omega, ?_⟩
      rw [show cutS (tx L) none (some 1) = tx (L.take 1) from cut_to L 1]
      refine ⟨p, L.take 1, 4, rfl, d5, hL1.ne, by rw [List.length_take]; omega, by decide, by decide, fun m3 tb3 es3 n3 G6 nm np d6 b6 pm off ok nle3 => ?_⟩
      refine ⟨m3, L.take 1, tb3, es3, n3, rfl, pm, ok, by omega, hL1, fun o3 G7 no s7 mat3 => ?_⟩
      have d7 : DiceAt G7 p := d6.keep fun _ e => s7 _ _ e
      clear pm off ok nm np no
      have bt45 : ButT p G3 G5 := ButT.ofBut (b4.trans (But.ofSame s5))
      have bt67 : ButT p G5 G7 := ButT.ofBut (b6.trans (But.ofSame s7))
      have m2 : Two2 C G7 o o2 L tb es := ⟨(mat.bx bt45.bx d3).bx bt67.bx d5, (mat2.letters.bx bt67.bx d5), hL, by omega, tb4.2, tb4.1⟩
      have mf : MacL C G7 o3 (L.take 1) := mat3.letters
      have t7 : Tabs T G7 := (tabs_but ((tabs_but ((tabs_but (tabs_but tD hD b1) d1 b2).ext s3) d3 b4).ext s5) d5 b6).ext s7
      have bt07 : ButT p G0 G7 := (ButT.ofBut (b1.trans (b2.trans (But.ofSame s3)))).trans (bt45.trans bt67)
      clear mat mat2 mat3 bt45 bt67 b1 b2 b4 b6 s3 s5 s7 d1 d2 d3 d4 d5 d6 tb4
      obtain ⟨dx8, to, eo, tso, k1, k2, k3, k4⟩ := id m2.one
      refine ⟨_, rfl, by rw [sizeLine_eq]; simp only [List.length_cons, List.length_nil]; omega, fun u1 hu1 => fun u2 hu2 => ⟨_, rfl, o, dx8, _, rfl, same_upd hu2 _ _ (same_upd hu1 _ _ k1), o, dx8, _, _, rfl, same_upd hu2 _ _ (same_upd hu1 _ _ k1), fld_T, _, rfl, by rw [sizeLine_eq]; simp only [List.length_cons, List.length_nil]; omega, fun u3 hu3 => ⟨by rw [sizeLine_eq]; simp only [List.length_cons, List.length_nil]; omega, fun a8 ha8 => ?_⟩⟩⟩
      have s0_8 := same_upd (o := .tup []) hu1
      have s1_8 := same_two s0_8 (o := .dK []) hu2
      have s2_8 := same_two s1_8 (o := .lst [.ref o]) hu3
      have e_u1 := (same_upd hu3 (o := .lst [.ref o]) _ _ (same_upd hu2 (o := .dK []) _ _ (upd_same (H := G7) (a := u1) (o := .tup []))))
      have e_u2 := (same_upd hu3 (o := .lst [.ref o]) _ _ (upd_same (H := (upd G7 u1 (.tup []))) (a := u2) (o := .dK [])))
      have e_u3 := (upd_same (H := (upd (upd G7 u1 (.tup [])) u2 (.dK []))) (a := u3) (o := .lst [.ref o]))
      generalize (upd (upd (upd G7 u1 (.tup [])) u2 (.dK [])) u3 (.lst [.ref o])) = G8 at s2_8 e_u1 e_u2 e_u3 ha8 ⊢
      have g8 : DiceAt G8 p := d7.keep fun _ e => s2_8 _ _ e
      refine ⟨p, a8, _, rfl, g8.new ha8, g8.ne ha8, upd_same, by simp only [List.length_cons, List.length_nil]; omega, by simp only [List.length_cons, List.length_nil]; omega, fun vN H8 hv8 d8 b8 => ?_⟩
      have bt8 : ButT p G7 H8 := ButT.ofBut ((But.ofSame (s2_8.trans (same_upd ha8))).trans b8)
      have T8 : Tabs T H8 := tabs_but ((t7.ext s2_8).ext (same_upd ha8)) (g8.new ha8) b8
      have k_u1 := b8 _ _ (same_upd ha8 _ _ e_u1) (g8.off e_u1 fun _ _ _ => (nomatch ·))
      have k_u2 := b8 _ _ (same_upd ha8 _ _ e_u2) (g8.off e_u2 fun _ _ _ => (nomatch ·))
      have k_u3 := b8 _ _ (same_upd ha8 _ _ e_u3) (g8.off e_u3 fun _ _ _ z => by cases z)
      clear e_u1 e_u2 e_u3
      have k_8 := bt8.bx.at_ d7 k2 (fun _ _ _ => (nomatch ·)) (fun _ => (nomatch ·)) fun _ => (nomatch ·)
      have oN : OP H8 vN := by
        simp only [List.mem_cons, List.not_mem_nil, or_false] at hv8
        rcases hv8 with rfl | rfl | rfl | rfl | rfl | rfl | rfl | rfl
        · exact .non
        · exact .int _
        · exact .str _
        · exact .tup k_u1
        · exact .dic k_u2
        · exact .tup k_8
        · exact .lst k_u3 (fun _ _ _ z => by cases z)
        · exact .bl _
      have m2 := m2.bx bt8.bx d7
      have mf := mf.bx bt8.bx d7
      clear k_8 k1 k2 k3 k4
      clear hv8 b8 ha8 g8 k_u1 k_u2 k_u3 s2_8 s1_8 s0_8 hu3 hu2 hu1
      refine ⟨_, rfl, _, rfl, _, _, "machine", rfl, T8, (.inl ⟨⟨.inl oN.ov, .inl oN.ov, .inl oN.ov⟩, rfl⟩), fun r1 J1 x1 tj1 e1 => ?_⟩
      refine ⟨B0 (by show 1 ≤ 100; decide), fun l1 hl1 => ?_⟩
      have q1 := same_upd (o := .lst [.str "machine"]) hl1
      refine ⟨l1, 10, _, rfl, rfl, upd_same, by decide, by decide, B0 (by show 10 ≤ 100; decide), fun n1 hn1 => ?_⟩
      have qq1 := q1.trans (same_upd (o := (.lst (List.replicate (10 : Int).toNat [V.str "machine"]).flatten)) hn1)
      have en1 := upd_same (H := upd J1 l1 (.lst [.str "machine"])) (a := n1) (o := (.lst (List.replicate (10 : Int).toNat [V.str "machine"]).flatten))
      generalize upd (upd J1 l1 (.lst [.str "machine"])) n1 (.lst (List.replicate (10 : Int).toNat [V.str "machine"]).flatten) = F1 at qq1 en1 ⊢
      refine ten_ne "machine" 10 (by decide) (qq1 _ _ e1) en1 lm ⟨false, rfl, ?_⟩
      have xx1 : ExtN H8 F1 := fun b o e n => qq1 _ _ (x1 _ _ e n)
      have tf1 : Tabs T F1 := tj1.ext qq1
      clear q1 hl1 hn1 en1 qq1 x1 tj1 e1
      have m2 := m2.ext xx1
      have mf := mf.ext xx1
      have oN := oN.ext xx1
      refine ⟨_, rfl, _, rfl, _, _, "machine", rfl, tf1, (.inl ⟨⟨.inr ⟨o, L, rfl, m2.one.letters⟩, .inl oN.ov, .inr oN.ov⟩, rfl⟩), fun r2 J2 x2 tj2 e2 => ?_⟩
      refine ⟨B0 (by show 1 ≤ 100; decide), fun l2 hl2 => ?_⟩
      have q2 := same_upd (o := .lst [.str "machine"]) hl2
      refine ⟨l2, 10, _, rfl, rfl, upd_same, by decide, by decide, B0 (by show 10 ≤ 100; decide), fun n2 hn2 => ?_⟩
      have qq2 := q2.trans (same_upd (o := (.lst (List.replicate (10 : Int).toNat [V.str "machine"]).flatten)) hn2)
      have en2 := upd_same (H := upd J2 l2 (.lst [.str "machine"])) (a := n2) (o := (.lst (List.replicate (10 : Int).toNat [V.str "machine"]).flatten))
      generalize upd (upd J2 l2 (.lst [.str "machine"])) n2 (.lst (List.replicate (10 : Int).toNat [V.str "machine"]).flatten) = F2 at qq2 en2 ⊢
      refine ten_ne "machine" 10 (by decide) (qq2 _ _ e2) en2 lm ⟨false, rfl, ?_⟩
      have xx2 : ExtN F1 F2 := fun b o e n => qq2 _ _ (x2 _ _ e n)
      have tf2 : Tabs T F2 := tj2.ext qq2
      clear q2 hl2 hn2 en2 qq2 x2 tj2 e2
      have m2 := m2.ext xx2
      have mf := mf.ext xx2
      have oN := oN.ext xx2
      refine ⟨_, rfl, _, rfl, _, _, "operation", rfl, tf2, (.inr ⟨⟨o, o3, L, L.take 1, rfl, rfl, m2.one.letters, mf, lne⟩, rfl⟩), fun r3 J3 x3 tj3 e3 => ?_⟩
      refine ⟨B0 (by show 1 ≤ 100; decide), fun l3 hl3 => ?_⟩
      have q3 := same_upd (o := .lst [.str "operation"]) hl3
      refine ⟨l3, 10, _, rfl, rfl, upd_same, by decide, by decide, B0 (by show 10 ≤ 100; decide), fun n3 hn3 => ?_⟩
      have qq3 := q3.trans (same_upd (o := (.lst (List.replicate (10 : Int).toNat [V.str "operation"]).flatten)) hn3)
      have en3 := upd_same (H := upd J3 l3 (.lst [.str "operation"])) (a := n3) (o := (.lst (List.replicate (10 : Int).toNat [V.str "operation"]).flatten))
      generalize upd (upd J3 l3 (.lst [.str "operation"])) n3 (.lst (List.replicate (10 : Int).toNat [V.str "operation"]).flatten) = F3 at qq3 en3 ⊢
      refine ten_ne "operation" 10 (by decide) (qq3 _ _ e3) en3 lo ⟨false, rfl, ?_⟩
      have xx3 : ExtN F2 F3 := fun b o e n => qq3 _ _ (x3 _ _ e n)
      have tf3 : Tabs T F3 := tj3.ext qq3
      clear q3 hl3 hn3 en3 qq3 x3 tj3 e3
      have m2 := m2.ext xx3
      have oN := oN.ext xx3
      have x83 : ExtN H8 F3 := fun b o e n => xx3 _ _ (xx2 _ _ (xx1 _ _ e n) n) n
      have dF : DiceAt F3 p := let ⟨x, y, z, e, r⟩ := d8; ⟨x, y, z, x83 _ _ e (fun _ => (nomatch ·)), r⟩
      refine ⟨_, rfl, _, rfl, _, rfl, p, o, o2, L, tb, es, rfl, dF, tf3, m2, fun G9 b9 t9 => ⟨true, rfl, ?_⟩⟩
      have oN := oN.bx b9.bx dF
      refine ⟨[vN], "machine", rfl, t9, meets_L0 Lb oN.ov, fun GA gr => ⟨B0 (by show 1 ≤ 100; decide), fun lf hlf => ?_⟩⟩
      have fd := told_one (wd := "machine") gr hlf
      generalize upd GA lf (.lst [.str "machine"]) = GB at fd ⊢
      clear gr hlf
      refine told_step fd (by show 1 < 100; decide) (vals := [vN]) (wd := "machine") rfl rfl (meets_L1 Lb oN.ov) (fun GC fd => ?_)
      refine ⟨_, rfl, B0 (by show 1 ≤ 100; decide), fun l4 hl4 => ?_⟩
      have q4 := same_upd (o := .lst [.str "machine"]) hl4
      refine ⟨l4, 2, _, rfl, rfl, upd_same, by decide, by decide, B0 (by show 2 ≤ 100; decide), fun n4 hn4 => ?_⟩
      have qq4 := q4.trans (same_upd (o := .lst (List.replicate (2 : Int).toNat [V.str "machine"]).flatten) hn4)
      have en4 := upd_same (H := upd GC l4 (.lst [.str "machine"])) (a := n4) (o := .lst (List.replicate (2 : Int).toNat [V.str "machine"]).flatten)
      generalize upd (upd GC l4 (.lst [.str "machine"])) n4 (.lst (List.replicate (2 : Int).toNat [V.str "machine"]).flatten) = GD at qq4 en4 ⊢
      refine ten_ne "machine" 2 (by decide) (qq4 _ _ fd.at_) en4 lm ⟨false, rfl, ?_⟩
      refine ⟨⟨_, _, _, _, _, _, _, _, _, rfl⟩, fun b o e n => ?_, fd.tabs.ext qq4⟩
      have e1 := sD _ _ (s0 b o e n)
      have np := ne_of_none (s0 b o e n) hp
      exact qq4 _ _ (fd.ext _ _ (b9 _ _ (x83 _ _ (bt8 _ _ (bt07 _ _ e1 np n) np n) n) np n) n)
    rintro σ H1 ⟨⟨a1, a2, a3, a4, a5, a6, a7, a8, a9, rfl⟩, _, t1⟩
    refine ⟨B0 (by show 3 ≤ 100; decide), fun u1 h1 => ⟨B0 (by show 1 ≤ 100; decide), fun u2 h2 => ⟨B0 (by show 1 ≤ 100; decide), fun u3 h3 z dx hx hdx nzd => ?_⟩⟩⟩
    have s1 := same_upd (o := .tup [.int 0, .int 0, .int 0]) h1
    have s2 := same_upd (o := .tup [.ref u1]) h2
    have s3 := same_upd (o := .tup [.int 0]) h3
    have e1 := s3 _ _ (s2 _ _ (upd_same (H := H1) (a := u1) (o := .tup [.int 0, .int 0, .int 0])))
    have e2 := s3 _ _ (upd_same (H := upd H1 u1 (.tup [.int 0, .int 0, .int 0])) (a := u2) (o := .tup [.ref u1]))
    have e3 := upd_same (H := upd (upd H1 u1 (.tup [.int 0, .int 0, .int 0])) u2 (.tup [.ref u1])) (a := u3) (o := .tup [.int 0])
    have s03 := s1.trans (s2.trans s3)
    generalize upd (upd (upd H1 u1 (.tup [.int 0, .int 0, .int 0])) u2 (.tup [.ref u1])) u3 (.tup [.int 0]) = G1 at e1 e2 e3 s03 hx hdx ⊢
    clear s1 s2 s3 h1 h2 h3
    have s5 : Same G1 (upd (upd G1 dx (.own z)) z (.ins C dx [])) := fun b o y => by rw [upd_ne (ne_of_none y hx), upd_ne (ne_of_none y hdx)]; exact y
    have o1 : Objs oTup (upd (upd G1 dx (.own z)) z (.ins C dx [])) [u1] [[0, 0, 0]] := ⟨s5 _ _ e1, trivial⟩
    refine ⟨z, dx, .str (tx [97, 98, 99]), .ref u2, .ref u3, some (tx [97, 98, 99]), some (rsOf [[0, 0, 0]]), some [.int 0], rfl, upd_same, ⟨rfl, by rw [tx_len]; decide⟩, ⟨u2, _, rfl, SqT.of (s5 _ _ e2), by show 1 ≤ 100; decide, rows_of (wd := 3) (by decide) o1 fun r hr => (by rw [List.mem_singleton.mp hr] <;> rfl)⟩, ⟨u3, rfl, SqT.of (s5 _ _ e3), by decide, fun y hy => (by rw [List.mem_singleton.mp hy]; exact .inl ⟨0, rfl⟩)⟩, .inl ⟨by decide +kernel, fun H6 h6 k6 => ⟨rfl, ?_⟩⟩⟩
    have s6 : Same G1 H6 := fun b o y => k6 b o (s5 _ _ y) (ne_of_none y hx)
    have mo : MacL C H6 z [97, 98, 99] := ⟨dx, _, _, h6⟩
    refine ⟨[.ref z], "number 3", rfl, t1.ext (s03.trans s6), meets_L2 Lb mo rfl, fun G2 gr => ⟨rfl, ?_⟩⟩
    rw [decide_eq_true rfl]
    refine ⟨true, rfl, rfl, ?_⟩
    rw [decide_eq_true rfl]
    exact q _
end
end WK
set_option Elab.async false
set_option linter.all false
set_option maxRecDepth 100000
set_option maxHeartbeats 8000000
namespace WK
open PySem L2 PyProof.Rows LCX K1 FV LamX NdefX
open TX (sg sigs)
open PySem.W (Frag kitOne)
abbrev sMLet : Stmt := inClass (top 49) 1
abbrev sMTab : Stmt := inClass (top 49) 2
abbrev sINI : Stmt := inClass (top 9) 0
theorem scINI : FnScope ["self", "value"] ["self", "value"] (defScope sINI) := ⟨rfl, rfl, rfl, by decide +kernel, rfl, by decide +kernel, by decide +kernel⟩
theorem ok_ini {P : Program} {w : World} {K : Frag} {mg : Str → Option Value} {base : Heap} {cT f : Addr} {fd : FuncData} (F : Fun K "__init__" "InvalidNumber.__init__" sINI f fd) (T : WE.ErrT K cT) (M : WE.ErrI K cT f [.type "RuntimeError", .type "Exception", .type "BaseException", .type "object"] "RuntimeError.__new__" "value") : FnOk P w K mg base CX0 1 f fd ["self", "value"] (WE.spErrI cT "value") := by
  refine F.ok scINI (fun vs H Q E h => ?_) (fun cdv A outer s H vs Q E hr h => ?_)
  · obtain ⟨a, v, rfl, _⟩ := h
    rfl
  · obtain ⟨a, v, rfl, ha, q⟩ := h
    refine ⟨_, pss_one (WE.ps_setE PySem.F.store_RuntimeError T M (pv 0) (pv 1)), ?_⟩
    exact ⟨_, rfl, _, rfl, a, rfl, ha, fun dx hd hne => q dx hd hne⟩
theorem uniq_nd {T : List (Addr × Str)} (nd : (T.map (·.1)).Nodup) {P : Addr} {q : Str} (m : (P, q) ∈ T) : ∀ p ∈ T, p.1 = P → p.2 = q := by
  induction T with
  | nil => exact absurd m List.not_mem_nil
  | cons a T ih =>
    intro p hp e
    have nd := List.nodup_cons.mp nd
    rcases List.mem_cons.mp m with y | y
    · rcases List.mem_cons.mp hp with z | z
      · rw [z, ← y]
      · refine absurd (List.mem_map.mpr ⟨p, z, ?_⟩) nd.1
        rw [e, ← y]
    · rcases List.mem_cons.mp hp with z | z
      · refine absurd (List.mem_map.mpr ⟨_, y, ?_⟩) nd.1
        rw [← z]
        exact e.symm
      · exact ih nd.2 y p z e
theorem all_false {α : Type} [BEq α] [LawfulBEq α] {p : α → Option Bool} {l : List α} (h : (l.all fun t => p t == some false) = true) : ∀ t ∈ l, p t = some false := fun t ht => by simpa using List.all_eq_true.mp h t ht
theorem binds_one {K : Frag} {f T : Addr} {e : Value} {j : Option Addr} {u : Value} {m : Nat} {wv : Array (Option Value)} (lt : K.lookup T = some ⟨e, j, .seq #[u] m, wv⟩) {fd : FuncData} {a b c d : Str} (hd : fd.defaults = .ref T)
    (hb : ∀ x1 x2 x3 x4 : Value, ∃ k, bindArgs fd ⟨[x1, x2, x3, x4], []⟩ = seqItems? fd.defaults >>= k ∧ k (some #[u]) = pure [(a, x1), (b, x2), (c, x3), (d, x4)]) : L2.Binds K fd [a, b, c, d] [] := fun s us hin hl => by
  match us, hl with
  | [x1, x2, x3, x4], _ =>
    obtain ⟨k, h1, h2⟩ := hb x1 x2 x3 x4
    exact PySem.W.binds_K hin hd lt rfl h1 h2
theorem all_mk {l : PySem.W.OpenLaw} {w : World} {K : Frag} {h : Heap} {mg : Str → Option Value} {cD CM fa cW cM cB cO cP cU cN cT cX cR oL PL oE PE oD PD pml pmt t46 f0 f1 f2 f3 f4 f5 f6 f7 f8 f9 f10 f11 f12 f13 f14 f15 f16 f17 f18 f19 f20 f21 f22 f23 f24 f25 f26 f27 f28 f29 f30 f31 f32 f33 f34 f35 f36 f37 f38 f39 f40 f41 f42 f43 f44 f45 f46 f47 f48 f49 f50 f51 : Addr} (X : K.In h) (G : h.Ns mainGlobals mg) (hfa : mg "law" = some (.ref fa))
    {rml rmt : List Value} {xMAX_LETTERS xMAX_STATES xMAX_PIECES x_MAX_OF_THREE xMAX_STEPS x_MAX_MADE : Tok} {e46 u46 : Value} {j46 : Option Addr} {m46 : Nat} {w46 : Array (Option Value)} {od0 an0 od1 an1 od2 an2 od3 an3 od4 an4 od5 an5 od6 an6 od7 an7 od8 an8 od9 an9 od10 an10 od11 an11 od12 an12 od13 an13 od14 an14 od15 an15 od16 an16 od17 an17 od18 an18 od19 an19 od20 an20 od21 an21 od22 an22 od23 an23 od24 an24 od25 an25 od26 an26 od27 an27 od28 an28 od29 an29 od30 an30 od31 an31 od32 an32 od33 an33 od34 an34 od35 an35 od36 an36 od37 an37 od38 an38 od39 an39 od40 an40 od41 an41 od42 an42 od43 an43 od44 an44 od45 an45 od46 an46 od47 an47 od48 an48 od49 an49 od50 an50 od51 an51 : Option Addr} {sl0 sl1 sl2 sl3 sl4 sl5 sl6 sl7 sl8 sl9 sl10 sl11 sl12 sl13 sl14 sl15 sl16 sl17 sl18 sl19 sl20 sl21 sl22 sl23 sl24 sl25 sl26 sl27 sl28 sl29 sl30 sl31 sl32 sl33 sl34 sl35 sl36 sl37 sl38 sl39 sl40 sl41 sl42 sl43 sl44 sl45 sl46 sl47 sl48 sl49 sl50 sl51 : Array (Option Value)} {oc0 dc0 pm0 ct0 kV0 cd0 oc1 dc1 pm1 ct1 kV1 cd1 oc2 dc2 pm2 ct2 kV2 cd2 oc3 dc3 pm3 ct3 kV3 cd3 oc4 dc4 pm4 ct4 kV4 cd4 oc5 dc5 pm5 ct5 kV5 cd5 oc6 dc6 pm6 ct6 kV6 cd6 oc7 dc7 pm7 ct7 kV7 cd7 oc8 dc8 pm8 ct8 kV8 cd8 oc9 dc9 pm9 ct9 kV9 cd9 oc10 dc10 pm10 ct10 kV10 cd10 oc11 dc11 pm11 ct11 kV11 cd11 oc12 dc12 pm12 ct12 kV12 cd12 oc13 dc13 pm13 ct13 kV13 cd13 oc14 dc14 pm14 ct14 kV14 cd14 oc15 dc15 pm15 ct15 kV15 cd15 oc16 dc16 pm16 ct16 kV16 cd16 oc17 dc17 pm17 ct17 kV17 cd17 oc18 dc18 pm18 ct18 kV18 cd18 oc19 dc19 pm19 ct19 kV19 cd19 oc20 dc20 pm20 ct20 kV20 cd20 oc21 dc21 pm21 ct21 kV21 cd21 oc22 dc22 pm22 ct22 kV22 cd22 oc23 dc23 pm23 ct23 kV23 cd23 oc24 dc24 pm24 ct24 kV24 cd24 oc25 dc25 pm25 ct25 kV25 cd25 oc26 dc26 pm26 ct26 kV26 cd26 oc27 dc27 pm27 ct27 kV27 cd27 oc28 dc28 pm28 ct28 kV28 cd28 oc29 dc29 pm29 ct29 kV29 cd29 oc30 dc30 pm30 ct30 kV30 cd30 oc31 dc31 pm31 ct31 kV31 cd31 oc32 dc32 pm32 ct32 kV32 cd32 oc33 dc33 pm33 ct33 kV33 cd33 oc34 dc34 pm34 ct34 kV34 cd34 oc35 dc35 pm35 ct35 kV35 cd35 oc36 dc36 pm36 ct36 kV36 cd36 oc37 dc37 pm37 ct37 kV37 cd37 oc38 dc38 pm38 ct38 kV38 cd38 oc39 dc39 pm39 ct39 kV39 cd39 oc40 dc40 pm40 ct40 kV40 cd40 oc41 dc41 pm41 ct41 kV41 cd41 oc42 dc42 pm42 ct42 kV42 cd42 oc43 dc43 pm43 ct43 kV43 oc44 dc44 pm44 ct44 kV44 oc45 dc45 pm45 ct45 kV45 oc46 dc46 pm46 ct46 kV46 cd46 oc47 dc47 pm47 ct47 kV47 cd47 oc48 dc48 pm48 ct48 kV48 cd48 oc49 dc49 pm49 ct49 kV49 cd49 oc50 dc50 pm50 ct50 kV50 cd50 oc51 dc51 pm51 ct51 kV51 cd51 : Value}
    (gd : PySem.W.nsIn K mainGlobals "Made" = some (some (.ref cD)))
    (gm : PySem.W.nsIn K mainGlobals "Machine" = some (some (.ref CM)))
    (geW : PySem.W.nsIn K mainGlobals "InvalidWord" = some (some (.ref cW)))
    (geM : PySem.W.nsIn K mainGlobals "InvalidMachine" = some (some (.ref cM)))
    (geB : PySem.W.nsIn K mainGlobals "InvalidBox" = some (some (.ref cB)))
    (geO : PySem.W.nsIn K mainGlobals "InvalidOperation" = some (some (.ref cO)))
    (geP : PySem.W.nsIn K mainGlobals "ParseError" = some (some (.ref cP)))
    (geU : PySem.W.nsIn K mainGlobals "UnknownName" = some (some (.ref cU)))
    (geN : PySem.W.nsIn K mainGlobals "InvalidNumber" = some (some (.ref cN)))
    (geT : PySem.W.nsIn K mainGlobals "TooMany" = some (some (.ref cT)))
    (geX : PySem.W.nsIn K mainGlobals "NothingToUndo" = some (some (.ref cX)))
    (geR : PySem.W.nsIn K mainGlobals "Refused" = some (some (.ref cR)))
    (pgm : PySem.W.plainGet K CM Str.empty = true)
    (hdm : PySem.W.hasDictIn K CM = true)
    (pom : PySem.W.plainOver K CM = true)
    (sam : PySem.W.findIn K (.ref CM) "__setattr__" = some (some (.builtin "object.__setattr__")))
    (ccm : PySem.W.findIn K (.ref CM) "__class__" = some (some (.builtin "object.__class__")))
    (obm : PySem.W.mroIn K CM (.type "object") = some true)
    (mkm : PySem.W.makesIn K CM = true)
    (kCm : PySem.W.keepIn K (.ref CM) = true)
    (im : PySem.W.findIn K (.ref CM) "__init__" = some (some (.ref f46)))
    (nim : PySem.W.isFn K (.ref f46) = true)
    (ncm : (tyNames.all fun t => kitOne K (.type t) (.ref CM) == some false) = true)
    (kim : kitOne K (.ref CM) (.ref CM) = some true)
    (ktm : kitOne K (.ref CM) (.type "tuple") = some false)
    (cn : PySem.W.specialIn K (.builtin "object.__class__") "__get__" = some (some (.builtin "getset_descriptor.__get__")))
    (ct : PySem.W.takesIn K (.builtin "object.__class__") = some true)
    (nMT : PySem.W.findIn K (.ref CM) "_table" = some none)
    (nML : PySem.W.findIn K (.ref CM) "_letters" = some none)
    (nME : PySem.W.findIn K (.ref CM) "_ends" = some none)
    (paml : PySem.W.findIn K (.ref CM) "letters" = some (some (.ref pml)))
    (pg_ml : PySem.W.specialIn K (.ref pml) "__get__" = some (some (.builtin "property.__get__")))
    (pt_ml : PySem.W.takesIn K (.ref pml) = some true)
    (pr_ml : PySem.W.recIn K pml "property" = some (.ref f48 :: rml))
    (pamt : PySem.W.findIn K (.ref CM) "table" = some (some (.ref pmt)))
    (pg_mt : PySem.W.specialIn K (.ref pmt) "__get__" = some (some (.builtin "property.__get__")))
    (pt_mt : PySem.W.takesIn K (.ref pmt) = some true)
    (pr_mt : PySem.W.recIn K pmt "property" = some (.ref f49 :: rmt))
    (a50 : PySem.W.findIn K (.ref CM) "__contains__" = some (some (.ref f50)))
    (n50 : PySem.W.isFn K (.ref f50) = true)
    (a51 : PySem.W.findIn K (.ref CM) "__len__" = some (some (.ref f51)))
    (n51 : PySem.W.isFn K (.ref f51) = true)
    (kitD : (plainTys.all fun t => kitOne K (.type t) (.ref cD) == some false) = true)
    (xeM : PySem.W.excIn K cM [.type "ValueError", .type "Exception", .type "BaseException", .type "object"] "ValueError.__new__" = true)
    (keM : PySem.W.keepIn K (.ref cM) = true)
    (beM : PySem.W.subIn K (.ref cM) (.type "BaseException") = some true)
    (teM : PySem.W.typeIn K (.ref cM) = some (.type "type"))
    (xeO : PySem.W.excIn K cO [.type "ValueError", .type "Exception", .type "BaseException", .type "object"] "ValueError.__new__" = true)
    (keO : PySem.W.keepIn K (.ref cO) = true)
    (beO : PySem.W.subIn K (.ref cO) (.type "BaseException") = some true)
    (teO : PySem.W.typeIn K (.ref cO) = some (.type "type"))
    (ebN : WE.errB K cN = true)
    (noN : PySem.W.findIn K (.ref cN) "value" = some none)
    (eiN : WE.errI K cN f47 [.type "RuntimeError", .type "Exception", .type "BaseException", .type "object"] "RuntimeError.__new__" "value" = true)
    (teN : PySem.W.typeIn K (.ref cN) = some (.type "type"))
    (ebR : WE.errB K cR = true)
    (noR : PySem.W.findIn K (.ref cR) "reason" = some none)
    (x_ww : PySem.W.exmOne K (.ref cW) (.ref cW) = some true)
    (x_mw : PySem.W.exmOne K (.ref cM) (.ref cW) = some false)
    (x_mm : PySem.W.exmOne K (.ref cM) (.ref cM) = some true)
    (x_bw : PySem.W.exmOne K (.ref cB) (.ref cW) = some false)
    (x_bm : PySem.W.exmOne K (.ref cB) (.ref cM) = some false)
    (x_bb : PySem.W.exmOne K (.ref cB) (.ref cB) = some true)
    (x_ow : PySem.W.exmOne K (.ref cO) (.ref cW) = some false)
    (x_om : PySem.W.exmOne K (.ref cO) (.ref cM) = some false)
    (x_ob : PySem.W.exmOne K (.ref cO) (.ref cB) = some false)
    (x_oo : PySem.W.exmOne K (.ref cO) (.ref cO) = some true)
    (x_nw : PySem.W.exmOne K (.ref cN) (.ref cW) = some false)
    (x_nm : PySem.W.exmOne K (.ref cN) (.ref cM) = some false)
    (x_nb : PySem.W.exmOne K (.ref cN) (.ref cB) = some false)
    (x_no : PySem.W.exmOne K (.ref cN) (.ref cO) = some false)
    (x_np : PySem.W.exmOne K (.ref cN) (.ref cP) = some false)
    (x_nu : PySem.W.exmOne K (.ref cN) (.ref cU) = some false)
    (x_nn : PySem.W.exmOne K (.ref cN) (.ref cN) = some true)
    (x_rw : PySem.W.exmOne K (.ref cR) (.ref cW) = some false)
    (x_rm : PySem.W.exmOne K (.ref cR) (.ref cM) = some false)
    (x_rb : PySem.W.exmOne K (.ref cR) (.ref cB) = some false)
    (x_ro : PySem.W.exmOne K (.ref cR) (.ref cO) = some false)
    (x_rp : PySem.W.exmOne K (.ref cR) (.ref cP) = some false)
    (x_ru : PySem.W.exmOne K (.ref cR) (.ref cU) = some false)
    (x_rn : PySem.W.exmOne K (.ref cR) (.ref cN) = some false)
    (x_rt : PySem.W.exmOne K (.ref cR) (.ref cT) = some false)
    (x_rx : PySem.W.exmOne K (.ref cR) (.ref cX) = some false)
    (x_rr : PySem.W.exmOne K (.ref cR) (.ref cR) = some true)
    (d0 : PySem.W.nsIn K mainGlobals "is_integer" = some (some (.ref f0)))
    (l0 : K.lookup f0 = some ⟨oc0, od0, .func (PySem.W.fnOf "is_integer" "is_integer" (defArgs sIsInt) (defBody sIsInt) (defScope sIsInt) .none kV0 dc0 pm0 an0 cd0 ct0), sl0⟩)
    (q0 : PySem.W.codeIn K cd0 "is_integer" = true)
    (k0 : PySem.W.keepIn K (.ref f0) = true)
    (d1 : PySem.W.nsIn K mainGlobals "is_number" = some (some (.ref f1)))
    (l1 : K.lookup f1 = some ⟨oc1, od1, .func (PySem.W.fnOf "is_number" "is_number" (defArgs sIsNum) (defBody sIsNum) (defScope sIsNum) .none kV1 dc1 pm1 an1 cd1 ct1), sl1⟩)
    (q1 : PySem.W.codeIn K cd1 "is_number" = true)
    (k1 : PySem.W.keepIn K (.ref f1) = true)
    (d2 : PySem.W.nsIn K mainGlobals "need_number" = some (some (.ref f2)))
    (l2 : K.lookup f2 = some ⟨oc2, od2, .func (PySem.W.fnOf "need_number" "need_number" (defArgs sNeedNum) (defBody sNeedNum) (defScope sNeedNum) .none kV2 dc2 pm2 an2 cd2 ct2), sl2⟩)
    (q2 : PySem.W.codeIn K cd2 "need_number" = true)
    (k2 : PySem.W.keepIn K (.ref f2) = true)
    (d3 : PySem.W.nsIn K mainGlobals "ascends" = some (some (.ref f3)))
    (l3 : K.lookup f3 = some ⟨oc3, od3, .func (PySem.W.fnOf "ascends" "ascends" (defArgs sAsc) (defBody sAsc) (defScope sAsc) .none kV3 dc3 pm3 an3 cd3 ct3), sl3⟩)
    (q3 : PySem.W.codeIn K cd3 "ascends" = true)
    (k3 : PySem.W.keepIn K (.ref f3) = true)
    (d4 : PySem.W.nsIn K mainGlobals "is_ascending" = some (some (.ref f4)))
    (l4 : K.lookup f4 = some ⟨oc4, od4, .func (PySem.W.fnOf "is_ascending" "is_ascending" (defArgs sIsAsc) (defBody sIsAsc) (defScope sIsAsc) .none kV4 dc4 pm4 an4 cd4 ct4), sl4⟩)
    (q4 : PySem.W.codeIn K cd4 "is_ascending" = true)
    (k4 : PySem.W.keepIn K (.ref f4) = true)
    (d5 : PySem.W.nsIn K mainGlobals "is_table" = some (some (.ref f5)))
    (l5 : K.lookup f5 = some ⟨oc5, od5, .func (PySem.W.fnOf "is_table" "is_table" (defArgs sIsTab) (defBody sIsTab) (defScope sIsTab) .none kV5 dc5 pm5 an5 cd5 ct5), sl5⟩)
    (q5 : PySem.W.codeIn K cd5 "is_table" = true)
    (k5 : PySem.W.keepIn K (.ref f5) = true)
    (d6 : PySem.W.nsIn K mainGlobals "_is_row" = some (some (.ref f6)))
    (l6 : K.lookup f6 = some ⟨oc6, od6, .func (PySem.W.fnOf "_is_row" "_is_row" (defArgs sIsRow) (defBody sIsRow) (defScope sIsRow) .none kV6 dc6 pm6 an6 cd6 ct6), sl6⟩)
    (q6 : PySem.W.codeIn K cd6 "_is_row" = true)
    (k6 : PySem.W.keepIn K (.ref f6) = true)
    (d7 : PySem.W.nsIn K mainGlobals "is_letters" = some (some (.ref f7)))
    (l7 : K.lookup f7 = some ⟨oc7, od7, .func (PySem.W.fnOf "is_letters" "is_letters" (defArgs sIsLet) (defBody sIsLet) (defScope sIsLet) .none kV7 dc7 pm7 an7 cd7 ct7), sl7⟩)
    (q7 : PySem.W.codeIn K cd7 "is_letters" = true)
    (k7 : PySem.W.keepIn K (.ref f7) = true)
    (d8 : PySem.W.nsIn K mainGlobals "is_word" = some (some (.ref f8)))
    (l8 : K.lookup f8 = some ⟨oc8, od8, .func (PySem.W.fnOf "is_word" "is_word" (defArgs sIsWord) (defBody sIsWord) (defScope sIsWord) .none kV8 dc8 pm8 an8 cd8 ct8), sl8⟩)
    (q8 : PySem.W.codeIn K cd8 "is_word" = true)
    (k8 : PySem.W.keepIn K (.ref f8) = true)
    (d9 : PySem.W.nsIn K mainGlobals "is_over" = some (some (.ref f9)))
    (l9 : K.lookup f9 = some ⟨oc9, od9, .func (PySem.W.fnOf "is_over" "is_over" (defArgs sIsOver) (defBody sIsOver) (defScope sIsOver) .none kV9 dc9 pm9 an9 cd9 ct9), sl9⟩)
    (q9 : PySem.W.codeIn K cd9 "is_over" = true)
    (k9 : PySem.W.keepIn K (.ref f9) = true)
    (d10 : PySem.W.nsIn K mainGlobals "need_letters" = some (some (.ref f10)))
    (l10 : K.lookup f10 = some ⟨oc10, od10, .func (PySem.W.fnOf "need_letters" "need_letters" (defArgs sNeedLet) (defBody sNeedLet) (defScope sNeedLet) .none kV10 dc10 pm10 an10 cd10 ct10), sl10⟩)
    (q10 : PySem.W.codeIn K cd10 "need_letters" = true)
    (k10 : PySem.W.keepIn K (.ref f10) = true)
    (d11 : PySem.W.nsIn K mainGlobals "need_over" = some (some (.ref f11)))
    (l11 : K.lookup f11 = some ⟨oc11, od11, .func (PySem.W.fnOf "need_over" "need_over" (defArgs sNeedOver) (defBody sNeedOver) (defScope sNeedOver) .none kV11 dc11 pm11 an11 cd11 ct11), sl11⟩)
    (q11 : PySem.W.codeIn K cd11 "need_over" = true)
    (k11 : PySem.W.keepIn K (.ref f11) = true)
    (d12 : PySem.W.nsIn K mainGlobals "led" = some (some (.ref f12)))
    (l12 : K.lookup f12 = some ⟨oc12, od12, .func (PySem.W.fnOf "led" "led" (defArgs sLed) (defBody sLed) (defScope sLed) .none kV12 dc12 pm12 an12 cd12 ct12), sl12⟩)
    (q12 : PySem.W.codeIn K cd12 "led" = true)
    (k12 : PySem.W.keepIn K (.ref f12) = true)
    (d13 : PySem.W.nsIn K mainGlobals "need_machines" = some (some (.ref f13)))
    (l13 : K.lookup f13 = some ⟨oc13, od13, .func (PySem.W.fnOf "need_machines" "need_machines" (defArgs sNeedMs) (defBody sNeedMs) (defScope sNeedMs) .none kV13 dc13 pm13 an13 cd13 ct13), sl13⟩)
    (q13 : PySem.W.codeIn K cd13 "need_machines" = true)
    (k13 : PySem.W.keepIn K (.ref f13) = true)
    (d14 : PySem.W.nsIn K mainGlobals "need_same_letters" = some (some (.ref f14)))
    (l14 : K.lookup f14 = some ⟨oc14, od14, .func (PySem.W.fnOf "need_same_letters" "need_same_letters" (defArgs sSame) (defBody sSame) (defScope sSame) .none kV14 dc14 pm14 an14 cd14 ct14), sl14⟩)
    (q14 : PySem.W.codeIn K cd14 "need_same_letters" = true)
    (k14 : PySem.W.keepIn K (.ref f14) = true)
    (d15 : PySem.W.nsIn K mainGlobals "need_two" = some (some (.ref f15)))
    (l15 : K.lookup f15 = some ⟨oc15, od15, .func (PySem.W.fnOf "need_two" "need_two" (defArgs sTwo) (defBody sTwo) (defScope sTwo) .none kV15 dc15 pm15 an15 cd15 ct15), sl15⟩)
    (q15 : PySem.W.codeIn K cd15 "need_two" = true)
    (k15 : PySem.W.keepIn K (.ref f15) = true)
    (d16 : PySem.W.nsIn K mainGlobals "is_pair" = some (some (.ref f16)))
    (l16 : K.lookup f16 = some ⟨oc16, od16, .func (PySem.W.fnOf "is_pair" "is_pair" (defArgs sIsPair) (defBody sIsPair) (defScope sIsPair) .none kV16 dc16 pm16 an16 cd16 ct16), sl16⟩)
    (q16 : PySem.W.codeIn K cd16 "is_pair" = true)
    (k16 : PySem.W.keepIn K (.ref f16) = true)
    (d17 : PySem.W.nsIn K mainGlobals "is_word_blur" = some (some (.ref f17)))
    (l17 : K.lookup f17 = some ⟨oc17, od17, .func (PySem.W.fnOf "is_word_blur" "is_word_blur" (defArgs sWB) (defBody sWB) (defScope sWB) .none kV17 dc17 pm17 an17 cd17 ct17), sl17⟩)
    (q17 : PySem.W.codeIn K cd17 "is_word_blur" = true)
    (k17 : PySem.W.keepIn K (.ref f17) = true)
    (d18 : PySem.W.nsIn K mainGlobals "pieces_blur" = some (some (.ref f18)))
    (l18 : K.lookup f18 = some ⟨oc18, od18, .func (PySem.W.fnOf "pieces_blur" "pieces_blur" (defArgs s_pieces_blur) (defBody s_pieces_blur) (defScope s_pieces_blur) .none kV18 dc18 pm18 an18 cd18 ct18), sl18⟩)
    (q18 : PySem.W.codeIn K cd18 "pieces_blur" = true)
    (k18 : PySem.W.keepIn K (.ref f18) = true)
    (d19 : PySem.W.nsIn K mainGlobals "pieces_clear" = some (some (.ref f19)))
    (l19 : K.lookup f19 = some ⟨oc19, od19, .func (PySem.W.fnOf "pieces_clear" "pieces_clear" (defArgs s_pieces_clear) (defBody s_pieces_clear) (defScope s_pieces_clear) .none kV19 dc19 pm19 an19 cd19 ct19), sl19⟩)
    (q19 : PySem.W.codeIn K cd19 "pieces_clear" = true)
    (k19 : PySem.W.keepIn K (.ref f19) = true)
    (d20 : PySem.W.nsIn K mainGlobals "is_pieces_clear" = some (some (.ref f20)))
    (l20 : K.lookup f20 = some ⟨oc20, od20, .func (PySem.W.fnOf "is_pieces_clear" "is_pieces_clear" (defArgs s_is_pieces_clear) (defBody s_is_pieces_clear) (defScope s_is_pieces_clear) .none kV20 dc20 pm20 an20 cd20 ct20), sl20⟩)
    (q20 : PySem.W.codeIn K cd20 "is_pieces_clear" = true)
    (k20 : PySem.W.keepIn K (.ref f20) = true)
    (d21 : PySem.W.nsIn K mainGlobals "are_told_by_pieces" = some (some (.ref f21)))
    (l21 : K.lookup f21 = some ⟨oc21, od21, .func (PySem.W.fnOf "are_told_by_pieces" "are_told_by_pieces" (defArgs s_are_told) (defBody s_are_told) (defScope s_are_told) .none kV21 dc21 pm21 an21 cd21 ct21), sl21⟩)
    (q21 : PySem.W.codeIn K cd21 "are_told_by_pieces" = true)
    (k21 : PySem.W.keepIn K (.ref f21) = true)
    (d22 : PySem.W.nsIn K mainGlobals "least_pieces" = some (some (.ref f22)))
    (l22 : K.lookup f22 = some ⟨oc22, od22, .func (PySem.W.fnOf "least_pieces" "least_pieces" (defArgs s_least_pieces) (defBody s_least_pieces) (defScope s_least_pieces) .none kV22 dc22 pm22 an22 cd22 ct22), sl22⟩)
    (q22 : PySem.W.codeIn K cd22 "least_pieces" = true)
    (k22 : PySem.W.keepIn K (.ref f22) = true)
    (d23 : PySem.W.nsIn K mainGlobals "pieces_pair" = some (some (.ref f23)))
    (l23 : K.lookup f23 = some ⟨oc23, od23, .func (PySem.W.fnOf "pieces_pair" "pieces_pair" (defArgs s_pieces_pair) (defBody s_pieces_pair) (defScope s_pieces_pair) .none kV23 dc23 pm23 an23 cd23 ct23), sl23⟩)
    (q23 : PySem.W.codeIn K cd23 "pieces_pair" = true)
    (k23 : PySem.W.keepIn K (.ref f23) = true)
    (d24 : PySem.W.nsIn K mainGlobals "_need_most" = some (some (.ref f24)))
    (l24 : K.lookup f24 = some ⟨oc24, od24, .func (PySem.W.fnOf "_need_most" "_need_most" (defArgs s_need_most) (defBody s_need_most) (defScope s_need_most) .none kV24 dc24 pm24 an24 cd24 ct24), sl24⟩)
    (q24 : PySem.W.codeIn K cd24 "_need_most" = true)
    (k24 : PySem.W.keepIn K (.ref f24) = true)
    (d25 : PySem.W.nsIn K mainGlobals "is_path" = some (some (.ref f25)))
    (l25 : K.lookup f25 = some ⟨oc25, od25, .func (PySem.W.fnOf "is_path" "is_path" (defArgs s_is_path) (defBody s_is_path) (defScope s_is_path) .none kV25 dc25 pm25 an25 cd25 ct25), sl25⟩)
    (q25 : PySem.W.codeIn K cd25 "is_path" = true)
    (k25 : PySem.W.keepIn K (.ref f25) = true)
    (d26 : PySem.W.nsIn K mainGlobals "path_ends" = some (some (.ref f26)))
    (l26 : K.lookup f26 = some ⟨oc26, od26, .func (PySem.W.fnOf "path_ends" "path_ends" (defArgs s_path_ends) (defBody s_path_ends) (defScope s_path_ends) .none kV26 dc26 pm26 an26 cd26 ct26), sl26⟩)
    (q26 : PySem.W.codeIn K cd26 "path_ends" = true)
    (k26 : PySem.W.keepIn K (.ref f26) = true)
    (d27 : PySem.W.nsIn K mainGlobals "is_pieces_blur" = some (some (.ref f27)))
    (l27 : K.lookup f27 = some ⟨oc27, od27, .func (PySem.W.fnOf "is_pieces_blur" "is_pieces_blur" (defArgs s_is_pieces_blur) (defBody s_is_pieces_blur) (defScope s_is_pieces_blur) .none kV27 dc27 pm27 an27 cd27 ct27), sl27⟩)
    (q27 : PySem.W.codeIn K cd27 "is_pieces_blur" = true)
    (k27 : PySem.W.keepIn K (.ref f27) = true)
    (d28 : PySem.W.nsIn K mainGlobals "pieces_words" = some (some (.ref f28)))
    (l28 : K.lookup f28 = some ⟨oc28, od28, .func (PySem.W.fnOf "pieces_words" "pieces_words" (defArgs s_pieces_words) (defBody s_pieces_words) (defScope s_pieces_words) .none kV28 dc28 pm28 an28 cd28 ct28), sl28⟩)
    (q28 : PySem.W.codeIn K cd28 "pieces_words" = true)
    (k28 : PySem.W.keepIn K (.ref f28) = true)
    (d29 : PySem.W.nsIn K mainGlobals "ring_letters" = some (some (.ref f29)))
    (l29 : K.lookup f29 = some ⟨oc29, od29, .func (PySem.W.fnOf "ring_letters" "ring_letters" (defArgs s_ring_letters) (defBody s_ring_letters) (defScope s_ring_letters) .none kV29 dc29 pm29 an29 cd29 ct29), sl29⟩)
    (q29 : PySem.W.codeIn K cd29 "ring_letters" = true)
    (k29 : PySem.W.keepIn K (.ref f29) = true)
    (d30 : PySem.W.nsIn K mainGlobals "block_ends" = some (some (.ref f30)))
    (l30 : K.lookup f30 = some ⟨oc30, od30, .func (PySem.W.fnOf "block_ends" "block_ends" (defArgs s_block_ends) (defBody s_block_ends) (defScope s_block_ends) .none kV30 dc30 pm30 an30 cd30 ct30), sl30⟩)
    (q30 : PySem.W.codeIn K cd30 "block_ends" = true)
    (k30 : PySem.W.keepIn K (.ref f30) = true)
    (d31 : PySem.W.nsIn K mainGlobals "_pairs_on" = some (some (.ref f31)))
    (l31 : K.lookup f31 = some ⟨oc31, od31, .func (PySem.W.fnOf "_pairs_on" "_pairs_on" (defArgs s_pairs_on) (defBody s_pairs_on) (defScope s_pairs_on) .none kV31 dc31 pm31 an31 cd31 ct31), sl31⟩)
    (q31 : PySem.W.codeIn K cd31 "_pairs_on" = true)
    (k31 : PySem.W.keepIn K (.ref f31) = true)
    (d32 : PySem.W.nsIn K mainGlobals "_after_step" = some (some (.ref f32)))
    (l32 : K.lookup f32 = some ⟨oc32, od32, .func (PySem.W.fnOf "_after_step" "_after_step" (defArgs s_after_step) (defBody s_after_step) (defScope s_after_step) .none kV32 dc32 pm32 an32 cd32 ct32), sl32⟩)
    (q32 : PySem.W.codeIn K cd32 "_after_step" = true)
    (k32 : PySem.W.keepIn K (.ref f32) = true)
    (d33 : PySem.W.nsIn K mainGlobals "_law_dice" = some (some (.ref f33)))
    (l33 : K.lookup f33 = some ⟨oc33, od33, .func (PySem.W.fnOf "_law_dice" "_law_dice" (defArgs sDice) (defBody sDice) (defScope sDice) .none kV33 dc33 pm33 an33 cd33 ct33), sl33⟩)
    (q33 : PySem.W.codeIn K cd33 "_law_dice" = true)
    (k33 : PySem.W.keepIn K (.ref f33) = true)
    (d34 : PySem.W.nsIn K mainGlobals "_law_roll" = some (some (.ref f34)))
    (l34 : K.lookup f34 = some ⟨oc34, od34, .func (PySem.W.fnOf "_law_roll" "_law_roll" (defArgs sRoll) (defBody sRoll) (defScope sRoll) .none kV34 dc34 pm34 an34 cd34 ct34), sl34⟩)
    (q34 : PySem.W.codeIn K cd34 "_law_roll" = true)
    (k34 : PySem.W.keepIn K (.ref f34) = true)
    (d35 : PySem.W.nsIn K mainGlobals "_law_one_of" = some (some (.ref f35)))
    (l35 : K.lookup f35 = some ⟨oc35, od35, .func (PySem.W.fnOf "_law_one_of" "_law_one_of" (defArgs sOne) (defBody sOne) (defScope sOne) .none kV35 dc35 pm35 an35 cd35 ct35), sl35⟩)
    (q35 : PySem.W.codeIn K cd35 "_law_one_of" = true)
    (k35 : PySem.W.keepIn K (.ref f35) = true)
    (d36 : PySem.W.nsIn K mainGlobals "_law_mixed" = some (some (.ref f36)))
    (l36 : K.lookup f36 = some ⟨oc36, od36, .func (PySem.W.fnOf "_law_mixed" "_law_mixed" (defArgs sMixed) (defBody sMixed) (defScope sMixed) .none kV36 dc36 pm36 an36 cd36 ct36), sl36⟩)
    (q36 : PySem.W.codeIn K cd36 "_law_mixed" = true)
    (k36 : PySem.W.keepIn K (.ref f36) = true)
    (d37 : PySem.W.nsIn K mainGlobals "_law_letters" = some (some (.ref f37)))
    (l37 : K.lookup f37 = some ⟨oc37, od37, .func (PySem.W.fnOf "_law_letters" "_law_letters" (defArgs sLetters) (defBody sLetters) (defScope sLetters) .none kV37 dc37 pm37 an37 cd37 ct37), sl37⟩)
    (q37 : PySem.W.codeIn K cd37 "_law_letters" = true)
    (k37 : PySem.W.keepIn K (.ref f37) = true)
    (d38 : PySem.W.nsIn K mainGlobals "_law_action" = some (some (.ref f38)))
    (l38 : K.lookup f38 = some ⟨oc38, od38, .func (PySem.W.fnOf "_law_action" "_law_action" (defArgs sAct) (defBody sAct) (defScope sAct) .none kV38 dc38 pm38 an38 cd38 ct38), sl38⟩)
    (q38 : PySem.W.codeIn K cd38 "_law_action" = true)
    (k38 : PySem.W.keepIn K (.ref f38) = true)
    (d39 : PySem.W.nsIn K mainGlobals "_law_table" = some (some (.ref f39)))
    (l39 : K.lookup f39 = some ⟨oc39, od39, .func (PySem.W.fnOf "_law_table" "_law_table" (defArgs sLTab) (defBody sLTab) (defScope sLTab) .none kV39 dc39 pm39 an39 cd39 ct39), sl39⟩)
    (q39 : PySem.W.codeIn K cd39 "_law_table" = true)
    (k39 : PySem.W.keepIn K (.ref f39) = true)
    (d40 : PySem.W.nsIn K mainGlobals "_law_machine" = some (some (.ref f40)))
    (l40 : K.lookup f40 = some ⟨oc40, od40, .func (PySem.W.fnOf "_law_machine" "_law_machine" (defArgs sLMac) (defBody sLMac) (defScope sLMac) .none kV40 dc40 pm40 an40 cd40 ct40), sl40⟩)
    (q40 : PySem.W.codeIn K cd40 "_law_machine" = true)
    (k40 : PySem.W.keepIn K (.ref f40) = true)
    (d41 : PySem.W.nsIn K mainGlobals "_law_made_machine" = some (some (.ref f41)))
    (l41 : K.lookup f41 = some ⟨oc41, od41, .func (PySem.W.fnOf "_law_made_machine" "_law_made_machine" (defArgs sMade) (defBody sMade) (defScope sMade) .none kV41 dc41 pm41 an41 cd41 ct41), sl41⟩)
    (q41 : PySem.W.codeIn K cd41 "_law_made_machine" = true)
    (k41 : PySem.W.keepIn K (.ref f41) = true)
    (d42 : PySem.W.nsIn K mainGlobals "_law_met" = some (some (.ref f42)))
    (l42 : K.lookup f42 = some ⟨oc42, od42, .func (PySem.W.fnOf "_law_met" "_law_met" (defArgs sMet) (defBody sMet) (defScope sMet) .none kV42 dc42 pm42 an42 cd42 ct42), sl42⟩)
    (q42 : PySem.W.codeIn K cd42 "_law_met" = true)
    (k42 : PySem.W.keepIn K (.ref f42) = true)
    (d43 : PySem.W.nsIn K mainGlobals "_law_pair_words" = some (some (.ref f43)))
    (l43 : K.lookup f43 = some ⟨oc43, od43, .func (PySem.W.fnOf "_law_pair_words" "_law_pair_words" (defArgs sPW) (defBody sPW) (defScope sPW) .none kV43 dc43 pm43 an43 (.ref oD) ct43), sl43⟩)
    (q43 : PySem.W.codeIn K (.ref oD) "_law_pair_words" = true)
    (k43 : PySem.W.keepIn K (.ref f43) = true)
    (d44 : PySem.W.nsIn K mainGlobals "_law_more_right" = some (some (.ref f44)))
    (l44 : K.lookup f44 = some ⟨oc44, od44, .func (PySem.W.fnOf "_law_more_right" "_law_more_right" (defArgs sMR) (defBody sMR) (defScope sMR) .none kV44 dc44 pm44 an44 (.ref oE) ct44), sl44⟩)
    (q44 : PySem.W.codeIn K (.ref oE) "_law_more_right" = true)
    (k44 : PySem.W.keepIn K (.ref f44) = true)
    (d45 : PySem.W.nsIn K mainGlobals "law" = some (some (.ref f45)))
    (l45 : K.lookup f45 = some ⟨oc45, od45, .func (PySem.W.fnOf "law" "law" (defArgs sLw) (defBody sLw) (defScope sLw) .none kV45 dc45 pm45 an45 (.ref oL) ct45), sl45⟩)
    (q45 : PySem.W.codeIn K (.ref oL) "law" = true)
    (k45 : PySem.W.keepIn K (.ref f45) = true)
    (l46 : K.lookup f46 = some ⟨oc46, od46, .func (PySem.W.fnOf "__init__" "Machine.__init__" (defArgs sMInit) (defBody sMInit) (defScope sMInit) (.ref t46) kV46 dc46 pm46 an46 cd46 ct46), sl46⟩)
    (q46 : PySem.W.codeIn K cd46 "Machine.__init__" = true)
    (k46 : PySem.W.keepIn K (.ref f46) = true)
    (l47 : K.lookup f47 = some ⟨oc47, od47, .func (PySem.W.fnOf "__init__" "InvalidNumber.__init__" (defArgs sINI) (defBody sINI) (defScope sINI) .none kV47 dc47 pm47 an47 cd47 ct47), sl47⟩)
    (q47 : PySem.W.codeIn K cd47 "InvalidNumber.__init__" = true)
    (k47 : PySem.W.keepIn K (.ref f47) = true)
    (l48 : K.lookup f48 = some ⟨oc48, od48, .func (PySem.W.fnOf "letters" "Machine.letters" (defArgs sMLet) (defBody sMLet) (defScope sMLet) .none kV48 dc48 pm48 an48 cd48 ct48), sl48⟩)
    (q48 : PySem.W.codeIn K cd48 "Machine.letters" = true)
    (k48 : PySem.W.keepIn K (.ref f48) = true)
    (l49 : K.lookup f49 = some ⟨oc49, od49, .func (PySem.W.fnOf "table" "Machine.table" (defArgs sMTab) (defBody sMTab) (defScope sMTab) .none kV49 dc49 pm49 an49 cd49 ct49), sl49⟩)
    (q49 : PySem.W.codeIn K cd49 "Machine.table" = true)
    (k49 : PySem.W.keepIn K (.ref f49) = true)
    (l50 : K.lookup f50 = some ⟨oc50, od50, .func (PySem.W.fnOf "__contains__" "Machine.__contains__" (defArgs sMHas) (defBody sMHas) (defScope sMHas) .none kV50 dc50 pm50 an50 cd50 ct50), sl50⟩)
    (q50 : PySem.W.codeIn K cd50 "Machine.__contains__" = true)
    (k50 : PySem.W.keepIn K (.ref f50) = true)
    (l51 : K.lookup f51 = some ⟨oc51, od51, .func (PySem.W.fnOf "__len__" "Machine.__len__" (defArgs sMLen) (defBody sMLen) (defScope sMLen) .none kV51 dc51 pm51 an51 cd51 ct51), sl51⟩)
    (q51 : PySem.W.codeIn K cd51 "Machine.__len__" = true)
    (k51 : PySem.W.keepIn K (.ref f51) = true)
    (y46 : K.lookup t46 = some ⟨e46, j46, .seq #[u46] m46, w46⟩)
    (hPL : h.get? PL = some (PySem.W.tabObj #[]))
    (nPL : K.lookup PL = none)
    (hCL : PySem.W.codeHdIn K oL PL = true)
    (hPE : h.get? PE = some (PySem.W.tabObj #[]))
    (nPE : K.lookup PE = none)
    (hCE : PySem.W.codeHdIn K oE PE = true)
    (hPD : h.get? PD = some (PySem.W.tabObj #[]))
    (nPD : K.lookup PD = none)
    (hCD : PySem.W.codeHdIn K oD PD = true)
    (un : decide ([PL, PE, PD].Nodup) = true)
    (vMAX_LETTERS : PySem.W.nsIn K mainGlobals "MAX_LETTERS" = some (some (.int 3 xMAX_LETTERS)))
    (vMAX_STATES : PySem.W.nsIn K mainGlobals "MAX_STATES" = some (some (.int 4 xMAX_STATES)))
    (vMAX_PIECES : PySem.W.nsIn K mainGlobals "MAX_PIECES" = some (some (.int 3 xMAX_PIECES)))
    (v_MAX_OF_THREE : PySem.W.nsIn K mainGlobals "_MAX_OF_THREE" = some (some (.int 2 x_MAX_OF_THREE)))
    (vMAX_STEPS : PySem.W.nsIn K mainGlobals "MAX_STEPS" = some (some (.int 60 xMAX_STEPS)))
    (v_MAX_MADE : PySem.W.nsIn K mainGlobals "_MAX_MADE" = some (some (.int 20 x_MAX_MADE)))
    (z_len : PySem.W.nsIn K mainGlobals "len" = some none)
    (z_int : PySem.W.nsIn K mainGlobals "int" = some none)
    (z_abs : PySem.W.nsIn K mainGlobals "abs" = some none)
    (z_isinstance : PySem.W.nsIn K mainGlobals "isinstance" = some none)
    (z_bool : PySem.W.nsIn K mainGlobals "bool" = some none)
    (z_str : PySem.W.nsIn K mainGlobals "str" = some none)
    (z_all : PySem.W.nsIn K mainGlobals "all" = some none)
    (z_range : PySem.W.nsIn K mainGlobals "range" = some none)
    (z_sorted : PySem.W.nsIn K mainGlobals "sorted" = some none)
    (z_set : PySem.W.nsIn K mainGlobals "set" = some none)
    (z_tuple : PySem.W.nsIn K mainGlobals "tuple" = some none)
    (z_list : PySem.W.nsIn K mainGlobals "list" = some none)
    (z_max : PySem.W.nsIn K mainGlobals "max" = some none)
    (z_min : PySem.W.nsIn K mainGlobals "min" = some none)
    (z_zip : PySem.W.nsIn K mainGlobals "zip" = some none)
    (z_repr : PySem.W.nsIn K mainGlobals "repr" = some none)
    (z_enumerate : PySem.W.nsIn K mainGlobals "enumerate" = some none) :
    WG.LawAtG l w K 16 63 "_law_script" mg fa h := by
  have e := hfa.symm.trans (PySem.W.mg_of X G d45)
  cases e
  have T : TN mg := ⟨PySem.W.mg_none_of X G z_len, PySem.W.mg_none_of X G z_int, PySem.W.mg_none_of X G z_abs, PySem.W.mg_none_of X G z_isinstance, PySem.W.mg_none_of X G z_bool, PySem.W.mg_none_of X G z_str, PySem.W.mg_none_of X G z_all, PySem.W.mg_none_of X G z_range, PySem.W.mg_none_of X G z_sorted, PySem.W.mg_none_of X G z_set, PySem.W.mg_none_of X G z_tuple, PySem.W.mg_none_of X G z_list, PySem.W.mg_none_of X G z_max, PySem.W.mg_none_of X G z_min, PySem.W.mg_none_of X G z_zip, ⟨_, PySem.W.mg_of X G vMAX_LETTERS⟩⟩
  have rp := PySem.W.mg_none_of X G z_repr
  have en := PySem.W.mg_none_of X G z_enumerate
  have clM : Cls K CM := ⟨pgm, hdm, pom, sam⟩
  have YM : OwnI K CM := ⟨⟨ccm, cn, ct, obm⟩, kim, all_false ncm⟩
  have MM : TMc K mg CM cD cM := ⟨clM, nMT, nML, nME, PySem.W.mg_of X G gm, PySem.W.mg_of X G gd, fun t ht => by simpa using List.all_eq_true.mp kitD t ht, PySem.W.mg_of X G geM, xeM, keM, beM, teM, ⟨_, PySem.W.mg_of X G vMAX_STATES⟩⟩
  have Rml : PropOf K CM "letters" pml f48 := ⟨paml, pg_ml, pt_ml, _, pr_ml⟩
  have Rmt : PropOf K CM "table" pmt f49 := ⟨pamt, pg_mt, pt_mt, _, pr_mt⟩
  have RsM : Rs K mg "InvalidMachine" cM := ⟨xeM, PySem.W.mg_of X G geM, keM, beM, teM⟩
  have RsO : Rs K mg "InvalidOperation" cO := ⟨xeO, PySem.W.mg_of X G geO, keO, beO, teO⟩
  have EN := WE.ErrT.of ebN
  have ER := WE.ErrT.of ebR
  have EIN := WE.ErrI.of eiN
  let c : ErrC := ⟨cW, cM, cB, cO, cP, cU, cN, cT, cX, cR⟩
  have TE : TErr K mg c := ⟨PySem.W.mg_of X G geW, PySem.W.mg_of X G geM, PySem.W.mg_of X G geB, PySem.W.mg_of X G geO, PySem.W.mg_of X G geP, PySem.W.mg_of X G geU, PySem.W.mg_of X G geN, PySem.W.mg_of X G geT, PySem.W.mg_of X G geX, PySem.W.mg_of X G geR, x_ww, x_mw, x_mm, x_bw, x_bm, x_bb, x_ow, x_om, x_ob, x_oo, x_nw, x_nm, x_nb, x_no, x_np, x_nu, x_nn, x_rw, x_rm, x_rb, x_ro, x_rp, x_ru, x_rn, x_rt, x_rx, x_rr, ⟨EN.ga, EN.gg, EN.sb, EN.hd⟩, ⟨ER.ga, ER.gg, ER.sb, ER.hd⟩, noN, noR, rp, T.str⟩
  have nd : ([PL, PE, PD] : List Addr).Nodup := of_decide_eq_true un
  have F0 := fun_mk (st := sIsInt) l0 q0 k0
  have b0 := F0.binds (ps := ["value"]) fun _ _ _ _ _ _ us hl => match us, hl with | [_], _ => rfl
  have A0 : Fn K mg "is_integer" sIsInt ["value"] f0 _ := ⟨PySem.W.mg_of X G d0, F0, b0⟩
  have F1 := fun_mk (st := sIsNum) l1 q1 k1
  have b1 := F1.binds (ps := ["value", "least", "most"]) fun _ _ _ _ _ _ us hl => match us, hl with | [_, _, _], _ => rfl
  have A1 : Fn K mg "is_number" sIsNum ["value", "least", "most"] f1 _ := ⟨PySem.W.mg_of X G d1, F1, b1⟩
  have F2 := fun_mk (st := sNeedNum) l2 q2 k2
  have b2 := F2.binds (ps := ["value", "least", "most"]) fun _ _ _ _ _ _ us hl => match us, hl with | [_, _, _], _ => rfl
  have A2 : Fn K mg "need_number" sNeedNum ["value", "least", "most"] f2 _ := ⟨PySem.W.mg_of X G d2, F2, b2⟩
  have F3 := fun_mk (st := sAsc) l3 q3 k3
  have b3 := F3.binds (ps := ["values"]) fun _ _ _ _ _ _ us hl => match us, hl with | [_], _ => rfl
  have A3 : Fn K mg "ascends" sAsc ["values"] f3 _ := ⟨PySem.W.mg_of X G d3, F3, b3⟩
  have F4 := fun_mk (st := sIsAsc) l4 q4 k4
  have b4 := F4.binds (ps := ["value", "many"]) fun _ _ _ _ _ _ us hl => match us, hl with | [_, _], _ => rfl
  have A4 : Fn K mg "is_ascending" sIsAsc ["value", "many"] f4 _ := ⟨PySem.W.mg_of X G d4, F4, b4⟩
  have F5 := fun_mk (st := sIsTab) l5 q5 k5
  have b5 := F5.binds (ps := ["value", "width", "most"]) fun _ _ _ _ _ _ us hl => match us, hl with | [_, _, _], _ => rfl
  have A5 : Fn K mg "is_table" sIsTab ["value", "width", "most"] f5 _ := ⟨PySem.W.mg_of X G d5, F5, b5⟩
  have F6 := fun_mk (st := sIsRow) l6 q6 k6
  have b6 := F6.binds (ps := ["value", "width", "many"]) fun _ _ _ _ _ _ us hl => match us, hl with | [_, _, _], _ => rfl
  have A6 : Fn K mg "_is_row" sIsRow ["value", "width", "many"] f6 _ := ⟨PySem.W.mg_of X G d6, F6, b6⟩
  have F7 := fun_mk (st := sIsLet) l7 q7 k7
  have b7 := F7.binds (ps := ["value"]) fun _ _ _ _ _ _ us hl => match us, hl with | [_], _ => rfl
  have A7 : Fn K mg "is_letters" sIsLet ["value"] f7 _ := ⟨PySem.W.mg_of X G d7, F7, b7⟩
  have F8 := fun_mk (st := sIsWord) l8 q8 k8
  have b8 := F8.binds (ps := ["value"]) fun _ _ _ _ _ _ us hl => match us, hl with | [_], _ => rfl
  have A8 : Fn K mg "is_word" sIsWord ["value"] f8 _ := ⟨PySem.W.mg_of X G d8, F8, b8⟩
  have F9 := fun_mk (st := sIsOver) l9 q9 k9
  have b9 := F9.binds (ps := ["letters", "word"]) fun _ _ _ _ _ _ us hl => match us, hl with | [_, _], _ => rfl
  have A9 : Fn K mg "is_over" sIsOver ["letters", "word"] f9 _ := ⟨PySem.W.mg_of X G d9, F9, b9⟩
  have F10 := fun_mk (st := sNeedLet) l10 q10 k10
  have b10 := F10.binds (ps := ["letters"]) fun _ _ _ _ _ _ us hl => match us, hl with | [_], _ => rfl
  have A10 : Fn K mg "need_letters" sNeedLet ["letters"] f10 _ := ⟨PySem.W.mg_of X G d10, F10, b10⟩
  have F11 := fun_mk (st := sNeedOver) l11 q11 k11
  have b11 := F11.binds (ps := ["letters", "word"]) fun _ _ _ _ _ _ us hl => match us, hl with | [_, _], _ => rfl
  have A11 : Fn K mg "need_over" sNeedOver ["letters", "word"] f11 _ := ⟨PySem.W.mg_of X G d11, F11, b11⟩
  have F12 := fun_mk (st := sLed) l12 q12 k12
  have b12 := F12.binds (ps := ["letters", "table", "word", "start"]) fun _ _ _ _ _ _ us hl => match us, hl with | [_, _, _, _], _ => rfl
  have A12 : Fn K mg "led" sLed ["letters", "table", "word", "start"] f12 _ := ⟨PySem.W.mg_of X G d12, F12, b12⟩
  have F13 := fun_mk (st := sNeedMs) l13 q13 k13
  have b13 := F13.binds (ps := ["machines"]) fun _ _ _ _ _ _ us hl => match us, hl with | [_], _ => rfl
  have A13 : Fn K mg "need_machines" sNeedMs ["machines"] f13 _ := ⟨PySem.W.mg_of X G d13, F13, b13⟩
  have F14 := fun_mk (st := sSame) l14 q14 k14
  have b14 := F14.binds (ps := ["one", "other"]) fun _ _ _ _ _ _ us hl => match us, hl with | [_, _], _ => rfl
  have A14 : Fn K mg "need_same_letters" sSame ["one", "other"] f14 _ := ⟨PySem.W.mg_of X G d14, F14, b14⟩
  have F15 := fun_mk (st := sTwo) l15 q15 k15
  have b15 := F15.binds (ps := ["one", "other"]) fun _ _ _ _ _ _ us hl => match us, hl with | [_, _], _ => rfl
  have A15 : Fn K mg "need_two" sTwo ["one", "other"] f15 _ := ⟨PySem.W.mg_of X G d15, F15, b15⟩
  have F16 := fun_mk (st := sIsPair) l16 q16 k16
  have b16 := F16.binds (ps := ["value"]) fun _ _ _ _ _ _ us hl => match us, hl with | [_], _ => rfl
  have A16 : Fn K mg "is_pair" sIsPair ["value"] f16 _ := ⟨PySem.W.mg_of X G d16, F16, b16⟩
  have F17 := fun_mk (st := sWB) l17 q17 k17
  have b17 := F17.binds (ps := ["one", "other", "value"]) fun _ _ _ _ _ _ us hl => match us, hl with | [_, _, _], _ => rfl
  have A17 : Fn K mg "is_word_blur" sWB ["one", "other", "value"] f17 _ := ⟨PySem.W.mg_of X G d17, F17, b17⟩
  have F18 := fun_mk (st := s_pieces_blur) l18 q18 k18
  have b18 := F18.binds (ps := ["one", "other"]) fun _ _ _ _ _ _ us hl => match us, hl with | [_, _], _ => rfl
  have A18 : Fn K mg "pieces_blur" s_pieces_blur ["one", "other"] f18 _ := ⟨PySem.W.mg_of X G d18, F18, b18⟩
  have F19 := fun_mk (st := s_pieces_clear) l19 q19 k19
  have b19 := F19.binds (ps := ["one", "other"]) fun _ _ _ _ _ _ us hl => match us, hl with | [_, _], _ => rfl
  have A19 : Fn K mg "pieces_clear" s_pieces_clear ["one", "other"] f19 _ := ⟨PySem.W.mg_of X G d19, F19, b19⟩
  have F20 := fun_mk (st := s_is_pieces_clear) l20 q20 k20
  have b20 := F20.binds (ps := ["one", "other", "value"]) fun _ _ _ _ _ _ us hl => match us, hl with | [_, _, _], _ => rfl
  have A20 : Fn K mg "is_pieces_clear" s_is_pieces_clear ["one", "other", "value"] f20 _ := ⟨PySem.W.mg_of X G d20, F20, b20⟩
  have F21 := fun_mk (st := s_are_told) l21 q21 k21
  have b21 := F21.binds (ps := ["one", "other"]) fun _ _ _ _ _ _ us hl => match us, hl with | [_, _], _ => rfl
  have A21 : Fn K mg "are_told_by_pieces" s_are_told ["one", "other"] f21 _ := ⟨PySem.W.mg_of X G d21, F21, b21⟩
  have F22 := fun_mk (st := s_least_pieces) l22 q22 k22
  have b22 := F22.binds (ps := ["one", "other", "most"]) fun _ _ _ _ _ _ us hl => match us, hl with | [_, _, _], _ => rfl
  have A22 : Fn K mg "least_pieces" s_least_pieces ["one", "other", "most"] f22 _ := ⟨PySem.W.mg_of X G d22, F22, b22⟩
  have F23 := fun_mk (st := s_pieces_pair) l23 q23 k23
  have b23 := F23.binds (ps := ["one", "other", "most"]) fun _ _ _ _ _ _ us hl => match us, hl with | [_, _, _], _ => rfl
  have A23 : Fn K mg "pieces_pair" s_pieces_pair ["one", "other", "most"] f23 _ := ⟨PySem.W.mg_of X G d23, F23, b23⟩
  have F24 := fun_mk (st := s_need_most) l24 q24 k24
  have b24 := F24.binds (ps := ["one", "other", "most"]) fun _ _ _ _ _ _ us hl => match us, hl with | [_, _, _], _ => rfl
  have A24 : Fn K mg "_need_most" s_need_most ["one", "other", "most"] f24 _ := ⟨PySem.W.mg_of X G d24, F24, b24⟩
  have F25 := fun_mk (st := s_is_path) l25 q25 k25
  have b25 := F25.binds (ps := ["one", "other", "value"]) fun _ _ _ _ _ _ us hl => match us, hl with | [_, _, _], _ => rfl
  have A25 : Fn K mg "is_path" s_is_path ["one", "other", "value"] f25 _ := ⟨PySem.W.mg_of X G d25, F25, b25⟩
  have F26 := fun_mk (st := s_path_ends) l26 q26 k26
  have b26 := F26.binds (ps := ["one", "other", "path"]) fun _ _ _ _ _ _ us hl => match us, hl with | [_, _, _], _ => rfl
  have A26 : Fn K mg "path_ends" s_path_ends ["one", "other", "path"] f26 _ := ⟨PySem.W.mg_of X G d26, F26, b26⟩
  have F27 := fun_mk (st := s_is_pieces_blur) l27 q27 k27
  have b27 := F27.binds (ps := ["one", "other", "value"]) fun _ _ _ _ _ _ us hl => match us, hl with | [_, _, _], _ => rfl
  have A27 : Fn K mg "is_pieces_blur" s_is_pieces_blur ["one", "other", "value"] f27 _ := ⟨PySem.W.mg_of X G d27, F27, b27⟩
  have F28 := fun_mk (st := s_pieces_words) l28 q28 k28
  have b28 := F28.binds (ps := ["one", "other", "blur", "number"]) fun _ _ _ _ _ _ us hl => match us, hl with | [_, _, _, _], _ => rfl
  have A28 : Fn K mg "pieces_words" s_pieces_words ["one", "other", "blur", "number"] f28 _ := ⟨PySem.W.mg_of X G d28, F28, b28⟩
  have F29 := fun_mk (st := s_ring_letters) l29 q29 k29
  have b29 := F29.binds (ps := ["machine", "state"]) fun _ _ _ _ _ _ us hl => match us, hl with | [_, _], _ => rfl
  have A29 : Fn K mg "ring_letters" s_ring_letters ["machine", "state"] f29 _ := ⟨PySem.W.mg_of X G d29, F29, b29⟩
  have F30 := fun_mk (st := s_block_ends) l30 q30 k30
  have b30 := F30.binds (ps := ["machine", "state", "letters"]) fun _ _ _ _ _ _ us hl => match us, hl with | [_, _, _], _ => rfl
  have A30 : Fn K mg "block_ends" s_block_ends ["machine", "state", "letters"] f30 _ := ⟨PySem.W.mg_of X G d30, F30, b30⟩
  have F31 := fun_mk (st := s_pairs_on) l31 q31 k31
  have b31 := F31.binds (ps := ["one", "other", "value"]) fun _ _ _ _ _ _ us hl => match us, hl with | [_, _, _], _ => rfl
  have A31 : Fn K mg "_pairs_on" s_pairs_on ["one", "other", "value"] f31 _ := ⟨PySem.W.mg_of X G d31, F31, b31⟩
  have F32 := fun_mk (st := s_after_step) l32 q32 k32
  have b32 := F32.binds (ps := ["one", "other", "pair", "step"]) fun _ _ _ _ _ _ us hl => match us, hl with | [_, _, _, _], _ => rfl
  have A32 : Fn K mg "_after_step" s_after_step ["one", "other", "pair", "step"] f32 _ := ⟨PySem.W.mg_of X G d32, F32, b32⟩
  have F33 := fun_mk (st := sDice) l33 q33 k33
  have b33 := F33.binds (ps := ["_law_script", "_law_at"]) fun _ _ _ _ _ _ us hl => match us, hl with | [_, _], _ => rfl
  have A33 : Fn K mg "_law_dice" sDice ["_law_script", "_law_at"] f33 _ := ⟨PySem.W.mg_of X G d33, F33, b33⟩
  have F34 := fun_mk (st := sRoll) l34 q34 k34
  have b34 := F34.binds (ps := ["_law_dice_here", "_law_total"]) fun _ _ _ _ _ _ us hl => match us, hl with | [_, _], _ => rfl
  have A34 : Fn K mg "_law_roll" sRoll ["_law_dice_here", "_law_total"] f34 _ := ⟨PySem.W.mg_of X G d34, F34, b34⟩
  have F35 := fun_mk (st := sOne) l35 q35 k35
  have b35 := F35.binds (ps := ["_law_dice_here", "_law_items"]) fun _ _ _ _ _ _ us hl => match us, hl with | [_, _], _ => rfl
  have A35 : Fn K mg "_law_one_of" sOne ["_law_dice_here", "_law_items"] f35 _ := ⟨PySem.W.mg_of X G d35, F35, b35⟩
  have F36 := fun_mk (st := sMixed) l36 q36 k36
  have b36 := F36.binds (ps := ["_law_dice_here", "_law_items"]) fun _ _ _ _ _ _ us hl => match us, hl with | [_, _], _ => rfl
  have A36 : Fn K mg "_law_mixed" sMixed ["_law_dice_here", "_law_items"] f36 _ := ⟨PySem.W.mg_of X G d36, F36, b36⟩
  have F37 := fun_mk (st := sLetters) l37 q37 k37
  have b37 := F37.binds (ps := ["_law_dice_here", "_law_total"]) fun _ _ _ _ _ _ us hl => match us, hl with | [_, _], _ => rfl
  have A37 : Fn K mg "_law_letters" sLetters ["_law_dice_here", "_law_total"] f37 _ := ⟨PySem.W.mg_of X G d37, F37, b37⟩
  have F38 := fun_mk (st := sAct) l38 q38 k38
  have b38 := F38.binds (ps := ["_law_dice_here", "_law_size", "_law_sort"]) fun _ _ _ _ _ _ us hl => match us, hl with | [_, _, _], _ => rfl
  have A38 : Fn K mg "_law_action" sAct ["_law_dice_here", "_law_size", "_law_sort"] f38 _ := ⟨PySem.W.mg_of X G d38, F38, b38⟩
  have F39 := fun_mk (st := sLTab) l39 q39 k39
  have b39 := F39.binds (ps := ["_law_dice_here", "_law_letters_here", "_law_size", "_law_sorts"]) fun _ _ _ _ _ _ us hl => match us, hl with | [_, _, _, _], _ => rfl
  have A39 : Fn K mg "_law_table" sLTab ["_law_dice_here", "_law_letters_here", "_law_size", "_law_sorts"] f39 _ := ⟨PySem.W.mg_of X G d39, F39, b39⟩
  have F40 := fun_mk (st := sLMac) l40 q40 k40
  have b40 := F40.binds (ps := ["_law_dice_here", "_law_letters_here", "_law_states"]) fun _ _ _ _ _ _ us hl => match us, hl with | [_, _, _], _ => rfl
  have A40 : Fn K mg "_law_machine" sLMac ["_law_dice_here", "_law_letters_here", "_law_states"] f40 _ := ⟨PySem.W.mg_of X G d40, F40, b40⟩
  have F41 := fun_mk (st := sMade) l41 q41 k41
  have b41 := F41.binds (ps := ["_law_plain"]) fun _ _ _ _ _ _ us hl => match us, hl with | [_], _ => rfl
  have A41 : Fn K mg "_law_made_machine" sMade ["_law_plain"] f41 _ := ⟨PySem.W.mg_of X G d41, F41, b41⟩
  have F42 := fun_mk (st := sMet) l42 q42 k42
  have b42 := F42.binds (ps := ["_law_call"]) fun _ _ _ _ _ _ us hl => match us, hl with | [_], _ => rfl
  have A42 : Fn K mg "_law_met" sMet ["_law_call"] f42 _ := ⟨PySem.W.mg_of X G d42, F42, b42⟩
  have F43 := fun_mk (st := sPW) l43 q43 k43
  have b43 := F43.binds (ps := ["_law_one", "_law_other"]) fun _ _ _ _ _ _ us hl => match us, hl with | [_, _], _ => rfl
  have A43 : Fn K mg "_law_pair_words" sPW ["_law_one", "_law_other"] f43 _ := ⟨PySem.W.mg_of X G d43, F43, b43⟩
  have F44 := fun_mk (st := sMR) l44 q44 k44
  have b44 := F44.binds (ps := ["_law_dice_here", "_law_one", "_law_other"]) fun _ _ _ _ _ _ us hl => match us, hl with | [_, _, _], _ => rfl
  have A44 : Fn K mg "_law_more_right" sMR ["_law_dice_here", "_law_one", "_law_other"] f44 _ := ⟨PySem.W.mg_of X G d44, F44, b44⟩
  have F45 := fun_mk (st := sLw) l45 q45 k45
  have b46 := binds_one (fd := PySem.W.fnOf "__init__" "Machine.__init__" (defArgs sMInit) (defBody sMInit) (defScope sMInit) (.ref t46) kV46 dc46 pm46 an46 cd46 ct46) (f := f46) (a := "self") (b := "letters") (c := "table") (d := "ends") y46 rfl (fun _ _ _ _ => ⟨_, rfl, rfl⟩)
  have F47 := fun_mk (st := sINI) l47 q47 k47
  have b47 := F47.binds (ps := ["self", "value"]) fun _ _ _ _ _ _ us hl => match us, hl with | [_, _], _ => rfl
  have F48 := fun_mk (st := sMLet) l48 q48 k48
  have b48 := F48.binds (ps := ["self"]) fun _ _ _ _ _ _ us hl => match us, hl with | [_], _ => rfl
  have F49 := fun_mk (st := sMTab) l49 q49 k49
  have b49 := F49.binds (ps := ["self"]) fun _ _ _ _ _ _ us hl => match us, hl with | [_], _ => rfl
  have F50 := fun_mk (st := sMHas) l50 q50 k50
  have b50 := F50.binds (ps := ["self", "x"]) fun _ _ _ _ _ _ us hl => match us, hl with | [_, _], _ => rfl
  have F51 := fun_mk (st := sMLen) l51 q51 k51
  have b51 := F51.binds (ps := ["self"]) fun _ _ _ _ _ _ us hl => match us, hl with | [_], _ => rfl
  refine ⟨PySem.W.fnOf "law" "law" (defArgs sLw) (defBody sLw) (defScope sLw) .none kV45 dc45 pm45 an45 (.ref oL) ct45, [(oL, PL), (oE, PE), (oD, PD)], spLw K [(PL, qLw), (PE, qMR), (PD, qPW)], ?_, fun s v => .of_eq rfl, fun H a ns hl hT hS => ⟨a, ns, rfl, hS, hl, ?_, fun _ => rfl⟩, fun base _ _ hB => ?_⟩
  · intro p hp
    simp only [List.mem_cons, List.not_mem_nil, or_false] at hp
    rcases hp with rfl | rfl | rfl
    · exact ⟨hPL, nPL, PySem.W.codeHd_of_K X hCL⟩
    · exact ⟨hPE, nPE, PySem.W.codeHd_of_K X hCE⟩
    · exact ⟨hPD, nPD, PySem.W.codeHd_of_K X hCD⟩
  · intro p hp
    simp only [List.mem_cons, List.not_mem_nil, or_false] at hp
    rcases hp with rfl | rfl | rfl
    · exact LamX.TabS.nil (hT _ (.head _))
    · exact LamX.TabS.nil (hT _ (.tail _ (.head _)))
    · exact LamX.TabS.nil (hT _ (.tail _ (.tail _ (.head _))))
  have TBL : LamX.TabB base mg oL PL := hB _ (.head _)
  have memL : (PL, qLw) ∈ ([(PL, qLw), (PE, qMR), (PD, qPW)] : List (Addr × Str)) := (.head _)
  have UL := uniq_nd (T := [(PL, qLw), (PE, qMR), (PD, qPW)]) nd memL
  have TBE : LamX.TabB base mg oE PE := hB _ (.tail _ (.head _))
  have memE : (PE, qMR) ∈ ([(PL, qLw), (PE, qMR), (PD, qPW)] : List (Addr × Str)) := (.tail _ (.head _))
  have UE := uniq_nd (T := [(PL, qLw), (PE, qMR), (PD, qPW)]) nd memE
  have TBD : LamX.TabB base mg oD PD := hB _ (.tail _ (.tail _ (.head _)))
  have memD : (PD, qPW) ∈ ([(PL, qLw), (PE, qMR), (PD, qPW)] : List (Addr × Str)) := (.tail _ (.tail _ (.head _)))
  have UD := uniq_nd (T := [(PL, qLw), (PE, qMR), (PD, qPW)]) nd memD
  have G1 : FnOk l.prog w K mg base CX0 2 f1 (PySem.W.fnOf "is_number" "is_number" (defArgs sIsNum) (defBody sIsNum) (defScope sIsNum) .none kV1 dc1 pm1 an1 cd1 ct1) ["value", "least", "most"] (spNum2) := ok_num2 F1 T A0
  have G3 : FnOk l.prog w K mg base CX0 1 f3 (PySem.W.fnOf "ascends" "ascends" (defArgs sAsc) (defBody sAsc) (defScope sAsc) .none kV3 dc3 pm3 an3 cd3 ct3) ["values"] (spAscT K) := ok_ascT F3 T
  have G4 : FnOk l.prog w K mg base CX0 3 f4 (PySem.W.fnOf "is_ascending" "is_ascending" (defArgs sIsAsc) (defBody sIsAsc) (defScope sIsAsc) .none kV4 dc4 pm4 an4 cd4 ct4) ["value", "many"] (spIsAsc K) := ok_isasc F4 T A1 G1 A3 G3
  have G6 : FnOk l.prog w K mg base CX0 3 f6 (PySem.W.fnOf "_is_row" "_is_row" (defArgs sIsRow) (defBody sIsRow) (defScope sIsRow) .none kV6 dc6 pm6 an6 cd6 ct6) ["value", "width", "many"] (spRow K) := ok_row F6 T A1 G1
  have G5 : FnOk l.prog w K mg base CX0 4 f5 (PySem.W.fnOf "is_table" "is_table" (defArgs sIsTab) (defBody sIsTab) (defScope sIsTab) .none kV5 dc5 pm5 an5 cd5 ct5) ["value", "width", "most"] (spTab K) := ok_table F5 T A6 G6
  have G8 : FnOk l.prog w K mg base CX0 1 f8 (PySem.W.fnOf "is_word" "is_word" (defArgs sIsWord) (defBody sIsWord) (defScope sIsWord) .none kV8 dc8 pm8 an8 cd8 ct8) ["value"] (spIsWord K) := ok_isword F8 T
  have G7 : FnOk l.prog w K mg base CX0 2 f7 (PySem.W.fnOf "is_letters" "is_letters" (defArgs sIsLet) (defBody sIsLet) (defScope sIsLet) .none kV7 dc7 pm7 an7 cd7 ct7) ["value"] (spIsLet K) := ok_islet F7 T A8 A3
  have G47 : FnOk l.prog w K mg base CX0 1 f47 (PySem.W.fnOf "__init__" "InvalidNumber.__init__" (defArgs sINI) (defBody sINI) (defScope sINI) .none kV47 dc47 pm47 an47 cd47 ct47) ["self", "value"] (WE.spErrI cN "value") := ok_ini F47 EN EIN
  have RN : RsN l.prog w K mg base cN := ⟨EN, ⟨_, EIN, _, G47, b47⟩, PySem.W.mg_of X G geN, EN.sb, teN⟩
  have JhIV : FnOk l.prog w K mg base CX0 1 f0 (PySem.W.fnOf "is_integer" "is_integer" (defArgs sIsInt) (defBody sIsInt) (defScope sIsInt) .none kV0 dc0 pm0 an0 cd0 ct0) ["value"] (spIntV) := ok_intV F0 T
  have hIV := has_of A0 JhIV
  have JhNV : FnOk l.prog w K mg base CX0 2 f1 (PySem.W.fnOf "is_number" "is_number" (defArgs sIsNum) (defBody sIsNum) (defScope sIsNum) .none kV1 dc1 pm1 an1 cd1 ct1) ["value", "least", "most"] (spNumV) := ok_numV F1 hIV
  have hNV := has_of A1 JhNV
  have JhNN : FnOk l.prog w K mg base (L2.CX l.prog w) 3 f2 (PySem.W.fnOf "need_number" "need_number" (defArgs sNeedNum) (defBody sNeedNum) (defScope sNeedNum) .none kV2 dc2 pm2 an2 cd2 ct2) ["value", "least", "most"] (spNN cN) := ok_nn F2 hNV RN
  have hNN := has_of A2 JhNN
  have hIW := has_of A8 G8
  have hIL := has_of A7 G7
  have JhNL : FnOk l.prog w K mg base (L2.CX l.prog w) 3 f10 (PySem.W.fnOf "need_letters" "need_letters" (defArgs sNeedLet) (defBody sNeedLet) (defScope sNeedLet) .none kV10 dc10 pm10 an10 cd10 ct10) ["letters"] (spNLx K cO) := ok_nlx F10 hIL RsO
  have hNL := has_of A10 JhNL
  have JhOv : FnOk l.prog w K mg base CX0 1 f9 (PySem.W.fnOf "is_over" "is_over" (defArgs sIsOver) (defBody sIsOver) (defScope sIsOver) .none kV9 dc9 pm9 an9 cd9 ct9) ["letters", "word"] (spOvr) := ok_ovr F9 T
  have hOv := has_of A9 JhOv
  have JhNO : FnOk l.prog w K mg base (L2.CX l.prog w) 2 f11 (PySem.W.fnOf "need_over" "need_over" (defArgs sNeedOver) (defBody sNeedOver) (defScope sNeedOver) .none kV11 dc11 pm11 an11 cd11 ct11) ["letters", "word"] (spNOx cO) := ok_nox F11 hOv RsO
  have hNO := has_of A11 JhNO
  have JhLd : FnOk l.prog w K mg base CX0 1 f12 (PySem.W.fnOf "led" "led" (defArgs sLed) (defBody sLed) (defScope sLed) .none kV12 dc12 pm12 an12 cd12 ct12) ["letters", "table", "word", "start"] (spLed K) := ok_led F12 en
  have hLd := has_of A12 JhLd
  have G48 : FnOk l.prog w K mg base CX0 1 f48 (PySem.W.fnOf "letters" "Machine.letters" (defArgs sMLet) (defBody sMLet) (defScope sMLet) .none kV48 dc48 pm48 an48 cd48 ct48) ["self"] (getSp CM "_letters") := fn_getter (N := ["self"]) l48 q48 ⟨rfl, rfl, rfl, by decide +kernel, rfl, by decide +kernel, by decide +kernel⟩ rfl rfl clM nML
  have G49 : FnOk l.prog w K mg base CX0 1 f49 (PySem.W.fnOf "table" "Machine.table" (defArgs sMTab) (defBody sMTab) (defScope sMTab) .none kV49 dc49 pm49 an49 cd49 ct49) ["self"] (getSp CM "_table") := fn_getter (N := ["self"]) l49 q49 ⟨rfl, rfl, rfl, by decide +kernel, rfl, by decide +kernel, by decide +kernel⟩ rfl rfl clM nMT
  have pl : PropL l.prog w K mg base CM := ⟨⟨_, _, _, Rml, G48, b48⟩⟩
  have tbl : ∃ (p g : Addr) (d : FuncData), PropOf K CM "table" p g ∧ FnOk l.prog w K mg base CX0 1 g d ["self"] (getSp CM "_table") ∧ L2.Binds K d ["self"] [] := ⟨_, _, _, Rmt, G49, b49⟩
  have JhNM : FnOk l.prog w K mg base (L2.CX l.prog w) 1 f13 (PySem.W.fnOf "need_machines" "need_machines" (defArgs sNeedMs) (defBody sNeedMs) (defScope sNeedMs) .none kV13 dc13 pm13 an13 cd13 ct13) ["machines"] (spNMx K CM cM) := ok_nmx F13 T MM YM RsM
  have hNM := has_of A13 JhNM
  have JhNS : FnOk l.prog w K mg base (L2.CX l.prog w) 1 f14 (PySem.W.fnOf "need_same_letters" "need_same_letters" (defArgs sSame) (defBody sSame) (defScope sSame) .none kV14 dc14 pm14 an14 cd14 ct14) ["one", "other"] (spNSx cO) := ok_nsx F14 RsO
  have hNS := has_of A14 JhNS
  have JhTw : FnOk l.prog w K mg base (L2.CX l.prog w) 3 f15 (PySem.W.fnOf "need_two" "need_two" (defArgs sTwo) (defBody sTwo) (defScope sTwo) .none kV15 dc15 pm15 an15 cd15 ct15) ["one", "other"] (spTwo CM cM cO) := ok_two F15 MM hNM hNS pl
  have hTw := has_of A15 JhTw
  have G46 : FnOk l.prog w K mg base (L2.CX l.prog w) 5 f46 (PySem.W.fnOf "__init__" "Machine.__init__" (defArgs sMInit) (defBody sMInit) (defScope sMInit) (.ref t46) kV46 dc46 pm46 an46 cd46 ct46) ["self", "letters", "table", "ends"] (spMInit K CM cM) := ok_minit l46 q46 T MM A7 G7 A5 G5 A4 G4
  have MIM : Mk K CM f46 := ⟨mkm, im, nim, kCm⟩
  have JhPr : FnOk l.prog w K mg base CX0 1 f16 (PySem.W.fnOf "is_pair" "is_pair" (defArgs sIsPair) (defBody sIsPair) (defScope sIsPair) .none kV16 dc16 pm16 an16 cd16 ct16) ["value"] (spPairV K) := ok_pair F16 T
  have hPr := has_of A16 JhPr
  have Gc1 : FnOk l.prog w K mg base CX0 2 f50 (PySem.W.fnOf "__contains__" "Machine.__contains__" (defArgs sMHas) (defBody sMHas) (defScope sMHas) .none kV50 dc50 pm50 an50 cd50 ct50) ["self", "x"] (spMHx CM) := ok_mhx F50 hIW
  have Gc2 : FnOk l.prog w K mg base CX0 2 f50 (PySem.W.fnOf "__contains__" "Machine.__contains__" (defArgs sMHas) (defBody sMHas) (defScope sMHas) .none kV50 dc50 pm50 an50 cd50 ct50) ["self", "x"] (spMH0 CM) := ok_mh0 F50 MM hIW hOv hLd
  have Gln : FnOk l.prog w K mg base CX0 1 f51 (PySem.W.fnOf "__len__" "Machine.__len__" (defArgs sMLen) (defBody sMLen) (defScope sMLen) .none kV51 dc51 pm51 an51 cd51 ct51) ["self"] (spMLen CM) := ok_mlen F51 T MM
  have JhWB : FnOk l.prog w K mg base CX0 3 f17 (PySem.W.fnOf "is_word_blur" "is_word_blur" (defArgs sWB) (defBody sWB) (defScope sWB) .none kV17 dc17 pm17 an17 cd17 ct17) ["one", "other", "value"] (spWBx CM) := ok_wbx F17 hPr a50 n50 (Gc1.raw b50 .nil)
  have hWB := has_of A17 JhWB
  have JhW0 : FnOk l.prog w K mg base CX0 3 f17 (PySem.W.fnOf "is_word_blur" "is_word_blur" (defArgs sWB) (defBody sWB) (defScope sWB) .none kV17 dc17 pm17 an17 cd17 ct17) ["one", "other", "value"] (spWB0 CM) := ok_wb0 F17 hPr a50 n50 (Gc2.raw b50 .nil)
  have hW0 := has_of A17 JhW0
  have JhAS : FnOk l.prog w K mg base CX0 1 f32 (PySem.W.fnOf "_after_step" "_after_step" (defArgs s_after_step) (defBody s_after_step) (defScope s_after_step) .none kV32 dc32 pm32 an32 cd32 ct32) ["one", "other", "pair", "step"] (spAS) := ok_after F32 T
  have hAS := has_of A32 JhAS
  have JhPO : FnOk l.prog w K mg base CX0 2 f31 (PySem.W.fnOf "_pairs_on" "_pairs_on" (defArgs s_pairs_on) (defBody s_pairs_on) (defScope s_pairs_on) .none kV31 dc31 pm31 an31 cd31 ct31) ["one", "other", "value"] (spPO) := ok_pairs_on F31 T ⟨_, PySem.W.mg_of X G vMAX_STEPS⟩ hAS
  have hPO := has_of A31 JhPO
  have Jh_pieces_blur : FnOk l.prog w K mg base (L2.CX l.prog w) 4 f18 (PySem.W.fnOf "pieces_blur" "pieces_blur" (defArgs s_pieces_blur) (defBody s_pieces_blur) (defScope s_pieces_blur) .none kV18 dc18 pm18 an18 cd18 ct18) ["one", "other"] (spKi CM cM cO) := ok_pieces_blur F18 hTw
  have h_pieces_blur := has_of A18 Jh_pieces_blur
  have Jh_pieces_clear : FnOk l.prog w K mg base (L2.CX l.prog w) 4 f19 (PySem.W.fnOf "pieces_clear" "pieces_clear" (defArgs s_pieces_clear) (defBody s_pieces_clear) (defScope s_pieces_clear) .none kV19 dc19 pm19 an19 cd19 ct19) ["one", "other"] (spKi CM cM cO) := ok_pieces_clear F19 hTw
  have h_pieces_clear := has_of A19 Jh_pieces_clear
  have Jh_is_pieces_clear : FnOk l.prog w K mg base (L2.CX l.prog w) 4 f20 (PySem.W.fnOf "is_pieces_clear" "is_pieces_clear" (defArgs s_is_pieces_clear) (defBody s_is_pieces_clear) (defScope s_is_pieces_clear) .none kV20 dc20 pm20 an20 cd20 ct20) ["one", "other", "value"] (spKi3 CM cM cO) := ok_is_pieces_clear F20 hTw
  have h_is_pieces_clear := has_of A20 Jh_is_pieces_clear
  have Jh_is_path : FnOk l.prog w K mg base (L2.CX l.prog w) 4 f25 (PySem.W.fnOf "is_path" "is_path" (defArgs s_is_path) (defBody s_is_path) (defScope s_is_path) .none kV25 dc25 pm25 an25 cd25 ct25) ["one", "other", "value"] (spKi3 CM cM cO) := ok_is_path F25 hTw
  have h_is_path := has_of A25 Jh_is_path
  have JhAT : FnOk l.prog w K mg base (L2.CX l.prog w) 5 f21 (PySem.W.fnOf "are_told_by_pieces" "are_told_by_pieces" (defArgs s_are_told) (defBody s_are_told) (defScope s_are_told) .none kV21 dc21 pm21 an21 cd21 ct21) ["one", "other"] (spKi CM cM cO) := ok_are_told F21 h_pieces_clear
  have hAT := has_of A21 JhAT
  have JhNMo : FnOk l.prog w K mg base (L2.CX l.prog w) 4 f24 (PySem.W.fnOf "_need_most" "_need_most" (defArgs s_need_most) (defBody s_need_most) (defScope s_need_most) .none kV24 dc24 pm24 an24 cd24 ct24) ["one", "other", "most"] (spNM CM cM cO cN) := ok_nmost F24 T MM pl ⟨_, PySem.W.mg_of X G v_MAX_OF_THREE⟩ ⟨_, PySem.W.mg_of X G vMAX_PIECES⟩ hTw hNN
  have hNMo := has_of A24 JhNMo
  have JhLP : FnOk l.prog w K mg base (L2.CX l.prog w) 5 f22 (PySem.W.fnOf "least_pieces" "least_pieces" (defArgs s_least_pieces) (defBody s_least_pieces) (defScope s_least_pieces) .none kV22 dc22 pm22 an22 cd22 ct22) ["one", "other", "most"] (spNM CM cM cO cN) := ok_least_pieces F22 hNMo
  have hLP := has_of A22 JhLP
  have JhPP : FnOk l.prog w K mg base (L2.CX l.prog w) 5 f23 (PySem.W.fnOf "pieces_pair" "pieces_pair" (defArgs s_pieces_pair) (defBody s_pieces_pair) (defScope s_pieces_pair) .none kV23 dc23 pm23 an23 cd23 ct23) ["one", "other", "most"] (spNM CM cM cO cN) := ok_pieces_pair F23 hNMo
  have hPP := has_of A23 JhPP
  have JhPE : FnOk l.prog w K mg base (L2.CX l.prog w) 4 f26 (PySem.W.fnOf "path_ends" "path_ends" (defArgs s_path_ends) (defBody s_path_ends) (defScope s_path_ends) .none kV26 dc26 pm26 an26 cd26 ct26) ["one", "other", "path"] (spPE CM cM cO) := ok_pends F26 hTw hPO RsO
  have hPE := has_of A26 JhPE
  have JhPB : FnOk l.prog w K mg base (L2.CX l.prog w) 4 f27 (PySem.W.fnOf "is_pieces_blur" "is_pieces_blur" (defArgs s_is_pieces_blur) (defBody s_is_pieces_blur) (defScope s_is_pieces_blur) .none kV27 dc27 pm27 an27 cd27 ct27) ["one", "other", "value"] (spPB CM cM cO) := ok_pblur F27 hTw hPr hWB hW0 hPO
  have hPB := has_of A27 JhPB
  have JhPW : FnOk l.prog w K mg base (L2.CX l.prog w) 5 f28 (PySem.W.fnOf "pieces_words" "pieces_words" (defArgs s_pieces_words) (defBody s_pieces_words) (defScope s_pieces_words) .none kV28 dc28 pm28 an28 cd28 ct28) ["one", "other", "blur", "number"] (spPW CM cM cO cN) := ok_pwords F28 hPB hNN ⟨_, PySem.W.mg_of X G v_MAX_MADE⟩ RsO
  have hPW := has_of A28 JhPW
  have JhRL : FnOk l.prog w K mg base (L2.CX l.prog w) 4 f29 (PySem.W.fnOf "ring_letters" "ring_letters" (defArgs s_ring_letters) (defBody s_ring_letters) (defScope s_ring_letters) .none kV29 dc29 pm29 an29 cd29 ct29) ["machine", "state"] (spRL CM cM cN) := ok_rl F29 T a51 n51 (Gln.raw b51 .nil) hNM hNN
  have hRL := has_of A29 JhRL
  have JhBE : FnOk l.prog w K mg base (L2.CX l.prog w) 4 f30 (PySem.W.fnOf "block_ends" "block_ends" (defArgs s_block_ends) (defBody s_block_ends) (defScope s_block_ends) .none kV30 dc30 pm30 an30 cd30 ct30) ["machine", "state", "letters"] (spBE K CM cM cN cO) := ok_be F30 T MM pl a51 n51 (Gln.raw b51 .nil) hNM hNN hNL hNO
  have hBE := has_of A30 JhBE
  have Lb : Lib l.prog w K mg base c CM := ⟨h_is_path, hPE, hPB, hPW, h_pieces_blur, h_pieces_clear, h_is_pieces_clear, hAT, hLP, hPP, hRL, hBE, clM⟩
  have G33 : FnOk l.prog w K mg base CX0 1 f33 (PySem.W.fnOf "_law_dice" "_law_dice" (defArgs sDice) (defBody sDice) (defScope sDice) .none kV33 dc33 pm33 an33 cd33 ct33) ["_law_script", "_law_at"] (spDice K) := ok_dice F33 T.dice
  have G35 : FnOk l.prog w K mg base CX0 2 f35 (PySem.W.fnOf "_law_one_of" "_law_one_of" (defArgs sOne) (defBody sOne) (defScope sOne) .none kV35 dc35 pm35 an35 cd35 ct35) ["_law_dice_here", "_law_items"] (spOne) := ok_one F35 T.dice A34.g A34.F A34.b
  have G36 : FnOk l.prog w K mg base CX0 2 f36 (PySem.W.fnOf "_law_mixed" "_law_mixed" (defArgs sMixed) (defBody sMixed) (defScope sMixed) .none kV36 dc36 pm36 an36 cd36 ct36) ["_law_dice_here", "_law_items"] (spMixed) := ok_mixed F36 T A34
  have JhLe : FnOk l.prog w K mg base CX0 3 f37 (PySem.W.fnOf "_law_letters" "_law_letters" (defArgs sLetters) (defBody sLetters) (defScope sLetters) .none kV37 dc37 pm37 an37 cd37 ct37) ["_law_dice_here", "_law_total"] (spLetters) := ok_letters F37 T A36 G36
  have hLe := has_of A37 JhLe
  have G39 : FnOk l.prog w K mg base CX0 3 f39 (PySem.W.fnOf "_law_table" "_law_table" (defArgs sLTab) (defBody sLTab) (defScope sLTab) .none kV39 dc39 pm39 an39 cd39 ct39) ["_law_dice_here", "_law_letters_here", "_law_size", "_law_sorts"] (spLTab) := ok_ltab F39 T A34 A35 A38
  have JhLM : FnOk l.prog w K mg base CX0 4 f40 (PySem.W.fnOf "_law_machine" "_law_machine" (defArgs sLMac) (defBody sLMac) (defScope sLMac) .none kV40 dc40 pm40 an40 cd40 ct40) ["_law_dice_here", "_law_letters_here", "_law_states"] (spLMac) := ok_lmac F40 T A34 A39 G39
  have hLM := has_of A40 JhLM
  have JhMd : FnOk l.prog w K mg base CX0 7 f41 (PySem.W.fnOf "_law_made_machine" "_law_made_machine" (defArgs sMade) (defBody sMade) (defScope sMade) .none kV41 dc41 pm41 an41 cd41 ct41) ["_law_plain"] (spMade CM) := ok_made F41 T MM MIM G46 b46
  have hMd := has_of A41 JhMd
  have hOn := has_of A35 G35
  have G_HT : WG.FnG l.prog w K mg base  14 f42 (PySem.W.fnOf "_law_met" "_law_met" (defArgs sMet) (defBody sMet) (defScope sMet) .none kV42 dc42 pm42 an42 cd42 ct42) ["_law_call"] (spMet l.prog w K mg base c 10) := ok_met F42 TE
  have HT : HasG l.prog w K mg base 14 "_law_met" ["_law_call"] (spMet l.prog w K mg base c 10) := ⟨_, _, PySem.W.mg_of X G d42, k42, b42, G_HT⟩
  have G_HPW : WG.FnG l.prog w K mg base  15 f43 (PySem.W.fnOf "_law_pair_words" "_law_pair_words" (defArgs sPW) (defBody sPW) (defScope sPW) .none kV43 dc43 pm43 an43 (.ref oD) ct43) ["_law_one", "_law_other"] (spPWs CM [(PL, qLw), (PE, qMR), (PD, qPW)]) := ok_pw l43 q43 Lb TBD memD UD HT
  have HPW : HasG l.prog w K mg base 15 "_law_pair_words" ["_law_one", "_law_other"] (spPWs CM [(PL, qLw), (PE, qMR), (PD, qPW)]) := ⟨_, _, PySem.W.mg_of X G d43, k43, b43, G_HPW⟩
  have IM : IniM l.prog w K mg base CM cM := ⟨PySem.W.mg_of X G gm, _, _, MIM, G46, b46⟩
  have G_HMR : WG.FnG l.prog w K mg base  15 f44 (PySem.W.fnOf "_law_more_right" "_law_more_right" (defArgs sMR) (defBody sMR) (defScope sMR) .none kV44 dc44 pm44 an44 (.ref oE) ct44) ["_law_dice_here", "_law_one", "_law_other"] (spMR CM [(PL, qLw), (PE, qMR), (PD, qPW)]) := ok_mr l44 q44 Lb TBE memE UE HT hOn pl IM T rp
  have HMR : HasG l.prog w K mg base 15 "_law_more_right" ["_law_dice_here", "_law_one", "_law_other"] (spMR CM [(PL, qLw), (PE, qMR), (PD, qPW)]) := ⟨_, _, PySem.W.mg_of X G d44, k44, b44, G_HMR⟩
  exact ok_lw l45 q45 Lb TBL memL UL T A33 G33 HT hOn hLe hMd hLM tbl IM ⟨_, PySem.W.mg_of X G vMAX_PIECES⟩ HPW HMR
end WK
set_option Elab.async false
set_option linter.all false
set_option maxRecDepth 100000
set_option maxHeartbeats 2000000
namespace HK
open PySem PySem.Spec PyProof.Rows L2
/-- a def as it was written, at an address -/
abbrev FnT : Type := Option (Str × Str × Arguments × FuncBody × Scope × Addr × List (Str × Addr) × Addr)
def fnAt (K : PySem.W.Frag) (f : Addr) : FnT := match K.lookup f with
  | some ⟨_, _, .func d, _⟩ => some (d.name, d.qualname, d.params, d.body, d.scope, d.globals, d.closure, d.builtins)
  | _ => none
def fnIs (nm q : Str) (st : Stmt) : FnT := some (nm, q, defArgs st, .stmts (defBody st), defScope st, mainGlobals, [], builtinsNs)
/-- none: nothing stands there; an address: that -/
def isV (d : Option Addr) (v : Value) : Bool := match d, v with
  | none, .none => true
  | some a, .ref b => Nat.beq a b
  | _, _ => false
def dV : Option Addr → Value
  | none => .none
  | some a => .ref a
theorem isV_ok {d : Option Addr} {v : Value} (h : isV d v = true) : v = dV d := by
  cases d with
  | none => cases v <;> first | rfl | cases h
  | some a =>
    cases v with
    | ref b => exact congrArg Value.ref (Nat.eq_of_beq_eq_true h).symm
    | _ => cases h
/-- an address, where one is asked -/
def anyV (d : Option Addr) (v : Value) : Bool := match d with
  | none => true
  | some _ => isV d v
/-- defaults, keyword defaults, the code object of the def at f -/
def fnB (K : PySem.W.Frag) (f : Addr) (q : Str) (d k o : Option Addr) : Bool := match K.lookup f with
  | some ⟨_, _, .func fd, _⟩ => isV d fd.defaults && (anyV k fd.kwdefaults && (anyV o fd.code && PySem.W.codeIn K fd.code q))
  | _ => false
theorem fn_ok {K : PySem.W.Frag} {f : Addr} {nm q : Str} {st : Stmt} {d k o : Option Addr} (e : fnAt K f = fnIs nm q st) (c : fnB K f q d k o = true) :
    ∃ (oc kV doc pm cd ct : Value) (od an : Option Addr) (sl : Array (Option Value)), K.lookup f = some ⟨oc, od, .func (PySem.W.fnOf nm q (defArgs st) (defBody st) (defScope st) (dV d) kV doc pm an cd ct), sl⟩ ∧ PySem.W.codeIn K cd q = true ∧ (∀ a, k = some a → kV = .ref a) ∧ (∀ a, o = some a → cd = .ref a) := by
  unfold fnAt fnIs at e
  unfold fnB at c
  cases l : K.lookup f with
  | none =>
    rw [l] at c
    cases c
  | some ob =>
    obtain ⟨oc, od, dt, sl⟩ := ob
    rw [l] at c e
    cases dt with
    | func fd =>
      obtain ⟨a1, a2, a3, a4, a5, a6, a7, a8, a9, b1, b2, b3, b4, b5, b6⟩ := fd
      have e2 : (some (a1, a2, a3, a4, a5, a6, a7, b6) : FnT) = some (nm, q, defArgs st, .stmts (defBody st), defScope st, mainGlobals, [], builtinsNs) := e
      simp only [Option.some.injEq, Prod.mk.injEq] at e2
      obtain ⟨rfl, rfl, rfl, rfl, rfl, rfl, rfl, rfl⟩ := e2
      have c2 : (isV d a8 && (anyV k a9 && (anyV o b4 && PySem.W.codeIn K b4 a2))) = true := c
      obtain ⟨c3, c6⟩ := Bool.and_eq_true_iff.mp c2
      obtain ⟨c4, c7⟩ := Bool.and_eq_true_iff.mp c6
      obtain ⟨c5, c8⟩ := Bool.and_eq_true_iff.mp c7
      have e3 := isV_ok c3
      subst e3
      refine ⟨oc, a9, b1, b2, b4, b5, od, b3, sl, rfl, c8, fun a h => ?_, fun a h => ?_⟩
      · subst h
        exact isV_ok c4
      · subst h
        exact isV_ok c5
    | _ => cases c
/-- what K says, as a Bool, and back -/
def intB (K : PySem.W.Frag) (D : Addr) (x : Str) (i : Int) : Bool := match PySem.W.nsIn K D x with
  | some (some (.int j _)) => decide (j = i)
  | _ => false
theorem int_ns {K : PySem.W.Frag} {D : Addr} {x : Str} {i : Int} (h : intB K D x i = true) : ∃ t, PySem.W.nsIn K D x = some (some (.int i t)) := by
  unfold intB at h
  cases l : PySem.W.nsIn K D x with
  | none =>
    rw [l] at h
    cases h
  | some u =>
    rw [l] at h
    cases u with
    | none => cases h
    | some v =>
      cases v with
      | int j t =>
        have e : j = i := of_decide_eq_true h
        exact ⟨t, by rw [e]⟩
      | _ => cases h
def recB (K : PySem.W.Frag) (p : Addr) (s : String) (f : Addr) : Bool := match PySem.W.recIn K p s with
  | some (.ref a :: _) => Nat.beq a f
  | _ => false
theorem rec_ns {K : PySem.W.Frag} {p f : Addr} {s : String} (h : recB K p s f = true) : ∃ r, PySem.W.recIn K p s = some (.ref f :: r) := by
  unfold recB at h
  cases l : PySem.W.recIn K p s with
  | none =>
    rw [l] at h
    cases h
  | some u =>
    rw [l] at h
    cases u with
    | nil => cases h
    | cons v r =>
      cases v with
      | ref a => exact ⟨r, by rw [Nat.eq_of_beq_eq_true h]⟩
      | _ => cases h
def oneB (K : PySem.W.Frag) (t : Addr) : Bool := match K.lookup t with
  | some ⟨_, _, .seq us _, _⟩ => decide (us.size = 1)
  | _ => false
theorem one_ns {K : PySem.W.Frag} {t : Addr} (h : oneB K t = true) : ∃ (e u : Value) (j : Option Addr) (m : Nat) (sl : Array (Option Value)), K.lookup t = some ⟨e, j, .seq #[u] m, sl⟩ := by
  unfold oneB at h
  cases l : K.lookup t with
  | none =>
    rw [l] at h
    cases h
  | some ob =>
    obtain ⟨oc, od, dt, sl⟩ := ob
    rw [l] at h
    cases dt with
    | seq us m =>
      have e : us.size = 1 := of_decide_eq_true h
      obtain ⟨us⟩ := us
      match us, e with
      | [u], _ => exact ⟨_, u, _, m, _, rfl⟩
    | _ => cases h
def tabB (g : Addr → Option Obj) (P : Addr) : Bool := match g P with
  | some ⟨.none, none, .fields ⟨[]⟩, ⟨[]⟩⟩ => true
  | _ => false
theorem tab_ns {g : Addr → Option Obj} {P : Addr} (h : tabB g P = true) : g P = some (PySem.W.tabObj #[]) := by
  unfold tabB at h
  split at h
  · rename_i e
    exact e
  · cases h
/-- the look: the Bool ex of the part at the addresses as, the tables ts empty, the defs fs -/
def look (as ts : List Addr) (ex : PySem.W.Frag → Bool) (fs : List (Addr × FnT)) (g : Addr → Option Obj) : Bool × List FnT := (ex (He.frG g as) && ts.all fun P => tabB g P && ((He.frG g as).lookup P).isNone, fs.map fun p => fnAt (He.frG g as) p.1)
structure Says (ts : List Addr) (ex : PySem.W.Frag → Bool) (fs : List (Addr × FnT)) (h : Heap) (K : PySem.W.Frag) : Prop where
  In : K.In h
  ex : ex K = true
  fns : fs.map (fun p => fnAt K p.1) = fs.map (·.2)
  tab : ∀ P ∈ ts, h.get? P = some (PySem.W.tabObj #[]) ∧ K.lookup P = none
theorem Says.fn {ts : List Addr} {ex : PySem.W.Frag → Bool} {fs : List (Addr × FnT)} {h : Heap} {K : PySem.W.Frag} (c : Says ts ex fs h K) (i : Nat) {f : Addr} {v : FnT} (e : fs[i]? = some (f, v)) : fnAt K f = v := by
  have z := congrArg (fun l : List FnT => l[i]?) c.fns
  simpa only [List.getElem?_map, e, Option.map_some, Option.some.injEq] using z
def hook (as ts : List Addr) (ex : PySem.W.Frag → Bool) (fs : List (Addr × FnT)) : PySem.W.Hook where
  α := Bool × List FnT
  obs := fun s => look as ts ex fs s.heap.get?
  val := fun _ => (true, fs.map (·.2))
  says := fun _ h => ∃ K : PySem.W.Frag, Says ts ex fs h K
  of := fun w s e => by
    have e1 := congrArg Prod.fst e
    have e2 := congrArg Prod.snd e
    obtain ⟨h1, h2⟩ := Bool.and_eq_true_iff.mp e1
    refine ⟨_, He.frG_in, h1, e2, fun P hP => ?_⟩
    obtain ⟨h3, h4⟩ := Bool.and_eq_true_iff.mp (List.all_eq_true.mp h2 P hP)
    exact ⟨tab_ns h3, Option.isNone_iff_eq_none.mp h4⟩
  keeps := fun _ _ _ ⟨K, c⟩ k => ⟨K, PySem.W.Frag.In.keeps c.In k, c.ex, c.fns, fun P hP => ⟨k _ _ (c.tab P hP).1, (c.tab P hP).2⟩⟩
theorem look_eq {as ts : List Addr} {ex : PySem.W.Frag → Bool} {fs : List (Addr × FnT)} (s : PySem.W.SharedT) : look as ts ex fs (HandSHeadRun.getT s) = (hook as ts ex fs).obs s.abs := by
  have e : HandSHeadRun.getT s = s.abs.heap.get? := funext (HandSHeadRun.getT_eq s)
  rw [e] <;> rfl
/-- two runs that looked at two things are one that looked at both -/
theorem run_join {r : PySem.W.OpenRow} {q : Program} {as ts : List Addr} {e1 e2 : PySem.W.Frag → Bool} {fs : List (Addr × FnT)} {M : Nat} {loose : List Str} {w : World}
    (h1 : HandSHeadRun.RunEq r q (hook as ts e1 fs) (fun s => look as ts e1 fs (HandSHeadRun.getT s)) M loose w) (h2 : HandSHeadRun.RunEq r q (hook as [] e2 []) (fun s => look as [] e2 [] (HandSHeadRun.getT s)) M loose w) :
    HandSHeadRun.RunEq r q (hook as ts (fun K => e1 K && e2 K) fs) (fun s => look as ts (fun K => e1 K && e2 K) fs (HandSHeadRun.getT s)) M loose w := by
  intro os
  obtain ⟨s, es, a⟩ := Option.map_eq_some_iff.mp (h1 os)
  obtain ⟨s2, es2, b⟩ := Option.map_eq_some_iff.mp (h2 os)
  obtain rfl : s = s2 := Option.some.inj (es.symm.trans es2)
  rw [es]
  have a1 := congrArg (fun z => z.2.2.1) a
  have a2 := congrArg (fun z => z.2.2.2) a
  have b1 := congrArg (fun z => z.2.2.1) b
  obtain ⟨a3, a4⟩ := Bool.and_eq_true_iff.mp (show (e1 (He.frG (HandSHeadRun.getT s) as) && ts.all fun P => tabB (HandSHeadRun.getT s) P && ((He.frG (HandSHeadRun.getT s) as).lookup P).isNone) = true from a1)
  obtain ⟨b3, _⟩ := Bool.and_eq_true_iff.mp (show (e2 (He.frG (HandSHeadRun.getT s) as) && List.all [] fun P => tabB (HandSHeadRun.getT s) P && ((He.frG (HandSHeadRun.getT s) as).lookup P).isNone) = true from b1)
  have l : look as ts (fun K => e1 K && e2 K) fs (HandSHeadRun.getT s) = (true, fs.map (·.2)) := by
    refine Prod.ext ?_ a2
    show ((e1 _ && e2 _) && List.all _ _) = true
    rw [a3, b3, a4] <;> rfl
  refine congrArg some ?_
  have c1 := congrArg (fun z => z.1) a
  have c2 := congrArg (fun z => z.2.1) a
  exact Prod.ext c1 (Prod.ext c2 l)
end HK
set_option Elab.async false
set_option linter.all false
set_option maxRecDepth 100000
set_option maxHeartbeats 0
namespace WK
open PySem L2 PyProof.Rows LCX K1 FV DP LamX
open TX (sg sigs)
open PySem.W (Frag kitOne)
def ex0 (K : Frag) : Bool := He.eqO (PySem.W.nsIn K mainGlobals "Made") (some (some (.ref 218))) && (He.eqO (PySem.W.nsIn K mainGlobals "Machine") (some (some (.ref 538))) && (He.eqO (PySem.W.nsIn K mainGlobals "InvalidWord") (some (some (.ref 44))) && (He.eqO (PySem.W.nsIn K mainGlobals "InvalidMachine") (some (some (.ref 56))) && (He.eqO (PySem.W.nsIn K mainGlobals "InvalidBox") (some (some (.ref 68))) && (He.eqO (PySem.W.nsIn K mainGlobals "InvalidOperation") (some (some (.ref 80))) && (He.eqO (PySem.W.nsIn K mainGlobals "ParseError") (some (some (.ref 99))) && (He.eqO (PySem.W.nsIn K mainGlobals "UnknownName") (some (some (.ref 118))) && (He.eqO (PySem.W.nsIn K mainGlobals "InvalidNumber") (some (some (.ref 138))) && (He.eqO (PySem.W.nsIn K mainGlobals "TooMany") (some (some (.ref 158))) && (He.eqO (PySem.W.nsIn K mainGlobals "NothingToUndo") (some (some (.ref 178))) && (He.eqO (PySem.W.nsIn K mainGlobals "Refused") (some (some (.ref 198))) && ((PySem.W.plainGet K 538 Str.empty) && ((PySem.W.hasDictIn K 538) && ((PySem.W.plainOver K 538) && (He.eqO (PySem.W.findIn K (.ref 538) "__setattr__") (some (some (.builtin "object.__setattr__"))) && (He.eqO (PySem.W.findIn K (.ref 538) "__class__") (some (some (.builtin "object.__class__"))) && (decide (PySem.W.mroIn K 538 (.type "object") = some true) && ((PySem.W.makesIn K 538) && ((PySem.W.keepIn K (.ref 538)) && (He.eqO (PySem.W.findIn K (.ref 538) "__init__") (some (some (.ref 412))) && ((PySem.W.isFn K (.ref 412)) && (((tyNames.all fun t => kitOne K (.type t) (.ref 538) == some false)) && (decide (kitOne K (.ref 538) (.ref 538) = some true) && (decide (kitOne K (.ref 538) (.type "tuple") = some false) && (He.eqO (PySem.W.specialIn K (.builtin "object.__class__") "__get__") (some (some (.builtin "getset_descriptor.__get__"))) && (decide (PySem.W.takesIn K (.builtin "object.__class__") = some true) && (He.eqO (PySem.W.findIn K (.ref 538) "_table") (some none) && (He.eqO (PySem.W.findIn K (.ref 538) "_letters") (some none) && (He.eqO (PySem.W.findIn K (.ref 538) "_ends") (some none) && true)))))))))))))))))))))))))))))
def ex1 (K : Frag) : Bool := He.eqO (PySem.W.findIn K (.ref 538) "letters") (some (some (.ref 420))) && (He.eqO (PySem.W.specialIn K (.ref 420) "__get__") (some (some (.builtin "property.__get__"))) && (decide (PySem.W.takesIn K (.ref 420) = some true) && (HK.recB K 420 "property" 419 && (He.eqO (PySem.W.findIn K (.ref 538) "table") (some (some (.ref 428))) && (He.eqO (PySem.W.specialIn K (.ref 428) "__get__") (some (some (.builtin "property.__get__"))) && (decide (PySem.W.takesIn K (.ref 428) = some true) && (HK.recB K 428 "property" 427 && (He.eqO (PySem.W.findIn K (.ref 538) "__contains__") (some (some (.ref 514))) && ((PySem.W.isFn K (.ref 514)) && (He.eqO (PySem.W.findIn K (.ref 538) "__len__") (some (some (.ref 521))) && ((PySem.W.isFn K (.ref 521)) && (((plainTys.all fun t => kitOne K (.type t) (.ref 218) == some false)) && ((PySem.W.excIn K 56 [.type "ValueError", .type "Exception", .type "BaseException", .type "object"] "ValueError.__new__") && ((PySem.W.keepIn K (.ref 56)) && (decide (PySem.W.subIn K (.ref 56) (.type "BaseException") = some true) && (decide (PySem.W.typeIn K (.ref 56) = some (.type "type")) && ((PySem.W.excIn K 80 [.type "ValueError", .type "Exception", .type "BaseException", .type "object"] "ValueError.__new__") && ((PySem.W.keepIn K (.ref 80)) && (decide (PySem.W.subIn K (.ref 80) (.type "BaseException") = some true) && (decide (PySem.W.typeIn K (.ref 80) = some (.type "type")) && ((WE.errB K 138) && (He.eqO (PySem.W.findIn K (.ref 138) "value") (some none) && ((WE.errI K 138 135 [.type "RuntimeError", .type "Exception", .type "BaseException", .type "object"] "RuntimeError.__new__" "value") && (decide (PySem.W.typeIn K (.ref 138) = some (.type "type")) && ((WE.errB K 198) && (He.eqO (PySem.W.findIn K (.ref 198) "reason") (some none) && (decide (PySem.W.exmOne K (.ref 44) (.ref 44) = some true) && (decide (PySem.W.exmOne K (.ref 56) (.ref 44) = some false) && (decide (PySem.W.exmOne K (.ref 56) (.ref 56) = some true) && true)))))))))))))))))))))))))))))
def ex2 (K : Frag) : Bool := decide (PySem.W.exmOne K (.ref 68) (.ref 44) = some false) && (decide (PySem.W.exmOne K (.ref 68) (.ref 56) = some false) && (decide (PySem.W.exmOne K (.ref 68) (.ref 68) = some true) && (decide (PySem.W.exmOne K (.ref 80) (.ref 44) = some false) && (decide (PySem.W.exmOne K (.ref 80) (.ref 56) = some false) && (decide (PySem.W.exmOne K (.ref 80) (.ref 68) = some false) && (decide (PySem.W.exmOne K (.ref 80) (.ref 80) = some true) && (decide (PySem.W.exmOne K (.ref 138) (.ref 44) = some false) && (decide (PySem.W.exmOne K (.ref 138) (.ref 56) = some false) && (decide (PySem.W.exmOne K (.ref 138) (.ref 68) = some false) && (decide (PySem.W.exmOne K (.ref 138) (.ref 80) = some false) && (decide (PySem.W.exmOne K (.ref 138) (.ref 99) = some false) && (decide (PySem.W.exmOne K (.ref 138) (.ref 118) = some false) && (decide (PySem.W.exmOne K (.ref 138) (.ref 138) = some true) && (decide (PySem.W.exmOne K (.ref 198) (.ref 44) = some false) && (decide (PySem.W.exmOne K (.ref 198) (.ref 56) = some false) && (decide (PySem.W.exmOne K (.ref 198) (.ref 68) = some false) && (decide (PySem.W.exmOne K (.ref 198) (.ref 80) = some false) && (decide (PySem.W.exmOne K (.ref 198) (.ref 99) = some false) && (decide (PySem.W.exmOne K (.ref 198) (.ref 118) = some false) && (decide (PySem.W.exmOne K (.ref 198) (.ref 138) = some false) && (decide (PySem.W.exmOne K (.ref 198) (.ref 158) = some false) && (decide (PySem.W.exmOne K (.ref 198) (.ref 178) = some false) && (decide (PySem.W.exmOne K (.ref 198) (.ref 198) = some true) && (He.eqO (PySem.W.nsIn K mainGlobals "is_integer") (some (some (.ref 291))) && (HK.fnB K 291 "is_integer" none none none && ((PySem.W.keepIn K (.ref 291)) && (He.eqO (PySem.W.nsIn K mainGlobals "is_number") (some (some (.ref 298))) && (HK.fnB K 298 "is_number" none none none && ((PySem.W.keepIn K (.ref 298)) && true)))))))))))))))))))))))))))))
def ex3 (K : Frag) : Bool := He.eqO (PySem.W.nsIn K mainGlobals "need_number") (some (some (.ref 305))) && (HK.fnB K 305 "need_number" none none none && ((PySem.W.keepIn K (.ref 305)) && (He.eqO (PySem.W.nsIn K mainGlobals "ascends") (some (some (.ref 317))) && (HK.fnB K 317 "ascends" none none none && ((PySem.W.keepIn K (.ref 317)) && (He.eqO (PySem.W.nsIn K mainGlobals "is_ascending") (some (some (.ref 322))) && (HK.fnB K 322 "is_ascending" none none none && ((PySem.W.keepIn K (.ref 322)) && (He.eqO (PySem.W.nsIn K mainGlobals "is_table") (some (some (.ref 332))) && (HK.fnB K 332 "is_table" none none none && ((PySem.W.keepIn K (.ref 332)) && (He.eqO (PySem.W.nsIn K mainGlobals "_is_row") (some (some (.ref 344))) && (HK.fnB K 344 "_is_row" none none none && ((PySem.W.keepIn K (.ref 344)) && (He.eqO (PySem.W.nsIn K mainGlobals "is_letters") (some (some (.ref 351))) && (HK.fnB K 351 "is_letters" none none none && ((PySem.W.keepIn K (.ref 351)) && (He.eqO (PySem.W.nsIn K mainGlobals "is_word") (some (some (.ref 358))) && (HK.fnB K 358 "is_word" none none none && ((PySem.W.keepIn K (.ref 358)) && (He.eqO (PySem.W.nsIn K mainGlobals "is_over") (some (some (.ref 370))) && (HK.fnB K 370 "is_over" none none none && ((PySem.W.keepIn K (.ref 370)) && (He.eqO (PySem.W.nsIn K mainGlobals "need_letters") (some (some (.ref 377))) && (HK.fnB K 377 "need_letters" none none none && ((PySem.W.keepIn K (.ref 377)) && (He.eqO (PySem.W.nsIn K mainGlobals "need_over") (some (some (.ref 391))) && (HK.fnB K 391 "need_over" none none none && ((PySem.W.keepIn K (.ref 391)) && true)))))))))))))))))))))))))))))
def ex4 (K : Frag) : Bool := He.eqO (PySem.W.nsIn K mainGlobals "led") (some (some (.ref 227))) && (HK.fnB K 227 "led" none none none && ((PySem.W.keepIn K (.ref 227)) && (He.eqO (PySem.W.nsIn K mainGlobals "need_machines") (some (some (.ref 557))) && (HK.fnB K 557 "need_machines" none none none && ((PySem.W.keepIn K (.ref 557)) && (He.eqO (PySem.W.nsIn K mainGlobals "need_same_letters") (some (some (.ref 564))) && (HK.fnB K 564 "need_same_letters" none none none && ((PySem.W.keepIn K (.ref 564)) && (He.eqO (PySem.W.nsIn K mainGlobals "need_two") (some (some (.ref 571))) && (HK.fnB K 571 "need_two" none none none && ((PySem.W.keepIn K (.ref 571)) && (He.eqO (PySem.W.nsIn K mainGlobals "is_pair") (some (some (.ref 312))) && (HK.fnB K 312 "is_pair" none none none && ((PySem.W.keepIn K (.ref 312)) && (He.eqO (PySem.W.nsIn K mainGlobals "is_word_blur") (some (some (.ref 896))) && (HK.fnB K 896 "is_word_blur" none none none && ((PySem.W.keepIn K (.ref 896)) && (He.eqO (PySem.W.nsIn K mainGlobals "pieces_blur") (some (some (.ref 813))) && (HK.fnB K 813 "pieces_blur" none none none && ((PySem.W.keepIn K (.ref 813)) && (He.eqO (PySem.W.nsIn K mainGlobals "pieces_clear") (some (some (.ref 818))) && (HK.fnB K 818 "pieces_clear" none none none && ((PySem.W.keepIn K (.ref 818)) && (He.eqO (PySem.W.nsIn K mainGlobals "is_pieces_clear") (some (some (.ref 823))) && (HK.fnB K 823 "is_pieces_clear" none none none && ((PySem.W.keepIn K (.ref 823)) && (He.eqO (PySem.W.nsIn K mainGlobals "are_told_by_pieces") (some (some (.ref 830))) && (HK.fnB K 830 "are_told_by_pieces" none none none && ((PySem.W.keepIn K (.ref 830)) && true)))))))))))))))))))))))))))))
def ex5 (K : Frag) : Bool := He.eqO (PySem.W.nsIn K mainGlobals "least_pieces") (some (some (.ref 837))) && (HK.fnB K 837 "least_pieces" none none none && ((PySem.W.keepIn K (.ref 837)) && (He.eqO (PySem.W.nsIn K mainGlobals "pieces_pair") (some (some (.ref 844))) && (HK.fnB K 844 "pieces_pair" none none none && ((PySem.W.keepIn K (.ref 844)) && (He.eqO (PySem.W.nsIn K mainGlobals "_need_most") (some (some (.ref 851))) && (HK.fnB K 851 "_need_most" none none none && ((PySem.W.keepIn K (.ref 851)) && (He.eqO (PySem.W.nsIn K mainGlobals "is_path") (some (some (.ref 903))) && (HK.fnB K 903 "is_path" none none none && ((PySem.W.keepIn K (.ref 903)) && (He.eqO (PySem.W.nsIn K mainGlobals "path_ends") (some (some (.ref 910))) && (HK.fnB K 910 "path_ends" none none none && ((PySem.W.keepIn K (.ref 910)) && (He.eqO (PySem.W.nsIn K mainGlobals "is_pieces_blur") (some (some (.ref 917))) && (HK.fnB K 917 "is_pieces_blur" none none none && ((PySem.W.keepIn K (.ref 917)) && (He.eqO (PySem.W.nsIn K mainGlobals "pieces_words") (some (some (.ref 922))) && (HK.fnB K 922 "pieces_words" none none none && ((PySem.W.keepIn K (.ref 922)) && (He.eqO (PySem.W.nsIn K mainGlobals "ring_letters") (some (some (.ref 929))) && (HK.fnB K 929 "ring_letters" none none none && ((PySem.W.keepIn K (.ref 929)) && (He.eqO (PySem.W.nsIn K mainGlobals "block_ends") (some (some (.ref 936))) && (HK.fnB K 936 "block_ends" none none none && ((PySem.W.keepIn K (.ref 936)) && (He.eqO (PySem.W.nsIn K mainGlobals "_pairs_on") (some (some (.ref 950))) && (HK.fnB K 950 "_pairs_on" none none none && ((PySem.W.keepIn K (.ref 950)) && true)))))))))))))))))))))))))))))
def ex6 (K : Frag) : Bool := He.eqO (PySem.W.nsIn K mainGlobals "_after_step") (some (some (.ref 957))) && (HK.fnB K 957 "_after_step" none none none && ((PySem.W.keepIn K (.ref 957)) && (He.eqO (PySem.W.nsIn K mainGlobals "_law_dice") (some (some (.ref 983))) && (HK.fnB K 983 "_law_dice" none none none && ((PySem.W.keepIn K (.ref 983)) && (He.eqO (PySem.W.nsIn K mainGlobals "_law_roll") (some (some (.ref 990))) && (HK.fnB K 990 "_law_roll" none none none && ((PySem.W.keepIn K (.ref 990)) && (He.eqO (PySem.W.nsIn K mainGlobals "_law_one_of") (some (some (.ref 997))) && (HK.fnB K 997 "_law_one_of" none none none && ((PySem.W.keepIn K (.ref 997)) && (He.eqO (PySem.W.nsIn K mainGlobals "_law_mixed") (some (some (.ref 1004))) && (HK.fnB K 1004 "_law_mixed" none none none && ((PySem.W.keepIn K (.ref 1004)) && (He.eqO (PySem.W.nsIn K mainGlobals "_law_letters") (some (some (.ref 1011))) && (HK.fnB K 1011 "_law_letters" none none none && ((PySem.W.keepIn K (.ref 1011)) && (He.eqO (PySem.W.nsIn K mainGlobals "_law_action") (some (some (.ref 1016))) && (HK.fnB K 1016 "_law_action" none none none && ((PySem.W.keepIn K (.ref 1016)) && (He.eqO (PySem.W.nsIn K mainGlobals "_law_table") (some (some (.ref 1021))) && (HK.fnB K 1021 "_law_table" none none none && ((PySem.W.keepIn K (.ref 1021)) && (He.eqO (PySem.W.nsIn K mainGlobals "_law_machine") (some (some (.ref 1026))) && (HK.fnB K 1026 "_law_machine" none none none && ((PySem.W.keepIn K (.ref 1026)) && (He.eqO (PySem.W.nsIn K mainGlobals "_law_made_machine") (some (some (.ref 1033))) && (HK.fnB K 1033 "_law_made_machine" none none none && ((PySem.W.keepIn K (.ref 1033)) && true)))))))))))))))))))))))))))))
def ex7 (K : Frag) : Bool := He.eqO (PySem.W.nsIn K mainGlobals "_law_met") (some (some (.ref 1040))) && (HK.fnB K 1040 "_law_met" none none none && ((PySem.W.keepIn K (.ref 1040)) && (He.eqO (PySem.W.nsIn K mainGlobals "_law_pair_words") (some (some (.ref 1047))) && (HK.fnB K 1047 "_law_pair_words" none none (some 1046) && ((PySem.W.keepIn K (.ref 1047)) && (He.eqO (PySem.W.nsIn K mainGlobals "_law_more_right") (some (some (.ref 1054))) && (HK.fnB K 1054 "_law_more_right" none none (some 1053) && ((PySem.W.keepIn K (.ref 1054)) && (He.eqO (PySem.W.nsIn K mainGlobals "law") (some (some (.ref 1061))) && (HK.fnB K 1061 "law" none none (some 1060) && ((PySem.W.keepIn K (.ref 1061)) && (HK.fnB K 412 "Machine.__init__" (some 405) none none && ((PySem.W.keepIn K (.ref 412)) && (HK.fnB K 135 "InvalidNumber.__init__" none none none && ((PySem.W.keepIn K (.ref 135)) && (HK.fnB K 419 "Machine.letters" none none none && ((PySem.W.keepIn K (.ref 419)) && (HK.fnB K 427 "Machine.table" none none none && ((PySem.W.keepIn K (.ref 427)) && (HK.fnB K 514 "Machine.__contains__" none none none && ((PySem.W.keepIn K (.ref 514)) && (HK.fnB K 521 "Machine.__len__" none none none && ((PySem.W.keepIn K (.ref 521)) && (HK.oneB K 405 && ((PySem.W.codeHdIn K 1060 1056) && ((PySem.W.codeHdIn K 1053 1049) && ((PySem.W.codeHdIn K 1046 1042) && (HK.intB K mainGlobals "MAX_LETTERS" 3 && (HK.intB K mainGlobals "MAX_STATES" 4 && true)))))))))))))))))))))))))))))
def ex8 (K : Frag) : Bool := HK.intB K mainGlobals "MAX_PIECES" 3 && (HK.intB K mainGlobals "_MAX_OF_THREE" 2 && (HK.intB K mainGlobals "MAX_STEPS" 60 && (HK.intB K mainGlobals "_MAX_MADE" 20 && (He.eqO (PySem.W.nsIn K mainGlobals "len") (some none) && (He.eqO (PySem.W.nsIn K mainGlobals "int") (some none) && (He.eqO (PySem.W.nsIn K mainGlobals "abs") (some none) && (He.eqO (PySem.W.nsIn K mainGlobals "isinstance") (some none) && (He.eqO (PySem.W.nsIn K mainGlobals "bool") (some none) && (He.eqO (PySem.W.nsIn K mainGlobals "str") (some none) && (He.eqO (PySem.W.nsIn K mainGlobals "all") (some none) && (He.eqO (PySem.W.nsIn K mainGlobals "range") (some none) && (He.eqO (PySem.W.nsIn K mainGlobals "sorted") (some none) && (He.eqO (PySem.W.nsIn K mainGlobals "set") (some none) && (He.eqO (PySem.W.nsIn K mainGlobals "tuple") (some none) && (He.eqO (PySem.W.nsIn K mainGlobals "list") (some none) && (He.eqO (PySem.W.nsIn K mainGlobals "max") (some none) && (He.eqO (PySem.W.nsIn K mainGlobals "min") (some none) && (He.eqO (PySem.W.nsIn K mainGlobals "zip") (some none) && (He.eqO (PySem.W.nsIn K mainGlobals "repr") (some none) && (He.eqO (PySem.W.nsIn K mainGlobals "enumerate") (some none) && true))))))))))))))))))))
def exG0 (K : Frag) : Bool := ex0 K && (ex1 K && true)
def exG1 (K : Frag) : Bool := ex2 K && (ex3 K && true)
def exG2 (K : Frag) : Bool := ex4 K && (ex5 K && true)
def exG3 (K : Frag) : Bool := ex6 K && (ex7 K && true)
def exG4 (K : Frag) : Bool := ex8 K && true
abbrev exAllK : Frag → Bool := fun K => (fun K => (fun K => (fun K => (fun K => (fun _ => true) K && exG0 K) K && exG1 K) K && exG2 K) K && exG3 K) K && exG4 K
abbrev fs0 : List (Addr × HK.FnT) := [(291, HK.fnIs "is_integer" "is_integer" sIsInt), (298, HK.fnIs "is_number" "is_number" sIsNum), (305, HK.fnIs "need_number" "need_number" sNeedNum), (317, HK.fnIs "ascends" "ascends" sAsc), (322, HK.fnIs "is_ascending" "is_ascending" sIsAsc), (332, HK.fnIs "is_table" "is_table" sIsTab), (344, HK.fnIs "_is_row" "_is_row" sIsRow), (351, HK.fnIs "is_letters" "is_letters" sIsLet), (358, HK.fnIs "is_word" "is_word" sIsWord), (370, HK.fnIs "is_over" "is_over" sIsOver), (377, HK.fnIs "need_letters" "need_letters" sNeedLet), (391, HK.fnIs "need_over" "need_over" sNeedOver), (227, HK.fnIs "led" "led" sLed), (557, HK.fnIs "need_machines" "need_machines" sNeedMs), (564, HK.fnIs "need_same_letters" "need_same_letters" sSame), (571, HK.fnIs "need_two" "need_two" sTwo), (312, HK.fnIs "is_pair" "is_pair" sIsPair), (896, HK.fnIs "is_word_blur" "is_word_blur" sWB), (813, HK.fnIs "pieces_blur" "pieces_blur" s_pieces_blur), (818, HK.fnIs "pieces_clear" "pieces_clear" s_pieces_clear), (823, HK.fnIs "is_pieces_clear" "is_pieces_clear" s_is_pieces_clear), (830, HK.fnIs "are_told_by_pieces" "are_told_by_pieces" s_are_told), (837, HK.fnIs "least_pieces" "least_pieces" s_least_pieces), (844, HK.fnIs "pieces_pair" "pieces_pair" s_pieces_pair), (851, HK.fnIs "_need_most" "_need_most" s_need_most)]
abbrev fs1 : List (Addr × HK.FnT) := [(903, HK.fnIs "is_path" "is_path" s_is_path), (910, HK.fnIs "path_ends" "path_ends" s_path_ends), (917, HK.fnIs "is_pieces_blur" "is_pieces_blur" s_is_pieces_blur), (922, HK.fnIs "pieces_words" "pieces_words" s_pieces_words), (929, HK.fnIs "ring_letters" "ring_letters" s_ring_letters), (936, HK.fnIs "block_ends" "block_ends" s_block_ends), (950, HK.fnIs "_pairs_on" "_pairs_on" s_pairs_on), (957, HK.fnIs "_after_step" "_after_step" s_after_step), (983, HK.fnIs "_law_dice" "_law_dice" sDice), (990, HK.fnIs "_law_roll" "_law_roll" sRoll), (997, HK.fnIs "_law_one_of" "_law_one_of" sOne), (1004, HK.fnIs "_law_mixed" "_law_mixed" sMixed), (1011, HK.fnIs "_law_letters" "_law_letters" sLetters), (1016, HK.fnIs "_law_action" "_law_action" sAct), (1021, HK.fnIs "_law_table" "_law_table" sLTab), (1026, HK.fnIs "_law_machine" "_law_machine" sLMac), (1033, HK.fnIs "_law_made_machine" "_law_made_machine" sMade), (1040, HK.fnIs "_law_met" "_law_met" sMet), (1047, HK.fnIs "_law_pair_words" "_law_pair_words" sPW), (1054, HK.fnIs "_law_more_right" "_law_more_right" sMR), (1061, HK.fnIs "law" "law" sLw), (412, HK.fnIs "__init__" "Machine.__init__" sMInit), (135, HK.fnIs "__init__" "InvalidNumber.__init__" sINI), (419, HK.fnIs "letters" "Machine.letters" sMLet), (427, HK.fnIs "table" "Machine.table" sMTab)]
abbrev fs2 : List (Addr × HK.FnT) := [(514, HK.fnIs "__contains__" "Machine.__contains__" sMHas), (521, HK.fnIs "__len__" "Machine.__len__" sMLen)]
abbrev fsAll : List (Addr × HK.FnT) := fs0 ++ (fs1 ++ (fs2))
def as0 : List Addr := [2, 3, 15, 17, 18, 20, 21, 22, 29, 30, 31, 32, 35, 42, 43, 44, 47, 54, 55, 56, 59, 66, 67, 68, 71, 78, 79, 80, 83, 90, 92, 93, 95, 96, 97, 98, 99, 102, 109, 111, 112, 114, 115, 116, 117, 118, 119, 122, 129, 131, 132, 134, 135, 136, 137, 138, 139, 142, 149, 151]
def as1 : List Addr := [152, 154, 155, 156, 157, 158, 159, 162, 169, 171, 172, 174, 175, 176, 177, 178, 179, 182, 189, 191, 192, 194, 195, 196, 197, 198, 199, 209, 211, 212, 214, 215, 216, 217, 218, 219, 220, 223, 226, 227, 228, 230, 231, 233, 234, 235, 237, 238, 240, 241, 242, 244, 245, 247, 248, 249, 252, 253, 254, 255]
def as2 : List Addr := [257, 258, 260, 261, 262, 263, 265, 266, 268, 269, 270, 273, 274, 275, 278, 279, 280, 283, 284, 285, 287, 288, 290, 291, 292, 294, 295, 297, 298, 299, 301, 302, 304, 305, 306, 308, 309, 311, 312, 313, 316, 317, 318, 321, 322, 323, 326, 327, 328, 331, 332, 333, 335, 336, 338, 339, 340, 343, 344, 345]
def as3 : List Addr := [347, 348, 350, 351, 352, 354, 355, 357, 358, 359, 361, 362, 364, 365, 366, 369, 370, 371, 373, 374, 376, 377, 378, 380, 381, 383, 384, 385, 387, 388, 390, 391, 392, 395, 396, 404, 405, 406, 408, 409, 411, 412, 413, 415, 416, 418, 419, 420, 421, 423, 424, 426, 427, 428, 429, 431, 432, 434, 435, 436]
def as4 : List Addr := [437, 439, 440, 442, 443, 444, 445, 447, 448, 450, 451, 452, 453, 454, 456, 457, 459, 460, 461, 463, 464, 466, 467, 468, 470, 471, 473, 474, 475, 477, 478, 480, 481, 482, 485, 486, 487, 489, 490, 492, 493, 494, 496, 497, 499, 500, 501, 503, 504, 506, 507, 508, 510, 511, 513, 514, 515, 517, 518, 520]
def as5 : List Addr := [521, 522, 524, 525, 527, 528, 529, 531, 532, 534, 535, 536, 537, 538, 539, 540, 543, 544, 546, 547, 549, 550, 551, 553, 554, 556, 557, 558, 560, 561, 563, 564, 565, 567, 568, 570, 571, 572, 575, 576, 584, 586, 587, 589, 590, 591, 593, 594, 596, 597, 598, 599, 600, 601, 603, 604, 606, 607, 608, 609]
def as6 : List Addr := [610, 611, 613, 614, 616, 617, 618, 619, 620, 621, 623, 624, 626, 627, 628, 629, 630, 631, 633, 634, 636, 637, 638, 639, 640, 641, 643, 644, 646, 647, 648, 649, 650, 651, 653, 654, 656, 657, 658, 659, 661, 662, 664, 665, 666, 667, 669, 670, 672, 673, 674, 675, 677, 678, 680, 681, 682, 684, 685, 687]
def as7 : List Addr := [688, 689, 691, 692, 694, 695, 696, 698, 699, 701, 702, 703, 705, 706, 708, 709, 710, 712, 713, 715, 716, 717, 719, 720, 722, 723, 724, 726, 727, 729, 730, 731, 733, 734, 736, 737, 738, 739, 740, 741, 742, 745, 747, 748, 750, 751, 752, 754, 755, 757, 758, 759, 762, 763, 764, 766, 767, 769, 770, 771]
def as8 : List Addr := [773, 774, 776, 777, 778, 780, 781, 783, 784, 785, 787, 788, 790, 791, 792, 795, 796, 797, 800, 801, 802, 805, 806, 807, 809, 810, 812, 813, 814, 817, 818, 819, 822, 823, 824, 826, 827, 829, 830, 831, 833, 834, 836, 837, 838, 840, 841, 843, 844, 845, 847, 848, 850, 851, 852, 854, 855, 857, 858, 859]
def as9 : List Addr := [862, 863, 864, 867, 868, 869, 871, 872, 874, 875, 876, 878, 879, 881, 882, 883, 885, 886, 888, 889, 890, 892, 893, 895, 896, 897, 899, 900, 902, 903, 904, 906, 907, 909, 910, 911, 913, 914, 916, 917, 918, 921, 922, 923, 925, 926, 928, 929, 930, 932, 933, 935, 936, 937, 939, 940, 942, 943, 944, 946]
def as10 : List Addr := [947, 949, 950, 951, 953, 954, 956, 957, 958, 960, 961, 963, 964, 965, 968, 969, 970, 972, 973, 975, 976, 977, 979, 980, 982, 983, 984, 986, 987, 989, 990, 991, 993, 994, 996, 997, 998, 1000, 1001, 1003, 1004, 1005, 1007, 1008, 1010, 1011, 1012, 1015, 1016, 1017, 1020, 1021, 1022, 1025, 1026, 1027, 1029, 1030, 1032, 1033]
def as11 : List Addr := [1034, 1036, 1037, 1039, 1040, 1041, 1043, 1044, 1046, 1047, 1048, 1050, 1051, 1053, 1054, 1055, 1057, 1058, 1060, 1061]
def asAll : List Addr := as0 ++ (as1 ++ (as2 ++ (as3 ++ (as4 ++ (as5 ++ (as6 ++ (as7 ++ (as8 ++ (as9 ++ (as10 ++ (as11)))))))))))
abbrev tsAll : List Addr := [1056, 1049, 1042]
def nm0 : List Str := ["_wall", "WatchError", "InvalidWord", "InvalidMachine", "InvalidBox", "InvalidOperation", "ParseError", "UnknownName", "InvalidNumber", "TooMany", "NothingToUndo", "Refused", "Made", "led", "led_often", "ways", "word_along", "trimmed", "paired", "explored", "numbered", "refined", "least_parts", "is_integer", "is_number", "need_number", "is_pair", "ascends", "is_ascending", "are_pairs"]
def nm1 : List Str := ["is_table", "_is_pair_of", "_is_row", "MAX_LETTERS", "is_letters", "is_word", "is_letter", "is_over", "need_letters", "need_word", "need_over", "all_words", "MAX_STATES", "MAX_TIMES", "Machine", "least_machine", "need_machines", "need_same_letters", "need_two", "_combined", "MAX_PLACES", "MAX_MADE", "_MAX_PIECES", "Box", "need_box", "_grown", "_with_pieces", "alike_pair", "_need", "_need_letters"]
def nm2 : List Str := ["_first_words", "rings_of", "all_rings", "sides_from", "MAX_PIECES", "_MAX_OF_THREE", "pieces_blur", "pieces_clear", "is_pieces_clear", "are_told_by_pieces", "least_pieces", "pieces_pair", "_need_most", "_has_ends", "_sets_of", "_all_sides", "_afters", "_steps_to_pairs", "_path_to", "is_word_blur", "MAX_STEPS", "_MAX_MADE", "is_path", "path_ends", "is_pieces_blur", "pieces_words", "ring_letters", "block_ends", "_letters_of", "_pairs_on"]
def nm3 : List Str := ["_after_step", "_are_sides", "_is_side", "_after_side", "_law_dice", "_law_roll", "_law_one_of", "_law_mixed", "_law_letters", "_law_action", "_law_table", "_law_machine", "_law_made_machine", "_law_met", "_law_pair_words", "_law_more_right"]
def nmAll : List Str := nm0 ++ (nm1 ++ (nm2 ++ (nm3)))
abbrev Rw : PySem.W.OpenRow := PySem.W.OpenLaw.row PySem.Challenge.rw_watchkinds_k25_errors_of_pieces
abbrev hkAll : PySem.W.Hook := HK.hook asAll tsAll exAllK fsAll
def obAll (s : PySem.W.SharedT) : Bool × List HK.FnT := HK.look asAll tsAll exAllK fsAll (HandSHeadRun.getT s)
theorem obAll_eq (s : PySem.W.SharedT) : obAll s = hkAll.obs s.abs := HK.look_eq s
theorem runF (w : World) : HandSHeadRun.RunEq Rw (PySem.W.view Rw.prog [118]) (HK.hook asAll tsAll (fun _ => true) fsAll) (fun s => HK.look asAll tsAll (fun _ => true) fsAll (HandSHeadRun.getT s)) 9000 nmAll w := by
  intro os
  kernel_rfl
theorem runG0 (w : World) : HandSHeadRun.RunEq Rw (PySem.W.view Rw.prog [118]) (HK.hook asAll [] (exG0) []) (fun s => HK.look asAll [] (exG0) [] (HandSHeadRun.getT s)) 9000 nmAll w := by
  intro os
  kernel_rfl
theorem runG1 (w : World) : HandSHeadRun.RunEq Rw (PySem.W.view Rw.prog [118]) (HK.hook asAll [] (exG1) []) (fun s => HK.look asAll [] (exG1) [] (HandSHeadRun.getT s)) 9000 nmAll w := by
  intro os
  kernel_rfl
theorem runG2 (w : World) : HandSHeadRun.RunEq Rw (PySem.W.view Rw.prog [118]) (HK.hook asAll [] (exG2) []) (fun s => HK.look asAll [] (exG2) [] (HandSHeadRun.getT s)) 9000 nmAll w := by
  intro os
  kernel_rfl
theorem runG3 (w : World) : HandSHeadRun.RunEq Rw (PySem.W.view Rw.prog [118]) (HK.hook asAll [] (exG3) []) (fun s => HK.look asAll [] (exG3) [] (HandSHeadRun.getT s)) 9000 nmAll w := by
  intro os
  kernel_rfl
theorem runG4 (w : World) : HandSHeadRun.RunEq Rw (PySem.W.view Rw.prog [118]) (HK.hook asAll [] (exG4) []) (fun s => HK.look asAll [] (exG4) [] (HandSHeadRun.getT s)) 9000 nmAll w := by
  intro os
  kernel_rfl
theorem runAll (w : World) : HandSHeadRun.RunEq Rw (PySem.W.view Rw.prog [118]) hkAll obAll 9000 nmAll w := HK.run_join (HK.run_join (HK.run_join (HK.run_join (HK.run_join (runF w) (runG0 w)) (runG1 w)) (runG2 w)) (runG3 w)) (runG4 w)
theorem facts {w : World} {K : Frag} {h : Heap} {mg : Str → Option Value} {fa : Addr} (c : HK.Says tsAll exAllK fsAll h K) (G : h.Ns mainGlobals mg) (hfa : mg "law" = some (.ref fa)) : WG.LawAtG PySem.Challenge.rw_watchkinds_k25_errors_of_pieces w K 16 63 "_law_script" mg fa h := by
  have X := c.ex
  obtain ⟨X, Y4⟩ := Bool.and_eq_true_iff.mp X
  obtain ⟨X, Y3⟩ := Bool.and_eq_true_iff.mp X
  obtain ⟨X, Y2⟩ := Bool.and_eq_true_iff.mp X
  obtain ⟨X, Y1⟩ := Bool.and_eq_true_iff.mp X
  obtain ⟨X, Y0⟩ := Bool.and_eq_true_iff.mp X
  obtain ⟨E0, Y0⟩ := Bool.and_eq_true_iff.mp Y0
  have E0 : (He.eqO (PySem.W.nsIn K mainGlobals "Made") (some (some (.ref 218))) && (He.eqO (PySem.W.nsIn K mainGlobals "Machine") (some (some (.ref 538))) && (He.eqO (PySem.W.nsIn K mainGlobals "InvalidWord") (some (some (.ref 44))) && (He.eqO (PySem.W.nsIn K mainGlobals "InvalidMachine") (some (some (.ref 56))) && (He.eqO (PySem.W.nsIn K mainGlobals "InvalidBox") (some (some (.ref 68))) && (He.eqO (PySem.W.nsIn K mainGlobals "InvalidOperation") (some (some (.ref 80))) && (He.eqO (PySem.W.nsIn K mainGlobals "ParseError") (some (some (.ref 99))) && (He.eqO (PySem.W.nsIn K mainGlobals "UnknownName") (some (some (.ref 118))) && (He.eqO (PySem.W.nsIn K mainGlobals "InvalidNumber") (some (some (.ref 138))) && (He.eqO (PySem.W.nsIn K mainGlobals "TooMany") (some (some (.ref 158))) && (He.eqO (PySem.W.nsIn K mainGlobals "NothingToUndo") (some (some (.ref 178))) && (He.eqO (PySem.W.nsIn K mainGlobals "Refused") (some (some (.ref 198))) && ((PySem.W.plainGet K 538 Str.empty) && ((PySem.W.hasDictIn K 538) && ((PySem.W.plainOver K 538) && (He.eqO (PySem.W.findIn K (.ref 538) "__setattr__") (some (some (.builtin "object.__setattr__"))) && (He.eqO (PySem.W.findIn K (.ref 538) "__class__") (some (some (.builtin "object.__class__"))) && (decide (PySem.W.mroIn K 538 (.type "object") = some true) && ((PySem.W.makesIn K 538) && ((PySem.W.keepIn K (.ref 538)) && (He.eqO (PySem.W.findIn K (.ref 538) "__init__") (some (some (.ref 412))) && ((PySem.W.isFn K (.ref 412)) && (((tyNames.all fun t => kitOne K (.type t) (.ref 538) == some false)) && (decide (kitOne K (.ref 538) (.ref 538) = some true) && (decide (kitOne K (.ref 538) (.type "tuple") = some false) && (He.eqO (PySem.W.specialIn K (.builtin "object.__class__") "__get__") (some (some (.builtin "getset_descriptor.__get__"))) && (decide (PySem.W.takesIn K (.builtin "object.__class__") = some true) && (He.eqO (PySem.W.findIn K (.ref 538) "_table") (some none) && (He.eqO (PySem.W.findIn K (.ref 538) "_letters") (some none) && (He.eqO (PySem.W.findIn K (.ref 538) "_ends") (some none) && true)))))))))))))))))))))))))))))) = true := E0
  obtain ⟨S, E0⟩ := Bool.and_eq_true_iff.mp E0
  have gd : PySem.W.nsIn K mainGlobals "Made" = some (some (.ref 218)) := He.eqO_ok S
  obtain ⟨S, E0⟩ := Bool.and_eq_true_iff.mp E0
  have gm : PySem.W.nsIn K mainGlobals "Machine" = some (some (.ref 538)) := He.eqO_ok S
  obtain ⟨S, E0⟩ := Bool.and_eq_true_iff.mp E0
  have geW : PySem.W.nsIn K mainGlobals "InvalidWord" = some (some (.ref 44)) := He.eqO_ok S
  obtain ⟨S, E0⟩ := Bool.and_eq_true_iff.mp E0
  have geM : PySem.W.nsIn K mainGlobals "InvalidMachine" = some (some (.ref 56)) := He.eqO_ok S
  obtain ⟨S, E0⟩ := Bool.and_eq_true_iff.mp E0
  have geB : PySem.W.nsIn K mainGlobals "InvalidBox" = some (some (.ref 68)) := He.eqO_ok S
  obtain ⟨S, E0⟩ := Bool.and_eq_true_iff.mp E0
  have geO : PySem.W.nsIn K mainGlobals "InvalidOperation" = some (some (.ref 80)) := He.eqO_ok S
  obtain ⟨S, E0⟩ := Bool.and_eq_true_iff.mp E0
  have geP : PySem.W.nsIn K mainGlobals "ParseError" = some (some (.ref 99)) := He.eqO_ok S
  obtain ⟨S, E0⟩ := Bool.and_eq_true_iff.mp E0
  have geU : PySem.W.nsIn K mainGlobals "UnknownName" = some (some (.ref 118)) := He.eqO_ok S
  obtain ⟨S, E0⟩ := Bool.and_eq_true_iff.mp E0
  have geN : PySem.W.nsIn K mainGlobals "InvalidNumber" = some (some (.ref 138)) := He.eqO_ok S
  obtain ⟨S, E0⟩ := Bool.and_eq_true_iff.mp E0
  have geT : PySem.W.nsIn K mainGlobals "TooMany" = some (some (.ref 158)) := He.eqO_ok S
  obtain ⟨S, E0⟩ := Bool.and_eq_true_iff.mp E0
  have geX : PySem.W.nsIn K mainGlobals "NothingToUndo" = some (some (.ref 178)) := He.eqO_ok S
  obtain ⟨S, E0⟩ := Bool.and_eq_true_iff.mp E0
  have geR : PySem.W.nsIn K mainGlobals "Refused" = some (some (.ref 198)) := He.eqO_ok S
  obtain ⟨S, E0⟩ := Bool.and_eq_true_iff.mp E0
  have pgm : PySem.W.plainGet K 538 Str.empty = true := S
  obtain ⟨S, E0⟩ := Bool.and_eq_true_iff.mp E0
  have hdm : PySem.W.hasDictIn K 538 = true := S
  obtain ⟨S, E0⟩ := Bool.and_eq_true_iff.mp E0
  have pom : PySem.W.plainOver K 538 = true := S
  obtain ⟨S, E0⟩ := Bool.and_eq_true_iff.mp E0
  have sam : PySem.W.findIn K (.ref 538) "__setattr__" = some (some (.builtin "object.__setattr__")) := He.eqO_ok S
  obtain ⟨S, E0⟩ := Bool.and_eq_true_iff.mp E0
  have ccm : PySem.W.findIn K (.ref 538) "__class__" = some (some (.builtin "object.__class__")) := He.eqO_ok S
  obtain ⟨S, E0⟩ := Bool.and_eq_true_iff.mp E0
  have obm : PySem.W.mroIn K 538 (.type "object") = some true := of_decide_eq_true S
  obtain ⟨S, E0⟩ := Bool.and_eq_true_iff.mp E0
  have mkm : PySem.W.makesIn K 538 = true := S
  obtain ⟨S, E0⟩ := Bool.and_eq_true_iff.mp E0
  have kCm : PySem.W.keepIn K (.ref 538) = true := S
  obtain ⟨S, E0⟩ := Bool.and_eq_true_iff.mp E0
  have im : PySem.W.findIn K (.ref 538) "__init__" = some (some (.ref 412)) := He.eqO_ok S
  obtain ⟨S, E0⟩ := Bool.and_eq_true_iff.mp E0
  have nim : PySem.W.isFn K (.ref 412) = true := S
  obtain ⟨S, E0⟩ := Bool.and_eq_true_iff.mp E0
  have ncm : (tyNames.all fun t => kitOne K (.type t) (.ref 538) == some false) = true := S
  obtain ⟨S, E0⟩ := Bool.and_eq_true_iff.mp E0
  have kim : kitOne K (.ref 538) (.ref 538) = some true := of_decide_eq_true S
  obtain ⟨S, E0⟩ := Bool.and_eq_true_iff.mp E0
  have ktm : kitOne K (.ref 538) (.type "tuple") = some false := of_decide_eq_true S
  obtain ⟨S, E0⟩ := Bool.and_eq_true_iff.mp E0
  have cn : PySem.W.specialIn K (.builtin "object.__class__") "__get__" = some (some (.builtin "getset_descriptor.__get__")) := He.eqO_ok S
  obtain ⟨S, E0⟩ := Bool.and_eq_true_iff.mp E0
  have ct : PySem.W.takesIn K (.builtin "object.__class__") = some true := of_decide_eq_true S
  obtain ⟨S, E0⟩ := Bool.and_eq_true_iff.mp E0
  have nMT : PySem.W.findIn K (.ref 538) "_table" = some none := He.eqO_ok S
  obtain ⟨S, E0⟩ := Bool.and_eq_true_iff.mp E0
  have nML : PySem.W.findIn K (.ref 538) "_letters" = some none := He.eqO_ok S
  obtain ⟨S, E0⟩ := Bool.and_eq_true_iff.mp E0
  have nME : PySem.W.findIn K (.ref 538) "_ends" = some none := He.eqO_ok S
  obtain ⟨E1, Y0⟩ := Bool.and_eq_true_iff.mp Y0
  have E1 : (He.eqO (PySem.W.findIn K (.ref 538) "letters") (some (some (.ref 420))) && (He.eqO (PySem.W.specialIn K (.ref 420) "__get__") (some (some (.builtin "property.__get__"))) && (decide (PySem.W.takesIn K (.ref 420) = some true) && (HK.recB K 420 "property" 419 && (He.eqO (PySem.W.findIn K (.ref 538) "table") (some (some (.ref 428))) && (He.eqO (PySem.W.specialIn K (.ref 428) "__get__") (some (some (.builtin "property.__get__"))) && (decide (PySem.W.takesIn K (.ref 428) = some true) && (HK.recB K 428 "property" 427 && (He.eqO (PySem.W.findIn K (.ref 538) "__contains__") (some (some (.ref 514))) && ((PySem.W.isFn K (.ref 514)) && (He.eqO (PySem.W.findIn K (.ref 538) "__len__") (some (some (.ref 521))) && ((PySem.W.isFn K (.ref 521)) && (((plainTys.all fun t => kitOne K (.type t) (.ref 218) == some false)) && ((PySem.W.excIn K 56 [.type "ValueError", .type "Exception", .type "BaseException", .type "object"] "ValueError.__new__") && ((PySem.W.keepIn K (.ref 56)) && (decide (PySem.W.subIn K (.ref 56) (.type "BaseException") = some true) && (decide (PySem.W.typeIn K (.ref 56) = some (.type "type")) && ((PySem.W.excIn K 80 [.type "ValueError", .type "Exception", .type "BaseException", .type "object"] "ValueError.__new__") && ((PySem.W.keepIn K (.ref 80)) && (decide (PySem.W.subIn K (.ref 80) (.type "BaseException") = some true) && (decide (PySem.W.typeIn K (.ref 80) = some (.type "type")) && ((WE.errB K 138) && (He.eqO (PySem.W.findIn K (.ref 138) "value") (some none) && ((WE.errI K 138 135 [.type "RuntimeError", .type "Exception", .type "BaseException", .type "object"] "RuntimeError.__new__" "value") && (decide (PySem.W.typeIn K (.ref 138) = some (.type "type")) && ((WE.errB K 198) && (He.eqO (PySem.W.findIn K (.ref 198) "reason") (some none) && (decide (PySem.W.exmOne K (.ref 44) (.ref 44) = some true) && (decide (PySem.W.exmOne K (.ref 56) (.ref 44) = some false) && (decide (PySem.W.exmOne K (.ref 56) (.ref 56) = some true) && true)))))))))))))))))))))))))))))) = true := E1
  obtain ⟨S, E1⟩ := Bool.and_eq_true_iff.mp E1
  have paml : PySem.W.findIn K (.ref 538) "letters" = some (some (.ref 420)) := He.eqO_ok S
  obtain ⟨S, E1⟩ := Bool.and_eq_true_iff.mp E1
  have pg_ml : PySem.W.specialIn K (.ref 420) "__get__" = some (some (.builtin "property.__get__")) := He.eqO_ok S
  obtain ⟨S, E1⟩ := Bool.and_eq_true_iff.mp E1
  have pt_ml : PySem.W.takesIn K (.ref 420) = some true := of_decide_eq_true S
  obtain ⟨S, E1⟩ := Bool.and_eq_true_iff.mp E1
  obtain ⟨_, pr_ml⟩ := HK.rec_ns S
  obtain ⟨S, E1⟩ := Bool.and_eq_true_iff.mp E1
  have pamt : PySem.W.findIn K (.ref 538) "table" = some (some (.ref 428)) := He.eqO_ok S
  obtain ⟨S, E1⟩ := Bool.and_eq_true_iff.mp E1
  have pg_mt : PySem.W.specialIn K (.ref 428) "__get__" = some (some (.builtin "property.__get__")) := He.eqO_ok S
  obtain ⟨S, E1⟩ := Bool.and_eq_true_iff.mp E1
  have pt_mt : PySem.W.takesIn K (.ref 428) = some true := of_decide_eq_true S
  obtain ⟨S, E1⟩ := Bool.and_eq_true_iff.mp E1
  obtain ⟨_, pr_mt⟩ := HK.rec_ns S
  obtain ⟨S, E1⟩ := Bool.and_eq_true_iff.mp E1
  have a50 : PySem.W.findIn K (.ref 538) "__contains__" = some (some (.ref 514)) := He.eqO_ok S
  obtain ⟨S, E1⟩ := Bool.and_eq_true_iff.mp E1
  have n50 : PySem.W.isFn K (.ref 514) = true := S
  obtain ⟨S, E1⟩ := Bool.and_eq_true_iff.mp E1
  have a51 : PySem.W.findIn K (.ref 538) "__len__" = some (some (.ref 521)) := He.eqO_ok S
  obtain ⟨S, E1⟩ := Bool.and_eq_true_iff.mp E1
  have n51 : PySem.W.isFn K (.ref 521) = true := S
  obtain ⟨S, E1⟩ := Bool.and_eq_true_iff.mp E1
  have kitD : (plainTys.all fun t => kitOne K (.type t) (.ref 218) == some false) = true := S
  obtain ⟨S, E1⟩ := Bool.and_eq_true_iff.mp E1
  have xeM : PySem.W.excIn K 56 [.type "ValueError", .type "Exception", .type "BaseException", .type "object"] "ValueError.__new__" = true := S
  obtain ⟨S, E1⟩ := Bool.and_eq_true_iff.mp E1
  have keM : PySem.W.keepIn K (.ref 56) = true := S
  obtain ⟨S, E1⟩ := Bool.and_eq_true_iff.mp E1
  have beM : PySem.W.subIn K (.ref 56) (.type "BaseException") = some true := of_decide_eq_true S
  obtain ⟨S, E1⟩ := Bool.and_eq_true_iff.mp E1
  have teM : PySem.W.typeIn K (.ref 56) = some (.type "type") := of_decide_eq_true S
  obtain ⟨S, E1⟩ := Bool.and_eq_true_iff.mp E1
  have xeO : PySem.W.excIn K 80 [.type "ValueError", .type "Exception", .type "BaseException", .type "object"] "ValueError.__new__" = true := S
  obtain ⟨S, E1⟩ := Bool.and_eq_true_iff.mp E1
  have keO : PySem.W.keepIn K (.ref 80) = true := S
  obtain ⟨S, E1⟩ := Bool.and_eq_true_iff.mp E1
  have beO : PySem.W.subIn K (.ref 80) (.type "BaseException") = some true := of_decide_eq_true S
  obtain ⟨S, E1⟩ := Bool.and_eq_true_iff.mp E1
  have teO : PySem.W.typeIn K (.ref 80) = some (.type "type") := of_decide_eq_true S
  obtain ⟨S, E1⟩ := Bool.and_eq_true_iff.mp E1
  have ebN : WE.errB K 138 = true := S
  obtain ⟨S, E1⟩ := Bool.and_eq_true_iff.mp E1
  have noN : PySem.W.findIn K (.ref 138) "value" = some none := He.eqO_ok S
  obtain ⟨S, E1⟩ := Bool.and_eq_true_iff.mp E1
  have eiN : WE.errI K 138 135 [.type "RuntimeError", .type "Exception", .type "BaseException", .type "object"] "RuntimeError.__new__" "value" = true := S
  obtain ⟨S, E1⟩ := Bool.and_eq_true_iff.mp E1
  have teN : PySem.W.typeIn K (.ref 138) = some (.type "type") := of_decide_eq_true S
  obtain ⟨S, E1⟩ := Bool.and_eq_true_iff.mp E1
  have ebR : WE.errB K 198 = true := S
  obtain ⟨S, E1⟩ := Bool.and_eq_true_iff.mp E1
  have noR : PySem.W.findIn K (.ref 198) "reason" = some none := He.eqO_ok S
  obtain ⟨S, E1⟩ := Bool.and_eq_true_iff.mp E1
  have x_ww : PySem.W.exmOne K (.ref 44) (.ref 44) = some true := of_decide_eq_true S
  obtain ⟨S, E1⟩ := Bool.and_eq_true_iff.mp E1
  have x_mw : PySem.W.exmOne K (.ref 56) (.ref 44) = some false := of_decide_eq_true S
  obtain ⟨S, E1⟩ := Bool.and_eq_true_iff.mp E1
  have x_mm : PySem.W.exmOne K (.ref 56) (.ref 56) = some true := of_decide_eq_true S
  obtain ⟨E2, Y1⟩ := Bool.and_eq_true_iff.mp Y1
  have E2 : (decide (PySem.W.exmOne K (.ref 68) (.ref 44) = some false) && (decide (PySem.W.exmOne K (.ref 68) (.ref 56) = some false) && (decide (PySem.W.exmOne K (.ref 68) (.ref 68) = some true) && (decide (PySem.W.exmOne K (.ref 80) (.ref 44) = some false) && (decide (PySem.W.exmOne K (.ref 80) (.ref 56) = some false) && (decide (PySem.W.exmOne K (.ref 80) (.ref 68) = some false) && (decide (PySem.W.exmOne K (.ref 80) (.ref 80) = some true) && (decide (PySem.W.exmOne K (.ref 138) (.ref 44) = some false) && (decide (PySem.W.exmOne K (.ref 138) (.ref 56) = some false) && (decide (PySem.W.exmOne K (.ref 138) (.ref 68) = some false) && (decide (PySem.W.exmOne K (.ref 138) (.ref 80) = some false) && (decide (PySem.W.exmOne K (.ref 138) (.ref 99) = some false) && (decide (PySem.W.exmOne K (.ref 138) (.ref 118) = some false) && (decide (PySem.W.exmOne K (.ref 138) (.ref 138) = some true) && (decide (PySem.W.exmOne K (.ref 198) (.ref 44) = some false) && (decide (PySem.W.exmOne K (.ref 198) (.ref 56) = some false) && (decide (PySem.W.exmOne K (.ref 198) (.ref 68) = some false) && (decide (PySem.W.exmOne K (.ref 198) (.ref 80) = some false) && (decide (PySem.W.exmOne K (.ref 198) (.ref 99) = some false) && (decide (PySem.W.exmOne K (.ref 198) (.ref 118) = some false) && (decide (PySem.W.exmOne K (.ref 198) (.ref 138) = some false) && (decide (PySem.W.exmOne K (.ref 198) (.ref 158) = some false) && (decide (PySem.W.exmOne K (.ref 198) (.ref 178) = some false) && (decide (PySem.W.exmOne K (.ref 198) (.ref 198) = some true) && (He.eqO (PySem.W.nsIn K mainGlobals "is_integer") (some (some (.ref 291))) && (HK.fnB K 291 "is_integer" none none none && ((PySem.W.keepIn K (.ref 291)) && (He.eqO (PySem.W.nsIn K mainGlobals "is_number") (some (some (.ref 298))) && (HK.fnB K 298 "is_number" none none none && ((PySem.W.keepIn K (.ref 298)) && true)))))))))))))))))))))))))))))) = true := E2
  obtain ⟨S, E2⟩ := Bool.and_eq_true_iff.mp E2
  have x_bw : PySem.W.exmOne K (.ref 68) (.ref 44) = some false := of_decide_eq_true S
  obtain ⟨S, E2⟩ := Bool.and_eq_true_iff.mp E2
  have x_bm : PySem.W.exmOne K (.ref 68) (.ref 56) = some false := of_decide_eq_true S
  obtain ⟨S, E2⟩ := Bool.and_eq_true_iff.mp E2
  have x_bb : PySem.W.exmOne K (.ref 68) (.ref 68) = some true := of_decide_eq_true S
  obtain ⟨S, E2⟩ := Bool.and_eq_true_iff.mp E2
  have x_ow : PySem.W.exmOne K (.ref 80) (.ref 44) = some false := of_decide_eq_true S
  obtain ⟨S, E2⟩ := Bool.and_eq_true_iff.mp E2
  have x_om : PySem.W.exmOne K (.ref 80) (.ref 56) = some false := of_decide_eq_true S
  obtain ⟨S, E2⟩ := Bool.and_eq_true_iff.mp E2
  have x_ob : PySem.W.exmOne K (.ref 80) (.ref 68) = some false := of_decide_eq_true S
  obtain ⟨S, E2⟩ := Bool.and_eq_true_iff.mp E2
  have x_oo : PySem.W.exmOne K (.ref 80) (.ref 80) = some true := of_decide_eq_true S
  obtain ⟨S, E2⟩ := Bool.and_eq_true_iff.mp E2
  have x_nw : PySem.W.exmOne K (.ref 138) (.ref 44) = some false := of_decide_eq_true S
  obtain ⟨S, E2⟩ := Bool.and_eq_true_iff.mp E2
  have x_nm : PySem.W.exmOne K (.ref 138) (.ref 56) = some false := of_decide_eq_true S
  obtain ⟨S, E2⟩ := Bool.and_eq_true_iff.mp E2
  have x_nb : PySem.W.exmOne K (.ref 138) (.ref 68) = some false := of_decide_eq_true S
  obtain ⟨S, E2⟩ := Bool.and_eq_true_iff.mp E2
  have x_no : PySem.W.exmOne K (.ref 138) (.ref 80) = some false := of_decide_eq_true S
  obtain ⟨S, E2⟩ := Bool.and_eq_true_iff.mp E2
  have x_np : PySem.W.exmOne K (.ref 138) (.ref 99) = some false := of_decide_eq_true S
  obtain ⟨S, E2⟩ := Bool.and_eq_true_iff.mp E2
  have x_nu : PySem.W.exmOne K (.ref 138) (.ref 118) = some false := of_decide_eq_true S
  obtain ⟨S, E2⟩ := Bool.and_eq_true_iff.mp E2
  have x_nn : PySem.W.exmOne K (.ref 138) (.ref 138) = some true := of_decide_eq_true S
  obtain ⟨S, E2⟩ := Bool.and_eq_true_iff.mp E2
  have x_rw : PySem.W.exmOne K (.ref 198) (.ref 44) = some false := of_decide_eq_true S
  obtain ⟨S, E2⟩ := Bool.and_eq_true_iff.mp E2
  have x_rm : PySem.W.exmOne K (.ref 198) (.ref 56) = some false := of_decide_eq_true S
  obtain ⟨S, E2⟩ := Bool.and_eq_true_iff.mp E2
  have x_rb : PySem.W.exmOne K (.ref 198) (.ref 68) = some false := of_decide_eq_true S
  obtain ⟨S, E2⟩ := Bool.and_eq_true_iff.mp E2
  have x_ro : PySem.W.exmOne K (.ref 198) (.ref 80) = some false := of_decide_eq_true S
  obtain ⟨S, E2⟩ := Bool.and_eq_true_iff.mp E2
  have x_rp : PySem.W.exmOne K (.ref 198) (.ref 99) = some false := of_decide_eq_true S
  obtain ⟨S, E2⟩ := Bool.and_eq_true_iff.mp E2
  have x_ru : PySem.W.exmOne K (.ref 198) (.ref 118) = some false := of_decide_eq_true S
  obtain ⟨S, E2⟩ := Bool.and_eq_true_iff.mp E2
  have x_rn : PySem.W.exmOne K (.ref 198) (.ref 138) = some false := of_decide_eq_true S
  obtain ⟨S, E2⟩ := Bool.and_eq_true_iff.mp E2
  have x_rt : PySem.W.exmOne K (.ref 198) (.ref 158) = some false := of_decide_eq_true S
  obtain ⟨S, E2⟩ := Bool.and_eq_true_iff.mp E2
  have x_rx : PySem.W.exmOne K (.ref 198) (.ref 178) = some false := of_decide_eq_true S
  obtain ⟨S, E2⟩ := Bool.and_eq_true_iff.mp E2
  have x_rr : PySem.W.exmOne K (.ref 198) (.ref 198) = some true := of_decide_eq_true S
  obtain ⟨S, E2⟩ := Bool.and_eq_true_iff.mp E2
  have d0 : PySem.W.nsIn K mainGlobals "is_integer" = some (some (.ref 291)) := He.eqO_ok S
  obtain ⟨S, E2⟩ := Bool.and_eq_true_iff.mp E2
  obtain ⟨_, kv0, _, _, cd0, _, _, _, _, l0, q0, kk0, oo0⟩ := HK.fn_ok (c.fn 0 rfl) S
  obtain ⟨S, E2⟩ := Bool.and_eq_true_iff.mp E2
  have k0 : PySem.W.keepIn K (.ref 291) = true := S
  obtain ⟨S, E2⟩ := Bool.and_eq_true_iff.mp E2
  have d1 : PySem.W.nsIn K mainGlobals "is_number" = some (some (.ref 298)) := He.eqO_ok S
  obtain ⟨S, E2⟩ := Bool.and_eq_true_iff.mp E2
  obtain ⟨_, kv1, _, _, cd1, _, _, _, _, l1, q1, kk1, oo1⟩ := HK.fn_ok (c.fn 1 rfl) S
  obtain ⟨S, E2⟩ := Bool.and_eq_true_iff.mp E2
  have k1 : PySem.W.keepIn K (.ref 298) = true := S
  obtain ⟨E3, Y1⟩ := Bool.and_eq_true_iff.mp Y1
  have E3 : (He.eqO (PySem.W.nsIn K mainGlobals "need_number") (some (some (.ref 305))) && (HK.fnB K 305 "need_number" none none none && ((PySem.W.keepIn K (.ref 305)) && (He.eqO (PySem.W.nsIn K mainGlobals "ascends") (some (some (.ref 317))) && (HK.fnB K 317 "ascends" none none none && ((PySem.W.keepIn K (.ref 317)) && (He.eqO (PySem.W.nsIn K mainGlobals "is_ascending") (some (some (.ref 322))) && (HK.fnB K 322 "is_ascending" none none none && ((PySem.W.keepIn K (.ref 322)) && (He.eqO (PySem.W.nsIn K mainGlobals "is_table") (some (some (.ref 332))) && (HK.fnB K 332 "is_table" none none none && ((PySem.W.keepIn K (.ref 332)) && (He.eqO (PySem.W.nsIn K mainGlobals "_is_row") (some (some (.ref 344))) && (HK.fnB K 344 "_is_row" none none none && ((PySem.W.keepIn K (.ref 344)) && (He.eqO (PySem.W.nsIn K mainGlobals "is_letters") (some (some (.ref 351))) && (HK.fnB K 351 "is_letters" none none none && ((PySem.W.keepIn K (.ref 351)) && (He.eqO (PySem.W.nsIn K mainGlobals "is_word") (some (some (.ref 358))) && (HK.fnB K 358 "is_word" none none none && ((PySem.W.keepIn K (.ref 358)) && (He.eqO (PySem.W.nsIn K mainGlobals "is_over") (some (some (.ref 370))) && (HK.fnB K 370 "is_over" none none none && ((PySem.W.keepIn K (.ref 370)) && (He.eqO (PySem.W.nsIn K mainGlobals "need_letters") (some (some (.ref 377))) && (HK.fnB K 377 "need_letters" none none none && ((PySem.W.keepIn K (.ref 377)) && (He.eqO (PySem.W.nsIn K mainGlobals "need_over") (some (some (.ref 391))) && (HK.fnB K 391 "need_over" none none none && ((PySem.W.keepIn K (.ref 391)) && true)))))))))))))))))))))))))))))) = true := E3
  obtain ⟨S, E3⟩ := Bool.and_eq_true_iff.mp E3
  have d2 : PySem.W.nsIn K mainGlobals "need_number" = some (some (.ref 305)) := He.eqO_ok S
  obtain ⟨S, E3⟩ := Bool.and_eq_true_iff.mp E3
  obtain ⟨_, kv2, _, _, cd2, _, _, _, _, l2, q2, kk2, oo2⟩ := HK.fn_ok (c.fn 2 rfl) S
  obtain ⟨S, E3⟩ := Bool.and_eq_true_iff.mp E3
  have k2 : PySem.W.keepIn K (.ref 305) = true := S
  obtain ⟨S, E3⟩ := Bool.and_eq_true_iff.mp E3
  have d3 : PySem.W.nsIn K mainGlobals "ascends" = some (some (.ref 317)) := He.eqO_ok S
  obtain ⟨S, E3⟩ := Bool.and_eq_true_iff.mp E3
  obtain ⟨_, kv3, _, _, cd3, _, _, _, _, l3, q3, kk3, oo3⟩ := HK.fn_ok (c.fn 3 rfl) S
  obtain ⟨S, E3⟩ := Bool.and_eq_true_iff.mp E3
  have k3 : PySem.W.keepIn K (.ref 317) = true := S
  obtain ⟨S, E3⟩ := Bool.and_eq_true_iff.mp E3
  have d4 : PySem.W.nsIn K mainGlobals "is_ascending" = some (some (.ref 322)) := He.eqO_ok S
  obtain ⟨S, E3⟩ := Bool.and_eq_true_iff.mp E3
  obtain ⟨_, kv4, _, _, cd4, _, _, _, _, l4, q4, kk4, oo4⟩ := HK.fn_ok (c.fn 4 rfl) S
  obtain ⟨S, E3⟩ := Bool.and_eq_true_iff.mp E3
  have k4 : PySem.W.keepIn K (.ref 322) = true := S
  obtain ⟨S, E3⟩ := Bool.and_eq_true_iff.mp E3
  have d5 : PySem.W.nsIn K mainGlobals "is_table" = some (some (.ref 332)) := He.eqO_ok S
  obtain ⟨S, E3⟩ := Bool.and_eq_true_iff.mp E3
  obtain ⟨_, kv5, _, _, cd5, _, _, _, _, l5, q5, kk5, oo5⟩ := HK.fn_ok (c.fn 5 rfl) S
  obtain ⟨S, E3⟩ := Bool.and_eq_true_iff.mp E3
  have k5 : PySem.W.keepIn K (.ref 332) = true := S
  obtain ⟨S, E3⟩ := Bool.and_eq_true_iff.mp E3
  have d6 : PySem.W.nsIn K mainGlobals "_is_row" = some (some (.ref 344)) := He.eqO_ok S
  obtain ⟨S, E3⟩ := Bool.and_eq_true_iff.mp E3
  obtain ⟨_, kv6, _, _, cd6, _, _, _, _, l6, q6, kk6, oo6⟩ := HK.fn_ok (c.fn 6 rfl) S
  obtain ⟨S, E3⟩ := Bool.and_eq_true_iff.mp E3
  have k6 : PySem.W.keepIn K (.ref 344) = true := S
  obtain ⟨S, E3⟩ := Bool.and_eq_true_iff.mp E3
  have d7 : PySem.W.nsIn K mainGlobals "is_letters" = some (some (.ref 351)) := He.eqO_ok S
  obtain ⟨S, E3⟩ := Bool.and_eq_true_iff.mp E3
  obtain ⟨_, kv7, _, _, cd7, _, _, _, _, l7, q7, kk7, oo7⟩ := HK.fn_ok (c.fn 7 rfl) S
  obtain ⟨S, E3⟩ := Bool.and_eq_true_iff.mp E3
  have k7 : PySem.W.keepIn K (.ref 351) = true := S
  obtain ⟨S, E3⟩ := Bool.and_eq_true_iff.mp E3
  have d8 : PySem.W.nsIn K mainGlobals "is_word" = some (some (.ref 358)) := He.eqO_ok S
  obtain ⟨S, E3⟩ := Bool.and_eq_true_iff.mp E3
  obtain ⟨_, kv8, _, _, cd8, _, _, _, _, l8, q8, kk8, oo8⟩ := HK.fn_ok (c.fn 8 rfl) S
  obtain ⟨S, E3⟩ := Bool.and_eq_true_iff.mp E3
  have k8 : PySem.W.keepIn K (.ref 358) = true := S
  obtain ⟨S, E3⟩ := Bool.and_eq_true_iff.mp E3
  have d9 : PySem.W.nsIn K mainGlobals "is_over" = some (some (.ref 370)) := He.eqO_ok S
  obtain ⟨S, E3⟩ := Bool.and_eq_true_iff.mp E3
  obtain ⟨_, kv9, _, _, cd9, _, _, _, _, l9, q9, kk9, oo9⟩ := HK.fn_ok (c.fn 9 rfl) S
  obtain ⟨S, E3⟩ := Bool.and_eq_true_iff.mp E3
  have k9 : PySem.W.keepIn K (.ref 370) = true := S
  obtain ⟨S, E3⟩ := Bool.and_eq_true_iff.mp E3
  have d10 : PySem.W.nsIn K mainGlobals "need_letters" = some (some (.ref 377)) := He.eqO_ok S
  obtain ⟨S, E3⟩ := Bool.and_eq_true_iff.mp E3
  obtain ⟨_, kv10, _, _, cd10, _, _, _, _, l10, q10, kk10, oo10⟩ := HK.fn_ok (c.fn 10 rfl) S
  obtain ⟨S, E3⟩ := Bool.and_eq_true_iff.mp E3
  have k10 : PySem.W.keepIn K (.ref 377) = true := S
  obtain ⟨S, E3⟩ := Bool.and_eq_true_iff.mp E3
  have d11 : PySem.W.nsIn K mainGlobals "need_over" = some (some (.ref 391)) := He.eqO_ok S
  obtain ⟨S, E3⟩ := Bool.and_eq_true_iff.mp E3
  obtain ⟨_, kv11, _, _, cd11, _, _, _, _, l11, q11, kk11, oo11⟩ := HK.fn_ok (c.fn 11 rfl) S
  obtain ⟨S, E3⟩ := Bool.and_eq_true_iff.mp E3
  have k11 : PySem.W.keepIn K (.ref 391) = true := S
  obtain ⟨E4, Y2⟩ := Bool.and_eq_true_iff.mp Y2
  have E4 : (He.eqO (PySem.W.nsIn K mainGlobals "led") (some (some (.ref 227))) && (HK.fnB K 227 "led" none none none && ((PySem.W.keepIn K (.ref 227)) && (He.eqO (PySem.W.nsIn K mainGlobals "need_machines") (some (some (.ref 557))) && (HK.fnB K 557 "need_machines" none none none && ((PySem.W.keepIn K (.ref 557)) && (He.eqO (PySem.W.nsIn K mainGlobals "need_same_letters") (some (some (.ref 564))) && (HK.fnB K 564 "need_same_letters" none none none && ((PySem.W.keepIn K (.ref 564)) && (He.eqO (PySem.W.nsIn K mainGlobals "need_two") (some (some (.ref 571))) && (HK.fnB K 571 "need_two" none none none && ((PySem.W.keepIn K (.ref 571)) && (He.eqO (PySem.W.nsIn K mainGlobals "is_pair") (some (some (.ref 312))) && (HK.fnB K 312 "is_pair" none none none && ((PySem.W.keepIn K (.ref 312)) && (He.eqO (PySem.W.nsIn K mainGlobals "is_word_blur") (some (some (.ref 896))) && (HK.fnB K 896 "is_word_blur" none none none && ((PySem.W.keepIn K (.ref 896)) && (He.eqO (PySem.W.nsIn K mainGlobals "pieces_blur") (some (some (.ref 813))) && (HK.fnB K 813 "pieces_blur" none none none && ((PySem.W.keepIn K (.ref 813)) && (He.eqO (PySem.W.nsIn K mainGlobals "pieces_clear") (some (some (.ref 818))) && (HK.fnB K 818 "pieces_clear" none none none && ((PySem.W.keepIn K (.ref 818)) && (He.eqO (PySem.W.nsIn K mainGlobals "is_pieces_clear") (some (some (.ref 823))) && (HK.fnB K 823 "is_pieces_clear" none none none && ((PySem.W.keepIn K (.ref 823)) && (He.eqO (PySem.W.nsIn K mainGlobals "are_told_by_pieces") (some (some (.ref 830))) && (HK.fnB K 830 "are_told_by_pieces" none none none && ((PySem.W.keepIn K (.ref 830)) && true)))))))))))))))))))))))))))))) = true := E4
  obtain ⟨S, E4⟩ := Bool.and_eq_true_iff.mp E4
  have d12 : PySem.W.nsIn K mainGlobals "led" = some (some (.ref 227)) := He.eqO_ok S
  obtain ⟨S, E4⟩ := Bool.and_eq_true_iff.mp E4
  obtain ⟨_, kv12, _, _, cd12, _, _, _, _, l12, q12, kk12, oo12⟩ := HK.fn_ok (c.fn 12 rfl) S
  obtain ⟨S, E4⟩ := Bool.and_eq_true_iff.mp E4
  have k12 : PySem.W.keepIn K (.ref 227) = true := S
  obtain ⟨S, E4⟩ := Bool.and_eq_true_iff.mp E4
  have d13 : PySem.W.nsIn K mainGlobals "need_machines" = some (some (.ref 557)) := He.eqO_ok S
  obtain ⟨S, E4⟩ := Bool.and_eq_true_iff.mp E4
  obtain ⟨_, kv13, _, _, cd13, _, _, _, _, l13, q13, kk13, oo13⟩ := HK.fn_ok (c.fn 13 rfl) S
  obtain ⟨S, E4⟩ := Bool.and_eq_true_iff.mp E4
  have k13 : PySem.W.keepIn K (.ref 557) = true := S
  obtain ⟨S, E4⟩ := Bool.and_eq_true_iff.mp E4
  have d14 : PySem.W.nsIn K mainGlobals "need_same_letters" = some (some (.ref 564)) := He.eqO_ok S
  obtain ⟨S, E4⟩ := Bool.and_eq_true_iff.mp E4
  obtain ⟨_, kv14, _, _, cd14, _, _, _, _, l14, q14, kk14, oo14⟩ := HK.fn_ok (c.fn 14 rfl) S
  obtain ⟨S, E4⟩ := Bool.and_eq_true_iff.mp E4
  have k14 : PySem.W.keepIn K (.ref 564) = true := S
  obtain ⟨S, E4⟩ := Bool.and_eq_true_iff.mp E4
  have d15 : PySem.W.nsIn K mainGlobals "need_two" = some (some (.ref 571)) := He.eqO_ok S
  obtain ⟨S, E4⟩ := Bool.and_eq_true_iff.mp E4
  obtain ⟨_, kv15, _, _, cd15, _, _, _, _, l15, q15, kk15, oo15⟩ := HK.fn_ok (c.fn 15 rfl) S
  obtain ⟨S, E4⟩ := Bool.and_eq_true_iff.mp E4
  have k15 : PySem.W.keepIn K (.ref 571) = true := S
  obtain ⟨S, E4⟩ := Bool.and_eq_true_iff.mp E4
  have d16 : PySem.W.nsIn K mainGlobals "is_pair" = some (some (.ref 312)) := He.eqO_ok S
  obtain ⟨S, E4⟩ := Bool.and_eq_true_iff.mp E4
  obtain ⟨_, kv16, _, _, cd16, _, _, _, _, l16, q16, kk16, oo16⟩ := HK.fn_ok (c.fn 16 rfl) S
  obtain ⟨S, E4⟩ := Bool.and_eq_true_iff.mp E4
  have k16 : PySem.W.keepIn K (.ref 312) = true := S
  obtain ⟨S, E4⟩ := Bool.and_eq_true_iff.mp E4
  have d17 : PySem.W.nsIn K mainGlobals "is_word_blur" = some (some (.ref 896)) := He.eqO_ok S
  obtain ⟨S, E4⟩ := Bool.and_eq_true_iff.mp E4
  obtain ⟨_, kv17, _, _, cd17, _, _, _, _, l17, q17, kk17, oo17⟩ := HK.fn_ok (c.fn 17 rfl) S
  obtain ⟨S, E4⟩ := Bool.and_eq_true_iff.mp E4
  have k17 : PySem.W.keepIn K (.ref 896) = true := S
  obtain ⟨S, E4⟩ := Bool.and_eq_true_iff.mp E4
  have d18 : PySem.W.nsIn K mainGlobals "pieces_blur" = some (some (.ref 813)) := He.eqO_ok S
  obtain ⟨S, E4⟩ := Bool.and_eq_true_iff.mp E4
  obtain ⟨_, kv18, _, _, cd18, _, _, _, _, l18, q18, kk18, oo18⟩ := HK.fn_ok (c.fn 18 rfl) S
  obtain ⟨S, E4⟩ := Bool.and_eq_true_iff.mp E4
  have k18 : PySem.W.keepIn K (.ref 813) = true := S
  obtain ⟨S, E4⟩ := Bool.and_eq_true_iff.mp E4
  have d19 : PySem.W.nsIn K mainGlobals "pieces_clear" = some (some (.ref 818)) := He.eqO_ok S
  obtain ⟨S, E4⟩ := Bool.and_eq_true_iff.mp E4
  obtain ⟨_, kv19, _, _, cd19, _, _, _, _, l19, q19, kk19, oo19⟩ := HK.fn_ok (c.fn 19 rfl) S
  obtain ⟨S, E4⟩ := Bool.and_eq_true_iff.mp E4
  have k19 : PySem.W.keepIn K (.ref 818) = true := S
  obtain ⟨S, E4⟩ := Bool.and_eq_true_iff.mp E4
  have d20 : PySem.W.nsIn K mainGlobals "is_pieces_clear" = some (some (.ref 823)) := He.eqO_ok S
  obtain ⟨S, E4⟩ := Bool.and_eq_true_iff.mp E4
  obtain ⟨_, kv20, _, _, cd20, _, _, _, _, l20, q20, kk20, oo20⟩ := HK.fn_ok (c.fn 20 rfl) S
  obtain ⟨S, E4⟩ := Bool.and_eq_true_iff.mp E4
  have k20 : PySem.W.keepIn K (.ref 823) = true := S
  obtain ⟨S, E4⟩ := Bool.and_eq_true_iff.mp E4
  have d21 : PySem.W.nsIn K mainGlobals "are_told_by_pieces" = some (some (.ref 830)) := He.eqO_ok S
  obtain ⟨S, E4⟩ := Bool.and_eq_true_iff.mp E4
  obtain ⟨_, kv21, _, _, cd21, _, _, _, _, l21, q21, kk21, oo21⟩ := HK.fn_ok (c.fn 21 rfl) S
  obtain ⟨S, E4⟩ := Bool.and_eq_true_iff.mp E4
  have k21 : PySem.W.keepIn K (.ref 830) = true := S
  obtain ⟨E5, Y2⟩ := Bool.and_eq_true_iff.mp Y2
  have E5 : (He.eqO (PySem.W.nsIn K mainGlobals "least_pieces") (some (some (.ref 837))) && (HK.fnB K 837 "least_pieces" none none none && ((PySem.W.keepIn K (.ref 837)) && (He.eqO (PySem.W.nsIn K mainGlobals "pieces_pair") (some (some (.ref 844))) && (HK.fnB K 844 "pieces_pair" none none none && ((PySem.W.keepIn K (.ref 844)) && (He.eqO (PySem.W.nsIn K mainGlobals "_need_most") (some (some (.ref 851))) && (HK.fnB K 851 "_need_most" none none none && ((PySem.W.keepIn K (.ref 851)) && (He.eqO (PySem.W.nsIn K mainGlobals "is_path") (some (some (.ref 903))) && (HK.fnB K 903 "is_path" none none none && ((PySem.W.keepIn K (.ref 903)) && (He.eqO (PySem.W.nsIn K mainGlobals "path_ends") (some (some (.ref 910))) && (HK.fnB K 910 "path_ends" none none none && ((PySem.W.keepIn K (.ref 910)) && (He.eqO (PySem.W.nsIn K mainGlobals "is_pieces_blur") (some (some (.ref 917))) && (HK.fnB K 917 "is_pieces_blur" none none none && ((PySem.W.keepIn K (.ref 917)) && (He.eqO (PySem.W.nsIn K mainGlobals "pieces_words") (some (some (.ref 922))) && (HK.fnB K 922 "pieces_words" none none none && ((PySem.W.keepIn K (.ref 922)) && (He.eqO (PySem.W.nsIn K mainGlobals "ring_letters") (some (some (.ref 929))) && (HK.fnB K 929 "ring_letters" none none none && ((PySem.W.keepIn K (.ref 929)) && (He.eqO (PySem.W.nsIn K mainGlobals "block_ends") (some (some (.ref 936))) && (HK.fnB K 936 "block_ends" none none none && ((PySem.W.keepIn K (.ref 936)) && (He.eqO (PySem.W.nsIn K mainGlobals "_pairs_on") (some (some (.ref 950))) && (HK.fnB K 950 "_pairs_on" none none none && ((PySem.W.keepIn K (.ref 950)) && true)))))))))))))))))))))))))))))) = true := E5
  obtain ⟨S, E5⟩ := Bool.and_eq_true_iff.mp E5
  have d22 : PySem.W.nsIn K mainGlobals "least_pieces" = some (some (.ref 837)) := He.eqO_ok S
  obtain ⟨S, E5⟩ := Bool.and_eq_true_iff.mp E5
  obtain ⟨_, kv22, _, _, cd22, _, _, _, _, l22, q22, kk22, oo22⟩ := HK.fn_ok (c.fn 22 rfl) S
  obtain ⟨S, E5⟩ := Bool.and_eq_true_iff.mp E5
  have k22 : PySem.W.keepIn K (.ref 837) = true := S
  obtain ⟨S, E5⟩ := Bool.and_eq_true_iff.mp E5
  have d23 : PySem.W.nsIn K mainGlobals "pieces_pair" = some (some (.ref 844)) := He.eqO_ok S
  obtain ⟨S, E5⟩ := Bool.and_eq_true_iff.mp E5
  obtain ⟨_, kv23, _, _, cd23, _, _, _, _, l23, q23, kk23, oo23⟩ := HK.fn_ok (c.fn 23 rfl) S
  obtain ⟨S, E5⟩ := Bool.and_eq_true_iff.mp E5
  have k23 : PySem.W.keepIn K (.ref 844) = true := S
  obtain ⟨S, E5⟩ := Bool.and_eq_true_iff.mp E5
  have d24 : PySem.W.nsIn K mainGlobals "_need_most" = some (some (.ref 851)) := He.eqO_ok S
  obtain ⟨S, E5⟩ := Bool.and_eq_true_iff.mp E5
  obtain ⟨_, kv24, _, _, cd24, _, _, _, _, l24, q24, kk24, oo24⟩ := HK.fn_ok (c.fn 24 rfl) S
  obtain ⟨S, E5⟩ := Bool.and_eq_true_iff.mp E5
  have k24 : PySem.W.keepIn K (.ref 851) = true := S
  obtain ⟨S, E5⟩ := Bool.and_eq_true_iff.mp E5
  have d25 : PySem.W.nsIn K mainGlobals "is_path" = some (some (.ref 903)) := He.eqO_ok S
  obtain ⟨S, E5⟩ := Bool.and_eq_true_iff.mp E5
  obtain ⟨_, kv25, _, _, cd25, _, _, _, _, l25, q25, kk25, oo25⟩ := HK.fn_ok (c.fn 25 rfl) S
  obtain ⟨S, E5⟩ := Bool.and_eq_true_iff.mp E5
  have k25 : PySem.W.keepIn K (.ref 903) = true := S
  obtain ⟨S, E5⟩ := Bool.and_eq_true_iff.mp E5
  have d26 : PySem.W.nsIn K mainGlobals "path_ends" = some (some (.ref 910)) := He.eqO_ok S
  obtain ⟨S, E5⟩ := Bool.and_eq_true_iff.mp E5
  obtain ⟨_, kv26, _, _, cd26, _, _, _, _, l26, q26, kk26, oo26⟩ := HK.fn_ok (c.fn 26 rfl) S
  obtain ⟨S, E5⟩ := Bool.and_eq_true_iff.mp E5
  have k26 : PySem.W.keepIn K (.ref 910) = true := S
  obtain ⟨S, E5⟩ := Bool.and_eq_true_iff.mp E5
  have d27 : PySem.W.nsIn K mainGlobals "is_pieces_blur" = some (some (.ref 917)) := He.eqO_ok S
  obtain ⟨S, E5⟩ := Bool.and_eq_true_iff.mp E5
  obtain ⟨_, kv27, _, _, cd27, _, _, _, _, l27, q27, kk27, oo27⟩ := HK.fn_ok (c.fn 27 rfl) S
  obtain ⟨S, E5⟩ := Bool.and_eq_true_iff.mp E5
  have k27 : PySem.W.keepIn K (.ref 917) = true := S
  obtain ⟨S, E5⟩ := Bool.and_eq_true_iff.mp E5
  have d28 : PySem.W.nsIn K mainGlobals "pieces_words" = some (some (.ref 922)) := He.eqO_ok S
  obtain ⟨S, E5⟩ := Bool.and_eq_true_iff.mp E5
  obtain ⟨_, kv28, _, _, cd28, _, _, _, _, l28, q28, kk28, oo28⟩ := HK.fn_ok (c.fn 28 rfl) S
  obtain ⟨S, E5⟩ := Bool.and_eq_true_iff.mp E5
  have k28 : PySem.W.keepIn K (.ref 922) = true := S
  obtain ⟨S, E5⟩ := Bool.and_eq_true_iff.mp E5
  have d29 : PySem.W.nsIn K mainGlobals "ring_letters" = some (some (.ref 929)) := He.eqO_ok S
  obtain ⟨S, E5⟩ := Bool.and_eq_true_iff.mp E5
  obtain ⟨_, kv29, _, _, cd29, _, _, _, _, l29, q29, kk29, oo29⟩ := HK.fn_ok (c.fn 29 rfl) S
  obtain ⟨S, E5⟩ := Bool.and_eq_true_iff.mp E5
  have k29 : PySem.W.keepIn K (.ref 929) = true := S
  obtain ⟨S, E5⟩ := Bool.and_eq_true_iff.mp E5
  have d30 : PySem.W.nsIn K mainGlobals "block_ends" = some (some (.ref 936)) := He.eqO_ok S
  obtain ⟨S, E5⟩ := Bool.and_eq_true_iff.mp E5
  obtain ⟨_, kv30, _, _, cd30, _, _, _, _, l30, q30, kk30, oo30⟩ := HK.fn_ok (c.fn 30 rfl) S
  obtain ⟨S, E5⟩ := Bool.and_eq_true_iff.mp E5
  have k30 : PySem.W.keepIn K (.ref 936) = true := S
  obtain ⟨S, E5⟩ := Bool.and_eq_true_iff.mp E5
  have d31 : PySem.W.nsIn K mainGlobals "_pairs_on" = some (some (.ref 950)) := He.eqO_ok S
  obtain ⟨S, E5⟩ := Bool.and_eq_true_iff.mp E5
  obtain ⟨_, kv31, _, _, cd31, _, _, _, _, l31, q31, kk31, oo31⟩ := HK.fn_ok (c.fn 31 rfl) S
  obtain ⟨S, E5⟩ := Bool.and_eq_true_iff.mp E5
  have k31 : PySem.W.keepIn K (.ref 950) = true := S
  obtain ⟨E6, Y3⟩ := Bool.and_eq_true_iff.mp Y3
  have E6 : (He.eqO (PySem.W.nsIn K mainGlobals "_after_step") (some (some (.ref 957))) && (HK.fnB K 957 "_after_step" none none none && ((PySem.W.keepIn K (.ref 957)) && (He.eqO (PySem.W.nsIn K mainGlobals "_law_dice") (some (some (.ref 983))) && (HK.fnB K 983 "_law_dice" none none none && ((PySem.W.keepIn K (.ref 983)) && (He.eqO (PySem.W.nsIn K mainGlobals "_law_roll") (some (some (.ref 990))) && (HK.fnB K 990 "_law_roll" none none none && ((PySem.W.keepIn K (.ref 990)) && (He.eqO (PySem.W.nsIn K mainGlobals "_law_one_of") (some (some (.ref 997))) && (HK.fnB K 997 "_law_one_of" none none none && ((PySem.W.keepIn K (.ref 997)) && (He.eqO (PySem.W.nsIn K mainGlobals "_law_mixed") (some (some (.ref 1004))) && (HK.fnB K 1004 "_law_mixed" none none none && ((PySem.W.keepIn K (.ref 1004)) && (He.eqO (PySem.W.nsIn K mainGlobals "_law_letters") (some (some (.ref 1011))) && (HK.fnB K 1011 "_law_letters" none none none && ((PySem.W.keepIn K (.ref 1011)) && (He.eqO (PySem.W.nsIn K mainGlobals "_law_action") (some (some (.ref 1016))) && (HK.fnB K 1016 "_law_action" none none none && ((PySem.W.keepIn K (.ref 1016)) && (He.eqO (PySem.W.nsIn K mainGlobals "_law_table") (some (some (.ref 1021))) && (HK.fnB K 1021 "_law_table" none none none && ((PySem.W.keepIn K (.ref 1021)) && (He.eqO (PySem.W.nsIn K mainGlobals "_law_machine") (some (some (.ref 1026))) && (HK.fnB K 1026 "_law_machine" none none none && ((PySem.W.keepIn K (.ref 1026)) && (He.eqO (PySem.W.nsIn K mainGlobals "_law_made_machine") (some (some (.ref 1033))) && (HK.fnB K 1033 "_law_made_machine" none none none && ((PySem.W.keepIn K (.ref 1033)) && true)))))))))))))))))))))))))))))) = true := E6
  obtain ⟨S, E6⟩ := Bool.and_eq_true_iff.mp E6
  have d32 : PySem.W.nsIn K mainGlobals "_after_step" = some (some (.ref 957)) := He.eqO_ok S
  obtain ⟨S, E6⟩ := Bool.and_eq_true_iff.mp E6
  obtain ⟨_, kv32, _, _, cd32, _, _, _, _, l32, q32, kk32, oo32⟩ := HK.fn_ok (c.fn 32 rfl) S
  obtain ⟨S, E6⟩ := Bool.and_eq_true_iff.mp E6
  have k32 : PySem.W.keepIn K (.ref 957) = true := S
  obtain ⟨S, E6⟩ := Bool.and_eq_true_iff.mp E6
  have d33 : PySem.W.nsIn K mainGlobals "_law_dice" = some (some (.ref 983)) := He.eqO_ok S
  obtain ⟨S, E6⟩ := Bool.and_eq_true_iff.mp E6
  obtain ⟨_, kv33, _, _, cd33, _, _, _, _, l33, q33, kk33, oo33⟩ := HK.fn_ok (c.fn 33 rfl) S
  obtain ⟨S, E6⟩ := Bool.and_eq_true_iff.mp E6
  have k33 : PySem.W.keepIn K (.ref 983) = true := S
  obtain ⟨S, E6⟩ := Bool.and_eq_true_iff.mp E6
  have d34 : PySem.W.nsIn K mainGlobals "_law_roll" = some (some (.ref 990)) := He.eqO_ok S
  obtain ⟨S, E6⟩ := Bool.and_eq_true_iff.mp E6
  obtain ⟨_, kv34, _, _, cd34, _, _, _, _, l34, q34, kk34, oo34⟩ := HK.fn_ok (c.fn 34 rfl) S
  obtain ⟨S, E6⟩ := Bool.and_eq_true_iff.mp E6
  have k34 : PySem.W.keepIn K (.ref 990) = true := S
  obtain ⟨S, E6⟩ := Bool.and_eq_true_iff.mp E6
  have d35 : PySem.W.nsIn K mainGlobals "_law_one_of" = some (some (.ref 997)) := He.eqO_ok S
  obtain ⟨S, E6⟩ := Bool.and_eq_true_iff.mp E6
  obtain ⟨_, kv35, _, _, cd35, _, _, _, _, l35, q35, kk35, oo35⟩ := HK.fn_ok (c.fn 35 rfl) S
  obtain ⟨S, E6⟩ := Bool.and_eq_true_iff.mp E6
  have k35 : PySem.W.keepIn K (.ref 997) = true := S
  obtain ⟨S, E6⟩ := Bool.and_eq_true_iff.mp E6
  have d36 : PySem.W.nsIn K mainGlobals "_law_mixed" = some (some (.ref 1004)) := He.eqO_ok S
  obtain ⟨S, E6⟩ := Bool.and_eq_true_iff.mp E6
  obtain ⟨_, kv36, _, _, cd36, _, _, _, _, l36, q36, kk36, oo36⟩ := HK.fn_ok (c.fn 36 rfl) S
  obtain ⟨S, E6⟩ := Bool.and_eq_true_iff.mp E6
  have k36 : PySem.W.keepIn K (.ref 1004) = true := S
  obtain ⟨S, E6⟩ := Bool.and_eq_true_iff.mp E6
  have d37 : PySem.W.nsIn K mainGlobals "_law_letters" = some (some (.ref 1011)) := He.eqO_ok S
  obtain ⟨S, E6⟩ := Bool.and_eq_true_iff.mp E6
  obtain ⟨_, kv37, _, _, cd37, _, _, _, _, l37, q37, kk37, oo37⟩ := HK.fn_ok (c.fn 37 rfl) S
  obtain ⟨S, E6⟩ := Bool.and_eq_true_iff.mp E6
  have k37 : PySem.W.keepIn K (.ref 1011) = true := S
  obtain ⟨S, E6⟩ := Bool.and_eq_true_iff.mp E6
  have d38 : PySem.W.nsIn K mainGlobals "_law_action" = some (some (.ref 1016)) := He.eqO_ok S
  obtain ⟨S, E6⟩ := Bool.and_eq_true_iff.mp E6
  obtain ⟨_, kv38, _, _, cd38, _, _, _, _, l38, q38, kk38, oo38⟩ := HK.fn_ok (c.fn 38 rfl) S
  obtain ⟨S, E6⟩ := Bool.and_eq_true_iff.mp E6
  have k38 : PySem.W.keepIn K (.ref 1016) = true := S
  obtain ⟨S, E6⟩ := Bool.and_eq_true_iff.mp E6
  have d39 : PySem.W.nsIn K mainGlobals "_law_table" = some (some (.ref 1021)) := He.eqO_ok S
  obtain ⟨S, E6⟩ := Bool.and_eq_true_iff.mp E6
  obtain ⟨_, kv39, _, _, cd39, _, _, _, _, l39, q39, kk39, oo39⟩ := HK.fn_ok (c.fn 39 rfl) S
  obtain ⟨S, E6⟩ := Bool.and_eq_true_iff.mp E6
  have k39 : PySem.W.keepIn K (.ref 1021) = true := S
  obtain ⟨S, E6⟩ := Bool.and_eq_true_iff.mp E6
  have d40 : PySem.W.nsIn K mainGlobals "_law_machine" = some (some (.ref 1026)) := He.eqO_ok S
  obtain ⟨S, E6⟩ := Bool.and_eq_true_iff.mp E6
  obtain ⟨_, kv40, _, _, cd40, _, _, _, _, l40, q40, kk40, oo40⟩ := HK.fn_ok (c.fn 40 rfl) S
  obtain ⟨S, E6⟩ := Bool.and_eq_true_iff.mp E6
  have k40 : PySem.W.keepIn K (.ref 1026) = true := S
  obtain ⟨S, E6⟩ := Bool.and_eq_true_iff.mp E6
  have d41 : PySem.W.nsIn K mainGlobals "_law_made_machine" = some (some (.ref 1033)) := He.eqO_ok S
  obtain ⟨S, E6⟩ := Bool.and_eq_true_iff.mp E6
  obtain ⟨_, kv41, _, _, cd41, _, _, _, _, l41, q41, kk41, oo41⟩ := HK.fn_ok (c.fn 41 rfl) S
  obtain ⟨S, E6⟩ := Bool.and_eq_true_iff.mp E6
  have k41 : PySem.W.keepIn K (.ref 1033) = true := S
  obtain ⟨E7, Y3⟩ := Bool.and_eq_true_iff.mp Y3
  have E7 : (He.eqO (PySem.W.nsIn K mainGlobals "_law_met") (some (some (.ref 1040))) && (HK.fnB K 1040 "_law_met" none none none && ((PySem.W.keepIn K (.ref 1040)) && (He.eqO (PySem.W.nsIn K mainGlobals "_law_pair_words") (some (some (.ref 1047))) && (HK.fnB K 1047 "_law_pair_words" none none (some 1046) && ((PySem.W.keepIn K (.ref 1047)) && (He.eqO (PySem.W.nsIn K mainGlobals "_law_more_right") (some (some (.ref 1054))) && (HK.fnB K 1054 "_law_more_right" none none (some 1053) && ((PySem.W.keepIn K (.ref 1054)) && (He.eqO (PySem.W.nsIn K mainGlobals "law") (some (some (.ref 1061))) && (HK.fnB K 1061 "law" none none (some 1060) && ((PySem.W.keepIn K (.ref 1061)) && (HK.fnB K 412 "Machine.__init__" (some 405) none none && ((PySem.W.keepIn K (.ref 412)) && (HK.fnB K 135 "InvalidNumber.__init__" none none none && ((PySem.W.keepIn K (.ref 135)) && (HK.fnB K 419 "Machine.letters" none none none && ((PySem.W.keepIn K (.ref 419)) && (HK.fnB K 427 "Machine.table" none none none && ((PySem.W.keepIn K (.ref 427)) && (HK.fnB K 514 "Machine.__contains__" none none none && ((PySem.W.keepIn K (.ref 514)) && (HK.fnB K 521 "Machine.__len__" none none none && ((PySem.W.keepIn K (.ref 521)) && (HK.oneB K 405 && ((PySem.W.codeHdIn K 1060 1056) && ((PySem.W.codeHdIn K 1053 1049) && ((PySem.W.codeHdIn K 1046 1042) && (HK.intB K mainGlobals "MAX_LETTERS" 3 && (HK.intB K mainGlobals "MAX_STATES" 4 && true)))))))))))))))))))))))))))))) = true := E7
  obtain ⟨S, E7⟩ := Bool.and_eq_true_iff.mp E7
  have d42 : PySem.W.nsIn K mainGlobals "_law_met" = some (some (.ref 1040)) := He.eqO_ok S
  obtain ⟨S, E7⟩ := Bool.and_eq_true_iff.mp E7
  obtain ⟨_, kv42, _, _, cd42, _, _, _, _, l42, q42, kk42, oo42⟩ := HK.fn_ok (c.fn 42 rfl) S
  obtain ⟨S, E7⟩ := Bool.and_eq_true_iff.mp E7
  have k42 : PySem.W.keepIn K (.ref 1040) = true := S
  obtain ⟨S, E7⟩ := Bool.and_eq_true_iff.mp E7
  have d43 : PySem.W.nsIn K mainGlobals "_law_pair_words" = some (some (.ref 1047)) := He.eqO_ok S
  obtain ⟨S, E7⟩ := Bool.and_eq_true_iff.mp E7
  obtain ⟨_, kv43, _, _, cd43, _, _, _, _, l43, q43, kk43, oo43⟩ := HK.fn_ok (c.fn 43 rfl) S
  have eo43 := oo43 _ rfl
  subst eo43
  obtain ⟨S, E7⟩ := Bool.and_eq_true_iff.mp E7
  have k43 : PySem.W.keepIn K (.ref 1047) = true := S
  obtain ⟨S, E7⟩ := Bool.and_eq_true_iff.mp E7
  have d44 : PySem.W.nsIn K mainGlobals "_law_more_right" = some (some (.ref 1054)) := He.eqO_ok S
  obtain ⟨S, E7⟩ := Bool.and_eq_true_iff.mp E7
  obtain ⟨_, kv44, _, _, cd44, _, _, _, _, l44, q44, kk44, oo44⟩ := HK.fn_ok (c.fn 44 rfl) S
  have eo44 := oo44 _ rfl
  subst eo44
  obtain ⟨S, E7⟩ := Bool.and_eq_true_iff.mp E7
  have k44 : PySem.W.keepIn K (.ref 1054) = true := S
  obtain ⟨S, E7⟩ := Bool.and_eq_true_iff.mp E7
  have d45 : PySem.W.nsIn K mainGlobals "law" = some (some (.ref 1061)) := He.eqO_ok S
  obtain ⟨S, E7⟩ := Bool.and_eq_true_iff.mp E7
  obtain ⟨_, kv45, _, _, cd45, _, _, _, _, l45, q45, kk45, oo45⟩ := HK.fn_ok (c.fn 45 rfl) S
  have eo45 := oo45 _ rfl
  subst eo45
  obtain ⟨S, E7⟩ := Bool.and_eq_true_iff.mp E7
  have k45 : PySem.W.keepIn K (.ref 1061) = true := S
  obtain ⟨S, E7⟩ := Bool.and_eq_true_iff.mp E7
  obtain ⟨_, kv46, _, _, cd46, _, _, _, _, l46, q46, kk46, oo46⟩ := HK.fn_ok (c.fn 46 rfl) S
  obtain ⟨S, E7⟩ := Bool.and_eq_true_iff.mp E7
  have k46 : PySem.W.keepIn K (.ref 412) = true := S
  obtain ⟨S, E7⟩ := Bool.and_eq_true_iff.mp E7
  obtain ⟨_, kv47, _, _, cd47, _, _, _, _, l47, q47, kk47, oo47⟩ := HK.fn_ok (c.fn 47 rfl) S
  obtain ⟨S, E7⟩ := Bool.and_eq_true_iff.mp E7
  have k47 : PySem.W.keepIn K (.ref 135) = true := S
  obtain ⟨S, E7⟩ := Bool.and_eq_true_iff.mp E7
  obtain ⟨_, kv48, _, _, cd48, _, _, _, _, l48, q48, kk48, oo48⟩ := HK.fn_ok (c.fn 48 rfl) S
  obtain ⟨S, E7⟩ := Bool.and_eq_true_iff.mp E7
  have k48 : PySem.W.keepIn K (.ref 419) = true := S
  obtain ⟨S, E7⟩ := Bool.and_eq_true_iff.mp E7
  obtain ⟨_, kv49, _, _, cd49, _, _, _, _, l49, q49, kk49, oo49⟩ := HK.fn_ok (c.fn 49 rfl) S
  obtain ⟨S, E7⟩ := Bool.and_eq_true_iff.mp E7
  have k49 : PySem.W.keepIn K (.ref 427) = true := S
  obtain ⟨S, E7⟩ := Bool.and_eq_true_iff.mp E7
  obtain ⟨_, kv50, _, _, cd50, _, _, _, _, l50, q50, kk50, oo50⟩ := HK.fn_ok (c.fn 50 rfl) S
  obtain ⟨S, E7⟩ := Bool.and_eq_true_iff.mp E7
  have k50 : PySem.W.keepIn K (.ref 514) = true := S
  obtain ⟨S, E7⟩ := Bool.and_eq_true_iff.mp E7
  obtain ⟨_, kv51, _, _, cd51, _, _, _, _, l51, q51, kk51, oo51⟩ := HK.fn_ok (c.fn 51 rfl) S
  obtain ⟨S, E7⟩ := Bool.and_eq_true_iff.mp E7
  have k51 : PySem.W.keepIn K (.ref 521) = true := S
  obtain ⟨S, E7⟩ := Bool.and_eq_true_iff.mp E7
  obtain ⟨_, _, _, _, _, y46⟩ := HK.one_ns S
  obtain ⟨S, E7⟩ := Bool.and_eq_true_iff.mp E7
  have hCL : PySem.W.codeHdIn K 1060 1056 = true := S
  obtain ⟨S, E7⟩ := Bool.and_eq_true_iff.mp E7
  have hCE : PySem.W.codeHdIn K 1053 1049 = true := S
  obtain ⟨S, E7⟩ := Bool.and_eq_true_iff.mp E7
  have hCD : PySem.W.codeHdIn K 1046 1042 = true := S
  obtain ⟨S, E7⟩ := Bool.and_eq_true_iff.mp E7
  obtain ⟨_, vMAX_LETTERS⟩ := HK.int_ns S
  obtain ⟨S, E7⟩ := Bool.and_eq_true_iff.mp E7
  obtain ⟨_, vMAX_STATES⟩ := HK.int_ns S
  obtain ⟨E8, Y4⟩ := Bool.and_eq_true_iff.mp Y4
  have E8 : (HK.intB K mainGlobals "MAX_PIECES" 3 && (HK.intB K mainGlobals "_MAX_OF_THREE" 2 && (HK.intB K mainGlobals "MAX_STEPS" 60 && (HK.intB K mainGlobals "_MAX_MADE" 20 && (He.eqO (PySem.W.nsIn K mainGlobals "len") (some none) && (He.eqO (PySem.W.nsIn K mainGlobals "int") (some none) && (He.eqO (PySem.W.nsIn K mainGlobals "abs") (some none) && (He.eqO (PySem.W.nsIn K mainGlobals "isinstance") (some none) && (He.eqO (PySem.W.nsIn K mainGlobals "bool") (some none) && (He.eqO (PySem.W.nsIn K mainGlobals "str") (some none) && (He.eqO (PySem.W.nsIn K mainGlobals "all") (some none) && (He.eqO (PySem.W.nsIn K mainGlobals "range") (some none) && (He.eqO (PySem.W.nsIn K mainGlobals "sorted") (some none) && (He.eqO (PySem.W.nsIn K mainGlobals "set") (some none) && (He.eqO (PySem.W.nsIn K mainGlobals "tuple") (some none) && (He.eqO (PySem.W.nsIn K mainGlobals "list") (some none) && (He.eqO (PySem.W.nsIn K mainGlobals "max") (some none) && (He.eqO (PySem.W.nsIn K mainGlobals "min") (some none) && (He.eqO (PySem.W.nsIn K mainGlobals "zip") (some none) && (He.eqO (PySem.W.nsIn K mainGlobals "repr") (some none) && (He.eqO (PySem.W.nsIn K mainGlobals "enumerate") (some none) && true))))))))))))))))))))) = true := E8
  obtain ⟨S, E8⟩ := Bool.and_eq_true_iff.mp E8
  obtain ⟨_, vMAX_PIECES⟩ := HK.int_ns S
  obtain ⟨S, E8⟩ := Bool.and_eq_true_iff.mp E8
  obtain ⟨_, v_MAX_OF_THREE⟩ := HK.int_ns S
  obtain ⟨S, E8⟩ := Bool.and_eq_true_iff.mp E8
  obtain ⟨_, vMAX_STEPS⟩ := HK.int_ns S
  obtain ⟨S, E8⟩ := Bool.and_eq_true_iff.mp E8
  obtain ⟨_, v_MAX_MADE⟩ := HK.int_ns S
  obtain ⟨S, E8⟩ := Bool.and_eq_true_iff.mp E8
  have z_len : PySem.W.nsIn K mainGlobals "len" = some none := He.eqO_ok S
  obtain ⟨S, E8⟩ := Bool.and_eq_true_iff.mp E8
  have z_int : PySem.W.nsIn K mainGlobals "int" = some none := He.eqO_ok S
  obtain ⟨S, E8⟩ := Bool.and_eq_true_iff.mp E8
  have z_abs : PySem.W.nsIn K mainGlobals "abs" = some none := He.eqO_ok S
  obtain ⟨S, E8⟩ := Bool.and_eq_true_iff.mp E8
  have z_isinstance : PySem.W.nsIn K mainGlobals "isinstance" = some none := He.eqO_ok S
  obtain ⟨S, E8⟩ := Bool.and_eq_true_iff.mp E8
  have z_bool : PySem.W.nsIn K mainGlobals "bool" = some none := He.eqO_ok S
  obtain ⟨S, E8⟩ := Bool.and_eq_true_iff.mp E8
  have z_str : PySem.W.nsIn K mainGlobals "str" = some none := He.eqO_ok S
  obtain ⟨S, E8⟩ := Bool.and_eq_true_iff.mp E8
  have z_all : PySem.W.nsIn K mainGlobals "all" = some none := He.eqO_ok S
  obtain ⟨S, E8⟩ := Bool.and_eq_true_iff.mp E8
  have z_range : PySem.W.nsIn K mainGlobals "range" = some none := He.eqO_ok S
  obtain ⟨S, E8⟩ := Bool.and_eq_true_iff.mp E8
  have z_sorted : PySem.W.nsIn K mainGlobals "sorted" = some none := He.eqO_ok S
  obtain ⟨S, E8⟩ := Bool.and_eq_true_iff.mp E8
  have z_set : PySem.W.nsIn K mainGlobals "set" = some none := He.eqO_ok S
  obtain ⟨S, E8⟩ := Bool.and_eq_true_iff.mp E8
  have z_tuple : PySem.W.nsIn K mainGlobals "tuple" = some none := He.eqO_ok S
  obtain ⟨S, E8⟩ := Bool.and_eq_true_iff.mp E8
  have z_list : PySem.W.nsIn K mainGlobals "list" = some none := He.eqO_ok S
  obtain ⟨S, E8⟩ := Bool.and_eq_true_iff.mp E8
  have z_max : PySem.W.nsIn K mainGlobals "max" = some none := He.eqO_ok S
  obtain ⟨S, E8⟩ := Bool.and_eq_true_iff.mp E8
  have z_min : PySem.W.nsIn K mainGlobals "min" = some none := He.eqO_ok S
  obtain ⟨S, E8⟩ := Bool.and_eq_true_iff.mp E8
  have z_zip : PySem.W.nsIn K mainGlobals "zip" = some none := He.eqO_ok S
  obtain ⟨S, E8⟩ := Bool.and_eq_true_iff.mp E8
  have z_repr : PySem.W.nsIn K mainGlobals "repr" = some none := He.eqO_ok S
  obtain ⟨S, E8⟩ := Bool.and_eq_true_iff.mp E8
  have z_enumerate : PySem.W.nsIn K mainGlobals "enumerate" = some none := He.eqO_ok S
  have hPL := (c.tab 1056 (.head _)).1
  have nPL := (c.tab 1056 (.head _)).2
  have hPE := (c.tab 1049 (.tail _ (.head _))).1
  have nPE := (c.tab 1049 (.tail _ (.head _))).2
  have hPD := (c.tab 1042 (.tail _ (.tail _ (.head _)))).1
  have nPD := (c.tab 1042 (.tail _ (.tail _ (.head _)))).2
  have un : (decide ([1056, 1049, 1042].Nodup)) = true := by decide
  exact all_mk c.In G hfa gd gm geW geM geB geO geP geU geN geT geX geR pgm hdm pom sam ccm obm mkm kCm im nim ncm kim ktm cn ct nMT nML nME paml pg_ml pt_ml pr_ml pamt pg_mt pt_mt pr_mt a50 n50 a51 n51 kitD xeM keM beM teM xeO keO beO teO ebN noN eiN teN ebR noR x_ww x_mw x_mm x_bw x_bm x_bb x_ow x_om x_ob x_oo x_nw x_nm x_nb x_no x_np x_nu x_nn x_rw x_rm x_rb x_ro x_rp x_ru x_rn x_rt x_rx x_rr d0 l0 q0 k0 d1 l1 q1 k1 d2 l2 q2 k2 d3 l3 q3 k3 d4 l4 q4 k4 d5 l5 q5 k5 d6 l6 q6 k6 d7 l7 q7 k7 d8 l8 q8 k8 d9 l9 q9 k9 d10 l10 q10 k10 d11 l11 q11 k11 d12 l12 q12 k12 d13 l13 q13 k13 d14 l14 q14 k14 d15 l15 q15 k15 d16 l16 q16 k16 d17 l17 q17 k17 d18 l18 q18 k18 d19 l19 q19 k19 d20 l20 q20 k20 d21 l21 q21 k21 d22 l22 q22 k22 d23 l23 q23 k23 d24 l24 q24 k24 d25 l25 q25 k25 d26 l26 q26 k26 d27 l27 q27 k27 d28 l28 q28 k28 d29 l29 q29 k29 d30 l30 q30 k30 d31 l31 q31 k31 d32 l32 q32 k32 d33 l33 q33 k33 d34 l34 q34 k34 d35 l35 q35 k35 d36 l36 q36 k36 d37 l37 q37 k37 d38 l38 q38 k38 d39 l39 q39 k39 d40 l40 q40 k40 d41 l41 q41 k41 d42 l42 q42 k42 d43 l43 q43 k43 d44 l44 q44 k44 d45 l45 q45 k45 l46 q46 k46 l47 q47 k47 l48 q48 k48 l49 q49 k49 l50 q50 k50 l51 q51 k51 y46 hPL nPL hCL hPE nPE hCE hPD nPD hCD un vMAX_LETTERS vMAX_STATES vMAX_PIECES v_MAX_OF_THREE vMAX_STEPS v_MAX_MADE z_len z_int z_abs z_isinstance z_bool z_str z_all z_range z_sorted z_set z_tuple z_list z_max z_min z_zip z_repr z_enumerate
end WK
open PySem PySem.W PySem.Calls PyProof.Rows
theorem PySem.Challenge.cw_watchkinds_k25_errors_of_pieces_holds : PySem.Challenge.rw_watchkinds_k25_errors_of_pieces.Holds := by
  w_on; o_law
  refine HandSHeadRun.head_any (r := WK.Rw) (q := view WK.Rw.prog [118]) (H := WK.hkAll) (ob := WK.obAll) (M := 9000) (loose := WK.nmAll) (d := HandSHeadRun.topDef WK.Rw.prog 118) (kwd := []) WK.obAll_eq (by kernel_rfl) (fun s => by kernel_rfl) WK.runAll (by kernel_rfl) (by kernel_rfl) (by kernel_rfl) (by rfl) (by first | assumption | decide +kernel) (by decide +kernel) ⟨rfl, rfl, rfl, rfl, rfl, by decide +kernel⟩ ?hw ?hc
  case hw => w_witness2
  case hc =>
    refine WG.walkGTE (l := PySem.Challenge.rw_watchkinds_k25_errors_of_pieces) (n := 63) (k := 16) (x := "_law_script") rfl (by decide) (by kernel_rfl) ⟨rfl, by decide, by decide⟩ ?F
    intro w mg fa h Y G hmg
    obtain ⟨K, c⟩ := Y
    have e : (HandSHeadRun.topDef WK.Rw.prog 118).name = ("law" : PySem.Str) := by kernel_rfl
    rw [e] at hmg
    exact ⟨K, c.In, WK.facts c G hmg⟩
#print axioms PySem.Challenge.cw_watchkinds_k25_errors_of_pieces_holds
